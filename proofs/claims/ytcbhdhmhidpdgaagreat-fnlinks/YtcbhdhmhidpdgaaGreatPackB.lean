import Derived.Test.YtcbhdhmhidpdgaaGreatPackA
namespace Go.Proofs.YtcbhdhmhidpdgaaGreat
open Go.RowKit
theorem aCs {w wr:World}{g n k:Nat}{l m:List Int}(hl:l.length=n)(hm:m.length=n)(hk:k<n)(hB:w.heap.size<=g)
  (Ak:wr.ownsRow w.heap.size 5 1 (.slice (some ⟨g,0,none⟩) n n) n ((l.take k++m.drop k).map (Value.int .u8))) (hb:Below w.heap.size w wr):
  (wr.setCell ⟨g,k,none⟩ (.int .u8 (l[k]?.getD 0))).ownsRow w.heap.size 5 1 (.slice (some ⟨g,0,none⟩) n n) n ((l.take (k+1)++m.drop (k+1)).map (Value.int .u8))/\Below w.heap.size w (wr.setCell ⟨g,k,none⟩ (.int .u8 (l[k]?.getD 0))):=by
 refine⟨?_,hb.setCell hB _⟩;have:=(Ak.stored k (.int .u8 (l[k]?.getD 0))).1;rwa [aPc _ _ _ _ A0 A0]at this
def aV3 (k n:Nat):List Int:=(List.range n).map fun i=>(((k+i) % 256:Nat):Int)
section
variable{l:List Int}{base:Nat}{v:Value}{w w':World}
def aF6 (w:World)(a:Option Addr)(n:Nat)(l:List Int):Prop:=
 l.length=n/\(∀x ∈ l, -9223372036854775808<=x/\x<=9223372036854775807)/\(0<n->∃b off,a=some ⟨b,off,none⟩/\∀i,i<n->w.cell? ⟨b,off+i,none⟩=some (.int .i64 (l[i]?.getD 0)))
theorem aF6.below{a:Option Addr}{n:Nat}(h:aF6 w a n l)(hb:Below w.heap.size w w'):aF6 w' a n l:=by
 exact QA67
def aN7 (w:World)(base:Nat)(v:Value)(n:Nat)(l:List Int):Prop:=
 w.ownsRow base 3 1 v n (l.map (Value.int .i64))/\∀x ∈ l, -9223372036854775808<=x/\x<=9223372036854775807
theorem aN7.below{n:Nat}(h:aN7 w base v n l)(hb:Below w.heap.size w w'):aN7 w' base v n l:=by
 exact QA58
theorem aN7.shape{n:Nat}(h:aN7 w base v n l):
  ∃a c,v=.slice a n c/\n<=c/\c<=maxLen/\aF6 w a n l/\∀k,v.ownBlock=some k->base<=k/\k<w.heap.size:=by
 have Ad:=h.1.lt;exact QA21
theorem aTl:(Tryz.prog.info? 3).map (fun i=>(i.zero,i.size,i.bytes))=some (some (.int .i64 0),1,8):=by kernel_rfl
end
end Go.Proofs.YtcbhdhmhidpdgaaGreat
