import Derived.Test.YtcbhdhmhidpdgaaGreatDoorPackQ
namespace Go.Proofs.YtcbhdhmhidpdgaaGreatDoor
open Go.RowKit
set_option linter.unusedVariables false
set_option linter.unusedSimpArgs false
set_option maxRecDepth 100000
section
namespace Eg
section
variable {C:Cx} {U U':Value->Prop} {G G':Cfg} {A J:AS} {e eb e' eb':Nat} {ρ0:Nat->Value} {β0:Nat->Nat} {τ τ' τ1 τ2:Sm} {V:Vl} {a:Act} {w w1 w2:World} {K:List Nat} {Q:Exit->Act->World->Prop}
theorem Fr.trans2 (h:Fr C τ1 w1)(h2:Fr ⟨true,K,τ1,w1⟩ τ2 w2)(hK:∀b ∈ K,b<C.w0.heap.size->b ∈ C.K):Fr C τ2 w2:=
 ⟨h2.th,h.sub.trans h2.sub,h2.os.trans h.os,h2.tape.trans h.tape,h2.output.trans h.output,zF2 h.size h2.size,fun b hb hn=>h2.non b (Nat.lt_of_lt_of_le hb h.size) (h.non b hb hn),
  fun b hb hn hk=>(h2.blk b (Nat.lt_of_lt_of_le hb h.size) (h.non b hb hn) (fun hm=>hk (hK b hm hb))).trans (h.blk b hb hn hk),
  fun hst b hb hn=>by
   obtain⟨e1,e2⟩:=h.str hst b hb hn;obtain⟨e3,e4⟩:=h2.str rfl b (Nat.lt_of_lt_of_le hb h.size) (by show τ1 b ≠ none;rw[e1];exact hn);exact⟨e3.trans e1,e4.trans e2⟩⟩
theorem Hs.again (h:Hs C U G e eb ρ0 β0 A τ V a w)(hK:∀n,n<A.bk.length->V.β n ∈ K)(hK':∀b ∈ K,∃n,n<A.bk.length/\b=V.β n)(hA:∀s f,at? A.sy s=some f->f.own=false/\f.un=false)(he:e'<=A.sy.length)(heb:eb'<=A.bk.length)(Ht:a.tmps.size=G'.nt):Hs ⟨true,K,τ,w⟩ U' G' e' eb' V.ρ V.β A τ V a w:=by
 have k:=h.kn;refine⟨⟨Fr.refl k.fr.th,fun s f hf hs=>?_,k.sc,fun n x hx hn=>?_,k.bc,k.dj,fun n hx hn=>?_,k.tg,k.cu⟩,h.sl,h.cf,fun _ _=>rfl,he,fun _ _=>rfl,heb,Ht,h.df,fun _ h9=>h9⟩
 .
  obtain⟨q1,q2,q3,_,_,q6,q7⟩:=k.sy s f hf hs;obtain⟨o1,o2⟩:=hA s f hf;exact⟨q1,q2,q3,(fun h9=>by rw[o1]at h9;cases h9),(fun h9=>by rw[o2]at h9;cases h9),q6,q7⟩
 .
  obtain⟨q1,q2,q3,_⟩:=k.bk n x hx hn;exact⟨q1,q2,q3,.inl (hK n hn)⟩
 .
  obtain⟨q1,q2⟩:=k.lo n hx hn;refine⟨Nat.le_of_lt (k.bk n _ hx hn).2.2.1,fun b hb=>⟨(q2 b hb).1,fun hm=>?_⟩⟩;obtain⟨m,Ez,rfl⟩:=hK' b hm;obtain⟨y,hy⟩:∃y,at? A.bk m=some y:=by rw[dM];exact⟨_,zA0 Ez⟩
  by_cases e9:m=n
  .
   subst e9;exact Nat.lt_irrefl _ hb
  .
   have:=k.low hx hn hy Ez e9;omega
def nI (G:Cfg)(eb e:Nat)(c:Code)(A J:AS)(x:Option (Nat × AS)):Bool:=match nR G eb e 100 c A with
 | some l=>l.all fun p=>match p.1 with
  | .normal=>le eb e J p.2 (aGz e J p.2)| .exit i=>(match x with|some (j,J')=>i == j && le eb e J' p.2 (aGz e J' p.2)|none=>false)
  | .ret=>false
 | none=>false
theorem nV (hE:Env C U G e eb ρ0){c:Code}{x:Option (Nat × AS)}(h:nI G eb e c A J x=true)(hs:Hs C U G e eb ρ0 β0 A τ V a w)(hn:∀τ V a w,Hs C U G e eb ρ0 β0 J τ V a w->Q .normal a w)(hx:∀j J',x=some (j,J')->∀τ V a w,Hs C U G e eb ρ0 β0 J' τ V a w->Q (.exit j) a w):c.wp Tryz.prog Q a w:=by
 unfold nI at h;split at h
 .
  rename_i l hl;refine xM hE 100 c A l τ V a w Q hl hs ?_;rintro y a' w' ⟨p,hp,hm,τ2,V2,De⟩;have h1:=zF3.1 h p hp;obtain⟨px,pa⟩:=p;cases px with
  | normal=>
   cases y <;> first|exact hm.elim|skip
   obtain⟨V3,h3⟩:=aLa h1 De;exact hn _ V3 _ _ h3
  | exit i=>
   cases y <;> first|exact hm.elim|skip
   rename_i j;have hm:i=j:=hm;subst hm;simp only at h1;split at h1
   .
    rename_i j' J';simp only[zC0,beq_iff_eq]at h1;obtain⟨rfl,h1⟩:=h1;obtain⟨V3,h3⟩:=aLa h1 De;exact hx _ _ rfl _ V3 _ _ h3
   .
    cases h1
  | ret=>cases h1
 .
  cases h
end
end Eg
end
namespace Eg
def aMu (f:Func):Code:=match f.body with
 | some (.seq _ (.seq _ (.seq _ (.seq (.seq _ (.block _ (.loop (.seq _ (.seq (.block _ (.seq _ (.cond _ b _))) _))))) _))))=>b| _=>.skip
theorem aH7 {f:Operand->Value}{d:Option Nat}{ty:TypeId}{pos:String}{aft:Array Edge}{gd:Option (Nat × Bool)}{x y:Operand}{T:TypeId}{W:World}:(execOp f ⟨d,.call { callee:=.builtin .append,args:=#[x,y],argTypes:=#[T,T] },ty,pos,aft,gd⟩).run Tryz.prog W=((Builtin.append_ #[T,T] ty #[f x,f y]).run Tryz.prog W).andThen fun v w=>.ok (.value v) w:=by
 simp only[execOp,resolve,invoke,builtin,Sem.run_bind,Sem.run_pure,Result.andThen_ok,List.map_toArray,zH2,List.map_nil]
def nQ (R:Act->World->Prop):Exit->Act->World->Prop
 | .normal,a,w=>R a w| _,_,_=>False
set_option maxHeartbeats 4000000 in
theorem r7 {u0 u1 u3 u4 u5 u6 u7 u8 u9 u10 u13 u14 u15 u16 u17 u18 u19 u20 u21 u22 u23 u24 u25 u26 u27 u28 u29 u30 u31 u32 u33 u34 u35 u36 u37 u38 u39 u40 u41 u42 u43 u44 u45 u46 u47 u48 u49 u50 u51 u52 u53 u54 u55 u56 u57 u58 u59 u60 u61 u62 u63 u64 u65 u66 u67 u68 u69 u70 u71 u72 u73 u74 u75 u76 u77 u78 u79 u80 u81 u82 u83 u84 u85 u86 u87 u88 u89 u90 u91 u92 u93 u94 u95 u96 u97 u98 u99 u100 u101 u102 u103 u104 u105 u106 u107 u108 u109 u110 u111 u112 u113 u114 u115 u116 u117 u118 u119 u120 u121 u122 u123 u124 u125 u126 u127 u128 u129 u130 u131 u132 u133 u134 u135 u136 u137 u138 u139 u140 u141 u142 u143 u144 u145 u146 u147 u148 u149 u150 u151 u152 u153 u154 u155 u156 u157 u158 u159 u160 u161 u162 u163 u164 u165 u166 u167 u168 u169 u170 u171 u172 u173 u174 u175 u176 u177 u178 u179 u180 u181 u182 u183 u184 u185 u186 u187 u188 u189 u190 u191 u192 u193 u194 u195 u196 u197 u198 u199 u200 u201 u202 u203 u204 u205 u206 u207 u208 u209 u210 u211 u212 u213 u214 u215 u216 u217 u218 u219 u220 u221 u222 u223 u224 u225 u226 u227 u228 u229 u230 u231 u232 u233 u234 u235 u236 u237 u238 u239 u240 u241 u242 u243 u244 u245 u246 u247 u248 u249 u250 u251 u252 u253 u254 u255 u256 u257 u258 u259 u260 u261 u262 u263 u264 u265 u266 u267 u268 u269 u270 u271 u272 u273 u274 u275 u276 u277 u278 u279 u280 u281 u282 u283 u284 u285 u286 u287 u288:Value}(bf jo nf cf gb i:Nat)(uv:Value)(an va:Option Addr)(nn cn vn vc:Nat)(w w1:World)(R:Act->World->Prop)(hi:i<nf)(Is:w.drew.cell? ⟨gb,3,none⟩=some uv)(Jz:w.drew.cell? ⟨bf,jo+i*2,none⟩=some (.slice an nn cn))
  (happ:(Builtin.append_ #[82,82] 82 #[uv,.slice (some ⟨w.heap.size,0,none⟩) 1 1]).run Tryz.prog (w.drew.alloc (.cells #[.slice an nn cn] 22 (0,0)))=.ok (.slice va vn vc) w1)
  (hA1:(w.drew.alloc (.cells #[.slice an nn cn] 22 (0,0))).cell? ⟨gb,3,none⟩=some uv) (hA2:(w.drew.alloc (.cells #[.slice an nn cn] 22 (0,0))).cell? ⟨bf,jo+i*2,none⟩=some (.slice an nn cn))
  (Wu:w1.cell? ⟨gb,3,none⟩=some uv) (Wt:w1.cell? ⟨bf,jo+i*2,none⟩=some (.slice an nn cn)) (hB3:w1.frozen? ⟨gb,3,none⟩=false)
  (hQ:∀a':Act,a'.defers=[]->a'.tmps.size=289->(∀t,t ∈ [0,1,2,3,4,10,11,12]->a'.eval (.tmp t)=Act.eval { tmps:=#[u0,u1,.slice (some ⟨bf,jo,none⟩) nf cf,u3,u4,u5,u6,u7,u8,u9,u10,.pointer (some ⟨gb,0,none⟩),.int .i64 i,u13,u14,u15,u16,u17,u18,u19,u20,u21,u22,u23,u24,u25,u26,u27,u28,u29,u30,u31,u32,u33,u34,u35,u36,u37,u38,u39,u40,u41,u42,u43,u44,u45,u46,u47,u48,u49,u50,u51,u52,u53,u54,u55,u56,u57,u58,u59,u60,u61,u62,u63,u64,u65,u66,u67,u68,u69,u70,u71,u72,u73,u74,u75,u76,u77,u78,u79,u80,u81,u82,u83,u84,u85,u86,u87,u88,u89,u90,u91,u92,u93,u94,u95,u96,u97,u98,u99,u100,u101,u102,u103,u104,u105,u106,u107,u108,u109,u110,u111,u112,u113,u114,u115,u116,u117,u118,u119,u120,u121,u122,u123,u124,u125,u126,u127,u128,u129,u130,u131,u132,u133,u134,u135,u136,u137,u138,u139,u140,u141,u142,u143,u144,u145,u146,u147,u148,u149,u150,u151,u152,u153,u154,u155,u156,u157,u158,u159,u160,u161,u162,u163,u164,u165,u166,u167,u168,u169,u170,u171,u172,u173,u174,u175,u176,u177,u178,u179,u180,u181,u182,u183,u184,u185,u186,u187,u188,u189,u190,u191,u192,u193,u194,u195,u196,u197,u198,u199,u200,u201,u202,u203,u204,u205,u206,u207,u208,u209,u210,u211,u212,u213,u214,u215,u216,u217,u218,u219,u220,u221,u222,u223,u224,u225,u226,u227,u228,u229,u230,u231,u232,u233,u234,u235,u236,u237,u238,u239,u240,u241,u242,u243,u244,u245,u246,u247,u248,u249,u250,u251,u252,u253,u254,u255,u256,u257,u258,u259,u260,u261,u262,u263,u264,u265,u266,u267,u268,u269,u270,u271,u272,u273,u274,u275,u276,u277,u278,u279,u280,u281,u282,u283,u284,u285,u286,u287,u288],defers:=[] } (.tmp t))->R a' (w1.setCell ⟨gb,3,none⟩ (.slice va vn vc))):
  (aMu Tryz.f50).wp Tryz.prog (nQ R) { tmps:=#[u0,u1,.slice (some ⟨bf,jo,none⟩) nf cf,u3,u4,u5,u6,u7,u8,u9,u10,.pointer (some ⟨gb,0,none⟩),.int .i64 i,u13,u14,u15,u16,u17,u18,u19,u20,u21,u22,u23,u24,u25,u26,u27,u28,u29,u30,u31,u32,u33,u34,u35,u36,u37,u38,u39,u40,u41,u42,u43,u44,u45,u46,u47,u48,u49,u50,u51,u52,u53,u54,u55,u56,u57,u58,u59,u60,u61,u62,u63,u64,u65,u66,u67,u68,u69,u70,u71,u72,u73,u74,u75,u76,u77,u78,u79,u80,u81,u82,u83,u84,u85,u86,u87,u88,u89,u90,u91,u92,u93,u94,u95,u96,u97,u98,u99,u100,u101,u102,u103,u104,u105,u106,u107,u108,u109,u110,u111,u112,u113,u114,u115,u116,u117,u118,u119,u120,u121,u122,u123,u124,u125,u126,u127,u128,u129,u130,u131,u132,u133,u134,u135,u136,u137,u138,u139,u140,u141,u142,u143,u144,u145,u146,u147,u148,u149,u150,u151,u152,u153,u154,u155,u156,u157,u158,u159,u160,u161,u162,u163,u164,u165,u166,u167,u168,u169,u170,u171,u172,u173,u174,u175,u176,u177,u178,u179,u180,u181,u182,u183,u184,u185,u186,u187,u188,u189,u190,u191,u192,u193,u194,u195,u196,u197,u198,u199,u200,u201,u202,u203,u204,u205,u206,u207,u208,u209,u210,u211,u212,u213,u214,u215,u216,u217,u218,u219,u220,u221,u222,u223,u224,u225,u226,u227,u228,u229,u230,u231,u232,u233,u234,u235,u236,u237,u238,u239,u240,u241,u242,u243,u244,u245,u246,u247,u248,u249,u250,u251,u252,u253,u254,u255,u256,u257,u258,u259,u260,u261,u262,u263,u264,u265,u266,u267,u268,u269,u270,u271,u272,u273,u274,u275,u276,u277,u278,u279,u280,u281,u282,u283,u284,u285,u286,u287,u288],defers:=[] } w:=by
 dsimp only [aMu,Tryz.f50];refine rl 16 (S:=fun wl=>wl.cell? ⟨gb,3,none⟩=some uv/\wl.cell? ⟨bf,jo+i*2,none⟩=some (.slice an nn cn)) A1 ⟨Is,Jz⟩ (fun Aa=>?_);refine la 0 ?_;refine la 1 ?_;refine la 2 ?_;try simp only[nrm]
 refine la 3 ?_;refine la 4 ?_;refine la 5 ?_;try simp only[nrm]
 refine la 6 ?_;refine la 7 ?_;refine la 8 ?_;try simp only[nrm]
 refine la 9 ?_;refine la 10 ?_;try simp only[nrm]
 refine da 11 fun K hK=>?_;go_simp;refine hK.out _ _ ⟨hA1,hA2⟩ (fun Aa=>?_);clear hK K;try simp only[nrm]
 refine da 12 fun K hK=>?_;rw[if_pos A1];refine aIu (v:=.slice va vn vc) (w':=w1) ?_ ?_
 .
  have happ2:(((Builtin.append_ #[82,82] 82 #[uv,.slice (some ⟨w.heap.size,0,none⟩) 1 1]).run Tryz.prog (w.drew.alloc (.cells #[.slice an nn cn] 22 (0,0)))).andThen fun v w=>Result.ok (Next.value v) w)=.ok (.value (.slice va vn vc)) w1:=by rw[happ];rfl
  exact aH7.trans happ2
 refine hK.out _ _ ⟨Wu,Wt⟩ (fun Aa=>?_);clear hK K;try simp only[nrm]
 refine da 13 fun K hK=>?_;go_simp;refine hK.out _ _ ⟨Wu,Wt⟩ (fun Aa=>?_);clear hK K;try simp only[nrm]
 refine da 14 fun K hK=>?_;go_simp;refine hK.out _ _ ⟨Wu,Wt⟩ (fun Aa=>?_);clear hK K;try simp only[nrm]
 refine la 15 ?_;try simp only[nrm]
 refine ea fun K hK=>?_;go_simp;refine hK.out _ _ ?_;show R _ _
 refine hQ _ rfl rfl (fun t ht=>?_);simp only[zG3,List.not_mem_nil,or_false]at ht;rcases ht with rfl|rfl|rfl|rfl|rfl|rfl|rfl|rfl <;> rfl
end Eg
section
namespace Eg
def pc (k:Nat)(f:Func):Code:=match f.body with
 | some (.seq r0 (.seq r1 (.seq r2 (.seq (.seq r3 (.block _ (.loop (.seq r4 (.seq (.block _ (.seq r6 (.cond _ r7 _))) r5))))) r8))))=>(match k with|0=>r0|1=>r1|2=>r2|3=>r3|4=>r4|5=>r5|6=>r6|7=>r7|_=>r8)
 | _=>.skip
def gM (us:Bool):Cfg:=⟨true,us,[0,1,2,3,4,10,11,12,13,14,15,16,17,18,19,20,21,22,37,42,63,93,111,152,177,207,219,263],[],[(22,.bt),(82,.rc 0),(83,.rc 1),(84,.rc 12),(132,.rc 2),(133,.rc 11),(174,.rc 8)],if us then [dU,eP,cEx 2 2 8,sW 5 2 11] else [dU],289⟩
def bM:Bk:=.cells 86 [.nil,.nil,.nil,.nil]
def bG (nv uv:CV):Bk:=.cells 170 [.ptr 0 0,.sl 0,nv,uv,.nil,.nil,.nil,.nil,.int 0 0,.int mn mx,.bl [] []]
def aS (lo:Nat)(r:List (Nat × AV)):AS:=⟨(0,.c (.ptr 0 0)) :: (2,.c (.sl 0)) :: (3,.c (.bl [] [])) :: (4,.c (.bl [] [])) :: (10,.c (.ptr 1 0)) :: (11,.c (.ptr 2 0)) :: r,[sf (.rc 4) lo 2 false,sf (.rc 0) 0 2 false,sf .bt 0 4 false],[.cur,bM,bG (.sl 2) (.sl 1)],0,[],[],true⟩
def aI (i:Nat):List (Nat × AV):=[(12,.c (.int i i))]
def aJ (i:Nat):List (Nat × AV):=[(12,.c (.int i i)),(42,.c (.bl [] []))]
structure Lp (C0:Cx) (fv:Value) (cb k:Nat) (A:AS) (τ:Sm) (V:Vl) (a:Act) (w:World):Prop where
 hs:Hs ⟨true,[V.β 0,V.β 1,V.β 2],τ,w⟩ (fun _=>True) (gM false) 3 3 V.ρ V.β A τ V a w
 fr:Fr C0 τ w
 b0:V.β 0=cb
 b1:C0.w0.heap.size<=V.β 1
 b2:C0.w0.heap.size<=V.β 2
 r0:V.ρ 0=fv
 own:∃n xs,n<=k/\w.ownsRow C0.w0.heap.size 22 1 (V.ρ 1) n xs/\∀x ∈ xs,Us fv w x
 tq:Tg C0.τ0->Tg τ
section
variable {C0:Cx} {fv:Value} {cb k:Nat} {A J:AS} {τ τ':Sm} {V:Vl} {a:Act} {w w':World} {Q:Exit->Act->World->Prop}
theorem aQ5 {K:List Nat}{n:Nat}{x:Value}(hT:TH τ w)(Og:Fr ⟨true,K,τ,w⟩ τ' w')(hf:SV τ (.rc 4) n fv)(h:Us fv w x):Us fv w' x:=by
 obtain⟨b,o,m,c,j,e,hj,hc⟩:=h;refine⟨b,o,m,c,j,e,hj,(World.cell?_of_block ?_).trans hc⟩;rw[e]at hf;rcases hf with⟨e9,_⟩|⟨b',j',c',s,e9,hb,_⟩
 .
  cases e9
 .
  simp only[Value.slice.injEq,zG2,Addr.mk.injEq]at e9;obtain⟨⟨rfl,_⟩,_⟩:=e9;exact(Og.str rfl b (hT.lt hb) (by show τ b ≠ none;rw[hb];simp)).2
theorem aKu {K:List Nat}{base n m:Nat}{v:Value}{xs:List Value}(hT:TH τ w)(Og:Fr ⟨true,K,τ,w⟩ τ' w')(hf:SV τ (.rc 0) m v)(h:w.ownsRow base 22 1 v n xs):w'.ownsRow base 22 1 v n xs:=by
 refine⟨h.1, ?_⟩;rcases h.2 with h9|⟨g,cap,cur,rfl,h1,h2,h3⟩
 .
  exact .inl h9
 .
  refine .inr ⟨g,cap,cur,rfl,h1, ?_,h3⟩;rcases hf with⟨e9,_⟩|⟨b',j',c',s,e9,hb,_⟩
  .
   cases e9
  .
   simp only[Value.slice.injEq,zG2,Addr.mk.injEq]at e9;obtain⟨⟨rfl,_⟩,_⟩:=e9;exact((Og.str rfl g (hT.lt hb) (by show τ g ≠ none;rw[hb];simp)).2).trans h2
structure OkS (J:AS):Prop where
 s:∀s f,at? J.sy s=some f->f.own=false/\f.un=false
 b:J.bk.length=3
 n:3<=J.sy.length
theorem okS (lo:Nat)(r:List (Nat × AV)):OkS (aS lo r):=⟨fun s f hf=>by
  match s,hf with
  | 0,hf=>simp only[aS,at?,zG2]at hf;subst hf;exact⟨rfl,rfl⟩| 1,hf=>simp only[aS,at?,zG2]at hf;subst hf;exact⟨rfl,rfl⟩| 2,hf=>simp only[aS,at?,zG2]at hf;subst hf;exact⟨rfl,rfl⟩| s+3,hf=>simp[aS,at?]at hf,rfl,zB0 _⟩
theorem aCq {V:Vl}(hJ:J.bk.length=3):(∀n,n<J.bk.length->V.β n ∈ [V.β 0,V.β 1,V.β 2])/\∀b ∈ [V.β 0,V.β 1,V.β 2],∃n,n<J.bk.length/\b=V.β n:=by
 rw[hJ];refine⟨fun n hn=>?_,fun b hb=>?_⟩
 .
  have:n=0\/n=1\/n=2:=A0;rcases this with rfl|rfl|rfl <;> simp
 .
  simp only[zG3,List.not_mem_nil,or_false]at hb;rcases hb with rfl|rfl|rfl
  .
   exact⟨0,by omega,rfl⟩
  .
   exact⟨1,by omega,rfl⟩
  .
   exact⟨2,by omega,rfl⟩
theorem Lp.envE (h:Lp C0 fv cb k A τ V a w):Env ⟨true,[V.β 0,V.β 1,V.β 2],τ,w⟩ (fun _=>True) (gM false) 3 3 V.ρ:=⟨⟨rfl,h.hs.kn.fr.th,cn kOnce cz⟩,fun h9=>by cases h9⟩
theorem Lp.next (h:Lp C0 fv cb k A τ V a w)(hK:C0.K=[cb]){lo:Nat}{r:List (Nat × AV)}(hA:A=aS lo r){a':Act}{V':Vl}(Ee:Hs ⟨true,[V.β 0,V.β 1,V.β 2],τ,w⟩ (fun _=>True) (gM false) 3 3 V.ρ V.β J τ' V' a' w')(hJ:OkS J):Lp C0 fv cb k J τ' V' a' w':=by
 obtain⟨t1,t2⟩:=aCq (V:=V') hJ.b;have e0:=Ee.fb 0 A0;have e1:=Ee.fb 1 A0;have e2:=Ee.fb 2 A0;have s0:=Ee.fs 0 A0;have s1:=Ee.fs 1 A0;have hT:=h.hs.kn.fr.th;have Og:=Ee.kn.fr;obtain⟨f0,_⟩:=h.hs.kn.sy 0 (sf (.rc 4) lo 2 false) (by rw[hA];rfl) (by rw[hA];show 0<3;omega);obtain⟨f1,_⟩:=h.hs.kn.sy 1 (sf (.rc 0) 0 2 false) (by rw[hA];rfl) (by rw[hA];show 1<3;omega);obtain⟨n,xs,h1,h2,h3⟩:=h.own;refine⟨Ee.again t1 t2 hJ.s hJ.n (by rw[hJ.b];omega) Ee.nt,h.fr.trans2 Og (fun b hb Ad=>?_),e0.trans h.b0,by rw[e1];exact h.b1,by rw[e2];exact h.b2,s0.trans h.r0,⟨n,xs,h1,by rw[s1];exact aKu hT Og f1 h2,fun x hx=>aQ5 (n:=ln (V.ρ 0)) hT Og (by rw[<-h.r0];exact f0) (h3 x hx)⟩,fun h9=>Ee.tq rfl (h.tq h9)⟩;rw[hK];simp only[zG3,List.not_mem_nil,or_false]at hb;rcases hb with rfl|rfl|rfl
 .
  rw[h.b0];simp
 .
  have:=h.b1;omega
 .
  have:=h.b2;omega
theorem Lp.go (h:Lp C0 fv cb k A τ V a w)(hK:C0.K=[cb]){lo:Nat}{r:List (Nat × AV)}(hA:A=aS lo r){c:Code}{x:Option (Nat × AS)}(hchk:nI (gM false) 3 3 c A J x=true)(hJ:OkS J)(hJ':∀j J',x=some (j,J')->OkS J')
  (hn:∀τ V a w,Lp C0 fv cb k J τ V a w->Q .normal a w) (hx:∀j J',x=some (j,J')->∀τ V a w,Lp C0 fv cb k J' τ V a w->Q (.exit j) a w):c.wp Tryz.prog Q a w:=
 nV h.envE hchk h.hs (fun τ' V' a' w' Ee=>hn _ _ _ _ (h.next hK hA Ee hJ)) (fun j J' e τ' V' a' w' Ee=>hx j J' e _ _ _ _ (h.next hK hA Ee (hJ' j J' e)))
theorem Lp.mono {k':Nat}(h:Lp C0 fv cb k A τ V a w)(hk:k<=k'):Lp C0 fv cb k' A τ V a w:=by
 obtain⟨n,xs,h1,h2⟩:=h.own;exact⟨h.hs,h.fr,h.b0,h.b1,h.b2,h.r0,⟨n,xs,by omega,h2⟩,h.tq⟩
theorem aHw {a:Act}(Bg:a.tmps.size=289)(hd:a.defers=[]):a={ tmps:=#[a.eval (.tmp 0),a.eval (.tmp 1),a.eval (.tmp 2),a.eval (.tmp 3),a.eval (.tmp 4),a.eval (.tmp 5),a.eval (.tmp 6),a.eval (.tmp 7),a.eval (.tmp 8),a.eval (.tmp 9),a.eval (.tmp 10),a.eval (.tmp 11),a.eval (.tmp 12),a.eval (.tmp 13),a.eval (.tmp 14),a.eval (.tmp 15),a.eval (.tmp 16),a.eval (.tmp 17),a.eval (.tmp 18),a.eval (.tmp 19),a.eval (.tmp 20),a.eval (.tmp 21),a.eval (.tmp 22),a.eval (.tmp 23),a.eval (.tmp 24),a.eval (.tmp 25),a.eval (.tmp 26),a.eval (.tmp 27),a.eval (.tmp 28),a.eval (.tmp 29),a.eval (.tmp 30),a.eval (.tmp 31),a.eval (.tmp 32),a.eval (.tmp 33),a.eval (.tmp 34),a.eval (.tmp 35),a.eval (.tmp 36),a.eval (.tmp 37),a.eval (.tmp 38),a.eval (.tmp 39),a.eval (.tmp 40),a.eval (.tmp 41),a.eval (.tmp 42),a.eval (.tmp 43),a.eval (.tmp 44),a.eval (.tmp 45),a.eval (.tmp 46),a.eval (.tmp 47),a.eval (.tmp 48),a.eval (.tmp 49),a.eval (.tmp 50),a.eval (.tmp 51),a.eval (.tmp 52),a.eval (.tmp 53),a.eval (.tmp 54),a.eval (.tmp 55),a.eval (.tmp 56),a.eval (.tmp 57),a.eval (.tmp 58),a.eval (.tmp 59),a.eval (.tmp 60),a.eval (.tmp 61),a.eval (.tmp 62),a.eval (.tmp 63),a.eval (.tmp 64),a.eval (.tmp 65),a.eval (.tmp 66),a.eval (.tmp 67),a.eval (.tmp 68),a.eval (.tmp 69),a.eval (.tmp 70),a.eval (.tmp 71),a.eval (.tmp 72),a.eval (.tmp 73),a.eval (.tmp 74),a.eval (.tmp 75),a.eval (.tmp 76),a.eval (.tmp 77),a.eval (.tmp 78),a.eval (.tmp 79),a.eval (.tmp 80),a.eval (.tmp 81),a.eval (.tmp 82),a.eval (.tmp 83),a.eval (.tmp 84),a.eval (.tmp 85),a.eval (.tmp 86),a.eval (.tmp 87),a.eval (.tmp 88),a.eval (.tmp 89),a.eval (.tmp 90),a.eval (.tmp 91),a.eval (.tmp 92),a.eval (.tmp 93),a.eval (.tmp 94),a.eval (.tmp 95),a.eval (.tmp 96),a.eval (.tmp 97),a.eval (.tmp 98),a.eval (.tmp 99),a.eval (.tmp 100),a.eval (.tmp 101),a.eval (.tmp 102),a.eval (.tmp 103),a.eval (.tmp 104),a.eval (.tmp 105),a.eval (.tmp 106),a.eval (.tmp 107),a.eval (.tmp 108),a.eval (.tmp 109),a.eval (.tmp 110),a.eval (.tmp 111),a.eval (.tmp 112),a.eval (.tmp 113),a.eval (.tmp 114),a.eval (.tmp 115),a.eval (.tmp 116),a.eval (.tmp 117),a.eval (.tmp 118),a.eval (.tmp 119),a.eval (.tmp 120),a.eval (.tmp 121),a.eval (.tmp 122),a.eval (.tmp 123),a.eval (.tmp 124),a.eval (.tmp 125),a.eval (.tmp 126),a.eval (.tmp 127),a.eval (.tmp 128),a.eval (.tmp 129),a.eval (.tmp 130),a.eval (.tmp 131),a.eval (.tmp 132),a.eval (.tmp 133),a.eval (.tmp 134),a.eval (.tmp 135),a.eval (.tmp 136),a.eval (.tmp 137),a.eval (.tmp 138),a.eval (.tmp 139),a.eval (.tmp 140),a.eval (.tmp 141),a.eval (.tmp 142),a.eval (.tmp 143),a.eval (.tmp 144),a.eval (.tmp 145),a.eval (.tmp 146),a.eval (.tmp 147),a.eval (.tmp 148),a.eval (.tmp 149),a.eval (.tmp 150),a.eval (.tmp 151),a.eval (.tmp 152),a.eval (.tmp 153),a.eval (.tmp 154),a.eval (.tmp 155),a.eval (.tmp 156),a.eval (.tmp 157),a.eval (.tmp 158),a.eval (.tmp 159),a.eval (.tmp 160),a.eval (.tmp 161),a.eval (.tmp 162),a.eval (.tmp 163),a.eval (.tmp 164),a.eval (.tmp 165),a.eval (.tmp 166),a.eval (.tmp 167),a.eval (.tmp 168),a.eval (.tmp 169),a.eval (.tmp 170),a.eval (.tmp 171),a.eval (.tmp 172),a.eval (.tmp 173),a.eval (.tmp 174),a.eval (.tmp 175),a.eval (.tmp 176),a.eval (.tmp 177),a.eval (.tmp 178),a.eval (.tmp 179),a.eval (.tmp 180),a.eval (.tmp 181),a.eval (.tmp 182),a.eval (.tmp 183),a.eval (.tmp 184),a.eval (.tmp 185),a.eval (.tmp 186),a.eval (.tmp 187),a.eval (.tmp 188),a.eval (.tmp 189),a.eval (.tmp 190),a.eval (.tmp 191),a.eval (.tmp 192),a.eval (.tmp 193),a.eval (.tmp 194),a.eval (.tmp 195),a.eval (.tmp 196),a.eval (.tmp 197),a.eval (.tmp 198),a.eval (.tmp 199),a.eval (.tmp 200),a.eval (.tmp 201),a.eval (.tmp 202),a.eval (.tmp 203),a.eval (.tmp 204),a.eval (.tmp 205),a.eval (.tmp 206),a.eval (.tmp 207),a.eval (.tmp 208),a.eval (.tmp 209),a.eval (.tmp 210),a.eval (.tmp 211),a.eval (.tmp 212),a.eval (.tmp 213),a.eval (.tmp 214),a.eval (.tmp 215),a.eval (.tmp 216),a.eval (.tmp 217),a.eval (.tmp 218),a.eval (.tmp 219),a.eval (.tmp 220),a.eval (.tmp 221),a.eval (.tmp 222),a.eval (.tmp 223),a.eval (.tmp 224),a.eval (.tmp 225),a.eval (.tmp 226),a.eval (.tmp 227),a.eval (.tmp 228),a.eval (.tmp 229),a.eval (.tmp 230),a.eval (.tmp 231),a.eval (.tmp 232),a.eval (.tmp 233),a.eval (.tmp 234),a.eval (.tmp 235),a.eval (.tmp 236),a.eval (.tmp 237),a.eval (.tmp 238),a.eval (.tmp 239),a.eval (.tmp 240),a.eval (.tmp 241),a.eval (.tmp 242),a.eval (.tmp 243),a.eval (.tmp 244),a.eval (.tmp 245),a.eval (.tmp 246),a.eval (.tmp 247),a.eval (.tmp 248),a.eval (.tmp 249),a.eval (.tmp 250),a.eval (.tmp 251),a.eval (.tmp 252),a.eval (.tmp 253),a.eval (.tmp 254),a.eval (.tmp 255),a.eval (.tmp 256),a.eval (.tmp 257),a.eval (.tmp 258),a.eval (.tmp 259),a.eval (.tmp 260),a.eval (.tmp 261),a.eval (.tmp 262),a.eval (.tmp 263),a.eval (.tmp 264),a.eval (.tmp 265),a.eval (.tmp 266),a.eval (.tmp 267),a.eval (.tmp 268),a.eval (.tmp 269),a.eval (.tmp 270),a.eval (.tmp 271),a.eval (.tmp 272),a.eval (.tmp 273),a.eval (.tmp 274),a.eval (.tmp 275),a.eval (.tmp 276),a.eval (.tmp 277),a.eval (.tmp 278),a.eval (.tmp 279),a.eval (.tmp 280),a.eval (.tmp 281),a.eval (.tmp 282),a.eval (.tmp 283),a.eval (.tmp 284),a.eval (.tmp 285),a.eval (.tmp 286),a.eval (.tmp 287),a.eval (.tmp 288)],defers:=[] }:=by
 obtain⟨ts,ds⟩:=a;simp only at Bg hd;subst hd;congr 1;have Cc:∀(ts:Array Value) (n:Nat),ts.size=n->ts=((List.range n).map fun k=>ts.getD k undef).toArray:=by
  intro ts n hn;apply Array.ext_getElem?;intro i;rcases zJ1 i n with h|h
  .
   simp[h,hn]
  .
   rw[Array.getElem?_eq_none A0,Array.getElem?_eq_none A10]
 have:=Cc ts 289 Bg;exact this
end
end Eg
end
section
theorem A74{p:Prop}(h:p:=by rw[Qe];omega):p:=h
namespace Eg
section
variable {C0:Cx} {fv:Value} {cb k:Nat} {A J:AS} {τ τ':Sm} {V:Vl} {a:Act} {w w':World} {Q:Exit->Act->World->Prop}
theorem pc7:pc 7 Tryz.f50=aMu Tryz.f50:=by kernel_rfl
theorem aI7 {k:Rs}{n g:Nat}{v:Value}(h:SV τ k n v)(hg:v.ownBlock=some g):∃s,τ g=some s/\s.k=k:=by
 rcases h with⟨rfl,_⟩|⟨b',j',c',s,rfl,hb,hk,_⟩
 .
  cases hg
 .
  simp only[Value.ownBlock,zG2]at hg;subst hg;exact⟨s,hb,hk⟩
set_option maxHeartbeats 4000000 in
theorem Lp.r7 {i:Nat}(h:Lp C0 fv cb i (aS (i+1) (aJ i)) τ V a w)(hst:C0.st=true)(hi:i<=1)(hn:∀τ V a w,Lp C0 fv cb (i+1) (aS 0 (aI i)) τ V a w->Q .normal a w):(pc 7 Tryz.f50).wp Tryz.prog Q a w:=by
 have kn:=h.hs.kn;have hT:=kn.fr.th;obtain⟨n,xs,hn1,Aj,Tw⟩:=h.own;have e2:a.eval (.tmp 2)=fv:=by rw[<-h.r0];exact(h.hs.sl 2).1
 have e11:a.eval (.tmp 11)=.pointer (some ⟨V.β 2,0,none⟩):=(h.hs.sl 11).1;have e12:a.eval (.tmp 12)=.int .i64 i:=by
  obtain⟨x,hx,q1,q2⟩:∃x,a.eval (.tmp 12)=.int .i64 x/\(i:Int)<=x/\x<=(i:Int):=(h.hs.sl 12).1;rw[hx];congr 1;omega
 have Bj:∀t,t ∈ [0,1,2,3,4,10,11,12]->True:=fun _ _=>trivial;obtain⟨s0,l0,u0,_⟩:=kn.sy 0 (sf (.rc 4) (i+1) 2 false) rfl (show 0<3 by omega);obtain⟨s1,l1,u1,_⟩:=kn.sy 1 (sf (.rc 0) 0 2 false) rfl (show 1<3 by omega);obtain⟨s2,l2,u2,_⟩:=kn.sy 2 (sf .bt 0 4 false) rfl (show 2<3 by omega);have s0:SV τ (.rc 4) (ln (V.ρ 0)) (V.ρ 0):=s0;have s1:SV τ (.rc 0) (ln (V.ρ 1)) (V.ρ 1):=s1;have s2:SV τ .bt (ln (V.ρ 2)) (V.ρ 2):=s2;have l0:i+1<=ln (V.ρ 0):=l0;have u0:ln (V.ρ 0)<=2:=u0;have u2:ln (V.ρ 2)<=4:=u2;have eln:ln (V.ρ 1)=n:=by
  rcases Aj.2 with⟨e,h9⟩|⟨g,cap,cur,e,_⟩
  .
   rw[e,h9];rfl
  .
   rw[e];rfl
 rw[eln]at s1;obtain⟨bk2,ng2,lt2,_⟩:=kn.bk 2 (bG (.sl 2) (.sl 1)) rfl (show 2<3 by omega);obtain⟨bk1,ng1,lt1,_⟩:=kn.bk 1 bM rfl (show 1<3 by omega);obtain⟨bk0,ng0,lt0,_⟩:=kn.bk 0 .cur rfl (show 0<3 by omega);have lo0:=kn.lo 0 rfl (show 0<3 by omega);have dj12:=kn.dj 1 2 bM (bG (.sl 2) (.sl 1)) rfl rfl (show 1<3 by omega) (show 2<3 by omega) A0;have dj02:=kn.dj 0 2 .cur (bG (.sl 2) (.sl 1)) rfl rfl (show 0<3 by omega) (show 2<3 by omega) A0;have dj01:=kn.dj 0 1 .cur bM rfl rfl (show 0<3 by omega) (show 1<3 by omega) A0;obtain⟨vs,Ck,Km⟩:=bk2;have hal0:=Km;obtain⟨v0,_,rfl,q0,v1,_,rfl,q1,v2,_,rfl,q2,v3,_,rfl,q3,v4,_,rfl,q4,v5,_,rfl,q5,v6,_,rfl,q6,v7,_,rfl,q7,v8,_,rfl,q8,v9,_,rfl,q9,v10,_,rfl,q10,rfl⟩:=Km;have q3:v3=V.ρ 1:=q3;obtain⟨bf,jf,cf,sf0,ef,_,_,Cy,Iy,_,hbl0,Na⟩:=s0.get hT A0;obtain⟨us0,Kj,As⟩:=Na i A0;have hev':RV τ [.b 4,.l 3 0 3] us0:=by
  have h9:RV τ (if sf0.q then Lt 4 else (Dt 4).2) us0:=Kj;split at h9 <;> exact h9
 obtain⟨nm,_,rfl,Gz,pl,_,rfl,_,rfl⟩:=hev';obtain⟨Qa,Tb,hnm1⟩:=id Gz;obtain⟨an,Nl,rfl,_⟩:=hnm1.sh hT;have Iq:=As 0 _ rfl;have ejf:(jf+i)*(Rs.rc 4).k+0=jf*2+i*2:=by show(jf+i)*2+0=_;omega
 rw[ejf]at Iq;have hUs:Us fv w (.slice an Qa Nl):=⟨bf,jf*2,ln (V.ρ 0),cf,i,by rw[<-h.r0];exact ef,by omega,by rw[show jf*2+2*i=jf*2+i*2 by omega];exact Iq⟩
 have frD:Fr C0 τ w.drew:=(h.fr.below (zD2 _ _).drew).fr;obtain⟨τ1,mv1,sv1,sub1⟩:=frD.row (k:=.rc 0) (xss:=[[.slice an Qa Nl]]) (m:=1) rfl (fun us hu=>by rw[List.mem_singleton.1 hu];exact⟨_,_,rfl,Gz,rfl⟩) A0;have eW:(w.drew.alloc (.cells [[Value.slice an Qa Nl]].flatten.toArray (Rs.ty (.rc 0)) (0,0)))=w.drew.alloc (.cells #[.slice an Qa Nl] 22 (0,0)):=rfl;rw[eW]at mv1;have bD:Below w.heap.size w (w.drew.alloc (.cells #[.slice an Qa Nl] 22 (0,0))):=(zD2 _ _).drew.alloc (zB0 _) _;have hown2:(w.drew.alloc (.cells #[.slice an Qa Nl] 22 (0,0))).ownsRow C0.w0.heap.size 22 1 (V.ρ 1) n xs:=by
  refine⟨Aj.1,Aj.2.imp id ?_⟩;rintro⟨g,cap,cur,e,h1,h2,h3⟩;exact⟨g,cap,cur,e,h1,(bD.block g (zI3.1 h2).1).trans h2,h3⟩
 have Qe:(w.drew.alloc (.cells #[.slice an Qa Nl] 22 (0,0))).heap.size=w.heap.size+1:=by show(w.heap.push _).size=_;exact Array.size_push _
 obtain⟨z,by9,Wl,Xl,Lg⟩:=aHc (.rc 0);have hgo:∀g,(V.ρ 1).ownBlock=some g->C0.w0.heap.size<=g:=fun g hg=>(Aj.lt g hg).1;obtain⟨v',τ2,w3,hrun,Xh,sv2,own2,oth2⟩:=mv1.fr.app (ty:=82) (t:=82) (s1.sub sub1) sv1 (.inr rfl) (.inl A8) (fun _=>hgo) Wl (nX (by rfl)) Xl Lg A0;obtain⟨i0,hii,Dd,Db,Cz⟩:=info_parts Wl;obtain⟨v'',w'',Ty,Hr,hg2,_⟩:=run_append_own (P:=Tryz.prog) (w.drew.alloc (.cells #[.slice an Qa Nl] 22 (0,0))) C0.w0.heap.size 82 82 22 i0 z 1 by9 (nX (by rfl)) hii Dd Db Cz Xl A0 (V.ρ 1) n xs hown2 ⟨w.heap.size,0,none⟩ 1 1 [.slice an Qa Nl] rfl (fun j u hu=>by
  match j,hu with
  | 0,hu=>
   simp only[List.getElem?_cons_zero,zG2]at hu;subst hu;exact(Blk.new w.drew 22 [.slice an Qa Nl]).k 0
  | j+1,hu=>simp at hu) (fun u hu=>by rw[List.mem_singleton.1 hu];rfl) A11 (by have:(n+1)*by9<=3*1000:=Nat.mul_le_mul A0 Lg;omega) (by rw[Qe];have:=h.fr.size;omega)
 have hrun':(Builtin.append_ #[82,82] 82 #[V.ρ 1,.slice (some ⟨w.heap.size,0,none⟩) 1 1]).run Tryz.prog (w.drew.alloc (.cells #[.slice an Qa Nl] 22 (0,0)))=.ok v' w3:=hrun;rw[hrun']at Ty;simp only[Result.ok.injEq]at Ty;obtain⟨rfl,rfl⟩:=Ty;obtain⟨va,vc,rfl,_⟩:=sv2.sh Xh.fr.th;have Xc:∀g,g<w.heap.size->(∀s,τ g=some s->s.k ≠ .rc 0)->w3.heap[g]?=w.heap[g]?:=fun g hg Ae=>by
  have h1:=oth2 g A74 (fun e9=>by
   obtain⟨s,q1,q2⟩:=aI7 s1 e9.symm;exact Ae s q1 q2)
  exact h1.trans (bD.block g hg)
 have ng:∀g,τ g=none->∀s,τ g=some s->s.k ≠ .rc 0:=fun g h1 s h2=>by rw[h1]at h2;cases h2
 have st2:=Xc _ lt2 (ng _ ng2);have st1:=Xc _ lt1 (ng _ ng1);have stf:=Xc bf hbl0 (fun s h1=>by rw[Cy]at h1;cases h1;rw[Iy];simp);have hbl3:Blk w3 (V.β 2) 170 [v0,v1,v2,v3,v4,v5,v6,v7,v8,v9,v10]:=st2.trans Ck;rw[aHw h.hs.nt h.hs.df,pc7];refine wp_mono (Q:=nQ (fun a' w'=>Q .normal a' w')) ?_ (fun e9 a9 w9 h9=>?_);rotate_left
 .
  cases e9 <;> first|exact h9|exact h9.elim
 rw[e2,e11,e12,<-h.r0,ef];have hlnf:ln (V.ρ 0)=ln (V.ρ 0):=rfl;refine Eg.r7
  (bf:=bf) (jo:=jf*(Rs.rc 4).k) (nf:=ln (V.ρ 0)) (cf:=cf) (gb:=V.β 2) (i:=i) (uv:=V.ρ 1) (an:=an) (va:=va) (nn:=Qa) (cn:=Nl) (vn:=n+1) (vc:=vc) (w:=w) (w1:=w3) (R:=fun a' w'=>Q .normal a' w') ?_ ?_ ?_ ?_ ?_ ?_ ?_ ?_ ?_ ?_
 .
  omega
 .
  exact(Ck.k 3).trans (by rw[q3])
 .
  exact Iq
 .
  exact hrun'
 .
  exact(World.cell?_of_block (bD.block _ lt2)).trans ((Ck.k 3).trans (by rw[q3]))
 .
  exact(World.cell?_of_block (bD.block _ hbl0)).trans Iq
 .
  exact(hbl3.k 3).trans (by rw[q3])
 .
  exact(World.cell?_of_block stf).trans Iq
 .
  exact hbl3.free 3
 intro a' hd' Xm Aw;have hsl:=h.hs.sl;have ng22:τ2 (V.β 2)=none:=Xh.non _ A74 (mv1.non _ lt2 ng2);have ng21:τ2 (V.β 1)=none:=Xh.non _ A74 (mv1.non _ lt1 ng1);have Xg:∀b,b ≠ V.β 2->(w3.setCell ⟨V.β 2,3,none⟩ (.slice va (n+1) vc)).heap[b]?=w3.heap[b]?:=fun b hb=>heap_setCell_other w3 ⟨V.β 2,3,none⟩ b _ hb;have bS:=(zD2 0 w3).setCell (p:=⟨V.β 2,3,none⟩) (zD1 _) (.slice va (n+1) vc);have ne2:∀b,τ2 b ≠ none->b ≠ V.β 2:=fun b hb e9=>by rw[e9]at hb;exact hb ng22
 have mv3:Mv C0 [V.β 2] τ2 w3 τ2 (w3.setCell ⟨V.β 2,3,none⟩ (.slice va (n+1) vc)):=Xh.fr.step [V.β 2] (Xh.fr.th.on fun b s hb=>Xg b (ne2 b (by rw[hb];simp))) (Sub.refl _) bS.os bS.tape bS.output bS.size (fun _ _ h9=>h9) (fun b _ _ hb=>Xg b (by simpa using hb)) (fun _ b _ hb=>⟨rfl,Xg b (ne2 b hb)⟩) (fun b hb Ad=>by rw[List.mem_singleton.1 hb]at Ad;have:=h.b2;omega) (fun h9=>h9);have sz3:w.heap.size<=w3.heap.size:=zF2 A74 Xh.size;have sz4:=bS.size;have keep:∀b,b<w.heap.size->(∀s,τ b=some s->s.k ≠ .rc 0)->b ≠ V.β 2->(w3.setCell ⟨V.β 2,3,none⟩ (.slice va (n+1) vc)).heap[b]?=w.heap[b]?:=fun b h1 h2 h3=>(Xg b h3).trans (Xc b h1 h2);have low0:V.β 0<V.β 2:=kn.low (c:=0) (b:=2) rfl (show 0<3 by omega) (x:=bG (.sl 2) (.sl 1)) rfl (show 2<3 by omega) A0
 let V2:Vl:={ V with ρ:=fun s=>if s=1 then .slice va (n+1) vc else V.ρ s }
 have sub2:=sub1.trans Xh.sub;have mf:∀b,τ b=none->b<w.heap.size->τ2 b=none:=fun b h1 h2=>Xh.non _ A74 (mv1.non _ h2 h1);have hbl4:=hbl3.set (i:=3) (.slice va (n+1) vc);have tg2:Tg τ->Tg τ2:=fun h9=>Xh.tg (mv1.tg h9);have usx:∀x,Us fv w x->Us fv (w3.setCell ⟨V.β 2,3,none⟩ (.slice va (n+1) vc)) x:=fun x hx=>by
  obtain⟨b,o,m,c,j,e9,hj,hc⟩:=hx;rw[<-h.r0,ef]at e9;simp only[Value.slice.injEq,zG2,Addr.mk.injEq]at e9;obtain⟨⟨rfl,rfl,_⟩,rfl,rfl⟩:=e9;refine⟨bf,_,_,cf,j,by rw[<-h.r0];exact ef,hj,(World.cell?_of_block (keep bf hbl0 (fun s h1=>by rw[Cy]at h1;cases h1;rw[Iy];simp) (fun e9=>by rw[e9,ng2]at Cy;cases Cy))).trans hc⟩
 refine hn τ2 V2 a' _ ⟨⟨⟨Fr.refl mv3.fr.th,fun s f hf hs=>?_,fun s f hf hs t ht=>?_,fun m x hx hm=>?_,fun m x hx hm=>?_,fun m m' x y hx hy hm hm' Ae=>?_,fun m hx hm=>?_,fun _=>tg2 (kn.tg rfl),fun m hx=>?_⟩,fun t=>?_,(fun c hc=>by cases hc),fun _ _=>rfl,zB0 _,fun _ _=>rfl,zB0 _,Xm,hd',fun _ h9=>h9⟩,mv3.fr,h.b0,h.b1,h.b2,h.r0,⟨n+1,xs++[.slice an Qa Nl],by omega, ?_,fun x hx=>?_⟩,fun h9=>tg2 (h.tq h9)⟩
 .
  match s,hf with
  | 0,hf=>
   simp only[aS,at?,zG2]at hf;subst hf;exact⟨s0.sub sub2,zD1 _,u0,(fun h9=>by cases h9),(fun h9=>by cases h9),(fun h9=>by cases h9),(fun s h9=>by cases h9)⟩
  | 1,hf=>
   simp only[aS,at?,zG2]at hf;subst hf;exact⟨sv2,zD1 _,(show n+1<=2 by omega),(fun h9=>by cases h9),(fun h9=>by cases h9),(fun h9=>by cases h9),(fun s h9=>by cases h9)⟩
  | 2,hf=>
   simp only[aS,at?,zG2]at hf;subst hf;exact⟨s2.sub sub2,zD1 _,u2,(fun h9=>by cases h9),(fun h9=>by cases h9),(fun h9=>by cases h9),(fun s h9=>by cases h9)⟩
  | s+3,hf=>simp[aS,at?]at hf
 .
  match s,hf with
  | 0,hf=>simp only[aS,at?,zG2]at hf;subst hf;cases ht| 1,hf=>simp only[aS,at?,zG2]at hf;subst hf;cases ht| 2,hf=>simp only[aS,at?,zG2]at hf;subst hf;cases ht| s+3,hf=>simp[aS,at?]at hf
 .
  match m,hx with
  | 0,hx=>
   simp only[aS,at?,zG2]at hx;subst hx;refine⟨Cur.on bk0 fun b hb=>?_,mf _ ng0 lt0,(show V.β 0<_ by omega),.inl (List.mem_cons_self ..)⟩;have hb:b<=V.β 0:=hb;refine keep b A0 (ng _ ?_) A0;rcases Nat.lt_or_eq_of_le hb with h9|h9
   .
    exact(lo0.2 b h9).1
   .
    rw[h9];exact ng0
  | 1,hx=>
   simp only[aS,at?,zG2]at hx;subst hx;obtain⟨us1,c1,c2⟩:=bk1;refine⟨⟨us1,(keep _ lt1 (ng _ ng1) dj12).trans c1,c2⟩,ng21,(show V.β 1<_ by omega),.inl (by show V.β 1 ∈ [V.β 0,V.β 1,V.β 2];simp)⟩
  | 2,hx=>
   simp only[aS,at?,zG2]at hx;subst hx;refine⟨⟨_,hbl4, ?_⟩,ng22,(show V.β 2<_ by omega),.inl (by show V.β 2 ∈ [V.β 0,V.β 1,V.β 2];simp)⟩;exact⟨v0,_,rfl,q0,v1,_,rfl,q1,v2,_,rfl,q2,_,_,rfl,rfl,v4,_,rfl,q4,v5,_,rfl,q5,v6,_,rfl,q6,v7,_,rfl,q7,v8,_,rfl,q8,v9,_,rfl,q9,v10,_,rfl,(by obtain⟨b9,e9,_⟩:=q10;rw[e9];exact eM V2 b9),rfl⟩
  | m+3,hx=>simp[aS,at?]at hx
 .
  match m,hx with
  | 0,hx=>
   simp only[aS,at?,zG2]at hx;subst hx;exact QA82
  | 1,hx=>
   simp only[aS,at?,zG2]at hx;subst hx;exact QA82
  | 2,hx=>
   simp only[aS,at?,zG2]at hx;subst hx;refine⟨fun s h9=>?_,fun s h9=>?_,fun s h9=>?_⟩
   .
    have h9:s ∈ [0,2,1]:=h9;show s<3
    exact QA67
   .
    have h9:s ∈ [0]:=h9;show s<3
    exact QA67
   .
    have h9:s ∈ ([]:List Nat):=h9;cases h9
  | m+3,hx=>simp[aS,at?]at hx
 .
  exact fun e9=>kn.dj m m' x y hx hy hm hm' Ae e9
 .
  have:m=0:=kn.cu m hx;subst this;refine⟨zF2 (Nat.le_of_lt lt0) (zF2 sz3 sz4),fun b hb=>⟨mf b (lo0.2 b hb).1 (by have hb:b<V.β 0:=hb;omega),(lo0.2 b hb).2⟩⟩
 .
  exact kn.cu m hx
 .
  show((bH t (aS 0 (aI i)).sl).getD (.c .top)).ok τ2 V2 _/\lL _ _ _ ((bH t (aS 0 (aI i)).sl).getD (.c .top))
  cases hf:bH t (aS 0 (aI i)).sl with
  | none=>exact⟨trivial,(fun s h9=>by cases h9),(fun s h9=>by cases h9),(fun s h9=>by cases h9)⟩
  | some x=>
   have Cc:∀t',t=t'->t' ∈ [0,1,2,3,4,10,11,12]->bH t' (aS (i+1) (aJ i)).sl=some x->(∀s ∈ x.sy,s ≠ 1)->a'.eval (.tmp t')=a.eval (.tmp t')->x.ok τ2 V2 (a'.eval (.tmp t))/\lL (·<(aS 0 (aI i)).sy.length) (·<(aS 0 (aI i)).bk.length) (·<(aS 0 (aI i)).ni) x:=fun t' e1 e2 e3 e4 e5=>by
    subst e1;obtain⟨p1,p2⟩:=hsl t;have ev:(aS (i+1) (aJ i)).ev (.tmp t)=x:=by show(bH t _).getD _=x;rw[e3];rfl
    rw[ev]at p1 p2;rw[e5];exact⟨AV.on p1 sub2 (fun s h9=>if_neg (e4 s h9)) (fun _ _=>rfl) (fun _ _=>rfl),p2⟩
   have e2':a'.eval (.tmp 2)=a.eval (.tmp 2):=by rw[Aw 2 A8,e2,<-h.r0,ef];rfl
   have e11':a'.eval (.tmp 11)=a.eval (.tmp 11):=by rw[Aw 11 A8,e11];rfl
   have e12':a'.eval (.tmp 12)=a.eval (.tmp 12):=by rw[Aw 12 A8,e12];rfl
   simp only[aS,aI,bH]at hf;split at hf
   .
    rename_i hh;cases hf;exact Cc 0 (eq_of_beq hh).symm A8 rfl (fun s h9=>by cases h9) (Aw 0 A8)
   split at hf
   .
    rename_i hh;cases hf;exact Cc 2 (eq_of_beq hh).symm A8 rfl (fun s h9=>by simp only[AV.sy,CV.sy,List.mem_singleton]at h9;omega) e2'
   split at hf
   .
    rename_i hh;cases hf;exact Cc 3 (eq_of_beq hh).symm A8 rfl (fun s h9=>by cases h9) (Aw 3 A8)
   split at hf
   .
    rename_i hh;cases hf;exact Cc 4 (eq_of_beq hh).symm A8 rfl (fun s h9=>by cases h9) (Aw 4 A8)
   split at hf
   .
    rename_i hh;cases hf;exact Cc 10 (eq_of_beq hh).symm A8 rfl (fun s h9=>by cases h9) (Aw 10 A8)
   split at hf
   .
    rename_i hh;cases hf;exact Cc 11 (eq_of_beq hh).symm A8 rfl (fun s h9=>by cases h9) e11'
   split at hf
   .
    rename_i hh;cases hf;exact Cc 12 (eq_of_beq hh).symm A8 rfl (fun s h9=>by cases h9) e12'
   .
    cases hf
 .
  refine⟨Hr.1,Hr.2.imp id ?_⟩;rintro⟨g,cap,cur,e9,h1,h2,h3⟩;refine⟨g,cap,cur,e9,h1,(Xg g ?_).trans h2,h3⟩;obtain⟨s,p1,_⟩:=aI7 sv2 (show(Value.slice va (n+1) vc).ownBlock=some g by rw[e9];rfl);exact ne2 g (by rw[p1];simp)
 .
  rcases List.mem_append.1 hx with hx|hx
  .
   exact usx x (Tw x hx)
  .
   rw[List.mem_singleton.1 hx];exact usx _ hUs
end
end Eg
end
end Go.Proofs.YtcbhdhmhidpdgaaGreatDoor
