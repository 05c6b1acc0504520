import Derived.Test.YtjoalkgmgmmedaaGreatDoorj47
set_option linter.defProp false
set_option linter.unusedVariables false
set_option maxHeartbeats 4000000
set_option maxRecDepth 20000
open ByteArray renaming size_append->aa,ext->a3
open Go renaming World->ax,Value->ay,results_tmp->aI,results->aL,Frame->a1,frozen_of_row->a2,FuncId->a5,tryRecover->a6
open Go.Act renaming put->aB
open Go.Frame renaming enter->ai
open Go.Instr renaming findNow->aE,typeAssert->aV
open Go.Lib renaming countByte->au
open Go.Value renaming string->ac,pointer->ad,slice->av,bool->a0,int->a4
open Go.World renaming cell?->ao
namespace Go.Proofs.YtjoalkgmgmmedaaGreatDoor
open Conc Lib RowKit
variable {t:Array ay}{b:Bk}{s:ByteArray}{ok:Ctx}{c r0:a1}{fn:Func}{cs:List a1}{B r n:Nat}{g:Nat->ByteArray}{Q:ay->ax->Prop}{V W:ax}
section
variable [Gl]
def ae.enD {afn Dr f u xs}(v:afn.funcs[f]?=some fn)(hc:fn.body=some u)(x:fn.ntmps=n)(C:xs++Array.replicate (n-xs.size) undef=t)(h:ae afn ok c Dr Q ⟨(baseD f).at ⟨t,[]⟩ [.code u],cs,V⟩):ae afn ok c Dr Q ⟨ai afn f xs .deferred,cs,V⟩:=by
 rw[enter_atD xs v hc,x,C];exact h
omit [Gl] in
def GP (h:fn.results=#[])(t:Array ay)(P:Program)(W:ax):(aL fn t).runT P W #[]=(.ok (.tuple #[]) W,#[]):=Prod.ext ((Sem.runT_fst P _ W #[]).trans<|results_none h t P W) (by show(aL fn t).events P W #[]=#[];simp[aL,h])
def VO (z:Zk ok c)(C:ok.aN r0.fn=true)(hm:r0.mode=.returning)(h:ae Tz.prog ok c aS Q ⟨r0,cs,V⟩):ae Tz.prog ok c aS Q ⟨ai Tz.prog 31 #[ad r] .deferred,r0::cs,V⟩:=by
 have E:=z.E;have u:ok.aN 31=true:=z.f;refine ae.enD Tz.func31 rfl Tryz.ntmps31 iE<|uv<|ae.seq E u (ae.rg E u ?_);refine ae.CW (cs2:=r0::cs) (v:=.nilIface) E u rfl (i:=0) rfl rfl (λw=>od) ?_ ?_
 .simp[vH,a6,hm,Frame.at,baseD]
 rw[ar rfl];refine ae.oc E u 1 1 λK τ d hK=>?_
 simp only[ap,aB];go_wp2;refine hK.out _ _<|ae.un<|ae.regionEnd E u<|ae.seq E u<|ae.ck E u [_] _ λK R τ d hK D=>?_;simp only[ak];go_wp2;refine hK.out _ _<|ae.un<|ae.cond E u rfl<|ae.ret E u ?_;have x:tY r0=r0:=by unfold tY;rw[hm]
 refine ae.K4 E rfl rfl rfl Tz.func31 (λW=>GP rfl _ _ W) cO (by rw[x];exact h)
def VP (z:Zk ok c)(Y:ok.aN r0.fn=true)(O:V.heap[r]?=some (.cells #[ac ⟨#[]⟩] 9 (0,0)))(h:∀C,C.heap[r]?=some (.cells #[ac ⟨#[98,97,100]⟩] 9 (0,0))->Kb r V C->ae Tz.prog ok c aS Q ⟨{r0 with mode:=.returning},cs,C⟩):ae Tz.prog ok c aS Q ⟨ai Tz.prog 31 #[ad r] .deferred,Fj r0::cs,V⟩:=by
 have E:=z.E;have u:ok.aN 31=true:=z.f;refine ae.enD Tz.func31 rfl Tryz.ntmps31 iE<|uv<|ae.seq E u (ae.rg E u ?_);refine ae.CW (cs2:={r0 with mode:=.panicking [{v:=.iface 62<|.agg #[],recovered:=true}]}::cs) (v:=.iface 62<|.agg #[]) E u rfl (i:=0) rfl rfl (λw=>od) ?_ ?_
 .simp[vH,a6,Fj,Frame.at,baseD]
 rw[ar rfl];refine ae.oc E u 1 1 λK τ d hK=>?_
 simp only[ap,aB];go_wp2;refine hK.out _ _<|ae.un<|ae.regionEnd E u<|ae.ck E u [_,_] _ λK R τ d hK hR=>?_;have ta:∀w,(aV (.iface 62<|.agg #[]) 20 62 true).run Tz.prog w=.ok (.tuple #[.agg #[],a0 true]) w:=λw=>by
  obtain⟨T,D⟩:∃T,Tz.prog.underlying 62=some (.struct T):=⟨_,(Tz.al Tryz.underlying62)⟩;simp[aV,run_underlying D]
 simp[ak];go_wp2;have Z:=(afM.1 O).1;have x:=Bl.kH<|(afB _<|re V τ d).alloc ab<|.cells #[] 62;generalize (re V τ d).alloc (.cells #[] 62)=J at x⊢;refine hK.out _ _<|ae.rg E u<|ae.oc E u 0 1 λK τ d hK=>?_;have U:(re J τ d).heap[r]?=_:=(x.block r Z).trans O;have c0:(re J τ d).cell? r=some (ac ⟨#[]⟩):=by grind [ao]
 have c1:∀j,(re J τ d).frozen? ⟨r,j,none⟩=false:=λj=>a2 _ _ j _ _ U
 simp only[ap];go_wp2;refine hK.out _ _<|ae.regionEnd E u<|ae.off E u<|ae.K4 E rfl rfl rfl Tz.func31 (λW=>GP rfl _ _ W) Y<|h _ ?_ ⟨?_,λk hk hn=>(afD _ _ _ _ hn).trans<|x.block k hk⟩
 .rw[heap_setCell_same _ _ 0 _ _ _ U];rfl
 rw[iw];exact x.size
end
section
variable [Gl]{k:Nat}
structure Knows (ok:Ctx)(c:a1)(Q:ay->ax->Prop)(B:Nat)(b:Bk)(k:Nat)(g:Nat->ByteArray)(f:a5):Prop where
 i:inZ f=true
 lk:∃j,aE .string (.string<|g 0) (sL B 0 tW) 0=some (some (j,OM B f))
 cl:∀a w,Sem.run Tz.prog (callFunc f a) w=.ok (.enter f a) w
 wk:∀(r0:a1) (cs:List a1) (V:ax) (D o kc:Nat),SS V B b->D<V->Ij V D o k (λi=>g<|i+1)->Ow ok c Q V B b (bG b k g) r0 cs->ae Tz.prog ok c aS Q ⟨ai Tz.prog f #[.pointer B,.slice (some ⟨D,o,none⟩) k kc] .normal,r0::cs,V⟩
def knows (z:Zk ok c)(hg:(g 1).size<=10000):(∃f,Knows ok c Q B b k g f)\/aE .string (.string<|g 0) (sL B 0 tW) 0=some none/\bG b k g=(b,⟨#[98,97,100]⟩):=by
 by_cases h1:g 0=⟨#[108,97,110,100]⟩
 .exact .inl ⟨23,aO,⟨0,by rw[h1];rfl⟩,Tz.call23,λr0 cs V D o kc hS hD hT h=>Vh z hS hD hT hg h1 h⟩
 by_cases h2:g 0=⟨#[108,101,97,118,101]⟩
 .exact .inl ⟨24,aO,⟨1,by rw[h2];rfl⟩,Tz.call24,λr0 cs V D o kc hS hD hT h=>Q7 z hS hD hT hg h2 h⟩
 by_cases h3:g 0=⟨#[100,114,111,112]⟩
 .exact .inl ⟨25,aO,⟨2,by rw[h3];rfl⟩,Tz.call25,λr0 cs V D o kc hS hD hT h=>Vg z hS hD hT h3 h⟩
 by_cases h4:g 0=⟨#[114,111,117,110,100]⟩
 .exact .inl ⟨26,aO,⟨3,by rw[h4];rfl⟩,Tz.call26,λr0 cs V D o kc hS hD hT h=>Q8 z hS hD hT h4 h⟩
 by_cases h5:g 0=⟨#[116,105,99,107]⟩
 .exact .inl ⟨27,aO,⟨4,by rw[h5];rfl⟩,Tz.call27,λr0 cs V D o kc hS hD hT h=>Vk z hS hD hT h5 h⟩
 by_cases h6:g 0=⟨#[112,108,97,110]⟩
 .exact .inl ⟨28,aO,⟨5,by rw[h6];rfl⟩,Tz.call28,λr0 cs V D o kc hS hD hT h=>Vi z hS h6 h⟩
 by_cases h7:g 0=⟨#[115,117,114,101]⟩
 .exact .inl ⟨29,aO,⟨6,by rw[h7];rfl⟩,Tz.call29,λr0 cs V D o kc hS hD hT h=>Vj z hS h7 h⟩
 refine .inr ⟨?_,by grind [bG]⟩;have hn:∀a:ByteArray,¬g 0=a->(g 0==a)=false:=λa h=>by
  cases hb:g 0==a with
  |false=>rfl
  |true=>exact absurd (a3<|eq_of_beq (show((g 0).data==a.data)=true from hb)) h
 simp_all [sL,tW,aE,Instr.sameNow]
omit [Gl] in
def Kz {v:ByteArray}(a:t[4]?=some (ad r))(e:W.heap[r]?=some (.cells #[ac v] 9 (0,0))):(aL Tryz.f11 t).run Tz.prog W=.ok (ac v) W:=by
 have d:W.cell? r=some (ac v):=by grind [ao]
 simp[aL,go_sem,a,d]
def Hs {M}(z:Zk ok c)(eN:ok.aN r0.fn=true)(hS:SS V B b)(hM:V.heap[M]?=some (.map (sL B 0 tW).toArray 7))(hs:s.size<=10000)
  (h:∀C,SS C B (uw b s).1->Kb B V C->ae Tz.prog ok c aS Q ⟨r0.finish<|ac (uw b s).2,cs,C⟩):ae Tz.prog ok c aS Q ⟨ai Tz.prog 11 #[.map<|some M,ac s] .normal,r0::cs,V⟩:=by
 replace h:Hid _:=h;have E:=z.E;have u:ok.aN 11=true:=z.f;have T1:=(afM.1 hM).1;refine ae.en Tz.func11 rfl Tryz.ntmps11 iE<|uv<|ae.ck E u [_] _ λK R τ d hK O=>?_
 let⟨W1,e1,hA,b1,z1⟩:=OQ (re V τ d) ⟨#[]⟩;replace z1:Hid _:=z1;simp[ak];go_wp2;apply hK.out _ _;clear hK O K R e1;have eO:=z1.out;obtain⟨r,TS⟩:∃r,V.heap.size=r:=⟨_,rfl⟩;rw[show(re V τ d).heap.size=r from TS]at hA eO⊢;replace b1:=Bl.kH b1;refine ae.seq E u<|ae.rg E u<|ae.oc E u 0 1 λK τ d hK=>?_;simp only[ap];go_wp2;refine hK.out _ _<|ae.un ?_;clear hK K;refine ae.Tq (i:=1) (y:=.tmp 8) rfl rfl rfl rfl rfl z.f ?_;rw[ar rfl];refine ae.regionEnd E u<|ae.ck E u [_] _ λK R τ d hK O=>?_;have H:=Da s 32 (re W1 τ d) ab;obtain⟨k,hk⟩:∃k,au s.data.toList 32=k:=⟨_,rfl⟩;rw[hk]at H;simp[ak,aB];go_wp2_with(go_at_call 22;refine H.mono ?_;rintro e Y ⟨rfl,hO,b2⟩)
 refine hK.out _ _ ?_;clear hK O K R H;obtain⟨D,hD⟩:∃D,W1.heap.size=D:=⟨_,rfl⟩;rw[show(re W1 τ d).heap.size=D from hD]at hO⊢;replace b2:=Bl.kH b2;have Z:=b1.trans b2 b1.size;have S2:=hS.bl Z;have TT:=hS.lt;have Pt:Y.heap[M]?=_:=(Z.block M T1).trans hM;have TQ:Y.heap[r]?=_:=(b2.block r ab).trans hA;have Pq:=hO.1.choose_spec.1;replace Pq:=(afM.1 Pq).1;obtain⟨g,T⟩:∃g,d9 32 s=g:=⟨_,rfl⟩;have a9:uw b s=bG b k g:=by unfold uw;rw[hk,T]
 have bb:(g 1).size<=10000:=by rw[<-T];exact afN (rh _ _ _) hs
 rw[T]at hO;rw[a9]at h;obtain⟨o,Oj,hT⟩:∃o,(∀w,(Instr.slice 24 (av (some ⟨D,0,none⟩) (k+1)<|k+1) (some<|a4 .i64 1) none none).run Tz.prog w=.ok (av (some ⟨D,o,none⟩) k k) w)/\Ij Y D o k λi=>g (i+1):=by
  by_cases h0:k=0
  .subst h0;exact⟨0,λw=>by go_simp,λi u=>absurd u ab⟩
  have A3:¬((k:Int)+1<1):=ab;exact⟨1,λw=>by go_simp,λi u=>by have:=hO.2 (1+i) ab;rwa [Nat.add_comm 1 i]at this⊢⟩
 have c0:Y.cell? D=some (ac<|g 0):=hO.2 0 ab;have hf:∃fn,Tz.prog.funcs[(31:Nat)]?=some fn/\fn.body.isSome=true/\(fn.name== "runtime.NumGoroutine")=false:=⟨_,Tz.func31,rfl,by kernel_rfl⟩;have a7:Hid (∀{W W':ax} {x:ByteArray},W.heap[r]?=some (.cells #[ac x] 9 (0,0))->W.heap.size<=W'->(∀k:Nat,k<W->k≠r->W'.heap[k]?=W.heap[k]?)->Ov W W'):=λ{W W' x} hB hz e=>⟨hz,λk hk T=>e k hk (by
  rintro rfl;have:=hS.lo;rcases T with T|⟨x,T⟩|⟨x,y,_,T⟩
  .omega
  .simp[ao,hB]at T
  .simp[ao,hB]at T)⟩
 have A1:Hid (∀t J C v,t[4]?=some (ad r)->C.heap[r]?=some (.cells #[ac v] 9 (0,0))->ae Tz.prog ok c aS Q ⟨r0.finish<|ac v,cs,C⟩->ae Tz.prog ok c aS Q ⟨{(base 11).at ⟨t,[⟨.fn (.func 31) #[ad r],#[]++#[]⟩]⟩ J with mode:=.returning},r0::cs,C⟩):=λt J C v h4 hB hk=>ae.F5 E (by simp) rfl hf z.f<|VO z u rfl<|ae.lv E eN Tz.func11 (λτ d=>Kz h4 hB) hk
 have bad:Hid (∀t J C,t[4]?=some (ad r)->C.heap[r]?=some (.cells #[ac ⟨#[]⟩] 9 (0,0))->bG b k g=(b,⟨#[98,97,100]⟩)->SS C B b->Kb B Y C->ae Tz.prog ok c aS Q ⟨Fj<|(base 11).at ⟨t,[⟨.fn (.func 31) #[ad r],#[]++#[]⟩]⟩ J,r0::cs,C⟩):=λt J C h4 hB hl s1 U=>ae.F5 E (by simp[Fj]) rfl hf z.f (VP z u hB λV2 qn k2=>ae.lv E eN Tz.func11 (λτ d=>Kz h4 qn) (by
  have:=h.out V2;rw[hl]at this;exact this (s1.keep<|a7.out hB k2.size k2.block) ⟨afN Z.size<|afN U.size k2.size,λq hq hn=>(k2.block q (by have:=Z.size;have:=U.size;omega) ab).trans<|(U.block q (by have:=Z.size;omega) hn).trans<|Z.block q hq⟩))
 rcases knows (k:=k) z bb with⟨f,⟨fi,⟨j,fl⟩,fc,fw⟩⟩|⟨fl,hl⟩
 .refine ae.ck E u [_] _ λK R τ d hK O=>?_
  have lk:=UE (w:=re Y τ d) (M:=M) Pt (g 0) fl;have aF:(re Y τ d).cell? D=some (ac<|g 0):=c0;simp only[ak];go_wp2;refine hK.out _ _<|ae.un ?_;clear hK O K R lk aF;refine ae.seq E u<|ae.ck E u [_] _ λK R τ d hK O=>?_;simp only[ak];go_wp2;refine hK.out _ _<|ae.un<|ae.cond E u (t:=false) rfl<|ae.skip E u<|ae.seq E u<|ae.rg E u<|ae.oc E u 0 3 λK τ d hK=>?_;simp only[ap];go_wp2;refine hK.out _ _<|ae.un ?_;clear hK O K R;refine ae.aZ E (i:=3) rfl rfl (z.i f fi) (λw=>by simp[execOp,resolve,invoke,Act.eval,go_sem,OM,fc])<|fw _ _ _ D o k S2 Pq hT ⟨⟨u,rfl⟩,λC s1 U=>?_,λC e s1 U=>bad.out _ _ _ rfl ((U.block r ab ab).trans TQ) e s1 U⟩;have N8:C.heap[r]?=_:=(U.block r ab ab).trans TQ;rw[ar rfl];refine ae.oc E u 4 1 λK τ d hK=>?_
  have x0:(re C τ d).cell? r=some (ac ⟨#[]⟩):=by have h:(re C τ d).heap[r]?=_:=N8;simp[ao,h]
  have x1:∀j,(re C τ d).frozen? ⟨r,j,none⟩=false:=λj=>a2 _ _ j _ _ N8
  simp only[ap,aB];go_wp2;have Se:=heap_setCell_same (re C τ d) r 0 _ _ (ac (bG b k g).2) N8;have Sr:∀q:Nat,q≠r->((re C τ d).setCell r<|ac (bG b k g).2).heap[q]?=C.heap[q]?:=λq hq=>afD _ _ _ _ hq
  have a8:=iw (re C τ d) r<|ac (bG b k g).2;refine hK.out _ _<|ae.regionEnd E u<|ae.ret E u<|A1.out _ _ _ _ rfl Se<|h.out _ (s1.keep<|a7.out N8 (Nat.le_of_eq a8.symm) λq _ hq=>Sr q hq) ⟨?_,λq hq hn=>?_⟩
  .have:=Z.size;have:=U.size;show _<=((re C τ d).setCell r _).heap.size;rw[a8];show V.heap.size<=C.heap.size;omega
  .exact(Sr q ab).trans ((U.block q (by have:=Z.size;omega) hn).trans<|Z.block q hq)
 refine ae.ck E u [_] _ λK R τ d hK O=>?_
 have lk:=UF (w:=re Y τ d) (M:=M) Pt (g 0) fl;have aF:(re Y τ d).cell? D=some (ac<|g 0):=c0;simp only[ak];go_wp2;refine hK.out _ _<|ae.un ?_;clear hK O K R lk aF;refine ae.seq E u<|ae.ck E u [_] _ λK R τ d hK O=>?_;simp only[ak];go_wp2;refine hK.out _ _<|ae.un<|ae.cond E u (t:=true) rfl<|ae.rg E u<|ae.oc E u 0 2 λK τ d hK=>?_;simp only[ap];go_wp2;exact hK.out _ _<|ae.un<|ae.uI rfl rfl rfl rfl rfl<|bad.out _ _ _ rfl TQ hl S2<|Kb.of<|Bl.refl _ _
end
def Di:∀(n:Nat) (b:Bk) (o:ByteArray),(eH n b o).2.size≠0
 |0,b,o=>by
  show(o++⟨#[110,111,119,32]⟩++fd b.now).size≠0;rw[aa,aa];show o.size+4+_≠_;omega
 |n+1,b,o=>by
  rw[eH];split
  .show(o++(⟨#[99,111,100,101,32]⟩++fd 2)).size≠0;rw[aa,aa];show o.size+(5+_)≠_;omega
  .exact Di n _ _
def yU (x):(codeF x).2.size≠0:=by
 unfold codeF;simp only[aa];show 5+_≠_;omega
def Qm (b k g):(bG b k g).2.size≠0:=by
 have a:(((b,⟨#[98,97,100]⟩):Bk×ByteArray)).2.size≠0:=show 3≠0 by decide
 unfold bG;simp only;split
 .split
  .exact yU _
  omega
 split
 .exact yU _
 split
 .exact yU _
 split
 .split
  .exact Di _ _ _
  omega
 split
 .show(kS b).size≠0;unfold kS;simp only[aa];show _+(6+_+6+_)≠_;omega
 split
 .show(if _ then _ else _:ByteArray).size≠0;split<;>decide
 omega
section
variable {W':ax}{N A:Nat}{y:ay}
def SN.keeps (a:SN W W' A y)(h:Bs W N A y s)(d:s.size≠0\/y=av none 0 0)(m:7<=A):Ov W W':=by
 have o:=h.lo;refine⟨a.sz,λk f u=>a.keep k f ?_ λe=>?_⟩
 .rintro rfl;let⟨x,v,i⟩:=h.bl;grind [ao]
 obtain⟨_,⟨rfl,_⟩|⟨q,j,l,rfl,_,w,z⟩⟩:=h.own
 .cases e
 cases e;have C:=d.resolve_right λe=>cO;obtain⟨x,i⟩:∃x,s.data.toList[0]?=some x:=⟨_,af5 (by rw[Array.length_toList];show 0<s.size;omega)⟩;have D:W.cell? q=some (a4 .u8 x.toNat):=h.own.cells rfl 0 (a4 .u8 x.toNat) (by grind [strCells]);grind
end
section
variable [Gl]
omit [Gl] in
def kg.same {w w':ax}{b:Nat}(h:kg w b n g)(e:w'.heap[b]?=w.heap[b]?):kg w' b n g:=by
 let⟨⟨cs,a,d⟩,f⟩:=h;exact⟨⟨cs,e.trans a,d⟩,λi j=>by have:=f i j;unfold ao at this⊢;rw[e];exact this⟩
structure Sn (V:ax)(s)(B M A D:Nat)(i y W):Prop where
 ss:SS W B (pV (d9 10 s) i).1
 mp:W.heap[M]?=some (.map (sL B 0 tW).toArray 7)
 bs:Bs W (A+1) A y (pV (d9 10 s) i).2
 ne:(pV (d9 10 s) i).2.size≠0\/y=av none 0 0
 ln:kg W D (au s.data.toList 10+1) (d9 10 s)
 lo:V.heap.size<=B/\B<A/\V.heap.size<=A
 bl:Bl V V W
def Kh (z:Zk ok c)(eN:ok.aN r0.fn=true)(hg:Gd V)(hs:s.size<=1048576)(h:∀V',Bl V V V'->ae Tz.prog ok c aS Q ⟨r0.finish<|ac<|xe s,cs,V'⟩):ae Tz.prog ok c aS Q ⟨ai Tz.prog 5 #[ac s] .normal,r0::cs,V⟩:=by
 replace h:Hid _:=h;have E:=z.E;have C:ok.aN 5=true:=z.f;obtain⟨n,hn⟩:∃n,te s=n:=⟨_,rfl⟩;have a9:=oE 10 s;refine ae.en Tz.func5 rfl Tryz.ntmps5 iE ?_;refine ae.ck E C [_] _ λK R τ d hK J=>?_
 simp only[ak];go_wp2;refine hK.out _ _<|ae.un ?_;clear hK J K R;refine ae.seq E C<|ae.ck E C [_] _ λK R τ d hK J=>?_;simp only[ak];by_cases h1:10000<s.size
 .have nv:(10000:Int)<s.size:=ab;go_wp2;refine hK.out _ _<|ae.un ?_;clear hK J K R;refine ae.cond E C (t:=true) rfl<|ae.ck E C [_] _ λK R τ d hK J=>?_;simp only[ak];go_wp2;have h2:=h.out V<|Bl.refl _ _;rw[show xe s=⟨#[116,111,111,32,108,111,110,103,10]⟩ from if_pos (.inl h1)]at h2;exact hK.out _ _<|ae.un<|ae.ret E C<|ae.lv (v:=ac ⟨#[116,111,111,32,108,111,110,103,10]⟩) E eN Tz.func5 (λτ d=>aI (fn:=Tryz.f5) rfl _ _ _) h2
 have nv:¬(10000:Int)<s.size:=ab;go_wp2;refine hK.out _ _<|ae.un ?_;clear hK J K R;refine ae.cond E C (t:=false) rfl<|ae.skip E C<|ae.ck E C [_] _ λK R τ d hK J=>?_;have H:=Qp s hs<|re V τ d;rw[hn]at H;simp only[ak];go_wp2_with(go_at_call 8;refine H.mono ?_;rintro e U ⟨rfl,bb,hO,O⟩)
 refine hK.out _ _ ?_;clear hK J K R H;obtain⟨D,hD⟩:∃D,V.heap.size=D:=⟨_,rfl⟩;rw[show(re V τ d).heap.size=D from hD]at hO⊢;replace O:=Bl.kH O;refine ae.seq E C<|ae.ck E C [_] _ λK R τ d hK J=>?_;simp only[ak];by_cases h2:200<n
 .have Mf:(200:Int)<n:=ab;go_wp2;refine hK.out _ _<|ae.un ?_;clear hK J K R;refine ae.cond E C (t:=true) rfl<|ae.ck E C [_] _ λK R τ d hK J=>?_;simp only[ak];go_wp2;have h3:=h.out U O;rw[show xe s=⟨#[116,111,111,32,108,111,110,103,10]⟩ from if_pos (.inr<|hn▸h2)]at h3;exact hK.out _ _<|ae.un<|ae.ret E C<|ae.lv (v:=ac ⟨#[116,111,111,32,108,111,110,103,10]⟩) E eN Tz.func5 (λτ d=>aI (fn:=Tryz.f5) rfl _ _ _) h3
 have Mf:¬(200:Int)<n:=ab;rw[show xe s=(pV (d9 10 s) n).2 by rw[xe,if_neg (by rw[hn];omega),hn]]at h;go_wp2;refine hK.out _ _<|ae.un ?_;clear hK J K R;refine ae.cond E C (t:=false) rfl<|ae.skip E C<|ae.ck E C [_,_,_] _ λK R τ d hK J=>?_;let⟨W2,e2,Y,b2⟩:=DB (re U τ d) #[(0:Int),(2:Int),av none 0 0,av none 0 0] 35;have H:=DG (re U τ d).heap.size W2;simp only[ak];go_wp2_with(go_at_call 9;refine H.mono ?_;rintro e w3 ⟨rfl,hM,Z⟩)
 have Pq:=(afM.1 hO.1.choose_spec.1).1;have h7:=hg.1;replace b2:=Bl.kH b2;have b4:=Bl.of<|(afB _ w3).alloc (afK _)<|.cells #[ad none,av none 0 0] 41;have IR:=Bs.new w3;have FP:=Z.size;replace Z:=(Bl.of Z).trans b4 Z.size;have Sk:(w3.alloc<|.cells #[ad none,av none 0 0] 41).heap[W2.heap.size]?=_:=(b4.block _ (afM.1 hM).1).trans hM;have aF:=(afM.1 Y).1;have k4:=(Z.block _ aF).trans Y;generalize w3.alloc (.cells #[ad none,av none 0 0] 41)=W4 at*;have P0:Sn V s U.heap.size W2.heap.size w3.heap.size D 0 (av none 0 0) W4:=by
  have bl:=(O.trans b2 O.size).trans Z<|afN O.size b2.size;refine⟨⟨(yj _ 0).1,hg.bl bl,afN h7 O.size,none,0,none,0,k4,⟨⟨λ_=>⟨rfl,rfl⟩,λ_ h=>nomatch h⟩,⟨λ_=>⟨rfl,rfl⟩,λ_ h=>nomatch h⟩,afK _,λa h=>by rcases h with h|h<;>cases h⟩,λ_=>rfl⟩,Sk,IR,.inr rfl,hO.same<|(Z.block D<|afL Pq b2.size).trans<|b2.block D Pq,?_,bl⟩;have:=O.size;replace aF:U.heap.size<W2.heap.size:=aF;omega
 refine hK.out _ _ ?_;clear hK J K R H e2;rw[show(re U τ d).heap.size=U.heap.size from rfl];generalize U.heap.size=B at P0⊢;generalize W2.heap.size=M at P0⊢;generalize w3.heap.size=A at P0⊢;clear O b2 Z b4 IR Sk hM Y k4 aF hO Pq;refine ae.seq E C<|ae.ck E C [_] _ λK R τ d hK J=>?_;simp only[ak];go_wp2;refine hK.out _ _<|ae.un ?_;clear hK J K R;refine ae.block E C<|ae.loop E C ?_;refine ae.uy E C (λj a' w'=>∃(i:Nat) (y:ay),i+j=n/\Sn V s B M A D i y w'/\jI a' (rW 35 [(5,.map<|some M),(6,ad A),(22,av (some ⟨D,0,none⟩) n<|au s.data.toList 10+1),(23,a4 .i64 n),(24,a4 .i64 i)])) ?_ n _ _ ⟨0,_,ab,P0,rfl,rfl⟩;clear P0;intro j a W ⟨i,y,mz,P,hf⟩ ih;obtain⟨u,rfl⟩:=hf.open;let⟨eF,be⟩:=yj (d9 10 s) i;by_cases hj:i<n
 .have a8:(i:Int)<n:=ab;have a7:=zQ eF (au (d9 10 s i).data.toList 32)<|d9 32<|d9 10 s i;refine ae.ck E C [_,_] _ λK R τ d hK J=>?_
  simp only[ak];go_wp2;refine hK.out _ _<|ae.un ?_;clear hK J K R;refine ae.seq E C<|ae.block E C<|ae.ck E C [_] _ λK R τ d hK J=>?_;have c0:(re W τ d).cell? ⟨D,i,none⟩=some (ac<|d9 10 s i):=P.ln.2 i ab;simp only[ak];go_wp2;refine hK.out _ _<|ae.un<|ae.seq E C<|ae.rg E C<|ae.oc E C 0 2 λK τ d hK=>?_;simp only[ap];go_wp2;refine hK.out _ _<|ae.un ?_;clear hK J K R c0;refine ae.aZ E (i:=2) rfl rfl z.f (λw=>od)<|Hs (s:=d9 10 s i) z C P.ss P.mp (afN (rh _ _ _) ab) λV1 s1 k1=>?_;rw[ar rfl];have TT:=P.ss.lt;have B1:Bs V1 (A+1) A y (pV (d9 10 s) i).2:=P.bs.same (λk hk he=>k1.block k hk (by rcases he with rfl|he;have:=P.lo;omega;have:=dh P.bs.own k he;have:=P.lo;omega)) k1.size;have M1:V1.heap[M]?=_:=(k1.block M (afM.1 P.mp).1 (by rintro rfl;let⟨_,_,_,_,kk,_⟩:=P.ss.ex;have:=P.mp;rw[kk]at this;cases this)).trans P.mp;let⟨lc,Zu,bi⟩:=P.ln.1;have D1:=P.ln.same<|k1.block D (afM.1 Zu).1 (by rintro rfl;let⟨_,_,_,_,kk,_⟩:=P.ss.ex;rw[kk]at Zu;cases Zu);have l1:Bl V V V1:=P.bl.trans (⟨k1.size,λk hk=>k1.block k (Nat.lt_trans hk TT)<|af1 hk⟩:Bl B W V1) P.lo.1;have h7:=P.ss.lo;refine ae.aZ E (i:=3) rfl rfl z.f (λw=>od)<|vb (t:=(uw (pV (d9 10 s) i).1<|d9 10 s i).2) E z.G z.f z.f C B1 (by have:=a7.2;show _+(bG _ _ _).2.size<=_;omega) λV2 y2 B2 Y=>?_;rw[ar rfl];obtain⟨lc,Zu,-⟩:=D1.1;have D2:=D1.same<|Y.at_ B1 Zu bh bh;have T:∀{W:ax} {s:ByteArray} {y:ay},Bs W (A+1) A y s->W.heap[M]?=some (.map (sL B 0 tW).toArray 7)->M≠A/\y.ownBlock≠some M:=λ{W s y} hb hm=>by
   refine⟨?_,λe=>?_⟩
   .rintro rfl;let⟨x,hB,_⟩:=hb.bl;rw[hB]at hm;cases hm
   .obtain⟨_,⟨rfl,_⟩|⟨q,bj,bk,rfl,_,hq,_⟩⟩:=hb.own
    .cases e
    .cases e;rw[hq]at hm;cases hm
  have M2:V2.heap[M]?=_:=(Y.keep M (afM.1 M1).1 (T B1 M1).1 (T B1 M1).2).trans M1;have s2:=s1.keep<|Y.keeps B1 P.ne (by have:=P.lo;omega);have l2:=l1.trans (Y.low B1) P.lo.2.2;refine ae.regionEnd E C<|ae.rg E C<|ae.aZ E (i:=0) rfl rfl z.f (λw=>od)<|Ds (x:=10) E z.G z.f z.f C B2 (by rw[aa];have:=a7.2;show _+(bG _ _ _).2.size+1<=_;omega) λV3 y3 B3 k3=>?_;rw[ar rfl];obtain⟨lc,Zu,-⟩:=D2.1;have P3:Sn V s B M A D (i+1) y3 V3:=⟨s2.keep<|k3.keeps B2 (.inl (by rw[aa];have:=Qm (pV (d9 10 s) i).1 (au (d9 10 s i).data.toList 32)<|d9 32<|d9 10 s i;show _+(bG _ _ _).2.size≠0;omega)) (by have:=P.lo;omega),(k3.keep M (afM.1 M2).1 (T B2 M2).1 (T B2 M2).2).trans M2,B3,.inl (by show(_++_++_:ByteArray).size≠0;rw[aa];show _+1≠0;omega),D2.same<|k3.at_ B2 Zu bh bh,P.lo,l2.trans (k3.low B2) P.lo.2.2⟩;refine ae.regionEnd E C<|ae.inBlock E C<|ae.rg E C<|ae.oc E C 0 2 λK τ d hK=>?_;have hw:=rJ (i:=i) ab;simp only[ap,aB];go_wp2;clear hw;exact hK.out _ _<|ae.un<|ae.regionEnd E C<|ih (j-1) ab _ _ ⟨i+1,y3,ab,P3,rfl,rfl⟩
 .obtain rfl:i=n:=ab;have a8:¬(i:Int)<i:=ab;refine ae.ck E C [_] _ λK R τ d hK J=>?_
  simp only[ak];go_wp2;refine hK.out _ _<|ae.un ?_;clear hK J K R;refine ae.seq E C<|ae.cond E C (t:=false) rfl<|ae.exit E C rfl<|ae.ck E C [_] _ λK R τ d hK J=>?_;have H:=LD (P.bs.to<|Al _ τ d) P.ne ab;simp only[ak];go_wp2_with(go_at_call 13;refine H.mono ?_;rintro e w6 ⟨rfl,b6⟩)
  have l6:=P.bl.trans (⟨b6.size,b6.block⟩:Bl (A+1) W w6)<|Nat.le_succ_of_le P.lo.2.2;exact hK.out _ _<|ae.ret E C<|ae.lv (v:=ac (pV (d9 10 s) i).2) E eN Tz.func5 (λτ d=>aI (fn:=Tryz.f5) rfl _ _ _)<|h.out _ l6
end
def VS [Gl](z:Zk ok c)(u:ok.aN 3=true)(Y:Gd V):ae Tz.prog ok c aS (λv J=>v=a0 true/\Bl V V J) ⟨ai Tz.prog 3 #[ac s] .normal,[],V⟩:=by
 have E:=z.E;have U:Hid (∀(t:Array ay) (w':ax) (C:List Item),Bl V V w'->t.getD 2 undef=a0 true->ae Tz.prog ok c aS (λv J=>v=a0 true/\Bl V V J) ⟨{(base 3).at ⟨t,[]⟩ C with mode:=.returning},[],w'⟩):=λt w' C O Z=>
  ae.ends (λτ d=>⟨rfl,a0 true,⟨rfl,rfl,rfl,_,Tz.func3,Z▸aI (fn:=Tryz.f3) rfl t Tz.prog (re w' τ d)⟩,rfl,⟨O.size,O.block⟩⟩) ⟨_,2,Tz.func3,rfl⟩
 refine ae.en Tz.func3 rfl Tryz.ntmps3 iE ?_;refine ae.ck E u [_] _ λK R τ d hK x=>?_
 simp only[ak];go_wp2;refine hK.out _ _<|ae.un ?_;clear hK x K R;refine ae.seq E u<|ae.ck E u [_] _ λK R τ d hK x=>?_;simp only[ak];by_cases O:1048576<s.size
 .have nv:(1048576:Int)<s.size:=ab;go_wp2;refine hK.out _ _<|ae.un ?_;clear hK x K R;refine ae.cond E u (t:=true) rfl<|ae.ck E u [_] _ λK R τ d hK x=>?_;simp only[ak];go_wp2;exact hK.out _ _<|ae.un<|ae.ret E u<|U.out _ _ _ (Bl.refl _ _) rfl
 have nv:¬(1048576:Int)<s.size:=ab;go_wp2;refine hK.out _ _<|ae.un ?_;clear hK x K R;refine ae.cond E u (t:=false) rfl<|ae.skip E u<|ae.ck E u [_] _ λK R τ d hK x=>?_;have H:=Q4 s ab<|re V τ d;simp only[ak];go_wp2_with(go_at_call 4;refine H.mono ?_;rintro e w1 ⟨rfl,D⟩)
 refine hK.out _ _ ?_;clear hK x K R H;replace D:=Bl.kH D;refine ae.seq E u<|ae.rg E u<|ae.oc E u 0 1 λK τ d hK=>?_;simp only[ap];go_wp2;refine hK.out _ _<|ae.un ?_;clear hK K;refine ae.aZ E (i:=1) rfl rfl z.f (λw=>od)<|Kh (s:=s) z u (Y.bl D) ab λV2 T=>?_;rw[ar rfl];replace T:=D.trans T D.size;refine ae.oc E u 2 1 λK τ d hK=>?_
 simp only[ap,aB];go_wp2;refine hK.out _ _<|ae.un<|ae.regionEnd E u<|ae.seq E u<|ae.ck E u [_] _ λK R τ d hK x=>?_;simp only[ak];go_wp2;refine hK.out _ _<|ae.un<|ae.cond E u (t:=false) rfl<|ae.skip E u<|ae.ck E u [_] _ λK R τ d hK x=>?_;simp only[ak];go_wp2;exact hK.out _ _<|ae.un<|ae.ret E u<|U.out _ _ _ T rfl
