import Derived.Test.YthppgbjejomdiaaGreatDoorj47
import Derived.Test.YthppgbjejomdiaaGreatDoorj29
set_option linter.all false
set_option maxHeartbeats 4000000
set_option maxRecDepth 20000
open ByteArray renaming size_append->au,ext->a5,size_extract->a6
open Go renaming World->ac,Value->aj,results->aL,Frame->aV,results_tmp->a0,FuncId->a2,frozen_of_row->a4
open Go.Act renaming put->az
open Go.Frame renaming enter->ay
open Go.Instr renaming findNow->a1,typeAssert->a3
open Go.Lib renaming countByte->aI
open Go.Value renaming string->aa,slice->ad,pointer->ao,int->ax,bool->aE
open Go.World renaming cell?->av
namespace Go.Proofs.YthppgbjejomdiaaGreatDoor
open Conc Lib RowKit
variable {t:Array aj}{b:Bk}{s:ByteArray}{ok:Ctx}{c r0:aV}{fn:Func}{cs:List aV}{B r n:Nat}{g:Nat->ByteArray}{Q:aj->ac->Prop}{V W:ac}
section
variable [Gl]
def ae.enD {af8 Dr f u xs}(v:af8.funcs[f]?=some fn)(hc:fn.body=some u)(x:fn.ntmps=n)(C:xs++Array.replicate (n-xs.size) undef=t)(h:ae af8 ok c Dr Q ⟨(baseD f).at ⟨t,[]⟩ [.code u],cs,V⟩):ae af8 ok c Dr Q ⟨ay af8 f xs .deferred,cs,V⟩:=by rw[enter_atD xs v hc,x,C];exact h
omit [Gl] in
def Hf (h:fn.results=#[])(t:Array aj)(P:Program)(W:ac):(aL fn t).runT P W #[]=(.ok (.tuple #[]) W,#[]):=Prod.ext ((Sem.runT_fst P _ W #[]).trans<|results_none h t P W) (by show(aL fn t).events P W #[]=#[];simp[aL,h])
def WP (z:Zk ok c)(C:ok.aP r0.fn=true)(hm:r0.mode=.returning)(h:ae Tz.prog ok c aS Q ⟨r0,cs,V⟩):ae Tz.prog ok c aS Q ⟨Frame.enter Tz.prog 31 #[.pointer r] .deferred,r0::cs,V⟩:=by have E:=z.E;have u:ok.aP 31=true:=z.f;refine ae.enD Tz.func31 rfl Tryz.ntmps31 iI<|uK<|ae.seq E u (ae.rg E u ?_);refine ae.Dm (cs2:=r0::cs) (v:=.nilIface) E u rfl (i:=0) rfl rfl (λw=>nU) ?_ ?_;simp[wi,tryRecover,hm,Frame.at,baseD];rw[aq rfl];refine ae.oc E u 1 1 λK τ d hK=>?_;simp only[an,Act.put];go_wp2;refine hK.out _ _<|ae.un<|ae.regionEnd E u<|ae.seq E u<|ae.ck E u [_] _ λK R τ d hK D=>?_;simp only[ak];go_wp2;refine hK.out _ _<|ae.un<|ae.cond E u rfl<|ae.ret E u ?_;(have x:um r0=r0:=by unfold um;rw[hm]);refine ae.LJ E rfl rfl rfl Tz.func31 (λW=>Hf rfl _ _ W) cQ (by rw[x];exact h)
def WQ (z:Zk ok c)(Y:ok.aP r0.fn=true)(O:V.heap[r]?=some (.cells #[aa ⟨#[]⟩] 9 (0,0)))(h:∀C,C.heap[r]?=some (.cells #[aa ⟨#[98,97,100]⟩] 9 (0,0))->Kb r V C->ae Tz.prog ok c aS Q ⟨{r0 with mode:=.returning},cs,C⟩):ae Tz.prog ok c aS Q ⟨ay Tz.prog 31 #[ao r] .deferred,FK r0::cs,V⟩:=by
 have E:=z.E;have u:ok.aP 31=true:=z.f;refine ae.enD Tz.func31 rfl Tryz.ntmps31 iI<|uK<|ae.seq E u (ae.rg E u ?_);refine ae.Dm (cs2:={r0 with mode:=.panicking [{v:=.iface 64<|.agg #[],recovered:=true}]}::cs) (v:=.iface 64<|.agg #[]) E u rfl (i:=0) rfl rfl (λw=>nU) ?_ ?_;simp[wi,tryRecover,FK,Frame.at,baseD];rw[aq rfl];refine ae.oc E u 1 1 λK τ d hK=>?_;simp only[an,az];go_wp2;refine hK.out _ _<|ae.un<|ae.regionEnd E u<|ae.ck E u [_,_] _ λK R τ d hK hR=>?_;have ta:∀w,(a3 (.iface 64<|.agg #[]) 20 64 true).run Tz.prog w=.ok (.tuple #[.agg #[],aE true]) w:=λw=>by obtain⟨T,D⟩:∃T,Tz.prog.underlying 64=some (.struct T):=⟨_,(Tz.al Tryz.underlying64)⟩;simp[a3,run_underlying D]
 simp[ak];go_wp2;have Z:=(agy.1 O).1;have x:=Bl.kP<|(agn _<|re V τ d).alloc ab<|.cells #[] 64;generalize (re V τ d).alloc (.cells #[] 64)=J at x⊢;refine hK.out _ _<|ae.rg E u<|ae.oc E u 0 1 λK τ d hK=>?_;have U:(re J τ d).heap[r]?=_:=(x.block r Z).trans O;have c0:(re J τ d).cell? r=some (aa ⟨#[]⟩):=by grind [av]
 have c1:∀j,(re J τ d).frozen? ⟨r,j,none⟩=false:=λj=>a4 _ _ j _ _ U;simp only[an];go_wp2;refine hK.out _ _<|ae.regionEnd E u<|ae.off E u<|ae.LJ E rfl rfl rfl Tz.func31 (λW=>Hf rfl _ _ W) Y<|h _ ?_ ⟨?_,λk hk hn=>(agp _ _ _ _ hn).trans<|x.block k hk⟩;rw[heap_setCell_same _ _ 0 _ _ _ U];rfl;rw[iA];exact x.size
end
section
variable [Gl]{k:Nat}
structure Knows (ok c Q B b k)(g:Nat->ByteArray)(f:a2):Prop where
 i:inZ f=true
 lk:∃j,a1 .string (.string<|g 0) (sW B 0 uk) 0=some (some (j,Pp B f))
 cl:∀a w,Sem.run Tz.prog (callFunc f a) w=.ok (.enter f a) w
 wk:∀(r0:aV) (cs:List aV) (V:ac) (D o kc:Nat),SS V B b->D<V->IT V D o k (λi=>g<|i+1)->O6 ok c Q V B b (bG b k g) r0 cs->ae Tz.prog ok c aS Q ⟨ay Tz.prog f #[.pointer B,.slice (some ⟨D,o,none⟩) k kc] .normal,r0::cs,V⟩
def knows (z:Zk ok c)(C:(g 1).size<=10000):(∃f,Knows ok c Q B b k g f)\/a1 .string (.string<|g 0) (sW B 0 uk) 0=some none/\bG b k g=(b,⟨#[98,97,100]⟩):=by by_cases J:g 0=⟨#[108,97,110,100]⟩;exact .inl ⟨23,aO,⟨0,by rw[J];rfl⟩,Tz.call23,λr0 cs V D o x hS u v h=>VW z hS u v C J h⟩;by_cases O:g 0=⟨#[108,101,97,118,101]⟩;exact .inl ⟨24,aO,⟨1,by rw[O];rfl⟩,Tz.call24,λr0 cs V D o x hS u v h=>RP z hS u v C O h⟩;by_cases R:g 0=⟨#[100,114,111,112]⟩;exact .inl ⟨25,aO,⟨2,by rw[R];rfl⟩,Tz.call25,λr0 cs V D o x hS u v h=>VV z hS u v R h⟩;by_cases T:g 0=⟨#[114,111,117,110,100]⟩;exact .inl ⟨26,aO,⟨3,by rw[T];rfl⟩,Tz.call26,λr0 cs V D o x hS u v h=>RQ z hS u v T h⟩;by_cases U:g 0=⟨#[116,105,99,107]⟩;exact .inl ⟨27,aO,⟨4,by rw[U];rfl⟩,Tz.call27,λr0 cs V D o x hS u v h=>VZ z hS u v U h⟩;by_cases Y:g 0=⟨#[112,108,97,110]⟩;exact .inl ⟨28,aO,⟨5,by rw[Y];rfl⟩,Tz.call28,λr0 cs V D o x hS u v h=>VX z hS Y h⟩;by_cases Z:g 0=⟨#[115,117,114,101]⟩;exact .inl ⟨29,aO,⟨6,by rw[Z];rfl⟩,Tz.call29,λr0 cs V D o x hS u v h=>VY z hS Z h⟩;refine .inr ⟨?_,by grind [bG]⟩;(have hn:∀a:ByteArray,¬g 0=a->(g 0==a)=false:=λa h=>by cases hb:g 0==a;rfl;exact absurd (a5<|eq_of_beq (show((g 0).data==a.data)=true from hb)) h);simp_all [sW,uk,a1,Instr.sameNow]
omit [Gl] in
def K7 {v:ByteArray}(a:t[4]?=some (ao r))(e:W.heap[r]?=some (.cells #[aa v] 9 (0,0))):(aL Tryz.f17 t).run Tz.prog W=.ok (aa v) W:=by
 have d:W.cell? r=some (aa v):=by grind [av]
 simp[aL,go_sem,a,d]
def Io {M}(z:Zk ok c)(eU:ok.aP r0.fn=true)(hS:SS V B b)(hM:V.heap[M]?=some (.map (sW B 0 uk).toArray 7))(hs:s.size<=10000) (h:∀C,SS C B (uL b s).1->Kb B V C->ae Tz.prog ok c aS Q ⟨r0.finish<|aa (uL b s).2,cs,C⟩):ae Tz.prog ok c aS Q ⟨ay Tz.prog 17 #[.map<|some M,aa s] .normal,r0::cs,V⟩:=by
 replace h:Hid _:=h;have E:=z.E;have u:ok.aP 17=true:=z.f;have UF:=(agy.1 hM).1;refine ae.en Tz.func17 rfl Tryz.ntmps17 iI<|uK<|ae.ck E u [_] _ λK R τ d hK O=>?_;let⟨W1,e1,hA,b1,z1⟩:=Pt (re V τ d) ⟨#[]⟩;replace z1:Hid _:=z1;simp[ak];go_wp2;apply hK.out _ _;clear hK O K R e1;have eI:=z1.out;obtain⟨r,Ux⟩:∃r,(V:Nat)=r:=⟨_,rfl⟩;rw[show(re V τ d).heap.size=r from Ux]at hA eI⊢;replace b1:=Bl.kP b1;refine ae.seq E u<|ae.rg E u<|ae.oc E u 0 1 λK τ d hK=>?_;simp only[an];go_wp2;refine hK.out _ _<|ae.un ?_;clear hK K;refine ae.T8 (i:=1) (y:=.tmp 8) rfl rfl rfl rfl rfl z.f ?_;rw[aq rfl];refine ae.regionEnd E u<|ae.ck E u [_] _ λK R τ d hK O=>?_;have H:=DC s 32 (re W1 τ d) ab;obtain⟨k,hk⟩:∃k,aI s.data.toList 32=k:=⟨_,rfl⟩;rw[hk]at H;simp[ak,az];go_wp2_with(go_at_call 22;refine H.mono ?_;rintro e Y ⟨rfl,hO,b2⟩)
 refine hK.out _ _ ?_;clear hK O K R H;obtain⟨D,hD⟩:∃D,(W1:Nat)=D:=⟨_,rfl⟩;rw[show(re W1 τ d).heap.size=D from hD]at hO⊢;replace b2:=Bl.kP b2;have Z:=b1.trans b2 b1.size;have S2:=hS.bl Z;have Uy:=hS.lt;have Qa:Y.heap[M]?=_:=(Z.block M UF).trans hM;have Uv:Y.heap[r]?=_:=(b2.block r ab).trans hA;have P7:=hO.1.choose_spec.1;replace P7:=(agy.1 P7).1;obtain⟨g,T⟩:∃g,eh 32 s=g:=⟨_,rfl⟩;have a9:uL b s=bG b k g:=by unfold uL;rw[hk,T]
 have bb:(g 1).size<=10000:=by rw[<-T];exact agz (rB _ _ _) hs
 rw[T]at hO;rw[a9]at h;obtain⟨o,Ti,hT⟩:∃o,(∀w,(Instr.slice 33 (ad (some ⟨D,0,none⟩) (k+1)<|k+1) (some<|ax .i64 1) none none).run Tz.prog w=.ok (ad (some ⟨D,o,none⟩) k k) w)/\IT Y D o k λi=>g (i+1):=by by_cases h0:k=0;subst h0;exact⟨0,λw=>by go_simp,λi u=>absurd u ab⟩;have BH:¬((k:Int)+1<1):=ab;exact⟨1,λw=>by go_simp,λi u=>by have:=hO.2 (1+i) ab;rwa [Nat.add_comm 1 i]at this⊢⟩
 have c0:Y.cell? D=some (aa<|g 0):=hO.2 0 ab;have hf:∃fn,Tz.prog.funcs[(31:Nat)]?=some fn/\fn.body.isSome=true/\(fn.name== "runtime.NumGoroutine")=false:=⟨_,Tz.func31,rfl,by kernel_rfl⟩;have a7:Hid (∀{W W':ac} {x:ByteArray},W.heap[r]?=some (.cells #[aa x] 9 (0,0))->(W:Nat)<=W'->(∀k:Nat,k<W->k≠r->W'.heap[k]?=W.heap[k]?)->O5 W W'):=λ{W W' x} hB hz e=>⟨hz,λk hk T=>e k hk (by rintro rfl;have:=hS.lo;rcases T with T|⟨x,T⟩|⟨x,y,_,T⟩;omega;simp[av,hB]at T;simp[av,hB]at T)⟩;have BE:Hid (∀t J C v,t[4]?=some (ao r)->C.heap[r]?=some (.cells #[aa v] 9 (0,0))->ae Tz.prog ok c aS Q ⟨r0.finish<|aa v,cs,C⟩->ae Tz.prog ok c aS Q ⟨{(base 17).at ⟨t,[⟨.fn (.func 31) #[ao r],#[]++#[]⟩]⟩ J with mode:=.returning},r0::cs,C⟩):=λt J C v h4 hB hk=>ae.Gz E (by simp) rfl hf z.f<|WP z u rfl<|ae.lv E eU Tz.func17 (λτ d=>K7 h4 hB) hk;have bad:Hid (∀t J C,t[4]?=some (ao r)->C.heap[r]?=some (.cells #[aa ⟨#[]⟩] 9 (0,0))->bG b k g=(b,⟨#[98,97,100]⟩)->SS C B b->Kb B Y C->ae Tz.prog ok c aS Q ⟨FK<|(base 17).at ⟨t,[⟨.fn (.func 31) #[ao r],#[]++#[]⟩]⟩ J,r0::cs,C⟩):=λt J C h4 hB hl s1 U=>ae.Gz E (by simp[FK]) rfl hf z.f<|WQ z u hB λV2 qu k2=>ae.lv E eU Tz.func17 (λτ d=>K7 h4 qu) (by have:=h.out V2;rw[hl]at this;exact this (s1.keep<|a7.out hB k2.size k2.block) ⟨agz Z.size<|agz U.size k2.size,λq hq hn=>(k2.block q (by have:=Z.size;have:=U.size;omega) ab).trans<|(U.block q (by have:=Z.size;omega) hn).trans<|Z.block q hq⟩);rcases knows (k:=k) z bb with⟨f,⟨fi,⟨j,fl⟩,fc,fw⟩⟩|⟨fl,hl⟩
 .refine ae.ck E u [_] _ λK R τ d hK O=>?_;have lk:=Vj (w:=re Y τ d) (M:=M) Qa (g 0) fl;have aG:(re Y τ d).cell? D=some (aa<|g 0):=c0;simp only[ak];go_wp2;refine hK.out _ _<|ae.un ?_;clear hK O K R lk aG;refine ae.seq E u<|ae.ck E u [_] _ λK R τ d hK O=>?_;simp only[ak];go_wp2;refine hK.out _ _<|ae.un<|ae.cond E u (t:=false) rfl<|ae.skip E u<|ae.seq E u<|ae.rg E u<|ae.oc E u 0 3 λK τ d hK=>?_;simp only[an];go_wp2;refine hK.out _ _<|ae.un ?_;clear hK O K R;refine ae.aZ E (i:=3) rfl rfl (z.i f fi) (λw=>by simp[execOp,resolve,invoke,Act.eval,go_sem,Pp,fc])<|fw _ _ _ D o k S2 P7 hT ⟨⟨u,rfl⟩,λC s1 U=>?_,λC e s1 U=>bad.out _ _ _ rfl ((U.block r ab ab).trans Uv) e s1 U⟩;have OM:C.heap[r]?=_:=(U.block r ab ab).trans Uv;rw[aq rfl];refine ae.oc E u 4 1 λK τ d hK=>?_;have x0:(re C τ d).cell? r=some (aa ⟨#[]⟩):=by have h:(re C τ d).heap[r]?=_:=OM;simp[av,h]
  have x1:∀j,(re C τ d).frozen? ⟨r,j,none⟩=false:=λj=>a4 _ _ j _ _ OM;simp only[an,az];go_wp2;have SV:=heap_setCell_same (re C τ d) r 0 _ _ (aa (bG b k g).2) OM;have Ta:∀q:Nat,q≠r->((re C τ d).setCell r<|aa (bG b k g).2).heap[q]?=C.heap[q]?:=λq hq=>agp _ _ _ _ hq;have a8:=iA (re C τ d) r<|aa (bG b k g).2;refine hK.out _ _<|ae.regionEnd E u<|ae.ret E u<|BE.out _ _ _ _ rfl SV<|h.out _ (s1.keep<|a7.out OM (Nat.le_of_eq a8.symm) λq _ hq=>Ta q hq) ⟨?_,λq hq hn=>?_⟩;have:=Z.size;have:=U.size;show _<=((re C τ d).setCell r _).heap.size;rw[a8];show (V:Nat)<=(C:Nat);omega;exact(Ta q ab).trans<|(U.block q (by have:=Z.size;omega) hn).trans<|Z.block q hq
 refine ae.ck E u [_] _ λK R τ d hK O=>?_;have lk:=Vk (w:=re Y τ d) (M:=M) Qa (g 0) fl;have aG:(re Y τ d).cell? D=some (aa<|g 0):=c0;simp only[ak];go_wp2;refine hK.out _ _<|ae.un ?_;clear hK O K R lk aG;refine ae.seq E u<|ae.ck E u [_] _ λK R τ d hK O=>?_;simp only[ak];go_wp2;refine hK.out _ _<|ae.un<|ae.cond E u (t:=true) rfl<|ae.rg E u<|ae.oc E u 0 2 λK τ d hK=>?_;simp only[an];go_wp2;exact hK.out _ _<|ae.un<|ae.uX rfl rfl rfl rfl rfl<|bad.out _ _ _ rfl Uv hl S2<|Kb.of<|Bl.refl _ _
end
def DJ:∀(n:Nat) (b:Bk) (o:ByteArray),(eM n b o).2.size≠0
 |0,b,o=>by
  show(o++⟨#[110,111,119,32]⟩++d7 b.now).size≠0;rw[au,au];show o.size+4+_≠_;omega
 |n+1,b,o=>by
  rw[eM];split
  .show(o++(⟨#[99,111,100,101,32]⟩++d7 2)).size≠0;rw[au,au];show o.size+(5+_)≠_;omega
  .exact DJ n _ _
def zj (x):(codeF x).2.size≠0:=by unfold codeF;simp only[au];show 5+_≠_;omega
def QW (b k g):(bG b k g).2.size≠0:=by (have a:(((b,⟨#[98,97,100]⟩):Bk×ByteArray)).2.size≠0:=show 3≠0 by decide);unfold bG;simp only;split;split;exact zj _;omega;split;exact zj _;split;exact zj _;split;split;exact DJ _ _ _;omega;split;show(lg b).size≠0;unfold lg;simp only[au];show _+(6+_+6+_)≠_;omega;split;show(if _ then _ else _:ByteArray).size≠0;split<;>decide;omega
section
variable {W':ac}{N A:Nat}{y:aj}
def TC.keeps (a:TC W W' A y)(h:Bs W N A y s)(d:s.size≠0\/y=ad none 0 0)(m:7<=A):O5 W W':=by have o:=h.lo;refine⟨a.sz,λk f u=>a.keep k f ?_ λe=>?_⟩;rintro rfl;let⟨x,v,i⟩:=h.bl;grind [av];obtain⟨_,⟨rfl,_⟩|⟨q,j,l,rfl,_,w,z⟩⟩:=h.own;cases e;cases e;have C:=d.resolve_right λe=>cQ;obtain⟨x,i⟩:∃x,s.data.toList[0]?=some x:=⟨_,agR (by rw[Array.length_toList];show 0<s.size;omega)⟩;have D:W.cell? q=some (ax .u8 x.toNat):=h.own.cells rfl 0 (ax .u8 x.toNat) (by grind [strCells]);grind
end
section
variable [Gl]
omit [Gl] in
def ky.same {w w':ac}{b:Nat}(h:ky w b n g)(e:w'.heap[b]?=w.heap[b]?):ky w' b n g:=by let⟨⟨cs,a,d⟩,f⟩:=h;exact⟨⟨cs,e.trans a,d⟩,λi j=>by have:=f i j;unfold av at this⊢;rw[e];exact this⟩
structure Sn (V:ac)(s)(B M A D:Nat)(i y W):Prop where
 ss:SS W B (p8 (eh 10 s) i).1
 mp:W.heap[M]?=some (.map (sW B 0 uk).toArray 7)
 bs:Bs W (A+1) A y (p8 (eh 10 s) i).2
 ne:(p8 (eh 10 s) i).2.size≠0\/y=ad none 0 0
 ln:ky W D (aI s.data.toList 10+1) (eh 10 s)
 lo:(V:Nat)<=B/\B<A/\(V:Nat)<=A
 bl:Bl V V W
def A6 (z:Zk ok c)(eU:ok.aP r0.fn=true)(hg:Gd V)(hs:s.size<=1048576)(h:∀V',Bl V V V'->ae Tz.prog ok c aS Q ⟨r0.finish<|aa<|sE s,cs,V'⟩):ae Tz.prog ok c aS Q ⟨ay Tz.prog 5 #[aa s] .normal,r0::cs,V⟩:=by
 replace h:Hid _:=h;have E:=z.E;have C:ok.aP 5=true:=z.f;obtain⟨n,hn⟩:∃n,tC s=n:=⟨_,rfl⟩;have a9:=oN 10 s;refine ae.en Tz.func5 rfl Tryz.ntmps5 iI ?_;refine ae.ck E C [_] _ λK R τ d hK J=>?_;simp only[ak];go_wp2;refine hK.out _ _<|ae.un ?_;clear hK J K R;refine ae.seq E C<|ae.ck E C [_] _ λK R τ d hK J=>?_;simp only[ak];by_cases h1:10000<s.size
 .have oy:(10000:Int)<s.size:=ab;go_wp2;refine hK.out _ _<|ae.un ?_;clear hK J K R;refine ae.cond E C (t:=true) rfl<|ae.ck E C [_] _ λK R τ d hK J=>?_;simp only[ak];go_wp2;have h2:=h.out V<|Bl.refl _ _;rw[show sE s=⟨#[116,111,111,32,108,111,110,103,10]⟩ from if_pos (.inl h1)]at h2;exact hK.out _ _<|ae.un<|ae.ret E C<|ae.lv (v:=aa ⟨#[116,111,111,32,108,111,110,103,10]⟩) E eU Tz.func5 (λτ d=>a0 (fn:=Tryz.f5) rfl _ _ _) h2
 have oy:¬(10000:Int)<s.size:=ab;go_wp2;refine hK.out _ _<|ae.un ?_;clear hK J K R;refine ae.cond E C (t:=false) rfl<|ae.skip E C<|ae.ck E C [_] _ λK R τ d hK J=>?_;have H:=QZ s hs<|re V τ d;rw[hn]at H;simp only[ak];go_wp2_with(go_at_call 14;refine H.mono ?_;rintro e U ⟨rfl,bb,hO,O⟩)
 refine hK.out _ _ ?_;clear hK J K R H;obtain⟨D,hD⟩:∃D,(V:Nat)=D:=⟨_,rfl⟩;rw[show(re V τ d).heap.size=D from hD]at hO⊢;replace O:=Bl.kP O;refine ae.seq E C<|ae.ck E C [_] _ λK R τ d hK J=>?_;simp only[ak];by_cases h2:200<n
 .have MX:(200:Int)<n:=ab;go_wp2;refine hK.out _ _<|ae.un ?_;clear hK J K R;refine ae.cond E C (t:=true) rfl<|ae.ck E C [_] _ λK R τ d hK J=>?_;simp only[ak];go_wp2;have h3:=h.out U O;rw[show sE s=⟨#[116,111,111,32,108,111,110,103,10]⟩ from if_pos (.inr<|hn▸h2)]at h3;exact hK.out _ _<|ae.un<|ae.ret E C<|ae.lv (v:=aa ⟨#[116,111,111,32,108,111,110,103,10]⟩) E eU Tz.func5 (λτ d=>a0 (fn:=Tryz.f5) rfl _ _ _) h3
 have MX:¬(200:Int)<n:=ab;rw[show sE s=(p8 (eh 10 s) n).2 by rw[sE,if_neg (by rw[hn];omega),hn]]at h;go_wp2;refine hK.out _ _<|ae.un ?_;clear hK J K R;refine ae.cond E C (t:=false) rfl<|ae.skip E C<|ae.ck E C [_,_,_] _ λK R τ d hK J=>?_;let⟨W2,e2,Y,b2⟩:=DY (re U τ d) #[(0:Int),(2:Int),ad none 0 0,ad none 0 0] 44;have H:=D9 (re U τ d).heap.size W2;simp only[ak];go_wp2_with(go_at_call 15;refine H.mono ?_;rintro e w3 ⟨rfl,hM,Z⟩)
 have P7:=(agy.1 hO.1.choose_spec.1).1;have h7:=hg.1;replace b2:=Bl.kP b2;have b4:=Bl.of<|(agn _ w3).alloc (agw _)<|.cells #[ao none,ad none 0 0] 49;have Jr:=Bs.new w3;have ED:=Z.size;replace Z:=(Bl.of Z).trans b4 Z.size;have S4:(w3.alloc<|.cells #[ao none,ad none 0 0] 49).heap[(W2:Nat)]?=_:=(b4.block _ (agy.1 hM).1).trans hM;have aG:=(agy.1 Y).1;have k4:=(Z.block _ aG).trans Y;generalize w3.alloc (.cells #[ao none,ad none 0 0] 49)=W4 at*;have P0:Sn V s U W2 w3 D 0 (ad none 0 0) W4:=by have bl:=(O.trans b2 O.size).trans Z<|agz O.size b2.size;refine⟨⟨(yD _ 0).1,hg.bl bl,agz h7 O.size,none,0,none,0,k4,⟨⟨λ_=>⟨rfl,rfl⟩,λ_ h=>nomatch h⟩,⟨λ_=>⟨rfl,rfl⟩,λ_ h=>nomatch h⟩,agw _,λa h=>by rcases h with h|h<;>cases h⟩,λ_=>rfl⟩,S4,Jr,.inr rfl,hO.same<|(Z.block D<|agx P7 b2.size).trans<|b2.block D P7,?_,bl⟩;have:=O.size;replace aG:(U:Nat)<W2:=aG;omega
 refine hK.out _ _ ?_;clear hK J K R H e2;rw[show(re U τ d).heap.size=(U:Nat) from rfl];generalize (U:Nat)=B at P0⊢;generalize (W2:Nat)=M at P0⊢;generalize (w3:Nat)=A at P0⊢;clear O b2 Z b4 Jr S4 hM Y k4 aG hO P7;refine ae.seq E C<|ae.ck E C [_] _ λK R τ d hK J=>?_;simp only[ak];go_wp2;refine hK.out _ _<|ae.un ?_;clear hK J K R;refine ae.block E C<|ae.loop E C ?_;refine ae.uN E C (λj a' w'=>∃(i:Nat) (y:aj),i+j=n/\Sn V s B M A D i y w'/\jz a' (rW 35 [(5,.map<|some M),(6,ao A),(22,ad (some ⟨D,0,none⟩) n<|aI s.data.toList 10+1),(23,ax .i64 n),(24,ax .i64 i)])) ?_ n _ _ ⟨0,_,ab,P0,rfl,rfl⟩;clear P0;intro j a W ⟨i,y,mI,P,hf⟩ ih;obtain⟨u,rfl⟩:=hf.open;let⟨eK,be⟩:=yD (eh 10 s) i;by_cases hj:i<n
 .have a8:(i:Int)<n:=ab;have a7:=Am eK (aI (eh 10 s i).data.toList 32)<|eh 32<|eh 10 s i;refine ae.ck E C [_,_] _ λK R τ d hK J=>?_;simp only[ak];go_wp2;refine hK.out _ _<|ae.un ?_;clear hK J K R;refine ae.seq E C<|ae.block E C<|ae.ck E C [_] _ λK R τ d hK J=>?_;have c0:(re W τ d).cell? ⟨D,i,none⟩=some (aa<|eh 10 s i):=P.ln.2 i ab;simp only[ak];go_wp2;refine hK.out _ _<|ae.un<|ae.seq E C<|ae.rg E C<|ae.oc E C 0 2 λK τ d hK=>?_;simp only[an];go_wp2;refine hK.out _ _<|ae.un ?_;clear hK J K R c0;refine ae.aZ E (i:=2) rfl rfl z.f (λw=>nU)<|Io (s:=eh 10 s i) z C P.ss P.mp (agz (rB _ _ _) ab) λV1 s1 k1=>?_;rw[aq rfl];have Uy:=P.ss.lt;have B1:Bs V1 (A+1) A y (p8 (eh 10 s) i).2:=P.bs.same (λk hk he=>k1.block k hk (by rcases he with rfl|he;have:=P.lo;omega;have:=dl P.bs.own k he;have:=P.lo;omega)) k1.size;have M1:V1.heap[M]?=_:=(k1.block M (agy.1 P.mp).1 (by rintro rfl;let⟨_,_,_,_,kk,_⟩:=P.ss.ex;have:=P.mp;rw[kk]at this;cases this)).trans P.mp;let⟨lc,q_,bi⟩:=P.ln.1;have D1:=P.ln.same<|k1.block D (agy.1 q_).1 (by rintro rfl;let⟨_,_,_,_,kk,_⟩:=P.ss.ex;rw[kk]at q_;cases q_);have l1:Bl V V V1:=P.bl.trans (⟨k1.size,λk hk=>k1.block k (Nat.lt_trans hk Uy)<|agN hk⟩:Bl B W V1) P.lo.1;have h7:=P.ss.lo;refine ae.aZ E (i:=3) rfl rfl z.f (λw=>nU)<|vw (t:=(uL (p8 (eh 10 s) i).1<|eh 10 s i).2) E z.G z.f z.f C B1 (by have:=a7.2;show _+(bG _ _ _).2.size<=_;omega) λV2 y2 B2 Y=>?_;rw[aq rfl];obtain⟨lc,q_,-⟩:=D1.1;have D2:=D1.same<|Y.at_ B1 q_ bc bc;have T:∀{W:ac} {s:ByteArray} {y:aj},Bs W (A+1) A y s->W.heap[M]?=some (.map (sW B 0 uk).toArray 7)->M≠A/\y.ownBlock≠some M:=λ{W s y} hb hm=>by refine⟨?_,λe=>?_⟩;rintro rfl;let⟨x,hB,_⟩:=hb.bl;rw[hB]at hm;cases hm;obtain⟨_,⟨rfl,_⟩|⟨q,bj,bk,rfl,_,hq,_⟩⟩:=hb.own;cases e;cases e;rw[hq]at hm;cases hm
  have M2:V2.heap[M]?=_:=(Y.keep M (agy.1 M1).1 (T B1 M1).1 (T B1 M1).2).trans M1;have s2:=s1.keep<|Y.keeps B1 P.ne (by have:=P.lo;omega);have l2:=l1.trans (Y.low B1) P.lo.2.2;refine ae.regionEnd E C<|ae.rg E C<|ae.aZ E (i:=0) rfl rfl z.f (λw=>nU)<|DP (x:=10) E z.G z.f z.f C B2 (by rw[au];have:=a7.2;show _+(bG _ _ _).2.size+1<=_;omega) λV3 y3 B3 k3=>?_;rw[aq rfl];obtain⟨lc,q_,-⟩:=D2.1;have P3:Sn V s B M A D (i+1) y3 V3:=⟨s2.keep<|k3.keeps B2 (.inl (by rw[au];have:=QW (p8 (eh 10 s) i).1 (aI (eh 10 s i).data.toList 32)<|eh 32<|eh 10 s i;show _+(bG _ _ _).2.size≠0;omega)) (by have:=P.lo;omega),(k3.keep M (agy.1 M2).1 (T B2 M2).1 (T B2 M2).2).trans M2,B3,.inl (by show(_++_++_:ByteArray).size≠0;rw[au];show _+1≠0;omega),D2.same<|k3.at_ B2 q_ bc bc,P.lo,l2.trans (k3.low B2) P.lo.2.2⟩;refine ae.regionEnd E C<|ae.inBlock E C<|ae.rg E C<|ae.oc E C 0 2 λK τ d hK=>?_;have hw:=rV (i:=i) ab;simp only[an,az];go_wp2;clear hw;exact hK.out _ _<|ae.un<|ae.regionEnd E C<|ih (j-1) ab _ _ ⟨i+1,y3,ab,P3,rfl,rfl⟩
 obtain rfl:i=n:=ab;have a8:¬(i:Int)<i:=ab;refine ae.ck E C [_] _ λK R τ d hK J=>?_;simp only[ak];go_wp2;refine hK.out _ _<|ae.un ?_;clear hK J K R;refine ae.seq E C<|ae.cond E C (t:=false) rfl<|ae.exit E C rfl<|ae.ck E C [_] _ λK R τ d hK J=>?_;have H:=Ml (P.bs.to<|vc _ τ d) P.ne ab;simp only[ak];go_wp2_with(go_at_call 19;refine H.mono ?_;rintro e w6 ⟨rfl,b6⟩)
 have l6:=P.bl.trans (⟨b6.size,b6.block⟩:Bl (A+1) W w6)<|Nat.le_succ_of_le P.lo.2.2;exact hK.out _ _<|ae.ret E C<|ae.lv (v:=aa (p8 (eh 10 s) i).2) E eU Tz.func5 (λτ d=>a0 (fn:=Tryz.f5) rfl _ _ _)<|h.out _ l6
end
def KQ [Gl]{a l cap cd}(z:Zk ok c)(D:ok.aP 3=true)(hg:Gd V)(h:vE V a l cd)(BG:l<=cap):ae Tz.prog ok c aS (λv V'=>v=aE true/\Bl V V V') ⟨ay Tz.prog 3 #[ad a l cap] .normal,[],V⟩:=by
 have E:=z.E;have Z:Hid (∀(t:Array aj) (w':ac) (C:List Item),Bl V V w'->t.getD 2 undef=aE true->ae Tz.prog ok c aS (λv V'=>v=aE true/\Bl V V V') ⟨{(base 3).at ⟨t,[]⟩ C with mode:=.returning},[],w'⟩):=λt w' C h1 h3=>
  ae.ends (λτ d=>⟨rfl,aE true,⟨rfl,rfl,rfl,_,Tz.func3,h3▸a0 (fn:=Tryz.f3) rfl t Tz.prog (re w' τ d)⟩,rfl,⟨h1.size,h1.block⟩⟩) ⟨_,2,Tz.func3,rfl⟩
 refine ae.en Tz.func3 rfl Tryz.ntmps3 iI ?_;refine ae.ck E D [_,_,_,_,_,_] _ λK R τ d hK Y=>?_
 have H1:=Ht a l cap cd (re V τ d) h BG;have hn:=h.1;unfold maxLen at hn;clear h;have a7:0<=(l:Int)%12/\(l:Int)%12<12:=by omega
 simp only[ak];go_wp2_with(go_at_call 4;refine H1.mono ?_;clear H1;rintro e U ⟨⟨t,rfl,ht⟩,b1⟩)
 .exact Y.out _ _ λC=>Z.out _ _ _ (vc _ _ _) rfl
 replace b1:=Bl.kP b1;have xd:Hid (∀(x:Act) (W:ac) (O:ByteArray),O.size<=20000->Bl V V W->jz x (rW 86 [(3,aa t),(5,aa O)])->K x W):=by
  intro x W O hh J jo;refine hK.out _ _ ?_;clear hK Y b1;obtain⟨u,rfl⟩:=jo.open;clear jo;simp only[Yk,Y0,adq,Q0,ace,Nat.reduceAdd,Nat.reduceEqDiff,if_false,if_true];refine ae.seq E D<|ae.rg E D<|ae.oc E D 0 1 λK τ d hK=>?_;simp only[an];go_wp2;refine hK.out _ _<|ae.un ?_;clear hK K;refine ae.aZ E (i:=1) rfl rfl z.f (λw=>nU)<|A6 (s:=O) z D (hg.bl J) ab λV2 T=>?_;rw[aq rfl];replace J:=J.trans T J.size;clear T;refine ae.oc E D 2 1 λK τ d hK=>?_
  simp only[an,az];go_wp2;refine hK.out _ _<|ae.un<|ae.regionEnd E D ?_;clear hK K;refine ae.seq E D<|ae.rg E D<|ae.oc E D 0 1 λK τ d hK=>?_;simp only[an];go_wp2;refine hK.out _ _<|ae.un ?_;clear hK K;refine ae.aZ E (i:=1) rfl rfl z.f (λw=>nU)<|A6 (s:=t) z D (hg.bl J) ab λV3 T=>?_;rw[aq rfl];replace J:=J.trans T J.size;clear T V2;refine ae.oc E D 2 1 λK τ d hK=>?_
  simp only[an,az];go_wp2;refine hK.out _ _<|ae.un<|ae.regionEnd E D ?_;clear hK K;refine ae.ck E D [_,_,_,_] _ λK R τ d hK Y=>?_
  have H2:=Hs O ab<|re V3 τ d;replace J:=J.trans (vc V3 τ d) J.size;generalize sE O=A at H2⊢;have H3:=λw'=>Hs t ab w'
  generalize sE t=B at H3⊢;simp only[ak];go_wp2_with(first
   |(go_at_call 6;refine H2.mono ?_;clear H2;rintro e w1 ⟨rfl,T⟩)
   |(go_at_call 6;refine(H3 w1).mono ?_;clear H3;rintro e w2 ⟨rfl,b3⟩))
  all_goals have bX:=(J.trans (Bl.of T) J.size).trans (Bl.of b3) (J.trans (Bl.of T) J.size).size
  .exact Y.out _ _ λC=>Z.out _ _ _ bX rfl
  rotate_left
  .exact Y.out _ _ λC=>Z.out _ _ _ bX rfl
  refine hK.out _ _<|ae.un<|ae.ret E D<|Z.out _ _ _ bX ?_;show aE _=_;simp_all
 clear hK;go_loopw [4,5,6] (λx y v W=>∃(k:Int) (O:ByteArray) (i:Nat),x=ax .i64 k/\y=aa O/\v=ax .i64 i/\0<=k/\k<=13/\O.size<=20000/\i<=t.size/\Bl V V W) (λ_ _ v _=>t.size-(intOf v).toNat)
 case atStart=>exact⟨_,t,0,rfl,rfl,rfl,ab,ab,ht,agB _,b1⟩
 case round=>
  obtain⟨k,O,i,rfl,rfl,rfl,h0,h1,h2,h3,b⟩:=hrel;by_cases aG:i<t.size
  .have dQ:(i:Int)<t.size:=by omega
   by_cases hc:t[i]=10
   .have Fu:(((t[i]).toNat:Int)==10)=true:=by rw[hc];rfl
    by_cases hk:k=0
    .subst hk;go_wp2;all_goals first|(exfalso;omega)|skip
     exact xd.out _ _ (t.extract 0<|i+1) (by simp only[a6];omega) b ⟨rfl,rfl⟩
    have vU:¬(k-1<0):=by omega
    go_wp2;all_goals first|(exfalso;omega)|skip
    go_roundw
    .exact⟨k-1,O,i+1,rfl,rfl,by go_num,ab,ab,h2,ab,b⟩
    exact cD
   have Fu:(((t[i]).toNat:Int)==10)=false:=by simpa usingλh=>hc<|UInt8.toNat_inj.1<|Int.ofNat_inj.1 h
   go_wp2;go_roundw
   .exact⟨k,O,i+1,rfl,rfl,by go_num,h0,h1,h2,ab,b⟩
   exact cD
  go_wp2;all_goals first|(exfalso;omega)|skip
  exact xd.out _ _ O h2 b ⟨rfl,rfl⟩
