import Derived.Test.YtjoalkgmgmmedaaGreatDoorj46
set_option linter.defProp false
set_option linter.unusedVariables false
set_option maxHeartbeats 8000000
set_option maxRecDepth 20000
open ByteArray renaming size_append->av,empty_append->a7,size->a8,append_empty->a9,append_assoc->be
open Go renaming results_tmp->ax,World->aI,Frame->aL,Value->aV,Question->a5
open Go.Act renaming put->aB
open Go.Frame renaming enter->ay
open Go.Value renaming pointer->aa,slice->ac,string->ai,int->au,tuple->aE,bool->a6
open List renaming forall_mem_cons->a2,foldl_append->a3,range->a4
open Nat renaming le_of_eq->a0,zero_add->a1
namespace Go.Proofs.YtjoalkgmgmmedaaGreatDoor
open Conc Lib RowKit
variable {b:Bk}{s:ByteArray}{ok:Ctx}{r0:aL}{cs:List aL}{B D cp k kc n o:Nat}{g:Nat->ByteArray}{t:Nat->Int}{ao bo:Option Addr}{p:Prop}{u v:aV}{Q:aV->aI->Prop}{V A:aI}
structure Ow [Gl](ok:Ctx)(c Q V B b)(x:Bk×ByteArray)(r0:aL)(cs):Prop where
 r:ok.aN r0.fn=true/\r0.mode=.run
 yes:∀A,SS A B x.1->Kb B V A->ae Tz.prog ok c aS Q ⟨r0.finish<|.string x.2,cs,A⟩
 no:∀A,x=(b,⟨#[98,97,100]⟩)->SS A B b->Kb B V A->ae Tz.prog ok c aS Q ⟨Fj r0,cs,A⟩
def Jo (a:g 0=⟨#[100,114,111,112]⟩):bG b k g=if k=1 then codeF (Fx b<|g 1)else(b,⟨#[98,97,100]⟩):=by
 grind [bG]
def Ge (a:g 0=⟨#[114,111,117,110,100]⟩):bG b k g=if k=1 then codeF (GO b<|g 1)else(b,⟨#[98,97,100]⟩):=by
 grind [bG]
def Jq (hq:g 0=⟨#[115,117,114,101]⟩):bG b k g=if k=0 then(b,if fD b.now b.shift b.f b.n b.t b.n=true then⟨#[121,101,115]⟩else⟨#[110,111]⟩)else(b,⟨#[98,97,100]⟩):=by
 grind [bG]
section
variable [Gl]{c:aL}
def Ow.must {x}(h:Ow ok c Q V B b x r0 cs){f i m:Nat}{sl fn a ops r J}(z:Zk ok c)(hS:SS V B b)(O:Tz.prog.funcs[f]?=some fn)(R:ok.aN f=true)(T:a.defers=[])(U:n≠m->x=(b,⟨#[98,97,100]⟩))(Y:n=m->ae Tz.prog ok c aS Q ⟨((base f).at a<|.inRegion ops (i::r)::J).finish<|aE #[],r0::cs,V⟩):
  ae Tz.prog ok c aS Q ⟨ay Tz.prog 47 #[ac sl n cp,au .i64 m] .normal,(base f).at a (.inRegion ops (i::r)::J)::r0::cs,V⟩:=
 NS z R rfl Y λZ=>ae.unwind z.E O rfl T h.r.1 h.r.2<|h.no V (U Z) hS<|Kb.of<|Bl.refl _ _
omit [Gl] in
def KM (h:p:=by
  repeat(refine a2.2 ⟨⟨_,_,rfl,rfl,λw hSw=>?_⟩,?_⟩;focus(let⟨⟨s0,s1,s2,s3,s4⟩,s5⟩:=hSw;unfold N7;go_simp))
  exact λ_ h=>nomatch h):p:=h
def jr (B:Nat)(b:Bk)(v u:aV)(w:aI):Prop:=w.cell? B=some (au .i64 b.now)/\w.cell? ⟨B,1,none⟩=some (au .i64 b.shift)/\w.cell? ⟨B,2,none⟩=some v/\w.cell? ⟨B,3,none⟩=some u/\∀j,w.frozen? ⟨B,j,none⟩=false
omit [Gl] in
def jr.of (k:aR V B b.now b.shift v u 35)(bl:Bl V V A)(τ:Nat->a5->Nat)(d:Nat):jr B b v u (re A τ d):=(k.same<|bl.block _ k.lt).cells
def Vg (z:Zk ok c)(hS:SS V B b)(Z:D<V)(hT:Ij V D o k λi=>g<|i+1)(hq:g 0=⟨#[100,114,111,112]⟩)(h:Ow ok c Q V B b (bG b k g) r0 cs):
  ae Tz.prog ok c aS Q ⟨ay Tz.prog 25 #[aa B,ac (some ⟨D,o,none⟩) k kc] .normal,r0::cs,V⟩:=by
 rw[Jo hq]at h;have E:=z.E;have J:ok.aN 25=true:=z.f;refine ae.en Tz.func25 rfl Tryz.ntmps25 iE ?_;refine ae.ck E J [_] _ λK R τ d hK hR=>?_
 simp only[ak];go_wp2;refine hK.out _ _<|ae.un ?_;clear hK hR K R;refine ae.seq E J<|ae.rg E J<|ae.oc E J 0 1 λK τ d hK=>?_;simp only[ap];go_wp2;refine hK.out _ _<|ae.un ?_;clear hK K;refine ae.aZ E (i:=1) rfl rfl z.f (λw=>od)<|h.must (sl:=some ⟨D,o,none⟩) (n:=k) (cp:=kc) (m:=1) z hS Tz.func25 J rfl (λhk=>if_neg hk) λhk=>?_;subst hk;rw[if_pos rfl]at h;rw[ar rfl];let⟨ao,cp,bo,T,U,q1⟩:=hS.bq;have Y:=hT 0 ab;refine ae.regionEnd E J<|ae.seq E J<|ae.drawn E J aO λorder ho=>?_;refine Nz.go E J ho (Nz.start (M:=[0,1]) (F:=[0,1,2,3,4,5,6,7]) (l:=[(0,aa B),(1,ac (some ⟨D,o,none⟩) 1 kc),(7,aa B),(8,aa B),(9,aa B),(10,aa B),(11,.agg #[au .i64 b.now,au .i64 b.shift,ac ao b.n cp,ac bo b.n T]),(12,ac (some ⟨D,o,none⟩) 1 kc),(13,aa<|some ⟨D,o,none⟩),(14,ai<|g 1)]) rfl rfl aO) 8 (λw=>jr B b (ac ao b.n cp) (ac bo b.n T) w/\w.cell? ⟨D,o,none⟩=some (ai<|g 1)) (λτ d=>⟨jr.of U (Bl.refl _ _) τ d,Y⟩) KM λa post im=>?_
 refine ae.aZ E (i:=8) rfl rfl z.f (λw=>N0)<|RX (name:=g 1) E z.f z.f z.f z.co z.f z.f z.f z.f z.f z.bt J q1 ?_;intro y cd W' O vw;rw[ar rfl];obtain⟨rfl,e2⟩:=aar (X:=(·=B)) (λx hx=>hx▸hS.lt) hS.ok vw;let⟨L,ho,hn⟩:=im.nx 15 (aE #[y,au .i64 (Fx b<|g 1).2]) rfl;refine Nz.go E J ho ((hn.add 9 16 y aO).add 10 17 (au .i64 (Fx b<|g 1).2) aO) 11 (λw=>jr B b (ac ao b.n cp) (ac bo b.n T) w/\w.cell? ⟨D,o,none⟩=some (ai<|g 1)) (λτ d=>⟨jr.of U O τ d,O.cell Z Y⟩) KM λa post im=>?_
 refine ae.aZ E (i:=11) rfl rfl z.f (λw=>N0)<|wc z J (hS.bl O) (IF (s:=g 1) hS.ok) e2 λW2 s2 k2=>?_;rw[ar rfl];let⟨L,ho,hn⟩:=im.nx 18 (ai (codeF<|Fx b<|g 1).2) rfl;refine Nz.go E J ho (hn.sink aO) 12 (λw=>True) (λ_ _=>trivial) (λ_ h=>nomatch h) λa post im=>?_
 refine im.last E J (ai (codeF<|Fx b<|g 1).2) rfl rfl (λw=>by unfold N7;go_simp) λt ht=>?_
 exact ae.ret E J<|ae.lv (v:=ai (codeF<|Fx b<|g 1).2) E h.r.1 Tz.func25 (λτ d=>ht▸ax (fn:=Tryz.f25) rfl t Tz.prog (re W2 τ d))<|h.yes _ s2<|(Kb.of O).trans k2
def Q8 (z:Zk ok c)(hS:SS V B b)(Z:D<V)(hT:Ij V D o k λi=>g<|i+1)(hq:g 0=⟨#[114,111,117,110,100]⟩)(h:Ow ok c Q V B b (bG b k g) r0 cs):
  ae Tz.prog ok c aS Q ⟨ay Tz.prog 26 #[aa B,ac (some ⟨D,o,none⟩) k kc] .normal,r0::cs,V⟩:=by
 rw[Ge hq]at h;have E:=z.E;have J:ok.aN 26=true:=z.f;refine ae.en Tz.func26 rfl Tryz.ntmps26 iE ?_;refine ae.ck E J [_] _ λK R τ d hK hR=>?_
 simp only[ak];go_wp2;refine hK.out _ _<|ae.un ?_;clear hK hR K R;refine ae.seq E J<|ae.rg E J<|ae.oc E J 0 1 λK τ d hK=>?_;simp only[ap];go_wp2;refine hK.out _ _<|ae.un ?_;clear hK K;refine ae.aZ E (i:=1) rfl rfl z.f (λw=>od)<|h.must (sl:=some ⟨D,o,none⟩) (n:=k) (cp:=kc) (m:=1) z hS Tz.func26 J rfl (λhk=>if_neg hk) λhk=>?_;subst hk;rw[if_pos rfl]at h;rw[ar rfl];let⟨ao,cp,bo,T,U,q1⟩:=hS.bq;have Y:=hT 0 ab;refine ae.regionEnd E J<|ae.seq E J<|ae.drawn E J aO λorder ho=>?_;refine Nz.go E J ho (Nz.start (M:=[0,1]) (F:=[0,1,2,3,4,5,6,7]) (l:=[(0,aa B),(1,ac (some ⟨D,o,none⟩) 1 kc),(7,aa B),(8,aa B),(9,aa B),(10,aa B),(11,.agg #[au .i64 b.now,au .i64 b.shift,ac ao b.n cp,ac bo b.n T]),(12,ac (some ⟨D,o,none⟩) 1 kc),(13,aa<|some ⟨D,o,none⟩),(14,ai<|g 1)]) rfl rfl aO) 8 (λw=>jr B b (ac ao b.n cp) (ac bo b.n T) w/\w.cell? ⟨D,o,none⟩=some (ai<|g 1)) (λτ d=>⟨jr.of U (Bl.refl _ _) τ d,Y⟩) KM λa post im=>?_
 refine ae.aZ E (i:=8) rfl rfl z.f (λw=>N0)<|NT (name:=g 1) E z.r J q1 ?_;intro y cd W' O vw;rw[ar rfl];obtain⟨rfl,e2⟩:=abJ (X:=(·=B)) (λx hx=>hx▸hS.lt) hS.ok vw;let⟨L,ho,hn⟩:=im.nx 15 (aE #[y,au .i64 (GO b<|g 1).2]) rfl;refine Nz.go E J ho ((hn.add 9 16 y aO).add 10 17 (au .i64 (GO b<|g 1).2) aO) 11 (λw=>jr B b (ac ao b.n cp) (ac bo b.n T) w/\w.cell? ⟨D,o,none⟩=some (ai<|g 1)) (λτ d=>⟨jr.of U O τ d,O.cell Z Y⟩) KM λa post im=>?_
 refine ae.aZ E (i:=11) rfl rfl z.f (λw=>N0)<|wc z J (hS.bl O) (JG (s:=g 1) hS.ok) e2 λW2 s2 k2=>?_;rw[ar rfl];let⟨L,ho,hn⟩:=im.nx 18 (ai (codeF<|GO b<|g 1).2) rfl;refine Nz.go E J ho (hn.sink aO) 12 (λw=>True) (λ_ _=>trivial) (λ_ h=>nomatch h) λa post im=>?_
 refine im.last E J (ai (codeF<|GO b<|g 1).2) rfl rfl (λw=>by unfold N7;go_simp) λt ht=>?_
 exact ae.ret E J<|ae.lv (v:=ai (codeF<|GO b<|g 1).2) E h.r.1 Tz.func26 (λτ d=>ht▸ax (fn:=Tryz.f26) rfl t Tz.prog (re W2 τ d))<|h.yes _ s2<|(Kb.of O).trans k2
def Vj (z:Zk ok c)(hS:SS V B b)(hq:g 0=⟨#[115,117,114,101]⟩)(h:Ow ok c Q V B b (bG b k g) r0 cs):
  ae Tz.prog ok c aS Q ⟨ay Tz.prog 29 #[aa B,ac (some ⟨D,o,none⟩) k kc] .normal,r0::cs,V⟩:=by
 rw[Jq hq]at h;have E:=z.E;have x:ok.aN 29=true:=z.f;refine ae.en Tz.func29 rfl Tryz.ntmps29 iE ?_;refine ae.ck E x [_] _ λK R τ d hK O=>?_
 simp only[ak];go_wp2;refine hK.out _ _<|ae.un ?_;clear hK O K R;refine ae.seq E x<|ae.rg E x<|ae.oc E x 0 1 λK τ d hK=>?_;simp only[ap];go_wp2;refine hK.out _ _<|ae.un ?_;clear hK K;refine ae.aZ E (i:=1) rfl rfl z.f (λw=>od)<|h.must (sl:=some ⟨D,o,none⟩) (n:=k) (cp:=kc) (m:=0) z hS Tz.func29 x rfl (λhk=>if_neg hk) λhk=>?_;subst hk;rw[if_pos rfl]at h;rw[ar rfl];let⟨ao,cp,bo,dp,Y,Z⟩:=hS.bq;refine ae.regionEnd E x<|ae.seq E x<|ae.seq E x<|ae.rg E x<|ae.oc E x 0 4 λK τ d hK=>?_;let⟨s0,s1,s2,s3,s4⟩:=jr.of Y (Bl.refl _ _) τ d;simp only[ap];go_wp2;refine hK.out _ _<|ae.un ?_;clear hK K s0 s1 s2 s3 s4;refine ae.aZ E (i:=4) rfl rfl z.f (λw=>od)<|AN E z.f z.f z.f z.f z.bt x Z λV1 T=>?_;rw[ar rfl];refine ae.regionEnd E x ?_;have J:=h.yes V1 (hS.bl T)<|Kb.of T;cases U:fD b.now b.shift b.f b.n b.t b.n with
 |true=>
  rw[U]at J;refine ae.cond E x (t:=true) rfl<|ae.ck E x [_] _ λK R τ d hK O=>?_;simp only[ak,aB];go_wp2;exact hK.out _ _ (ae.un<|ae.ret E x<|ae.lv (v:=ai ⟨#[121,101,115]⟩) E h.r.1 Tz.func29 (λτ d=>ax (fn:=Tryz.f29) rfl _ _ _) J)
 |false=>
  rw[U]at J;refine ae.cond E x (t:=false) rfl<|ae.skip E x<|ae.ck E x [_] _ λK R τ d hK O=>?_;simp only[ak,aB];go_wp2;exact hK.out _ _<|ae.un<|ae.ret E x<|ae.lv (v:=ai ⟨#[110,111]⟩) E h.r.1 Tz.func29 (λτ d=>ax (fn:=Tryz.f29) rfl _ _ _) J
end
def Jp (a:g 0=⟨#[112,108,97,110]⟩):bG b k g=if k=0 then(b,kS b)else(b,⟨#[98,97,100]⟩):=by
 grind [bG]
section
variable {N:Nat}{y:aV}
def Bs.new (V:aI):Bs (V.alloc<|.cells #[aa none,ac none 0 0] 41) (V.heap.size+1) V.heap.size (ac none 0 0) ⟨#[]⟩:=⟨⟨_,heap_alloc_new V _,.inl rfl⟩,⟨rfl,.inl ⟨rfl,rfl⟩⟩,ab,aP⟩
def Bs.same (h:Bs V N B y s)(e:∀k:Nat,k<V->k=B\/y.ownBlock=some k->A.heap[k]?=V.heap[k]?)(d:V.heap.size<=A):Bs A N B y s:=by
 let⟨x,f,i⟩:=h.bl;have:=h.lo;have:=h.hi;exact⟨⟨x,(e B ab<|.inl rfl).trans f,i⟩,az h.own λk a=>e k (h.own.lt k a).2<|.inr a,h.lo,afN h.hi d⟩
def Bs.to (h:Bs V N B y s)(a:Bl V V A):Bs A N B y s:=h.same (λk d _=>a.block k d) a.size
def SN.at_ (hk:SN V A B y)(h:Bs V N B y s){cs T z}(d:V.heap[k]?=some (.cells cs T z))(l:T≠5)(r:T≠41):A.heap[k]?=V.heap[k]?:=by
 refine hk.keep k (afM.1 d).1 ?_ λe=>?_
 .let⟨x,w,_⟩:=h.bl;grind
 obtain⟨_,⟨rfl,_⟩|⟨g,f,j,rfl,_,E,_⟩⟩:=h.own
 .cases e
 cases e;grind
def SN.low (a:SN V A B y)(h:Bs V N B y s):Bl B V A:=by
 have:=h.lo;have:=h.hi;exact⟨a.sz,λk d=>a.keep k ab ab λe=>by have:=dh h.own k e;omega⟩
def L5 {ca da}(w):Calls Tz.prog 56 #[ac ao 0 ca,ac bo 0 da] w λe w'=>e=.returned (aE #[(0:Int),(0:Int)])/\Below w w w':=by
 have d:=um (ao:=ao) (ca:=ca) (bo:=bo) (da:=da) w;have f:∀w,Calls Tz.prog 79 #[ac ao 0 ca,ac bo 0 da] w λe w'=>e=.returned (aE #[(0:Int),(0:Int)])/\w'=w:=λw=>by
  go_wp2;go_loopw [6,7,13] (λa b x W=>a=au .i64 0/\b=au .i64 0/\x=au .i64 0/\W=w) (λ_ _ _ _=>0)
  go_wp2;go_ret2
  simp_all
 go_enter Tz.func56,Tryz.ntmps56
 go_wp2_with(first|(go_at_call 78;refine d.mono ?_;clear d;rintro e h ⟨rfl,i⟩)|(go_at_call 79;refine(f _).mono ?_;rintro e j ⟨rfl,rfl⟩))
 go_ret2
 simp_all
theorem Bq.cost {w J}(h:Bq w b.now b.shift ao b.n cp b.f bo b.n J b.t):Calls Tz.prog 56 #[ac ao b.n cp,ac bo b.n J] w λe w'=>e=.returned (aE #[au .i64 (bU b.f b.n b.t b.n).1,au .i64 (bU b.f b.n b.t b.n).2])/\Below w w w':=by
 have O:=h.n6;refine h.cases (λr _ _ _=>?_) λx Z r R hb T U Y=>?_
 .rw[r,show bU b.f 0 b.t 0=_ by unfold bU;split<;>rfl];exact L5 w
 subst r R;exact Ef _ _ _ _ _ _ _ _ _ _ w ab (afN O<|by decide) hb T U Y
end
section
variable [Gl]{c:aL}
omit [Gl] in
def aK.r {x:Nat}{f:Nat->Mv}(h:aK V x 0 n f)(τ:Nat->a5->Nat)(d:Nat):aK (re V τ d) x 0 n f:=dJ h rfl
omit [Gl] in
def frK (h:p:=by(repeat(refine a2.2 ⟨⟨?_,?_⟩,?_⟩;rfl;rfl));exact λ_ h=>nomatch h):p:=h
omit [Gl] in
def QM (h:aC V B n t)(e:A.heap[B]?=V.heap[B]?):aC A B n t:=by
 let⟨⟨cs,a,d⟩,f⟩:=h;exact⟨⟨cs,e.trans a,d⟩,lZ f e⟩
structure Pn (V:aI)(B:Nat)(b:Bk)(Bo Bp)(g:Nat->Nat)(y s W):Prop where
 bs:Bs W (Bo+1) Bo y s
 ne:s.size≠0
 pl:aC W Bp b.n λi=>((g i:Nat):Int)
 lt:Bp<W
 bl:Bl V V W
 lo:V.heap.size<=Bo
def Vi (z:Zk ok c)(hS:SS V B b)(hq:g 0=⟨#[112,108,97,110]⟩)(h:Ow ok c Q V B b (bG b k g) r0 cs):
  ae Tz.prog ok c aS Q ⟨ay Tz.prog 28 #[aa B,ac (some ⟨D,o,none⟩) k kc] .normal,r0::cs,V⟩:=by
 rw[Jp hq]at h;have E:=z.E;have J:ok.aN 28=true:=z.f;refine ae.en Tz.func28 rfl Tryz.ntmps28 iE ?_;refine ae.ck E J [_] _ λK R τ d hK hR=>?_
 simp only[ak];go_wp2;refine hK.out _ _<|ae.un ?_;clear hK hR K R;refine ae.seq E J<|ae.rg E J<|ae.oc E J 0 1 λK τ d hK=>?_;simp only[ap];go_wp2;refine hK.out _ _<|ae.un ?_;clear hK K;refine ae.aZ E (i:=1) rfl rfl z.f (λw=>od)<|h.must (sl:=some ⟨D,o,none⟩) (n:=k) (cp:=kc) (m:=0) z hS Tz.func28 J rfl (λhk=>if_neg hk) λhk=>?_;subst hk;rw[if_pos rfl]at h;rw[ar rfl];let⟨ao,cp,bo,dp,k1,q1⟩:=hS.bq;have D7:=(gd hS.ok).1;refine ae.regionEnd E J<|ae.ck E J [_] _ λK R τ d hK hR=>?_;obtain⟨W1,e1,jU,b1⟩:∃W1,(re V τ d).alloc (.cells #[aa none,ac none 0 0] 41)=W1/\Bs W1 (V.heap.size+1) V.heap.size (ac none 0 0) ⟨#[]⟩/\Bl V V W1:=⟨_,rfl,Bs.new<|re V τ d,Bl.kH<|(afB _<|re V τ d).alloc (afK _) _⟩;simp only[ak,aB];go_wp2;refine hK.out _ _ ?_;clear hK hR K R e1;obtain⟨Y,aF⟩:∃Y,V.heap.size=Y:=⟨_,rfl⟩;rw[aF]at jU;rw[show(re V τ d).heap.size=Y from aF];refine ae.seq E J<|ae.rg E J<|ae.oc E J 0 6 λK τ d hK=>?_;let⟨s0,s1,s2,s3,s4⟩:=jr.of k1 b1 τ d;have H:=zI D7.1 ab (w:=re W1 τ d)<|(hS.bl b1).g.2.1;simp only[ap];go_wp2_with(go_at_call 54;refine H.mono ?_;rintro e w2 ⟨rfl,T⟩)
 refine hK.out _ _ ?_;clear hK K H s0 s1 s2 s3 s4;replace T:=Bl.kH T;have qn:=jU.to T;replace T:=b1.trans T b1.size;have bz:=dy (z:=b.now) ab;refine ae.aZ E (i:=6) rfl rfl z.f (λw=>od)<|vb (t:=fd b.now) E z.G z.f z.f J qn (by show 0+_<=_;omega) ?_;intro V3 y3 vd k3;rw[ar rfl];have U:=T.trans (k3.low qn)<|a0 aF;rw[show(⟨#[]⟩:ByteArray)++fd b.now=fd b.now from a7]at vd;clear b1 T jU qn k3;refine ae.regionEnd E J<|ae.seq E J<|ae.ck E J [_] _ λK R τ d hK hR=>?_;let⟨s0,s1,s2,s3,s4⟩:=jr.of k1 U τ d;have H:=JE bo b.n dp b.t (re V3 τ d) hS.ok.Ns ((q1.bl U).bl<|Al _ τ d).si hS.ok.dif;simp only[ak,aB];go_wp2_with(go_at_call 55;refine H.mono ?_;rintro e w4 ⟨⟨O,Z,hI,rfl,hO⟩,b4⟩)
 refine hK.out _ _ ?_;clear hK hR K R H s0 s1 s2 s3 s4;replace b4:=Bl.kH b4;have P0:Pn V B b Y Z O y3 (fd b.now) w4:=⟨vd.to b4,λe=>(Fv b.now.toNat).1<|List.eq_nil_of_length_eq_zero<|by simpa[fd,a8]using e,hO,hO.lt,U.trans b4 U.size,a0 aF⟩;clear vd U b4 hO;refine ae.block E J<|ae.loop E J ?_;refine ae.uy E J (λj a' w'=>∃(i:Nat) (y:aV) (s:ByteArray),i+j=b.n/\Pn V B b Y Z O y s w'/\s=((a4 i).map O).foldl (λo i=>o++jQ b i) (fd b.now)/\jI a' (rW 82 [(0,aa B),(5,aa Y),(25,ac (some ⟨Z,0,none⟩) b.n b.n),(26,au .i64 b.n),(27,au .i64 i)])) ?_ b.n _ _ ⟨0,_,_,ab,P0,rfl,rfl,rfl⟩;intro j a W ⟨i,y,s,mz,P,hs,hf⟩ ih;obtain⟨u,rfl⟩:=hf.open;by_cases hj:i<b.n
 .have bm:(i:Int)<b.n:=ab;have hp:=hI.2.1 i hj;have PS:((O i:Nat):Int)<b.n:=ab;obtain⟨xb,rfl,bA,bn⟩:∃xb:Nat,ao=some ⟨xb,0,none⟩/\xb<W.heap.size/\aK W xb 0 b.n b.f:=by
   cases ao with
   |none=>exact absurd (q1.sm.1 rfl).1 ab
   |some ad=>obtain⟨xb,rfl,h⟩:=(q1.bl P.bl).sm.2 ad rfl;exact⟨xb,rfl,h⟩
  obtain⟨yb,rfl,bi,bp⟩:∃yb:Nat,bo=some ⟨yb,0,none⟩/\yb<W.heap.size/\aD W yb 0 b.n b.t:=by
   cases bo with
   |none=>exact absurd (q1.si.1 rfl).1 ab
   |some ad=>obtain⟨yb,rfl,h⟩:=(q1.bl P.bl).si.2 ad rfl;exact⟨yb,rfl,h⟩
  refine ae.ck E J [_,_] _ λK R τ d hK hR=>?_
  simp only[ak];go_wp2;refine hK.out _ _<|ae.un ?_;clear hK hR K R;refine ae.seq E J<|ae.cut (λa' W'=>∃y',jI a' (rW 82 [(0,aa B),(5,aa Y),(25,ac (some ⟨Z,0,none⟩) b.n b.n),(26,au .i64 b.n),(27,au .i64 i)])/\Pn V B b Y Z O y' (s++jQ b (O i)) W') (λa' W' ⟨y',hf,P'⟩=>?_) λhc=>?_
  .obtain⟨u,rfl⟩:=hf.open;have hw:=rJ (i:=i) (by have:=hS.ok.Ns;omega);refine ae.rg E J<|ae.oc E J 0 2 λK τ d hK=>?_;simp only[ap];go_wp2;clear hw;refine hK.out _ _<|ae.un<|ae.regionEnd E J<|ih (j-1) ab _ _ ⟨i+1,y',_,ab,P',?_,rfl,rfl⟩;rw[hs,List.range_succ,List.map_append,a3];rfl
  refine ae.block E J<|ae.ck E J [_,_] _ λK R τ d hK hR=>?_;let⟨s0,s1,s2,s3,s4⟩:=jr.of k1 P.bl τ d;have cP:(re W τ d).cell? ⟨Z,i,none⟩=some (au .i64 (O i:Nat)):=by have:=P.pl.2 i hj;rwa [a1]at this
  let⟨c0,c1,c2,c3,c4,c5⟩:=bn.r τ d (O i) hp;simp only[a1]at c0 c1 c2 c3 c4 c5;let⟨W2,e2,hM,T,z2⟩:=Iu (re W τ d)<|b.f<|O i;replace z2:Hid _:=z2;simp only[ak];go_wp2;refine hK.out _ _ ?_;clear hK hR K R s0 s1 s2 s3 s4 cP c0 c1 c2 c3 c4 c5 e2;have fZ:=z2.out;obtain⟨Bm,bj⟩:∃Bm,(re W τ d).heap.size=Bm:=⟨_,rfl⟩;rw[bj]at hM fZ;rw[bj];replace T:=Bl.kH T;have B2:=P.bs.to T;have oe:=P.bl.trans T P.bl.size;have cy:W2.cell? ⟨yb,O i,none⟩=some (au .i64<|b.t<|O i):=T.cell bi (by have:=bp (O i) hp;rwa [a1]at this);have ht:=hS.ok.now hp;have bB:=hS.ok.name hp;have bE:=dy (z:=b.t<|O i) ab;have z1:¬9223372036854775807<1+(b.f<|O i).name.size:=ab;have z3:¬9223372036854775807<1+(b.f<|O i).name.size+1:=ab;have z4:¬9223372036854775807<1+(b.f<|O i).name.size+1+(fd<|b.t<|O i).size:=ab;refine ae.seq E J<|ae.drawn E J aO λorder ho=>?_;refine Nz.go E J ho (Nz.start (M:=[0,5,7,8,25,26,27]) (F:=[0,1,2,3,4,5,6,7,8,9,10,11]) (l:=[(0,aa B),(5,aa Y),(7,au .i64 (O i:Nat)),(8,aa Bm),(25,ac (some ⟨Z,0,none⟩) b.n b.n),(26,au .i64 b.n),(27,au .i64 i),(39,aa Bm),(40,ai (b.f<|O i).name),(41,ai<|⟨#[32]⟩++(b.f<|O i).name),(42,ai<|⟨#[32]⟩++(b.f<|O i).name++⟨#[64]⟩),(43,aa B),(44,aa B),(45,aa B),(46,aa<|some ⟨B,3,none⟩),(47,ac (some ⟨yb,0,none⟩) b.n dp),(48,au .i64 (O i:Nat)),(49,aa<|some ⟨yb,O i,none⟩),(50,au .i64<|b.t<|O i)]) rfl rfl aO) 12 (λw=>jr B b (ac (some ⟨xb,0,none⟩) b.n cp) (ac (some ⟨yb,0,none⟩) b.n dp) w/\w.cell? Bm=some (ai (b.f<|O i).name)/\w.cell? ⟨yb,O i,none⟩=some (au .i64<|b.t<|O i)) (λτ d=>⟨jr.of k1 oe τ d,hM.at_.c0,cy⟩) KM λa post im=>?_
  refine ae.aZ E (i:=12) rfl rfl z.f (λw=>N0)<|ae.calls E J (R:=λv w'=>v=ai (fd<|b.t<|O i)/\Bl W2 W2 w') (λτ d=>(zI (z:=b.t<|O i) (by omega) ab (w:=re W2 τ d) (hS.bl oe).g.2.1).mono ?_) ?_
  .rintro e w' ⟨rfl,hb⟩;exact⟨_,rfl,rfl,Bl.kH hb⟩
  rintro _ W3 ⟨rfl,U⟩;rw[ar rfl];let⟨L,ho,hn⟩:=im.nx 51 (ai<|fd<|b.t<|O i) rfl;have B3:=B2.to U;have AP:=oe.trans U oe.size;have TZ:fy W3 Bm (b.f<|O i):=(U.block Bm ab).trans hM;refine Nz.go E J ho (hn.add 13 52 (ai<|⟨#[32]⟩++(b.f<|O i).name++⟨#[64]⟩++fd (b.t<|O i)) aO) 14 (λw=>jr B b (ac (some ⟨xb,0,none⟩) b.n cp) (ac (some ⟨yb,0,none⟩) b.n dp) w/\w.cell? Bm=some (ai (b.f<|O i).name)/\w.cell? ⟨yb,O i,none⟩=some (au .i64<|b.t<|O i)) (λτ d=>⟨jr.of k1 AP τ d,TZ.at_.c0,U.cell (afL bi T.size) cy⟩) KM λa post im=>?_
  have iP:s.size<=108:=by
   have h6:=hS.ok.Ns;have:=Af hS.ok ((a4 i).map O) (λx hx=>by obtain⟨q,hq,rfl⟩:=List.mem_map.1 hx;exact hI.2.1 q (by have:=List.mem_range.1 hq;omega))<|fd b.now;rw[<-hs,List.length_map,List.length_range]at this;omega
  have br:(⟨#[32]⟩++(b.f<|O i).name++⟨#[64]⟩++fd (b.t<|O i)).size<=20:=by simp only[av];show 1+_+1+_<=_;omega
  refine ae.aZ E (i:=14) rfl rfl z.f (λw=>N0)<|vb (t:=(⟨#[32]⟩++(b.f<|O i).name++⟨#[64]⟩++fd (b.t<|O i))) E z.G z.f z.f J B3 ab ?_;intro V4 y4 IR k4;rw[ar rfl];let⟨L,ho,hn⟩:=im.nx 53 (aE #[au .i64 (⟨#[32]⟩++(b.f<|O i).name++⟨#[64]⟩++fd (b.t<|O i)).size,.nilIface]) rfl;replace hn:=hn.sink aO;obtain rfl:=hn.done ho aO;let⟨u,hu⟩:=(hn.fr [(0,aa B),(5,aa Y),(8,aa Bm),(25,ac (some ⟨Z,0,none⟩) b.n b.n),(26,au .i64 b.n),(27,au .i64 i)] frK).open;erw [hu]
  refine ae.regionEnd E J<|ae.ck E J [_] _ λK R τ d hK hR=>?_;have Sk:fy V4 Bm (b.f<|O i):=(k4.at_ B3 TZ bh bh).trans TZ;have c5:(re V4 τ d).cell? ⟨Bm,5,none⟩=some (au .i64 (b.f<|O i).prom):=Sk.at_.c5;have eP:W3.heap[Z]?=W.heap[Z]?:=(U.block Z<|afL P.lt T.size).trans<|T.block Z P.lt;have P4:Pn V B b Y Z O y4 (s++(⟨#[32]⟩++(b.f<|O i).name++⟨#[64]⟩++fd (b.t<|O i))) V4:=⟨IR,by have:=P.ne;rw[av];omega,QM P.pl<|(k4.at_ B3 (eP.trans P.pl.1.choose_spec.1) bh bh).trans eP,afL P.lt<|afN T.size<|afN U.size k4.sz,AP.trans (k4.low B3) P.lo,P.lo⟩;simp only[ak];by_cases pQ:(b.f<|O i).prom=-1
  .rw[pQ]at c5;go_wp2;refine hK.out _ _<|ae.un<|ae.cond E J (t:=false) rfl<|ae.skip E J<|ae.inBlock E J<|hc.out _ _ ⟨_,⟨rfl,rfl⟩,by rw[jQ,if_pos pQ,show∀x:ByteArray,x++⟨#[]⟩=x fromλx=>a9];exact P4⟩
  .have bF:((b.f<|O i).prom==-1)=false:=beq_eq_false_iff_ne.2 pQ;have bH:((b.f<|O i).prom !=-1)=true:=bne_iff_ne.2 pQ;replace pQ:Hid _:=pQ;go_wp2;refine hK.out _ _<|ae.un<|ae.cond E J (t:=true) rfl<|ae.rg E J<|ae.aZ E (i:=0) rfl rfl z.f (λw=>od)<|Ds (x:=33) E z.G z.f z.f J IR (by rw[av];omega) ?_;intro V5 y5 bb k5;rw[ar rfl];refine ae.regionEnd E J<|ae.inBlock E J<|hc.out _ _ ⟨y5,⟨rfl,rfl⟩,?_⟩;rw[jQ,if_neg pQ.out];have b5:=k5.low IR;exact⟨by rw[<-be];exact bb,by have:=P.ne;rw[av];omega,QM P4.pl<|k5.at_ IR P4.pl.1.choose_spec.1 bh bh,afL P4.lt k5.sz,P4.bl.trans b5 P.lo,P.lo⟩
 .obtain rfl:i=b.n:=ab;have bm:¬(b.n:Int)<b.n:=ab;rw[Nb hS.ok hI]at hs;refine ae.ck E J [_] _ λK R τ d hK hR=>?_
  simp only[ak];go_wp2;refine hK.out _ _<|ae.un ?_;clear hK hR K R;refine ae.seq E J<|ae.cond E J (t:=false) rfl<|ae.exit E J rfl ?_;let⟨⟨bt,bI⟩,bv,bL⟩:=DH hS.ok;have bM:=dy (z:=(bU b.f b.n b.t b.n).1) ab;have WC:=dy (z:=(bU b.f b.n b.t b.n).2) ab;refine ae.seq E J<|ae.drawn E J aO λorder ho=>?_;refine Nz.go E J ho (Nz.start (M:=[0,5]) (F:=[0,1,2,3,4,5,6,7,8,9]) (l:=[(0,aa B),(5,aa Y),(60,aa B),(61,aa B),(62,aa B),(63,aa<|some ⟨B,2,none⟩),(64,ac ao b.n cp),(65,aa B),(66,aa B),(67,aa B),(68,aa<|some ⟨B,3,none⟩),(69,ac bo b.n dp)]) rfl rfl aO) 10 (λw=>jr B b (ac ao b.n cp) (ac bo b.n dp) w/\True) (λτ d=>⟨jr.of k1 P.bl τ d,trivial⟩) KM λa post im=>?_
  refine ae.aZ E (i:=10) rfl rfl z.f (λw=>N0)<|ae.calls E J (R:=λv w'=>v=aE #[au .i64 (bU b.f b.n b.t b.n).1,au .i64 (bU b.f b.n b.t b.n).2]/\Bl W W w') (λτ d=>(Bq.cost<|(q1.bl P.bl).bl<|Al _ τ d).mono ?_) ?_
  .rintro e w' ⟨rfl,hb⟩;exact⟨_,rfl,rfl,Bl.kH hb⟩
  rintro _ W2 ⟨rfl,T⟩;rw[ar rfl];have oe:=P.bl.trans T P.bl.size;let⟨L,ho,hn⟩:=im.nx 70 (aE #[au .i64 (bU b.f b.n b.t b.n).1,au .i64 (bU b.f b.n b.t b.n).2]) rfl;refine Nz.go E J ho (((hn.add 11 59 (aE #[au .i64 (bU b.f b.n b.t b.n).1,au .i64 (bU b.f b.n b.t b.n).2]) aO).add 12 71 (au .i64 (bU b.f b.n b.t b.n).1) aO).add 13 72 (au .i64 (bU b.f b.n b.t b.n).2) aO) 14 (λw=>jr B b (ac ao b.n cp) (ac bo b.n dp) w/\True) (λτ d=>⟨jr.of k1 oe τ d,trivial⟩) KM λa post im=>?_
  refine im.one E J (au .i64 (bU b.f b.n b.t b.n).1) rfl rfl (λτ d=>by unfold N7;go_simp) λa L ho hn=>?_
  refine Nz.go E J ho hn 15 (λw=>jr B b (ac ao b.n cp) (ac bo b.n dp) w/\True) (λτ d=>⟨jr.of k1 oe τ d,trivial⟩) KM λa post im=>?_
  refine im.one E J (au .i64 (bU b.f b.n b.t b.n).2) rfl rfl (λτ d=>by unfold N7;go_simp) λa L ho hn=>?_
  replace hn:=hn.sink aO;obtain rfl:=hn.done ho aO;obtain⟨u,rfl⟩:=(hn.fr [(0,aa B),(5,aa Y),(9,au .i64 (bU b.f b.n b.t b.n).1),(10,au .i64 (bU b.f b.n b.t b.n).2)] frK).open;clear hn ho L;have B2:=P.bs.to T;have z1:¬9223372036854775807<6+(fd (bU b.f b.n b.t b.n).1).size:=ab;have z3:¬9223372036854775807<6+(fd (bU b.f b.n b.t b.n).1).size+6:=ab;have z4:¬9223372036854775807<6+(fd (bU b.f b.n b.t b.n).1).size+6+(fd (bU b.f b.n b.t b.n).2).size:=ab;refine ae.regionEnd E J<|ae.seq E J<|ae.rg E J<|ae.oc E J 0 7 λK τ d hK=>?_;have H1:=zI (z:=(bU b.f b.n b.t b.n).1) bt ab (w:=re W2 τ d) (hS.bl oe).g.2.1;have H2:=λw' (hb:Bl (re W2 τ d).heap.size (re W2 τ d) w')=>zI (z:=(bU b.f b.n b.t b.n).2) bv ab (w:=w') (((hS.bl oe).bl<|Al _ τ d).bl hb).g.2.1
  simp only[ap];go_wp2_with(go_at_call 54;first|(refine H1.mono ?_;clear H1;rintro e w3 ⟨rfl,U⟩;replace H2:=H2 w3<|Bl.of U)|(refine H2.mono ?_;clear H2;rintro e w4 ⟨rfl,b4⟩))
  refine hK.out _ _ ?_;clear hK K z1 z3 z4;replace b4:Bl W2.heap.size W2 w4:=(Bl.kH U).trans (Bl.of b4) U.size;replace B2:=B2.to b4;replace oe:=oe.trans b4 oe.size;have br:(⟨#[32,108,97,116,101,32]⟩++fd (bU b.f b.n b.t b.n).1++⟨#[32,109,111,115,116,32]⟩++fd (bU b.f b.n b.t b.n).2).size<=24:=by simp only[av];show 6+_+6+_<=_;omega
  have iP:s.size<=1100000:=by
   have h1:=tv hS.ok;unfold kS at h1;rw[<-hs,av]at h1;omega
  refine ae.aZ E (i:=7) rfl rfl z.f (λw=>od)<|vb (t:=(⟨#[32,108,97,116,101,32]⟩++fd (bU b.f b.n b.t b.n).1++⟨#[32,109,111,115,116,32]⟩++fd (bU b.f b.n b.t b.n).2)) E z.G z.f z.f J B2 ab ?_;intro V5 y5 bb k5;rw[ar rfl];have bx:=oe.trans (k5.low B2) P.lo;have e5:s++(⟨#[32,108,97,116,101,32]⟩++fd (bU b.f b.n b.t b.n).1++⟨#[32,109,111,115,116,32]⟩++fd (bU b.f b.n b.t b.n).2)=kS b:=by rw[hs];rfl
  have h0:(kS b).size≠0:=by have:=P.ne;rw[<-e5,av];omega
  rw[e5]at bb;refine ae.regionEnd E J<|ae.seq E J<|ae.rg E J<|ae.oc E J 0 2 λK τ d hK=>?_;have H:=LD (bb.to<|Al _ τ d) (.inl h0) (afN (tv hS.ok)<|by decide);simp only[ap,aB];go_wp2_with(go_at_call 13;refine H.mono ?_;rintro e w6 ⟨rfl,b6⟩)
  have bk:=bx.trans (⟨b6.size,b6.block⟩:Bl (Y+1) V5 w6)<|Nat.le_succ_of_le P.lo;refine hK.out _ _<|ae.regionEnd E J<|ae.ret E J<|ae.lv (v:=ai<|kS b) E h.r.1 Tz.func28 (λτ d=>ax (fn:=Tryz.f28) rfl _ _ _)<|h.yes _ (hS.bl bk)<|Kb.of bk
end
def Qn (a:g 0=⟨#[116,105,99,107]⟩)(d:k≠1):bG b k g=(b,⟨#[98,97,100]⟩):=by
 grind [bG]
section
variable [Gl]{c:aL}{C:Nat}
def Vk (z:Zk ok c)(hS:SS V B b)(hD:D<V)(hT:Ij V D C k λi=>g<|i+1)(hq:g 0=⟨#[116,105,99,107]⟩)(h:Ow ok c Q V B b (bG b k g) r0 cs):
  ae Tz.prog ok c aS Q ⟨ay Tz.prog 27 #[aa B,ac (some ⟨D,C,none⟩) k kc] .normal,r0::cs,V⟩:=by
 have E:=z.E;have J:ok.aN 27=true:=z.f;refine ae.en Tz.func27 rfl Tryz.ntmps27 iE ?_;refine uv ?_;refine ae.ck E J [_] _ λK R τ d hK T=>?_
 simp only[ak];go_wp2;refine hK.out _ _<|ae.un ?_;clear hK T K R;refine ae.seq E J<|ae.rg E J<|ae.oc E J 0 1 λK τ d hK=>?_;simp only[ap];go_wp2;refine hK.out _ _<|ae.un ?_;clear hK K;refine ae.aZ E (i:=1) rfl rfl z.f (λw=>od)<|h.must (sl:=some ⟨D,C,none⟩) (n:=k) (cp:=kc) (m:=1) z hS Tz.func27 J rfl (Qn hq) λhk=>?_;subst hk;rw[ar rfl];refine ae.regionEnd E J<|ae.seq E J<|ae.rg E J<|ae.oc E J 0 3 λK τ d hK=>?_;have c5:(re V τ d).cell? ⟨D,C,none⟩=some (ai<|g 1):=hT 0 ab;simp only[ap,aB];go_wp2;refine hK.out _ _<|ae.un ?_;clear hK K c5;refine ae.aZ E (i:=3) rfl rfl z.f (λw=>od)<|rI (s:=g 1) z J rfl hS.g (λn V1 hn Z=>?_) λV1 hn Z=>ae.unwind E Tz.func27 rfl rfl h.r.1 h.r.2<|h.no _ (Gc hq hn) (hS.bl Z)<|Kb.of Z;rw[td hq hn]at h;rw[ar rfl];refine ae.oc E J 4 1 λK τ d hK=>?_
 simp only[ap,aB];go_wp2;refine hK.out _ _<|ae.un<|ae.regionEnd E J ?_;clear hK K;refine ae.seq E J<|ae.ck E J [_] _ λK R τ d hK T=>?_;simp only[ak];by_cases hm:n<=100
 case neg=>
  rw[if_neg hm]at h;have qr:(100:Int)<n:=ab;go_wp2;refine hK.out _ _<|ae.un ?_;clear hK T K R;refine ae.cond E J (t:=true) rfl<|ae.rg E J<|ae.oc E J 0 2 λK τ d hK=>?_;simp only[ap];go_wp2;refine hK.out _ _<|ae.un ?_;refine ae.uI (i:=2) (y:=.tmp 21) rfl rfl rfl rfl rfl ?_;exact ae.unwind E Tz.func27 rfl rfl h.r.1 h.r.2<|h.no _ rfl (hS.bl Z)<|Kb.of Z
 rw[if_pos hm]at h;have qr:¬(100:Int)<n:=ab;go_wp2;refine hK.out _ _<|ae.un ?_;clear hK T K R;refine ae.cond E J (t:=false) rfl<|ae.skip E J<|ae.ck E J [_] _ λK R τ d hK T=>?_;simp only[ak];go_wp2;refine hK.out _ _<|ae.un ?_;clear hK T K R;obtain⟨ad,pT⟩:∃ad,eH n b ⟨#[]⟩=ad:=⟨_,rfl⟩;rw[pT]at h;refine ae.seq E J<|ae.ck E J [_] _ λK R τ d hK T=>?_;simp only[ak];go_wp2;refine hK.out _ _<|ae.un ?_;clear hK T K R;refine ae.block E J<|ae.loop E J ?_;refine ae.uy E J (λj a' w'=>∃(i:Nat) (O:Bk) (o:ByteArray),i+j=n/\SS w' B O/\Kb B V w'/\Hid (eH j O o=ad)/\o.size<=54*i/\jI a' (rW 65 [(0,aa B),(6,ai o),(22,au .i64 n),(23,au .i64 i)])) ?_ n _ _ ⟨0,b,_,ab,hS.bl Z,Kb.of Z,pT,afK _,rfl,rfl⟩;clear pT Z;intro j a W ⟨i,O,o,mz,S,Mo,hF,hz,hf⟩ ih;obtain⟨u,rfl⟩:=hf.open;by_cases hj:i<n
 .have bm:(i:Int)<n:=ab;obtain⟨j,rfl⟩:∃q,j=q+1:=⟨j-1,ab⟩;refine ae.ck E J [_,_] _ λK R τ d hK T=>?_
  simp only[ak];go_wp2;refine hK.out _ _<|ae.un ?_;clear hK T K R;refine ae.seq E J<|ae.cut (λa' W'=>∃O o,SS W' B O/\Kb B V W'/\Hid (eH j O o=ad)/\o.size<=54*(i+1)/\jI a' (rW 65 [(0,aa B),(6,ai o),(22,au .i64 n),(23,au .i64 i)])) (λa' W' ⟨O,o,S,Mo,hF,hz,hf⟩=>?_) λhc=>?_
  .obtain⟨u,rfl⟩:=hf.open;have hw:=rJ (i:=i) ab;refine ae.rg E J<|ae.oc E J 0 2 λK τ d hK=>?_;simp only[ap];go_wp2;clear hw;exact hK.out _ _<|ae.un<|ae.regionEnd E J<|ih j ab _ _ ⟨i+1,O,o,ab,S,Mo,hF,hz,rfl,rfl⟩
  let⟨ao,cp,bo,dp,k1,q1⟩:=S.bq;refine ae.block E J<|ae.seq E J<|ae.rg E J<|ae.oc E J 0 4 λK τ d hK=>?_;let⟨s0,s1,s2,s3,s4⟩:=jr.of k1 (Bl.refl _ _) τ d;simp only[ap];go_wp2;refine hK.out _ _<|ae.un ?_;clear hK K s0 s1 s2 s3 s4;refine ae.aZ E (i:=4) rfl rfl z.f (λw=>od)<|R3 E z.r J q1 ?_;intro y sn ln kn cd W1 Z vw hN;rw[ar rfl];have S1:=S.bl Z;have TX:Kb B V W1:=Mo.trans<|Kb.of Z;have aF:=S.lt;rcases ab1 (X:=(·=B)) (λx hx=>hx▸aF) S.ok vw with⟨h1,rfl,s2,c2,s3,c3,rfl,bj,Wz⟩|⟨h1,rfl,s2,c2,s3,c3,rfl,bj,Wz⟩
  .rw[eH,if_pos h1]at hF;obtain rfl:=hF.out;clear h1;refine ae.oc E J 5 8 λK τ d hK=>?_
   let⟨W2,e2,k2,Y,z2⟩:=boxed (re W1 τ d) O.now O.shift s2 O.n c2 s3 O.n c3;replace z2:Hid _:=z2;simp only[ap,aB];go_wp2;refine hK.out _ _<|ae.regionEnd E J<|ae.seq E J<|ae.ck E J [_] _ λK R τ d hK T=>?_;replace Y:=Bl.kH Y;simp only[ak];go_wp2;refine hK.out _ _<|ae.un ?_;clear hK T K R e2;have z3:¬9223372036854775807<o.size+(5+(fd 2).size):=by have:=dy (z:=2) bh;omega
   refine ae.cond E J (t:=true) rfl<|ae.ck E J [_] _ λK R τ d hK T=>?_;have H:=Cf (cd:=2) bh bh (w:=re W2 τ d) (S1.bl Y).g.2.1;simp only[ak];go_wp2_with(go_at_call 53;refine H.mono ?_;rintro e w3 ⟨rfl,b3⟩)
   replace b3:=Y.trans (Bl.kH b3) Y.size;refine hK.out _ _<|ae.ret E J<|ae.lv (v:=ai<|o++(⟨#[99,111,100,101,32]⟩++fd 2)) E h.r.1 Tz.func27 (λτ d=>ax (fn:=Tryz.f27) rfl _ _ _)<|h.yes _ (S1.bl b3)<|TX.trans<|Kb.of b3
  .rw[eH,if_neg h1]at hF;have eF:=J9 S.ok h1;clear h1;rcases hN with⟨_,rfl,hO⟩|⟨h0,_⟩;case' inr=>exact absurd rfl h0
   refine ae.oc E J 5 8 λK τ d hK=>?_
   let⟨W2,e2,k2,Y,z2⟩:=boxed (re W1 τ d) (LH O).now (LH O).shift s2 (LH O).n c2 s3 (LH O).n c3;replace z2:Hid _:=z2;simp only[ap,aB];go_wp2;refine hK.out _ _<|ae.regionEnd E J<|ae.seq E J<|ae.ck E J [_] _ λK R τ d hK T=>?_;replace Y:=Bl.kH Y;simp only[ak];go_wp2;refine hK.out _ _<|ae.un ?_;clear hK T K R e2;obtain⟨U,Wr⟩:∃U,gone O.now O.t O.n=U:=⟨_,rfl⟩;have hm:∀x∈U,x<O.n:=λx hx=>(qm<|Wr▸hx).1
   have E4:=ql O.now O.t O.n;have h6:=S.ok.Ns;rw[Wr]at hO hF E4;refine ae.cond E J (t:=false) rfl<|ae.skip E J<|ae.ck E J [_,_] _ λK R τ d hK T=>?_;have kB:aR (re W2 τ d) B O.now O.shift (ac ao O.n cp) (ac bo O.n dp) 35:=(k1.same<|Z.block _ aF).same<|Y.block _ S1.lt;let⟨W3,e3,k3,b3,z3,o3⟩:=aJ kB (afB 0 _) (afP _) (LH O).now (LH O).shift s2 (LH O).n c2 s3 (LH O).n c3;have FP:W2.heap.size<=W3.heap.size:=a0 z3.symm;replace z3:Hid _:=z3;let⟨y0,y1,y2,y3,y4⟩:=k2.rc τ d;let⟨x0,x1,x2,x3,x4⟩:=kB.cells;simp only[ak];go_wp2;refine hK.out _ _ ?_;clear hK T K R x0 x1 x2 x3 x4 y0 y1 y2 y3 y4 e3;have S3:SS W3 B (LH O):=⟨eF,(S1.bl Y).g.same (λk hk _=>o3 k (by have:=S.lo;omega)) FP,S.lo,_,_,_,_,k3,(bj.bl Y).set (λx hx=>o3 x hx) FP,Wz⟩;have Ws:Kb B V W3:=(TX.trans<|Kb.of Y).trans ⟨FP,λk _ hn=>o3 k hn⟩;have bn:=az (w':=W3) hO λq hq=>(o3 q (by have:=(hO.lt q hq).1;omega)).trans<|Y.block q (hO.lt q hq).2
   clear hO o3 k3 kB b3 z3 bj k2 Y z2 FP;refine ae.block E J<|ae.loop E J ?_;refine ae.uy E J (λj' a' w'=>∃q:Nat,q+j'=U.length/\w'=W3/\jI a' (rW 65 [(0,aa B),(6,ai<|kU O (U.take q) o),(22,au .i64 n),(23,au .i64 i),(44,ac sn U.length kn),(45,au .i64 U.length),(46,au .i64 q)])) ?_ U.length _ _ ⟨0,ab,rfl,rfl,rfl⟩;rintro j' a W4 ⟨q,hq,bk,hf⟩ bp;rw[bk];clear bk W4;obtain⟨u,rfl⟩:=hf.open;by_cases E6:q<U.length
   .have Ui:(q:Int)<U.length:=ab;obtain⟨Bn,rfl,cn⟩:=CO bn E6;have br:=S.ok.name<|hm _<|List.getElem_mem E6;have bi:=jS S.ok (U.take q) o λx hx=>hm x<|List.mem_of_mem_take hx;rw[List.length_take]at bi;have z1:¬9223372036854775807<(O.f U[q]).name.size+1:=ab;have z2:¬9223372036854775807<(kU O (U.take q) o).size+((O.f U[q]).name.size+1):=ab;replace bi:Hid _:=bi;refine ae.ck E J [_,_] _ λK R τ d hK T=>?_
    simp only[ak];go_wp2;refine hK.out _ _<|ae.un ?_;clear hK T K R;refine ae.seq E J<|ae.block E J<|ae.ck E J [_] _ λK R τ d hK T=>?_;have bs:(re W3 τ d).cell? ⟨Bn,q,none⟩=some (ai (O.f U[q]).name):=cn;simp only[ak];go_wp2;refine hK.out _ _<|ae.un<|ae.rg E J<|ae.oc E J 0 5 λK τ d hK=>?_;simp only[ap];go_wp2;refine hK.out _ _<|ae.un<|ae.regionEnd E J<|ae.inBlock E J<|ae.rg E J<|ae.oc E J 0 2 λK τ d hK=>?_;have hw:=rJ (i:=q) ab;simp only[ap];go_wp2;clear hw;refine hK.out _ _<|ae.un<|ae.regionEnd E J<|bp (j'-1) ab _ _ ⟨q+1,ab,rfl,rfl,?_⟩;rw[show kU O (U.take<|q+1) o=kU O (U.take q) o++((O.f U[q]).name++⟨#[32]⟩) by rw[List.take_add_one,af5 E6,kU,a3];rfl];rfl
   .obtain rfl:q=U.length:=ab;have Ui:¬(U.length:Int)<U.length:=ab;rw[List.take_length];refine ae.ck E J [_] _ λK R τ d hK T=>?_
    simp only[ak];go_wp2;refine hK.out _ _<|ae.un ?_;clear hK T K R;have bi:=jS S.ok U o hm;refine ae.seq E J<|ae.cond E J (t:=false) rfl<|ae.exit E J rfl<|ae.inBlock E J<|hc.out _ _ ⟨LH O,kU O U o,S3,Ws,hF,ab,rfl,rfl⟩
 .obtain rfl:i=n:=ab;obtain rfl:j=0:=ab;have bm:¬(i:Int)<i:=ab;obtain rfl:=hF.out;let⟨ao,cp,bo,dp,k1,q1⟩:=S.bq;have D7:=(gd S.ok).1;refine ae.ck E J [_] _ λK R τ d hK T=>?_
  simp only[ak];go_wp2;refine hK.out _ _<|ae.un ?_;clear hK T K R;refine ae.seq E J<|ae.cond E J (t:=false) rfl<|ae.exit E J rfl<|ae.ck E J [_] _ λK R τ d hK T=>?_;let⟨s0,s1,s2,s3,s4⟩:=jr.of k1 (Bl.refl _ _) τ d;have H:=zI D7.1 ab (w:=re W τ d) S.g.2.1;have hd:=dy (z:=O.now) ab;have z1:¬9223372036854775807<o.size+4:=ab;have z2:¬9223372036854775807<o.size+4+(fd O.now).size:=ab;simp only[ak];go_wp2_with(go_at_call 54;refine H.mono ?_;rintro e w3 ⟨rfl,b3⟩)
  replace b3:=Bl.kH b3;exact hK.out _ _<|ae.ret E J<|ae.lv (v:=ai (eH 0 O o).2) E h.r.1 Tz.func27 (λτ d=>ax (fn:=Tryz.f27) rfl _ _ _)<|h.yes _ (S.bl b3)<|Mo.trans<|Kb.of b3
end
def MS (a:g 0=⟨#[108,97,110,100]⟩\/g 0=⟨#[108,101,97,118,101]⟩)(d:k≠4):bG b k g=(b,⟨#[98,97,100]⟩):=by
 grind [bG]
def xw (B:Nat)(b:Bk)(v u:aV)(D o:Nat)(g:Nat->ByteArray)(w:aI):Prop:=jr B b v u w/\w.cell? ⟨D,o,none⟩=some (ai<|g 1)/\w.cell? ⟨D,o+1,none⟩=some (ai<|g 2)/\w.cell? ⟨D,o+2,none⟩=some (ai<|g 3)/\w.cell? ⟨D,o+3,none⟩=some (ai<|g 4)
def JA (h:eQ s n):(Lit.int .i64 n).wf=true:=by
 have:=h.1;have:IntKind.min .i64=-9223372036854775808:=rfl;simp[Lit.wf];omega
def Zk.c [Gl]{c}(z:Zk ok c):InC ok:=⟨z.f,z.f,z.f,z.f,z.f,z.bt⟩
section
variable [Gl]{c:aL}{ln:Bool}
omit [Gl] in
def xw.of (k:aR V B b.now b.shift v u 35)(e:D<V)(f:Ij V D o 4 λi=>g<|i+1)(bl:Bl V V A)(τ:Nat->a5->Nat)(d:Nat):xw B b v u D o g (re A τ d):=⟨jr.of k bl τ d,bl.cell e<|f 0 ab,bl.cell e<|f 1 ab,bl.cell e<|f 2 ab,bl.cell e<|f 3 ab⟩
def G4 (z:Zk ok c)(hS:SS V B b)(hD:D<V)(hT:Ij V D o k λi=>g<|i+1)(hz:(g 1).size<=10000)(hq:g 0=⟨#[108,97,110,100]⟩\/g 0=⟨#[108,101,97,118,101]⟩)(hl:ln=decide (g 0=⟨#[108,97,110,100]⟩))(h:Ow ok c Q V B b (bG b k g) r0 cs):
  ae Tz.prog ok c aS Q ⟨ay Tz.prog 46 #[aa B,ac (some ⟨D,o,none⟩) k kc,a6 ln] .normal,r0::cs,V⟩:=by
 have E:=z.E;have J:ok.aN 46=true:=z.f;replace hl:Hid _:=hl;refine ae.en Tz.func46 rfl Tryz.ntmps46 iE ?_;refine ae.ck E J [_] _ λK R τ d hK hR=>?_
 simp only[ak];go_wp2;refine hK.out _ _<|ae.un ?_;clear hK hR K R;refine ae.seq E J<|ae.rg E J<|ae.oc E J 0 1 λK τ d hK=>?_;simp only[ap];go_wp2;refine hK.out _ _<|ae.un ?_;clear hK K;refine ae.aZ E (i:=1) rfl rfl z.f (λw=>od)<|h.must (sl:=some ⟨D,o,none⟩) (n:=k) (cp:=kc) (m:=4) z hS Tz.func46 J rfl (MS hq) λhk=>?_;subst hk;rw[ar rfl];let⟨ao,cp,bo,Z,k1,q1⟩:=hS.bq;have T:Hid (∀a k A i,i<3->(¬∃x,eQ (g<|i+2) x)->a.defers=[]->Bl V V A->ae Tz.prog ok c aS Q ⟨Fj<|(base 46).at a k,r0::cs,A⟩):=λa k A i h3 hn hd hb=>ae.unwind E Tz.func46 rfl hd h.r.1 h.r.2<|h.no _ (CG hq ⟨i,h3,hn⟩) (hS.bl hb)<|Kb.of hb
 refine ae.regionEnd E J<|ae.seq E J<|ae.drawn E J aO λorder ho=>?_;refine Nz.go E J ho (Nz.start (M:=[0,1,2]) (F:=[0,1,2,3,4,5,6,7,8,9,10,11,13,14,15,17,18,19]) (l:=[(0,aa B),(1,ac (some ⟨D,o,none⟩) 4 kc),(2,a6 ln),(9,aa B),(10,aa B),(11,aa B),(12,aa B),(13,.agg #[au .i64 b.now,au .i64 b.shift,ac ao b.n cp,ac bo b.n Z]),(14,ac (some ⟨D,o,none⟩) 4 kc),(15,aa<|some ⟨D,o,none⟩),(16,ai<|g 1),(17,a6 ln),(18,ac (some ⟨D,o,none⟩) 4 kc),(19,aa<|some ⟨D,o+1,none⟩),(20,ai<|g 2),(22,ac (some ⟨D,o,none⟩) 4 kc),(23,aa<|some ⟨D,o+2,none⟩),(24,ai<|g 3),(26,ac (some ⟨D,o,none⟩) 4 kc),(27,aa<|some ⟨D,o+3,none⟩),(28,ai<|g 4)]) rfl rfl aO) 12 (xw B b (ac ao b.n cp) (ac bo b.n Z) D o g) (xw.of k1 hD hT<|Bl.refl _ _) KM λa post im=>?_
 refine ae.aZ E (i:=12) rfl rfl z.f (λw=>N0)<|rI (s:=g 2) z J rfl hS.g (λx V1 n1 Y=>?_) λV1 hn Y=>T.out _ _ _ 0 ab hn im.df Y;rw[ar rfl];let⟨L,ho,hn⟩:=im.nx 21 (au .i64 x) rfl;refine Nz.go E J ho hn 16 (xw B b (ac ao b.n cp) (ac bo b.n Z) D o g) (xw.of k1 hD hT Y) KM λa post im=>?_
 refine ae.aZ E (i:=16) rfl rfl z.f (λw=>N0)<|rI (s:=g 3) z J rfl (hS.g.bl Y) (λy V2 n2 O=>?_) λV2 hn O=>T.out _ _ _ 1 ab hn im.df<|Y.trans O Y.size;rw[ar rfl];replace O:=Y.trans O Y.size;let⟨L,ho,hn⟩:=im.nx 25 (au .i64 y) rfl;refine Nz.go E J ho hn 20 (xw B b (ac ao b.n cp) (ac bo b.n Z) D o g) (xw.of k1 hD hT O) KM λa post im=>?_
 refine ae.aZ E (i:=20) rfl rfl z.f (λw=>N0)<|rI (s:=g 4) z J rfl (hS.g.bl O) (λt V3 n3 U=>?_) λV3 hn U=>T.out _ _ _ 2 ab hn im.df<|O.trans U O.size;rw[ar rfl];replace U:=O.trans U O.size;clear T;rw[CF hq n1 n2 n3,<-hl.out]at h;have hf:Mv.Fits ⟨g 1,ln,x,y,t,-1⟩:=⟨by unfold maxLen;show(g 1).size<=_;omega,JA n1,JA n2,JA n3,rfl⟩;let⟨L,ho,hn⟩:=im.nx 29 (au .i64 t) rfl;refine Nz.go E J ho (hn.add 21 30 (.agg #[ai<|g 1,a6 ln,au .i64 x,au .i64 y,au .i64 t,au .i64 (-1)]) aO) 22 (xw B b (ac ao b.n cp) (ac bo b.n Z) D o g) (xw.of k1 hD hT U) KM λa post im=>?_
 refine ae.aZ E (i:=22) rfl rfl z.f (λw=>N0)<|VN (q:=⟨g 1,ln,x,y,t,-1⟩) E z.f z.f z.f z.co z.c z.f z.f z.ov J (q1.bl U) hf ?_;intro v cd W' b4 vw;rw[ar rfl];obtain⟨rfl,e2⟩:=aai (X:=(·=B)) (λx hx=>hx▸(hS.bl U).lt) hS.ok vw;let⟨L,ho,hn⟩:=im.nx 31 (aE #[v,au .i64 (HJ b ⟨g 1,ln,x,y,t,-1⟩).2]) rfl;replace b4:=U.trans b4 U.size;refine Nz.go E J ho ((hn.add 23 32 v aO).add 24 33 (au .i64 (HJ b ⟨g 1,ln,x,y,t,-1⟩).2) aO) 25 (xw B b (ac ao b.n cp) (ac bo b.n Z) D o g) (xw.of k1 hD hT b4) KM λa post im=>?_
 refine ae.aZ E (i:=25) rfl rfl z.f (λw=>N0)<|wc z J (hS.bl b4) (Ik hS.ok) e2 λW2 s2 k2=>?_;rw[ar rfl];let⟨L,ho,hn⟩:=im.nx 34 (ai (codeF<|HJ b ⟨g 1,ln,x,y,t,-1⟩).2) rfl;refine Nz.go E J ho (hn.sink aO) 26 (λw=>True) (λ_ _=>trivial) (λ_ h=>nomatch h) λa post im=>?_
 refine im.last E J (ai (codeF<|HJ b ⟨g 1,ln,x,y,t,-1⟩).2) rfl rfl (λw=>by unfold N7;go_simp) λt' ht=>?_
 exact ae.ret E J<|ae.lv (v:=ai (codeF<|HJ b ⟨g 1,ln,x,y,t,-1⟩).2) E h.r.1 Tz.func46 (λτ d=>ht▸ax (fn:=Tryz.f46) rfl t' Tz.prog (re W2 τ d))<|h.yes _ s2<|(Kb.of b4).trans k2
def Vh (z:Zk ok c)(hS:SS V B b)(T:D<V)(U:Ij V D o k λi=>g<|i+1)(Y:(g 1).size<=10000)(hq:g 0=⟨#[108,97,110,100]⟩)(h:Ow ok c Q V B b (bG b k g) r0 cs):
  ae Tz.prog ok c aS Q ⟨ay Tz.prog 23 #[aa B,ac (some ⟨D,o,none⟩) k kc] .normal,r0::cs,V⟩:=by
 have E:=z.E;have x:ok.aN 23=true:=z.f;refine ae.en Tz.func23 rfl Tryz.ntmps23 iE<|ae.ck E x [_] _ λK R τ d hK Z=>?_
 simp[ak];go_wp2;refine hK.out _ _<|ae.un ?_;clear hK Z K R;refine ae.seq E x<|ae.rg E x<|ae.oc E x 0 2 λK τ d hK=>?_;simp only[ap];go_wp2;refine hK.out _ _<|ae.un ?_;clear hK K;refine ae.aZ E rfl rfl z.f (λw=>od)<|G4 (kc:=kc) (ln:=true) z hS T U Y (.inl hq) cO ⟨⟨x,rfl⟩,λA J O=>?_,λA e J O=>ae.unwind E Tz.func23 rfl rfl h.r.1 h.r.2<|h.no A e J O⟩;rw[ar rfl];refine ae.oc E x 3 1 λK τ d hK=>?_
 simp only[ap,aB];go_wp2;exact hK.out _ _<|ae.un<|ae.regionEnd E x<|ae.ret E x<|ae.lv E h.r.1 Tz.func23 (λτ d=>ax (fn:=Tryz.f23) rfl _ _ _)<|h.yes A J O
def Q7 (z:Zk ok c)(hS:SS V B b)(T:D<V)(U:Ij V D o k λi=>g<|i+1)(Y:(g 1).size<=10000)(hq:g 0=⟨#[108,101,97,118,101]⟩)(h:Ow ok c Q V B b (bG b k g) r0 cs):
  ae Tz.prog ok c aS Q ⟨ay Tz.prog 24 #[aa B,ac (some ⟨D,o,none⟩) k kc] .normal,r0::cs,V⟩:=by
 have E:=z.E;have x:ok.aN 24=true:=z.f;refine ae.en Tz.func24 rfl Tryz.ntmps24 iE<|ae.ck E x [_] _ λK R τ d hK Z=>?_
 simp[ak];go_wp2;refine hK.out _ _<|ae.un ?_;clear hK Z K R;refine ae.seq E x<|ae.rg E x<|ae.oc E x 0 2 λK τ d hK=>?_;simp only[ap];go_wp2;refine hK.out _ _<|ae.un ?_;clear hK K;refine ae.aZ E rfl rfl z.f (λw=>od)<|G4 (kc:=kc) (ln:=false) z hS T U Y (.inr hq) cO ⟨⟨x,rfl⟩,λA J O=>?_,λA e J O=>ae.unwind E Tz.func24 rfl rfl h.r.1 h.r.2<|h.no A e J O⟩;rw[ar rfl];refine ae.oc E x 3 1 λK τ d hK=>?_
 simp only[ap,aB];go_wp2;exact hK.out _ _<|ae.un<|ae.regionEnd E x<|ae.ret E x<|ae.lv E h.r.1 Tz.func24 (λτ d=>ax (fn:=Tryz.f24) rfl _ _ _)<|h.yes A J O
end
