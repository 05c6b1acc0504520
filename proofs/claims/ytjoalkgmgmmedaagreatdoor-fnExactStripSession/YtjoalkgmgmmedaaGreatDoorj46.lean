import Derived.Test.YtjoalkgmgmmedaaGreatDoorj08
import Derived.Test.YtjoalkgmgmmedaaGreatDoorj45
import Derived.Test.YtjoalkgmgmmedaaGreatDoorj32
import Derived.Lib.ConvBytes
set_option linter.defProp false
set_option linter.unusedVariables false
set_option maxHeartbeats 2000000
set_option maxRecDepth 20000
open Array renaming size_eq_zero_iff->ax
open ByteArray renaming ext->aL,size_extract->bA
open Go renaming run_underlying->au,World->ay,Value->bj,Calls->bn,MapEntry->br,heap_alloc_new->bs,Operand->bv,results_tmp2->bz,Frame->bE,results_tmp->bH
open Go.Frame renaming enter->a2
open Go.Instr renaming lookup->a5,findNow->bi,mapUpdate->bm
open Go.Lib renaming digitVal->ac,decFrom->a8,bytesWorld->be,size_eq->bp
open Go.MapKept renaming run_getObj_map->av,run_checkKey->aB,run_findKey->aV,IsKey->a9,run_setObj_map->bI
open Go.Value renaming string->aa,pointer->aI,int->a6,slice->a7,bool->bk,tuple->bB
open List renaming setIfInBounds_toArray->ai,set_cons_zero->a3,set_cons_succ->a4
namespace Go.Proofs.YtjoalkgmgmmedaaGreatDoor
open Conc RowKit
variable {es:Array br}{b:Bk}{s:ByteArray}{ok:Ctx}{c r0:bE}{cd:Int}{cs:List bE}{M c2 c3 cl i k n:Nat}{X:Nat->Prop}{x:UInt8}{v y:bj}{Q:bj->ay->Prop}{V W w w':ay}
def H9 (s:ByteArray)(m:Int)(ev:bj):Prop:=(ev=.nilIface/\-100000<m/\m<100000/\∀n:Nat,eQ s n->m=n)\/(ev=.iface 151 (a6 .i64 2)/\m=0/\¬∃n,eQ s n)
def UK (e:s.data.toList.head?=some x)(f:ac x=none):¬∃n,eQ s n:=by
 rintro⟨n,d⟩;have h:=(fu.1 d).2.2.2;cases g:s.data.toList with
 |nil=>grind
 |cons a r=>
  grind [a8]
def M9 (w:ay):bn Tz.prog 118 #[aa ⟨#[]⟩,a6 .i64 10,a6 .i64 0] w λe w'=>e=.returned (bB #[(0:Int),.iface 151<|a6 .i64 2])/\w'=w:=by
 go_enter Tz.func118,Tryz.ntmps118
 refine uv ?_;go_wp2;go_ret2
 simp_all
def OR (w:ay)(t:ByteArray):Below w w (be w 5 t):=⟨rfl,rfl,rfl,by rw[Lib.bytesWorld_size];omega,λi a=>Lib.bytesWorld_at_old w _ t i a⟩
def IE {t:ByteArray}(a:t.data.toList[k]?=some x)(f:ac x=none):¬∃n,eQ t n:=λ⟨n,g⟩=>by
 let⟨d,e⟩:=Lib.digit_of_decFrom _ 0 n (fu.1 g).2.2.2 k x a;rw[f]at e;cases e
def S9 (s:ByteArray)(hs:s.size<=5)(w:ay):bn Tz.prog 97 #[.string s] w λe w'=>(∃m ev,e=.returned (.tuple #[.int .i64 m,ev])/\H9 s m ev)/\Below w w w':=by
 by_cases h0:s.size=0
 .obtain rfl:s=⟨#[]⟩:=aL<|ax.1 h0;go_enter Tz.func97,Tryz.ntmps97
  go_wp2_with(go_at_call 118;refine(M9 _).mono ?_;rintro e w1 ⟨rfl,rfl⟩)
  go_ret2
  exact⟨⟨_,_,rfl,.inr ⟨rfl,rfl,λ⟨n,r⟩=>absurd (fu.1 r).2.1<|by decide⟩⟩,afB _ _⟩
 have iG:0<s.size:=by omega
 obtain⟨d,Wx⟩:∃d,s[0]'iG=d:=⟨_,rfl⟩
 have hh:s.data.toList.head?=some d:=by rw[<-Wx,List.head?_eq_getElem?];exact t7 iG
 have U:d=45\/d=43->∃t,(∀W,(Instr.slice 9 (.string s) (some<|.int .i64 1) none none).run Tz.prog W=.ok (.string t) W)/\t.size=s.size-1/\(∀(z:Int) (m:Nat),z=m\/z=-m->m<100000->a8 0 t.data.toList=some m->H9 s z .nilIface)/\(∀(k:Nat) x,t.data.toList[k]?=some x->ac x=none->H9 s 0 (.iface 151<|.int .i64 2))/\(t.size=0->H9 s 0 (.iface 151<|.int .i64 2)):=λhb=>by
  have r:=UK hh (by rcases hb with rfl|rfl<;>decide);refine⟨s.extract 1 s.size,λW=>?_,?_,λz m hz hm _=>.inl ⟨rfl,by omega,by omega,λn h=>absurd ⟨n,h⟩ r⟩,λ_ _ _ _=>.inr ⟨rfl,rfl,r⟩,λ_=>.inr ⟨rfl,rfl,r⟩⟩
  .rw[run_slice_string_from_if W 9 s .i64 _ aO,if_pos ⟨by omega,by omega⟩];rfl
  .rw[bA];omega
 rcases(show d=45\/d=43\/(d≠45/\d≠43) from(Decidable.em _).imp id λh=>(Decidable.em _).imp id λh'=>⟨h,h'⟩)with J|L|⟨J,L⟩;case' inl=>
  let⟨t,Oj,A,g,l,C⟩:=U<|.inl J;subst J;have h5:t.size<=5:=ab;clear A;by_cases Y:t.size=0
  .obtain rfl:t=⟨#[]⟩:=aL<|ax.1 Y;replace C:=C rfl;go_enter Tz.func97,Tryz.ntmps97
   go_wp2;go_ret2
   exact⟨⟨_,_,rfl,C⟩,afB _ _⟩
  have Z:¬(t.size:Int)<1:=ab
 case' inr.inl=>
  let⟨t,Oj,A,g,l,C⟩:=U<|.inr L;subst L;have h5:t.size<=5:=ab;clear A;by_cases Y:t.size=0
  .obtain rfl:t=⟨#[]⟩:=aL<|ax.1 Y;replace C:=C rfl;go_enter Tz.func97,Tryz.ntmps97
   go_wp2;go_ret2
   exact⟨⟨_,_,rfl,C⟩,afB _ _⟩
  have Z:¬(t.size:Int)<1:=ab
 case' inr.inr=>
  have ao:((d.toNat:Int)==45)=false:=beq_eq_false_iff_ne.2 λe=>J (UInt8.toNat_inj.1 (by show d.toNat=45;omega))
  have aE:((d.toNat:Int)==43)=false:=beq_eq_false_iff_ne.2 λe=>L (UInt8.toNat_inj.1 (by show d.toNat=43;omega))
  obtain⟨t,rfl⟩:∃t,t=s:=⟨_,rfl⟩;have h5:=hs;have g:∀(z:Int) (m:Nat),z=m->m<100000->a8 0 t.data.toList=some m->H9 t z .nilIface:=λz m hz hm D=>.inl ⟨rfl,by omega,by omega,λn r=>by
   have:=(fu.1 r).2.2.2;rw[D]at this;rw[hz,afQ this]⟩
  have l:∀(k:Nat) x,t.data.toList[k]?=some x->ac x=none->H9 t 0 (.iface 151<|.int .i64 2):=λk x E h2=>.inr ⟨rfl,rfl,IE E h2⟩
  clear U J L
 all_goals
  have ad:=Lib.run_convert_string_bytes (P:=Tz.prog) w 9 39 5 t (u:=.string) aO aO aO;have R:∀j,j<t.size->(be w 5 t).cell? ⟨w.heap.size,j,none⟩=some (.int .u8 (t.data.toList.getD j 0).toNat):=λj hj=>Lib.bytesWorld_cell w 5 t j hj
  obtain⟨S,wA,bW⟩:∃S,S=be w 5 t/\Below w w S:=⟨_,rfl,OR w t⟩;rw[<-wA]at ad R;replace R:Hid _:=R;replace g:Hid _:=g;replace l:Hid _:=l;clear wA hh;go_enter Tz.func97,Tryz.ntmps97
  go_wp2;go_loop [49,6] (λvi vn=>∃(k f:Nat),k<=t.size/\vi=.int .i64 k/\vn=.int .i64 f/\Hid (a8 0 (t.data.toList.take k)=some f)) (λvi _=>t.size-(intOf vi).toNat)
  case atStart=>exact⟨0,0,afP _,rfl,rfl,rfl⟩
  obtain⟨k,f,hk,rfl,rfl,Px⟩:=hrel;have aF:=decFrom_lt Px.out (by rw[List.length_take];omega);by_cases tM:k<t.size
  .obtain⟨x,hx⟩:∃x,x=t.data.toList.getD k 0:=⟨_,rfl⟩;have O:Hid (t.data.toList[k]?=some x):=by
    show _=_;rw[hx,List.getD,af5 (by rw[<-bp];exact tM)];rfl
   have ng:S.cell? ⟨w.heap.size,k,none⟩=some (.int .u8 x.toNat):=by rw[hx];exact R.out k tM
   clear hx;cases WF:ac x with
   |none=>
    have D:=WF;unfold ac at D;replace WF:Hid _:=WF;have Uq:=x.toNat_lt;have aN:¬(48<=x.toNat/\x.toNat<=57):=λh=>by rw[if_pos h]at D;cases D
    clear D;go_wp2;go_ret2
    exact⟨⟨_,_,rfl,l.out k x O.out WF.out⟩,bW⟩
   |some dv=>
    let⟨aZ,bb,PF⟩:=Lib.digitVal_eq WF;replace WF:Hid _:=WF;go_wp2;go_round
    .exact⟨k+1,f*10+dv,by omega,by go_num,by first|go_num|(congr 1;omega),Lib.decFrom_take _ k 0 f x dv Px.out O.out WF.out⟩
    simp[intOf];omega
  obtain rfl:k=t.size:=by omega
  have E:=Px.out;rw[List.take_of_length_le (by rw[<-bp];exact afK _)]at E;replace E:Hid _:=E;go_wp2;go_ret2
  exact⟨⟨_,_,rfl,g.out _ f (by omega) aF E.out⟩,bW⟩
def xA (X:Nat->Prop)(W:ay)(y:bj)(b:Bk):Prop:=∃d c2 a c3,y=.agg #[a6 .i64 b.now,a6 .i64 b.shift,a7 d b.n c2,a7 a b.n c3]/\fp X W b d c2 a b.n/\(a=none->c3=0)
section
variable {N:Nat}{q:Mv}{a0 a1:Int}{F:Nat->Mv}{T:Nat->Int}
def vB (g:∀x,X x->x<N){d BT:Nat}(j:aK W d 0 n F)(l:d<W)(m:aD W BT 0 n T)(o:BT<W)(r:N<=d)(t:N<=BT):xA X W (.agg #[a6 .i64 a0,a6 .i64 a1,a7 (some ⟨d,0,none⟩) n c2,a7 (some ⟨BT,0,none⟩) n c3]) ⟨a0,a1,n,F,T⟩:=
 ⟨_,_,_,_,rfl,⟨⟨(λh=>nomatch h),λf e=>gC⟩,⟨(λh=>nomatch h),λf e=>gC⟩,afK _,λa h u=>gC⟩,λh=>nomatch h⟩
def qx (z:∀x,X x->x<N){u:bj}{xs:List bj}(p:W.ownsRow N 55 6 v n (fR F n))(r:W.ownsRow N 3 1 u n xs)(t:∀j,j<n->xs[j]?=some (a6 .i64<|T j)):xA X W (Ta a0 a1 v u) ⟨a0,a1,n,F,T⟩:=by
 obtain⟨a,c,rfl⟩:=mh p;obtain⟨a',A,rfl⟩:=mh r;have f:=A' r t;refine⟨_,_,_,_,rfl,⟨A_ p,⟨λe=>⟨(f.1 e).1,(f.1 e).1⟩,f.2⟩,afK _,λa h t=>?_⟩,λe=>(f.1 e).2⟩;have:=z _ t;rcases h with rfl|rfl
 .have:=(p.lt a.block rfl).1;omega
 have:=(r.lt a.block rfl).1;omega
def aai (A:∀x,X x->x<N)(hb:b.ok)(h:EZ (Ox b.now b.shift b.f b.n q) (R9 b.now b.shift b.f b.n b.t b.n) (aY b.now b.shift b.f b.n b.t b.n) N y cd W):cd=(HJ b q).2/\xA X W y (HJ b q).1:=by
 unfold HJ;rcases h with⟨J,_⟩|⟨_,⟨h,rfl⟩|⟨_,⟨W',N',h⟩,v,u,rfl,O,R⟩⟩
 .rw[hb]at J;grind
 .unfold Ox at h;cases r:vj b.f b.n b.now b.shift q with
  |no cd=>grind
  |yes p T=>rw[r]at h;obtain⟨_,BN,c2,BT,c3,rfl,U,Y,C,D,_⟩:=h;exact⟨rfl,vB A C.1 C.lt D.2 D.lt U Y⟩
 unfold Ox at h;cases r:vj b.f b.n b.now b.shift q with
 |no Yv=>rw[r]at h;have:=h.2;simp at this;exact⟨this,qx A O R λj Z=>dW Z⟩
 |yes p T=>grind
def aar (A:∀x,X x->x<N)(hb:b.ok)(h:EZ (MPd b.now b.shift b.f b.n b.t s) (R9 b.now b.shift b.f b.n b.t b.n) (aY b.now b.shift b.f b.n b.t b.n) N y cd W):cd=(Fx b s).2/\xA X W y (Fx b s).1:=by
 unfold Fx;rcases h with⟨J,_⟩|⟨_,⟨⟨k,hk,h⟩,rfl⟩|⟨_,⟨W',N',k,hk,h⟩,v,u,rfl,O,R⟩⟩
 .rw[hb]at J;grind
 .rw[qI hk];cases r:oG b.f b.n b.t b.now b.shift k with
  |no cd=>grind
  |yes p T=>rw[r]at h;obtain⟨_,BN,c2,BT,c3,rfl,U,Y,C,D,_⟩:=h;exact⟨rfl,vB A C.1 C.lt D.2 D.lt U Y⟩
 rw[qI hk];cases r:oG b.f b.n b.t b.now b.shift k with
 |no Yv=>rw[r]at h;have:=h.2;simp at this;exact⟨this,qx A O R λj Z=>dW Z⟩
 |yes p T=>grind
def abJ (A:∀x,X x->x<N)(hb:b.ok)(h:EZ (R_ b.now b.shift b.f b.n b.t s) (R9 b.now b.shift b.f b.n b.t b.n) (aY b.now b.shift b.f b.n b.t b.n) N y cd W):cd=(GO b s).2/\xA X W y (GO b s).1:=by
 unfold GO;rcases h with⟨J,_⟩|⟨_,⟨⟨k,hk,h⟩,rfl⟩|⟨_,⟨W',N',k,hk,h⟩,v,u,rfl,O,R⟩⟩
 .rw[hb]at J;grind
 .rw[qI hk];cases r:gD b.f b.n b.t b.now k with
  |inl cd=>grind
  |inr x=>let⟨p,T⟩:=x;rw[r]at h;obtain⟨_,BN,c2,BT,c3,rfl,U,Y,C,D⟩:=h;exact⟨rfl,vB A C.1 C.lt D.2 D.lt U Y⟩
 rw[qI hk];cases r:gD b.f b.n b.t b.now k with
 |inl Yv=>rw[r]at h;have:=h.2;simp at this;exact⟨this,qx A O R λj Z=>dW Z⟩
 |inr x=>grind
def ab1 (D:∀x,X x->x<N)(hb:b.ok)(h:EZ (MPt b.now b.shift b.f b.n b.t) (R9 b.now b.shift b.f b.n b.t b.n) (aY b.now b.shift b.f b.n b.t b.n) N y cd W):b.now=10000/\cd=2/\xA X W y b\/b.now≠10000/\cd=0/\xA X W y (LH b):=by
 rcases h with⟨J,_⟩|⟨_,⟨h,rfl⟩|⟨_,⟨R,U,h⟩,v,u,rfl,O,r⟩⟩
 .rw[hb]at J;grind
 .rcases h with⟨_,_,h⟩|⟨h,_,v,u,rfl,r,A⟩
  .grind
  rw[Hg,uC (g:=jO<|(stay b.now b.t b.n).map λi=>bT (b.f i) (b.t i)<|b.now+1) (λj C=>by rw[xV cO,pg C];simp)]at r;exact .inr ⟨h,rfl,qx D r A λj C=>by grind [NG,pg,tkT]⟩
 rcases h with⟨h,_,A⟩|⟨_,h,_⟩
 .simp at A;exact .inl ⟨h,A,qx D O r λj C=>dW C⟩
 grind
end
def inZ (f:Nat):Bool:=TL.contains f&&!Tz.sv.contains f
structure Zk [g:Gl](ok:Ctx)(c:bE):Prop where
 E:dB Tz.prog ok c aS
 G:∀P,Gl.top P->P=Tryz.prog
 i:∀f,inZ f=true->ok.aN f=true
 bt:ok.aN 166=false
 co:ok.aN 95=false
 ov:g.ov=259
def Zk.f [Gl](z:Zk ok c){f}(e:inZ f=true:=by kernel_rfl):ok.aN f=true:=z.i f e
def Fj (fr:bE):Frame:={fr with mode:=.panicking [{v:=.iface 62<|.agg #[],recovered:=false}]}
def Gd (w:ay):Prop:=7<=w.heap.size/\Tb w/\∃v,w.cell? ⟨4,0,none⟩=some v/\v.cells=#[v]
def Gd.same (h:Gd w)(e:∀k,k<7->k<w.heap.size->w'.heap[k]?=w.heap[k]?)(a:w.heap.size<=w'):Gd w':=by
 let⟨d,f,v,j,g⟩:=h;refine⟨afN d a,f.same<|e 6 (by omega)<|by omega,v,?_,g⟩;grind [World.cell?]
def Gd.bl (h:Gd w)(b:Bl w w w'):Gd w':=h.same (λk _ a=>b.block k a) b.size
def IB (s:ByteArray)(a:s.size<=5)(w:ay):bn Tz.prog 150 #[aa s] w λe w'=>e=.returned (aa s)/\Below w w w':=Any.stringslite_Clone Tz.clL s w gC
def svD {p:Prop}(h:p:=by intro w' hSw;let⟨s0,s1⟩:=hSw;go_simp):p:=h
def J8 (f s:ByteArray)(hs:s.size<=5)(w:ay)(r:w.cell? ⟨4,0,none⟩=some v)(hc:v.cells=#[v]):bn Tz.prog 119 #[aa f,aa s] w λe w'=>(∃N:Nat,e=.returned (aI N))/\Below w w w':=by
 have A:=block_lt_of_cell r;unfold Value.cells at hc;go_enter Tz.func119,Tryz.ntmps119
 go_wp2;refine wp_region_held_drew (S:=λw'=>w'.cell? ⟨4,0,none⟩=some v/\Below w w w') aO ⟨r,(afB _ w).drew⟩ λhS=>?_;refine aj 0 (aa f) 5 rfl svD hS ?_;refine aj 1 (aa s) 6 rfl svD hS ?_;refine aj 3 v 8 rfl svD hS ?_;simp only[Act.put,ai,a3,a4];refine f8 2 rfl λK hK=>?_;go_simp
 go_at_call 150
 refine(IB s hs _).mono ?_;rintro e C ⟨rfl,t⟩;have u:=(afB _ w).drew.trans t;refine hK.out _ _ ⟨(t.cell (p:=⟨4,0,none⟩) A).trans r,u⟩ λhS=>?_
 clear hK K;refine aj 4 (.agg #[aa f,aa s,v]) 9 rfl svD hS ?_;simp only[Act.put,ai,a3,a4];refine f8 5 rfl λK hK=>?_;go_simp
 refine hK.out _ _ ⟨?_,u.alloc t.size _⟩ λhS=>?_
 .rw[afH (w:=C) (heap_alloc_old _ _<|afL A u.size)];exact hS.1
 clear hK K;refine aj 6 (aI C.heap.size) 4 rfl svD hS ?_;refine wpAnyH_done aO ?_ _;simp only[Act.put,ai,a3,a4];exact Ho
def acz {a b:ByteArray}(h:¬a=b):(a.toList==b.toList)=false:=beq_eq_false_iff_ne.2 λe=>h<|aL<|Array.toList_inj.1<|by rwa [ByteArray.toList_eq,ByteArray.toList_eq]at e
section
variable [Gl]
def NS {sl:Option Addr}{cp:Nat}(z:Zk ok c)(C:ok.aN r0.fn=true)(D:r0.mode=.run)
  (u:n=k->ae Tz.prog ok c aS Q ⟨r0.finish<|bB #[],cs,V⟩)(A:n≠k->ae Tz.prog ok c aS Q ⟨Fj r0,cs,V⟩):
  ae Tz.prog ok c aS Q ⟨a2 Tz.prog 47 #[a7 sl n cp,a6 .i64 k] .normal,r0::cs,V⟩:=by
 replace u:Hid _:=u;replace A:Hid _:=A;have E:=z.E;have r:ok.aN 47=true:=z.f;refine ae.en Tz.func47 rfl Tryz.ntmps47 iE<|uv<|ae.ck E r [_] _ λK R τ d hK J=>?_
 simp only[ak];by_cases hk:n=k
 .subst hk;go_wp2;exact hK.out _ _<|ae.un<|ae.cond E r rfl<|ae.skip E r<|ae.off E r<|ae.lv E C Tz.func47 (λτ d=>results_none rfl _ _ _)<|u.out V8
 have O:=beq_eq_false_iff_ne.2 ab;have U:((n:Int)!=k)=true:=bne_iff_ne.2 ab;replace hk:Hid _:=hk;go_wp2;refine hK.out _ _<|ae.un<|ae.cond E r (t:=true) rfl<|ae.rg E r<|ae.oc E r 0 2 λK τ d hK=>?_;simp only[ap];go_wp2;exact hK.out _ _<|ae.un<|ae.uI (i:=2) rfl rfl rfl rfl rfl<|ae.unwind E Tz.func47 rfl rfl C D (A.out hk.out)
def UB {ρ:Ren}{e:bv->bj}{a:Act}{o:Oper}{x y:bv}(t:o.op=.binOp .eql 43 x y 43)(u:lH ok ρ a.eval e)(f:dq ok.fn x=true)(z:dq ok.fn y=true)(he:a.eval x=.iface 151 (.int .i64 2))(A:a.eval y=.iface 151 (.int .i64 2)):(execOp e o).runT Tryz.prog W #[]=(.ok (.value<|.bool true) W,#[]):=by
 have q:∀{x:bv},dq ok.fn x=true->a.eval x=.iface 151 (.int .i64 2)->e x=.iface 151 (.int .i64 2):=λ{x} f he=>by
  have h:=u x f;rw[he]at h;generalize e x=q at h;cases h with
  |iface _ h=>cases h;rfl
 let⟨i,j⟩:=Option.isSome_iff_exists.1 (show(Tryz.prog.info? 151).isSome=true from aO);have C:i.comparable=true:=by
  have:(Tryz.prog.info? 151).map (·.comparable)=some true:=aO
  rw[j]at this;exact afQ this
 obtain⟨l,g⟩:∃l,Tryz.prog.underlying 43=some (.interface l):=⟨_,Tryz.underlying43⟩;have D:Tryz.prog.underlying 151=some (.int .i64):=aO;have r:∀d:Nat,(Op.equalIn (d+2) 43 (.iface 151<|.int .i64 2)<|.iface 151<|.int .i64 2).run Tryz.prog W=.ok true W/\∀es,(Op.equalIn (d+2) 43 (.iface 151<|.int .i64 2)<|.iface 151<|.int .i64 2).events Tryz.prog W es=es:=λd=>by
  constructor<;>simp[Op.equalIn,au g,au D,typeInfo,j,C,Result.evThen]
 unfold execOp;simp only[t,q f he,q z A];refine Jr ?_ ?_
 .simp[go_sem,binOp,Op.equal,Op.maxDepth,(r 9998).1]
 .simp[go_sem,binOp,Op.equal,Op.maxDepth,(r 9998).2]
def Ki {f:ByteArray}(z:Zk ok c)(A:ok.aN r0.fn=true)(hs:s.size<=5)(C:Gd V)
  (t:∀(N:Nat) V',Bl V V V'->ae Tz.prog ok c aS Q ⟨r0.finish<|.iface 154<|aI N,cs,V'⟩):
  ae Tz.prog ok c aS Q ⟨a2 Tz.prog 98 #[aa f,aa s,(0:Int),(0:Int),.iface 151<|a6 .i64 2] .normal,r0::cs,V⟩:=by
 replace t:Hid _:=t;have E:=z.E;have r:ok.aN 98=true:=z.f;obtain⟨-,-,v,D,hc⟩:=C;have H:=λτ d=>J8 f s hs (re V τ d) D hc
 refine ae.en Tz.func98 rfl Tryz.ntmps98 iE<|uv<|ae.ck E r [_] _ λK R τ d hK u=>?_
 simp only[ak];go_wp2;refine hK.out _ _<|ae.un<|ae.seq E r<|ae.ck E r [_] _ λK R τ d hK u=>?_;simp only[ak];go_wp2;refine hK.out _ _<|ae.un<|ae.block E r<|ae.seq E r<|ae.rg E r<|ae.oc E r 0 1 λK τ d hK=>?_;simp only[ap];go_wp2;refine hK.out _ _<|ae.un<|ae.wQ (y:=.const<|bk true) rfl rfl rfl rfl rfl (λτ d P J ρ ig W o' O U Y h4=>?_) ?_
 .rw[z.G P J,Y];exact UB O U rfl rfl rfl rfl
 rw[ar rfl];refine ae.oc E r 2 1 λK τ d hK=>?_
 simp;go_wp2;refine hK.out _ _<|ae.un<|ae.regionEnd E r<|ae.cond E r rfl<|ae.ck E r [_] _ λK R τ d hK u=>?_;simp only[ak];go_wp2_with(go_at_call 119;refine(H τ d).mono ?_;rintro e w1 ⟨⟨N,rfl⟩,Z⟩)
 refine hK.out _ _<|ae.ret E r<|ae.lv E A Tz.func98 (λτ d=>bH rfl _ _ _) ?_;exact t.out _ _<|Bl.kH Z
def VQ (z:Zk ok c)(D:ok.aN r0.fn=true)(hs:s.size<=5)(A:Gd V)
  (u:∀m ev V',Bl V V V'->(ev=.nilIface/\H9 s m .nilIface\/(∃N:Nat,ev=.iface 154 (aI N))/\¬∃n,eQ s n)->ae Tz.prog ok c aS Q ⟨r0.finish<|bB #[a6 .i64 m,ev],cs,V'⟩):
  ae Tz.prog ok c aS Q ⟨a2 Tz.prog 71 #[aa s] .normal,r0::cs,V⟩:=by
 replace u:Hid _:=u;have E:=z.E;have r:ok.aN 71=true:=z.f;refine ae.en Tz.func71 rfl Tryz.ntmps71 iE<|ae.ck E r [_,_] _ λK R τ d hK C=>?_
 simp only[ak];go_wp2_with(go_at_call 97;refine(S9 s hs _).mono ?_;rintro e O ⟨⟨m,ev,rfl,hA⟩,t⟩)
 refine hK.out _ _ ?_;replace t:=Bl.kH t;replace A:=A.bl t;rcases hA with hA|⟨rfl,rfl,hA⟩
 .obtain rfl:=hA.1;refine ae.seq E r<|ae.ck E r [_] _ λK R τ d hK C=>?_;simp only[ak];go_wp2;refine hK.out _ _<|ae.un ?_;refine ae.cond E r rfl<|ae.skip E r<|ae.ck E r [_] _ λK R τ d hK C=>?_;simp only[ak];go_wp2;refine hK.out _ _<|ae.un<|ae.ret E r<|ae.lv E D Tz.func71 (λτ d=>bz rfl _ _ _) ?_;exact u.out _ _ _ t<|.inl ⟨rfl,.inl ⟨rfl,hA.2⟩⟩
 refine ae.seq E r<|ae.ck E r [_] _ λK R τ d hK C=>?_;simp only[ak];go_wp2;refine hK.out _ _<|ae.un ?_;refine ae.cond E r rfl<|ae.seq E r<|ae.rg E r<|ae.oc E r 0 3 λK τ d hK=>?_;simp only[ap];go_wp2;refine hK.out _ _<|ae.un<|ae.aZ E rfl rfl z.f (λw=>od)<|Ki (f:=⟨#[65,116,111,105]⟩) z r hs A ?_;intro N U J;rw[ar rfl];refine ae.oc E r 4 2 λK τ d hK=>?_
 simp only[ap,Act.put];go_wp2;refine hK.out _ _<|ae.un<|ae.regionEnd E r<|ae.ret E r<|ae.lv E D Tz.func71 (λτ d=>bz rfl _ _ _) ?_;exact u.out _ _ _ (t.trans J t.size)<|.inr ⟨⟨N,rfl⟩,hA⟩
def rI (z:Zk ok c)(O:ok.aN r0.fn=true)(hr:r0.mode=.run)(D:Gd V)
  (U:∀(n:Nat) V',eQ s n->Bl V V V'->ae Tz.prog ok c aS Q ⟨r0.finish<|a6 .i64 n,cs,V'⟩)(J:∀V',(¬∃n,eQ s n)->Bl V V V'->ae Tz.prog ok c aS Q ⟨Fj r0,cs,V'⟩):
  ae Tz.prog ok c aS Q ⟨a2 Tz.prog 51 #[aa s] .normal,r0::cs,V⟩:=by
 replace U:Hid _:=U;replace J:Hid _:=J;have E:=z.E;have r:ok.aN 51=true:=z.f;refine ae.en Tz.func51 rfl Tryz.ntmps51 iE<|uv<|ae.ck E r [_] _ λK R τ d hK u=>?_
 simp only[ak];go_wp2;refine hK.out _ _<|ae.un<|ae.seq E r<|ae.ck E r [_] _ λK R τ d hK u=>?_;simp only[ak];by_cases hs:5<s.size
 .have nQ:(5:Int)<s.size:=ab;go_wp2;refine hK.out _ _<|ae.un ?_;clear hK u K R;refine ae.cond E r rfl<|ae.rg E r<|ae.oc E r 0 2 λK τ d hK=>?_;simp only[ap];go_wp2;exact hK.out _ _<|ae.un<|ae.uI rfl rfl rfl rfl rfl<|ae.unwind E Tz.func51 rfl rfl O hr<|J.out V (λ⟨n,Y⟩=>absurd (fu.1 Y).1 ab)<|Bl.refl _ _
 have nQ:¬(5:Int)<s.size:=ab;go_wp2;refine hK.out _ _<|ae.un ?_;clear hK u K R;refine ae.cond E r rfl<|ae.skip E r<|ae.seq E r<|ae.rg E r<|ae.oc E r 0 1 λK τ d hK=>?_;simp only[ap];go_wp2;refine hK.out _ _<|ae.un ?_;clear hK K;refine ae.aZ E rfl rfl z.f (λw=>od)<|VQ (s:=s) z r ab D ?_;intro m ev V1 A hA;rw[ar rfl];refine ae.oc E r 2 5 λK τ d hK=>?_
 simp only[ap,Act.put];go_wp2;refine hK.out _ _<|ae.un<|ae.regionEnd E r ?_;clear hK K;replace D:=D.bl A;refine ae.seq E r ?_;have H:0<=m->m<100000->∀τ d,bn Tz.prog 54 #[a6 .i64 m] (re V1 τ d) _:=λh0 h1 τ d=>zI h0 ab D.2.1
 rcases hA with⟨rfl,hA⟩|⟨⟨N,rfl⟩,C⟩;case' inl=>
  rcases hA with⟨_,h1,h2,h3⟩|⟨h,_⟩;case' inr=>cases h
  have C:¬(0<=m/\fd m=s)->¬∃n,eQ s n:=λY ⟨n,h⟩=>Y ⟨by have:=h3 n h;omega,by rw[h3 n h];exact h.2.symm⟩
  by_cases hm:m<0;case' pos=>replace C:=C λh=>ab
  case' neg=>
   replace H:=H ab h2;by_cases Z:fd m=s;case' neg=>replace C:=C λh=>Z h.2
 focus
  refine ae.ck E r [_] _ λK R τ d hK u=>?_
  simp only[ak];go_wp2_with(go_at_call 54;refine(H τ d).mono ?_;rintro e w2 ⟨rfl,b2⟩)
  refine hK.out _ _ ?_;have bb:=A.trans (Bl.kH b2) A.size
 rotate_left;focus
  refine ae.ck E r [_] _ λK R τ d hK u=>?_
  simp only[ak];obtain rfl:=Z;go_wp2_with(go_at_call 54;refine(H τ d).mono ?_;rintro e w2 ⟨rfl,b2⟩)
  refine hK.out _ _ ?_;clear hK u K R;refine ae.cond E r (congrArg bk<|decide_eq_false ab)<|ae.skip E r<|ae.ck E r [_] _ λK R τ d hK u=>?_;simp only[ak];go_wp2;refine hK.out _ _<|ae.un<|ae.ret E r<|ae.lv E O Tz.func51 (λτ d=>bH rfl _ _ _) ?_;have:=U.out m.toNat w2 ⟨ab,by rw[Int.toNat_of_nonneg ab]⟩<|A.trans (Bl.kH b2) A.size;rwa [Int.toNat_of_nonneg ab]at this
 focus
  refine ae.ck E r [_] _ λK R τ d hK u=>?_
  simp only[ak];go_wp2;refine hK.out _ _<|ae.un ?_;have bb:=A
 rotate_left;focus
  refine ae.ck E r [_] _ λK R τ d hK u=>?_
  simp only[ak];go_wp2;refine hK.out _ _<|ae.un ?_;have bb:=A
 all_goals
  clear hK u K R;refine ae.cond E r (t:=true) (by first|rfl|exact congrArg bk<|by simp[acz Z])<|ae.rg E r<|ae.oc E r 0 2 λK τ d hK=>?_;simp only[ap];go_wp2;exact hK.out _ _<|ae.un<|ae.uI rfl rfl rfl rfl rfl<|ae.unwind E Tz.func51 rfl rfl O hr<|J.out _ C bb
end
def rJ (h:i<1000000):wrap64 ((i:Int)+1)=((i+1:Nat):Int):=by unfold wrap64;omega
structure SS (V:ay)(B:Nat)(b:Bk):Prop where
 ok:b.ok
 g:Gd V
 lo:7<=B
 ex:∃ao cp bo dp,aR V B b.now b.shift (a7 ao b.n cp) (a7 bo b.n dp) 35/\fp (·=B) V b ao cp bo b.n/\(bo=none->dp=0)
structure Kb (B:Nat)(V V':ay):Prop where
 size:V.heap.size<=V'
 block:∀k,k<V.heap.size->k≠B->V'.heap[k]?=V.heap[k]?
section
variable {V' V'':ay}{B:Nat}{b':Bk}
def Kb.of (h:Bl V V V'):Kb B V V':=⟨h.size,λk a _=>h.block k a⟩
def Kb.trans (h:Kb B V V')(a:Kb B V' V''):Kb B V V'':=⟨afN h.size a.size,λk d e=>(a.block k (afL d h.size) e).trans<|h.block k d e⟩
def SS.lt (h:SS V B b):B<V:=by let⟨a,d,e,f,k,_⟩:=h.ex;exact k.lt
def fp.bl {a d}(h:fp X V b a c2 d c3)(e:Bl V V V'):fp X V' b a c2 d c3:=⟨h.sm.bl e,h.si.bl e,h.rm,h.ne⟩
def xA.bl (h:xA X V y b)(a:Bl V V V'):xA X V' y b:=by
 let⟨d,c2,f,c3,e,g,j⟩:=h;exact⟨d,c2,f,c3,e,g.bl a,j⟩
def SS.bl (h:SS V B b)(hb:Bl V V V'):SS V' B b:=by
 let⟨a,d,e,f,k,j,l⟩:=h.ex;exact⟨h.ok,h.g.bl hb,h.lo,a,d,e,f,k.same<|hb.block B h.lt,j.bl hb,l⟩
def SS.bq (h:SS V B b):∃ao cp bo r,aR V B b.now b.shift (a7 ao b.n cp) (a7 bo b.n r) 35/\Bq V b.now b.shift ao b.n cp b.f bo b.n r b.t:=by
 let⟨ao,cp,bo,r,k,u,hc⟩:=h.ex;have q:=u.bq h.ok;exact⟨ao,cp,bo,r,k,q.n6,q.m6,q.sm,⟨λe=>⟨(q.si.1 e).1,hc e⟩,q.si.2⟩,q.two,q.fit⟩
def Ov (V V':ay):Prop:=V.heap.size<=V'/\∀k:Nat,k<V->(k<7\/(∃x,V.cell? k=some (a6 .i64 x))\/∃x y,V.cell? k=some (aa x)/\V.cell? ⟨k,1,none⟩=some (bk y))->V'.heap[k]?=V.heap[k]?
def SS.keep (h:SS V B b)(l:Ov V V'):SS V' B b:=by
 let⟨m,e⟩:=l;let⟨t,u,z,A,k,d,C⟩:=h.ex;refine⟨h.ok,h.g.same (λk D l=>e k l<|.inl D) m,h.lo,t,u,z,A,k.same<|e B k.lt<|.inr<|.inl ⟨_,k.cells.1⟩,⟨⟨d.sm.1,λo a=>?_⟩,⟨d.si.1,λo a=>?_⟩,d.rm,d.ne⟩,C⟩
 .obtain⟨x,rfl,f,j⟩:=d.sm.2 o a;refine⟨x,rfl,afL f m,λi r=>dJ j (e x f<|.inr<|.inr ?_) i r⟩;have q:=j 0 ab;exact⟨_,_,by simpa using q.c0,by simpa using q.c1⟩
 obtain⟨x,rfl,f,j⟩:=d.si.2 o a;exact⟨x,rfl,afL f m,λi r=>lZ j (e x f<|.inr<|.inl ⟨_,by simpa using j 0 ab⟩) i r⟩
def Io (f:SS V B b)(z:b'.ok)(A:0<=cd)(C:cd<=6)(D:xA (·=B) V y b'):bn Tz.prog 48 #[aI B,y,a6 .i64 cd] V λe w'=>e=.returned (aa<|⟨#[99,111,100,101,32]⟩++fd cd)/\SS w' B b'/\Kb B V w':=by
 have E:=f.lo;let⟨U,Y,Z,dp,k,_⟩:=f.ex;obtain⟨m,c2,o,c3,rfl,J,K⟩:=D;let⟨L,e1,O,a,z1⟩:=boxed V b'.now b'.shift m b'.n c2 o b'.n c3;have k:=k.same<|a.block _ f.lt;let⟨W2,e2,r,b2,j,l⟩:=aJ k (afB 0 L) ab b'.now b'.shift m b'.n c2 o b'.n c3;have t:=f.g.same (λk u P=>(l k<|by omega).trans<|a.block k P) ab;have hz:=a.size;replace j:Hid _:=j;let⟨y0,y1,y2,y3,y4⟩:=O.cells;let⟨x0,x1,x2,x3,x4⟩:=k.cells;go_enter Tz.func48,Tryz.ntmps48
 go_wp2_with(go_at_call 53;refine(Cf A C t.2.1).mono ?_;rintro e w3 ⟨rfl,d⟩)
 go_ret;have fZ:=j.out;exact⟨rfl,⟨z,t.bl<|Bl.of d,E,_,_,_,_,r.same<|d.block _ r.lt,((J.grow a).set (λx R=>l x R) ab).grow d,K⟩,by have:=d.size;omega,λk u S=>(d.block k<|by omega).trans<|(l k S).trans<|a.block k u⟩
def wc [Gl]{x:Bk×Int}(z:Zk ok c)(t:ok.aN r0.fn=true)(hS:SS V B b)(f:x.1.ok/\0<=x.2/\x.2<=6)(u:xA (·=B) V y x.1)(hc:∀V',SS V' B x.1->Kb B V V'->ae Tz.prog ok c aS Q ⟨r0.finish<|aa (codeF x).2,cs,V'⟩):
  ae Tz.prog ok c aS Q ⟨a2 Tz.prog 48 #[aI B,y,a6 .i64 x.2] .normal,r0::cs,V⟩:=by
 refine ae.calls z.E t (R:=λv w'=>v=aa (codeF x).2/\SS w' B x.1/\Kb B V w') (λτ d=>(Io (hS.bl<|Al _ τ d) f.1 f.2.1 f.2.2<|u.bl<|Al _ τ d).mono ?_) ?_
 .rintro e w' ⟨rfl,A,r⟩;exact⟨_,rfl,rfl,A,⟨r.size,r.block⟩⟩
 rintro _ J ⟨rfl,C,D⟩;exact hc _ C D
def Zk.r [Gl]{ok:Ctx}{c:Frame}(z:Zk ok c):InR ok:=⟨z.f,z.f,z.f,z.f,z.f,z.f,z.f,z.f,z.f,z.f,z.bt,z.co⟩
end
def tW:List (ByteArray×Nat):=[(⟨#[108,97,110,100]⟩,23),(⟨#[108,101,97,118,101]⟩,24),(⟨#[100,114,111,112]⟩,25),(⟨#[114,111,117,110,100]⟩,26),(⟨#[116,105,99,107]⟩,27),(⟨#[112,108,97,110]⟩,28),(⟨#[115,117,114,101]⟩,29)]
def OM (B f:Nat):Value:=.func (.func f) #[aI B] #[]
def sL (B:Nat)(j:Nat):List (ByteArray×Nat)->List br
 |[]=>[]
 |(s,f)::l=>⟨aa s,OM B f,j⟩::sL B (j+1) l
def RN:Tz.prog.underlying 36=some (.map 9 64):=aO
def Dn:Tz.prog.underlying 9=some .string:=aO
def oU (w:ay)(es:Array br)(cl:Nat)(s:ByteArray)(v:bj)(hn:bi .string (.string s) es.toList 0=some none):(bm 36 (.map<|some w.heap.size) (.string s) v).run Tz.prog (w.alloc<|.map es cl)=.ok () (w.alloc<|.map (es.push ⟨.string s,v,cl⟩)<|cl+1):=by
 have hb:(w.alloc<|.map es cl).heap[w.heap.size]?=some (.map es cl):=bs w _;have he:({(w.alloc<|.map es cl)with heap:=(w.alloc<|.map es cl).heap.setIfInBounds w.heap.size<|.map (es.push ⟨.string s,v,cl⟩)<|cl+1}:ay)=w.alloc (.map (es.push ⟨.string s,v,cl⟩)<|cl+1):=by
  have hp:(w.alloc<|.map es cl).heap.setIfInBounds w.heap.size (.map (es.push ⟨.string s,v,cl⟩)<|cl+1)=(w.alloc<|.map (es.push ⟨.string s,v,cl⟩)<|cl+1).heap:=by
   show(w.heap.push _).setIfInBounds w.heap.size _=w.heap.push _;grind
  rw[hp];rfl
 rw[<-he];simp[bm,au RN,av hb,(aB (k:=.string s) Dn (by simp[a9]) false 9999),aV Dn hn,bI _ hb]
def UE (hM:w.heap[M]?=some (.map es cl))(s:ByteArray)(hn:bi .string (.string s) es.toList 0=some (some (i,v))):(a5 36 (.map<|some M) (.string s) true).run Tz.prog w=.ok (.tuple #[v,.bool true]) w:=by
 simp[a5,au RN,av hM,(aB (k:=.string s) Dn (by simp[a9]) _ 9999),aV Dn hn]
def UF (hM:w.heap[M]?=some (.map es cl))(s:ByteArray)(hn:bi .string (.string s) es.toList 0=some none):(a5 36 (.map<|some M) (.string s) true).run Tz.prog w=.ok (.tuple #[.nilFunc,.bool false]) w:=by
 simp[a5,au RN,av hM,(aB (k:=.string s) Dn (by simp[a9]) _ 9999),aV Dn hn,(((Tz.aQ Tryz.zeroValue64)) w)]
def DG (B:Nat)(w:ay):bn Tz.prog 9 #[aI B] w λe w'=>e=.returned (.map<|some w.heap.size)/\w'.heap[w.heap.size]?=some (.map (sL B 0 tW).toArray 7)/\Below w w w':=by
 have a:=oU w #[] 0 ⟨#[108,97,110,100]⟩ (OM B 23) aO;have d:=oU w (sL B 0<|tW.take 1).toArray 1 ⟨#[108,101,97,118,101]⟩ (OM B 24) aO;have f:=oU w (sL B 0<|tW.take 2).toArray 2 ⟨#[100,114,111,112]⟩ (OM B 25) aO;have g:=oU w (sL B 0<|tW.take 3).toArray 3 ⟨#[114,111,117,110,100]⟩ (OM B 26) aO;have j:=oU w (sL B 0<|tW.take 4).toArray 4 ⟨#[116,105,99,107]⟩ (OM B 27) aO;have l:=oU w (sL B 0<|tW.take 5).toArray 5 ⟨#[112,108,97,110]⟩ (OM B 28) aO;have m:=oU w (sL B 0<|tW.take 6).toArray 6 ⟨#[115,117,114,101]⟩ (OM B 29) aO;simp[sL,tW,OM]at a d f g j l m;have o:(Instr.makeMap 36 none).run Tz.prog w=.ok (.map<|some w.heap.size) (w.alloc<|.map #[] 0):=rfl;go_enter Tz.func9,Tryz.ntmps9
 refine uv ?_;go_wp2;go_ret;exact⟨rfl,bs w _,(afB _ w).alloc ab _⟩
