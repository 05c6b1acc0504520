import Derived.Test.YthppgbjejomdiaaGreatDoorj45
import Derived.Test.YthppgbjejomdiaaGreatDoorj31
import Derived.Lib.ConvBytes
set_option linter.all false
set_option maxHeartbeats 2000000
set_option maxRecDepth 20000
open Array renaming size_eq_zero_iff->a8
open ByteArray renaming ext->aV,size_extract->bH
open Go renaming World->aj,Value->ax,Calls->ay,run_underlying->aI,Frame->a5,MapEntry->bp,Operand->br,heap_alloc_new->bA,results_tmp2->bB,results_tmp->bE
open Go.Frame renaming enter->aL
open Go.Instr renaming lookup->a2,findNow->bn,mapUpdate->bv
open Go.Lib renaming digitVal->az,decFrom->a3,bytesWorld->bm,size_eq->bz
open Go.MapKept renaming run_getObj_map->a7,run_checkKey->a9,run_findKey->be,IsKey->bk,run_setObj_map->bJ
open Go.Value renaming string->aa,int->ac,slice->au,pointer->av,bool->a4,tuple->bs
open List renaming setIfInBounds_toArray->a6,set_cons_zero->bi,set_cons_succ->bj
namespace Go.Proofs.YthppgbjejomdiaaGreatDoor
open Conc RowKit
variable {es:Array bp}{b:Bk}{s:ByteArray}{ok:Ctx}{c r0:a5}{cd:Int}{cs:List a5}{M c2 c3 cl i k n:Nat}{X:Nat->Prop}{x:UInt8}{v y:ax}{Q:ax->aj->Prop}{V W w w':aj}
def II (s:ByteArray)(m:Int)(ev:ax):Prop:=(ev=.nilIface/\-100000<m/\m<100000/\∀n:Nat,eV s n->m=n)\/(ev=.iface 157 (ac .i64 2)/\m=0/\¬∃n,eV s n)
def Vp (f:s.data.toList.head?=some x)(g:az x=none):¬∃n,eV s n:=by rintro⟨n,e⟩;have h:=(fB.1 e).2.2.2;rcases j:s.data.toList with _|⟨a,r⟩;grind;grind [a3]
def NN (w:aj):ay Tz.prog 122 #[aa ⟨#[]⟩,ac .i64 10,ac .i64 0] w λe w'=>e=.returned (bs #[(0:Int),.iface 157<|ac .i64 2])/\w'=w:=by go_enter Tz.func122,Tryz.ntmps122;refine uK ?_;go_wp2;go_ret2;simp_all
def Pv (w:aj)(t:ByteArray):Below w w (bm w 5 t):=⟨rfl,rfl,rfl,by rw[Lib.bytesWorld_size];omega,λi e=>Lib.bytesWorld_at_old w _ t i e⟩
def Jg {t:ByteArray}(f:t.data.toList[k]?=some x)(g:az x=none):¬∃n,eV t n:=λ⟨n,h⟩=>by
 let⟨d,e⟩:=Lib.digit_of_decFrom _ 0 n (fB.1 h).2.2.2 k x f;rw[g]at e;cases e
def TR (s:ByteArray)(hs:s.size<=5)(w:aj):ay Tz.prog 96 #[.string s] w λe w'=>(∃m ev,e=.returned (.tuple #[.int .i64 m,ev])/\II s m ev)/\Below w w w':=by
 by_cases h0:s.size=0
 .obtain rfl:s=⟨#[]⟩:=aV<|a8.1 h0;go_enter Tz.func96,Tryz.ntmps96;go_wp2_with(go_at_call 122;refine(NN _).mono ?_;rintro e w1 ⟨rfl,rfl⟩)
  go_ret2;exact⟨⟨_,_,rfl,.inr ⟨rfl,rfl,λ⟨n,C⟩=>absurd (fB.1 C).2.1<|by decide⟩⟩,agn _ _⟩
 have gZ:0<s.size:=by omega
 obtain⟨f,Xy⟩:∃f,s[0]'gZ=f:=⟨_,rfl⟩;have hh:s.data.toList.head?=some f:=by rw[<-Xy,List.head?_eq_getElem?];exact ur gZ
 have Z:f=45\/f=43->∃t,(∀W,(Instr.slice 9 (.string s) (some<|.int .i64 1) none none).run Tz.prog W=.ok (.string t) W)/\t.size=s.size-1/\(∀(z:Int) (m:Nat),z=m\/z=-m->m<100000->a3 0 t.data.toList=some m->II s z .nilIface)/\(∀(k:Nat) x,t.data.toList[k]?=some x->az x=none->II s 0 (.iface 157<|.int .i64 2))/\(t.size=0->II s 0 (.iface 157<|.int .i64 2)):=λhb=>by have C:=Vp hh (by rcases hb with rfl|rfl<;>decide);refine⟨s.extract 1 s.size,λW=>?_,?_,λz m hz hm _=>.inl ⟨rfl,by omega,by omega,λn h=>absurd ⟨n,h⟩ C⟩,λ_ _ _ _=>.inr ⟨rfl,rfl,C⟩,λ_=>.inr ⟨rfl,rfl,C⟩⟩;rw[run_slice_string_from_if W 9 s .i64 _ aO,if_pos ⟨by omega,by omega⟩];rfl;rw[bH];omega
 rcases(show f=45\/f=43\/(f≠45/\f≠43) from(Decidable.em _).imp id λh=>(Decidable.em _).imp id λh'=>⟨h,h'⟩)with O|R|⟨O,R⟩;case' inl=>let⟨t,Ti,D,l,r,E⟩:=Z<|.inl O;subst O;have h5:t.size<=5:=ab;clear D;by_cases ht:t.size=0;(.obtain rfl:t=⟨#[]⟩:=aV<|a8.1 ht;replace E:=E rfl;go_enter Tz.func96,Tryz.ntmps96;go_wp2;go_ret2;exact⟨⟨_,_,rfl,E⟩,agn _ _⟩);have ad:¬(t.size:Int)<1:=ab
 case' inr.inl=>let⟨t,Ti,D,l,r,E⟩:=Z<|.inr R;subst R;have h5:t.size<=5:=ab;clear D;by_cases ht:t.size=0;(.obtain rfl:t=⟨#[]⟩:=aV<|a8.1 ht;replace E:=E rfl;go_enter Tz.func96,Tryz.ntmps96;go_wp2;go_ret2;exact⟨⟨_,_,rfl,E⟩,agn _ _⟩);have ad:¬(t.size:Int)<1:=ab
 case' inr.inr=>have aE:((f.toNat:Int)==45)=false:=beq_eq_false_iff_ne.2 λe=>O<|UInt8.toNat_inj.1 (by show f.toNat=45;omega);have aP:((f.toNat:Int)==43)=false:=beq_eq_false_iff_ne.2 λe=>R<|UInt8.toNat_inj.1 (by show f.toNat=43;omega);obtain⟨t,rfl⟩:∃t,t=s:=⟨_,rfl⟩;have h5:=hs;have l:∀(z:Int) (m:Nat),z=m->m<100000->a3 0 t.data.toList=some m->II t z .nilIface:=λz m hz hm J=>.inl ⟨rfl,by omega,by omega,λn C=>by have:=(fB.1 C).2.2.2;rw[J]at this;rw[hz,agC this]⟩;have r:∀(k:Nat) x,t.data.toList[k]?=some x->az x=none->II t 0 (.iface 157<|.int .i64 2):=λk x L h2=>.inr ⟨rfl,rfl,Jg L h2⟩;clear Z O R
 all_goals
  have ao:=Lib.run_convert_string_bytes (P:=Tz.prog) w 9 22 5 t (u:=.string) aO aO aO;have U:∀j,j<t.size->(bm w 5 t).cell? ⟨w,j,none⟩=some (.int .u8 (t.data.toList.getD j 0).toNat):=λj hj=>Lib.bytesWorld_cell w 5 t j hj
  obtain⟨Y,wX,bW⟩:∃Y,Y=bm w 5 t/\Below w w Y:=⟨_,rfl,Pv w t⟩;rw[<-wX]at ao U;replace U:Hid _:=U;replace l:Hid _:=l;replace r:Hid _:=r;clear wX hh;go_enter Tz.func96,Tryz.ntmps96
  go_wp2;go_loop [49,6] (λvi vn=>∃(k g:Nat),k<=t.size/\vi=.int .i64 k/\vn=.int .i64 g/\Hid (a3 0 (t.data.toList.take k)=some g)) (λvi _=>t.size-(intOf vi).toNat)
  case atStart=>exact⟨0,0,agB _,rfl,rfl,rfl⟩
  obtain⟨k,g,hk,rfl,rfl,Qd⟩:=hrel;have aG:=decFrom_lt Qd.out (by rw[List.length_take];omega);by_cases tX:k<t.size
  .obtain⟨x,hx⟩:∃x,x=t.data.toList.getD k 0:=⟨_,rfl⟩;have S:Hid (t.data.toList[k]?=some x):=by
    show _=_;rw[hx,List.getD,agR (by rw[<-bz];exact tX)];rfl
   have nA:Y.cell? ⟨w,k,none⟩=some (.int .u8 x.toNat):=by rw[hx];exact U.out k tX
   clear hx;cases A:az x with
   |none=>
    have J:=A;unfold az at J;replace A:Hid _:=A;have U4:=x.toNat_lt;have aZ:¬(48<=x.toNat/\x.toNat<=57):=λh=>by rw[if_pos h]at J;cases J
    clear J;go_wp2;go_ret2
    exact⟨⟨_,_,rfl,r.out k x S.out A.out⟩,bW⟩
   |some dv=>
    let⟨bb,bl,Qk⟩:=Lib.digitVal_eq A;replace A:Hid _:=A;go_wp2;go_round
    .exact⟨k+1,g*10+dv,by omega,by go_num,by first|go_num|(congr 1;omega),Lib.decFrom_take _ k 0 g x dv Qd.out S.out A.out⟩
    simp[intOf];omega
  obtain rfl:k=t.size:=by omega
  have L:=Qd.out;rw[List.take_of_length_le (by rw[<-bz];exact agw _)]at L;replace L:Hid _:=L;go_wp2;go_ret2
  exact⟨⟨_,_,rfl,l.out _ g (by omega) aG L.out⟩,bW⟩
def xR (X:Nat->Prop)(W:aj)(y:ax)(b:Bk):Prop:=∃f c2 e c3,y=.agg #[ac .i64 b.now,ac .i64 b.shift,au f b.n c2,au e b.n c3]/\fx X W b f c2 e b.n/\(e=none->c3=0)
section
variable {N:Nat}{q:Mv}{a0 a1:Int}{F:Nat->Mv}{T:Nat->Int}
def vX (j:∀x,X x->x<N){e BT:Nat}(l:aM W e 0 n F)(m:e<W)(o:aD W BT 0 n T)(r:BT<W)(t:N<=e)(z:N<=BT):xR X W (.agg #[ac .i64 a0,ac .i64 a1,au (some ⟨e,0,none⟩) n c2,au (some ⟨BT,0,none⟩) n c3]) ⟨a0,a1,n,F,T⟩:=
 ⟨_,_,_,_,rfl,⟨⟨(λh=>nomatch h),λg f=>f7⟩,⟨(λh=>nomatch h),λg f=>f7⟩,agw _,λa h A=>f7⟩,λh=>nomatch h⟩
def qE (z:∀x,X x->x<N){u:ax}{xs:List ax}(p:W.ownsRow N 30 6 v n (fI F n))(r:W.ownsRow N 3 1 u n xs)(t:∀j,j<n->xs[j]?=some (ac .i64<|T j)):xR X W (Xe a0 a1 v u) ⟨a0,a1,n,F,T⟩:=by obtain⟨a,c,rfl⟩:=mu p;obtain⟨a',A,rfl⟩:=mu r;have f:=aau r t;refine⟨_,_,_,_,rfl,⟨aav p,⟨λe=>⟨(f.1 e).1,(f.1 e).1⟩,f.2⟩,agw _,λa h t=>?_⟩,λe=>(f.1 e).2⟩;have:=z _ t;rcases h with rfl|rfl;have:=(p.lt a.block rfl).1;omega;have:=(r.lt a.block rfl).1;omega
def aaZ (A:∀x,X x->x<N)(hb:b.ok)(h:Fp (O7 b.now b.shift b.f b.n q) (SP b.now b.shift b.f b.n b.t b.n) (aY b.now b.shift b.f b.n b.t b.n) N y cd W):cd=(Iy b q).2/\xR X W y (Iy b q).1:=by unfold Iy;rcases h with⟨J,_⟩|⟨_,⟨h,rfl⟩|⟨_,⟨W',N',h⟩,v,u,rfl,O,R⟩⟩;rw[hb]at J;grind;unfold O7 at h;(cases r:vG b.f b.n b.now b.shift q with|no cd=>grind|yes p T=>rw[r]at h;obtain⟨_,BN,c2,BT,c3,rfl,U,Y,C,D,_⟩:=h;exact⟨rfl,vX A C.1 C.lt D.2 D.lt U Y⟩);unfold O7 at h;cases r:vG b.f b.n b.now b.shift q with|no Zp=>rw[r]at h;have:=h.2;simp at this;exact⟨this,qE A O R λj Z=>dY Z⟩|yes p T=>grind
def aa9 (A:∀x,X x->x<N)(hb:b.ok)(h:Fp (MPd b.now b.shift b.f b.n b.t s) (SP b.now b.shift b.f b.n b.t b.n) (aY b.now b.shift b.f b.n b.t b.n) N y cd W):cd=(FY b s).2/\xR X W y (FY b s).1:=by unfold FY;rcases h with⟨J,_⟩|⟨_,⟨⟨k,hk,h⟩,rfl⟩|⟨_,⟨W',N',k,hk,h⟩,v,u,rfl,O,R⟩⟩;rw[hb]at J;grind;rw[qP hk];(cases r:oP b.f b.n b.t b.now b.shift k with|no cd=>grind|yes p T=>rw[r]at h;obtain⟨_,BN,c2,BT,c3,rfl,U,Y,C,D,_⟩:=h;exact⟨rfl,vX A C.1 C.lt D.2 D.lt U Y⟩);rw[qP hk];cases r:oP b.f b.n b.t b.now b.shift k with|no Zp=>rw[r]at h;have:=h.2;simp at this;exact⟨this,qE A O R λj Z=>dY Z⟩|yes p T=>grind
def acA (A:∀x,X x->x<N)(hb:b.ok)(h:Fp (MPr b.now b.shift b.f b.n b.t s) (SP b.now b.shift b.f b.n b.t b.n) (aY b.now b.shift b.f b.n b.t b.n) N y cd W):cd=(He b s).2/\xR X W y (He b s).1:=by unfold He;rcases h with⟨J,_⟩|⟨_,⟨⟨k,hk,h⟩,rfl⟩|⟨_,⟨W',N',k,hk,h⟩,v,u,rfl,O,R⟩⟩;rw[hb]at J;grind;rw[qP hk];rcases r:gH b.f b.n b.t b.now k with cd|x;grind;let⟨p,T⟩:=x;rw[r]at h;obtain⟨_,BN,c2,BT,c3,rfl,U,Y,C,D⟩:=h;exact⟨rfl,vX A C.1 C.lt D.2 D.lt U Y⟩;rw[qP hk];rcases r:gH b.f b.n b.t b.now k with Zp|x;rw[r]at h;have:=h.2;simp at this;exact⟨this,qE A O R λj Z=>dY Z⟩;grind
def acS (D:∀x,X x->x<N)(hb:b.ok)(h:Fp (MPt b.now b.shift b.f b.n b.t) (SP b.now b.shift b.f b.n b.t b.n) (aY b.now b.shift b.f b.n b.t b.n) N y cd W):b.now=10000/\cd=2/\xR X W y b\/b.now≠10000/\cd=0/\xR X W y (Mp b):=by rcases h with⟨J,_⟩|⟨_,⟨h,rfl⟩|⟨_,⟨R,U,h⟩,v,u,rfl,O,r⟩⟩;rw[hb]at J;grind;rcases h with⟨_,_,h⟩|⟨h,_,v,u,rfl,r,A⟩;grind;rw[Ic,uR (g:=jT<|(stay b.now b.t b.n).map λi=>bT (b.f i) (b.t i)<|b.now+1) (λj C=>by rw[yt cQ,pw C];simp)]at r;exact .inr ⟨h,rfl,qE D r A λj C=>by grind [On,pw,tkT]⟩;rcases h with⟨h,_,A⟩|⟨_,h,_⟩;simp at A;exact .inl ⟨h,A,qE D O r λj C=>dY C⟩;grind
end
def inZ (f:Nat):Bool:=abe.contains f&&!Tz.sG.contains f
structure Zk [g:Gl](ok:Ctx)(c:a5):Prop where
 E:dC Tz.prog ok c aS
 G:∀P,Gl.top P->P=Tryz.prog
 i:∀f,inZ f=true->ok.aP f=true
 bt:ok.aP 173=false
 co:ok.aP 94=false
 ov:g.ov=266
def Zk.f [Gl](z:Zk ok c){f}(e:inZ f=true:=by kernel_rfl):ok.aP f=true:=z.i f e
def FK (fr:a5):Frame:={fr with mode:=.panicking [{v:=.iface 64<|.agg #[],recovered:=false}]}
def Gd (w:aj):Prop:=7<=(w:Nat)/\Tb w/\∃v,w.cell? ⟨4,0,none⟩=some v/\v.cells=#[v]
def Gd.same (h:Gd w)(e:∀k,k<7->k<(w:Nat)->w'.heap[k]?=w.heap[k]?)(f:(w:Nat)<=w'):Gd w':=by let⟨g,j,v,m,l⟩:=h;refine⟨agz g f,j.same<|e 6 (by omega)<|by omega,v,?_,l⟩;grind [World.cell?]
def Gd.bl (h:Gd w)(b:Bl w w w'):Gd w':=h.same (λk _ e=>b.block k e) b.size
def Jc (s:ByteArray)(f:s.size<=5)(w:aj):ay Tz.prog 157 #[aa s] w λe w'=>e=.returned (aa s)/\Below w w w':=Any.stringslite_Clone Tz.clL s w f7
def svD {p:Prop}(h:p:=by intro w' hSw;let⟨s0,s1⟩:=hSw;go_simp):p:=h
def KI (f s:ByteArray)(hs:s.size<=5)(w:aj)(r:w.cell? ⟨4,0,none⟩=some v)(hc:v.cells=#[v]):ay Tz.prog 123 #[aa f,aa s] w λe w'=>(∃N:Nat,e=.returned (av N))/\Below w w w':=by have C:=block_lt_of_cell r;unfold Value.cells at hc;go_enter Tz.func123,Tryz.ntmps123;go_wp2;refine wp_region_held_drew (S:=λw'=>w'.cell? ⟨4,0,none⟩=some v/\Below w w w') aO ⟨r,(agn _ w).drew⟩ λhS=>?_;refine ai 0 (aa f) 5 rfl svD hS ?_;refine ai 1 (aa s) 6 rfl svD hS ?_;refine ai 3 v 8 rfl svD hS ?_;simp only[Act.put,a6,bi,bj];refine fH 2 rfl λK hK=>?_;go_simp;(go_at_call 157);refine(Jc s hs _).mono ?_;rintro e D ⟨rfl,t⟩;have A:=(agn _ w).drew.trans t;refine hK.out _ _ ⟨(t.cell (p:=⟨4,0,none⟩) C).trans r,A⟩ λhS=>?_;clear hK K;refine ai 4 (.agg #[aa f,aa s,v]) 9 rfl svD hS ?_;simp only[Act.put,a6,bi,bj];refine fH 5 rfl λK hK=>?_;go_simp;refine hK.out _ _ ⟨?_,A.alloc t.size _⟩ λhS=>?_;rw[agt (w:=D) (heap_alloc_old _ _<|agx C A.size)];exact hS.1;clear hK K;refine ai 6 (av D) 4 rfl svD hS ?_;refine wpAnyH_done aO ?_ _;simp only[Act.put,a6,bi,bj];exact Ik
def ado {a b:ByteArray}(h:¬a=b):(a.toList==b.toList)=false:=beq_eq_false_iff_ne.2 λe=>h<|aV<|Array.toList_inj.1<|by rwa [ByteArray.toList_eq,ByteArray.toList_eq]at e
section
variable [Gl]
def OC {sl:Option Addr}{cp:Nat}(z:Zk ok c)(D:ok.aP r0.fn=true)(J:r0.mode=.run) (A:n=k->ae Tz.prog ok c aS Q ⟨r0.finish<|bs #[],cs,V⟩)(C:n≠k->ae Tz.prog ok c aS Q ⟨FK r0,cs,V⟩): ae Tz.prog ok c aS Q ⟨aL Tz.prog 42 #[au sl n cp,ac .i64 k] .normal,r0::cs,V⟩:=by replace A:Hid _:=A;replace C:Hid _:=C;have E:=z.E;have r:ok.aP 42=true:=z.f;refine ae.en Tz.func42 rfl Tryz.ntmps42 iI<|uK<|ae.ck E r [_] _ λK R τ d hK O=>?_;simp only[ak];by_cases hk:n=k;(.subst hk;go_wp2;exact hK.out _ _<|ae.un<|ae.cond E r rfl<|ae.skip E r<|ae.off E r<|ae.lv E D Tz.func42 (λτ d=>results_none rfl _ _ _)<|A.out Xf);have U:=beq_eq_false_iff_ne.2 ab;have Y:((n:Int)!=k)=true:=bne_iff_ne.2 ab;replace hk:Hid _:=hk;go_wp2;refine hK.out _ _<|ae.un<|ae.cond E r (t:=true) rfl<|ae.rg E r<|ae.oc E r 0 2 λK τ d hK=>?_;simp only[an];go_wp2;exact hK.out _ _<|ae.un<|ae.uX (i:=2) rfl rfl rfl rfl rfl<|ae.unwind E Tz.func42 rfl rfl D J (C.out hk.out)
def Vg {ρ:Ren}{e:br->ax}{a:Act}{o:Oper}{x y:br}(t:o.op=.binOp .eql 51 x y 51)(z:lR ok ρ a.eval e)(f:du ok.fn x=true)(A:du ok.fn y=true)(he:a.eval x=.iface 157 (.int .i64 2))(C:a.eval y=.iface 157 (.int .i64 2)):(execOp e o).runT Tryz.prog W #[]=(.ok (.value<|.bool true) W,#[]):=by
 have q:∀{x:br},du ok.fn x=true->a.eval x=.iface 157 (.int .i64 2)->e x=.iface 157 (.int .i64 2):=λ{x} f he=>by have h:=z x f;rw[he]at h;generalize e x=q at h;cases h with|iface _ h=>cases h;rfl
 let⟨i,j⟩:=Option.isSome_iff_exists.1 (show(Tryz.prog.info? 157).isSome=true from aO);have D:i.comparable=true:=by have:(Tryz.prog.info? 157).map (·.comparable)=some true:=aO;rw[j]at this;exact agC this
 obtain⟨l,g⟩:∃l,Tryz.prog.underlying 51=some (.interface l):=⟨_,Tryz.underlying51⟩;have E:Tryz.prog.underlying 157=some (.int .i64):=aO;have r:∀d:Nat,(Op.equalIn (d+2) 51 (.iface 157<|.int .i64 2)<|.iface 157<|.int .i64 2).run Tryz.prog W=.ok true W/\∀es,(Op.equalIn (d+2) 51 (.iface 157<|.int .i64 2)<|.iface 157<|.int .i64 2).events Tryz.prog W es=es:=λd=>by constructor<;>simp[Op.equalIn,aI g,aI E,typeInfo,j,D,Result.evThen]
 unfold execOp;simp only[t,q f he,q A C];refine JY ?_ ?_
 .simp[go_sem,binOp,Op.equal,Op.maxDepth,(r 9998).1]
 simp[go_sem,binOp,Op.equal,Op.maxDepth,(r 9998).2]
def KS {f:ByteArray}(z:Zk ok c)(C:ok.aP r0.fn=true)(hs:s.size<=5)(D:Gd V) (t:∀(N:Nat) u,Bl V V u->ae Tz.prog ok c aS Q ⟨r0.finish<|.iface 160<|av N,cs,u⟩): ae Tz.prog ok c aS Q ⟨aL Tz.prog 97 #[aa f,aa s,(0:Int),(0:Int),.iface 157<|ac .i64 2] .normal,r0::cs,V⟩:=by replace t:Hid _:=t;have E:=z.E;have r:ok.aP 97=true:=z.f;obtain⟨-,-,v,J,hc⟩:=D;have H:=λτ d=>KI f s hs (re V τ d) J hc;refine ae.en Tz.func97 rfl Tryz.ntmps97 iI<|uK<|ae.ck E r [_] _ λK R τ d hK A=>?_;simp only[ak];go_wp2;refine hK.out _ _<|ae.un<|ae.seq E r<|ae.ck E r [_] _ λK R τ d hK A=>?_;simp only[ak];go_wp2;refine hK.out _ _<|ae.un<|ae.block E r<|ae.seq E r<|ae.rg E r<|ae.oc E r 0 1 λK τ d hK=>?_;simp only[an];go_wp2;refine hK.out _ _<|ae.un<|ae.xu (y:=.const<|a4 true) rfl rfl rfl rfl rfl (λτ d P O ρ ik W o' U Y Z h4=>?_) ?_;rw[z.G P O,Z];exact Vg U Y rfl rfl rfl rfl;rw[aq rfl];refine ae.oc E r 2 1 λK τ d hK=>?_;simp;go_wp2;refine hK.out _ _<|ae.un<|ae.regionEnd E r<|ae.cond E r rfl<|ae.ck E r [_] _ λK R τ d hK A=>?_;simp only[ak];(go_wp2_with(go_at_call 123;refine(H τ d).mono ?_;rintro e w1 ⟨⟨N,rfl⟩,b1⟩));refine hK.out _ _<|ae.ret E r<|ae.lv E C Tz.func97 (λτ d=>bE rfl _ _ _) ?_;exact t.out _ _<|Bl.kP b1
def WR (z:Zk ok c)(J:ok.aP r0.fn=true)(hs:s.size<=5)(C:Gd V) (A:∀m ev u,Bl V V u->(ev=.nilIface/\II s m .nilIface\/(∃N:Nat,ev=.iface 160 (av N))/\¬∃n,eV s n)->ae Tz.prog ok c aS Q ⟨r0.finish<|bs #[ac .i64 m,ev],cs,u⟩): ae Tz.prog ok c aS Q ⟨aL Tz.prog 71 #[aa s] .normal,r0::cs,V⟩:=by replace A:Hid _:=A;have E:=z.E;have r:ok.aP 71=true:=z.f;refine ae.en Tz.func71 rfl Tryz.ntmps71 iI<|ae.ck E r [_,_] _ λK R τ d hK D=>?_;simp only[ak];(go_wp2_with(go_at_call 96;refine(TR s hs _).mono ?_;rintro e U ⟨⟨m,ev,rfl,hA⟩,t⟩));refine hK.out _ _ ?_;replace t:=Bl.kP t;replace C:=C.bl t;rcases hA with hA|⟨rfl,rfl,hA⟩;(.obtain rfl:=hA.1;refine ae.seq E r<|ae.ck E r [_] _ λK R τ d hK D=>?_;simp only[ak];go_wp2;refine hK.out _ _<|ae.un ?_;refine ae.cond E r rfl<|ae.skip E r<|ae.ck E r [_] _ λK R τ d hK D=>?_;simp only[ak];go_wp2;refine hK.out _ _<|ae.un<|ae.ret E r<|ae.lv E J Tz.func71 (λτ d=>bB rfl _ _ _) ?_;exact A.out _ _ _ t<|.inl ⟨rfl,.inl ⟨rfl,hA.2⟩⟩);refine ae.seq E r<|ae.ck E r [_] _ λK R τ d hK D=>?_;simp only[ak];go_wp2;refine hK.out _ _<|ae.un ?_;refine ae.cond E r rfl<|ae.seq E r<|ae.rg E r<|ae.oc E r 0 3 λK τ d hK=>?_;simp only[an];go_wp2;refine hK.out _ _<|ae.un<|ae.aZ E rfl rfl z.f (λw=>nU)<|KS (f:=⟨#[65,116,111,105]⟩) z r hs C ?_;intro N Y O;rw[aq rfl];refine ae.oc E r 4 2 λK τ d hK=>?_;simp only[an,Act.put];go_wp2;refine hK.out _ _<|ae.un<|ae.regionEnd E r<|ae.ret E r<|ae.lv E J Tz.func71 (λτ d=>bB rfl _ _ _) ?_;exact A.out _ _ _ (t.trans O t.size)<|.inr ⟨⟨N,rfl⟩,hA⟩
def rU (z:Zk ok c)(O:ok.aP r0.fn=true)(hr:r0.mode=.run)(J:Gd V) (U:∀(n:Nat) u,eV s n->Bl V V u->ae Tz.prog ok c aS Q ⟨r0.finish<|ac .i64 n,cs,u⟩)(lw:∀u,(¬∃n,eV s n)->Bl V V u->ae Tz.prog ok c aS Q ⟨FK r0,cs,u⟩): ae Tz.prog ok c aS Q ⟨aL Tz.prog 46 #[aa s] .normal,r0::cs,V⟩:=by
 replace U:Hid _:=U;replace lw:Hid _:=lw;have E:=z.E;have r:ok.aP 46=true:=z.f;refine ae.en Tz.func46 rfl Tryz.ntmps46 iI<|uK<|ae.ck E r [_] _ λK R τ d hK A=>?_;simp only[ak];go_wp2;refine hK.out _ _<|ae.un<|ae.seq E r<|ae.ck E r [_] _ λK R τ d hK A=>?_;simp only[ak];by_cases hs:5<s.size
 .have pd:(5:Int)<s.size:=ab;go_wp2;refine hK.out _ _<|ae.un ?_;clear hK A K R;refine ae.cond E r rfl<|ae.rg E r<|ae.oc E r 0 2 λK τ d hK=>?_;simp only[an];go_wp2;exact hK.out _ _<|ae.un<|ae.uX rfl rfl rfl rfl rfl<|ae.unwind E Tz.func46 rfl rfl O hr<|lw.out V (λ⟨n,Y⟩=>absurd (fB.1 Y).1 ab)<|Bl.refl _ _
 have pd:¬(5:Int)<s.size:=ab;go_wp2;refine hK.out _ _<|ae.un ?_;clear hK A K R;refine ae.cond E r rfl<|ae.skip E r<|ae.seq E r<|ae.rg E r<|ae.oc E r 0 1 λK τ d hK=>?_;simp only[an];go_wp2;refine hK.out _ _<|ae.un ?_;clear hK K;refine ae.aZ E rfl rfl z.f (λw=>nU)<|WR (s:=s) z r ab J ?_;intro m ev V1 C hA;rw[aq rfl];refine ae.oc E r 2 5 λK τ d hK=>?_;simp only[an,Act.put];go_wp2;refine hK.out _ _<|ae.un<|ae.regionEnd E r ?_;clear hK K;replace J:=J.bl C;refine ae.seq E r ?_;have H:0<=m->m<100000->∀τ d,ay Tz.prog 49 #[ac .i64 m] (re V1 τ d) _:=λh0 h1 τ d=>Af h0 ab J.2.1;rcases hA with⟨rfl,hA⟩|⟨⟨N,rfl⟩,D⟩;case' inl=>rcases hA with⟨_,h1,h2,h3⟩|⟨h,_⟩;(case' inr=>cases h);have D:¬(0<=m/\d7 m=s)->¬∃n,eV s n:=λY ⟨n,h⟩=>Y ⟨by have:=h3 n h;omega,by rw[h3 n h];exact h.2.symm⟩;by_cases hm:m<0;(case' pos=>replace D:=D λh=>ab);case' neg=>replace H:=H ab h2;by_cases Z:d7 m=s;case' neg=>replace D:=D λh=>Z h.2
 focus
  refine ae.ck E r [_] _ λK R τ d hK A=>?_
  simp only[ak];go_wp2_with(go_at_call 49;refine(H τ d).mono ?_;rintro e w2 ⟨rfl,b2⟩)
  refine hK.out _ _ ?_;have bb:=C.trans (Bl.kP b2) C.size
 rotate_left;focus
  refine ae.ck E r [_] _ λK R τ d hK A=>?_
  simp only[ak];obtain rfl:=Z;go_wp2_with(go_at_call 49;refine(H τ d).mono ?_;rintro e w2 ⟨rfl,b2⟩)
  refine hK.out _ _ ?_;clear hK A K R;refine ae.cond E r (congrArg a4<|decide_eq_false ab)<|ae.skip E r<|ae.ck E r [_] _ λK R τ d hK A=>?_;simp only[ak];go_wp2;refine hK.out _ _<|ae.un<|ae.ret E r<|ae.lv E O Tz.func46 (λτ d=>bE rfl _ _ _) ?_;have:=U.out m.toNat w2 ⟨ab,by rw[Int.toNat_of_nonneg ab]⟩<|C.trans (Bl.kP b2) C.size;rwa [Int.toNat_of_nonneg ab]at this
 focus
  refine ae.ck E r [_] _ λK R τ d hK A=>?_
  simp only[ak];go_wp2;refine hK.out _ _<|ae.un ?_;have bb:=C
 rotate_left;focus
  refine ae.ck E r [_] _ λK R τ d hK A=>?_
  simp only[ak];go_wp2;refine hK.out _ _<|ae.un ?_;have bb:=C
 all_goals
  clear hK A K R;refine ae.cond E r (t:=true) (by first|rfl|exact congrArg a4<|by simp[ado Z])<|ae.rg E r<|ae.oc E r 0 2 λK τ d hK=>?_;simp only[an];go_wp2;exact hK.out _ _<|ae.un<|ae.uX rfl rfl rfl rfl rfl<|ae.unwind E Tz.func46 rfl rfl O hr<|lw.out _ D bb
end
def rV (h:i<1000000):wrap64 ((i:Int)+1)=((i+1:Nat):Int):=by unfold wrap64;omega
structure SS (V B)(b:Bk):Prop where
 ok:b.ok
 g:Gd V
 lo:7<=B
 ex:∃ao cp bo dp,aR V B b.now b.shift (au ao b.n cp) (au bo b.n dp) 44/\fx (·=B) V b ao cp bo b.n/\(bo=none->dp=0)
structure Kb (B)(V u:aj):Prop where
 size:(V:Nat)<=u
 block:∀k,k<(V:Nat)->k≠B->u.heap[k]?=V.heap[k]?
section
variable {u d:aj}{B:Nat}{a:Bk}
def Kb.of (h:Bl V V u):Kb B V u:=⟨h.size,λk e _=>h.block k e⟩
def Kb.trans (h:Kb B V u)(e:Kb B u d):Kb B V d:=⟨agz h.size e.size,λk f g=>(e.block k (agx f h.size) g).trans<|h.block k f g⟩
def SS.lt (h:SS V B b):B<V:=by let⟨e,f,g,j,k,_⟩:=h.ex;exact k.lt
def fx.bl {e f}(h:fx X V b e c2 f c3)(g:Bl V V u):fx X u b e c2 f c3:=⟨h.sm.bl g,h.si.bl g,h.rm,h.ne⟩
def xR.bl (h:xR X V y b)(f:Bl V V u):xR X u y b:=by let⟨g,c2,j,c3,e,l,m⟩:=h;exact⟨g,c2,j,c3,e,l.bl f,m⟩
def SS.bl (h:SS V B b)(hb:Bl V V u):SS u B b:=by let⟨e,f,j,l,k,m,o⟩:=h.ex;exact⟨h.ok,h.g.bl hb,h.lo,e,f,j,l,k.same<|hb.block B h.lt,m.bl hb,o⟩
def SS.bq (h:SS V B b):∃ao cp bo r,aR V B b.now b.shift (au ao b.n cp) (au bo b.n r) 44/\Bq V b.now b.shift ao b.n cp b.f bo b.n r b.t:=by let⟨ao,cp,bo,r,k,A,hc⟩:=h.ex;have q:=A.bq h.ok;exact⟨ao,cp,bo,r,k,q.n6,q.m6,q.sm,⟨λe=>⟨(q.si.1 e).1,hc e⟩,q.si.2⟩,q.two,q.fit⟩
def O5 (V u:aj):Prop:=(V:Nat)<=u/\∀k:Nat,k<V->(k<7\/(∃x,V.cell? k=some (ac .i64 x))\/∃x y,V.cell? k=some (aa x)/\V.cell? ⟨k,1,none⟩=some (a4 y))->u.heap[k]?=V.heap[k]?
def SS.keep (h:SS V B b)(o:O5 V u):SS u B b:=by let⟨r,e⟩:=o;let⟨A,C,D,E,k,j,J⟩:=h.ex;refine⟨h.ok,h.g.same (λk K o=>e k o<|.inl K) r,h.lo,A,C,D,E,k.same<|e B k.lt<|.inr<|.inl ⟨_,k.cells.1⟩,⟨⟨j.sm.1,λt f=>?_⟩,⟨j.si.1,λt f=>?_⟩,j.rm,j.ne⟩,J⟩;obtain⟨x,rfl,l,m⟩:=j.sm.2 t f;refine⟨x,rfl,agx l r,λi z=>dL m (e x l<|.inr<|.inr ?_) i z⟩;have q:=m 0 ab;exact⟨_,_,by simpa using q.c0,by simpa using q.c1⟩;obtain⟨x,rfl,l,m⟩:=j.si.2 t f;exact⟨x,rfl,agx l r,λi z=>mi m (e x l<|.inr<|.inl ⟨_,by simpa using m 0 ab⟩) i z⟩
def IX (l:SS V B b)(D:a.ok)(E:0<=cd)(J:cd<=6)(K:xR (·=B) V y a):ay Tz.prog 43 #[av B,y,ac .i64 cd] V λe w'=>e=.returned (aa<|⟨#[99,111,100,101,32]⟩++d7 cd)/\SS w' B a/\Kb B V w':=by have L:=l.lo;let⟨ao,cp,bo,dp,k,_⟩:=l.ex;obtain⟨r,c2,t,c3,rfl,O,P⟩:=K;let⟨R,e1,S,f,z1⟩:=boxed V a.now a.shift r a.n c2 t a.n c3;have k:=k.same<|f.block _ l.lt;let⟨W2,e2,z,b2,m,o⟩:=aJ k (agn 0 R) ab a.now a.shift r a.n c2 t a.n c3;have A:=l.g.same (λk C U=>(o k<|by omega).trans<|f.block k U) ab;have hz:=f.size;replace m:Hid _:=m;let⟨y0,y1,y2,y3,y4⟩:=S.cells;let⟨x0,x1,x2,x3,x4⟩:=k.cells;go_enter Tz.func43,Tryz.ntmps43;(go_wp2_with(go_at_call 48;refine(CC E J A.2.1).mono ?_;rintro e w3 ⟨rfl,j⟩));go_ret;have f8:=m.out;exact⟨rfl,⟨D,A.bl<|Bl.of j,L,_,_,_,_,z.same<|j.block _ z.lt,((O.grow f).set (λx Y=>o x Y) ab).grow j,P⟩,by have:=j.size;omega,λk C Z=>(j.block k<|by omega).trans<|(o k Z).trans<|f.block k C⟩
def wI [Gl]{x:Bk×Int}(z:Zk ok c)(t:ok.aP r0.fn=true)(hS:SS V B b)(f:x.1.ok/\0<=x.2/\x.2<=6)(A:xR (·=B) V y x.1)(hc:∀u,SS u B x.1->Kb B V u->ae Tz.prog ok c aS Q ⟨r0.finish<|aa (codeF x).2,cs,u⟩): ae Tz.prog ok c aS Q ⟨aL Tz.prog 43 #[av B,y,ac .i64 x.2] .normal,r0::cs,V⟩:=by refine ae.calls z.E t (R:=λv w'=>v=aa (codeF x).2/\SS w' B x.1/\Kb B V w') (λτ d=>(IX (hS.bl<|vc _ τ d) f.1 f.2.1 f.2.2<|A.bl<|vc _ τ d).mono ?_) ?_;rintro e w' ⟨rfl,C,r⟩;exact⟨_,rfl,rfl,C,⟨r.size,r.block⟩⟩;rintro _ O ⟨rfl,D,J⟩;exact hc _ D J
def Zk.r [Gl](z:Zk ok c):InR ok:=⟨z.f,z.f,z.f,z.f,z.f,z.f,z.f,z.f,z.f,z.f,z.bt,z.co⟩
end
def uk:List (ByteArray×Nat):=[(⟨#[108,97,110,100]⟩,23),(⟨#[108,101,97,118,101]⟩,24),(⟨#[100,114,111,112]⟩,25),(⟨#[114,111,117,110,100]⟩,26),(⟨#[116,105,99,107]⟩,27),(⟨#[112,108,97,110]⟩,28),(⟨#[115,117,114,101]⟩,29)]
def Pp (B f:Nat):Value:=.func (.func f) #[av B] #[]
def sW (B:Nat)(j:Nat):List (ByteArray×Nat)->List bp
 |[]=>[]
 |(s,f)::l=>⟨aa s,Pp B f,j⟩::sW B (j+1) l
def Sx:Tz.prog.underlying 45=some (.map 9 66):=aO
def DM:Tz.prog.underlying 9=some .string:=aO
def pi (w:aj)(es:Array bp)(cl:Nat)(s:ByteArray)(v:ax)(f:bn .string (.string s) es.toList 0=some none):(bv 45 (.map<|some w) (.string s) v).run Tz.prog (w.alloc<|.map es cl)=.ok () (w.alloc<|.map (es.push ⟨.string s,v,cl⟩)<|cl+1):=by have e:(w.alloc<|.map es cl).heap[(w:Nat)]?=some (.map es cl):=bA w _;(have g:({(w.alloc<|.map es cl)with heap:=(w.alloc<|.map es cl).heap.setIfInBounds (w:Nat)<|.map (es.push ⟨.string s,v,cl⟩)<|cl+1}:aj)=w.alloc (.map (es.push ⟨.string s,v,cl⟩)<|cl+1):=by(have h:(w.alloc<|.map es cl).heap.setIfInBounds w (.map (es.push ⟨.string s,v,cl⟩)<|cl+1)=(w.alloc<|.map (es.push ⟨.string s,v,cl⟩)<|cl+1).heap:=by show(w.heap.push _).setIfInBounds w _=w.heap.push _;grind);rw[h];rfl);rw[<-g];simp[bv,aI Sx,a7 e,(a9 (k:=.string s) DM (by simp[bk]) false 9999),be DM f,bJ _ e]
def Vj (e:w.heap[M]?=some (.map es cl))(s:ByteArray)(f:bn .string (.string s) es.toList 0=some (some (i,v))):(a2 45 (.map<|some M) (.string s) true).run Tz.prog w=.ok (.tuple #[v,.bool true]) w:=by simp[a2,aI Sx,a7 e,(a9 (k:=.string s) DM (by simp[bk]) _ 9999),be DM f]
def Vk (e:w.heap[M]?=some (.map es cl))(s:ByteArray)(f:bn .string (.string s) es.toList 0=some none):(a2 45 (.map<|some M) (.string s) true).run Tz.prog w=.ok (.tuple #[.nilFunc,.bool false]) w:=by simp[a2,aI Sx,a7 e,(a9 (k:=.string s) DM (by simp[bk]) _ 9999),be DM f,(((Tz.aQ Tryz.zeroValue66)) w)]
def D9 (B:Nat)(w:aj):ay Tz.prog 15 #[av B] w λe w'=>e=.returned (.map<|some w)/\w'.heap[(w:Nat)]?=some (.map (sW B 0 uk).toArray 7)/\Below w w w':=by have f:=pi w #[] 0 ⟨#[108,97,110,100]⟩ (Pp B 23) aO;have g:=pi w (sW B 0<|uk.take 1).toArray 1 ⟨#[108,101,97,118,101]⟩ (Pp B 24) aO;have j:=pi w (sW B 0<|uk.take 2).toArray 2 ⟨#[100,114,111,112]⟩ (Pp B 25) aO;have l:=pi w (sW B 0<|uk.take 3).toArray 3 ⟨#[114,111,117,110,100]⟩ (Pp B 26) aO;have m:=pi w (sW B 0<|uk.take 4).toArray 4 ⟨#[116,105,99,107]⟩ (Pp B 27) aO;have o:=pi w (sW B 0<|uk.take 5).toArray 5 ⟨#[112,108,97,110]⟩ (Pp B 28) aO;have r:=pi w (sW B 0<|uk.take 6).toArray 6 ⟨#[115,117,114,101]⟩ (Pp B 29) aO;simp[sW,uk,Pp]at f g j l m o r;have t:(Instr.makeMap 45 none).run Tz.prog w=.ok (.map<|some w) (w.alloc<|.map #[] 0):=rfl;go_enter Tz.func15,Tryz.ntmps15;refine uK ?_;go_wp2;go_ret;exact⟨rfl,bA w _,(agn _ w).alloc ab _⟩
