import Derived.Test.YthppgbjejomdiaaGreatDoorj22
import Derived.Test.YthppgbjejomdiaaGreatDoorRows
import Derived.OpenShut
import Derived.ShutString
set_option linter.all false
set_option maxHeartbeats 1000000
set_option maxRecDepth 10000
open Go.Value renaming int->aa,slice->ao
open Go.World renaming cell?_setCell_other->aj
open Int renaming emod_lt_of_pos->ac,emod_nonneg->ad
namespace Go.Proofs.YthppgbjejomdiaaGreatDoor
open ChangeAt ChangeShapes Deep RowKit WideShapes
variable {n:Nat}{w w':World}
section
variable {H:Type}{enc:TypeId×Value->H}{base:Nat}{c:Nat->Bool}{held:Bool}
end
section
variable {a:Option Addr}{cap:Nat}{H:Type}{p:List MemPlace}
theorem own:ownKnob Tryz.prog.godebug=none:=aO
theorem laidOut:laidOutB Tryz.prog:=aO
def ae6 (w:World)(a:Option Addr)(n cap:Nat)(f:Nat->Mv):Prop:=
 n<=maxLen/\(n=0\/∃b r,a=some ⟨b,r,none⟩/\b<w/\aM w b r n f)/\∀i,i<n->(f i).Fits
end
section
variable {b:Nat}
end
section
variable {R:Nat}{p:Int}
def tZ (w:World)(b off n:Nat)(c:Nat->Int):Prop:=∀i,i<n->w.cell? ⟨b,off+i,none⟩=some (aa .u8<|c i)
structure Rd (w R)(p:Int):Prop where
 mk::
 at_:∃(a:Option Addr) (n cap:Nat) (c:Nat->Int),w.heap[R]?=some (.cells #[ao a n cap,p] 61 (0,0))/\n<=2000/\(n=0\/∃b off,a=some ⟨b,off,none⟩/\b<R/\tZ w b off n c)/\∀i,i<n->0<=c i/\c i<=255
 low:0<=p
theorem WU (x y)(d:0<=x)(e:x<9223372036854775808)(f:0<=y)(g:y<9223372036854775808):0<=bits .xor .i64 x y:=by obtain⟨a,rfl⟩:∃a:Nat,x=(a:Int):=⟨x.toNat,ab⟩;obtain⟨b,rfl⟩:∃b:Nat,y=(b:Int):=⟨y.toNat,ab⟩;have d:a ^^^ b<2^63:=Nat.xor_lt_two_pow ab ab;show 0<=IntKind.i64.wrap ((BitVec.ofInt 64 (a:Int) ^^^ BitVec.ofInt 64 (b:Int)).toNat:Int);grind [BitVec.toNat_xor,IntKind.wrap_i64]
theorem WG (x m:Int)(d:0<=x)(e:1<=m):0<=x.tmod m/\x.tmod m<m:=by rw[Int.tmod_eq_emod_of_nonneg d];exact⟨ad _ ab,ac _ ab⟩
theorem Rd.below (r:Rd w R p)(hb:Below w w w'):Rd w' R p:=by let⟨⟨a,n,cap,c,q,s,f,hc⟩,t⟩:=r;have u:R<w:=(agy.1 q).1;refine⟨⟨a,n,cap,c,(hb.block R u).trans q,s,?_,hc⟩,t⟩;rcases f with h|⟨b,e,rfl,v,f⟩;exact .inl h;exact .inr ⟨b,e,rfl,v,λi x=>(hb.cell (p:=⟨b,e+i,none⟩) cY).trans<|f i x⟩
theorem Rd.lt (e:Rd w R p):R<w:=by let⟨⟨a,n,cap,c,f,_⟩,_⟩:=e;exact(agy.1 f).1
theorem VI (r:Rd w R p)(e)(s:e<=R):Rd (w.setCell ⟨R,1,none⟩<|aa .i64<|p+1) R (p+1)/\lp R w (w.setCell ⟨R,1,none⟩<|aa .i64<|p+1)/\Below e w (w.setCell ⟨R,1,none⟩<|aa .i64<|p+1):=by let⟨⟨a,n,cap,c,t,u,f,hc⟩,x⟩:=r;refine⟨⟨⟨a,n,cap,c,?_,u,?_,hc⟩,ab⟩,(lp.refl R w).setCell _ _,(agn e w).setCell s _⟩;have:=heap_setCell_same w R 1 _ _ (aa .i64<|p+1) t;simpa using this;rcases f with h|⟨b,q,rfl,hb,f⟩;exact .inl h;exact .inr ⟨b,q,rfl,hb,λi v=>by rw[aj _ _ _ _ DZ];exact f i v⟩
theorem fk (R p)(m:Int)(w A)(h0:A<=R)(hr:Rd w R p)(hp:p<=1000000)(hm:1<=m)(jQ:m<=100000): Calls Tz.prog 8 #[.pointer R,m] w λe w'=>(∃z:Int,e=.returned (aa .i64 z)/\0<=z/\z<m)/\Rd w' R (p+1)/\lp R w w'/\Below A w w':=by
 let⟨⟨a,n,cap,c,y,hn,T,hc⟩,B⟩:=hr;have c0:w.cell? R=some (ao a n cap):=by rw[cell_of_row _ _ _ _ _ _ y];rfl
 have c1:w.cell? ⟨R,1,none⟩=some (aa .i64 p):=by rw[cell_of_row _ _ _ _ _ _ y];rfl
 have f1:w.frozen? ⟨R,1,none⟩=false:=frozen_of_row w _ 1 _ _ y;let⟨U,C,D⟩:=VI ⟨⟨a,n,cap,c,y,hn,T,hc⟩,B⟩ A h0;have f:Hid (Rd (w.setCell ⟨R,1,none⟩<|aa .i64<|p+1) R<|p+1):=U;have d0:(w.setCell ⟨R,1,none⟩<|aa .i64<|p+1).cell? R=some (ao a n cap):=by rw[aj _ _ _ _ aN];exact c0
 have d1:(w.setCell ⟨R,1,none⟩<|aa .i64<|p+1).cell? ⟨R,1,none⟩=some (aa .i64<|p+1):=World.cell?_setCell_same' _ _ _ (by rw[c1];rfl);clear U;by_cases u:n=0
 .subst u;go_enter Tz.func8,Tryz.ntmps8;go_wp2;go_ret;exact⟨⟨0,rfl,ab,ab⟩,f.out,C,D⟩
 obtain⟨b,r,rfl,Xz,mY⟩:∃b r,a=some ⟨b,r,none⟩/\b<R/\tZ w b r n c:=by rcases T with h|h;exact absurd h u;exact h
 have J:tZ (w.setCell ⟨R,1,none⟩<|aa .i64<|p+1) b r n c:=λi hi=>by rw[aj _ _ _ _ DZ];exact mY i hi
 have Y:(0:Int)<n:=ab;have au:((n:Int)==0)=false:=cY;have av:¬m<1:=ab;by_cases aG:p<n
 .obtain⟨q,hq⟩:∃q:Nat,p=(q:Int):=⟨p.toNat,ab⟩;subst hq;have v:q<n:=ab;have e0:=J q v;let⟨z0,z1⟩:=hc q v;have Z:0<=c q%m:=ad _ ab;have eI:c q%m<m:=ac _ ab;have HZ:Hid (0<=c q%m/\c q%m<m):=by have h:0<=c q%m/\c q%m<m:=⟨Z,eI⟩;exact h
  clear Z eI;go_enter Tz.func8,Tryz.ntmps8;go_wp2;go_ret;exact⟨⟨c q%m,rfl,HZ.out.1,HZ.out.2⟩,f.out,C,D⟩
 obtain⟨s,ax⟩:∃s:Nat,p%(n:Int)=(s:Int):=⟨(p%(n:Int)).toNat,by have:=ad p (show(n:Int)≠0 by omega);omega⟩;obtain⟨t,ay⟩:∃t:Nat,(p*7+3)%(n:Int)=(t:Int):=⟨((p*7+3)%(n:Int)).toNat,by have:=ad (p*7+3) (show(n:Int)≠0 by omega);omega⟩;have OU:s<n:=by have:=ac p Y;omega
 have XJ:t<n:=by have:=ac (p*7+3) Y;omega
 have aE:(s:Int)<n:=ab;have aI:(t:Int)<n:=ab;let⟨x0,x1⟩:=hc s OU;let⟨y0,y1⟩:=hc t XJ;have XX:0<=p/(n:Int):=Int.ediv_nonneg B ab;have aL:p/(n:Int)<=p:=Int.ediv_le_self _ B;have aV:=aK<|w.setCell ⟨R,1,none⟩<|aa .i64<|p+1;have g0:=λx:am (w.setCell ⟨R,1,none⟩<|aa .i64<|p+1)=>x.cell d0;have g1:=λx:am (w.setCell ⟨R,1,none⟩<|aa .i64<|p+1)=>x.cell<|J s OU;have g2:=λx:am (w.setCell ⟨R,1,none⟩<|aa .i64<|p+1)=>x.cell<|J t XJ;go_enter Tz.func8,Tryz.ntmps8;go_wp2;refine nh ?_;intro w2 N;go_wp2;go_ret;have O:0<=c s*131+c t*1117+p*29+p/(n:Int)*53:=ab;have aZ:c s*131+c t*1117+p*29+p/(n:Int)*53<1000000000:=ab;have hz:=WG _ m (WU _ ((c s*131+c t*1117+p*29+p/(n:Int)*53)/64) O ab ab ab) hm;have a0:R<(w.setCell ⟨R,1,none⟩<|aa .i64<|p+1).heap.size:=f.out.lt;exact⟨⟨_,rfl,hz.1,hz.2⟩,f.out.below N,C.trans<|lp.of N,D.trans<|N.mono ab⟩
end
