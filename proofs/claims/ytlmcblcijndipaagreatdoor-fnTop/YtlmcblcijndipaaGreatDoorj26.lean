import Derived.Test.YtlmcblcijndipaaGreatDoorj18
import Derived.Test.YtlmcblcijndipaaGreatDoorj09e
import Derived.Test.YtlmcblcijndipaaGreatDoorRows
import Derived.OpenShut
import Derived.ShutString
import Derived.ChangeOld
set_option linter.defProp false
set_option linter.unusedVariables false
set_option maxHeartbeats 1000000
set_option maxRecDepth 10000
namespace Go.Proofs.YtlmcblcijndipaaGreatDoor
open ChangeAt ChangeShapes Deep RowKit WideShapes
variable {w:World}
section
variable {H:Type}{enc:TypeId×Value->H}{base:Nat}{spare:Nat->Bool}{held:Bool}
end
section
variable {a:Option Addr}{n cap:Nat}{H:Type}{p:List MemPlace}
def own:ownKnob Tryz.prog.godebug=none:=bj
def Qm:laidOutB Tryz.prog=true:=bj
def abO (w:World)(a:Option Addr)(n cap:Nat)(f:Nat->Mv):Prop:=
 n<=maxLen/\(n=0\/∃b off,a=some ⟨b,off,none⟩/\b<w.heap.size/\aJ w b off n f)/\∀i,i<n->(f i).Fits
end
section
variable {R:Nat}{p:Int}
def sL (w:World)(b off n:Nat)(c:Nat->Int):Prop:=∀i,i<n->w.cell? ⟨b,off+i,none⟩=some (.int .u8<|c i)
structure Rd (w:World)(R:Nat)(p:Int):Prop where
 mk::
 at_:∃(a:Option Addr) (n cap:Nat) (c:Nat->Int),w.heap[R]?=some (.cells #[.slice a n cap,p] 102 (0,0))/\n<=2000/\(n=0\/∃b off,a=some ⟨b,off,none⟩/\b<R/\sL w b off n c)/\∀i,i<n->0<=c i/\c i<=255
 low:0<=p
def SK (x y:Int)(hx:0<=x)(Jo:x<9223372036854775808)(hy:0<=y)(F8:y<9223372036854775808):0<=bits .xor .i64 x y:=by
 obtain⟨a,rfl⟩:∃a:Nat,x=(a:Int):=⟨x.toNat,ab⟩;obtain⟨b,rfl⟩:∃b:Nat,y=(b:Int):=⟨y.toNat,ab⟩;have hx:a ^^^ b<2^63:=Nat.xor_lt_two_pow ab ab;have h1:(BitVec.ofInt 64 (a:Int)).toNat=a:=by
  rw[BitVec.ofInt_natCast,BitVec.toNat_ofNat];exact Nat.mod_eq_of_lt ab
 have h2:(BitVec.ofInt 64 (b:Int)).toNat=b:=by
  rw[BitVec.ofInt_natCast,BitVec.toNat_ofNat];exact Nat.mod_eq_of_lt ab
 show 0<=IntKind.i64.wrap ((BitVec.ofInt 64 (a:Int) ^^^ BitVec.ofInt 64 (b:Int)).toNat:Int);rw[BitVec.toNat_xor,h1,h2,IntKind.wrap_i64];omega
def SD (x m:Int)(hx:0<=x)(hm:1<=m):0<=x.tmod m/\x.tmod m<m:=by
 rw[Int.tmod_eq_emod_of_nonneg hx];exact⟨Int.emod_nonneg _ ab,Int.emod_lt_of_pos _ ab⟩
def Rd.below {w':World}(hr:Rd w R p)(hb:Below w w w'):Rd w' R p:=by
 let⟨⟨a,n,cap,c,hR,hn,am,hc⟩,DC⟩:=hr;have ay:R<w:=(ac5.1 hR).1;refine⟨⟨a,n,cap,c,(hb.block R ay).trans hR,hn,?_,hc⟩,DC⟩;rcases am with h|⟨b,off,rfl,PV,am⟩
 .exact .inl h
 .exact .inr ⟨b,off,rfl,PV,λi hi=>(hb.cell (p:=⟨b,off+i,none⟩) cH).trans<|am i hi⟩
def Rd.lt (hr:Rd w R p):R<w:=by
 let⟨⟨a,n,cap,c,hR,_⟩,_⟩:=hr;exact(ac5.1 hR).1
def R6 (hr:Rd w R p)(cr:Nat)(h0:cr<=R):Rd (w.setCell ⟨R,1,none⟩<|.int .i64<|p+1) R (p+1)/\ja R w (w.setCell ⟨R,1,none⟩<|.int .i64<|p+1)/\Below cr w (w.setCell ⟨R,1,none⟩<|.int .i64<|p+1):=by
 let⟨⟨a,n,cap,c,hR,hn,am,hc⟩,DC⟩:=hr;refine⟨⟨⟨a,n,cap,c,?_,hn,?_,hc⟩,ab⟩,(ja.refl R w).setCell _ _,(acU cr w).setCell h0 _⟩
 .have:=heap_setCell_same w R 1 _ _ (.int .i64<|p+1) hR;simpa using this
 .rcases am with h|⟨b,off,rfl,hb,am⟩
  .exact .inl h
  .exact .inr ⟨b,off,rfl,hb,λi hi=>by rw[World.cell?_setCell_other _ _ _ _ zj];exact am i hi⟩
def gt (R:Nat)(p:Int)(m:Int)(w:World)(cr:Nat)(h0:cr<=R)(hr:Rd w R p)(hp:p<=1000000)(hm:1<=m)(nK:m<=100000):
  Calls Tz.prog 34 #[.pointer R,m] w λe w'=>(∃z:Int,e=.returned (.int .i64 z)/\0<=z/\z<m)/\Rd w' R (p+1)/\ja R w w'/\Below cr w w':=by
 let⟨⟨a,n,cap,c,hR,hn,am,hc⟩,DC⟩:=hr;have c0:w.cell? R=some (.slice a n cap):=by rw[cell_of_row _ _ _ _ _ _ hR];rfl
 have c1:w.cell? ⟨R,1,none⟩=some (.int .i64 p):=by rw[cell_of_row _ _ _ _ _ _ hR];rfl
 have f1:w.frozen? ⟨R,1,none⟩=false:=frozen_of_row w _ 1 _ _ hR;let⟨nL,bI,cj⟩:=R6 ⟨⟨a,n,cap,c,hR,hn,am,hc⟩,DC⟩ cr h0;have HR1:Hid (Rd (w.setCell ⟨R,1,none⟩<|.int .i64<|p+1) R<|p+1):=nL;have d0:(w.setCell ⟨R,1,none⟩<|.int .i64<|p+1).cell? R=some (.slice a n cap):=by rw[World.cell?_setCell_other _ _ _ _ aG];exact c0
 have d1:(w.setCell ⟨R,1,none⟩<|.int .i64<|p+1).cell? ⟨R,1,none⟩=some (.int .i64<|p+1):=World.cell?_setCell_same' _ _ _ (by rw[c1];rfl);clear nL;by_cases XF:n=0
 .subst XF;go_enter Tz.func34,Tryz.ntmps34
  go_wp2;go_ret;exact⟨⟨0,rfl,ab,ab⟩,HR1.out,bI,cj⟩
 .obtain⟨b,off,rfl,PV,lP⟩:∃b off,a=some ⟨b,off,none⟩/\b<R/\sL w b off n c:=by rcases am with h|h;exact absurd h XF;exact h
  have Vr:sL (w.setCell ⟨R,1,none⟩<|.int .i64<|p+1) b off n c:=λi hi=>by rw[World.cell?_setCell_other _ _ _ _ zj];exact lP i hi
  have Tu:(0:Int)<n:=ab;have hnz:((n:Int)==0)=false:=cH;have hmz:¬m<1:=ab;by_cases ay:p<n
  .obtain⟨q,hq⟩:∃q:Nat,p=(q:Int):=⟨p.toNat,ab⟩;subst hq;have hqn:q<n:=ab;have e0:=Vr q hqn;let⟨z0,z1⟩:=hc q hqn;have gE:0<=c q%m:=Int.emod_nonneg _ ab;have eG:c q%m<m:=Int.emod_lt_of_pos _ ab;have HZ:Hid (0<=c q%m/\c q%m<m):=by
    have h:0<=c q%m/\c q%m<m:=⟨gE,eG⟩;exact h
   clear gE eG;go_enter Tz.func34,Tryz.ntmps34
   go_wp2;go_ret;exact⟨⟨c q%m,rfl,HZ.out.1,HZ.out.2⟩,HR1.out,bI,cj⟩
  .obtain⟨j1,hj1⟩:∃j1:Nat,p%(n:Int)=(j1:Int):=⟨(p%(n:Int)).toNat,by have:=Int.emod_nonneg p (show(n:Int)≠0 by omega);omega⟩;obtain⟨j2,hj2⟩:∃j2:Nat,(p*7+3)%(n:Int)=(j2:Int):=⟨((p*7+3)%(n:Int)).toNat,by have:=Int.emod_nonneg (p*7+3) (show(n:Int)≠0 by omega);omega⟩;have Je:j1<n:=by have:=Int.emod_lt_of_pos p Tu;omega
   have PY:j2<n:=by have:=Int.emod_lt_of_pos (p*7+3) Tu;omega
   have Zv:(j1:Int)<n:=ab;have acg:(j2:Int)<n:=ab;let⟨x0,x1⟩:=hc j1 Je;let⟨y0,y1⟩:=hc j2 PY;have TE:0<=p/(n:Int):=Int.ediv_nonneg DC ab;have hq1:p/(n:Int)<=p:=Int.ediv_le_self _ DC;have hne:=aF<|w.setCell ⟨R,1,none⟩<|.int .i64<|p+1;have g0:=λx:ai (w.setCell ⟨R,1,none⟩<|.int .i64<|p+1)=>x.cell d0
   have g1:=λx:ai (w.setCell ⟨R,1,none⟩<|.int .i64<|p+1)=>x.cell<|Vr j1 Je
   have g2:=λx:ai (w.setCell ⟨R,1,none⟩<|.int .i64<|p+1)=>x.cell<|Vr j2 PY
   go_enter Tz.func34,Tryz.ntmps34
   go_wp2;refine jR ?_;intro w2 iC;go_wp2;go_ret;have hX0:0<=c j1*131+c j2*1117+p*29+p/(n:Int)*53:=ab;have hX1:c j1*131+c j2*1117+p*29+p/(n:Int)*53<1000000000:=ab;have hz:=SD _ m (SK _ ((c j1*131+c j2*1117+p*29+p/(n:Int)*53)/64) hX0 ab ab ab) hm;have ZA:R<(w.setCell ⟨R,1,none⟩<|.int .i64<|p+1).heap.size:=HR1.out.lt;exact⟨⟨_,rfl,hz.1,hz.2⟩,HR1.out.below iC,bI.trans<|ja.of iC,cj.trans<|iC.mono ab⟩
end
def eI (f:Nat->Mv)(n:Nat)(name:ByteArray)(k:Int):Prop:=k=-1/\(∀i,i<n->bJ (f i).name name=false)\/∃j:Nat,k=(j:Int)/\j<n/\bJ (f j).name name=true/\∀i,i<j->bJ (f i).name name=false
def yJ (m:Mv)(B:Nat)(name:ByteArray)(w:World)(hB:B<w)(hc:w.cell? B=some (.string name)):
  Calls Tz.prog 281 #[.agg #[m.name,m.ak,m.ap,m.bF,m.late,m.prom],.pointer B] w λe w'=>e=.returned (.bool<|bJ m.name name)/\Below w w w':=by
 have Ci:(w.alloc<|.cells #[m.name,m.ak,m.ap,m.bF,m.late,m.prom] 31).cell? B=some (.string name):=by
  rw[ac2 _ _ B hB];exact hc
 go_enter Tz.func281,Tryz.ntmps281
 go_wp2;go_ret;exact⟨rfl,(acU _ w).alloc (ac3 _) _⟩
def KU (b off n cap:Nat)(f:Nat->Mv)(B:Nat)(name:ByteArray)(w:World)(hn:n<=1048576)(bz:b<w)(am:aJ w b off n f)(hB:B<w)(hc:w.cell? B=some (.string name)):
  Calls Tz.prog 280 #[.slice (some ⟨b,off,none⟩) n cap,.func (.func 281) #[] #[.pointer B]] w λe w'=>(∃k:Int,e=.returned (.int .i64 k)/\eI f n name k)/\Below w w w':=by
 go_enter Tz.func280,Tryz.ntmps280
 go_wp2;go_loopw [8] (λx W=>∃k:Nat,x=.int .i64 k/\k<=n/\Below w w W/\∀i,i<k->bJ (f i).name name=false) (λx _=>n-(intOf x).toNat)
 case atStart=>exact⟨0,rfl,ac8 _,acU _ _,λi hi=>absurd hi<|ac7 _⟩
 case round=>
  obtain⟨k,rfl,hk,hb,cD⟩:=hrel;by_cases ay:k<n
  .have dq:(k:Int)<n:=by omega
   have hr:=am.below hb bz k ay;let⟨c0,c1,c2,c3,c4,c5⟩:=hr;have H1:=λ(w1:World)=>yJ (f k) B name w1
   cases he:bJ (f k).name name with
   |true=>
    go_wp2_with(go_at_call 281;refine(yJ (f k) B name wr (ac4 hB hb.size)<|(hb.cell (p:=⟨B,0,none⟩) hB).trans hc).mono ?_;rintro e w1 ⟨rfl,b1⟩;rw[he])
    all_goals try omega
    go_ret;exact⟨⟨k,rfl,.inr ⟨k,rfl,ay,he,cD⟩⟩,hb.trans<|b1.mono hb.size⟩
   |false=>
    go_wp2_with(go_at_call 281;refine(yJ (f k) B name wr (ac4 hB hb.size)<|(hb.cell (p:=⟨B,0,none⟩) hB).trans hc).mono ?_;rintro e w1 ⟨rfl,b1⟩;rw[he])
    all_goals try omega
    go_roundw
    case rel=>exact⟨k+1,by go_num,ab,hb.trans<|b1.mono hb.size,λi hi=>by
     by_cases e:i=k
     .subst e;exact he
     .exact cD i ab⟩
    case measure=>exact bZ
  .have dq:¬(k:Int)<n:=by omega
   go_wp2;all_goals try omega
   go_ret;exact⟨⟨-1,rfl,.inl ⟨rfl,λi hi=>cD i ab⟩⟩,hb⟩
def E9 (b off n cap:Nat)(f:Nat->Mv)(name:ByteArray)(w:World)(hn:n<=1048576)(bz:b<w)(am:aJ w b off n f):
  Calls Tz.prog 278 #[.slice (some ⟨b,off,none⟩) n cap,name] w λe w'=>(∃k:Int,e=.returned (.int .i64 k)/\eI f n name k)/\Below w w w':=by
 have b0:Below w w (w.alloc<|.cells #[name] 9):=(acU _ w).alloc (ac3 _) _;have hI:=KU b off n cap f w.heap.size name (w.alloc<|.cells #[name] 9) hn cH (am.below b0 bz) aG aG;go_enter Tz.func278,Tryz.ntmps278
 go_wp2_with(go_at_call 280;refine hI.mono ?_;rintro e w1 ⟨⟨k,rfl,hk⟩,b1⟩)
 go_ret;exact⟨⟨k,rfl,hk⟩,b0.trans<|b1.mono b0.size⟩
