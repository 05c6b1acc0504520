import Derived.Test.YtlmcblcijndipaaGreatDoorj00
import Derived.Below
set_option linter.defProp false
namespace Go.Proofs.YtlmcblcijndipaaGreatDoor
section
variable {s:ByteArray}{k n:Nat}
def Ga (n:Int):Bool:=decide (97<=n/\n<=122\/48<=n/\n<=57\/n=45)
def K7 (s:ByteArray)(k:Nat):Prop:=∀j (h:j<s.size),j<k->Ga (s[j].toNat:Int)=true
def io (s:ByteArray):Bool:=decide (1<=s.size/\s.size<=8)&&s.data.toList.all λc=>Ga (c.toNat:Int)
def iB (n lo hi:Int):Bool:=decide (lo<=n/\n<=hi)
def yv (bF late p:Int):Bool:=p==-1||iB p bF late
def uF (s:ByteArray)(ap bF late p:Int):Bool:=io s&&iB ap 1 3&&iB bF 0 late&&decide (late<=10000)&&yv bF late p
def AO (s:ByteArray):K7 s 0:=λ_ _ h=>absurd h<|ac7 _
def AN (h:K7 s k)(hk:k<s.size)(hb:Ga (s[k].toNat:Int)=true):K7 s (k+1):=by
 intro j hj hjk;by_cases e:j=k
 .subst e;exact hb
 .exact h j hj ab
def IT (s:ByteArray):(s.data.toList.all λc=>Ga (c.toNat:Int))=true<->∀j (h:j<s.size),Ga (s[j].toNat:Int)=true:=by
 rw[List.all_eq_true];constructor
 .intro h j hj;exact h _<|Array.mem_toList_iff.mpr<|Array.getElem_mem (xs:=s.data) (i:=j) hj
 .intro h c hc;obtain⟨j,hj,rfl⟩:=Array.mem_iff_getElem.mp<|Array.mem_toList_iff.mp hc;exact h j hj
def AK (h1:1<=s.size)(h2:s.size<=8)(h:K7 s s.size):io s=true:=by
 unfold io;rw[(IT s).mpr λj hj=>h j hj hj];simp[h1,h2]
def yh (hk:k<s.size)(h:Ga (s[k].toNat:Int)=false):io s=false:=by
 unfold io;rw[Bool.and_eq_false_iff];right;rw[Bool.eq_false_iff];intro ha;have:=(IT s).mp ha k hk;rw[h]at this;cases this
def vj (h:¬1<=s.size):io s=false:=by
 unfold io;simp[h]
def ye (h:¬s.size<=8):io s=false:=by
 unfold io;simp[h]
def OC {n:Int}(h:128<=n):Ga n=false:=by
 unfold Ga;rw[decide_eq_false_iff_not];omega
structure Mv where
 name:ByteArray
 ak:Bool
 ap:Int
 bF:Int
 late:Int
 prom:Int
abbrev Mv.cells (m:Mv):Array Value:=#[m.name,m.ak,m.ap,m.bF,m.late,m.prom]
structure Mv.Fits (m:Mv):Prop where
 name:m.name.size<=maxLen
 ap:(Lit.int .i64 m.ap).wf=true
 bF:(Lit.int .i64 m.bF).wf=true
 late:(Lit.int .i64 m.late).wf=true
 prom:(Lit.int .i64 m.prom).wf=true
def Mv.ok (m:Mv):Bool:=uF m.name m.ap m.bF m.late m.prom
def bX (a b:ByteArray):Bool:=Op.bytesLess a.toList b.toList
def ix (f:Nat->Mv)(i:Nat):Bool:=(f i).ok&&(i==0||bX (f<|i-1).name (f i).name)
def az (f:Nat->Mv)(n:Nat):Bool:=decide (n<=6)&&(List.range n).all λi=>ix f i
def kz (f:Nat->Mv)(k:Nat):Prop:=∀i,i<k->ix f i=true
def kA {f:Nat->Mv}(h:kz f k)(hk:ix f k=true):kz f (k+1):=by
 intro i hi;by_cases e:i=k
 .subst e;exact hk
 .exact h i ab
def jr {f:Nat->Mv}(h:n<=6)(hs:kz f n):az f n=true:=by
 unfold az;simp only[Bool.and_eq_true,decide_eq_true_eq,List.all_eq_true,List.mem_range];exact⟨h,hs⟩
def qr {f:Nat->Mv}(hk:k<n)(hs:ix f k=false):az f n=false:=by
 unfold az;rw[Bool.and_eq_false_iff];right;rw[Bool.eq_false_iff];intro ha;rw[List.all_eq_true]at ha;have:=ha k<|List.mem_range.mpr hk;rw[hs]at this;cases this
def vh {f:Nat->Mv}(h:¬n<=6):az f n=false:=by unfold az;simp[h]
set_option linter.defProp false
def acU:=@Go.RowKit.Below.refl
def acV:=@Go.RowKit.Below.heap_alloc
def acW:=@Go.RowKit.Below.heap_setCell
def acX:=@Go.RowKit.Below.setCell
def acY:=@Go.RowKit.Below.alloc
def acZ:=@Go.World.size_alloc
def ac0:=@Go.World.cell?_of_block
def ac2:=@Go.World.cell?_alloc_lt
end
section
variable {m:Mv}{f:Nat->Mv}{n i:Nat}{t:Nat->Int}
def nZ (l:Bool)(x y:Int):Int:=(if l then 2 else 1)+(if iB x 1 3&&iB y 1 3&&decide (y<x)then x-y else 0)
def fO (l:Bool)(x y:Int):1<=nZ l x y:=by
 unfold nZ;cases l<;>simp<;>split<;>omega
def sV (l:Bool)(x y:Int):nZ l x y<=4:=by
 unfold nZ iB;cases l<;>simp<;>split<;>omega
def ob (x y:Int):Int:=if iB x 1 3&&iB y 1 3&&decide (y<x)then x-y else 0
def KE (x y:Int):0<=ob x y/\ob x y<=2:=by
 unfold ob iB;simp;split<;>omega
def Q6 (l:Bool)(x y:Int):nZ l x y=(if l then 2 else 1)+ob x y:=rfl
def qe (bF late p t:Int):Bool:=iB t bF late&&(p==-1||p==t)
def yi (la:Bool)(wa:Int)(lb:Bool)(wb:Int)(s t:Int):Bool:=if t<s then decide (s-t<nZ lb wb wa)else decide (t-s<nZ la wa wb)
def jO (la:Bool)(wa:Int)(lb:Bool)(wb:Int)(s t:Int):
  (!yi la wa lb wb s t)=if s=t then false else if s<t then decide (nZ la wa wb<=t-s)else decide (nZ lb wb wa<=s-t):=by
 have h1:=fO la wa wb;unfold yi;by_cases e:s=t
 .subst e;simp;omega
 .by_cases h:s<t
  .have:¬t<s:=by omega
   rw[if_neg this,if_neg e,if_pos h,Bool.eq_iff_iff];simp
  .have:t<s:=by omega
   rw[if_pos this,if_neg e,if_neg h,Bool.eq_iff_iff];simp
def Mv.jX (a b:Mv):Int:=nZ a.ak a.ap b.ap
def Mv.eM (m:Mv)(t:Int):Bool:=qe m.bF m.late m.prom t
def Mv.fF (a b:Mv)(s t:Int):Bool:=yi a.ak a.ap b.ak b.ap s t
def Mv.fp (h:m.ok=true):0<=m.bF/\m.bF<=m.late/\m.late<=10000/\(m.prom=-1\/m.bF<=m.prom/\m.prom<=m.late)/\1<=m.ap/\m.ap<=3:=by
 unfold Mv.ok uF yv iB at h;simp only[Bool.and_eq_true,Bool.or_eq_true,decide_eq_true_eq,beq_iff_eq]at h;omega
def aW (h:az f n=true)(i:Nat)(hi:i<n):(f i).ok=true:=by
 unfold az at h;simp only[Bool.and_eq_true,decide_eq_true_eq,List.all_eq_true,List.mem_range]at h;have:=h.2 i hi;unfold ix at this;simp only[Bool.and_eq_true]at this;exact this.1
def bP (h:az f n=true):n<=6:=by
 unfold az at h;simp only[Bool.and_eq_true,decide_eq_true_eq]at h;exact h.1
def fT {t:Int}(h:m.eM t=true):m.bF<=t/\t<=m.late:=by
 unfold Mv.eM qe iB at h;simp only[Bool.and_eq_true,decide_eq_true_eq]at h;exact h.1
def Iu (h:m.ok=true)(t:Int):m.eM t=(iB t m.bF m.late&&!(decide (0<=m.prom)&&t !=m.prom)):=by
 have hb:=Mv.fp h;unfold Mv.eM qe iB;rw[Bool.eq_iff_iff];simp;omega
def dU (f:Nat->Mv)(t:Nat->Int)(i:Nat):Prop:=(∀j,j<i->(f j).eM (t j)=true)/\∀j k,k<j->j<i->(f k).fF (f j) (t k) (t j)=false
def eC (f:Nat->Mv)(n:Nat)(t:Nat->Int)(m:Nat):Bool:=
 az f n&&decide (m=n)&&((List.range n).all λi=>(f i).eM (t i)&&(List.range i).all λk=>!(f k).fF (f i) (t k) (t i))
def fV (h:az f n=true):eC f n t n=true<->dU f t n:=by
 unfold eC dU;simp only[h,decide_true,Bool.true_and,List.all_eq_true,List.mem_range,Bool.and_eq_true,Bool.not_eq_true'];constructor
 .intro h;exact⟨λj hj=>(h j hj).1,λj k hk hj=>(h j hj).2 k hk⟩
 .intro h i hi;exact⟨h.1 i hi,λk hk=>h.2 i k hk hi⟩
def jJ {m:Nat}(h:az f n=false):eC f n t m=false:=by unfold eC;simp[h]
def uj {m:Nat}(h:m≠n):eC f n t m=false:=by unfold eC;simp[h]
def rC (hi:i<n)(h:(f i).eM (t i)=false):eC f n t n=false:=by
 rw[Bool.eq_false_iff];intro hh;have hm:az f n=true:=by cases e:az f n with|true=>rfl|false=>rw[jJ e]at hh;cases hh
 have:=((fV hm).mp hh).1 i hi;rw[h]at this;cases this
def xl {k:Nat}(hk:k<i)(hi:i<n)(h:(f k).fF (f i) (t k) (t i)=true):eC f n t n=false:=by
 rw[Bool.eq_false_iff];intro hh;have hm:az f n=true:=by cases e:az f n with|true=>rfl|false=>rw[jJ e]at hh;cases hh
 have:=((fV hm).mp hh).2 i k hk hi;rw[h]at this;cases this
def wK (f:Nat->Mv)(t:Nat->Int):dU f t 0:=⟨λ_ h=>absurd h<|ac7 _,λ_ _ _ h=>absurd h<|ac7 _⟩
def Gd (h:dU f t i)(h1:(f i).eM (t i)=true)(h2:∀k,k<i->(f k).fF (f i) (t k) (t i)=false):dU f t (i+1):=by
 refine⟨λj hj=>?_,λj k hk hj=>?_⟩
 .by_cases e:j=i
  .subst e;exact h1
  .exact h.1 j ab
 .by_cases e:j=i
  .subst e;exact h2 k hk
  .exact h.2 j k hk ab
def sumTo (f:Nat->Mv)(t:Nat->Int):Nat->Int
 |0=>0
 |i+1=>sumTo f t i+(t i-(f i).bF)
def cW (f:Nat->Mv)(t:Nat->Int):Nat->Int
 |0=>0
 |i+1=>if cW f t i<t i-(f i).bF then t i-(f i).bF else cW f t i
def FG:∀i:Nat,(∀j,j<i->0<=t j-(f j).bF/\t j-(f j).bF<=10000)->0<=sumTo f t i/\sumTo f t i<=10000*i/\0<=cW f t i/\cW f t i<=10000
 |0,_=>by simp[sumTo,cW]
 |i+1,h=>by
  have h1:=FG i λj hj=>h j ab
  have h2:=h i ab;simp only[sumTo,cW];split<;>omega
