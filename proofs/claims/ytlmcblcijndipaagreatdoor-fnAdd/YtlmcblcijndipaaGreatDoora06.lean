import Derived.Test.YtlmcblcijndipaaGreatDoora00
import Derived.Below
set_option linter.defProp false
namespace Go.Proofs.YtlmcblcijndipaaGreatDoor
section
variable {s:ByteArray}{k n:Nat}
def FG (n:Int):Bool:=decide (97<=n/\n<=122\/48<=n/\n<=57\/n=45)
def Kr (s:ByteArray)(k:Nat):Prop:=∀j (h:j<s.size),j<k->FG (s[j].toNat:Int)=true
def ik (s:ByteArray):Bool:=decide (1<=s.size/\s.size<=8)&&s.data.toList.all λc=>FG (c.toNat:Int)
def iL (n lo hi:Int):Bool:=decide (lo<=n/\n<=hi)
def xX (aW late p:Int):Bool:=p==-1||iL p aW late
def uu (s:ByteArray)(ap aW late p:Int):Bool:=ik s&&iL ap 1 3&&iL aW 0 late&&decide (late<=10000)&&xX aW late p
def AJ (s:ByteArray):Kr s 0:=λ_ _ h=>absurd h<|ac9 _
def AI (h:Kr s k)(hk:k<s.size)(hb:FG (s[k].toNat:Int)=true):Kr s (k+1):=by
 intro j hj hjk;by_cases e:j=k
 .subst e;exact hb
 .exact h j hj aa
def Ik (s:ByteArray):(s.data.toList.all λc=>FG (c.toNat:Int))=true<->∀j (h:j<s.size),FG (s[j].toNat:Int)=true:=by
 rw[List.all_eq_true];constructor
 .intro h j hj;exact h _<|Array.mem_toList_iff.mpr<|Array.getElem_mem (xs:=s.data) (i:=j) hj
 .intro h c hc;obtain⟨j,hj,rfl⟩:=Array.mem_iff_getElem.mp<|Array.mem_toList_iff.mp hc;exact h j hj
def AE (h1:1<=s.size)(h2:s.size<=8)(h:Kr s s.size):ik s=true:=by
 unfold ik;rw[(Ik s).mpr λj hj=>h j hj hj];simp[h1,h2]
def xO (hk:k<s.size)(h:FG (s[k].toNat:Int)=false):ik s=false:=by
 unfold ik;rw[Bool.and_eq_false_iff];right;rw[Bool.eq_false_iff];intro ha;have:=(Ik s).mp ha k hk;rw[h]at this;cases this
def uQ (h:¬1<=s.size):ik s=false:=by
 unfold ik;simp[h]
def xN (h:¬s.size<=8):ik s=false:=by
 unfold ik;simp[h]
def NJ {n:Int}(h:128<=n):FG n=false:=by
 unfold FG;rw[decide_eq_false_iff_not];omega
structure Mv where
 name:ByteArray
 aj:Bool
 ap:Int
 aW:Int
 late:Int
 prom:Int
abbrev Mv.cells (m:Mv):Array Value:=#[m.name,m.aj,m.ap,m.aW,m.late,m.prom]
structure Mv.Fits (m:Mv):Prop where
 name:m.name.size<=maxLen
 ap:(Lit.int .i64 m.ap).wf=true
 aW:(Lit.int .i64 m.aW).wf=true
 late:(Lit.int .i64 m.late).wf=true
 prom:(Lit.int .i64 m.prom).wf=true
def Mv.ok (m:Mv):Bool:=uu m.name m.ap m.aW m.late m.prom
def bU (a b:ByteArray):Bool:=Op.bytesLess a.toList b.toList
def iu (f:Nat->Mv)(i:Nat):Bool:=(f i).ok&&(i==0||bU (f<|i-1).name (f i).name)
def aE (f:Nat->Mv)(n:Nat):Bool:=decide (n<=6)&&(List.range n).all λi=>iu f i
def kC (f:Nat->Mv)(k:Nat):Prop:=∀i,i<k->iu f i=true
def kD {f:Nat->Mv}(h:kC f k)(hk:iu f k=true):kC f (k+1):=by
 intro i hi;by_cases e:i=k
 .subst e;exact hk
 .exact h i aa
def jv {f:Nat->Mv}(h:n<=6)(hs:kC f n):aE f n=true:=by
 unfold aE;simp only[Bool.and_eq_true,decide_eq_true_eq,List.all_eq_true,List.mem_range];exact⟨h,hs⟩
def ql {f:Nat->Mv}(hk:k<n)(hs:iu f k=false):aE f n=false:=by
 unfold aE;rw[Bool.and_eq_false_iff];right;rw[Bool.eq_false_iff];intro ha;rw[List.all_eq_true]at ha;have:=ha k<|List.mem_range.mpr hk;rw[hs]at this;cases this
def uP {f:Nat->Mv}(h:¬n<=6):aE f n=false:=by unfold aE;simp[h]
set_option linter.defProp false
def acW:=@Go.RowKit.Below.refl
def acX:=@Go.RowKit.Below.heap_alloc
def acY:=@Go.RowKit.Below.heap_setCell
def acZ:=@Go.RowKit.Below.setCell
def ac0:=@Go.RowKit.Below.alloc
def ac1:=@Go.World.size_alloc
def ac2:=@Go.World.cell?_of_block
def ac4:=@Go.World.cell?_alloc_lt
end
section
variable {m:Mv}{f:Nat->Mv}{n i:Nat}{t:Nat->Int}
def pC (l:Bool)(x y:Int):Int:=(if l then 2 else 1)+(if iL x 1 3&&iL y 1 3&&decide (y<x)then x-y else 0)
def iJ (l:Bool)(x y:Int):1<=pC l x y:=by
 unfold pC;cases l<;>simp<;>split<;>omega
def vG (l:Bool)(x y:Int):pC l x y<=4:=by
 unfold pC iL;cases l<;>simp<;>split<;>omega
def nS (x y:Int):Int:=if iL x 1 3&&iL y 1 3&&decide (y<x)then x-y else 0
def J5 (x y:Int):0<=nS x y/\nS x y<=2:=by
 unfold nS iL;simp;split<;>omega
def P9 (l:Bool)(x y:Int):pC l x y=(if l then 2 else 1)+nS x y:=rfl
def qW (aW late p t:Int):Bool:=iL t aW late&&(p==-1||p==t)
def AF (la:Bool)(wa:Int)(lb:Bool)(wb:Int)(s t:Int):Bool:=if t<s then decide (s-t<pC lb wb wa)else decide (t-s<pC la wa wb)
def lY (la:Bool)(wa:Int)(lb:Bool)(wb:Int)(s t:Int):
  (!AF la wa lb wb s t)=if s=t then false else if s<t then decide (pC la wa wb<=t-s)else decide (pC lb wb wa<=s-t):=by
 have h1:=iJ la wa wb;unfold AF;by_cases e:s=t
 .subst e;simp;omega
 .by_cases h:s<t
  .have:¬t<s:=by omega
   rw[if_neg this,if_neg e,if_pos h,Bool.eq_iff_iff];simp
  .have:t<s:=by omega
   rw[if_pos this,if_neg e,if_neg h,Bool.eq_iff_iff];simp
def Mv.oP (a b:Mv):Int:=pC a.aj a.ap b.ap
def Mv.fG (m:Mv)(t:Int):Bool:=qW m.aW m.late m.prom t
def Mv.gP (a b:Mv)(s t:Int):Bool:=AF a.aj a.ap b.aj b.ap s t
def Mv.fX (h:m.ok=true):0<=m.aW/\m.aW<=m.late/\m.late<=10000/\(m.prom=-1\/m.aW<=m.prom/\m.prom<=m.late)/\1<=m.ap/\m.ap<=3:=by
 unfold Mv.ok uu xX iL at h;simp only[Bool.and_eq_true,Bool.or_eq_true,decide_eq_true_eq,beq_iff_eq]at h;omega
def bg (h:aE f n=true)(i:Nat)(hi:i<n):(f i).ok=true:=by
 unfold aE at h;simp only[Bool.and_eq_true,decide_eq_true_eq,List.all_eq_true,List.mem_range]at h;have:=h.2 i hi;unfold iu at this;simp only[Bool.and_eq_true]at this;exact this.1
def bZ (h:aE f n=true):n<=6:=by
 unfold aE at h;simp only[Bool.and_eq_true,decide_eq_true_eq]at h;exact h.1
def iR {t:Int}(h:m.fG t=true):m.aW<=t/\t<=m.late:=by
 unfold Mv.fG qW iL at h;simp only[Bool.and_eq_true,decide_eq_true_eq]at h;exact h.1
def Hr (h:m.ok=true)(t:Int):m.fG t=(iL t m.aW m.late&&!(decide (0<=m.prom)&&t !=m.prom)):=by
 have hb:=Mv.fX h;unfold Mv.fG qW iL;rw[Bool.eq_iff_iff];simp;omega
def fk (f:Nat->Mv)(t:Nat->Int)(i:Nat):Prop:=(∀j,j<i->(f j).fG (t j)=true)/\∀j k,k<j->j<i->(f k).gP (f j) (t k) (t j)=false
def eI (f:Nat->Mv)(n:Nat)(t:Nat->Int)(m:Nat):Bool:=
 aE f n&&decide (m=n)&&((List.range n).all λi=>(f i).fG (t i)&&(List.range i).all λk=>!(f k).gP (f i) (t k) (t i))
def jp (h:aE f n=true):eI f n t n=true<->fk f t n:=by
 unfold eI fk;simp only[h,decide_true,Bool.true_and,List.all_eq_true,List.mem_range,Bool.and_eq_true,Bool.not_eq_true'];constructor
 .intro h;exact⟨λj hj=>(h j hj).1,λj k hk hj=>(h j hj).2 k hk⟩
 .intro h i hi;exact⟨h.1 i hi,λk hk=>h.2 i k hk hi⟩
def jM {m:Nat}(h:aE f n=false):eI f n t m=false:=by unfold eI;simp[h]
def tR {m:Nat}(h:m≠n):eI f n t m=false:=by unfold eI;simp[h]
def ri (hi:i<n)(h:(f i).fG (t i)=false):eI f n t n=false:=by
 rw[Bool.eq_false_iff];intro hh;have hm:aE f n=true:=by cases e:aE f n with|true=>rfl|false=>rw[jM e]at hh;cases hh
 have:=((jp hm).mp hh).1 i hi;rw[h]at this;cases this
def wS {k:Nat}(hk:k<i)(hi:i<n)(h:(f k).gP (f i) (t k) (t i)=true):eI f n t n=false:=by
 rw[Bool.eq_false_iff];intro hh;have hm:aE f n=true:=by cases e:aE f n with|true=>rfl|false=>rw[jM e]at hh;cases hh
 have:=((jp hm).mp hh).2 i k hk hi;rw[h]at this;cases this
def wh (f:Nat->Mv)(t:Nat->Int):fk f t 0:=⟨λ_ h=>absurd h<|ac9 _,λ_ _ _ h=>absurd h<|ac9 _⟩
def FL (h:fk f t i)(h1:(f i).fG (t i)=true)(h2:∀k,k<i->(f k).gP (f i) (t k) (t i)=false):fk f t (i+1):=by
 refine⟨λj hj=>?_,λj k hk hj=>?_⟩
 .by_cases e:j=i
  .subst e;exact h1
  .exact h.1 j aa
 .by_cases e:j=i
  .subst e;exact h2 k hk
  .exact h.2 j k hk aa
def sumTo (f:Nat->Mv)(t:Nat->Int):Nat->Int
 |0=>0
 |i+1=>sumTo f t i+(t i-(f i).aW)
def dc (f:Nat->Mv)(t:Nat->Int):Nat->Int
 |0=>0
 |i+1=>if dc f t i<t i-(f i).aW then t i-(f i).aW else dc f t i
def E7:∀i:Nat,(∀j,j<i->0<=t j-(f j).aW/\t j-(f j).aW<=10000)->0<=sumTo f t i/\sumTo f t i<=10000*i/\0<=dc f t i/\dc f t i<=10000
 |0,_=>by simp[sumTo,dc]
 |i+1,h=>by
  have h1:=E7 i λj hj=>h j aa
  have h2:=h i aa;simp only[sumTo,dc];split<;>omega
