import Derived.Below
namespace Go.Proofs.YtlmcblcijndipabGreatDoor
def tZ (n:Int):Bool:=decide (97<=n/\n<=122\/48<=n/\n<=57\/n=45)
def wc (s:ByteArray)(k:Nat):Prop:=∀j (h:j<s.size),j<k->tZ (s[j].toNat:Int)=true
def dA (s:ByteArray):Bool:=decide (1<=s.size/\s.size<=8)&&s.data.toList.all λc=>tZ (c.toNat:Int)
def dE (n lo hi:Int):Bool:=decide (lo<=n/\n<=hi)
def nu (est late p:Int):Bool:=p==-1||dE p est late
def ma (s:ByteArray)(wake est late p:Int):Bool:=dA s&&dE wake 1 3&&dE est 0 late&&decide (late<=10000)&&nu est late p
theorem pA (s:ByteArray):wc s 0:=λ_ _ h=>absurd h (Nat.not_lt_zero _)
theorem pB {s:ByteArray}{k:Nat}(h:wc s k)(hk:k<s.size)(hb:tZ (s[k].toNat:Int)=true):wc s (k+1):=by
 intro j hj hjk;by_cases e:j=k
 .subst e;exact hb
 .exact h j hj (by omega)
theorem vc (s:ByteArray):(s.data.toList.all λc=>tZ (c.toNat:Int))=true<->∀j (h:j<s.size),tZ (s[j].toNat:Int)=true:=by
 rw[List.all_eq_true];constructor
 .intro h j hj;exact h _ (Array.mem_toList_iff.mpr (Array.getElem_mem (xs:=s.data) (i:=j) hj))
 .intro h c hc;obtain⟨j,hj,rfl⟩:=Array.mem_iff_getElem.mp (Array.mem_toList_iff.mp hc);exact h j hj
theorem pC {s:ByteArray}(h1:1<=s.size)(h2:s.size<=8)(h:wc s s.size):dA s=true:=by
 unfold dA;rw[(vc s).mpr λj hj=>h j hj hj];simp[h1,h2]
theorem nv {s:ByteArray}{k:Nat}(hk:k<s.size)(h:tZ (s[k].toNat:Int)=false):dA s=false:=by
 unfold dA;rw[Bool.and_eq_false_iff];right;rw[Bool.eq_false_iff];intro ha;have:=(vc s).mp ha k hk;rw[h]at this;cases this
theorem mc {s:ByteArray}(h:¬1<=s.size):dA s=false:=by
 unfold dA;simp[h]
theorem nz {s:ByteArray}(h:¬s.size<=8):dA s=false:=by
 unfold dA;simp[h]
theorem ye {n:Int}(h:128<=n):tZ n=false:=by
 unfold tZ;rw[decide_eq_false_iff_not];omega
structure Mv where
 name:ByteArray
 lands:Bool
 wake:Int
 est:Int
 late:Int
 prom:Int
abbrev Mv.cells (m:Mv):Array Value:=#[.string m.name,.bool m.lands,.int .i64 m.wake,.int .i64 m.est,.int .i64 m.late,.int .i64 m.prom]
structure Mv.Fits (m:Mv):Prop where
 name:m.name.size<=maxLen
 wake:(Lit.int .i64 m.wake).wf=true
 est:(Lit.int .i64 m.est).wf=true
 late:(Lit.int .i64 m.late).wf=true
 prom:(Lit.int .i64 m.prom).wf=true
def Mv.ok (m:Mv):Bool:=ma m.name m.wake m.est m.late m.prom
def bm (a b:ByteArray):Bool:=Op.bytesLess a.toList b.toList
def dJ (f:Nat->Mv)(i:Nat):Bool:=(f i).ok&&(i==0||bm (f (i-1)).name (f i).name)
def aq (f:Nat->Mv)(n:Nat):Bool:=decide (n<=6)&&(List.range n).all λi=>dJ f i
def ff (f:Nat->Mv)(k:Nat):Prop:=∀i,i<k->dJ f i=true
theorem fg {f:Nat->Mv}{k:Nat}(h:ff f k)(hk:dJ f k=true):ff f (k+1):=by
 intro i hi;by_cases e:i=k
 .subst e;exact hk
 .exact h i (by omega)
theorem fD {f:Nat->Mv}{n:Nat}(h:n<=6)(hs:ff f n):aq f n=true:=by
 unfold aq;simp only[Bool.and_eq_true,decide_eq_true_eq,List.all_eq_true,List.mem_range];exact⟨h,hs⟩
theorem jq {f:Nat->Mv}{n k:Nat}(hk:k<n)(hs:dJ f k=false):aq f n=false:=by
 unfold aq;rw[Bool.and_eq_false_iff];right;rw[Bool.eq_false_iff];intro ha;rw[List.all_eq_true]at ha;have:=ha k (List.mem_range.mpr hk);rw[hs]at this;cases this
theorem me {f:Nat->Mv}{n:Nat}(h:¬n<=6):aq f n=false:=by unfold aq;simp[h]
def iP (l:Bool)(x y:Int):Int:=(if l then 2 else 1)+(if dE x 1 3&&dE y 1 3&&decide (y<x)then x-y else 0)
theorem eJ (l:Bool)(x y:Int):1<=iP l x y:=by
 unfold iP;cases l<;>simp<;>split<;>omega
theorem mH (l:Bool)(x y:Int):iP l x y<=4:=by
 unfold iP dE;cases l<;>simp<;>split<;>omega
def ic (x y:Int):Int:=if dE x 1 3&&dE y 1 3&&decide (y<x)then x-y else 0
theorem we (x y:Int):0<=ic x y/\ic x y<=2:=by
 unfold ic dE;simp;split<;>omega
theorem zT (l:Bool)(x y:Int):iP l x y=(if l then 2 else 1)+ic x y:=rfl
def mf (est late p t:Int):Bool:=dE t est late&&(p==-1||p==t)
def sd (la:Bool)(wa:Int)(lb:Bool)(wb:Int)(s t:Int):Bool:=if t<s then decide (s-t<iP lb wb wa)else decide (t-s<iP la wa wb)
theorem fT (la:Bool)(wa:Int)(lb:Bool)(wb:Int)(s t:Int):
  (!sd la wa lb wb s t)=if s=t then false else if s<t then decide (iP la wa wb<=t-s)else decide (iP lb wb wa<=s-t):=by
 have h1:=eJ la wa wb;unfold sd;by_cases e:s=t
 .subst e;simp;omega
 .by_cases h:s<t
  .have:¬t<s:=by omega
   rw[if_neg this,if_neg e,if_pos h,Bool.eq_iff_iff];simp
  .have:t<s:=by omega
   rw[if_pos this,if_neg e,if_neg h,Bool.eq_iff_iff];simp
def Mv.gap (a b:Mv):Int:=iP a.lands a.wake b.wake
def Mv.suits (m:Mv)(t:Int):Bool:=mf m.est m.late m.prom t
def Mv.near (a b:Mv)(s t:Int):Bool:=sd a.lands a.wake b.lands b.wake s t
theorem Mv.ok_bd {m:Mv}(h:m.ok=true):0<=m.est/\m.est<=m.late/\m.late<=10000/\(m.prom=-1\/m.est<=m.prom/\m.prom<=m.late)/\1<=m.wake/\m.wake<=3:=by
 unfold Mv.ok ma nu dE at h;simp only[Bool.and_eq_true,Bool.or_eq_true,decide_eq_true_eq,beq_iff_eq]at h;omega
theorem aG {f:Nat->Mv}{n:Nat}(h:aq f n=true)(i:Nat)(hi:i<n):(f i).ok=true:=by
 unfold aq at h;simp only[Bool.and_eq_true,decide_eq_true_eq,List.all_eq_true,List.mem_range]at h;have:=h.2 i hi;unfold dJ at this;simp only[Bool.and_eq_true]at this;exact this.1
theorem aF {f:Nat->Mv}{n:Nat}(h:aq f n=true):n<=6:=by
 unfold aq at h;simp only[Bool.and_eq_true,decide_eq_true_eq]at h;exact h.1
theorem eK {m:Mv}{t:Int}(h:m.suits t=true):m.est<=t/\t<=m.late:=by
 unfold Mv.suits mf dE at h;simp only[Bool.and_eq_true,decide_eq_true_eq]at h;exact h.1
theorem t6 {m:Mv}(h:m.ok=true)(t:Int):m.suits t=(dE t m.est m.late&&!(decide (0<=m.prom)&&t !=m.prom)):=by
 have hb:=Mv.ok_bd h;unfold Mv.suits mf dE;rw[Bool.eq_iff_iff];simp;omega
def dL (f:Nat->Mv)(t:Nat->Int)(i:Nat):Prop:=(∀j,j<i->(f j).suits (t j)=true)/\∀j k,k<j->j<i->(f k).near (f j) (t k) (t j)=false
def bN (f:Nat->Mv)(n:Nat)(t:Nat->Int)(m:Nat):Bool:=
 aq f n&&decide (m=n)&&((List.range n).all λi=>(f i).suits (t i)&&(List.range i).all λk=>!(f k).near (f i) (t k) (t i))
theorem gB {f:Nat->Mv}{n:Nat}{t:Nat->Int}(h:aq f n=true):bN f n t n=true<->dL f t n:=by
 unfold bN dL;simp only[h,decide_true,Bool.true_and,List.all_eq_true,List.mem_range,Bool.and_eq_true,Bool.not_eq_true'];constructor
 .intro h;exact⟨λj hj=>(h j hj).1,λj k hk hj=>(h j hj).2 k hk⟩
 .intro h i hi;exact⟨h.1 i hi,λk hk=>h.2 i k hk hi⟩
theorem eL {f:Nat->Mv}{n m:Nat}{t:Nat->Int}(h:aq f n=false):bN f n t m=false:=by unfold bN;simp[h]
theorem lx {f:Nat->Mv}{n m:Nat}{t:Nat->Int}(h:m≠n):bN f n t m=false:=by unfold bN;simp[h]
theorem jY {f:Nat->Mv}{n i:Nat}{t:Nat->Int}(hi:i<n)(h:(f i).suits (t i)=false):bN f n t n=false:=by
 rw[Bool.eq_false_iff];intro hh;have hm:aq f n=true:=by cases e:aq f n with|true=>rfl|false=>rw[eL e]at hh;cases hh
 have:=((gB hm).mp hh).1 i hi;rw[h]at this;cases this
theorem nC {f:Nat->Mv}{n i k:Nat}{t:Nat->Int}(hk:k<i)(hi:i<n)(h:(f k).near (f i) (t k) (t i)=true):bN f n t n=false:=by
 rw[Bool.eq_false_iff];intro hh;have hm:aq f n=true:=by cases e:aq f n with|true=>rfl|false=>rw[eL e]at hh;cases hh
 have:=((gB hm).mp hh).2 i k hk hi;rw[h]at this;cases this
theorem t7 (f:Nat->Mv)(t:Nat->Int):dL f t 0:=⟨λ_ h=>absurd h (Nat.not_lt_zero _),λ_ _ _ h=>absurd h (Nat.not_lt_zero _)⟩
theorem t8 {f:Nat->Mv}{t:Nat->Int}{i:Nat}(h:dL f t i)(h1:(f i).suits (t i)=true)(h2:∀k,k<i->(f k).near (f i) (t k) (t i)=false):dL f t (i+1):=by
 refine⟨λj hj=>?_,λj k hk hj=>?_⟩
 .by_cases e:j=i
  .subst e;exact h1
  .exact h.1 j (by omega)
 .by_cases e:j=i
  .subst e;exact h2 k hk
  .exact h.2 j k hk (by omega)
def sumTo (f:Nat->Mv)(t:Nat->Int):Nat->Int
 |0=>0
 |i+1=>sumTo f t i+(t i-(f i).est)
def aS (f:Nat->Mv)(t:Nat->Int):Nat->Int
 |0=>0
 |i+1=>if aS f t i<t i-(f i).est then t i-(f i).est else aS f t i
theorem se {f:Nat->Mv}{t:Nat->Int}:∀i:Nat,(∀j,j<i->0<=t j-(f j).est/\t j-(f j).est<=10000)->0<=sumTo f t i/\sumTo f t i<=10000*i/\0<=aS f t i/\aS f t i<=10000
 |0,_=>by simp[sumTo,aS]
 |i+1,h=>by
  have h1:=se i λj hj=>h j (by omega)
  have h2:=h i (by omega);simp only[sumTo,aS];split<;>omega
end Go.Proofs.YtlmcblcijndipabGreatDoor
