import Derived.Below
namespace Go.Proofs.YtlmcblcijndipaaGreat
def s9 (n:Int):Bool:=decide (97<=n/\n<=122\/48<=n/\n<=57\/n=45)
def uX (s:ByteArray)(k:Nat):Prop:=∀j (h:j<s.size),j<k->s9 (s[j].toNat:Int)=true
def dJ (s:ByteArray):Bool:=decide (1<=s.size/\s.size<=8)&&s.data.toList.all λc=>s9 (c.toNat:Int)
def dU (n lo hi:Int):Bool:=decide (lo<=n/\n<=hi)
def ns (est late p:Int):Bool:=p==-1||dU p est late
def lW (s:ByteArray)(wake est late p:Int):Bool:=dJ s&&dU wake 1 3&&dU est 0 late&&decide (late<=10000)&&ns est late p
theorem pj (s:ByteArray):uX s 0:=λ_ _ h=>absurd h (Nat.not_lt_zero _)
theorem pm {s:ByteArray}{k:Nat}(h:uX s k)(hk:k<s.size)(hb:s9 (s[k].toNat:Int)=true):uX s (k+1):=by
 intro j hj hjk;by_cases e:j=k
 .subst e;exact hb
 .exact h j hj (by omega)
theorem um (s:ByteArray):(s.data.toList.all λc=>s9 (c.toNat:Int))=true<->∀j (h:j<s.size),s9 (s[j].toNat:Int)=true:=by
 rw[List.all_eq_true];constructor
 .intro h j hj;exact h _ (Array.mem_toList_iff.mpr (Array.getElem_mem (xs:=s.data) (i:=j) hj))
 .intro h c hc;obtain⟨j,hj,rfl⟩:=Array.mem_iff_getElem.mp (Array.mem_toList_iff.mp hc);exact h j hj
theorem pn {s:ByteArray}(h1:1<=s.size)(h2:s.size<=8)(h:uX s s.size):dJ s=true:=by
 unfold dJ;rw[(um s).mpr λj hj=>h j hj hj];simp[h1,h2]
theorem nt {s:ByteArray}{k:Nat}(hk:k<s.size)(h:s9 (s[k].toNat:Int)=false):dJ s=false:=by
 unfold dJ;rw[Bool.and_eq_false_iff];right;rw[Bool.eq_false_iff];intro ha;have:=(um s).mp ha k hk;rw[h]at this;cases this
theorem lY {s:ByteArray}(h:¬1<=s.size):dJ s=false:=by
 unfold dJ;simp[h]
theorem nu {s:ByteArray}(h:¬s.size<=8):dJ s=false:=by
 unfold dJ;simp[h]
theorem wJ {n:Int}(h:128<=n):s9 n=false:=by
 unfold s9;rw[decide_eq_false_iff_not];omega
structure Mv where
 name:ByteArray
 lands:Bool
 wake:Int
 est:Int
 late:Int
 prom:Int
abbrev Mv.cells (m:Mv):Array Value:=#[.string m.name,.bool m.lands,.int .i64 m.wake,.int .i64 m.est,.int .i64 m.late,.int .i64 m.prom]
structure Mv.Fits (m:Mv):Prop where
 name:m.name.size<=maxLen
 wake:(Lit.int .i64 m.wake).wf=true
 est:(Lit.int .i64 m.est).wf=true
 late:(Lit.int .i64 m.late).wf=true
 prom:(Lit.int .i64 m.prom).wf=true
def Mv.ok (m:Mv):Bool:=lW m.name m.wake m.est m.late m.prom
def aW (a b:ByteArray):Bool:=Op.bytesLess a.toList b.toList
def dK (f:Nat->Mv)(i:Nat):Bool:=(f i).ok&&(i==0||aW (f (i-1)).name (f i).name)
def ap (f:Nat->Mv)(n:Nat):Bool:=decide (n<=6)&&(List.range n).all λi=>dK f i
def fp (f:Nat->Mv)(k:Nat):Prop:=∀i,i<k->dK f i=true
theorem fq {f:Nat->Mv}{k:Nat}(h:fp f k)(hk:dK f k=true):fp f (k+1):=by
 intro i hi;by_cases e:i=k
 .subst e;exact hk
 .exact h i (by omega)
theorem eJ {f:Nat->Mv}{n:Nat}(h:n<=6)(hs:fp f n):ap f n=true:=by
 unfold ap;simp only[Bool.and_eq_true,decide_eq_true_eq,List.all_eq_true,List.mem_range];exact⟨h,hs⟩
theorem jl {f:Nat->Mv}{n k:Nat}(hk:k<n)(hs:dK f k=false):ap f n=false:=by
 unfold ap;rw[Bool.and_eq_false_iff];right;rw[Bool.eq_false_iff];intro ha;rw[List.all_eq_true]at ha;have:=ha k (List.mem_range.mpr hk);rw[hs]at this;cases this
theorem lZ {f:Nat->Mv}{n:Nat}(h:¬n<=6):ap f n=false:=by unfold ap;simp[h]
def iO (l:Bool)(x y:Int):Int:=(if l then 2 else 1)+(if dU x 1 3&&dU y 1 3&&decide (y<x)then x-y else 0)
theorem eX (l:Bool)(x y:Int):1<=iO l x y:=by
 unfold iO;cases l<;>simp<;>split<;>omega
theorem mE (l:Bool)(x y:Int):iO l x y<=4:=by
 unfold iO dU;cases l<;>simp<;>split<;>omega
def ic (x y:Int):Int:=if dU x 1 3&&dU y 1 3&&decide (y<x)then x-y else 0
theorem uY (x y:Int):0<=ic x y/\ic x y<=2:=by
 unfold ic dU;simp;split<;>omega
theorem yy (l:Bool)(x y:Int):iO l x y=(if l then 2 else 1)+ic x y:=rfl
def ma (est late p t:Int):Bool:=dU t est late&&(p==-1||p==t)
def rp (la:Bool)(wa:Int)(lb:Bool)(wb:Int)(s t:Int):Bool:=if t<s then decide (s-t<iO lb wb wa)else decide (t-s<iO la wa wb)
theorem fW (la:Bool)(wa:Int)(lb:Bool)(wb:Int)(s t:Int):
  (!rp la wa lb wb s t)=if s=t then false else if s<t then decide (iO la wa wb<=t-s)else decide (iO lb wb wa<=s-t):=by
 have h1:=eX la wa wb;unfold rp;by_cases e:s=t
 .subst e;simp;omega
 .by_cases h:s<t
  .have:¬t<s:=by omega
   rw[if_neg this,if_neg e,if_pos h,Bool.eq_iff_iff];simp
  .have:t<s:=by omega
   rw[if_pos this,if_neg e,if_neg h,Bool.eq_iff_iff];simp
def Mv.gap (a b:Mv):Int:=iO a.lands a.wake b.wake
def Mv.suits (m:Mv)(t:Int):Bool:=ma m.est m.late m.prom t
def Mv.near (a b:Mv)(s t:Int):Bool:=rp a.lands a.wake b.lands b.wake s t
theorem Mv.ok_bd {m:Mv}(h:m.ok=true):0<=m.est/\m.est<=m.late/\m.late<=10000/\(m.prom=-1\/m.est<=m.prom/\m.prom<=m.late)/\1<=m.wake/\m.wake<=3:=by
 unfold Mv.ok lW ns dU at h;simp only[Bool.and_eq_true,Bool.or_eq_true,decide_eq_true_eq,beq_iff_eq]at h;omega
theorem aE {f:Nat->Mv}{n:Nat}(h:ap f n=true)(i:Nat)(hi:i<n):(f i).ok=true:=by
 unfold ap at h;simp only[Bool.and_eq_true,decide_eq_true_eq,List.all_eq_true,List.mem_range]at h;have:=h.2 i hi;unfold dK at this;simp only[Bool.and_eq_true]at this;exact this.1
theorem aR {f:Nat->Mv}{n:Nat}(h:ap f n=true):n<=6:=by
 unfold ap at h;simp only[Bool.and_eq_true,decide_eq_true_eq]at h;exact h.1
theorem cY {m:Mv}{t:Int}(h:m.suits t=true):m.est<=t/\t<=m.late:=by
 unfold Mv.suits ma dU at h;simp only[Bool.and_eq_true,decide_eq_true_eq]at h;exact h.1
theorem td {m:Mv}(h:m.ok=true)(t:Int):m.suits t=(dU t m.est m.late&&!(decide (0<=m.prom)&&t !=m.prom)):=by
 have hb:=Mv.ok_bd h;unfold Mv.suits ma dU;rw[Bool.eq_iff_iff];simp;omega
def cZ (f:Nat->Mv)(t:Nat->Int)(i:Nat):Prop:=(∀j,j<i->(f j).suits (t j)=true)/\∀j k,k<j->j<i->(f k).near (f j) (t k) (t j)=false
def ca (f:Nat->Mv)(n:Nat)(t:Nat->Int)(m:Nat):Bool:=
 ap f n&&decide (m=n)&&((List.range n).all λi=>(f i).suits (t i)&&(List.range i).all λk=>!(f k).near (f i) (t k) (t i))
theorem fB {f:Nat->Mv}{n:Nat}{t:Nat->Int}(h:ap f n=true):ca f n t n=true<->cZ f t n:=by
 unfold ca cZ;simp only[h,decide_true,Bool.true_and,List.all_eq_true,List.mem_range,Bool.and_eq_true,Bool.not_eq_true'];constructor
 .intro h;exact⟨λj hj=>(h j hj).1,λj k hk hj=>(h j hj).2 k hk⟩
 .intro h i hi;exact⟨h.1 i hi,λk hk=>h.2 i k hk hi⟩
theorem eY {f:Nat->Mv}{n m:Nat}{t:Nat->Int}(h:ap f n=false):ca f n t m=false:=by unfold ca;simp[h]
theorem lB {f:Nat->Mv}{n m:Nat}{t:Nat->Int}(h:m≠n):ca f n t m=false:=by unfold ca;simp[h]
theorem jR {f:Nat->Mv}{n i:Nat}{t:Nat->Int}(hi:i<n)(h:(f i).suits (t i)=false):ca f n t n=false:=by
 rw[Bool.eq_false_iff];intro hh;have hm:ap f n=true:=by cases e:ap f n with|true=>rfl|false=>rw[eY e]at hh;cases hh
 have:=((fB hm).mp hh).1 i hi;rw[h]at this;cases this
theorem nz {f:Nat->Mv}{n i k:Nat}{t:Nat->Int}(hk:k<i)(hi:i<n)(h:(f k).near (f i) (t k) (t i)=true):ca f n t n=false:=by
 rw[Bool.eq_false_iff];intro hh;have hm:ap f n=true:=by cases e:ap f n with|true=>rfl|false=>rw[eY e]at hh;cases hh
 have:=((fB hm).mp hh).2 i k hk hi;rw[h]at this;cases this
theorem nA (f:Nat->Mv)(t:Nat->Int):cZ f t 0:=⟨λ_ h=>absurd h (Nat.not_lt_zero _),λ_ _ _ h=>absurd h (Nat.not_lt_zero _)⟩
theorem te {f:Nat->Mv}{t:Nat->Int}{i:Nat}(h:cZ f t i)(h1:(f i).suits (t i)=true)(h2:∀k,k<i->(f k).near (f i) (t k) (t i)=false):cZ f t (i+1):=by
 refine⟨λj hj=>?_,λj k hk hj=>?_⟩
 .by_cases e:j=i
  .subst e;exact h1
  .exact h.1 j (by omega)
 .by_cases e:j=i
  .subst e;exact h2 k hk
  .exact h.2 j k hk (by omega)
def sumTo (f:Nat->Mv)(t:Nat->Int):Nat->Int
 |0=>0
 |i+1=>sumTo f t i+(t i-(f i).est)
def aX (f:Nat->Mv)(t:Nat->Int):Nat->Int
 |0=>0
 |i+1=>if aX f t i<t i-(f i).est then t i-(f i).est else aX f t i
theorem rr {f:Nat->Mv}{t:Nat->Int}:∀i:Nat,(∀j,j<i->0<=t j-(f j).est/\t j-(f j).est<=10000)->0<=sumTo f t i/\sumTo f t i<=10000*i/\0<=aX f t i/\aX f t i<=10000
 |0,_=>by simp[sumTo,aX]
 |i+1,h=>by
  have h1:=rr i λj hj=>h j (by omega)
  have h2:=h i (by omega);simp only[sumTo,aX];split<;>omega
end Go.Proofs.YtlmcblcijndipaaGreat
