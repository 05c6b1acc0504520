import Derived.Below
namespace Go.Proofs.YtlmcblcijndipabGreatDoor
def sH (n:Int):Bool:=decide (97<=n/\n<=122\/48<=n/\n<=57\/n=45)
def uN (s:ByteArray)(k:Nat):Prop:=∀j (h:j<s.size),j<k->sH (s[j].toNat:Int)=true
def dw (s:ByteArray):Bool:=decide (1<=s.size/\s.size<=8)&&s.data.toList.all λc=>sH (c.toNat:Int)
def dN (n lo hi:Int):Bool:=decide (lo<=n/\n<=hi)
def mq (est late p:Int):Bool:=p==-1||dN p est late
def mt (s:ByteArray)(wake est late p:Int):Bool:=dw s&&dN wake 1 3&&dN est 0 late&&decide (late<=10000)&&mq est late p
theorem oq (s:ByteArray):uN s 0:=λ_ _ h=>absurd h (Nat.not_lt_zero _)
theorem ot {s:ByteArray}{k:Nat}(h:uN s k)(hk:k<s.size)(hb:sH (s[k].toNat:Int)=true):uN s (k+1):=by
 intro j hj hjk;by_cases e:j=k
 .subst e;exact hb
 .exact h j hj (by omega)
theorem tW (s:ByteArray):(s.data.toList.all λc=>sH (c.toNat:Int))=true<->∀j (h:j<s.size),sH (s[j].toNat:Int)=true:=by
 rw[List.all_eq_true];constructor
 .intro h j hj;exact h _ (Array.mem_toList_iff.mpr (Array.getElem_mem (xs:=s.data) (i:=j) hj))
 .intro h c hc;obtain⟨j,hj,rfl⟩:=Array.mem_iff_getElem.mp (Array.mem_toList_iff.mp hc);exact h j hj
theorem ox {s:ByteArray}(h1:1<=s.size)(h2:s.size<=8)(h:uN s s.size):dw s=true:=by
 unfold dw;rw[(tW s).mpr λj hj=>h j hj hj];simp[h1,h2]
theorem mu {s:ByteArray}{k:Nat}(hk:k<s.size)(h:sH (s[k].toNat:Int)=false):dw s=false:=by
 unfold dw;rw[Bool.and_eq_false_iff];right;rw[Bool.eq_false_iff];intro ha;have:=(tW s).mp ha k hk;rw[h]at this;cases this
theorem kY {s:ByteArray}(h:¬1<=s.size):dw s=false:=by
 unfold dw;simp[h]
theorem mw {s:ByteArray}(h:¬s.size<=8):dw s=false:=by
 unfold dw;simp[h]
theorem wF {n:Int}(h:128<=n):sH n=false:=by
 unfold sH;rw[decide_eq_false_iff_not];omega
structure Mv where
 name:ByteArray
 lands:Bool
 wake:Int
 est:Int
 late:Int
 prom:Int
abbrev Mv.cells (m:Mv):Array Value:=#[.string m.name,.bool m.lands,.int .i64 m.wake,.int .i64 m.est,.int .i64 m.late,.int .i64 m.prom]
structure Mv.Fits (m:Mv):Prop where
 name:m.name.size<=maxLen
 wake:(Lit.int .i64 m.wake).wf=true
 est:(Lit.int .i64 m.est).wf=true
 late:(Lit.int .i64 m.late).wf=true
 prom:(Lit.int .i64 m.prom).wf=true
def Mv.ok (m:Mv):Bool:=mt m.name m.wake m.est m.late m.prom
def aY (a b:ByteArray):Bool:=Op.bytesLess a.toList b.toList
def ee (f:Nat->Mv)(i:Nat):Bool:=(f i).ok&&(i==0||aY (f (i-1)).name (f i).name)
def ap (f:Nat->Mv)(n:Nat):Bool:=decide (n<=6)&&(List.range n).all λi=>ee f i
def eG (f:Nat->Mv)(k:Nat):Prop:=∀i,i<k->ee f i=true
theorem eH {f:Nat->Mv}{k:Nat}(h:eG f k)(hk:ee f k=true):eG f (k+1):=by
 intro i hi;by_cases e:i=k
 .subst e;exact hk
 .exact h i (by omega)
theorem jr {f:Nat->Mv}{n:Nat}(h:n<=6)(hs:eG f n):ap f n=true:=by
 unfold ap;simp only[Bool.and_eq_true,decide_eq_true_eq,List.all_eq_true,List.mem_range];exact⟨h,hs⟩
theorem iJ {f:Nat->Mv}{n k:Nat}(hk:k<n)(hs:ee f k=false):ap f n=false:=by
 unfold ap;rw[Bool.and_eq_false_iff];right;rw[Bool.eq_false_iff];intro ha;rw[List.all_eq_true]at ha;have:=ha k (List.mem_range.mpr hk);rw[hs]at this;cases this
theorem kZ {f:Nat->Mv}{n:Nat}(h:¬n<=6):ap f n=false:=by unfold ap;simp[h]
def im (l:Bool)(x y:Int):Int:=(if l then 2 else 1)+(if dN x 1 3&&dN y 1 3&&decide (y<x)then x-y else 0)
theorem ef (l:Bool)(x y:Int):1<=im l x y:=by
 unfold im;cases l<;>simp<;>split<;>omega
theorem lH (l:Bool)(x y:Int):im l x y<=4:=by
 unfold im dN;cases l<;>simp<;>split<;>omega
def gD (x y:Int):Int:=if dN x 1 3&&dN y 1 3&&decide (y<x)then x-y else 0
theorem uO (x y:Int):0<=gD x y/\gD x y<=2:=by
 unfold gD dN;simp;split<;>omega
theorem yE (l:Bool)(x y:Int):im l x y=(if l then 2 else 1)+gD x y:=rfl
def k7 (est late p t:Int):Bool:=dN t est late&&(p==-1||p==t)
def qF (la:Bool)(wa:Int)(lb:Bool)(wb:Int)(s t:Int):Bool:=if t<s then decide (s-t<im lb wb wa)else decide (t-s<im la wa wb)
theorem ft (la:Bool)(wa:Int)(lb:Bool)(wb:Int)(s t:Int):
  (!qF la wa lb wb s t)=if s=t then false else if s<t then decide (im la wa wb<=t-s)else decide (im lb wb wa<=s-t):=by
 have h1:=ef la wa wb;unfold qF;by_cases e:s=t
 .subst e;simp;omega
 .by_cases h:s<t
  .have:¬t<s:=by omega
   rw[if_neg this,if_neg e,if_pos h,Bool.eq_iff_iff];simp
  .have:t<s:=by omega
   rw[if_pos this,if_neg e,if_neg h,Bool.eq_iff_iff];simp
def Mv.gap (a b:Mv):Int:=im a.lands a.wake b.wake
def Mv.suits (m:Mv)(t:Int):Bool:=k7 m.est m.late m.prom t
def Mv.near (a b:Mv)(s t:Int):Bool:=qF a.lands a.wake b.lands b.wake s t
theorem Mv.ok_bd {m:Mv}(h:m.ok=true):0<=m.est/\m.est<=m.late/\m.late<=10000/\(m.prom=-1\/m.est<=m.prom/\m.prom<=m.late)/\1<=m.wake/\m.wake<=3:=by
 unfold Mv.ok mt mq dN at h;simp only[Bool.and_eq_true,Bool.or_eq_true,decide_eq_true_eq,beq_iff_eq]at h;omega
theorem aQ {f:Nat->Mv}{n:Nat}(h:ap f n=true)(i:Nat)(hi:i<n):(f i).ok=true:=by
 unfold ap at h;simp only[Bool.and_eq_true,decide_eq_true_eq,List.all_eq_true,List.mem_range]at h;have:=h.2 i hi;unfold ee at this;simp only[Bool.and_eq_true]at this;exact this.1
theorem aN {f:Nat->Mv}{n:Nat}(h:ap f n=true):n<=6:=by
 unfold ap at h;simp only[Bool.and_eq_true,decide_eq_true_eq]at h;exact h.1
theorem eh {m:Mv}{t:Int}(h:m.suits t=true):m.est<=t/\t<=m.late:=by
 unfold Mv.suits k7 dN at h;simp only[Bool.and_eq_true,decide_eq_true_eq]at h;exact h.1
theorem sI {m:Mv}(h:m.ok=true)(t:Int):m.suits t=(dN t m.est m.late&&!(decide (0<=m.prom)&&t !=m.prom)):=by
 have hb:=Mv.ok_bd h;unfold Mv.suits k7 dN;rw[Bool.eq_iff_iff];simp;omega
def dm (f:Nat->Mv)(t:Nat->Int)(i:Nat):Prop:=(∀j,j<i->(f j).suits (t j)=true)/\∀j k,k<j->j<i->(f k).near (f j) (t k) (t j)=false
def bz (f:Nat->Mv)(n:Nat)(t:Nat->Int)(m:Nat):Bool:=
 ap f n&&decide (m=n)&&((List.range n).all λi=>(f i).suits (t i)&&(List.range i).all λk=>!(f k).near (f i) (t k) (t i))
theorem fT {f:Nat->Mv}{n:Nat}{t:Nat->Int}(h:ap f n=true):bz f n t n=true<->dm f t n:=by
 unfold bz dm;simp only[h,decide_true,Bool.true_and,List.all_eq_true,List.mem_range,Bool.and_eq_true,Bool.not_eq_true'];constructor
 .intro h;exact⟨λj hj=>(h j hj).1,λj k hk hj=>(h j hj).2 k hk⟩
 .intro h i hi;exact⟨h.1 i hi,λk hk=>h.2 i k hk hi⟩
theorem em {f:Nat->Mv}{n m:Nat}{t:Nat->Int}(h:ap f n=false):bz f n t m=false:=by unfold bz;simp[h]
theorem kD {f:Nat->Mv}{n m:Nat}{t:Nat->Int}(h:m≠n):bz f n t m=false:=by unfold bz;simp[h]
theorem jt {f:Nat->Mv}{n i:Nat}{t:Nat->Int}(hi:i<n)(h:(f i).suits (t i)=false):bz f n t n=false:=by
 rw[Bool.eq_false_iff];intro hh;have hm:ap f n=true:=by cases e:ap f n with|true=>rfl|false=>rw[em e]at hh;cases hh
 have:=((fT hm).mp hh).1 i hi;rw[h]at this;cases this
theorem mA {f:Nat->Mv}{n i k:Nat}{t:Nat->Int}(hk:k<i)(hi:i<n)(h:(f k).near (f i) (t k) (t i)=true):bz f n t n=false:=by
 rw[Bool.eq_false_iff];intro hh;have hm:ap f n=true:=by cases e:ap f n with|true=>rfl|false=>rw[em e]at hh;cases hh
 have:=((fT hm).mp hh).2 i k hk hi;rw[h]at this;cases this
theorem sJ (f:Nat->Mv)(t:Nat->Int):dm f t 0:=⟨λ_ h=>absurd h (Nat.not_lt_zero _),λ_ _ _ h=>absurd h (Nat.not_lt_zero _)⟩
theorem sK {f:Nat->Mv}{t:Nat->Int}{i:Nat}(h:dm f t i)(h1:(f i).suits (t i)=true)(h2:∀k,k<i->(f k).near (f i) (t k) (t i)=false):dm f t (i+1):=by
 refine⟨λj hj=>?_,λj k hk hj=>?_⟩
 .by_cases e:j=i
  .subst e;exact h1
  .exact h.1 j (by omega)
 .by_cases e:j=i
  .subst e;exact h2 k hk
  .exact h.2 j k hk (by omega)
def sumTo (f:Nat->Mv)(t:Nat->Int):Nat->Int
 |0=>0
 |i+1=>sumTo f t i+(t i-(f i).est)
def aO (f:Nat->Mv)(t:Nat->Int):Nat->Int
 |0=>0
 |i+1=>if aO f t i<t i-(f i).est then t i-(f i).est else aO f t i
theorem qG {f:Nat->Mv}{t:Nat->Int}:∀i:Nat,(∀j,j<i->0<=t j-(f j).est/\t j-(f j).est<=10000)->0<=sumTo f t i/\sumTo f t i<=10000*i/\0<=aO f t i/\aO f t i<=10000
 |0,_=>by simp[sumTo,aO]
 |i+1,h=>by
  have h1:=qG i λj hj=>h j (by omega)
  have h2:=h i (by omega);simp only[sumTo,aO];split<;>omega
end Go.Proofs.YtlmcblcijndipabGreatDoor
