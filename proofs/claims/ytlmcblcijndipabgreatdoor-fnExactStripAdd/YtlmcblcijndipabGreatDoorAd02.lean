import Derived.Test.YtlmcblcijndipabGreatDoorAd00
import Derived.Below
namespace Go.Proofs.YtlmcblcijndipabGreatDoor
def ux (n:Int):Bool:=decide (97<=n/\n<=122\/48<=n/\n<=57\/n=45)
def xl (s:ByteArray)(k:Nat):Prop:=∀j (h:j<s.size),j<k->ux (s[j].toNat:Int)=true
def dD (s:ByteArray):Bool:=decide (1<=s.size/\s.size<=8)&&s.data.toList.all λc=>ux (c.toNat:Int)
def dN (n lo hi:Int):Bool:=decide (lo<=n/\n<=hi)
def nz (est late p:Int):Bool:=p==-1||dN p est late
def mw (s:ByteArray)(wake est late p:Int):Bool:=dD s&&dN wake 1 3&&dN est 0 late&&decide (late<=10000)&&nz est late p
theorem pO (s:ByteArray):xl s 0:=λ_ _ h=>absurd h (Gr _)
theorem pP {s:ByteArray}{k:Nat}(h:xl s k)(hk:k<s.size)(hb:ux (s[k].toNat:Int)=true):xl s (k+1):=by
 intro j hj hjk;by_cases e:j=k
 .subst e;exact hb
 .exact h j hj (by omega)
theorem we (s:ByteArray):(s.data.toList.all λc=>ux (c.toNat:Int))=true<->∀j (h:j<s.size),ux (s[j].toNat:Int)=true:=by
 rw[List.all_eq_true];constructor
 .intro h j hj;exact h _ (Array.mem_toList_iff.mpr (Array.getElem_mem (xs:=s.data) (i:=j) hj))
 .intro h c hc;obtain⟨j,hj,rfl⟩:=Array.mem_iff_getElem.mp (Array.mem_toList_iff.mp hc);exact h j hj
theorem pQ {s:ByteArray}(h1:1<=s.size)(h2:s.size<=8)(h:xl s s.size):dD s=true:=by
 unfold dD;rw[(we s).mpr λj hj=>h j hj hj];simp[h1,h2]
theorem nA {s:ByteArray}{k:Nat}(hk:k<s.size)(h:ux (s[k].toNat:Int)=false):dD s=false:=by
 unfold dD;rw[Bool.and_eq_false_iff];right;rw[Bool.eq_false_iff];intro ha;have:=(we s).mp ha k hk;rw[h]at this;cases this
theorem my {s:ByteArray}(h:¬1<=s.size):dD s=false:=by
 unfold dD;simp[h]
theorem nB {s:ByteArray}(h:¬s.size<=8):dD s=false:=by
 unfold dD;simp[h]
theorem yO {n:Int}(h:128<=n):ux n=false:=by
 unfold ux;rw[decide_eq_false_iff_not];omega
structure Mv where
 name:ByteArray
 lands:Bool
 wake:Int
 est:Int
 late:Int
 prom:Int
abbrev Mv.cells (m:Mv):Array Value:=#[.string m.name,.bool m.lands,.int .i64 m.wake,.int .i64 m.est,.int .i64 m.late,.int .i64 m.prom]
structure Mv.Fits (m:Mv):Prop where
 name:m.name.size<=maxLen
 wake:(Lit.int .i64 m.wake).wf=true
 est:(Lit.int .i64 m.est).wf=true
 late:(Lit.int .i64 m.late).wf=true
 prom:(Lit.int .i64 m.prom).wf=true
def Mv.ok (m:Mv):Bool:=mw m.name m.wake m.est m.late m.prom
def aO (a b:ByteArray):Bool:=Op.bytesLess a.toList b.toList
def dP (f:Nat->Mv)(i:Nat):Bool:=(f i).ok&&(i==0||aO (f (i-1)).name (f i).name)
def aw (f:Nat->Mv)(n:Nat):Bool:=decide (n<=6)&&(List.range n).all λi=>dP f i
def fy (f:Nat->Mv)(k:Nat):Prop:=∀i,i<k->dP f i=true
theorem fA {f:Nat->Mv}{k:Nat}(h:fy f k)(hk:dP f k=true):fy f (k+1):=by
 intro i hi;by_cases e:i=k
 .subst e;exact hk
 .exact h i (by omega)
theorem fJ {f:Nat->Mv}{n:Nat}(h:n<=6)(hs:fy f n):aw f n=true:=by
 unfold aw;simp only[Bool.and_eq_true,decide_eq_true_eq,List.all_eq_true,List.mem_range];exact⟨h,hs⟩
theorem jB {f:Nat->Mv}{n k:Nat}(hk:k<n)(hs:dP f k=false):aw f n=false:=by
 unfold aw;rw[Bool.and_eq_false_iff];right;rw[Bool.eq_false_iff];intro ha;rw[List.all_eq_true]at ha;have:=ha k (List.mem_range.mpr hk);rw[hs]at this;cases this
theorem mz {f:Nat->Mv}{n:Nat}(h:¬n<=6):aw f n=false:=by unfold aw;simp[h]
set_option linter.defProp false
def Gb:=@Go.RowKit.Below.refl
def Gc:=@Go.RowKit.Below.heap_alloc
def Gd:=@Go.RowKit.Below.heap_setCell
def Ge:=@Go.RowKit.Below.setCell
def Gf:=@Go.RowKit.Below.alloc
def Gg:=@Go.World.size_alloc
def Gi:=@Go.World.cell?_of_block
def Gk:=@Go.World.cell?_alloc_lt
end Go.Proofs.YtlmcblcijndipabGreatDoor
namespace Go.Proofs.YtlmcblcijndipabGreatDoor
def iT (l:Bool)(x y:Int):Int:=(if l then 2 else 1)+(if dN x 1 3&&dN y 1 3&&decide (y<x)then x-y else 0)
theorem eY (l:Bool)(x y:Int):1<=iT l x y:=by
 unfold iT;cases l<;>simp<;>split<;>omega
theorem nk (l:Bool)(x y:Int):iT l x y<=4:=by
 unfold iT dN;cases l<;>simp<;>split<;>omega
def ip (x y:Int):Int:=if dN x 1 3&&dN y 1 3&&decide (y<x)then x-y else 0
theorem xu (x y:Int):0<=ip x y/\ip x y<=2:=by
 unfold ip dN;simp;split<;>omega
theorem AP (l:Bool)(x y:Int):iT l x y=(if l then 2 else 1)+ip x y:=rfl
def mE (est late p t:Int):Bool:=dN t est late&&(p==-1||p==t)
def sL (la:Bool)(wa:Int)(lb:Bool)(wb:Int)(s t:Int):Bool:=if t<s then decide (s-t<iT lb wb wa)else decide (t-s<iT la wa wb)
theorem gi (la:Bool)(wa:Int)(lb:Bool)(wb:Int)(s t:Int):
  (!sL la wa lb wb s t)=if s=t then false else if s<t then decide (iT la wa wb<=t-s)else decide (iT lb wb wa<=s-t):=by
 have h1:=eY la wa wb;unfold sL;by_cases e:s=t
 .subst e;simp;omega
 .by_cases h:s<t
  .have:¬t<s:=by omega
   rw[if_neg this,if_neg e,if_pos h,Bool.eq_iff_iff];simp
  .have:t<s:=by omega
   rw[if_pos this,if_neg e,if_neg h,Bool.eq_iff_iff];simp
def Mv.gap (a b:Mv):Int:=iT a.lands a.wake b.wake
def Mv.suits (m:Mv)(t:Int):Bool:=mE m.est m.late m.prom t
def Mv.near (a b:Mv)(s t:Int):Bool:=sL a.lands a.wake b.lands b.wake s t
theorem Mv.ok_bd {m:Mv}(h:m.ok=true):0<=m.est/\m.est<=m.late/\m.late<=10000/\(m.prom=-1\/m.est<=m.prom/\m.prom<=m.late)/\1<=m.wake/\m.wake<=3:=by
 unfold Mv.ok mw nz dN at h;simp only[Bool.and_eq_true,Bool.or_eq_true,decide_eq_true_eq,beq_iff_eq]at h;omega
theorem aS {f:Nat->Mv}{n:Nat}(h:aw f n=true)(i:Nat)(hi:i<n):(f i).ok=true:=by
 unfold aw at h;simp only[Bool.and_eq_true,decide_eq_true_eq,List.all_eq_true,List.mem_range]at h;have:=h.2 i hi;unfold dP at this;simp only[Bool.and_eq_true]at this;exact this.1
theorem aN {f:Nat->Mv}{n:Nat}(h:aw f n=true):n<=6:=by
 unfold aw at h;simp only[Bool.and_eq_true,decide_eq_true_eq]at h;exact h.1
theorem eZ {m:Mv}{t:Int}(h:m.suits t=true):m.est<=t/\t<=m.late:=by
 unfold Mv.suits mE dN at h;simp only[Bool.and_eq_true,decide_eq_true_eq]at h;exact h.1
theorem uz {m:Mv}(h:m.ok=true)(t:Int):m.suits t=(dN t m.est m.late&&!(decide (0<=m.prom)&&t !=m.prom)):=by
 have hb:=Mv.ok_bd h;unfold Mv.suits mE dN;rw[Bool.eq_iff_iff];simp;omega
def dU (f:Nat->Mv)(t:Nat->Int)(i:Nat):Prop:=(∀j,j<i->(f j).suits (t j)=true)/\∀j k,k<j->j<i->(f k).near (f j) (t k) (t j)=false
def bL (f:Nat->Mv)(n:Nat)(t:Nat->Int)(m:Nat):Bool:=
 aw f n&&decide (m=n)&&((List.range n).all λi=>(f i).suits (t i)&&(List.range i).all λk=>!(f k).near (f i) (t k) (t i))
theorem gH {f:Nat->Mv}{n:Nat}{t:Nat->Int}(h:aw f n=true):bL f n t n=true<->dU f t n:=by
 unfold bL dU;simp only[h,decide_true,Bool.true_and,List.all_eq_true,List.mem_range,Bool.and_eq_true,Bool.not_eq_true'];constructor
 .intro h;exact⟨λj hj=>(h j hj).1,λj k hk hj=>(h j hj).2 k hk⟩
 .intro h i hi;exact⟨h.1 i hi,λk hk=>h.2 i k hk hi⟩
theorem fc {f:Nat->Mv}{n m:Nat}{t:Nat->Int}(h:aw f n=false):bL f n t m=false:=by unfold bL;simp[h]
theorem lG {f:Nat->Mv}{n m:Nat}{t:Nat->Int}(h:m≠n):bL f n t m=false:=by unfold bL;simp[h]
theorem kg {f:Nat->Mv}{n i:Nat}{t:Nat->Int}(hi:i<n)(h:(f i).suits (t i)=false):bL f n t n=false:=by
 rw[Bool.eq_false_iff];intro hh;have hm:aw f n=true:=by cases e:aw f n with|true=>rfl|false=>rw[fc e]at hh;cases hh
 have:=((gH hm).mp hh).1 i hi;rw[h]at this;cases this
theorem nG {f:Nat->Mv}{n i k:Nat}{t:Nat->Int}(hk:k<i)(hi:i<n)(h:(f k).near (f i) (t k) (t i)=true):bL f n t n=false:=by
 rw[Bool.eq_false_iff];intro hh;have hm:aw f n=true:=by cases e:aw f n with|true=>rfl|false=>rw[fc e]at hh;cases hh
 have:=((gH hm).mp hh).2 i k hk hi;rw[h]at this;cases this
theorem uA (f:Nat->Mv)(t:Nat->Int):dU f t 0:=⟨λ_ h=>absurd h (Gr _),λ_ _ _ h=>absurd h (Gr _)⟩
theorem uB {f:Nat->Mv}{t:Nat->Int}{i:Nat}(h:dU f t i)(h1:(f i).suits (t i)=true)(h2:∀k,k<i->(f k).near (f i) (t k) (t i)=false):dU f t (i+1):=by
 refine⟨λj hj=>?_,λj k hk hj=>?_⟩
 .by_cases e:j=i
  .subst e;exact h1
  .exact h.1 j (by omega)
 .by_cases e:j=i
  .subst e;exact h2 k hk
  .exact h.2 j k hk (by omega)
def sumTo (f:Nat->Mv)(t:Nat->Int):Nat->Int
 |0=>0
 |i+1=>sumTo f t i+(t i-(f i).est)
def ba (f:Nat->Mv)(t:Nat->Int):Nat->Int
 |0=>0
 |i+1=>if ba f t i<t i-(f i).est then t i-(f i).est else ba f t i
theorem sN {f:Nat->Mv}{t:Nat->Int}:∀i:Nat,(∀j,j<i->0<=t j-(f j).est/\t j-(f j).est<=10000)->0<=sumTo f t i/\sumTo f t i<=10000*i/\0<=ba f t i/\ba f t i<=10000
 |0,_=>by simp[sumTo,ba]
 |i+1,h=>by
  have h1:=sN i λj hj=>h j (by omega)
  have h2:=h i (by omega);simp only[sumTo,ba];split<;>omega
