import Derived.Test.YtjoalkgmgmmedaaGreatDoorj00
import Derived.Below
set_option linter.defProp false
open Bool renaming eq_false_iff->aa
namespace Go.Proofs.YtjoalkgmgmmedaaGreatDoor
open RowKit
def aD (w:World)(b off n:Nat)(g:Nat->Int):Prop:=∀i,i<n->w.cell? ⟨b,off+i,none⟩=some (.int .i64<|g i)
def eR (w:World)(a:Option Addr)(n:Nat)(g:Nat->Int):Prop:=n=0\/∃b c,a=some ⟨b,c,none⟩/\aD w b c n g
structure aX where
 ok:Bool
 sum:Int
 most:Int
 a:Option Addr
 n:Nat
 cap:Nat
 g:Nat->Int
def aX.val (x:aX):Value:=.agg #[x.ok,x.sum,x.most,.slice x.a x.n x.cap]
def eY:aX:=⟨false,0,0,none,0,0,λ_=>0⟩
def aX.cells (x:aX):List Value:=[x.ok,x.sum,x.most,.slice x.a x.n x.cap]
section
variable {s:ByteArray}{k n:Nat}
def okB (n:Int):Bool:=decide (97<=n/\n<=122\/48<=n/\n<=57\/n=45)
def MY (s:ByteArray)(k:Nat):Prop:=∀j (h:j<s.size),j<k->okB (s[j].toNat:Int)
def jF (s:ByteArray):Bool:=decide (1<=s.size/\s.size<=8)&&s.data.toList.all λc=>okB c.toNat
def jj (n a b:Int):Bool:=decide (a<=n/\n<=b)
def Ah (b a p:Int):Bool:=p==-1||jj p b a
def moveB (s:ByteArray)(c b a p:Int):Bool:=jF s&&jj c 1 3&&jj b 0 a&&decide (a<=10000)&&Ah b a p
def CK (s):MY s 0:=λ_ _ h=>absurd h<|afO _
def CJ (h:MY s k)(c)(d:okB (s[k].toNat:Int)):MY s (k+1):=by
 intro j a b;by_cases e:j=k
 .grind
 exact h j a ab
def Ky (s:ByteArray):(s.data.toList.all λc=>okB c.toNat)<->∀j (h:j<s.size),okB (s[j].toNat:Int):=by
 rw[List.all_eq_true];constructor
 .exact λh j e=>h _<|Array.mem_toList_iff.mpr<|Array.getElem_mem e
 intro h c hc;obtain⟨j,e,rfl⟩:=Array.mem_iff_getElem.mp<|Array.mem_toList_iff.mp hc;exact h j e
def CI (b:1<=s.size)(c:s.size<=8)(h:MY s s.size):jF s:=by
 unfold jF;rw[(Ky s).mpr λj a=>h j a a];grind
def zX (a)(h:okB (s[k].toNat:Int)=false):jF s=false:=by
 unfold jF;rw[Bool.and_eq_false_iff];right;rw[aa];intro b;have:=(Ky s).mp b k a;grind
def wT (h:¬1<=s.size):jF s=false:=by
 grind [jF]
def zW (h:¬s.size<=8):jF s=false:=by
 grind [jF]
def QE {n}(h:128<=n):okB n=false:=by
 unfold okB;grind
structure Mv where
 name:ByteArray
 ax:Bool
 aI:Int
 cE:Int
 late:Int
 prom:Int
abbrev Mv.cells (m:Mv):Array Value:=#[m.name,m.ax,m.aI,m.cE,m.late,m.prom]
structure Mv.Fits (m:Mv):Prop where
 name:m.name.size<=maxLen
 aI:(Lit.int .i64 m.aI).wf
 cE:(Lit.int .i64 m.cE).wf
 late:(Lit.int .i64 m.late).wf
 prom:(Lit.int .i64 m.prom).wf
def Mv.ok (m:Mv):Bool:=moveB m.name m.aI m.cE m.late m.prom
def cr (a b:ByteArray):Bool:=Op.bytesLess a.toList b.toList
def iV (f:Nat->Mv)(i:Nat):Bool:=(f i).ok&&(i==0||cr (f<|i-1).name (f i).name)
def aG (f:Nat->Mv)(n:Nat):Bool:=decide (n<=6)&&(List.range n).all λi=>iV f i
def lj (f:Nat->Mv)(k:Nat):Prop:=∀i,i<k->iV f i
def ll {f}(h:lj f k)(hk:iV f k):lj f (k+1):=by
 intro i r;by_cases e:i=k
 .grind
 exact h i ab
def mf {f}(h:n<=6)(hs:lj f n):aG f n:=by
 unfold aG;simp;exact⟨h,hs⟩
def ru {f}(hk:k<n)(hs:iV f k=false):aG f n=false:=by
 unfold aG;grind
def wR {f}(h:¬n<=6):aG f n=false:=by unfold aG;simp[h]
set_option linter.defProp false
def afB:=@Go.RowKit.Below.refl
def afC:=@Go.RowKit.Below.heap_alloc
def afD:=@Go.RowKit.Below.heap_setCell
def afE:=@Go.RowKit.Below.setCell
def afF:=@Go.RowKit.Below.alloc
def afG:=@Go.World.size_alloc
def afH:=@Go.World.cell?_of_block
end
section
variable {m:Mv}{f:Nat->Mv}{n i:Nat}{t:Nat->Int}
def rP (l:Bool)(x y:Int):Int:=(if l then 2 else 1)+(if jj x 1 3&&jj y 1 3&&decide (y<x)then x-y else 0)
def ky (l x y):1<=rP l x y:=by
 grind [rP]
def xO (l x y):rP l x y<=4:=by
 grind [rP,jj]
def sP (x y:Int):Int:=if jj x 1 3&&jj y 1 3&&decide (y<x)then x-y else 0
def Ms (x y):0<=sP x y/\sP x y<=2:=by
 grind [sP,jj]
theorem TN (l x y):rP l x y=(if l then 2 else 1)+sP x y:=rfl
def AH (b a p t:Int):Bool:=jj t b a&&(p==-1||p==t)
def Gp (c:Bool)(a:Int)(d:Bool)(b:Int)(s t:Int):Bool:=if t<s then decide (s-t<rP d b a)else decide (t-s<rP c a b)
def kC (c) a (d) b (s t):
  (!Gp c a d b s t)=if s=t then false else if s<t then decide (rP c a b<=t-s)else decide (rP d b a<=s-t):=by
 have e:=ky c a b;unfold Gp;grind
def Mv.pO (a b:Mv):Int:=rP a.ax a.aI b.aI
def Mv.ga (m:Mv)(t:Int):Bool:=AH m.cE m.late m.prom t
def Mv.iJ (a b:Mv)(s t:Int):Bool:=Gp a.ax a.aI b.ax b.aI s t
def Mv.gj (h:m.ok):0<=m.cE/\m.cE<=m.late/\m.late<=10000/\(m.prom=-1\/m.cE<=m.prom/\m.prom<=m.late)/\1<=m.aI/\m.aI<=3:=by
 unfold Mv.ok moveB Ah jj at h;grind
def bd (h:aG f n) i (r:i<n):(f i).ok:=by
 simp_all [aG,iV]
def bX (h:aG f n):n<=6:=by
 unfold aG at h;grind
def iA {t}(h:m.ga t):m.cE<=t/\t<=m.late:=by
 unfold Mv.ga AH jj at h;grind
def J6 (h:m.ok) t:m.ga t=(jj t m.cE m.late&&!(decide (0<=m.prom)&&t !=m.prom)):=by
 have a:=Mv.gj h;unfold Mv.ga AH jj;grind
def fX (f:Nat->Mv)(t:Nat->Int)(i:Nat):Prop:=(∀j,j<i->(f j).ga (t j))/\∀j k,k<j->j<i->(f k).iJ (f j) (t k) (t j)=false
def er (f:Nat->Mv)(n:Nat)(t:Nat->Int)(m:Nat):Bool:=
 aG f n&&decide (m=n)&&((List.range n).all λi=>(f i).ga (t i)&&(List.range i).all λk=>!(f k).iJ (f i) (t k) (t i))
def fN (h:aG f n):er f n t n<->fX f t n:=by
 unfold er fX;grind
theorem iO {m}(h:aG f n=false):er f n t m=false:=by unfold er;simp[h]
theorem ri {m}(h:m≠n):er f n t m=false:=by unfold er;simp[h]
def zc (u:i<n)(h:(f i).ga (t i)=false):er f n t n=false:=by
 rw[aa];intro r;have v:aG f n=true:=by cases e:aG f n with|true=>rfl|false=>rw[iO e]at r;cases r
 have:=((fN v).mp r).1 i u;grind
def za {k}(hk:k<i)(u:i<n)(h:(f k).iJ (f i) (t k) (t i)):er f n t n=false:=by
 rw[aa];intro r;have v:aG f n=true:=by cases e:aG f n with|true=>rfl|false=>rw[iO e]at r;cases r
 have:=((fN v).mp r).2 i k hk u;grind
def yz (f t):fX f t 0:=⟨λ_ h=>absurd h<|afO _,λ_ _ _ h=>absurd h<|afO _⟩
def Ia (h:fX f t i)(u:(f i).ga (t i))(v:∀k,k<i->(f k).iJ (f i) (t k) (t i)=false):fX f t (i+1):=by
 refine⟨λj r=>?_,λj k hk r=>?_⟩
 .by_cases e:j=i
  .grind
  exact h.1 j ab
 by_cases e:j=i
 .grind
 exact h.2 j k hk ab
def sumTo (f:Nat->Mv)(t:Nat->Int):Nat->Int
 |0=>0
 |i+1=>sumTo f t i+(t i-(f i).cE)
def cZ (f:Nat->Mv)(t:Nat->Int):Nat->Int
 |0=>0
 |i+1=>if cZ f t i<t i-(f i).cE then t i-(f i).cE else cZ f t i
def Hj:∀i,(∀j,j<i->0<=t j-(f j).cE/\t j-(f j).cE<=10000)->0<=sumTo f t i/\sumTo f t i<=10000*i/\0<=cZ f t i/\cZ f t i<=10000
 |0,_=>by simp[sumTo,cZ]
 |i+1,h=>by
  have r:=Hj i λj u=>h j ab
  have v:=h i ab;simp only[sumTo,cZ];split<;>omega
