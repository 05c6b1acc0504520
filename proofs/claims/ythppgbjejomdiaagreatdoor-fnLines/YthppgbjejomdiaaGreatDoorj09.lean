import Derived.Test.YthppgbjejomdiaaGreatDoorj00
import Derived.Below
set_option linter.all false
open Bool renaming eq_false_iff->aa
namespace Go.Proofs.YthppgbjejomdiaaGreatDoor
open RowKit
def aD (w:World)(b off n:Nat)(g:Nat->Int):Prop:=∀i,i<n->w.cell? ⟨b,off+i,none⟩=some (.int .i64<|g i)
def eX (w:World)(a:Option Addr)(n:Nat)(g:Nat->Int):Prop:=n=0\/∃b c,a=some ⟨b,c,none⟩/\aD w b c n g
structure aX where
 ok:Bool
 sum:Int
 most:Int
 a:Option Addr
 n:Nat
 cap:Nat
 g:Nat->Int
def aX.val (x:aX):Value:=.agg #[x.ok,x.sum,x.most,.slice x.a x.n x.cap]
def ff:aX:=⟨false,0,0,none,0,0,λ_=>0⟩
def aX.cells (x:aX):List Value:=[x.ok,x.sum,x.most,.slice x.a x.n x.cap]
section
variable {s:ByteArray}{k n:Nat}
def okB (n:Int):Bool:=decide (97<=n/\n<=122\/48<=n/\n<=57\/n=45)
def NJ (s:ByteArray)(k:Nat):Prop:=∀j (h:j<s.size),j<k->okB (s[j].toNat:Int)
def jL (s:ByteArray):Bool:=decide (1<=s.size/\s.size<=8)&&s.data.toList.all λc=>okB c.toNat
def jr (n a b:Int):Bool:=decide (a<=n/\n<=b)
def AB (b a p:Int):Bool:=p==-1||jr p b a
def moveB (s:ByteArray)(c b a p:Int):Bool:=jL s&&jr c 1 3&&jr b 0 a&&decide (a<=10000)&&AB b a p
def C9 (s):NJ s 0:=λ_ _ h=>absurd h<|agA _
def C8 (h:NJ s k)(c)(d:okB (s[k].toNat:Int)):NJ s (k+1):=by intro j a b;by_cases e:j=k;grind;exact h j a ab
def K6 (s:ByteArray):(s.data.toList.all λc=>okB c.toNat)<->∀j (h:j<s.size),okB (s[j].toNat:Int):=by rw[List.all_eq_true];constructor;exact λh j e=>h _<|Array.mem_toList_iff.mpr<|Array.getElem_mem e;intro h c hc;obtain⟨j,e,rfl⟩:=Array.mem_iff_getElem.mp<|Array.mem_toList_iff.mp hc;exact h j e
def C7 (b:1<=s.size)(c:s.size<=8)(h:NJ s s.size):jL s:=by unfold jL;rw[(K6 s).mpr λj a=>h j a a];grind
def As (a)(h:okB (s[k].toNat:Int)=false):jL s=false:=by unfold jL;rw[Bool.and_eq_false_iff];right;rw[aa];intro b;have:=(K6 s).mp b k a;grind
def xw (h:¬1<=s.size):jL s=false:=by grind [jL]
def Ar (h:¬s.size<=8):jL s=false:=by grind [jL]
def Rl {n}(h:128<=n):okB n=false:=by unfold okB;grind
structure Mv where
 name:ByteArray
 ax:Bool
 aI:Int
 cj:Int
 late:Int
 prom:Int
abbrev Mv.cells (m:Mv):Array Value:=#[m.name,m.ax,m.aI,m.cj,m.late,m.prom]
structure Mv.Fits (m:Mv):Prop where
 name:m.name.size<=maxLen
 aI:(Lit.int .i64 m.aI).wf
 cj:(Lit.int .i64 m.cj).wf
 late:(Lit.int .i64 m.late).wf
 prom:(Lit.int .i64 m.prom).wf
def Mv.ok (m:Mv):Bool:=moveB m.name m.aI m.cj m.late m.prom
def cG (a b:ByteArray):Bool:=Op.bytesLess a.toList b.toList
def jb (f:Nat->Mv)(i:Nat):Bool:=(f i).ok&&(i==0||cG (f<|i-1).name (f i).name)
def aH (f:Nat->Mv)(n:Nat):Bool:=decide (n<=6)&&(List.range n).all λi=>jb f i
def lD (f:Nat->Mv)(k:Nat):Prop:=∀i,i<k->jb f i
def lE {f}(h:lD f k)(hk:jb f k):lD f (k+1):=by intro i r;by_cases e:i=k;grind;exact h i ab
def mo {f}(h:n<=6)(hs:lD f n):aH f n:=by unfold aH;simp;exact⟨h,hs⟩
def rG {f}(hk:k<n)(hs:jb f k=false):aH f n=false:=by unfold aH;grind
def xv {f}(h:¬n<=6):aH f n=false:=by unfold aH;simp[h]
def agn:=@Go.RowKit.Below.refl
def ago:=@Go.RowKit.Below.heap_alloc
def agp:=@Go.RowKit.Below.heap_setCell
def agq:=@Go.RowKit.Below.setCell
def agr:=@Go.RowKit.Below.alloc
def ags:=@Go.World.size_alloc
def agt:=@Go.World.cell?_of_block
end
section
variable {m:Mv}{f:Nat->Mv}{n i:Nat}{t:Nat->Int}
def sd (l:Bool)(x y:Int):Int:=(if l then 2 else 1)+(if jr x 1 3&&jr y 1 3&&decide (y<x)then x-y else 0)
def kI (l x y):1<=sd l x y:=by grind [sd]
def yk (l x y):sd l x y<=4:=by grind [sd,jr]
def td (x y:Int):Int:=if jr x 1 3&&jr y 1 3&&decide (y<x)then x-y else 0
def Nd (x y):0<=td x y/\td x y<=2:=by grind [td,jr]
theorem Us (l x y):sd l x y=(if l then 2 else 1)+td x y:=rfl
def A0 (b a p t:Int):Bool:=jr t b a&&(p==-1||p==t)
def GQ (c:Bool)(a:Int)(d:Bool)(b:Int)(s t:Int):Bool:=if t<s then decide (s-t<sd d b a)else decide (t-s<sd c a b)
def kL (c) a (d) b (s t): (!GQ c a d b s t)=if s=t then false else if s<t then decide (sd c a b<=t-s)else decide (sd d b a<=s-t):=by have e:=kI c a b;unfold GQ;grind
def Mv.pY (a b:Mv):Int:=sd a.ax a.aI b.aI
def Mv.ge (m:Mv)(t:Int):Bool:=A0 m.cj m.late m.prom t
def Mv.iO (a b:Mv)(s t:Int):Bool:=GQ a.ax a.aI b.ax b.aI s t
def Mv.gp (h:m.ok):0<=m.cj/\m.cj<=m.late/\m.late<=10000/\(m.prom=-1\/m.cj<=m.prom/\m.prom<=m.late)/\1<=m.aI/\m.aI<=3:=by unfold Mv.ok moveB AB jr at h;grind
def bf (h:aH f n) i (r:i<n):(f i).ok:=by simp_all [aH,jb]
def bY (h:aH f n):n<=6:=by unfold aH at h;grind
def iE {t}(h:m.ge t):m.cj<=t/\t<=m.late:=by unfold Mv.ge A0 jr at h;grind
def KG (h:m.ok) t:m.ge t=(jr t m.cj m.late&&!(decide (0<=m.prom)&&t !=m.prom)):=by have a:=Mv.gp h;unfold Mv.ge A0 jr;grind
def ga (f:Nat->Mv)(t:Nat->Int)(i:Nat):Prop:=(∀j,j<i->(f j).ge (t j))/\∀j k,k<j->j<i->(f k).iO (f j) (t k) (t j)=false
def eB (f:Nat->Mv)(n:Nat)(t:Nat->Int)(m:Nat):Bool:=
 aH f n&&decide (m=n)&&((List.range n).all λi=>(f i).ge (t i)&&(List.range i).all λk=>!(f k).iO (f i) (t k) (t i))
def fS (h:aH f n):eB f n t n<->ga f t n:=by unfold eB ga;grind
theorem iT {m}(h:aH f n=false):eB f n t m=false:=by unfold eB;simp[h]
theorem rC {m}(h:m≠n):eB f n t m=false:=by unfold eB;simp[h]
def zv (u:i<n)(h:(f i).ge (t i)=false):eB f n t n=false:=by
 rw[aa];intro r;have v:aH f n=true:=by cases e:aH f n with|true=>rfl|false=>rw[iT e]at r;cases r
 have:=((fS v).mp r).1 i u;grind
def zu {k}(hk:k<i)(u:i<n)(h:(f k).iO (f i) (t k) (t i)):eB f n t n=false:=by
 rw[aa];intro r;have v:aH f n=true:=by cases e:aH f n with|true=>rfl|false=>rw[iT e]at r;cases r
 have:=((fS v).mp r).2 i k hk u;grind
def yN (f t):ga f t 0:=⟨λ_ h=>absurd h<|agA _,λ_ _ _ h=>absurd h<|agA _⟩
def IJ (h:ga f t i)(u:(f i).ge (t i))(v:∀k,k<i->(f k).iO (f i) (t k) (t i)=false):ga f t (i+1):=by refine⟨λj r=>?_,λj k hk r=>?_⟩;by_cases e:j=i;grind;exact h.1 j ab;by_cases e:j=i;grind;exact h.2 j k hk ab
def sumTo (f:Nat->Mv)(t:Nat->Int):Nat->Int
 |0=>0
 |i+1=>sumTo f t i+(t i-(f i).cj)
def dg (f:Nat->Mv)(t:Nat->Int):Nat->Int
 |0=>0
 |i+1=>if dg f t i<t i-(f i).cj then t i-(f i).cj else dg f t i
def If:∀i,(∀j,j<i->0<=t j-(f j).cj/\t j-(f j).cj<=10000)->0<=sumTo f t i/\sumTo f t i<=10000*i/\0<=dg f t i/\dg f t i<=10000
 |0,_=>by simp[sumTo,dg]
 |i+1,h=>by
  have r:=If i λj u=>h j ab
  have v:=h i ab;simp only[sumTo,dg];split<;>omega
