import Derived.Test.YtlmcblcijndipaaGreatDoorj00
import Derived.Below
namespace Go.Proofs.YtlmcblcijndipaaGreatDoor
variable {s:ByteArray}{k n:Nat}
def D6 (n:Int):Bool:=decide (97<=n/\n<=122\/48<=n/\n<=57\/n=45)
def IU (s:ByteArray)(k:Nat):Prop:=∀j (h:j<s.size),j<k->D6 (s[j].toNat:Int)=true
def gM (s:ByteArray):Bool:=decide (1<=s.size/\s.size<=8)&&s.data.toList.all λc=>D6 (c.toNat:Int)
def iu (n lo hi:Int):Bool:=decide (lo<=n/\n<=hi)
def wM (ba late p:Int):Bool:=p==-1||iu p ba late
def tU (s:ByteArray)(aD ba late p:Int):Bool:=gM s&&iu aD 1 3&&iu ba 0 late&&decide (late<=10000)&&wM ba late p
theorem zc (s:ByteArray):IU s 0:=λ_ _ h=>absurd h (aco _)
theorem za (h:IU s k)(hk:k<s.size)(hb:D6 (s[k].toNat:Int)=true):IU s (k+1):=by
 intro j hj hjk;by_cases e:j=k
 .subst e;exact hb
 .exact h j hj ab
theorem Gs (s:ByteArray):(s.data.toList.all λc=>D6 (c.toNat:Int))=true<->∀j (h:j<s.size),D6 (s[j].toNat:Int)=true:=by
 rw[List.all_eq_true];constructor
 .intro h j hj;exact h _ (Array.mem_toList_iff.mpr (Array.getElem_mem (xs:=s.data) (i:=j) hj))
 .intro h c hc;obtain⟨j,hj,rfl⟩:=Array.mem_iff_getElem.mp (Array.mem_toList_iff.mp hc);exact h j hj
theorem yX (h1:1<=s.size)(h2:s.size<=8)(h:IU s s.size):gM s=true:=by
 unfold gM;rw[(Gs s).mpr λj hj=>h j hj hj];simp[h1,h2]
theorem wC (hk:k<s.size)(h:D6 (s[k].toNat:Int)=false):gM s=false:=by
 unfold gM;rw[Bool.and_eq_false_iff];right;rw[Bool.eq_false_iff];intro ha;have:=(Gs s).mp ha k hk;rw[h]at this;cases this
theorem uq (h:¬1<=s.size):gM s=false:=by
 unfold gM;simp[h]
theorem wA (h:¬s.size<=8):gM s=false:=by
 unfold gM;simp[h]
theorem L0 {n:Int}(h:128<=n):D6 n=false:=by
 unfold D6;rw[decide_eq_false_iff_not];omega
structure Mv where
 name:ByteArray
 an:Bool
 aD:Int
 ba:Int
 late:Int
 prom:Int
abbrev Mv.cells (m:Mv):Array Value:=#[m.name,m.an,m.aD,m.ba,m.late,m.prom]
structure Mv.Fits (m:Mv):Prop where
 name:m.name.size<=maxLen
 aD:(Lit.int .i64 m.aD).wf=true
 ba:(Lit.int .i64 m.ba).wf=true
 late:(Lit.int .i64 m.late).wf=true
 prom:(Lit.int .i64 m.prom).wf=true
def Mv.ok (m:Mv):Bool:=tU m.name m.aD m.ba m.late m.prom
def cQ (a b:ByteArray):Bool:=Op.bytesLess a.toList b.toList
def gU (f:Nat->Mv)(i:Nat):Bool:=(f i).ok&&(i==0||cQ (f (i-1)).name (f i).name)
def aG (f:Nat->Mv)(n:Nat):Bool:=decide (n<=6)&&(List.range n).all λi=>gU f i
def jW (f:Nat->Mv)(k:Nat):Prop:=∀i,i<k->gU f i=true
theorem jX {f:Nat->Mv}(h:jW f k)(hk:gU f k=true):jW f (k+1):=by
 intro i hi;by_cases e:i=k
 .subst e;exact hk
 .exact h i ab
theorem jd {f:Nat->Mv}(h:n<=6)(hs:jW f n):aG f n=true:=by
 unfold aG;simp only[Bool.and_eq_true,decide_eq_true_eq,List.all_eq_true,List.mem_range];exact⟨h,hs⟩
theorem pR {f:Nat->Mv}(hk:k<n)(hs:gU f k=false):aG f n=false:=by
 unfold aG;rw[Bool.and_eq_false_iff];right;rw[Bool.eq_false_iff];intro ha;rw[List.all_eq_true]at ha;have:=ha k (List.mem_range.mpr hk);rw[hs]at this;cases this
theorem uo {f:Nat->Mv}(h:¬n<=6):aG f n=false:=by unfold aG;simp[h]
set_option linter.defProp false
def aca:=@Go.RowKit.Below.refl
def acb:=@Go.RowKit.Below.heap_alloc
def acd:=@Go.RowKit.Below.heap_setCell
def ace:=@Go.RowKit.Below.setCell
def acf:=@Go.RowKit.Below.alloc
def acg:=@Go.World.size_alloc
def ach:=@Go.World.cell?_of_block
def acj:=@Go.World.cell?_alloc_lt
end Go.Proofs.YtlmcblcijndipaaGreatDoor
namespace Go.Proofs.YtlmcblcijndipaaGreatDoor
variable {m:Mv}{f:Nat->Mv}{n i:Nat}{t:Nat->Int}
def oO (l:Bool)(x y:Int):Int:=(if l then 2 else 1)+(if iu x 1 3&&iu y 1 3&&decide (y<x)then x-y else 0)
theorem iq (l:Bool)(x y:Int):1<=oO l x y:=by
 unfold oO;cases l<;>simp<;>split<;>omega
theorem uX (l:Bool)(x y:Int):oO l x y<=4:=by
 unfold oO iu;cases l<;>simp<;>split<;>omega
def nq (x y:Int):Int:=if iu x 1 3&&iu y 1 3&&decide (y<x)then x-y else 0
theorem Iv (x y:Int):0<=nq x y/\nq x y<=2:=by
 unfold nq iu;simp;split<;>omega
theorem Ow (l:Bool)(x y:Int):oO l x y=(if l then 2 else 1)+nq x y:=rfl
def sZ (ba late p t:Int):Bool:=iu t ba late&&(p==-1||p==t)
def yZ (la:Bool)(wa:Int)(lb:Bool)(wb:Int)(s t:Int):Bool:=if t<s then decide (s-t<oO lb wb wa)else decide (t-s<oO la wa wb)
theorem lA (la:Bool)(wa:Int)(lb:Bool)(wb:Int)(s t:Int):
  (!yZ la wa lb wb s t)=if s=t then false else if s<t then decide (oO la wa wb<=t-s)else decide (oO lb wb wa<=s-t):=by
 have h1:=iq la wa wb;unfold yZ;by_cases e:s=t
 .subst e;simp;omega
 .by_cases h:s<t
  .have:¬t<s:=by omega
   rw[if_neg this,if_neg e,if_pos h,Bool.eq_iff_iff];simp
  .have:t<s:=by omega
   rw[if_pos this,if_neg e,if_neg h,Bool.eq_iff_iff];simp
def Mv.oj (a b:Mv):Int:=oO a.an a.aD b.aD
def Mv.eV (m:Mv)(t:Int):Bool:=sZ m.ba m.late m.prom t
def Mv.gt (a b:Mv)(s t:Int):Bool:=yZ a.an a.aD b.an b.aD s t
theorem Mv.fR (h:m.ok=true):0<=m.ba/\m.ba<=m.late/\m.late<=10000/\(m.prom=-1\/m.ba<=m.prom/\m.prom<=m.late)/\1<=m.aD/\m.aD<=3:=by
 unfold Mv.ok tU wM iu at h;simp only[Bool.and_eq_true,Bool.or_eq_true,decide_eq_true_eq,beq_iff_eq]at h;omega
theorem bj (h:aG f n=true)(i:Nat)(hi:i<n):(f i).ok=true:=by
 unfold aG at h;simp only[Bool.and_eq_true,decide_eq_true_eq,List.all_eq_true,List.mem_range]at h;have:=h.2 i hi;unfold gU at this;simp only[Bool.and_eq_true]at this;exact this.1
theorem cg (h:aG f n=true):n<=6:=by
 unfold aG at h;simp only[Bool.and_eq_true,decide_eq_true_eq]at h;exact h.1
theorem gA {t:Int}(h:m.eV t=true):m.ba<=t/\t<=m.late:=by
 unfold Mv.eV sZ iu at h;simp only[Bool.and_eq_true,decide_eq_true_eq]at h;exact h.1
theorem F3 (h:m.ok=true)(t:Int):m.eV t=(iu t m.ba m.late&&!(decide (0<=m.prom)&&t !=m.prom)):=by
 have hb:=Mv.fR h;unfold Mv.eV sZ iu;rw[Bool.eq_iff_iff];simp;omega
def eH (f:Nat->Mv)(t:Nat->Int)(i:Nat):Prop:=(∀j,j<i->(f j).eV (t j)=true)/\∀j k,k<j->j<i->(f k).gt (f j) (t k) (t j)=false
def dY (f:Nat->Mv)(n:Nat)(t:Nat->Int)(m:Nat):Bool:=
 aG f n&&decide (m=n)&&((List.range n).all λi=>(f i).eV (t i)&&(List.range i).all λk=>!(f k).gt (f i) (t k) (t i))
theorem fY (h:aG f n=true):dY f n t n=true<->eH f t n:=by
 unfold dY eH;simp only[h,decide_true,Bool.true_and,List.all_eq_true,List.mem_range,Bool.and_eq_true,Bool.not_eq_true'];constructor
 .intro h;exact⟨λj hj=>(h j hj).1,λj k hk hj=>(h j hj).2 k hk⟩
 .intro h i hi;exact⟨h.1 i hi,λk hk=>h.2 i k hk hi⟩
theorem jv {m:Nat}(h:aG f n=false):dY f n t m=false:=by unfold dY;simp[h]
theorem tz {m:Nat}(h:m≠n):dY f n t m=false:=by unfold dY;simp[h]
theorem qF (hi:i<n)(h:(f i).eV (t i)=false):dY f n t n=false:=by
 rw[Bool.eq_false_iff];intro hh;have hm:aG f n=true:=by cases e:aG f n with|true=>rfl|false=>rw[jv e]at hh;cases hh
 have:=((fY hm).mp hh).1 i hi;rw[h]at this;cases this
theorem vT {k:Nat}(hk:k<i)(hi:i<n)(h:(f k).gt (f i) (t k) (t i)=true):dY f n t n=false:=by
 rw[Bool.eq_false_iff];intro hh;have hm:aG f n=true:=by cases e:aG f n with|true=>rfl|false=>rw[jv e]at hh;cases hh
 have:=((fY hm).mp hh).2 i k hk hi;rw[h]at this;cases this
theorem vp (f:Nat->Mv)(t:Nat->Int):eH f t 0:=⟨λ_ h=>absurd h (aco _),λ_ _ _ h=>absurd h (aco _)⟩
theorem D9 (h:eH f t i)(h1:(f i).eV (t i)=true)(h2:∀k,k<i->(f k).gt (f i) (t k) (t i)=false):eH f t (i+1):=by
 refine⟨λj hj=>?_,λj k hk hj=>?_⟩
 .by_cases e:j=i
  .subst e;exact h1
  .exact h.1 j ab
 .by_cases e:j=i
  .subst e;exact h2 k hk
  .exact h.2 j k hk ab
def sumTo (f:Nat->Mv)(t:Nat->Int):Nat->Int
 |0=>0
 |i+1=>sumTo f t i+(t i-(f i).ba)
def cU (f:Nat->Mv)(t:Nat->Int):Nat->Int
 |0=>0
 |i+1=>if cU f t i<t i-(f i).ba then t i-(f i).ba else cU f t i
theorem Dy:∀i:Nat,(∀j,j<i->0<=t j-(f j).ba/\t j-(f j).ba<=10000)->0<=sumTo f t i/\sumTo f t i<=10000*i/\0<=cU f t i/\cU f t i<=10000
 |0,_=>by simp[sumTo,cU]
 |i+1,h=>by
  have h1:=Dy i λj hj=>h j ab
  have h2:=h i ab;simp only[sumTo,cU];split<;>omega
