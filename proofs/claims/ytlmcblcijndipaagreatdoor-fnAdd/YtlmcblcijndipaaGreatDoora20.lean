import Derived.Test.YtlmcblcijndipaaGreatDoora16
set_option linter.defProp false
set_option linter.unusedVariables false
set_option maxHeartbeats 4000000
namespace Go.Proofs.YtlmcblcijndipaaGreatDoor
open RowKit
variable {t:Int}{n p:Nat}{T:Nat->Int}{f:Nat->Mv}{o:Nat->Nat}
section
variable {i:Nat}
def aY (f:Nat->Mv)(o:Nat->Nat)(T:Nat->Int)(p:Nat):Nat->Int
 |0=>(f p).aW
 |k+1=>if aY f o T p k<T (o k)+(f<|o k).oP (f p)then T (o k)+(f<|o k).oP (f p)else aY f o T p k
def ij (m:Mv)(t:Int):Int:=if m.prom=-1 then t else m.prom
def gN (m:Mv)(t:Int):Bool:=decide (t<=if m.prom=-1 then m.late else m.prom)
def er (f:Nat->Mv)(o:Nat->Nat):Nat->Option (Nat->Int)
 |0=>some λ_=>0
 |i+1=>match er f o i with
  |none=>none
  |some T=>if gN (f<|o i) (aY f o T (o i) i)=true then some (λp=>if p=o i then ij (f<|o i) (aY f o T (o i) i)else T p)else none
def JR (h:er f o i=none):∀n,i<=n->er f o n=none:=by
 intro n hn;induction n with
 |zero=>
  have:i=0:=aa;subst this;exact h
 |succ n ih=>
  by_cases e:i=n+1
  .subst e;exact h
  .simp only[er,ih aa]
def BI (h:er f o i=some T)(hk:gN (f<|o i) (aY f o T (o i) i)=false)(hi:i<n):er f o n=none:=
 JR (i:=i+1) (by simp only[er,h,hk];rfl) n aa
def sH (h:er f o i=some T)(hk:gN (f<|o i) (aY f o T (o i) i)=true):
  er f o (i+1)=some (λp=>if p=o i then ij (f<|o i) (aY f o T (o i) i)else T p):=by
 simp only[er,h,hk];rfl
def nY {f:Nat->Mv}{o:Nat->Nat}{T:Nat->Int}{p:Nat}(hp:0<=(f p).aW/\(f p).aW<=10000)(hT:∀q,0<=T q/\T q<=10000):∀k,0<=aY f o T p k/\aY f o T p k<=10004
 |0=>by simp only[aY];omega
 |k+1=>by
  have h1:=nY hp hT k (o:=o);have h2:=iJ (f<|o k).aj (f<|o k).ap (f p).ap;have h3:=vG (f<|o k).aj (f<|o k).ap (f p).ap;have h4:=hT<|o k;have e:aY f o T p (k+1)=if aY f o T p k<T (o k)+(f<|o k).oP (f p)then T (o k)+(f<|o k).oP (f p)else aY f o T p k:=rfl
  have g:(f<|o k).oP (f p)=pC (f<|o k).aj (f<|o k).ap (f p).ap:=rfl;rw[e,g];split<;>omega
def Ns {m:Mv}(hm:m.ok=true)(h0:0<=t)(hk:gN m t=true):0<=ij m t/\ij m t<=10000:=by
 have hb:=Mv.fX hm;unfold gN at hk;unfold ij;simp only[decide_eq_true_eq]at hk;split<;>(rename_i e;simp only[e,if_true,if_false]at hk)<;>omega
def BH (hm:aE f n=true)(ho:∀i,i<n->o i<n):∀(i:Nat) (T:Nat->Int),i<=n->er f o i=some T->∀p,0<=T p/\T p<=10000
 |0,T,_,h,p=>by simp only[er,Option.some.injEq]at h;subst h;simp
 |i+1,T,hi,h,p=>by
  cases e:er f o i with
  |none=>simp only[er,e]at h;cases h
  |some S=>
   have hS:=BH hm ho i S aa e;simp only[er,e]at h;split at h
   .rename_i hk;simp only[Option.some.injEq]at h;subst h;have ez:=bg hm (o i)<|ho i aa;have hb:=Mv.fX ez;have hl:=nY (o:=o) (p:=o i) ⟨hb.1,aa⟩ hS i;have:=Ns ez hl.1 hk;by_cases c:p=o i
    .simp only[if_pos c];exact this
    .simp only[if_neg c];exact hS p
   .cases h
end
section
variable {b d:Bool}
def NY {a c:Int}(h:a=c)(h':b=d):Ending.returned (.tuple #[a,b])=.returned (.tuple #[c,d]):=by rw[h,h']
def Nt (m:Mv)(t:Int)(w:World):
  Calls Tz.prog 252 #[.agg #[m.name,m.aj,m.ap,m.aW,m.late,m.prom],t] w λe w'=>e=.returned (.tuple #[.int .i64<|ij m t,.bool<|gN m t])/\Below w w w':=by
 have hA:Below w w (w.alloc<|.cells #[m.name,m.aj,m.ap,m.aW,m.late,m.prom] 31):=(acW _ _).alloc (ac5 _) _;have g4:(w.alloc<|.cells #[m.name,m.aj,m.ap,m.aW,m.late,m.prom] 31).cell? ⟨w.heap.size,4,none⟩=some (.int .i64 m.late):=aF;have g5:(w.alloc<|.cells #[m.name,m.aj,m.ap,m.aW,m.late,m.prom] 31).cell? ⟨w.heap.size,5,none⟩=some (.int .i64 m.prom):=aF;have hne:=aG<|w.alloc<|.cells #[m.name,m.aj,m.ap,m.aW,m.late,m.prom] 31;have e4:=λx:ai (w.alloc<|.cells #[m.name,m.aj,m.ap,m.aW,m.late,m.prom] 31)=>x.cell g4
 have e5:=λx:ai (w.alloc<|.cells #[m.name,m.aj,m.ap,m.aW,m.late,m.prom] 31)=>x.cell g5
 clear g4 g5;by_cases hp:m.prom=-1
 .have O9:(m.prom !=-1)=false:=by simpa using hp
  have Xm:ij m t=t:=by unfold ij;rw[if_pos hp]
  have HV:Hid (ij m t=t):=Xm;have Xj:gN m t=decide (t<=m.late):=by unfold gN;rw[if_pos hp]
  have HB:Hid (gN m t=decide (t<=m.late)):=Xj;clear Xm Xj hp;go_enter Tz.func252,Tryz.ntmps252
  go_wp2;refine kI ?_;intro w1 bP;go_wp2;go_ret2
  exact⟨NY HV.out.symm HB.out.symm,hA.trans<|bP.mono hA.size⟩
 .have O9:(m.prom !=-1)=true:=by simpa using hp
  have Xm:ij m t=m.prom:=by unfold ij;rw[if_neg hp]
  have HV:Hid (ij m t=m.prom):=Xm;have Xj:gN m t=decide (t<=m.prom):=by unfold gN;rw[if_neg hp]
  have HB:Hid (gN m t=decide (t<=m.prom)):=Xj;clear Xm Xj hp;go_enter Tz.func252,Tryz.ntmps252
  go_wp2;refine kI ?_;intro w1 bP;go_wp2;go_ret2
  exact⟨NY HV.out.symm HB.out.symm,hA.trans<|bP.mono hA.size⟩
def Oh (a p:Nat)(bt bl:Nat)(b off n cap:Nat)(f:Nat->Mv)(tb:Nat)(T:Nat->Int)(w:World)(ha:a<n)(hp:p<n)(hn:n<=1048576)
  (hT:0<=T a/\T a<=10000)
  (ct:w.cell? bt=some (.slice tb n n))(cl:w.cell? bl=some (.slice (some ⟨b,off,none⟩) n cap))(aq:aI w b off n f)(bc:aC w tb n T):
  Calls Tz.prog 251 #[.int .i64 (a:Int),.int .i64 (p:Int),.pointer bt,.pointer bl] w λe w'=>e=.returned (.int .i64<|T a+(f a).oP (f p))/\Below w w w':=by
 have mn:=iJ (f a).aj (f a).ap (f p).ap;have jW:=vG (f a).aj (f a).ap (f p).ap;have hg:1<=(f a).oP (f p)/\(f a).oP (f p)<=4:=⟨mn,jW⟩;clear mn jW;let⟨mn,jW⟩:=hg;let⟨hT0,hT1⟩:=hT;have ha':(a:Int)<n:=aa;have O9:(p:Int)<n:=aa;have GB:=aq a ha;have Qv:=aq p hp;have hne:=aG w;have x0:=λx:ai w=>x.cell ct
 have x1:=λx:ai w=>x.cell cl
 have x2:=λx:ai w=>x.cell<|bc.cellAt a ha
 have a0:=λx:ai w=>x.cell GB.c0
 have a1:=λx:ai w=>x.cell GB.c1
 have a2:=λx:ai w=>x.cell GB.c2
 have a3:=λx:ai w=>x.cell GB.c3
 have a4:=λx:ai w=>x.cell GB.c4
 have a5:=λx:ai w=>x.cell GB.c5
 have b0:=λx:ai w=>x.cell Qv.c0
 have b1:=λx:ai w=>x.cell Qv.c1
 have b2:=λx:ai w=>x.cell Qv.c2
 have b3:=λx:ai w=>x.cell Qv.c3
 have b4:=λx:ai w=>x.cell Qv.c4
 have b5:=λx:ai w=>x.cell Qv.c5
 go_enter Tz.func251,Tryz.ntmps251
 go_wp2;refine aS ?_;repeat(go_big_quiet_step ((go_at_call 109;exact bT<|pJ (f a) (f p) _)))
 refine wpQuiet_nil<|cf ?_;intro w1 bP;go_wp2;go_ret;exact⟨rfl,bP⟩
end
def mK (r:Option (Nat->Int))(n:Nat)(w:World)(e:Ending)(w':World):Prop:=
 match r with
 |some T=>∃B cap,w.heap.size<=B/\e=.returned (.tuple #[.slice (some ⟨B,0,none⟩) n cap,.bool true])/\aC w' B n T/\n<=cap
 |none=>∃a cap,e=.returned (.tuple #[.slice a 0 cap,.bool false])
def Ps (r:Option (Nat->Int))(n:Nat)(w:World)(e:Ending)(w':World):Prop:=
 match r with
 |some T=>∃B,w.heap.size<=B/\e=.returned (.tuple #[.slice (some ⟨B,0,none⟩) n n,.bool true])/\aC w' B n T
 |none=>e=.returned (.tuple #[.slice none 0 0,.bool false])
def BJ (b off n cap:Nat)(f:Nat->Mv)(b' ce cap':Nat)(o:Nat->Nat)(w:World)(hm:aE f n=true)(ho:∀i,i<n->o i<n)(vy:n<=cap')(bH:b<w)(aq:aI w b off n f)(bI:b'<w)(aU:aA w b' ce n (λi=>(o i:Int))):
  Calls Tz.prog 231 #[.slice (some ⟨b',ce,none⟩) n cap',.slice (some ⟨b,off,none⟩) n cap] w λe w'=>Ps (er f o n) n w e w'/\Below w w w':=by
 have h6:=bZ hm;have HM:Hid (aE f n=true):=hm;clear hm;have O6:=tW n aa;go_enter Tz.func231,Tryz.ntmps231
 go_wp2;go_loopw [21] (λi wr=>∃(k:Nat) (T:Nat->Int),k<=n/\i=.int .i64 k/\er f o k=some T/\aC wr (w.heap.size+1) n T/\wr.cell? ⟨w.heap.size,0,none⟩=some (.slice (some ⟨b,off,none⟩) n cap)/\wr.cell? ⟨w.heap.size+1+1,0,none⟩=some (.slice (some ⟨w.heap.size+1,0,none⟩) n n)/\Below w.heap.size w wr) (λi _=>n-(intOf i).toNat)
 case atStart=>
  refine⟨0,_,ada _,rfl,rfl,?_,by simp[go_sem],by simp[go_sem],?_⟩
  .have:=ng (w.alloc<|.cells #[.slice (some ⟨b,off,none⟩) n cap] 23) n;simp only[World.size_alloc]at this;exact this.below ((acW _ _).alloc (ac5 _) _) this.lt
  .exact(((acW _ w).alloc (ac5 _) _).alloc aF _).alloc cU _
 case round=>
  obtain⟨k,T,hk,rfl,hT,bc,cl,cb,hB⟩:=hrel;have HT:Hid (er f o k=some T):=hT;clear hT;have X6:=BH HM.out ho k T hk HT.out;by_cases aB:k<n
  .have dr:(k:Int)<n:=by omega
   have hp:=ho k aB;have O9:((o k:Nat):Int)<n:=aa;have hc:wr.cell? ⟨b',ce+k,none⟩=some (.int .i64 ((o k:Nat):Int)):=(aU.below hB bI) k aB;have ez:=bg HM.out (o k) hp;let⟨z0,z1,z2,z3,z4,z5⟩:=Mv.fX ez;have Qv:=(aq.below hB bH) (o k) hp;have c3:=Qv.c3;have YJ:(k:Int)<=cap':=aa;go_wp2;go_loopw [10,35] (λl j wr=>∃q:Nat,q<=k/\j=.int .i64 q/\l=.int .i64 (aY f o T (o k) q)/\aC wr (w.heap.size+1) n T/\wr.cell? w.heap.size=some (.slice (some ⟨b,off,none⟩) n cap)/\wr.cell? ⟨w.heap.size+1+1,0,none⟩=some (.slice (some ⟨w.heap.size+1,0,none⟩) n n)/\Below w w wr) (λ_ j _=>k-(intOf j).toNat)
   case atStart=>exact⟨0,ada _,rfl,rfl,bc,cl,cb,hB⟩
   case round=>
    clear bc cl cb hB hc Qv c3;obtain⟨q,hq,rfl,rfl,bc,cl,cb,hB⟩:=hrel;have YN:=nY (o:=o) (p:=o k) ⟨z0,aa⟩ X6 q;let⟨hl0,Ll⟩:=YN;have eO:=bc.lt;have gM:=block_lt_of_cell cl;have Nj:=block_lt_of_cell cb;by_cases IG:q<k
    .have YP:(q:Int)<k:=by omega
     have ha:=ho q aa;have hcq:wr.cell? ⟨b',ce+q,none⟩=some (.int .i64 ((o q:Nat):Int)):=(aU.below hB bI) q aa;have mn:1<=(f<|o q).oP (f<|o k):=iJ _ _ _;have jW:(f<|o q).oP (f<|o k)<=4:=vG _ _ _;let⟨t0,t1⟩:=X6<|o q;have HL:Hid (aY f o T (o k) (q+1)=if aY f o T (o k) q<T (o q)+(f<|o q).oP (f<|o k)then T (o q)+(f<|o q).oP (f<|o k)else aY f o T (o k) q):=rfl;have HC:=Oh (o q) (o k) (w.heap.size+1+1) w.heap.size b off n cap f (w.heap.size+1) T wr ha hp aa ⟨t0,t1⟩ cb cl (aq.below hB bH) bc;by_cases UD:aY f o T (o k) q<T (o q)+(f<|o q).oP (f<|o k);all_goals
      go_wp2_with(go_at_call 251;refine HC.mono ?_;clear HC;rintro e w1 ⟨rfl,bP⟩)
      go_roundw
      case rel=>exact⟨q+1,aa,by go_num,by rw[HL.out];first|rw[if_pos UD]|rw[if_neg aa],bc.below bP eO,(bP.cell (p:=⟨w.heap.size,0,none⟩) gM).trans cl,(bP.cell (p:=⟨w.heap.size+1+1,0,none⟩) Nj).trans cb,hB.trans<|bP.mono hB.size⟩
      case measure=>exact cI
    .have SA:q=k:=by omega
     subst SA;let⟨c0,c1,c2,c3,c4,c5⟩:=(aq.below hB bH) (o q) hp;have hd:=bc.cellAt (o q) hp;have IC:=bc.frozen<|o q;have HK:=Nt (f<|o q) (aY f o T (o q) q) wr;cases hkb:gN (f<|o q) (aY f o T (o q) q)with
     |true=>
      have HE:Hid (er f o (q+1)=some (λp=>if p=o q then ij (f<|o q) (aY f o T (o q) q)else T p)):=sH HT.out hkb;rw[hkb]at HK;go_wp2_with(go_at_call 252;refine HK.mono ?_;clear HK;rintro e w1 ⟨rfl,bP⟩;have hd1:=(bP.cell (p:=⟨w.heap.size+1,o q,none⟩) eO).trans hd;have pE:=(bP.frozen (p:=⟨w.heap.size+1,o q,none⟩) eO).trans IC;have cb1:=(bP.cell (p:=⟨w.heap.size+1+1,0,none⟩) Nj).trans cb;have cl1:=(bP.cell (p:=⟨w.heap.size,0,none⟩) gM).trans cl)
      have fN:=bc.below bP eO;go_roundw
      case rel=>exact⟨q+1,_,aa,by go_num,HE.out,fN.set (o q) hp _,(World.cell?_setCell_other _ _ _ _ aF).trans cl1,(World.cell?_setCell_other _ _ _ _ aF).trans cb1,(hB.trans<|bP.mono hB.size).setCell aF _⟩
      case measure=>exact cI
     |false=>
      have HE:Hid (er f o n=none):=BI HT.out hkb aB;rw[hkb]at HK;go_wp2_with(go_at_call 252;refine HK.mono ?_;clear HK;rintro e w1 ⟨rfl,bP⟩)
      go_ret2
      refine⟨?_,hB.trans<|bP.mono hB.size⟩;rw[HE.out];exact rfl
  .have tD:k=n:=by omega
   subst tD;go_wp2;go_ret2
   refine⟨?_,hB⟩;rw[HT.out];exact⟨w.heap.size+1,aa,rfl,bc⟩
section
variable {a b:Mv}{s:Int}
def mu {S:Nat->Int}:∀j:Nat,(∀k,k<j->T (o k)=S (o k))->aY f o T p j=aY f o S p j
 |0,_=>rfl
 |j+1,h=>by
  simp only[aY];rw[mu j (λk hk=>h k aa),h j aa]
def jR {f:Nat->Mv}{o:Nat->Nat}{T:Nat->Int}{p:Nat}:∀j:Nat,(f p).aW<=aY f o T p j/\(∀k,k<j->T (o k)+(f<|o k).oP (f p)<=aY f o T p j)/\(aY f o T p j=(f p).aW\/∃k,k<j/\aY f o T p j=T (o k)+(f<|o k).oP (f p))
 |0=>⟨Int.le_refl _,λk hk=>absurd hk<|ac9 _,.inl rfl⟩
 |j+1=>by
  let⟨h1,h2,h3⟩:=jR (f:=f) (o:=o) (T:=T) (p:=p) j;simp only[aY];split
  .rename_i aB;refine⟨by omega,λk hk=>?_,.inr ⟨j,by omega,rfl⟩⟩;by_cases e:k=j
   .subst e;omega
   .have:=h2 k (by omega);omega
  .rename_i aB;refine⟨h1,λk hk=>?_,?_⟩
   .by_cases e:k=j
    .subst e;omega
    .exact h2 k (by omega)
   .rcases h3 with h3|⟨k,hk,h3⟩
    .exact .inl h3
    .exact .inr ⟨k,by omega,h3⟩
def Ak:∀(i:Nat) (T:Nat->Int),er f o i=some T->(∀j k,j<k->k<i->o j≠o k)->∀j,j<i->gN (f<|o j) (aY f o T (o j) j)=true/\T (o j)=ij (f<|o j) (aY f o T (o j) j)
 |0,_,_,_,j,hj=>absurd hj (ac9 _)
 |i+1,T,h,hd,j,hj=>by
  cases e:er f o i with
  |none=>simp only[er,e]at h;cases h
  |some S=>
   have ih:=Ak i S e λj k h1 h2=>hd j k h1 aa;simp only[er,e]at h;split at h
   .rename_i hk;simp only[Option.some.injEq]at h;have hT:∀k,k<i->T (o k)=S (o k):=λk hk=>by
     rw[<-h];simp only[if_neg (hd k i hk aa)]
    by_cases c:j=i
    .subst c;have hl:aY f o T (o j) j=aY f o S (o j) j:=mu j hT;rw[hl];exact⟨hk,by rw[<-h];simp⟩
    .have hl:aY f o T (o j) j=aY f o S (o j) j:=mu j λk hk=>hT k aa;rw[hl,hT j aa];exact ih j aa
   .cases h
def vK (h:s+a.oP b<=t):a.gP b s t=false/\b.gP a t s=false:=by
 have g:=iJ a.aj a.ap b.ap;unfold Mv.oP at h;have h1:=lY a.aj a.ap b.aj b.ap s t;have h2:=lY b.aj b.ap a.aj a.ap t s;unfold Mv.gP;rw[if_neg aa,if_pos aa]at h1;rw[if_neg aa,if_neg aa]at h2;have q:decide (pC a.aj a.ap b.ap<=t-s)=true:=cU;rw[q]at h1 h2;simpa using And.intro h1 h2
def sW (h:a.gP b s t=false):(s<=t->s+a.oP b<=t)/\(t<=s->t+b.oP a<=s):=by
 have h1:=lY a.aj a.ap b.aj b.ap s t;unfold Mv.gP at h;rw[h]at h1;unfold Mv.oP;by_cases e:s=t
 .subst e;simp at h1
 .rw[if_neg e]at h1;by_cases dz:s<t
  .rw[if_pos dz]at h1;simp at h1;exact⟨λ_=>aa,λ_=>aa⟩
  .rw[if_neg dz]at h1;simp at h1;exact⟨λ_=>aa,λ_=>aa⟩
structure aae (f:Nat->Mv)(o:Nat->Nat)(n:Nat)(T:Nat->Int):Prop where
 fit:fk f T n
 up:∀i j,i<j->j<n->T (o i)<T (o j)
 least:∀i,i<n->¬fk f (λp=>if p=o i then T p-1 else T p) n
def tO (hm:aE f n=true)(ho:∀i,i<n->o i<n)(hd:∀j k,j<k->k<n->o j≠o k)(h:er f o n=some T):aae f o n T:=by
 have he:=Ak n T h hd;have hv:∀j,j<n->aY f o T (o j) j<=T (o j)/\T (o j)<=(f<|o j).late/\(f<|o j).aW<=T (o j)/\((f<|o j).prom=-1/\T (o j)=aY f o T (o j) j\/(f<|o j).prom=T (o j)):=λj hj=>by
  let⟨h1,h2⟩:=he j hj;have hb:=Mv.fX<|bg hm (o j)<|ho j hj;have hl:=(jR (f:=f) (o:=o) (T:=T) (p:=o j) j).1;unfold gN at h1;unfold ij at h2;simp only[decide_eq_true_eq]at h1;by_cases e:(f<|o j).prom=-1
  .rw[if_pos e]at h1 h2;exact⟨aa,aa,aa,.inl ⟨e,h2⟩⟩
  .rw[if_neg e]at h1 h2;exact⟨aa,aa,aa,.inr h2.symm⟩
 have UB:∀i j,i<j->j<n->T (o i)+(f<|o i).oP (f<|o j)<=T (o j):=λi j lH hj=>by
  have h1:=(jR (f:=f) (o:=o) (T:=T) (p:=o j) j).2.1 i lH;have h2:=(hv j hj).1;omega
 have hs:∀p,p<n->∃i,i<n/\o i=p:=zH n o ho hd;refine⟨⟨λp hp=>?_,λq p Y6 hq=>?_⟩,λi j lH hj=>?_,λi hi hf=>?_⟩
 .obtain⟨i,hi,rfl⟩:=hs p hp;let⟨_,h2,h3,h4⟩:=hv i hi;unfold Mv.fG qW iL;simp only[Bool.and_eq_true,Bool.or_eq_true,decide_eq_true_eq,beq_iff_eq];omega
 .obtain⟨i,hi,rfl⟩:=hs p aa;obtain⟨j,hj,rfl⟩:=hs q hq;rcases Nat.lt_trichotomy i j with lH|lH|lH
  .exact(vK<|UB i j lH hj).1
  .subst lH;exact absurd Y6<|Nat.lt_irrefl _
  .exact(vK<|UB j i lH hi).2
 .have h1:=UB i j lH hj;have g:=iJ (f<|o i).aj (f<|o i).ap (f<|o j).ap;unfold Mv.oP at h1;omega
 .let⟨h1,h2,h3,h4⟩:=hv i hi;have hb:=Mv.fX<|bg hm (o i)<|ho i hi;have zf:=hf.1 (o i)<|ho i hi;simp only[if_true]at zf;unfold Mv.fG qW iL at zf;simp only[Bool.and_eq_true,Bool.or_eq_true,decide_eq_true_eq,beq_iff_eq]at zf;rcases h4 with⟨e,hl⟩|e
  .rcases(jR (f:=f) (o:=o) (T:=T) (p:=o i) i).2.2 with hh|⟨k,hk,hh⟩
   .omega
   .have hne:=hd k i hk hi;have g:=iJ (f<|o k).aj (f<|o k).ap (f<|o i).ap;have hgg:(f<|o k).oP (f<|o i)=pC (f<|o k).aj (f<|o k).ap (f<|o i).ap:=rfl;rcases Nat.lt_or_gt_of_ne hne with aB|aB
    .have:=(sW<|hf.2 (o i) (o k) aB<|ho i hi).1;simp only[if_true,if_neg hne]at this;omega
    .have:=(sW<|hf.2 (o k) (o i) aB<|ho k aa).2;simp only[if_true,if_neg hne]at this;omega
  .omega
end
abbrev Iv (w:World)(m:Mv):World:=w.alloc<|.cells #[m.name,m.aj,m.ap,m.aW,m.late,m.prom] 31
def LQ (w:World)(m:Mv):tH (Iv w m) w.heap.size 0 m:=by
 constructor<;>simp[Iv]
def lW (b off n cap:Nat)(f:Nat->Mv)(b' ce cap':Nat)(o:Nat->Nat)(w:World)(hm:aE f n=true)(ho:∀i,i<n->o i<n)(bH:b<w)(aq:aI w b off n f)(bI:b'<w)(aU:aA w b' ce n (λi=>(o i:Int))):
  Calls Tz.prog 104 #[.slice (some ⟨b,off,none⟩) n cap,.slice (some ⟨b',ce,none⟩) n cap'] w λe w'=>mK (er f o n) n w e w'/\Below w w w':=by
 have h6:=bZ hm;have HM:Hid (aE f n=true):=hm;clear hm;have O6:=tW n aa;go_enter Tz.func104,Tryz.ntmps104
 go_wp2;go_loopw [7] (λi wr=>∃(k:Nat) (T:Nat->Int),k<=n/\i=.int .i64 k/\er f o k=some T/\aC wr w.heap.size n T/\Below w.heap.size w wr) (λi _=>n-(intOf i).toNat)
 case atStart=>exact⟨0,_,ada _,rfl,rfl,ng w n,(acW _ w).alloc (ac5 _) _⟩
 case round=>
  obtain⟨k,T,hk,rfl,hT,bc,hB⟩:=hrel;have HT:Hid (er f o k=some T):=hT;clear hT;have X6:=BH HM.out ho k T hk HT.out;by_cases aB:k<n
  .have dr:(k:Int)<n:=by omega
   have hp:=ho k aB;have O9:((o k:Nat):Int)<n:=aa;have hc:wr.cell? ⟨b',ce+k,none⟩=some (.int .i64 ((o k:Nat):Int)):=(aU.below hB bI) k aB;have ez:=bg HM.out (o k) hp;let⟨z0,z1,z2,z3,z4,z5⟩:=Mv.fX ez;let⟨c0,c1,c2,c3,c4,c5⟩:=(aq.below hB bH) (o k) hp;have hA:Below wr wr (Iv wr<|f<|o k):=(acW _ _).alloc (ac5 _) _;have hM:=LQ wr<|f<|o k;have Sw:=bc.below hA bc.lt;have hBA:Below w w (Iv wr<|f<|o k):=hB.trans<|hA.mono hB.size;have hzw:w.heap.size<=wr:=hB.size;have hzo:w.heap.size<wr:=bc.lt;have HZ:Hid (w.heap.size≠wr.heap.size):=by
    have h:w.heap.size≠wr.heap.size:=aa;exact h
   go_wp2;obtain⟨Bm,XW⟩:∃Bm,Bm=wr.heap.size:=⟨_,rfl⟩;rw[<-XW]at hM hzw hzo⊢;go_loopw [9,10] (λl j wr=>∃q:Nat,q<=k/\j=.int .i64 q/\l=.int .i64 (aY f o T (o k) q)/\aC wr w.heap.size n T/\tH wr Bm 0 (f<|o k)/\Below w w wr) (λ_ j _=>k-(intOf j).toNat)
   case atStart=>exact⟨0,ada _,rfl,rfl,Sw,hM,hBA⟩
   case round=>
    clear bc hB hc c0 c1 c2 c3 c4 c5 hA hM Sw hBA HZ XW;obtain⟨q,hq,rfl,rfl,bc,hM,hB⟩:=hrel;have YN:=nY (o:=o) (p:=o k) ⟨z0,aa⟩ X6 q;let⟨hl0,Ll⟩:=YN;have eO:=bc.lt;have gM:=block_lt_of_cell hM.c0;by_cases IG:q<k
    .have YP:(q:Int)<k:=by omega
     have Y8:(q:Int)<n:=aa;have ha:=ho q aa;have ha':((o q:Nat):Int)<n:=aa;have hcq:wr.cell? ⟨b',ce+q,none⟩=some (.int .i64 ((o q:Nat):Int)):=(aU.below hB bI) q aa;have mn:1<=(f<|o q).oP (f<|o k):=iJ _ _ _;have jW:(f<|o q).oP (f<|o k)<=4:=vG _ _ _;let⟨t0,t1⟩:=X6<|o q;have HL:Hid (aY f o T (o k) (q+1)=if aY f o T (o k) q<T (o q)+(f<|o q).oP (f<|o k)then T (o q)+(f<|o q).oP (f<|o k)else aY f o T (o k) q):=rfl;have GB:=(aq.below hB bH) (o q) ha;have hne:=aG wr;have x0:=λx:ai wr=>x.cell hcq
     have x1:=λx:ai wr=>x.cell<|bc.cellAt (o q) ha
     have a0:=λx:ai wr=>x.cell GB.c0
     have a1:=λx:ai wr=>x.cell GB.c1
     have a2:=λx:ai wr=>x.cell GB.c2
     have a3:=λx:ai wr=>x.cell GB.c3
     have a4:=λx:ai wr=>x.cell GB.c4
     have a5:=λx:ai wr=>x.cell GB.c5
     have b0:=λx:ai wr=>x.cell hM.c0
     have b1:=λx:ai wr=>x.cell hM.c1
     have b2:=λx:ai wr=>x.cell hM.c2
     have b3:=λx:ai wr=>x.cell hM.c3
     have b4:=λx:ai wr=>x.cell hM.c4
     have b5:=λx:ai wr=>x.cell hM.c5
     simp only[Nat.zero_add]at b0 b1 b2 b3 b4 b5;by_cases UD:aY f o T (o k) q<T (o q)+(f<|o q).oP (f<|o k);all_goals
      go_wp2;refine aS ?_;repeat(go_big_quiet_step ((go_at_call 130;exact bT<|p9 (f<|o q) (f<|o k) _)))
      refine wpQuiet_nil<|cf ?_;intro w1 bP;go_wp2;go_roundw
      case rel=>exact⟨q+1,aa,by go_num,by rw[HL.out];first|rw[if_pos UD]|rw[if_neg aa],bc.below bP eO,hM.below bP gM,hB.trans<|bP.mono hB.size⟩
      case measure=>exact cI
    .have SA:q=k:=by omega
     subst SA;let⟨m0,m1,m2,m3,m4,m5⟩:=hM;simp only[Nat.zero_add]at m0 m1 m2 m3 m4 m5;have hc:wr.cell? ⟨b',ce+q,none⟩=some (.int .i64 ((o q:Nat):Int)):=(aU.below hB bI) q aB;have hd:=bc.cellAt (o q) hp;have IC:=bc.frozen<|o q;have Y8:(q:Int)<n:=aa;by_cases qM:(f<|o q).prom=-1
     .have WG:(f<|o q).prom<0:=by omega
      by_cases hle:aY f o T (o q) q<=(f<|o q).late
      .have Jv:=sH HT.out (by unfold gN;rw[if_pos qM];simpa using hle);have HV:ij (f<|o q) (aY f o T (o q) q)=aY f o T (o q) q:=by unfold ij;rw[if_pos qM]
       rw[HV]at Jv;have HE:Hid (er f o (q+1)=some (λp=>if p=o q then aY f o T (o q) q else T p)):=Jv;clear Jv HV qM;go_wp2;go_roundw
       case rel=>exact⟨q+1,_,aa,by go_num,HE.out,bc.set (o q) hp _,hB.setCell aF _⟩
       case measure=>exact cI
      .have HE:Hid (er f o n=none):=BI HT.out (by unfold gN;rw[if_pos qM];simpa using hle) aB;clear qM;go_wp2;go_ret2
       refine⟨?_,?_⟩
       .rw[HE.out];exact⟨_,_,rfl⟩
       .first|exact hB|exact hB.alloc hB.size _
     .have WG:0<=(f<|o q).prom:=by omega
      have oW:(f<|o q).prom<=(f<|o q).late:=aa;by_cases hle:aY f o T (o q) q<=(f<|o q).prom
      .have Jv:=sH HT.out (by unfold gN;rw[if_neg qM];simpa using hle);have HV:ij (f<|o q) (aY f o T (o q) q)=(f<|o q).prom:=by unfold ij;rw[if_neg qM]
       rw[HV]at Jv;have HE:Hid (er f o (q+1)=some (λp=>if p=o q then(f<|o q).prom else T p)):=Jv;clear Jv HV qM;go_wp2;go_roundw
       case rel=>exact⟨q+1,_,aa,by go_num,HE.out,bc.set (o q) hp _,hB.setCell aF _⟩
       case measure=>exact cI
      .have HE:Hid (er f o n=none):=BI HT.out (by unfold gN;rw[if_neg qM];simpa using hle) aB;clear qM;go_wp2;go_ret2
       refine⟨?_,?_⟩
       .rw[HE.out];exact⟨_,_,rfl⟩
       .first|exact hB|exact hB.alloc hB.size _
  .have tD:k=n:=by omega
   subst tD;go_wp2;go_ret2
   refine⟨?_,hB⟩;rw[HT.out];exact⟨w.heap.size,k,ac5 _,rfl,bc,ac5 _⟩
