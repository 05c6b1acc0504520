import Derived.Test.YtjoalkgmgmmedaaGreatDoorj14
import Derived.Test.YtjoalkgmgmmedaaGreatDoorj21
set_option linter.defProp false
set_option linter.unusedVariables false
set_option maxHeartbeats 4000000
set_option maxRecDepth 10000
open Go renaming World->ai,block_lt_of_cell->av,heap_alloc_new->aE,Calls->aL,wpQuiet_nil->aN,wpList->a6
open Go.Ending renaming returned->ac
open Go.RowKit renaming Below->ad
open Go.Value renaming slice->aa,int->ao,tuple->ay
open Option.some renaming injEq->au
namespace Go.Proofs.YtjoalkgmgmmedaaGreatDoor
open RowKit
variable {t:Int}{l:List Nat}{B b i m n p:Nat}{T:Nat->Int}{f:Nat->Mv}{g o:Nat->Nat}{w w':ai}
def bg (f:Nat->Mv)(o:Nat->Nat)(T:Nat->Int)(p:Nat):Nat->Int
 |0=>(f p).cE
 |k+1=>if bg f o T p k<T (o k)+(f<|o k).pO (f p)then T (o k)+(f<|o k).pO (f p)else bg f o T p k
def jk (m:Mv)(t:Int):Int:=if m.prom=-1 then t else m.prom
def jD (m:Mv)(t:Int):Bool:=decide (t<=if m.prom=-1 then m.late else m.prom)
def eT (f:Nat->Mv)(o:Nat->Nat):Nat->Option (Nat->Int)
 |0=>some λ_=>0
 |i+1=>match eT f o i with
  |none=>none
  |some T=>if jD (f<|o i) (bg f o T (o i) i)then some (λp=>if p=o i then jk (f<|o i) (bg f o T (o i) i)else T p)else none
def Mb (h:eT f o i=none):∀n,i<=n->eT f o n=none:=by
 intro n r;induction n with
 |zero=>
  grind
 |succ n u=>
  grind [eT]
def DL (h:eT f o i=some T)(hk:jD (f<|o i) (bg f o T (o i) i)=false)(r:i<n):eT f o n=none:=
 Mb (i:=i+1) (by simp only[eT,h,hk];rfl) n ab
def yY (h:eT f o i=some T)(hk:jD (f<|o i) (bg f o T (o i) i)):
  eT f o (i+1)=some (λp=>if p=o i then jk (f<|o i) (bg f o T (o i) i)else T p):=by
 grind [eT]
def pb {f o T p}(u:0<=(f p).cE/\(f p).cE<=10000)(r:∀q,0<=T q/\T q<=10000):∀k,0<=bg f o T p k/\bg f o T p k<=10004
 |0=>by simp only[bg];omega
 |k+1=>by
  have v:=pb u r k (o:=o);have y:=ky (f<|o k).ax (f<|o k).aI (f p).aI;have A:=xO (f<|o k).ax (f<|o k).aI (f p).aI;have C:=r<|o k;have e:bg f o T p (k+1)=if bg f o T p k<T (o k)+(f<|o k).pO (f p)then T (o k)+(f<|o k).pO (f p)else bg f o T p k:=rfl
  have g:(f<|o k).pO (f p)=rP (f<|o k).ax (f<|o k).aI (f p).aI:=rfl;rw[e,g];split<;>omega
def Qh {m}(e:m.ok)(k:0<=t)(j:jD m t):0<=jk m t/\jk m t<=10000:=by
 have q:=Mv.gj e;unfold jD at j;unfold jk;grind
def DK (r:aG f n)(ho:∀i,i<n->o i<n):∀i (T:Nat->Int),i<=n->eT f o i=some T->∀p,0<=T p/\T p<=10000
 |0,T,_,h,p=>by simp only[eT,au]at h;subst h;simp
 |i+1,T,y,h,p=>by
  cases e:eT f o i with
  |none=>simp only[eT,e]at h;cases h
  |some S=>
   have hS:=DK r ho i S ab e;simp only[eT,e]at h;split at h
   .rename_i hk;simp only[au]at h;subst h;have u:=bd r (o i)<|ho i ab;have hb:=Mv.gj u;have v:=pb (o:=o) (p:=o i) ⟨hb.1,ab⟩ hS i;have:=Qh u v.1 hk;by_cases c:p=o i
    .simp only[if_pos c];exact this
    .simp only[if_neg c];exact hS p
   .cases h
section
variable {b d:Bool}
def h_ {a c:Int}(h:a=c)(e:b=d):ac (ay #[a,b])=ac (ay #[c,d]):=by rw[h,e]
def acl {p:Prop}(x9:p:=by
  go_enter Tz.func226,Tryz.ntmps226
  go_wp2;refine nl ?_;intro w1 bL;go_wp2;go_ret2
  exact⟨h_ HV.out.symm HB.out.symm,hA.trans<|bL.mono hA.size⟩):p:=x9
def Qi (m)(t:Int)(w):
  aL Tz.prog 226 #[.agg #[m.name,m.ax,m.aI,m.cE,m.late,m.prom],t] w λe w'=>e=ac (ay #[ao .i64<|jk m t,.bool<|jD m t])/\ad w w w':=by
 have hA:ad w w (w.alloc<|.cells #[m.name,m.ax,m.aI,m.cE,m.late,m.prom] 55):=(afB _ _).alloc ab _;have r:(w.alloc<|.cells #[m.name,m.ax,m.aI,m.cE,m.late,m.prom] 55).cell? ⟨w.heap.size,4,none⟩=some (ao .i64 m.late):=aP;have u:(w.alloc<|.cells #[m.name,m.ax,m.aI,m.cE,m.late,m.prom] 55).cell? ⟨w.heap.size,5,none⟩=some (ao .i64 m.prom):=aP;have v:=aM<|w.alloc<|.cells #[m.name,m.ax,m.aI,m.cE,m.late,m.prom] 55;have A:=λx:an _=>x.cell r
 have C:=λx:an _=>x.cell u
 by_cases y:m.prom=-1
 .have z:(m.prom !=-1)=false:=cO;have j:jk m t=t:=by unfold jk;omega
  have HV:Hid (jk m t=t):=j;have k:jD m t=decide (t<=m.late):=by unfold jD;grind
  have HB:Hid _:=k;clear j k y;exact acl
 have z:(m.prom !=-1)=true:=cO;have j:jk m t=m.prom:=by unfold jk;omega
 have HV:Hid (jk m t=m.prom):=j;have k:jD m t=decide (t<=m.prom):=by unfold jD;grind
 have HB:Hid (jD m t=decide (t<=m.prom)):=k;exact acl
def Q9 (a p)(v bl:Nat)(b off n cap f)(tb:Nat)(T w)(y:a<n)(J:p<n)(hn:n<=1048576)
  (N:0<=T a/\T a<=10000)
  (O:w.cell? v=some (aa tb n n))(R:w.cell? bl=some (aa (some ⟨b,off,none⟩) n cap))(A:aK w b off n f)(U:aC w tb n T):
  aL Tz.prog 225 #[ao .i64 a,ao .i64 p,.pointer v,.pointer bl] w λe w'=>e=ac (ao .i64<|T a+(f a).pO (f p))/\ad w w w':=by
 have C:=ky (f a).ax (f a).aI (f p).aI;have D:=xO (f a).ax (f a).aI (f p).aI;have Y:1<=(f a).pO (f p)/\(f a).pO (f p)<=4:=⟨C,D⟩;let⟨C,D⟩:=Y;let⟨Z,aF⟩:=N;have aV:(a:Int)<n:=ab;have PS:(p:Int)<n:=ab;have r:=A a y;have u:=A p J;have aZ:=aM w;have x0:=λx:an w=>x.cell O
 have x1:=λx:an w=>x.cell R
 have x2:=λx:an w=>x.cell<|U.cellAt a y
 have a0:=λx:an w=>x.cell r.c0
 have a1:=λx:an w=>x.cell r.c1
 have a2:=λx:an w=>x.cell r.c2
 have a3:=λx:an w=>x.cell r.c3
 have a4:=λx:an w=>x.cell r.c4
 have a5:=λx:an w=>x.cell r.c5
 have b0:=λx:an w=>x.cell u.c0
 have b1:=λx:an w=>x.cell u.c1
 have b2:=λx:an w=>x.cell u.c2
 have b3:=λx:an w=>x.cell u.c3
 have b4:=λx:an w=>x.cell u.c4
 have b5:=λx:an w=>x.cell u.c5
 go_enter Tz.func225,Tryz.ntmps225
 go_wp2;refine bf ?_;repeat(go_big_quiet_step ((go_at_call 140;exact cj<|qv (f a) (f p) _)))
 refine aN<|cJ ?_;intro w1 bL;go_wp2;go_ret;simp_all
end
def nA (r:Option (Nat->Int))(n:Nat)(w:ai)(e:Ending)(w':ai):Prop:=
 match r with
 |some T=>∃B j,w.heap.size<=B/\e=ac (ay #[aa B n j,true])/\aC w' B n T/\n<=j
 |none=>∃a j,e=ac (ay #[aa a 0 j,false])
def SP (r:Option (Nat->Int))(n:Nat)(w:ai)(e:Ending)(w':ai):Prop:=
 match r with
 |some T=>∃B,w.heap.size<=B/\e=ac (ay #[aa B n n,true])/\aC w' B n T
 |none=>e=ac (ay #[(),false])
def DM (b off n cap:Nat)(f)(N R cap':Nat)(o)(w:ai)(Y:aG f n)(ho:∀i,i<n->o i<n)(PC:n<=cap')(Z:b<w)(aB:aK w b off n f)(bz:N<w)(aV:aD w N R n (λi=>(o i:Int))):
  aL Tz.prog 219 #[aa (some ⟨N,R,none⟩) n cap',aa (some ⟨b,off,none⟩) n cap] w λe w'=>SP (eT f o n) n w e w'/\ad w w w':=by
 have h6:=bX Y;have HM:Hid (aG f n=true):=Y;clear Y;have Oi:=vD n ab;go_enter Tz.func219,Tryz.ntmps219
 go_wp2;go_loopw [21] (λi wr=>∃(k:Nat) (T:Nat->Int),k<=n/\i=ao .i64 k/\eT f o k=some T/\aC wr (w.heap.size+1) n T/\wr.cell? ⟨w.heap.size,0,none⟩=some (aa (some ⟨b,off,none⟩) n cap)/\wr.cell? ⟨w.heap.size+1+1,0,none⟩=some (aa (some ⟨w.heap.size+1,0,none⟩) n n)/\ad w.heap.size w wr) (λi _=>n-(intOf i).toNat)
 .refine⟨0,_,afP _,rfl,rfl,?_,by simp[go_sem],by simp[go_sem],(((afB _ w).alloc ab _).alloc aP _).alloc dj _⟩;have:=nS (w.alloc<|.cells #[aa (some ⟨b,off,none⟩) n cap] 26) n;simp[World.size_alloc]at this;exact this.below ((afB _ _).alloc ab _) this.lt
 obtain⟨k,T,hk,rfl,hT,v,A,C,r⟩:=hrel;have HT:Hid (eT f o k=some T):=hT;clear hT;have O:=DK HM.out ho k T hk HT.out;by_cases aF:k<n
 .have dV:(k:Int)<n:=by omega
  have D:=ho k aF;have PS:((o k:Nat):Int)<n:=ab;have hc:wr.cell? ⟨N,R+k,none⟩=some (ao .i64 ((o k:Nat):Int)):=(aV.below r bz) k aF;have eF:=bd HM.out (o k) D;let⟨z0,z1,z2,z3,z4,z5⟩:=Mv.gj eF;have Xb:=(aB.below r Z) (o k) D;have c3:=Xb.c3;have a0:(k:Int)<=cap':=ab;go_wp2;go_loopw [10,35] (λl j wr=>∃q:Nat,q<=k/\j=ao .i64 q/\l=ao .i64 (bg f o T (o k) q)/\aC wr (w.heap.size+1) n T/\wr.cell? w.heap.size=some (aa (some ⟨b,off,none⟩) n cap)/\wr.cell? ⟨w.heap.size+1+1,0,none⟩=some (aa (some ⟨w.heap.size+1,0,none⟩) n n)/\ad w w wr) (λ_ j _=>k-(intOf j).toNat)
  .exact⟨0,afP _,rfl,rfl,v,A,C,r⟩
  obtain⟨q,hq,rfl,rfl,v,A,C,r⟩:=hrel;have ax:=pb (o:=o) (p:=o k) ⟨z0,ab⟩ O q;let⟨a1,Ug⟩:=ax;have U:=v.lt;have fZ:=av A;have FP:=av C;by_cases E6:q<k
  .have Ui:(q:Int)<k:=by omega
   have ha:=ho q ab;have a2:wr.cell? ⟨N,R+q,none⟩=some (ao .i64 ((o q:Nat):Int)):=(aV.below r bz) q ab;have nO:1<=(f<|o q).pO (f<|o k):=ky _ _ _;have jC:(f<|o q).pO (f<|o k)<=4:=xO _ _ _;let⟨t0,t1⟩:=O<|o q;have HL:Hid (bg f o T (o k) (q+1)=if bg f o T (o k) q<T (o q)+(f<|o q).pO (f<|o k)then T (o q)+(f<|o q).pO (f<|o k)else bg f o T (o k) q):=rfl;have HC:=Q9 (o q) (o k) (w.heap.size+1+1) w.heap.size b off n cap f (w.heap.size+1) T wr ha D ab ⟨t0,t1⟩ C A (aB.below r Z) v;by_cases Zo:bg f o T (o k) q<T (o q)+(f<|o q).pO (f<|o k);all_goals
    go_wp2_with(go_at_call 225;refine HC.mono ?_;clear HC;rintro e w1 ⟨rfl,u⟩)
    go_roundw
    .exact⟨q+1,ab,by go_num,by rw[HL.out];first|rw[if_pos Zo]|rw[if_neg ab],v.below u U,(u.cell fZ).trans A,(u.cell FP).trans C,r.trans<|u.mono r.size⟩
    exact cD
  have ZD:q=k:=by omega
  subst ZD;let⟨c0,c1,c2,c3,c4,c5⟩:=(aB.below r Z) (o q) D;have hd:=v.cellAt (o q) D;have AQ:=v.frozen<|o q;have J:=Qi (f<|o q) (bg f o T (o q) q) wr;cases y:jD (f<|o q) (bg f o T (o q) q)with
  |true=>
   have HE:Hid (eT f o (q+1)=some (λp=>if p=o q then jk (f<|o q) (bg f o T (o q) q)else T p)):=yY HT.out y;rw[y]at J;go_wp2_with(go_at_call 226;refine J.mono ?_;clear J;rintro e w1 ⟨rfl,u⟩;have a3:=(u.cell U).trans hd;have ue:=(u.frozen U).trans AQ;have aI:=(u.cell FP).trans C;have aZ:=(u.cell fZ).trans A)
   have gr:=v.below u U;go_roundw
   .exact⟨q+1,_,ab,by go_num,HE.out,gr.set (o q) D _,(World.cell?_setCell_other _ _ _ _ aP).trans aZ,(World.cell?_setCell_other _ _ _ _ aP).trans aI,(r.trans<|u.mono r.size).setCell aP _⟩
   exact cD
  |false=>
   have HE:Hid (eT f o n=none):=DL HT.out y aF;rw[y]at J;go_wp2_with(go_at_call 226;refine J.mono ?_;clear J;rintro e w1 ⟨rfl,u⟩)
   go_ret2
   refine⟨?_,r.trans<|u.mono r.size⟩;rw[HE.out];exact rfl
 have tM:k=n:=by omega
 subst tM;go_wp2;go_ret2
 refine⟨?_,r⟩;rw[HT.out];exact⟨w.heap.size+1,ab,rfl,v⟩
section
variable {a b:Mv}{s:Int}
def np {S}:∀j,(∀k,k<j->T (o k)=S (o k))->bg f o T p j=bg f o S p j
 |0,_=>rfl
 |j+1,h=>by
  simp only[bg];rw[np j (λk hk=>h k ab),h j ab]
def mV {f o T p}:∀j,(f p).cE<=bg f o T p j/\(∀k,k<j->T (o k)+(f<|o k).pO (f p)<=bg f o T p j)/\(bg f o T p j=(f p).cE\/∃k,k<j/\bg f o T p j=T (o k)+(f<|o k).pO (f p))
 |0=>⟨Int.le_refl _,λk hk=>absurd hk<|afO _,.inl rfl⟩
 |j+1=>by
  let⟨v,u,r⟩:=mV (f:=f) (o:=o) (T:=T) (p:=p) j;simp only[bg];split
  .rename_i y;refine⟨by omega,λk hk=>?_,.inr ⟨j,by omega,rfl⟩⟩;by_cases e:k=j
   .subst e;omega
   .have:=u k (by omega);omega
  .rename_i y;refine⟨v,λk hk=>?_,?_⟩
   .by_cases e:k=j
    .subst e;omega
    .exact u k (by omega)
   .rcases r with r|⟨k,hk,r⟩
    .exact .inl r
    .exact .inr ⟨k,by omega,r⟩
def Cj:∀i (T:Nat->Int),eT f o i=some T->(∀j k,j<k->k<i->o j≠o k)->∀j,j<i->jD (f<|o j) (bg f o T (o j) j)/\T (o j)=jk (f<|o j) (bg f o T (o j) j)
 |0,_,_,_,j,v=>absurd v (afO _)
 |i+1,T,h,y,j,v=>by
  cases e:eT f o i with
  |none=>simp only[eT,e]at h;cases h
  |some S=>
   have A:=Cj i S e λj k C D=>y j k C ab;simp only[eT,e]at h;split at h
   .rename_i hk;simp only[au]at h;have r:∀k,k<i->T (o k)=S (o k):=λk hk=>by
     rw[<-h];simp only[if_neg (y k i hk ab)]
    by_cases c:j=i
    .subst c;have u:bg f o T (o j) j=bg f o S (o j) j:=np j r;rw[u];exact⟨hk,by rw[<-h];simp⟩
    .have u:bg f o T (o j) j=bg f o S (o j) j:=np j λk hk=>r k ab;rw[u,r j ab];exact A j ab
   .cases h
def La (h:s+a.pO b<=t):a.iJ b s t=false/\b.iJ a t s=false:=by
 have g:=ky a.ax a.aI b.aI;unfold Mv.pO at h;have e:=kC a.ax a.aI b.ax b.aI s t;have j:=kC b.ax b.aI a.ax a.aI t s;unfold Mv.iJ;grind
def Gr (h:a.iJ b s t=false):(s<=t->s+a.pO b<=t)/\(t<=s->t+b.pO a<=s):=by
 have e:=kC a.ax a.aI b.ax b.aI s t;unfold Mv.iJ at h;unfold Mv.pO;grind
structure acF (f)(o:Nat->Nat) n (T):Prop where
 fit:fX f T n
 up:∀i j,i<j->j<n->T (o i)<T (o j)
 least:∀i,i<n->¬fX f (λp=>if p=o i then T p-1 else T p) n
def vq (U:aG f n)(ho:∀i,i<n->o i<n)(A:∀j k,j<k->k<n->o j≠o k)(h:eT f o n=some T):acF f o n T:=by
 have Z:∀j,j<n->bg f o T (o j) j<=T (o j)/\T (o j)<=(f<|o j).late/\(f<|o j).cE<=T (o j)/\((f<|o j).prom=-1/\T (o j)=bg f o T (o j) j\/(f<|o j).prom=T (o j)):=λj u=>by
  let⟨y,Y⟩:=(Cj n T h A) j u;have hb:=Mv.gj<|bd U (o j)<|ho j u;have hl:=(mV (f:=f) (o:=o) (T:=T) (p:=o j) j).1;unfold jD at y;unfold jk at Y;grind
 have C:∀i j,i<j->j<n->T (o i)+(f<|o i).pO (f<|o j)<=T (o j):=λi j r u=>by
  have y:=(mV (f:=f) (o:=o) (T:=T) (p:=o j) j).2.1 i r;grind
 have hs:=BK n o ho A;refine⟨⟨λp hp=>?_,λq p D hq=>?_⟩,λi j r u=>?_,λi v J=>?_⟩
 .unfold Mv.ga AH jj;grind
 .obtain⟨i,v,rfl⟩:=hs p ab;obtain⟨j,u,rfl⟩:=hs q hq;rcases Nat.lt_trichotomy i j with r|r|r
  .exact(La<|C i j r u).1
  .subst r;exact absurd D ab
  .exact(La<|C j i r v).2
 .have y:=C i j r u;have g:=ky (f<|o i).ax (f<|o i).aI (f<|o j).aI;unfold Mv.pO at y;omega
 let⟨y,Y,h3,h4⟩:=Z i v;have hb:=Mv.gj<|bd U (o i)<|ho i v;have N:=J.1 (o i)<|ho i v;simp at N;unfold Mv.ga AH jj at N;simp at N;rcases h4 with⟨e,hl⟩|e
 .rcases(mV (f:=f) (o:=o) (T:=T) (p:=o i) i).2.2 with hh|⟨k,hk,hh⟩
  .omega
  have O:=A k i hk v;have g:=ky (f<|o k).ax (f<|o k).aI (f<|o i).aI;have aB:(f<|o k).pO (f<|o i)=rP (f<|o k).ax (f<|o k).aI (f<|o i).aI:=rfl;rcases Nat.lt_or_gt_of_ne O with R|R
  .have:=(Gr<|J.2 (o i) (o k) R<|ho i v).1;simp at this;omega
  .have:=(Gr<|J.2 (o k) (o i) R<|ho k ab).2;simp at this;omega
 .omega
end
def pl (l:List Nat)(i:Nat):Nat:=l.getD i 0
def rH (x:Nat)(p:Nat):Nat:=if x<=p then p+1 else p
def ba:Nat->List (List Nat)
 |0=>[[]]
 |n+1=>(List.range<|n+1).flatMap λx=>(ba n).map λl=>x::l.map (rH x)
def U0 x (l):pl (x::l) 0=x:=rfl
def xZ x (l) i:pl (x::l) (i+1)=pl l i:=rfl
def Lp x (l) i (h:i<l.length):pl (l.map<|rH x) i=rH x (pl l i):=by
 grind [pl,List.getD]
def Gj:l∈ba (n+1)<->∃x,x<n+1/\∃e,e∈ba n/\l=x::e.map (rH x):=by
 simp[ba];grind
def io:∀{n:Nat} {l:List Nat},l∈ba n->l.length=n/\(∀i,i<n->pl l i<n)/\∀i j,i<j->j<n->pl l i≠pl l j
 |0,l,h=>by
  simp[ba]at h;subst h;exact⟨rfl,λi h=>absurd h<|afO _,λi j _ h=>absurd h<|afO _⟩
 |n+1,l,h=>by
  obtain⟨x,e,y,k,rfl⟩:=Gj.1 h;let⟨q,r,u⟩:=io k;refine⟨by simp[q],λi z=>?_,λi j A C=>?_⟩
  .cases i with
   |zero=>exact e
   |succ i=>
    rw[xZ,Lp _ _ _ ab];have:=r i ab;unfold rH;split<;>omega
  .obtain⟨j,rfl⟩:∃v,j=v+1:=⟨j-1,ab⟩;rw[xZ,Lp _ _ _ ab];cases i with
   |zero=>rw[U0];unfold rH;split<;>omega
   |succ i=>
    rw[xZ,Lp _ _ _ ab];have:=u i j ab ab;unfold rH;split<;>split<;>omega
def Fh:∀{n:Nat} {g:Nat->Nat},(∀i,i<n->g i<n)->(∀i j,i<j->j<n->g i≠g j)->∃l,l∈ba n/\∀i,i<n->pl l i=g i
 |0,g,_,_=>⟨[],by simp[ba],λi h=>absurd h<|afO _⟩
 |n+1,g,h1,e=>by
  let⟨l,q,r⟩:=Fh (n:=n) (g:=λi=>if g 0<g (i+1)then g (i+1)-1 else g (i+1)) (λi u=>by
   have a:=h1 0 ab;have b:=h1 (i+1) ab;have c:=e 0 (i+1) ab ab;split<;>omega) (λi j v y=>by
   have a:=e 0 (i+1) ab ab;have b:=e 0 (j+1) ab ab;have c:=e (i+1) (j+1) ab ab;split<;>split<;>omega)
  refine⟨g 0::l.map (rH<|g 0),Gj.2 ⟨_,h1 0 ab,l,q,rfl⟩,λi u=>?_⟩;cases i with
  |zero=>rfl
  |succ i=>
   rw[xZ,Lp _ _ _ (by rw[(io q).1];omega),r i ab];have a:=e 0 (i+1) ab ab;unfold rH;split<;>split<;>omega
def jl (g:Nat->Nat):Nat->Option Nat
 |0=>none
 |m+1=>if g (m+1)<g m then jl g m else some m
def mc (g:Nat->Nat)(x:Nat):Nat->Nat
 |0=>0
 |m+1=>if g (m+1)<x then mc g x m else m+1
def LG (g:Nat->Nat)(i j:Nat)(k:Nat):Nat:=if k=j then g i else if k=i then g j else g k
def LJ (n:Nat)(g:Nat->Nat)(i:Nat)(k:Nat):Nat:=if k<=i then g k else g (n+i-k)
def nV (n:Nat)(g:Nat->Nat):Option (Nat->Nat):=
 match jl g (n-1)with
 |none=>none
 |some i=>some<|LJ n (LG g i<|mc g (g i)<|n-1) i
def YP (n:Nat)(g h:Nat->Nat):Bool:=(List.range n).all λi=>Nat.beq (g i)<|h i
def lU {h}:YP n g h<->∀i,i<n->g i=h i:=by
 simp[YP]
def jd (n:Nat):List (List Nat)->Bool
 |[]=>true
 |l::r=>(match nV n (pl l),r.head? with
  |none,none=>true
  |some g,some e=>YP n g (pl e)
  |_,_=>false)&&jd n r
def Yx:jd 0 (ba 0):=aO
def Yy:jd 1 (ba 1):=aO
def Yz:jd 2 (ba 2):=aO
def YA:jd 3 (ba 3):=aO
def YB:jd 4 (ba 4):=aO
def YC:jd 5 (ba 5):=aO
def YD:jd 6 (ba 6):=aO
def OU (h:n<=6):jd n (ba n):=by
 obtain rfl|rfl|rfl|rfl|rfl|rfl|rfl:n=0\/n=1\/n=2\/n=3\/n=4\/n=5\/n=6:=ab
 .exact Yx
 .exact Yy
 .exact Yz
 .exact YA
 .exact YB
 .exact YC
 exact YD
def yQ:∀{L:List (List Nat)},jd n L->∀{k:Nat} {l:List Nat},L[k]?=some l->(∀e,L[k+1]?=some e->∃g,nV n (pl l)=some g/\∀i,i<n->g i=pl e i)/\(L.length<=k+1->nV n (pl l)=none)
 |[],_,k,l,h=>by simp at h
 |a::r,u,k,l,h=>by
  rw[jd,agd]at u;cases k with
  |succ k=>
   have:=yQ u.2 (k:=k) (l:=l) Iv;exact⟨λe h'=>this.1 e<|by simpa using h',λh'=>this.2<|by simpa using h'⟩
  |zero=>
   simp at h;subst h;have j:=u.1;cases r with
   |nil=>
    refine⟨λe h'=>by simp at h',λ_=>?_⟩;cases q:nV n (pl a)with
    |none=>rfl
    |some g=>rw[q]at j;simp at j
   |cons b r=>
    refine⟨λe h'=>?_,λh'=>by simp at h'⟩;simp at h';subst h';cases q:nV n (pl a)with
    |none=>rw[q]at j;simp at j
    |some g=>rw[q]at j;exact⟨g,rfl,lU.1 j⟩
def Im:∀n,n<=6->∃l,(ba n)[0]?=some l/\∀i,i<n->pl l i=i:=by
 intro n h;obtain rfl|rfl|rfl|rfl|rfl|rfl|rfl:n=0\/n=1\/n=2\/n=3\/n=4\/n=5\/n=6:=ab
 .exact⟨[],aO,λi h=>absurd h ab⟩
 .exact⟨[0],aO,lU.1 aO⟩
 .exact⟨[0,1],aO,lU.1 aO⟩
 .exact⟨[0,1,2],aO,lU.1 aO⟩
 .exact⟨[0,1,2,3],aO,lU.1 aO⟩
 .exact⟨[0,1,2,3,4],aO,lU.1 aO⟩
 exact⟨[0,1,2,3,4,5],aO,lU.1 aO⟩
def ku:∀n,n<=6->(ba n).length<=720/\0<(ba n).length:=by
 intro n h;obtain rfl|rfl|rfl|rfl|rfl|rfl|rfl:n=0\/n=1\/n=2\/n=3\/n=4\/n=5\/n=6:=ab
 .have e:(ba 0).length=1:=by kernel_rfl
  omega
 .have e:(ba 1).length=1:=by kernel_rfl
  omega
 .have e:(ba 2).length=2:=by kernel_rfl
  omega
 .have e:(ba 3).length=6:=by kernel_rfl
  omega
 .have e:(ba 4).length=24:=by kernel_rfl
  omega
 .have e:(ba 5).length=120:=by kernel_rfl
  omega
 have e:(ba 6).length=720:=by kernel_rfl
 omega
section
variable {a b c:Option (List Int)}{g h:Nat->Int}
def iI:List Int->List Int->Bool
 |a::l,b::r=>if a=b then iI l r else decide (a<b)
 |_,_=>false
def wP:∀l,iI l l=false
 |[]=>rfl
 |a::l=>by simp[iI,wP l]
theorem s9:∀{a b c:List Int},iI a b->iI b c->iI a c
 |[],_,_,h,_=>by simp[iI]at h
 |_::_,[],_,h,_=>by simp[iI]at h
 |_::_,_::_,[],_,h=>by simp[iI]at h
 |x::a,y::b,z::c,h,e=>by
  simp only[iI]at h e⊢;split at h<;>split at e<;>split
  .exact s9 h e
  .omega
  .omega
  .exact e.trans dj|>λ_=>by simp at e⊢;omega
  .simp at h e;omega
  .simp at h⊢;omega
  .simp at h e;omega
  .simp at h e⊢;omega
def zP:∀{a b:List Int},a.length=b.length->iI a b=false->iI b a=false->a=b
 |[],[],_,_,_=>rfl
 |[],_::_,h,_,_=>by simp at h
 |_::_,[],h,_,_=>by simp at h
 |x::a,y::b,k,h,j=>by
  simp only[iI]at h j;split at h
  .rename_i e;subst e;rw[if_pos rfl]at j;rw[zP (by simpa using k) h j]
  .rename_i e;rw[if_neg (λq=>e q.symm)]at j;simp at h j;omega
def eb:Option (List Int)->Option (List Int)->Bool
 |some a,some b=>iI a b
 |some _,none=>true
 |none,_=>false
theorem fC (a):eb a a=false:=by cases a<;>simp[eb,wP]
theorem qH (h:eb a b)(e:eb b c):eb a c:=by
 cases a<;>cases b<;>cases c<;>simp_all [eb]
 exact s9 h e
def M7 (hb:∀l,b=some l->l.length=m)(hc:∀l,c=some l->l.length=m)(h:eb a b=false)(e:eb c b)(q:∀l,a=some l->l.length=m):eb a c=false:=by
 grind [qH]
def pj (r:∀l,a=some l->l.length=m)(hb:∀l,b=some l->l.length=m)(hc:∀l,c=some l->l.length=m)(h:eb a b=false)(q:eb b c=false):eb a c=false:=by
 cases u:eb a c with
 |false=>rfl
 |true=>
  cases a with
  |none=>grind [eb]
  |some a=>
   cases b with
   |none=>assumption
   |some b=>
    cases c with
    |none=>assumption
    |some c=>
     simp only[eb]at*;cases e:iI c b with
     |true=>grind [s9]
     |false=>
      have:=zP ((hb _ rfl).trans (hc _ rfl).symm) q e;grind
def jv (g:Nat->Int):Nat->Nat->List Int
 |0,_=>[]
 |f+1,k=>g k::jv g f (k+1)
theorem qN (g):∀f k,(jv g f k).length=f
 |0,_=>rfl
 |f+1,k=>by simp[jv,qN g f]
def Au:∀f k,(∀i,k<=i->i<k+f->g i=h i)->jv g f k=jv h f k
 |0,_,_=>rfl
 |f+1,k,e=>by rw[jv,jv,e k ab ab,Au f (k+1) λi r u=>e i ab ab]
def GZ:∀f k,jv g f k=jv h f k->∀i,k<=i->i<k+f->g i=h i
 |0,_,_,i,h1,r=>ab
 |f+1,k,e,i,h1,r=>by
  rw[jv,jv,List.cons.injEq]at e;by_cases u:i=k
  .subst u;exact e.1
  .exact GZ f (k+1) e.2 i ab ab
def gZ (f:Nat->Mv)(n:Nat)(T:Nat->Int):List Int:=sumTo f T n::cZ f T n::jv T n 0
def fA (f:Nat->Mv)(n:Nat)(b:Option (Nat->Int))(l:List Nat):Option (Nat->Int):=
 match eT f (pl l) n with
 |none=>b
 |some T=>match b with
  |none=>some T
  |some S=>if iI (gZ f n T) (gZ f n S)then some T else some S
def fL (f:Nat->Mv)(n:Nat)(L:List (List Nat)):Option (Nat->Int):=L.foldl (fA f n) none
def qz (f) n (T):(gZ f n T).length=n+2:=by simp[gZ,qN]
def rr (f) n (o:Option (Nat->Int)):∀l,o.map (gZ f n)=some l->l.length=n+2:=by
 intro l h;cases o with
 |none=>grind
 |some T=>simp at h;rw[<-h];exact qz f n T
def Ir (f) n (b l):
  (fA f n b l=b\/fA f n b l=eT f (pl l) n)/\eb (b.map<|gZ f n) ((fA f n b l).map<|gZ f n)=false/\eb ((eT f (pl l) n).map<|gZ f n) ((fA f n b l).map<|gZ f n)=false:=by
 unfold fA;cases h:eT f (pl l) n with
 |none=>exact⟨.inl rfl,fC _,rfl⟩
 |some T=>
  cases b with
  |none=>exact⟨.inr rfl,rfl,fC _⟩
  |some S=>
   by_cases r:iI (gZ f n T) (gZ f n S)=true
   .simp only[r];refine⟨.inr cO,?_,fC _⟩;cases hq:eb (some<|gZ f n S) (some<|gZ f n T)with
    |false=>exact hq
    |true=>exact absurd (qH (a:=some<|gZ f n T) (b:=some<|gZ f n S) r hq)<|by grind [fC]
   simp only[r];exact⟨.inl rfl,fC _,by grind [eb]⟩
def yI (f) n:∀(L:List (List Nat)) (b:Option (Nat->Int)),(L.foldl (fA f n) b=b\/∃l∈L,L.foldl (fA f n) b=eT f (pl l) n)/\eb (b.map<|gZ f n) ((L.foldl (fA f n) b).map<|gZ f n)=false/\∀l∈L,eb ((eT f (pl l) n).map<|gZ f n) ((L.foldl (fA f n) b).map<|gZ f n)=false
 |[],b=>⟨.inl rfl,fC _,λl v=>by simp at v⟩
 |l::L,b=>by
  let⟨y,A,C⟩:=Ir f n b l;let⟨D,u,J⟩:=yI f n L<|fA f n b l;rw[List.foldl_cons];refine⟨?_,pj (rr f n _) (rr f n _) (rr f n _) A u,λx r=>?_⟩
  .rcases D with e|⟨x,r,e⟩
   .rw[e];exact y.elim .inl λe=>.inr ⟨l,aP,e⟩
   .exact .inr ⟨x,by simp[r],e⟩
  .rcases List.mem_cons.1 r with rfl|r
   .exact pj (rr f n _) (rr f n _) (rr f n _) C u
   .exact J x r
end
section
variable {x:Nat}{a:ai}
def ox.drew (h:ox B a w):ox B a w.drew:=⟨h.size,h.block⟩
theorem ox.drewN (h:ox B a w) q:ox B a (w.drewN q):=⟨h.size,h.block⟩
theorem aC.drewN {g}(h:aC w b n g) q:aC (w.drewN q) b n g:=h
def below_drewN (h:ad B a w) q:ad B a (w.drewN q):=⟨h.os,h.tape,h.output,h.size,h.block⟩
def aC.drew {g}(h:aC w b n g):aC w.drew b n g:=h
def Lu (h:Nat->Int)(m k:Nat)(y:Nat):Int:=if y<k\/m<=y+k then h (m-1-y)else h y
def Aa (g:Nat->Int)(off:Nat)(r:Nat->Int)(x:Nat):Int:=if x<off then g x else r (x-off)
def GQ (b n off m cap g w)(L:n<=1048576)(E:off+m=n)(u:aC w b n g):
  aL Tz.prog 224 #[aa (some ⟨b,off,none⟩) m cap] w λe w'=>(∃v,e=ac v)/\aC w' b n (Aa g off λy=>g<|off+(m-1-y))/\ox b w w'/\ad b w w':=by
 have M:=u.lt;go_enter Tz.func224,Tryz.ntmps224
 go_wp2;go_loopw [2,3] (λx y wr=>∃k:Nat,2*k<=m+1/\x=ao .i64 k/\y=ao .i64 ((m:Int)-1-k)/\aC wr b n (Aa g off<|Lu (λy=>g<|off+y) m k)/\ox b w wr/\ad b w wr) (λx _ _=>m-(intOf x).toNat)
 .exact⟨0,ab,rfl,aP,u.congr (λi z=>by unfold Aa Lu;split;rfl;rw[if_neg ab];congr 1;omega),ox.refl _ _,afB _ _⟩
 obtain⟨k,N,rfl,rfl,r,A,C⟩:=hrel;by_cases O:2*k+1<m
 .obtain⟨q,P⟩:∃q,m=q+k+1:=⟨m-1-k,ab⟩;have F:((m:Int)-1-k)=(q:Int):=ab;have Q:(k:Int)<q:=ab;have G:(q:Int)<m:=ab;have J:(k:Int)<m:=ab;have R:=r.cellAt (off+k) ab;have S:=r.cellAt (off+q) ab;have U:=λj=>r.frozen j
  rw[F];go_wp2;go_region
  all_goals
   go_wp2;go_roundw
   .refine⟨k+1,ab,by go_num,by first|(congr 1;omega)|(go_num),?_,(A.setCell _ _).setCell _ _|>.drew,((C.setCell (afK _) _).setCell (afK _) _).drew⟩;refine aC.drew<|((r.set (off+k) ab _).set (off+q) ab _).congr λi z=>?_;unfold Aa Lu;grind
   exact cD
 go_wp2;go_end0
 refine⟨⟨_,rfl⟩,r.congr λi z=>?_,A,C⟩;unfold Aa Lu;by_cases D:i<off
 .omega
 rw[if_neg D,if_neg D];by_cases K:i-off<k\/m<=i-off+k
 .simp_all
 rw[if_neg K];congr 1;omega
def Eq (h:g (m+1)<g m):jl g (m+1)=jl g m:=by simp[jl,h]
def Ep (h:¬g (m+1)<g m):jl g (m+1)=some m:=by simp[jl,h]
def F4 (h:g (m+1)<x):mc g x (m+1)=mc g x m:=by simp[mc,h]
def F3 (h:¬g (m+1)<x):mc g x (m+1)=m+1:=by simp[mc,h]
def VJ (g){k q}(e:i<n)(j:k+1<n)(r:k<q):Aa (λi=>if i=q then(g k:Int)else if i=k then(g q:Int)else(g i:Int)) (k+1) (λy=>(λi=>if i=q then(g k:Int)else if i=k then(g q:Int)else(g i:Int))<|k+1+(n-(k+1)-1-y)) i=((LJ n (LG g k q) k i:Nat):Int):=by
 unfold Aa LJ LG;grind
def QA (b n cap g w)(L:n<=1048576)(PC:n<=cap)(G:aC w b n (λi=>(g i:Int))):
  aL Tz.prog 211 #[aa b n cap] w λe w'=>e=ac (.bool (nV n g).isSome)/\(∀g',nV n g=some g'->aC w' b n (λi=>(g' i:Int)))/\ox b w w'/\ad b w w':=by
 have oO:=G.lt;go_enter Tz.func211,Tryz.ntmps211
 go_wp2;rcases afX n with M|N
 .subst M;go_loopw [3] (λx wr=>x=ao .i64 (-2)/\wr=w) (λx _=>0)
  .exact⟨by go_num,rfl⟩
  obtain⟨rfl,rfl⟩:=hrel;go_wp2;go_quiet (fail)
  go_wp2;go_ret;exact⟨cY rfl,λg' h=>by simp[nV,jl]at h,(ox.refl _ _).drewN _,below_drewN (afB _ _) _⟩
 have O:0<n:=N;go_loopw [3] (λx wr=>∃k:Nat,x=ao .i64 ((k:Int)-1)/\k+1<=n/\jl g (n-1)=jl g k/\aC wr b n (λi=>(g i:Int))/\ox b w wr/\ad b w wr) (λx _=>(intOf x+1).toNat)
 .exact⟨n-1,by go_num,ab,rfl,G,ox.refl _ _,afB _ _⟩
 obtain⟨k,rfl,hk,A,r,u,v⟩:=hrel;cases k with
 |zero=>
  have J:nV n g=none:=by unfold nV;rw[A];rfl
  have y:Hid (nV n g=none):=J;clear J;go_wp2;go_quiet (fail)
  go_wp2;go_ret;exact⟨cY (by rw[y.out];rfl),λg' h=>absurd (y.out.symm.trans h) aP,u.drewN _,below_drewN v _⟩
 |succ k=>
  have P:(((k+1:Nat):Int)-1)=(k:Int):=ab;have tM:(k:Int)<n:=ab;have Q:(k:Int)+1<n:=ab;have R:=r.cellAt k ab;have S:=r.cellAt (k+1) ab;rw[P];by_cases C:g (k+1)<g k
  .have D:(((g (k+1):Nat):Int)<((g k:Nat):Int)):=by omega
   go_wp2;go_quiet (fail)
   go_wp2;go_roundw
   .exact⟨k,by go_num,ab,A.trans<|Eq C,r.drewN _,u.drewN _,below_drewN v _⟩
   simp[intOf]<;>omega
  have D:¬(((g (k+1):Nat):Int)<((g k:Nat):Int)):=by omega
  have z:jl g (n-1)=some k:=A.trans<|Ep C;have y:Hid (nV n g=some (LJ n (LG g k<|mc g (g k)<|n-1) k)):=by unfold nV;rw[z];exact rfl
  clear A z;go_wp2;go_quiet (fail)
  go_wp2;go_loopw [4] (λx W=>∃q:Nat,x=ao .i64 q/\k+1<=q/\q+1<=n/\mc g (g k) (n-1)=mc g (g k) q/\aC W b n (λi=>(g i:Int))/\ox b w W/\ad b w W) (λx _=>(intOf x).toNat)
  .exact⟨n-1,by go_num,ab,ab,rfl,r.drewN _,u.drewN _,below_drewN v _⟩
  obtain⟨q,rfl,U,V,K,r,u,v⟩:=hrel;have R:=r.cellAt k ab;have S:=r.cellAt q ab;have X:(q:Int)<n:=ab;by_cases E:g q<g k
  .have Y:(((g q:Nat):Int)<((g k:Nat):Int)):=by omega
   have Z:q≠k+1:=λe=>by subst e;exact C E
   obtain⟨q,rfl⟩:∃p,q=p+1:=⟨q-1,ab⟩;go_wp2;go_quiet (fail)
   go_wp2;go_roundw
   .exact⟨q,by go_num,ab,ab,K.trans<|F4 E,r.drewN _,u.drewN _,below_drewN v _⟩
   simp[intOf]
  have Y:¬(((g q:Nat):Int)<((g k:Nat):Int)):=by omega
  have F:mc g (g k) (n-1)=q:=by
   obtain⟨p,rfl⟩:∃p,q=p+1:=⟨q-1,ab⟩;exact K.trans<|F3 E
  rw[F]at y;have AQ:=λj=>r.frozen j
  have ax:(k:Int)≠q:=ab;go_wp2;go_quiet (fail)
  go_wp2;go_region
  all_goals
   go_wp2_with(go_at_call 224;refine(GQ b n (k+1) (n-(k+1)) _ _ _ L ab<|((r.drewN _).set k ab _).set q ab _).mono ?_;rintro e w1 ⟨⟨v1,rfl⟩,o1,t1,b1⟩)
   go_ret;refine⟨cY (by rw[y.out];rfl),λg' h=>?_,(((u.drewN _).setCell _ _).setCell _ _).trans t1,(((below_drewN v _).setCell (afK _) _).setCell (afK _) _).trans b1⟩;obtain rfl:=afQ<|y.out.symm.trans h;exact o1.congr λi hi=>VJ g hi ab ab
end
def wpList_append_run {P ops rest o a Q}(y:o.guard=none)(s x t)
  (ho:o.op=.call {callee:=.builtin .append,args:=#[s,x],argTypes:=#[t,t]})(v e)(q:a.eval s=v)(r:a.eval x=e){j}
  (u:(Builtin.append_ #[t,t] o.type #[v,e]).run P w=.ok j w')(h:a6 P ops Q rest (a.put o.dst j) w'):a6 P ops Q (o::rest) a w:=by
 have hw:Region.wanted o (yielded ops a.tmps)=true:=by grind [Region.wanted]
 unfold a6;rw[if_pos hw];refine .inl ?_;unfold Oper.wp execOp;simp only[ho,resolve,invoke,builtin,Sem.run_bind,Sem.run_pure,Result.andThen_ok,List.map_toArray,List.map_cons,List.map_nil,q,r,u];exact h
def jb (w:ai)(B:Nat):Prop:=∃e,w.heap[B]?=some (.cells e 3 (0,0))/\∀v∈e,∃x,v=ao .i64 x
def jb.below (h:jb w b)(e:ad B w w')(j:b<B):jb w' b:=by
 let⟨k,q,r⟩:=h;exact⟨k,(e.block b j).trans q,r⟩
def mO:Tz.prog.underlying 102=some (.slice 3):=aO
def Dy (b n cap:Nat)(g)(w:ai)(hn:n<=1048576)(R:b<w)(U:aD w b 0 n g):
  ∃B c w',(Builtin.append_ #[102,102] 102 #[aa w 0 0,aa b n cap]).run Tz.prog (w.alloc<|.cells #[] 3)=.ok (aa (some ⟨B,0,none⟩) n c) w'/\
   n<=c/\w<=B/\B<w'/\jb w' B/\aD w' B 0 n g/\ad w w w':=by
 obtain⟨q,y,Y,eO,fZ⟩:∃q,Tz.prog.info? 3=some q/\q.zero=some (ao .i64 0)/\q.size=1/\q.bytes=8:=by
  have h:=lY;cases y:Tz.prog.info? 3 with
  |none=>grind
  |some q=>grind
 have z:ad w w (w.alloc<|.cells #[] 3):=(afB _ _).alloc ab _;have C:(w.alloc<|.cells #[] 3).heap[w.heap.size]?=some _:=aE _ _;let e:List Value:=(List.range n).map λj=>ao .i64<|g j
 have D:e.length=n*q.size:=gC;have J:∀j u,e[j]?=some u->(w.alloc<|.cells #[] 3).cell? ((b:Addr).add j)=some u:=λj u r=>by
  have A:j<n:=by rcases afS j n with h|h;exact h;rw[afU cO]at r;cases r
  simp[e,A]at r;rw[<-r];have:=(U.below z R) j A;grind [Addr.add]
 have Z:∀u∈e,u.oneCell'=true:=λu r=>by simp[e]at r;obtain⟨_,_,rfl⟩:=r;rfl
 rcases afX n with hz|iG
 .subst hz;exact⟨_,_,_,(run_append_room _ 102 102 3 q mO y w.heap.size 0 0 #[] C b 0 cap e D J Z ab ab),afK _,afK _,by simp,⟨_,setRow_heap _ _ _ _ _ _ C,by grind⟩,λi hi=>absurd hi ab,⟨rfl,rfl,rfl,aP,λk hk=>(setRow_other _ _ _ _ dj).trans<|z.block k hk⟩⟩
 have N:=run_append_grow _ 102 102 3 q _ mO y Y w.heap.size 0 0 [] aP aP b n cap e D J ab ab<|growslice_fits ab gC;have O:=grownCap_ge (w.alloc<|.cells #[] 3) (0+n) 0 3;simp only[Nat.zero_add]at N O;refine⟨_,_,_,N,O,?_,?_,⟨_,aE _ _,?_⟩,?_,(z.drew).alloc aP _⟩
 .simp
 .simp
 .intro v hv;simp[e,Builtin.zeroCells,Value.cells]at hv;grind
 intro j A;rw[show(⟨(w.alloc _).heap.size,0+j,none⟩:Addr)=⟨(w.alloc _).drew.heap.size,j,none⟩ by simp,cell_of_row _ _ _ _ _ _ (aE (w.alloc _).drew _)];grind
def L2 (b n cap:Nat)(g)(w:ai)(q:n<=1048576)(r:b<w)(u:aD w b 0 n g):
  aL Tz.prog 212 #[aa b n cap] w λe w'=>∃B c,e=ac (aa (some ⟨B,0,none⟩) n c)/\n<=c/\w<=B/\B<w'/\jb w' B/\aD w' B 0 n g/\ad w w w':=by
 let⟨B,c,w',v,y,z,A,C,D,J⟩:=Dy b n cap g w q r u;have N:=Go.Lib.run_eql_slice_nil w 102 3 b n cap 0 0 mO;go_enter Tz.func212,Tryz.ntmps212
 go_wp2_with(refine wpList_append_run rfl (.tmp 5) (.tmp 6) 102 rfl _ _ bQ bQ v ?_)
 go_ret;exact⟨B,c,rfl,y,z,A,C,D,J⟩
abbrev KF (w:ai)(m:Mv):World:=w.alloc<|.cells #[m.name,m.ax,m.aI,m.cE,m.late,m.prom] 55
def OO (w m):xB (KF w m) w 0 m:=by
 constructor<;>simp[KF]
def mP (b off n cap:Nat)(f)(J Z cap':Nat)(o)(w:ai)(hm:aG f n)(ho:∀i,i<n->o i<n)(bN:b<w)(aB:aK w b off n f)(bz:J<w)(aV:aD w J Z n (λi=>(o i:Int))):
  aL Tz.prog 87 #[aa (some ⟨b,off,none⟩) n cap,aa (some ⟨J,Z,none⟩) n cap'] w λe w'=>nA (eT f o n) n w e w'/\ad w w w':=by
 have h6:=bX hm;have HM:Hid (aG f n=true):=hm;clear hm;have Oi:=vD n ab;go_enter Tz.func87,Tryz.ntmps87
 go_wp2;go_loopw [7] (λi wr=>∃(k:Nat) (T:Nat->Int),k<=n/\i=ao .i64 k/\eT f o k=some T/\aC wr w.heap.size n T/\ad w.heap.size w wr) (λi _=>n-(intOf i).toNat)
 .exact⟨0,_,afP _,rfl,rfl,nS w n,(afB _ w).alloc ab _⟩
 obtain⟨k,T,hk,rfl,hT,r,hB⟩:=hrel;have HT:Hid (eT f o k=some T):=hT;clear hT;have N:=DK HM.out ho k T hk HT.out;by_cases O:k<n
 .have dV:(k:Int)<n:=by omega
  have R:=ho k O;have PS:((o k:Nat):Int)<n:=ab;have hc:wr.cell? ⟨J,Z+k,none⟩=some (ao .i64 ((o k:Nat):Int)):=(aV.below hB bz) k O;have eF:=bd HM.out (o k) R;let⟨z0,z1,z2,z3,z4,z5⟩:=Mv.gj eF;let⟨c0,c1,c2,c3,c4,c5⟩:=(aB.below hB bN) (o k) R;have hA:ad wr wr (KF wr<|f<|o k):=(afB _ _).alloc ab _;have u:=OO wr<|f<|o k;have WV:=r.below hA r.lt;have TS:ad w w (KF wr<|f<|o k):=hB.trans<|hA.mono hB.size;have ax:w.heap.size<=wr:=hB.size;have aI:w.heap.size<wr:=r.lt;have HZ:Hid (w.heap.size≠wr.heap.size):=by
   have h:w.heap.size≠wr.heap.size:=ab;exact h
  go_wp2;obtain⟨Bm,U⟩:∃Bm,Bm=wr.heap.size:=⟨_,rfl⟩;rw[<-U]at u ax aI⊢;go_loopw [9,10] (λl j wr=>∃q:Nat,q<=k/\j=ao .i64 q/\l=ao .i64 (bg f o T (o k) q)/\aC wr w.heap.size n T/\xB wr Bm 0 (f<|o k)/\ad w w wr) (λ_ j _=>k-(intOf j).toNat)
  .exact⟨0,afP _,rfl,rfl,WV,u,TS⟩
  clear r hB hc c0 c1 c2 c3 c4 c5 hA u WV TS HZ U;obtain⟨q,hq,rfl,rfl,r,u,hB⟩:=hrel;have aZ:=pb (o:=o) (p:=o k) ⟨z0,ab⟩ N q;let⟨a9,Ug⟩:=aZ;have eO:=r.lt;have fZ:=av u.c0;by_cases E6:q<k
  .have Ui:(q:Int)<k:=by omega
   have a7:(q:Int)<n:=ab;have ha:=ho q ab;have bb:((o q:Nat):Int)<n:=ab;have nO:1<=(f<|o q).pO (f<|o k):=ky _ _ _;have jC:(f<|o q).pO (f<|o k)<=4:=xO _ _ _;let⟨t0,t1⟩:=N<|o q;have HL:Hid (bg f o T (o k) (q+1)=if bg f o T (o k) q<T (o q)+(f<|o q).pO (f<|o k)then T (o q)+(f<|o q).pO (f<|o k)else bg f o T (o k) q):=rfl;have D:=(aB.below hB bN) (o q) ha;have be:=aM wr;have x0:=λx:an wr=>x.cell<|(aV.below hB bz) q ab
   have x1:=λx:an wr=>x.cell<|r.cellAt (o q) ha
   have a0:=λx:an wr=>x.cell D.c0
   have a1:=λx:an wr=>x.cell D.c1
   have a2:=λx:an wr=>x.cell D.c2
   have a3:=λx:an wr=>x.cell D.c3
   have a4:=λx:an wr=>x.cell D.c4
   have a5:=λx:an wr=>x.cell D.c5
   have b0:=λx:an wr=>x.cell u.c0
   have b1:=λx:an wr=>x.cell u.c1
   have b2:=λx:an wr=>x.cell u.c2
   have b3:=λx:an wr=>x.cell u.c3
   have b4:=λx:an wr=>x.cell u.c4
   have b5:=λx:an wr=>x.cell u.c5
   simp only[Nat.zero_add]at b0 b1 b2 b3 b4 b5;by_cases Zo:bg f o T (o k) q<T (o q)+(f<|o q).pO (f<|o k);all_goals
    go_wp2;refine bf ?_;repeat(go_big_quiet_step ((go_at_call 109;exact cj<|qR (f<|o q) (f<|o k) _)))
    refine aN<|cJ ?_;intro w1 bL;go_wp2;go_roundw
    case rel=>exact⟨q+1,ab,by go_num,by rw[HL.out];first|rw[if_pos Zo]|rw[if_neg ab],r.below bL eO,u.below bL fZ,hB.trans<|bL.mono hB.size⟩
    exact cD
  have ZD:q=k:=by omega
  subst ZD;let⟨m0,m1,m2,m3,m4,m5⟩:=u;simp[Nat.zero_add]at m0 m1 m2 m3 m4 m5;have hc:wr.cell? ⟨J,Z+q,none⟩=some (ao .i64 ((o q:Nat):Int)):=(aV.below hB bz) q O;have hd:=r.cellAt (o q) R;have AQ:=r.frozen<|o q;have a7:(q:Int)<n:=ab;by_cases y:(f<|o q).prom=-1
  .have a8:(f<|o q).prom<0:=by omega
   by_cases v:bg f o T (o q) q<=(f<|o q).late
   .have A:=yY HT.out (by unfold jD;rw[if_pos y];simpa using v);have Y:jk (f<|o q) (bg f o T (o q) q)=bg f o T (o q) q:=by unfold jk;rw[if_pos y]
    rw[Y]at A;have C:Hid (eT f o (q+1)=some (λp=>if p=o q then bg f o T (o q) q else T p)):=A;clear A Y y;go_wp2;go_roundw
    .exact⟨q+1,_,ab,by go_num,C.out,r.set (o q) R _,hB.setCell aP _⟩
    exact cD
   have C:Hid (eT f o n=none):=DL HT.out (by unfold jD;rw[if_pos y];simpa using v) O;clear y;go_wp2;go_ret2
   refine⟨?_,by first|exact hB|exact hB.alloc hB.size _⟩;rw[C.out];exact⟨_,_,rfl⟩
  have a8:0<=(f<|o q).prom:=by omega
  have p9:(f<|o q).prom<=(f<|o q).late:=ab;by_cases v:bg f o T (o q) q<=(f<|o q).prom
  .have A:=yY HT.out (by unfold jD;rw[if_neg y];simpa using v);have Y:jk (f<|o q) (bg f o T (o q) q)=(f<|o q).prom:=by unfold jk;rw[if_neg y]
   rw[Y]at A;have C:Hid (eT f o (q+1)=some (λp=>if p=o q then(f<|o q).prom else T p)):=A;clear A Y y;go_wp2;go_roundw
   case rel=>exact⟨q+1,_,ab,by go_num,C.out,r.set (o q) R _,hB.setCell aP _⟩
   case measure=>exact cD
  have C:Hid (eT f o n=none):=DL HT.out (by unfold jD;rw[if_neg y];simpa using v) O;clear y;go_wp2;go_ret2
  constructor
  .rw[C.out];exact⟨_,_,rfl⟩
  first|exact hB|exact hB.alloc hB.size _
 have tM:k=n:=by omega
 subst tM;go_wp2;go_ret2
 refine⟨?_,hB⟩;rw[HT.out];exact⟨w.heap.size,k,afK _,rfl,r,afK _⟩
