import Derived.Test.YthppgbjejomdiaaGreatDoorj18
set_option linter.all false
set_option maxHeartbeats 4000000
set_option maxRecDepth 10000
open Go renaming World->aj,Calls->av,block_lt_of_cell->aE,heap_alloc_new->aL,wpList->aP,wpQuiet_nil->a6
open Go.Ending renaming returned->ao
open Go.RowKit renaming Below->ac
open Go.Value renaming int->aa,slice->ad,tuple->au
open Option.some renaming injEq->ay
namespace Go.Proofs.YthppgbjejomdiaaGreatDoor
open RowKit
variable {t:Int}{l:List Nat}{B b i m n p:Nat}{T:Nat->Int}{f:Nat->Mv}{g o:Nat->Nat}{w w':aj}
def bh (f:Nat->Mv)(o:Nat->Nat)(T:Nat->Int)(p:Nat):Nat->Int
 |0=>(f p).cj
 |k+1=>if bh f o T p k<T (o k)+(f<|o k).pY (f p)then T (o k)+(f<|o k).pY (f p)else bh f o T p k
def jt (m:Mv)(t:Int):Int:=if m.prom=-1 then t else m.prom
def jJ (m:Mv)(t:Int):Bool:=decide (t<=if m.prom=-1 then m.late else m.prom)
def eY (f:Nat->Mv)(o:Nat->Nat):Nat->Option (Nat->Int)
 |0=>some λ_=>0
 |i+1=>match eY f o i with
  |none=>none
  |some T=>if jJ (f<|o i) (bh f o T (o i) i)then some (λp=>if p=o i then jt (f<|o i) (bh f o T (o i) i)else T p)else none
def MT (h:eY f o i=none):∀n,i<=n->eY f o n=none:=by intro n r;induction n with|zero=>grind|succ n u=>grind [eY]
def Ed (h:eY f o i=some T)(hk:jJ (f<|o i) (bh f o T (o i) i)=false)(r:i<n):eY f o n=none:=
 MT (i:=i+1) (by simp only[eY,h,hk];rfl) n ab
def zp (h:eY f o i=some T)(hk:jJ (f<|o i) (bh f o T (o i) i)): eY f o (i+1)=some (λp=>if p=o i then jt (f<|o i) (bh f o T (o i) i)else T p):=by grind [eY]
def pq {f o T p}(u:0<=(f p).cj/\(f p).cj<=10000)(r:∀q,0<=T q/\T q<=10000):∀k,0<=bh f o T p k/\bh f o T p k<=10004
 |0=>by simp only[bh];omega
 |k+1=>by
  have v:=pq u r k (o:=o);have y:=kI (f<|o k).ax (f<|o k).aI (f p).aI;have A:=yk (f<|o k).ax (f<|o k).aI (f p).aI;have C:=r<|o k;have e:bh f o T p (k+1)=if bh f o T p k<T (o k)+(f<|o k).pY (f p)then T (o k)+(f<|o k).pY (f p)else bh f o T p k:=rfl
  have g:(f<|o k).pY (f p)=sd (f<|o k).ax (f<|o k).aI (f p).aI:=rfl;rw[e,g];split<;>omega
def QR {m}(e:m.ok)(k:0<=t)(j:jJ m t):0<=jt m t/\jt m t<=10000:=by have q:=Mv.gp e;unfold jJ at j;unfold jt;grind
def Ec (r:aH f n)(ho:∀i,i<n->o i<n):∀i (T:Nat->Int),i<=n->eY f o i=some T->∀p,0<=T p/\T p<=10000
 |0,T,_,h,p=>by simp only[eY,ay]at h;subst h;simp
 |i+1,T,y,h,p=>by
  cases e:eY f o i with
  |none=>simp only[eY,e]at h;cases h
  |some S=>
   have hS:=Ec r ho i S ab e;simp only[eY,e]at h;split at h
   .rename_i hk;simp only[ay]at h;subst h;have u:=bf r (o i)<|ho i ab;have hb:=Mv.gp u;have v:=pq (o:=o) (p:=o i) ⟨hb.1,ab⟩ hS i;have:=QR u v.1 hk;by_cases c:p=o i
    .simp only[if_pos c];exact this
    .simp only[if_neg c];exact hS p
   .cases h
section
variable {b d:Bool}
def aac {a c:Int}(h:a=c)(e:b=d):ao (au #[a,b])=ao (au #[c,d]):=by rw[h,e]
def adb {p:Prop}(x9:p:=by go_enter Tz.func233,Tryz.ntmps233;go_wp2;refine nh ?_;intro w1 bK;go_wp2;go_ret2;exact⟨aac HV.out.symm HB.out.symm,hA.trans<|bK.mono hA.size⟩):p:=x9
def QS (m)(t:Int)(w): av Tz.prog 233 #[.agg #[m.name,m.ax,m.aI,m.cj,m.late,m.prom],t] w λe w'=>e=ao (au #[aa .i64<|jt m t,.bool<|jJ m t])/\ac w w w':=by
 have hA:ac w w (w.alloc<|.cells #[m.name,m.ax,m.aI,m.cj,m.late,m.prom] 30):=(agn _ _).alloc ab _;have r:(w.alloc<|.cells #[m.name,m.ax,m.aI,m.cj,m.late,m.prom] 30).cell? ⟨w,4,none⟩=some (aa .i64 m.late):=aN;have u:(w.alloc<|.cells #[m.name,m.ax,m.aI,m.cj,m.late,m.prom] 30).cell? ⟨w,5,none⟩=some (aa .i64 m.prom):=aN;have v:=aK<|w.alloc<|.cells #[m.name,m.ax,m.aI,m.cj,m.late,m.prom] 30;have A:=λx:am _=>x.cell r;have C:=λx:am _=>x.cell u;by_cases y:m.prom=-1;have z:(m.prom !=-1)=false:=cQ;have j:jt m t=t:=by unfold jt;omega
 have HV:Hid (jt m t=t):=j;have k:jJ m t=decide (t<=m.late):=by unfold jJ;grind
 have HB:Hid _:=k;clear j k y;exact adb;have z:(m.prom !=-1)=true:=cQ;have j:jt m t=m.prom:=by unfold jt;omega
 have HV:Hid (jt m t=m.prom):=j;have k:jJ m t=decide (t<=m.prom):=by unfold jJ;grind
 have HB:Hid (jJ m t=decide (t<=m.prom)):=k;exact adb
def RT (a p)(v bl:Nat)(b off n cap f)(tb:Nat)(T w)(y:a<n)(J:p<n)(hn:n<=1048576) (N:0<=T a/\T a<=10000) (O:w.cell? v=some (ad tb n n))(R:w.cell? bl=some (ad (some ⟨b,off,none⟩) n cap))(A:aM w b off n f)(U:aC w tb n T): av Tz.prog 232 #[aa .i64 a,aa .i64 p,.pointer v,.pointer bl] w λe w'=>e=ao (aa .i64<|T a+(f a).pY (f p))/\ac w w w':=by have C:=kI (f a).ax (f a).aI (f p).aI;have D:=yk (f a).ax (f a).aI (f p).aI;have Y:1<=(f a).pY (f p)/\(f a).pY (f p)<=4:=⟨C,D⟩;let⟨C,D⟩:=Y;let⟨Z,aG⟩:=N;have aV:(a:Int)<n:=ab;have Qw:(p:Int)<n:=ab;have r:=A a y;have u:=A p J;have aZ:=aK w;have x0:=λx:am w=>x.cell O;have x1:=λx:am w=>x.cell R;have x2:=λx:am w=>x.cell<|U.cellAt a y;have a0:=λx:am w=>x.cell r.c0;have a1:=λx:am w=>x.cell r.c1;have a2:=λx:am w=>x.cell r.c2;have a3:=λx:am w=>x.cell r.c3;have a4:=λx:am w=>x.cell r.c4;have a5:=λx:am w=>x.cell r.c5;have b0:=λx:am w=>x.cell u.c0;have b1:=λx:am w=>x.cell u.c1;have b2:=λx:am w=>x.cell u.c2;have b3:=λx:am w=>x.cell u.c3;have b4:=λx:am w=>x.cell u.c4;have b5:=λx:am w=>x.cell u.c5;go_enter Tz.func232,Tryz.ntmps232;go_wp2;refine bg ?_;(repeat(go_big_quiet_step ((go_at_call 144;exact cr<|qC (f a) (f p) _))));refine a6<|cK ?_;intro w1 bK;go_wp2;go_ret;simp_all
end
def nJ (r:Option (Nat->Int))(n:Nat)(w:aj)(e:Ending)(w':aj):Prop:=
 match r with
 |some T=>∃B j,(w:Nat)<=B/\e=ao (au #[ad B n j,true])/\aC w' B n T/\n<=j
 |none=>∃a j,e=ao (au #[ad a 0 j,false])
def TD (r:Option (Nat->Int))(n:Nat)(w:aj)(e:Ending)(w':aj):Prop:=
 match r with
 |some T=>∃B,(w:Nat)<=B/\e=ao (au #[ad B n n,true])/\aC w' B n T
 |none=>e=ao (au #[(),false])
def Ee (b off n cap:Nat)(f)(N R cap':Nat)(o)(w:aj)(Y:aH f n)(ho:∀i,i<n->o i<n)(BG:n<=cap')(Z:b<w)(az:aM w b off n f)(bz:N<w)(aV:aD w N R n (λi=>(o i:Int))): av Tz.prog 226 #[ad (some ⟨N,R,none⟩) n cap',ad (some ⟨b,off,none⟩) n cap] w λe w'=>TD (eY f o n) n w e w'/\ac w w w':=by
 have h6:=bY Y;have HM:Hid (aH f n=true):=Y;clear Y;have OW:=vZ n ab;go_enter Tz.func226,Tryz.ntmps226;go_wp2;go_loopw [21] (λi wr=>∃(k:Nat) (T:Nat->Int),k<=n/\i=aa .i64 k/\eY f o k=some T/\aC wr ((w:Nat)+1) n T/\wr.cell? ⟨w,0,none⟩=some (ad (some ⟨b,off,none⟩) n cap)/\wr.cell? ⟨(w:Nat)+1+1,0,none⟩=some (ad (some ⟨(w:Nat)+1,0,none⟩) n n)/\ac w w wr) (λi _=>n-(intOf i).toNat)
 refine⟨0,_,agB _,rfl,rfl,?_,by simp[go_sem],by simp[go_sem],(((agn _ w).alloc ab _).alloc aN _).alloc cY _⟩;have:=n8 (w.alloc<|.cells #[ad (some ⟨b,off,none⟩) n cap] 39) n;simp[World.size_alloc]at this;exact this.below ((agn _ _).alloc ab _) this.lt;obtain⟨k,T,hk,rfl,hT,v,A,C,r⟩:=hrel;have HT:Hid (eY f o k=some T):=hT;clear hT;have O:=Ec HM.out ho k T hk HT.out;by_cases aG:k<n
 .have dQ:(k:Int)<n:=by omega
  have D:=ho k aG;have Qw:((o k:Nat):Int)<n:=ab;have hc:wr.cell? ⟨N,R+k,none⟩=some (aa .i64 ((o k:Nat):Int)):=(aV.below r bz) k aG;have eK:=bf HM.out (o k) D;let⟨z0,z1,z2,z3,z4,z5⟩:=Mv.gp eK;have X1:=(az.below r Z) (o k) D;have c3:=X1.c3;have a0:(k:Int)<=cap':=ab;go_wp2;go_loopw [10,35] (λl j wr=>∃q:Nat,q<=k/\j=aa .i64 q/\l=aa .i64 (bh f o T (o k) q)/\aC wr ((w:Nat)+1) n T/\wr.cell? (w:Nat)=some (ad (some ⟨b,off,none⟩) n cap)/\wr.cell? ⟨(w:Nat)+1+1,0,none⟩=some (ad (some ⟨(w:Nat)+1,0,none⟩) n n)/\ac w w wr) (λ_ j _=>k-(intOf j).toNat)
  exact⟨0,agB _,rfl,rfl,v,A,C,r⟩;obtain⟨q,hq,rfl,rfl,v,A,C,r⟩:=hrel;have ax:=pq (o:=o) (p:=o k) ⟨z0,ab⟩ O q;let⟨a1,OU⟩:=ax;have U:=v.lt;have f8:=aE A;have ED:=aE C;by_cases Fw:q<k
  .have UV:(q:Int)<k:=by omega
   have ha:=ho q ab;have a2:wr.cell? ⟨N,R+q,none⟩=some (aa .i64 ((o q:Nat):Int)):=(aV.below r bz) q ab;have nY:1<=(f<|o q).pY (f<|o k):=kI _ _ _;have jI:(f<|o q).pY (f<|o k)<=4:=yk _ _ _;let⟨t0,t1⟩:=O<|o q;have HL:Hid (bh f o T (o k) (q+1)=if bh f o T (o k) q<T (o q)+(f<|o q).pY (f<|o k)then T (o q)+(f<|o q).pY (f<|o k)else bh f o T (o k) q):=rfl;have HC:=RT (o q) (o k) ((w:Nat)+1+1) w b off n cap f ((w:Nat)+1) T wr ha D ab ⟨t0,t1⟩ C A (az.below r Z) v;by_cases k_:bh f o T (o k) q<T (o q)+(f<|o q).pY (f<|o k);all_goals
    go_wp2_with(go_at_call 232;refine HC.mono ?_;clear HC;rintro e w1 ⟨rfl,u⟩)
    go_roundw
    .exact⟨q+1,ab,by go_num,by rw[HL.out];first|rw[if_pos k_]|rw[if_neg ab],v.below u U,(u.cell f8).trans A,(u.cell ED).trans C,r.trans<|u.mono r.size⟩
    exact cD
  have z_:q=k:=by omega
  subst z_;let⟨c0,c1,c2,c3,c4,c5⟩:=(az.below r Z) (o q) D;have hd:=v.cellAt (o q) D;have Bc:=v.frozen<|o q;have J:=QS (f<|o q) (bh f o T (o q) q) wr;cases y:jJ (f<|o q) (bh f o T (o q) q)with|true=>have HE:Hid (eY f o (q+1)=some (λp=>if p=o q then jt (f<|o q) (bh f o T (o q) q)else T p)):=zp HT.out y;rw[y]at J;(go_wp2_with(go_at_call 233;refine J.mono ?_;clear J;rintro e w1 ⟨rfl,u⟩;have a3:=(u.cell U).trans hd;have ux:=(u.frozen U).trans Bc;have aI:=(u.cell ED).trans C;have aZ:=(u.cell f8).trans A));have gC:=v.below u U;(go_roundw);exact⟨q+1,_,ab,by go_num,HE.out,gC.set (o q) D _,(World.cell?_setCell_other _ _ _ _ aN).trans aZ,(World.cell?_setCell_other _ _ _ _ aN).trans aI,(r.trans<|u.mono r.size).setCell aN _⟩;exact cD|false=>have HE:Hid (eY f o n=none):=Ed HT.out y aG;rw[y]at J;(go_wp2_with(go_at_call 233;refine J.mono ?_;clear J;rintro e w1 ⟨rfl,u⟩));go_ret2;refine⟨?_,r.trans<|u.mono r.size⟩;rw[HE.out];exact rfl
 have tX:k=n:=by omega
 subst tX;go_wp2;go_ret2;refine⟨?_,r⟩;rw[HT.out];exact⟨(w:Nat)+1,ab,rfl,v⟩
section
variable {a b:Mv}{s:Int}
def nC {S}:∀j,(∀k,k<j->T (o k)=S (o k))->bh f o T p j=bh f o S p j
 |0,_=>rfl
 |j+1,h=>by
  simp only[bh];rw[nC j (λk hk=>h k ab),h j ab]
def nl {f o T p}:∀j,(f p).cj<=bh f o T p j/\(∀k,k<j->T (o k)+(f<|o k).pY (f p)<=bh f o T p j)/\(bh f o T p j=(f p).cj\/∃k,k<j/\bh f o T p j=T (o k)+(f<|o k).pY (f p))
 |0=>⟨Int.le_refl _,λk hk=>absurd hk<|agA _,.inl rfl⟩
 |j+1=>by
  let⟨v,u,r⟩:=nl (f:=f) (o:=o) (T:=T) (p:=p) j;simp only[bh];split
  .rename_i y;refine⟨by omega,λk hk=>?_,.inr ⟨j,by omega,rfl⟩⟩;by_cases e:k=j
   .subst e;omega
   .have:=u k (by omega);omega
  .rename_i y;refine⟨v,λk hk=>?_,?_⟩
   .by_cases e:k=j
    .subst e;omega
    .exact u k (by omega)
   .rcases r with r|⟨k,hk,r⟩
    .exact .inl r
    .exact .inr ⟨k,by omega,r⟩
def CG:∀i (T:Nat->Int),eY f o i=some T->(∀j k,j<k->k<i->o j≠o k)->∀j,j<i->jJ (f<|o j) (bh f o T (o j) j)/\T (o j)=jt (f<|o j) (bh f o T (o j) j)
 |0,_,_,_,j,v=>absurd v (agA _)
 |i+1,T,h,y,j,v=>by
  cases e:eY f o i with
  |none=>simp only[eY,e]at h;cases h
  |some S=>
   have A:=CG i S e λj k C D=>y j k C ab;simp only[eY,e]at h;split at h
   .rename_i hk;simp only[ay]at h;have r:∀k,k<i->T (o k)=S (o k):=λk hk=>by
     rw[<-h];simp only[if_neg (y k i hk ab)]
    by_cases c:j=i
    .subst c;have u:bh f o T (o j) j=bh f o S (o j) j:=nC j r;rw[u];exact⟨hk,by rw[<-h];simp⟩
    .have u:bh f o T (o j) j=bh f o S (o j) j:=nC j λk hk=>r k ab;rw[u,r j ab];exact A j ab
   .cases h
def LP (h:s+a.pY b<=t):a.iO b s t=false/\b.iO a t s=false:=by have g:=kI a.ax a.aI b.aI;unfold Mv.pY at h;have e:=kL a.ax a.aI b.ax b.aI s t;have j:=kL b.ax b.aI a.ax a.aI t s;unfold Mv.iO;grind
def GS (h:a.iO b s t=false):(s<=t->s+a.pY b<=t)/\(t<=s->t+b.pY a<=s):=by have e:=kL a.ax a.aI b.ax b.aI s t;unfold Mv.iO at h;unfold Mv.pY;grind
structure adw (f)(o:Nat->Nat) n (T):Prop where
 fit:ga f T n
 up:∀i j,i<j->j<n->T (o i)<T (o j)
 least:∀i,i<n->¬ga f (λp=>if p=o i then T p-1 else T p) n
def vN (U:aH f n)(ho:∀i,i<n->o i<n)(A:∀j k,j<k->k<n->o j≠o k)(h:eY f o n=some T):adw f o n T:=by
 have Z:∀j,j<n->bh f o T (o j) j<=T (o j)/\T (o j)<=(f<|o j).late/\(f<|o j).cj<=T (o j)/\((f<|o j).prom=-1/\T (o j)=bh f o T (o j) j\/(f<|o j).prom=T (o j)):=λj u=>by let⟨y,Y⟩:=(CG n T h A) j u;have hb:=Mv.gp<|bf U (o j)<|ho j u;have hl:=(nl (f:=f) (o:=o) (T:=T) (p:=o j) j).1;unfold jJ at y;unfold jt at Y;grind
 have C:∀i j,i<j->j<n->T (o i)+(f<|o i).pY (f<|o j)<=T (o j):=λi j r u=>by have y:=(nl (f:=f) (o:=o) (T:=T) (p:=o j) j).2.1 i r;grind
 have hs:=Cm n o ho A;refine⟨⟨λp hp=>?_,λq p D hq=>?_⟩,λi j r u=>?_,λi v J=>?_⟩;unfold Mv.ge A0 jr;grind;obtain⟨i,v,rfl⟩:=hs p ab;obtain⟨j,u,rfl⟩:=hs q hq;rcases Nat.lt_trichotomy i j with r|r|r;exact(LP<|C i j r u).1;subst r;exact absurd D ab;exact(LP<|C j i r v).2;have y:=C i j r u;have g:=kI (f<|o i).ax (f<|o i).aI (f<|o j).aI;unfold Mv.pY at y;omega;let⟨y,Y,h3,h4⟩:=Z i v;have hb:=Mv.gp<|bf U (o i)<|ho i v;have N:=J.1 (o i)<|ho i v;simp at N;unfold Mv.ge A0 jr at N;simp at N;rcases h4 with⟨e,hl⟩|e;rcases(nl (f:=f) (o:=o) (T:=T) (p:=o i) i).2.2 with hh|⟨k,hk,hh⟩;omega;have O:=A k i hk v;have g:=kI (f<|o k).ax (f<|o k).aI (f<|o i).aI;have az:(f<|o k).pY (f<|o i)=sd (f<|o k).ax (f<|o k).aI (f<|o i).aI:=rfl;rcases Nat.lt_or_gt_of_ne O with R|R;have:=(GS<|J.2 (o i) (o k) R<|ho i v).1;simp at this;omega;have:=(GS<|J.2 (o k) (o i) R<|ho k ab).2;simp at this;omega;omega
end
def pl (l:List Nat)(i:Nat):Nat:=l.getD i 0
def rR (x:Nat)(p:Nat):Nat:=if x<=p then p+1 else p
def ba:Nat->List (List Nat)
 |0=>[[]]
 |n+1=>(List.range<|n+1).flatMap λx=>(ba n).map λl=>x::l.map (rR x)
def VF x (l):pl (x::l) 0=x:=rfl
def yx x (l) i:pl (x::l) (i+1)=pl l i:=rfl
def L5 x (l) i (h:i<l.length):pl (l.map<|rR x) i=rR x (pl l i):=by grind [pl,List.getD]
def GM:l∈ba (n+1)<->∃x,x<n+1/\∃e,e∈ba n/\l=x::e.map (rR x):=by simp[ba];grind
def ir:∀{n:Nat} {l:List Nat},l∈ba n->l.length=n/\(∀i,i<n->pl l i<n)/\∀i j,i<j->j<n->pl l i≠pl l j
 |0,l,h=>by
  simp[ba]at h;subst h;exact⟨rfl,λi h=>absurd h<|agA _,λi j _ h=>absurd h<|agA _⟩
 |n+1,l,h=>by
  obtain⟨x,e,y,k,rfl⟩:=GM.1 h;let⟨q,r,u⟩:=ir k;refine⟨by simp[q],λi z=>?_,λi j A C=>?_⟩
  .cases i with
   |zero=>exact e
   |succ i=>
    rw[yx,L5 _ _ _ ab];have:=r i ab;unfold rR;split<;>omega
  .obtain⟨j,rfl⟩:∃v,j=v+1:=⟨j-1,ab⟩;rw[yx,L5 _ _ _ ab];cases i with
   |zero=>rw[VF];unfold rR;split<;>omega
   |succ i=>
    rw[yx,L5 _ _ _ ab];have:=u i j ab ab;unfold rR;split<;>split<;>omega
def FI:∀{n:Nat} {g:Nat->Nat},(∀i,i<n->g i<n)->(∀i j,i<j->j<n->g i≠g j)->∃l,l∈ba n/\∀i,i<n->pl l i=g i
 |0,g,_,_=>⟨[],by simp[ba],λi h=>absurd h<|agA _⟩
 |n+1,g,h1,e=>by
  let⟨l,q,r⟩:=FI (n:=n) (g:=λi=>if g 0<g (i+1)then g (i+1)-1 else g (i+1)) (λi u=>by
   have a:=h1 0 ab;have b:=h1 (i+1) ab;have c:=e 0 (i+1) ab ab;split<;>omega) (λi j v y=>by
   have a:=e 0 (i+1) ab ab;have b:=e 0 (j+1) ab ab;have c:=e (i+1) (j+1) ab ab;split<;>split<;>omega)
  refine⟨g 0::l.map (rR<|g 0),GM.2 ⟨_,h1 0 ab,l,q,rfl⟩,λi u=>?_⟩;cases i with
  |zero=>rfl
  |succ i=>
   rw[yx,L5 _ _ _ (by rw[(ir q).1];omega),r i ab];have a:=e 0 (i+1) ab ab;unfold rR;split<;>split<;>omega
def ju (g:Nat->Nat):Nat->Option Nat
 |0=>none
 |m+1=>if g (m+1)<g m then ju g m else some m
def ml (g:Nat->Nat)(x:Nat):Nat->Nat
 |0=>0
 |m+1=>if g (m+1)<x then ml g x m else m+1
def Mo (g:Nat->Nat)(i j:Nat)(k:Nat):Nat:=if k=j then g i else if k=i then g j else g k
def Mt (n:Nat)(g:Nat->Nat)(i:Nat)(k:Nat):Nat:=if k<=i then g k else g (n+i-k)
def ob (n:Nat)(g:Nat->Nat):Option (Nat->Nat):=
 match ju g (n-1)with
 |none=>none
 |some i=>some<|Mt n (Mo g i<|ml g (g i)<|n-1) i
def ZJ (n:Nat)(g h:Nat->Nat):Bool:=(List.range n).all λi=>Nat.beq (g i)<|h i
def me {h}:ZJ n g h<->∀i,i<n->g i=h i:=by simp[ZJ]
def jj (n:Nat):List (List Nat)->Bool
 |[]=>true
 |l::r=>(match ob n (pl l),r.head? with
  |none,none=>true
  |some g,some e=>ZJ n g (pl e)
  |_,_=>false)&&jj n r
def Zr:jj 0 (ba 0):=aO
def Zs:jj 1 (ba 1):=aO
def Zt:jj 2 (ba 2):=aO
def Zu:jj 3 (ba 3):=aO
def Zv:jj 4 (ba 4):=aO
def Zw:jj 5 (ba 5):=aO
def Zx:jj 6 (ba 6):=aO
def Pz (h:n<=6):jj n (ba n):=by obtain rfl|rfl|rfl|rfl|rfl|rfl|rfl:n=0\/n=1\/n=2\/n=3\/n=4\/n=5\/n=6:=ab;exact Zr;exact Zs;exact Zt;exact Zu;exact Zv;exact Zw;exact Zx
def ze:∀{L:List (List Nat)},jj n L->∀{k:Nat} {l:List Nat},L[k]?=some l->(∀e,L[k+1]?=some e->∃g,ob n (pl l)=some g/\∀i,i<n->g i=pl e i)/\(L.length<=k+1->ob n (pl l)=none)
 |[],_,k,l,h=>by simp at h
 |a::r,u,k,l,h=>by
  rw[jj,agZ]at u;cases k with
  |succ k=>
   have:=ze u.2 (k:=k) (l:=l) I3;exact⟨λe h'=>this.1 e<|by simpa using h',λh'=>this.2<|by simpa using h'⟩
  |zero=>
   simp at h;subst h;have j:=u.1;cases r with
   |nil=>
    refine⟨λe h'=>by simp at h',λ_=>?_⟩;cases q:ob n (pl a)with
    |none=>rfl
    |some g=>rw[q]at j;simp at j
   |cons b r=>
    refine⟨λe h'=>?_,λh'=>by simp at h'⟩;simp at h';subst h';cases q:ob n (pl a)with
    |none=>rw[q]at j;simp at j
    |some g=>rw[q]at j;exact⟨g,rfl,me.1 j⟩
def IW:∀n,n<=6->∃l,(ba n)[0]?=some l/\∀i,i<n->pl l i=i:=by intro n h;obtain rfl|rfl|rfl|rfl|rfl|rfl|rfl:n=0\/n=1\/n=2\/n=3\/n=4\/n=5\/n=6:=ab;exact⟨[],aO,λi h=>absurd h ab⟩;exact⟨[0],aO,me.1 aO⟩;exact⟨[0,1],aO,me.1 aO⟩;exact⟨[0,1,2],aO,me.1 aO⟩;exact⟨[0,1,2,3],aO,me.1 aO⟩;exact⟨[0,1,2,3,4],aO,me.1 aO⟩;exact⟨[0,1,2,3,4,5],aO,me.1 aO⟩
def kD:∀n,n<=6->(ba n).length<=720/\0<(ba n).length:=by
 intro n h;obtain rfl|rfl|rfl|rfl|rfl|rfl|rfl:n=0\/n=1\/n=2\/n=3\/n=4\/n=5\/n=6:=ab;have e:(ba 0).length=1:=by kernel_rfl
 omega;have e:(ba 1).length=1:=by kernel_rfl
 omega;have e:(ba 2).length=2:=by kernel_rfl
 omega;have e:(ba 3).length=6:=by kernel_rfl
 omega;have e:(ba 4).length=24:=by kernel_rfl
 omega;have e:(ba 5).length=120:=by kernel_rfl
 omega;have e:(ba 6).length=720:=by kernel_rfl
 omega
section
variable {a b c:Option (List Int)}{g h:Nat->Int}
def iN:List Int->List Int->Bool
 |a::l,b::r=>if a=b then iN l r else decide (a<b)
 |_,_=>false
def xr:∀l,iN l l=false
 |[]=>rfl
 |a::l=>by simp[iN,xr l]
theorem tA:∀{a b c:List Int},iN a b->iN b c->iN a c
 |[],_,_,h,_=>by simp[iN]at h
 |_::_,[],_,h,_=>by simp[iN]at h
 |_::_,_::_,[],_,h=>by simp[iN]at h
 |x::a,y::b,z::c,h,e=>by
  simp only[iN]at h e⊢;split at h<;>split at e<;>split
  .exact tA h e
  .omega
  .omega
  .exact e.trans cY|>λ_=>by simp at e⊢;omega
  .simp at h e;omega
  .simp at h⊢;omega
  .simp at h e;omega
  .simp at h e⊢;omega
def Al:∀{a b:List Int},a.length=b.length->iN a b=false->iN b a=false->a=b
 |[],[],_,_,_=>rfl
 |[],_::_,h,_,_=>by simp at h
 |_::_,[],h,_,_=>by simp at h
 |x::a,y::b,k,h,j=>by
  simp only[iN]at h j;split at h
  .rename_i e;subst e;rw[if_pos rfl]at j;rw[Al (by simpa using k) h j]
  .rename_i e;rw[if_neg (λq=>e q.symm)]at j;simp at h j;omega
def ep:Option (List Int)->Option (List Int)->Bool
 |some a,some b=>iN a b
 |some _,none=>true
 |none,_=>false
theorem fF (a):ep a a=false:=by cases a<;>simp[ep,xr]
theorem qO (h:ep a b)(e:ep b c):ep a c:=by cases a<;>cases b<;>cases c<;>simp_all [ep];exact tA h e
def NL (hb:∀l,b=some l->l.length=m)(hc:∀l,c=some l->l.length=m)(h:ep a b=false)(e:ep c b)(q:∀l,a=some l->l.length=m):ep a c=false:=by grind [qO]
def py (r:∀l,a=some l->l.length=m)(hb:∀l,b=some l->l.length=m)(hc:∀l,c=some l->l.length=m)(h:ep a b=false)(q:ep b c=false):ep a c=false:=by cases u:ep a c;rfl;rcases a with _|a;grind [ep];rcases b with _|b;assumption;rcases c with _|c;assumption;simp only[ep]at*;cases e:iN c b;have:=Al ((hb _ rfl).trans (hc _ rfl).symm) q e;grind;grind [tA]
def jD (g:Nat->Int):Nat->Nat->List Int
 |0,_=>[]
 |f+1,k=>g k::jD g f (k+1)
theorem qU (g):∀f k,(jD g f k).length=f
 |0,_=>rfl
 |f+1,k=>by simp[jD,qU g f]
def AL:∀f k,(∀i,k<=i->i<k+f->g i=h i)->jD g f k=jD h f k
 |0,_,_=>rfl
 |f+1,k,e=>by rw[jD,jD,e k ab ab,AL f (k+1) λi r u=>e i ab ab]
def Hp:∀f k,jD g f k=jD h f k->∀i,k<=i->i<k+f->g i=h i
 |0,_,_,i,h1,r=>ab
 |f+1,k,e,i,h1,r=>by
  rw[jD,jD,List.cons.injEq]at e;by_cases u:i=k
  .subst u;exact e.1
  .exact Hp f (k+1) e.2 i ab ab
def ic (f:Nat->Mv)(n:Nat)(T:Nat->Int):List Int:=sumTo f T n::dg f T n::jD T n 0
def fD (f:Nat->Mv)(n:Nat)(b:Option (Nat->Int))(l:List Nat):Option (Nat->Int):=
 match eY f (pl l) n with
 |none=>b
 |some T=>match b with
  |none=>some T
  |some S=>if iN (ic f n T) (ic f n S)then some T else some S
def fQ (f:Nat->Mv)(n:Nat)(L:List (List Nat)):Option (Nat->Int):=L.foldl (fD f n) none
def qG (f) n (T):(ic f n T).length=n+2:=by simp[ic,qU]
def rF (f) n (o:Option (Nat->Int)):∀l,o.map (ic f n)=some l->l.length=n+2:=by intro l h;rcases o with _|T;grind;simp at h;rw[<-h];exact qG f n T
def I0 (f) n (b l): (fD f n b l=b\/fD f n b l=eY f (pl l) n)/\ep (b.map<|ic f n) ((fD f n b l).map<|ic f n)=false/\ep ((eY f (pl l) n).map<|ic f n) ((fD f n b l).map<|ic f n)=false:=by unfold fD;rcases h:eY f (pl l) n with _|T;exact⟨.inl rfl,fF _,rfl⟩;rcases b with _|S;exact⟨.inr rfl,rfl,fF _⟩;by_cases r:iN (ic f n T) (ic f n S)=true;simp only[r];refine⟨.inr cQ,?_,fF _⟩;(cases hq:ep (some<|ic f n S) (some<|ic f n T)with|false=>exact hq|true=>exact absurd (qO (a:=some<|ic f n T) (b:=some<|ic f n S) r hq)<|by grind [fF]);simp only[r];exact⟨.inl rfl,fF _,by grind [ep]⟩
def yW (f) n:∀(L:List (List Nat)) (b:Option (Nat->Int)),(L.foldl (fD f n) b=b\/∃l∈L,L.foldl (fD f n) b=eY f (pl l) n)/\ep (b.map<|ic f n) ((L.foldl (fD f n) b).map<|ic f n)=false/\∀l∈L,ep ((eY f (pl l) n).map<|ic f n) ((L.foldl (fD f n) b).map<|ic f n)=false
 |[],b=>⟨.inl rfl,fF _,λl v=>by simp at v⟩
 |l::L,b=>by
  let⟨y,A,C⟩:=I0 f n b l;let⟨D,u,J⟩:=yW f n L<|fD f n b l;rw[List.foldl_cons];refine⟨?_,py (rF f n _) (rF f n _) (rF f n _) A u,λx r=>?_⟩
  .rcases D with e|⟨x,r,e⟩
   .rw[e];exact y.elim .inl λe=>.inr ⟨l,aN,e⟩
   .exact .inr ⟨x,by simp[r],e⟩
  .rcases List.mem_cons.1 r with rfl|r
   .exact py (rF f n _) (rF f n _) (rF f n _) C u
   .exact J x r
end
section
variable {x:Nat}{a:aj}
def lp.drew (h:lp B a w):lp B a w.drew:=⟨h.size,h.block⟩
theorem lp.drewN (h:lp B a w) q:lp B a (w.drewN q):=⟨h.size,h.block⟩
theorem aC.drewN {g}(h:aC w b n g) q:aC (w.drewN q) b n g:=h
def below_drewN (h:ac B a w) q:ac B a (w.drewN q):=⟨h.os,h.tape,h.output,h.size,h.block⟩
def aC.drew {g}(h:aC w b n g):aC w.drew b n g:=h
def Mb (h:Nat->Int)(m k:Nat)(y:Nat):Int:=if y<k\/m<=y+k then h (m-1-y)else h y
def Av (g:Nat->Int)(off:Nat)(r:Nat->Int)(x:Nat):Int:=if x<off then g x else r (x-off)
def Hg (b n off m cap g w)(K:n<=1048576)(D:off+m=n)(u:aC w b n g): av Tz.prog 231 #[ad (some ⟨b,off,none⟩) m cap] w λe w'=>(∃v,e=ao v)/\aC w' b n (Av g off λy=>g<|off+(m-1-y))/\lp b w w'/\ac b w w':=by
 have L:=u.lt;go_enter Tz.func231,Tryz.ntmps231;go_wp2;go_loopw [2,3] (λx y wr=>∃k:Nat,2*k<=m+1/\x=aa .i64 k/\y=aa .i64 ((m:Int)-1-k)/\aC wr b n (Av g off<|Mb (λy=>g<|off+y) m k)/\lp b w wr/\ac b w wr) (λx _ _=>m-(intOf x).toNat)
 exact⟨0,ab,rfl,aN,u.congr (λi z=>by unfold Av Mb;split;rfl;rw[if_neg ab];congr 1;omega),lp.refl _ _,agn _ _⟩;obtain⟨k,M,rfl,rfl,r,A,Eq⟩:=hrel;by_cases N:2*k+1<m
 .obtain⟨q,O⟩:∃q,m=q+k+1:=⟨m-1-k,ab⟩;have E:((m:Int)-1-k)=(q:Int):=ab;have P:(k:Int)<q:=ab;have F:(q:Int)<m:=ab;have G:(k:Int)<m:=ab;have Q:=r.cellAt (off+k) ab;have R:=r.cellAt (off+q) ab;have S:=λj=>r.frozen j;rw[E];go_wp2;go_region
  all_goals
   go_wp2;go_roundw
   .refine⟨k+1,ab,by go_num,by first|(congr 1;omega)|(go_num),?_,(A.setCell _ _).setCell _ _|>.drew,((Eq.setCell (agw _) _).setCell (agw _) _).drew⟩;refine aC.drew<|((r.set (off+k) ab _).set (off+q) ab _).congr λi z=>?_;unfold Av Mb;grind
   exact cD
 go_wp2;go_end0
 refine⟨⟨_,rfl⟩,r.congr λi z=>?_,A,Eq⟩;unfold Av Mb;by_cases C:i<off;omega;rw[if_neg C,if_neg C];by_cases J:i-off<k\/m<=i-off+k;simp_all;rw[if_neg J];congr 1;omega
def ER (h:g (m+1)<g m):ju g (m+1)=ju g m:=by simp[ju,h]
def EQ (h:¬g (m+1)<g m):ju g (m+1)=some m:=by simp[ju,h]
def Gy (h:g (m+1)<x):ml g x (m+1)=ml g x m:=by simp[ml,h]
def Gx (h:¬g (m+1)<x):ml g x (m+1)=m+1:=by simp[ml,h]
def WH (g){k q}(e:i<n)(j:k+1<n)(r:k<q):Av (λi=>if i=q then(g k:Int)else if i=k then(g q:Int)else(g i:Int)) (k+1) (λy=>(λi=>if i=q then(g k:Int)else if i=k then(g q:Int)else(g i:Int))<|k+1+(n-(k+1)-1-y)) i=((Mt n (Mo g k q) k i:Nat):Int):=by unfold Av Mt Mo;grind
def Re (b n cap:Nat)(g:Nat->Nat)(w:aj)(K:n<=1048576)(BG:n<=cap)(F:aC w b n (λi=>(g i:Int))):
  av Tz.prog 218 #[ad b n cap] w λe w'=>e=ao (.bool (ob n g).isSome)/\(∀g',ob n g=some g'->aC w' b n (λi=>(g' i:Int)))/\lp b w w'/\ac b w w':=by
 have pa:=F.lt;go_enter Tz.func218,Tryz.ntmps218
 go_wp2;rcases agJ n with L|M
 .subst L;go_loopw [3] (λx wr=>x=aa .i64 (-2)/\wr=w) (λx _=>0)
  .exact⟨by go_num,rfl⟩
  obtain⟨rfl,rfl⟩:=hrel;go_wp2;go_quiet (fail)
  go_wp2;go_ret;exact⟨de rfl,λg' h=>by simp[ob,ju]at h,(lp.refl _ _).drewN _,below_drewN (agn _ _) _⟩
 have N:0<n:=M;go_loopw [3] (λx wr=>∃k:Nat,x=aa .i64 ((k:Int)-1)/\k+1<=n/\ju g (n-1)=ju g k/\aC wr b n (λi=>(g i:Int))/\lp b w wr/\ac b w wr) (λx _=>(intOf x+1).toNat)
 .exact⟨n-1,by go_num,ab,rfl,F,lp.refl _ _,agn _ _⟩
 obtain⟨k,rfl,hk,z,r,u,Eq⟩:=hrel;cases k with
 |zero=>
  have G:ob n g=none:=by unfold ob;rw[z];rfl
  have v:Hid (ob n g=none):=G;clear G;go_wp2;go_quiet (fail)
  go_wp2;go_ret;exact⟨de (by rw[v.out];rfl),λg' h=>absurd (v.out.symm.trans h) aN,u.drewN _,below_drewN Eq _⟩
 |succ k=>
  have O:(((k+1:Nat):Int)-1)=(k:Int):=ab;have tX:(k:Int)<n:=ab;have P:(k:Int)+1<n:=ab;have Q:=r.cellAt k ab;have R:=r.cellAt (k+1) ab;rw[O];by_cases A:g (k+1)<g k
  .have C:(((g (k+1):Nat):Int)<((g k:Nat):Int)):=by omega
   go_wp2;go_quiet (fail)
   go_wp2;go_roundw
   .exact⟨k,by go_num,ab,z.trans<|ER A,r.drewN _,u.drewN _,below_drewN Eq _⟩
   simp[intOf]<;>omega
  have C:¬(((g (k+1):Nat):Int)<((g k:Nat):Int)):=by omega
  have y:ju g (n-1)=some k:=z.trans<|EQ A;have v:Hid (ob n g=some (Mt n (Mo g k<|ml g (g k)<|n-1) k)):=by unfold ob;rw[y];exact rfl
  clear z y;go_wp2;go_quiet (fail)
  go_wp2;go_loopw [4] (λx W=>∃q:Nat,x=aa .i64 q/\k+1<=q/\q+1<=n/\ml g (g k) (n-1)=ml g (g k) q/\aC W b n (λi=>(g i:Int))/\lp b w W/\ac b w W) (λx _=>(intOf x).toNat)
  .exact⟨n-1,by go_num,ab,ab,rfl,r.drewN _,u.drewN _,below_drewN Eq _⟩
  obtain⟨q,rfl,S,U,J,r,u,Eq⟩:=hrel;have Q:=r.cellAt k ab;have R:=r.cellAt q ab;have V:(q:Int)<n:=ab;by_cases D:g q<g k
  .have X:(((g q:Nat):Int)<((g k:Nat):Int)):=by omega
   have Y:q≠k+1:=λe=>by subst e;exact A D
   obtain⟨q,rfl⟩:∃p,q=p+1:=⟨q-1,ab⟩;go_wp2;go_quiet (fail)
   go_wp2;go_roundw
   .exact⟨q,by go_num,ab,ab,J.trans<|Gy D,r.drewN _,u.drewN _,below_drewN Eq _⟩
   simp[intOf]
  have X:¬(((g q:Nat):Int)<((g k:Nat):Int)):=by omega
  have E:ml g (g k) (n-1)=q:=by
   obtain⟨p,rfl⟩:∃p,q=p+1:=⟨q-1,ab⟩;exact J.trans<|Gx D
  rw[E]at v;have Bc:=λj=>r.frozen j
  have Z:(k:Int)≠q:=ab;go_wp2;go_quiet (fail)
  go_wp2;go_region
  all_goals
   go_wp2_with(go_at_call 231;refine(Hg b n (k+1) (n-(k+1)) _ _ _ K ab<|((r.drewN _).set k ab _).set q ab _).mono ?_;rintro e w1 ⟨⟨v1,rfl⟩,o1,t1,b1⟩)
   go_ret;refine⟨de (by rw[v.out];rfl),λg' h=>?_,(((u.drewN _).setCell _ _).setCell _ _).trans t1,(((below_drewN Eq _).setCell (agw _) _).setCell (agw _) _).trans b1⟩;obtain rfl:=agC<|v.out.symm.trans h;exact o1.congr λi hi=>WH g hi ab ab
end
def wpList_append_run {P ops rest o a Q}(y:o.guard=none)(s x t) (ho:o.op=.call {callee:=.builtin .append,args:=#[s,x],argTypes:=#[t,t]})(v e)(q:a.eval s=v)(r:a.eval x=e){j} (u:(Builtin.append_ #[t,t] o.type #[v,e]).run P w=.ok j w')(h:aP P ops Q rest (a.put o.dst j) w'):aP P ops Q (o::rest) a w:=by (have hw:Region.wanted o (yielded ops a.tmps)=true:=by grind [Region.wanted]);unfold aP;rw[if_pos hw];refine .inl ?_;unfold Oper.wp execOp;simp only[ho,resolve,invoke,builtin,Sem.run_bind,Sem.run_pure,Result.andThen_ok,List.map_toArray,List.map_cons,List.map_nil,q,r,u];exact h
def jg (w:aj)(B:Nat):Prop:=∃e,w.heap[B]?=some (.cells e 3 (0,0))/\∀v∈e,∃x,v=aa .i64 x
def jg.below (h:jg w b)(e:ac B w w')(j:b<B):jg w' b:=by let⟨k,q,r⟩:=h;exact⟨k,(e.block b j).trans q,r⟩
def m9:Tz.prog.underlying 106=some (.slice 3):=aO
def DV (b n cap:Nat)(g)(w:aj)(hn:n<=1048576)(O:b<w)(R:aD w b 0 n g): ∃B c w',(Builtin.append_ #[106,106] 106 #[ad w 0 0,ad b n cap]).run Tz.prog (w.alloc<|.cells #[] 3)=.ok (ad (some ⟨B,0,none⟩) n c) w'/\n<=c/\w<=B/\B<w'/\jg w' B/\aD w' B 0 n g/\ac w w w':=by
 obtain⟨i0,r,U,eI,f8⟩:∃i0,Tz.prog.info? 3=some i0/\i0.zero=some (aa .i64 0)/\i0.size=1/\i0.bytes=8:=by have h:=mh;rcases r:Tz.prog.info? 3 with _|i0;grind;grind
 have y:ac w w (w.alloc<|.cells #[] 3):=(agn _ _).alloc ab _;have A:(w.alloc<|.cells #[] 3).heap[(w:Nat)]?=some _:=aL _ _;let e:List Value:=(List.range n).map λj=>aa .i64<|g j;have C:e.length=n*i0.size:=f7;have D:∀j u,e[j]?=some u->(w.alloc<|.cells #[] 3).cell? ((b:Addr).add j)=some u:=λj u q=>by(have z:j<n:=by rcases agE j n with h|h;exact h;rw[agG cQ]at q;cases q);simp[e,z]at q;rw[<-q];have:=(R.below y O) j z;grind [Addr.add]
 have Y:∀u∈e,u.oneCell'=true:=λu q=>by simp[e]at q;obtain⟨_,_,rfl⟩:=q;rfl
 rcases agJ n with Z|gZ;subst Z;exact⟨_,_,_,(run_append_room _ 106 106 3 i0 m9 r w 0 0 #[] A b 0 cap e C D Y ab ab),agw _,agw _,by simp,⟨_,setRow_heap _ _ _ _ _ _ A,by grind⟩,λi hi=>absurd hi ab,⟨rfl,rfl,rfl,aN,λk hk=>(setRow_other _ _ _ _ cY).trans<|y.block k hk⟩⟩;have J:=run_append_grow _ 106 106 3 i0 _ m9 r U w 0 0 [] aN aN b n cap e C D ab ab<|growslice_fits ab f7;have N:=grownCap_ge (w.alloc<|.cells #[] 3) (0+n) 0 3;simp only[Nat.zero_add]at J N;refine⟨_,_,_,J,N,?_,?_,⟨_,aL _ _,?_⟩,?_,(y.drew).alloc aN _⟩;simp;simp;intro v hv;simp[e,Builtin.zeroCells,Value.cells]at hv;grind;intro j z;rw[show(⟨(w.alloc _).heap.size,0+j,none⟩:Addr)=⟨(w.alloc _).drew.heap.size,j,none⟩ by simp,cell_of_row _ _ _ _ _ _ (aL (w.alloc _).drew _)];grind
def MJ (b n cap:Nat)(g)(w:aj)(q:n<=1048576)(r:b<w)(u:aD w b 0 n g): av Tz.prog 219 #[ad b n cap] w λe w'=>∃B c,e=ao (ad (some ⟨B,0,none⟩) n c)/\n<=c/\w<=B/\B<w'/\jg w' B/\aD w' B 0 n g/\ac w w w':=by let⟨B,c,w',v,y,z,A,C,D,J⟩:=DV b n cap g w q r u;have N:=Go.Lib.run_eql_slice_nil w 106 3 b n cap 0 0 m9;go_enter Tz.func219,Tryz.ntmps219;(go_wp2_with(refine wpList_append_run rfl (.tmp 5) (.tmp 6) 106 rfl _ _ bQ bQ v ?_));go_ret;exact⟨B,c,rfl,y,z,A,C,D,J⟩
abbrev Lf (w:aj)(m:Mv):World:=w.alloc<|.cells #[m.name,m.ax,m.aI,m.cj,m.late,m.prom] 30
def Pr (w m):vF (Lf w m) w 0 m:=by constructor<;>simp[Lf]
def ng (b off n cap:Nat)(f:Nat->Mv)(J Y cap':Nat)(o:Nat->Nat)(w:aj)(hm:aH f n)(ho:∀i,i<n->o i<n)(bN:b<w)(az:aM w b off n f)(Z:J<w)(aV:aD w J Y n (λi=>(o i:Int))):
  av Tz.prog 113 #[ad (some ⟨b,off,none⟩) n cap,ad (some ⟨J,Y,none⟩) n cap'] w λe w'=>nJ (eY f o n) n w e w'/\ac w w w':=by
 have h6:=bY hm;have HM:Hid (aH f n=true):=hm;clear hm;have OW:=vZ n ab;go_enter Tz.func113,Tryz.ntmps113
 go_wp2;go_loopw [7] (λi wr=>∃(k:Nat) (T:Nat->Int),k<=n/\i=aa .i64 k/\eY f o k=some T/\aC wr w n T/\ac w w wr) (λi _=>n-(intOf i).toNat)
 .exact⟨0,_,agB _,rfl,rfl,n8 w n,(agn _ w).alloc ab _⟩
 obtain⟨k,T,hk,rfl,hT,r,hB⟩:=hrel;have HT:Hid (eY f o k=some T):=hT;clear hT;have N:=Ec HM.out ho k T hk HT.out;by_cases O:k<n
 .have dQ:(k:Int)<n:=by omega
  have R:=ho k O;have Qw:((o k:Nat):Int)<n:=ab;have hc:wr.cell? ⟨J,Y+k,none⟩=some (aa .i64 ((o k:Nat):Int)):=(aV.below hB Z) k O;have eK:=bf HM.out (o k) R;let⟨z0,z1,z2,z3,z4,z5⟩:=Mv.gp eK;let⟨c0,c1,c2,c3,c4,c5⟩:=(az.below hB bN) (o k) R;have hA:ac wr wr (Lf wr<|f<|o k):=(agn _ _).alloc ab _;have u:=Pr wr<|f<|o k;have XV:=r.below hA r.lt;have Ux:ac w w (Lf wr<|f<|o k):=hB.trans<|hA.mono hB.size;have ax:(w:Nat)<=wr:=hB.size;have aI:(w:Nat)<wr:=r.lt;have HZ:Hid ((w:Nat)≠(wr:Nat)):=by
   have h:(w:Nat)≠(wr:Nat):=ab;exact h
  go_wp2;obtain⟨Bm,Xp⟩:∃Bm,Bm=(wr:Nat):=⟨_,rfl⟩;rw[<-Xp]at u ax aI⊢;go_loopw [9,10] (λl j wr=>∃q:Nat,q<=k/\j=aa .i64 q/\l=aa .i64 (bh f o T (o k) q)/\aC wr w n T/\vF wr Bm 0 (f<|o k)/\ac w w wr) (λ_ j _=>k-(intOf j).toNat)
  .exact⟨0,agB _,rfl,rfl,XV,u,Ux⟩
  clear r hB hc c0 c1 c2 c3 c4 c5 hA u XV Ux HZ Xp;obtain⟨q,hq,rfl,rfl,r,u,hB⟩:=hrel;have aZ:=pq (o:=o) (p:=o k) ⟨z0,ab⟩ N q;let⟨a9,OU⟩:=aZ;have eI:=r.lt;have f8:=aE u.c0;by_cases Fw:q<k
  .have UV:(q:Int)<k:=by omega
   have a7:(q:Int)<n:=ab;have ha:=ho q ab;have bb:((o q:Nat):Int)<n:=ab;have nY:1<=(f<|o q).pY (f<|o k):=kI _ _ _;have jI:(f<|o q).pY (f<|o k)<=4:=yk _ _ _;let⟨t0,t1⟩:=N<|o q;have HL:Hid (bh f o T (o k) (q+1)=if bh f o T (o k) q<T (o q)+(f<|o q).pY (f<|o k)then T (o q)+(f<|o q).pY (f<|o k)else bh f o T (o k) q):=rfl;have D:=(az.below hB bN) (o q) ha;have be:=aK wr;have x0:=λx:am wr=>x.cell<|(aV.below hB Z) q ab
   have x1:=λx:am wr=>x.cell<|r.cellAt (o q) ha
   have a0:=λx:am wr=>x.cell D.c0
   have a1:=λx:am wr=>x.cell D.c1
   have a2:=λx:am wr=>x.cell D.c2
   have a3:=λx:am wr=>x.cell D.c3
   have a4:=λx:am wr=>x.cell D.c4
   have a5:=λx:am wr=>x.cell D.c5
   have b0:=λx:am wr=>x.cell u.c0
   have b1:=λx:am wr=>x.cell u.c1
   have b2:=λx:am wr=>x.cell u.c2
   have b3:=λx:am wr=>x.cell u.c3
   have b4:=λx:am wr=>x.cell u.c4
   have b5:=λx:am wr=>x.cell u.c5
   simp only[Nat.zero_add]at b0 b1 b2 b3 b4 b5;by_cases k_:bh f o T (o k) q<T (o q)+(f<|o q).pY (f<|o k);all_goals
    go_wp2;refine bg ?_;repeat(go_big_quiet_step ((go_at_call 147;exact cr<|qY (f<|o q) (f<|o k) _)))
    refine a6<|cK ?_;intro w1 bK;go_wp2;go_roundw
    case rel=>exact⟨q+1,ab,by go_num,by rw[HL.out];first|rw[if_pos k_]|rw[if_neg ab],r.below bK eI,u.below bK f8,hB.trans<|bK.mono hB.size⟩
    exact cD
  have z_:q=k:=by omega
  subst z_;let⟨m0,m1,m2,m3,m4,m5⟩:=u;simp[Nat.zero_add]at m0 m1 m2 m3 m4 m5;have hc:wr.cell? ⟨J,Y+q,none⟩=some (aa .i64 ((o q:Nat):Int)):=(aV.below hB Z) q O;have hd:=r.cellAt (o q) R;have Bc:=r.frozen<|o q;have a7:(q:Int)<n:=ab;by_cases y:(f<|o q).prom=-1
  .have a8:(f<|o q).prom<0:=by omega
   by_cases v:bh f o T (o q) q<=(f<|o q).late
   .have A:=zp HT.out (by unfold jJ;rw[if_pos y];simpa using v);have U:jt (f<|o q) (bh f o T (o q) q)=bh f o T (o q) q:=by unfold jt;rw[if_pos y]
    rw[U]at A;have C:Hid (eY f o (q+1)=some (λp=>if p=o q then bh f o T (o q) q else T p)):=A;clear A U y;go_wp2;go_roundw
    .exact⟨q+1,_,ab,by go_num,C.out,r.set (o q) R _,hB.setCell aN _⟩
    exact cD
   have C:Hid (eY f o n=none):=Ed HT.out (by unfold jJ;rw[if_pos y];simpa using v) O;clear y;go_wp2;go_ret2
   refine⟨?_,by first|exact hB|exact hB.alloc hB.size _⟩;rw[C.out];exact⟨_,_,rfl⟩
  have a8:0<=(f<|o q).prom:=by omega
  have qf:(f<|o q).prom<=(f<|o q).late:=ab;by_cases v:bh f o T (o q) q<=(f<|o q).prom
  .have A:=zp HT.out (by unfold jJ;rw[if_neg y];simpa using v);have U:jt (f<|o q) (bh f o T (o q) q)=(f<|o q).prom:=by unfold jt;rw[if_neg y]
   rw[U]at A;have C:Hid (eY f o (q+1)=some (λp=>if p=o q then(f<|o q).prom else T p)):=A;clear A U y;go_wp2;go_roundw
   case rel=>exact⟨q+1,_,ab,by go_num,C.out,r.set (o q) R _,hB.setCell aN _⟩
   case measure=>exact cD
  have C:Hid (eY f o n=none):=Ed HT.out (by unfold jJ;rw[if_neg y];simpa using v) O;clear y;go_wp2;go_ret2
  constructor
  .rw[C.out];exact⟨_,_,rfl⟩
  first|exact hB|exact hB.alloc hB.size _
 have tX:k=n:=by omega
 subst tX;go_wp2;go_ret2
 refine⟨?_,hB⟩;rw[HT.out];exact⟨w,k,agw _,rfl,r,agw _⟩
