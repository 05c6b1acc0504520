import Derived.Test.YtlmcblcijndipaaGreatDoorj17
set_option linter.defProp false
set_option linter.unusedVariables false
set_option maxHeartbeats 4000000
namespace Go.Proofs.YtlmcblcijndipaaGreatDoor
open RowKit
variable {t:Int}{n p:Nat}{T:Nat->Int}{f:Nat->Mv}{o:Nat->Nat}
section
variable {i:Nat}
def aY (f:Nat->Mv)(o:Nat->Nat)(T:Nat->Int)(p:Nat):Nat->Int
 |0=>(f p).bF
 |k+1=>if aY f o T p k<T (o k)+(f<|o k).jX (f p)then T (o k)+(f<|o k).jX (f p)else aY f o T p k
def il (m:Mv)(t:Int):Int:=if m.prom=-1 then t else m.prom
def gR (m:Mv)(t:Int):Bool:=decide (t<=if m.prom=-1 then m.late else m.prom)
def eB (f:Nat->Mv)(o:Nat->Nat):Nat->Option (Nat->Int)
 |0=>some λ_=>0
 |i+1=>match eB f o i with
  |none=>none
  |some T=>if gR (f<|o i) (aY f o T (o i) i)=true then some (λp=>if p=o i then il (f<|o i) (aY f o T (o i) i)else T p)else none
def Kp (h:eB f o i=none):∀n,i<=n->eB f o n=none:=by
 intro n hn;induction n with
 |zero=>
  have:i=0:=ab;subst this;exact h
 |succ n ih=>
  by_cases e:i=n+1
  .subst e;exact h
  .simp only[eB,ih ab]
def BW (h:eB f o i=some T)(hk:gR (f<|o i) (aY f o T (o i) i)=false)(hi:i<n):eB f o n=none:=
 Kp (i:=i+1) (by simp only[eB,h,hk];rfl) n ab
def sR (h:eB f o i=some T)(hk:gR (f<|o i) (aY f o T (o i) i)=true):
  eB f o (i+1)=some (λp=>if p=o i then il (f<|o i) (aY f o T (o i) i)else T p):=by
 simp only[eB,h,hk];rfl
def ot {f:Nat->Mv}{o:Nat->Nat}{T:Nat->Int}{p:Nat}(hp:0<=(f p).bF/\(f p).bF<=10000)(hT:∀q,0<=T q/\T q<=10000):∀k,0<=aY f o T p k/\aY f o T p k<=10004
 |0=>by simp only[aY];omega
 |k+1=>by
  have h1:=ot hp hT k (o:=o);have h2:=fO (f (o k)).ak (f (o k)).ap (f p).ap;have h3:=sV (f (o k)).ak (f (o k)).ap (f p).ap;have h4:=hT (o k);have e:aY f o T p (k+1)=if aY f o T p k<T (o k)+(f (o k)).jX (f p)then T (o k)+(f (o k)).jX (f p)else aY f o T p k:=rfl
  have g:(f (o k)).jX (f p)=nZ (f (o k)).ak (f (o k)).ap (f p).ap:=rfl;rw[e,g];split<;>omega
def Oj {m:Mv}(hm:m.ok=true)(h0:0<=t)(hk:gR m t=true):0<=il m t/\il m t<=10000:=by
 have hb:=Mv.fp hm;unfold gR at hk;unfold il;simp only[decide_eq_true_eq]at hk;split<;>(rename_i e;simp only[e,if_true,if_false]at hk)<;>omega
def BU (hm:az f n=true)(ho:∀i,i<n->o i<n):∀(i:Nat) (T:Nat->Int),i<=n->eB f o i=some T->∀p,0<=T p/\T p<=10000
 |0,T,_,h,p=>by simp only[eB,Option.some.injEq]at h;subst h;simp
 |i+1,T,hi,h,p=>by
  cases e:eB f o i with
  |none=>simp only[eB,e]at h;cases h
  |some S=>
   have hS:=BU hm ho i S ab e;simp only[eB,e]at h;split at h
   .rename_i hk;simp only[Option.some.injEq]at h;subst h;have eO:=aW hm (o i)<|ho i ab;have hb:=Mv.fp eO;have hl:=ot (o:=o) (p:=o i) ⟨hb.1,ab⟩ hS i;have:=Oj eO hl.1 hk;by_cases c:p=o i
    .simp only[if_pos c];exact this
    .simp only[if_neg c];exact hS p
   .cases h
end
section
variable {b d:Bool}
def OQ {a c:Int}(h:a=c)(h':b=d):Ending.returned (.tuple #[a,b])=.returned (.tuple #[c,d]):=by rw[h,h']
def Ok (m:Mv)(t:Int)(w:World):
  Calls Tz.prog 252 #[.agg #[m.name,m.ak,m.ap,m.bF,m.late,m.prom],t] w λe w'=>e=.returned (.tuple #[.int .i64<|il m t,.bool<|gR m t])/\Below w w w':=by
 have hA:Below w w (w.alloc<|.cells #[m.name,m.ak,m.ap,m.bF,m.late,m.prom] 31):=(acU _ _).alloc (ac3 _) _;have g4:(w.alloc<|.cells #[m.name,m.ak,m.ap,m.bF,m.late,m.prom] 31).cell? ⟨w.heap.size,4,none⟩=some (.int .i64 m.late):=aG;have g5:(w.alloc<|.cells #[m.name,m.ak,m.ap,m.bF,m.late,m.prom] 31).cell? ⟨w.heap.size,5,none⟩=some (.int .i64 m.prom):=aG;have hne:=aF<|w.alloc<|.cells #[m.name,m.ak,m.ap,m.bF,m.late,m.prom] 31;have e4:=λx:ai (w.alloc<|.cells #[m.name,m.ak,m.ap,m.bF,m.late,m.prom] 31)=>x.cell g4
 have e5:=λx:ai (w.alloc<|.cells #[m.name,m.ak,m.ap,m.bF,m.late,m.prom] 31)=>x.cell g5
 clear g4 g5;by_cases hp:m.prom=-1
 .have P4:(m.prom !=-1)=false:=by simpa using hp
  have Yc:il m t=t:=by unfold il;rw[if_pos hp]
  have HV:Hid (il m t=t):=Yc;have X9:gR m t=decide (t<=m.late):=by unfold gR;rw[if_pos hp]
  have HB:Hid (gR m t=decide (t<=m.late)):=X9;clear Yc X9 hp;go_enter Tz.func252,Tryz.ntmps252
  go_wp2;refine jR ?_;intro w1 bI;go_wp2;go_ret2
  exact⟨OQ HV.out.symm HB.out.symm,hA.trans<|bI.mono hA.size⟩
 .have P4:(m.prom !=-1)=true:=by simpa using hp
  have Yc:il m t=m.prom:=by unfold il;rw[if_neg hp]
  have HV:Hid (il m t=m.prom):=Yc;have X9:gR m t=decide (t<=m.prom):=by unfold gR;rw[if_neg hp]
  have HB:Hid (gR m t=decide (t<=m.prom)):=X9;clear Yc X9 hp;go_enter Tz.func252,Tryz.ntmps252
  go_wp2;refine jR ?_;intro w1 bI;go_wp2;go_ret2
  exact⟨OQ HV.out.symm HB.out.symm,hA.trans<|bI.mono hA.size⟩
def O3 (a p:Nat)(bt bl:Nat)(b off n cap:Nat)(f:Nat->Mv)(tb:Nat)(T:Nat->Int)(w:World)(ha:a<n)(hp:p<n)(hn:n<=1048576)
  (hT:0<=T a/\T a<=10000)
  (ct:w.cell? bt=some (.slice tb n n))(cl:w.cell? bl=some (.slice (some ⟨b,off,none⟩) n cap))(am:aJ w b off n f)(bc:aC w tb n T):
  Calls Tz.prog 251 #[.int .i64 (a:Int),.int .i64 (p:Int),.pointer bt,.pointer bl] w λe w'=>e=.returned (.int .i64<|T a+(f a).jX (f p))/\Below w w w':=by
 have mw:=fO (f a).ak (f a).ap (f p).ap;have jT:=sV (f a).ak (f a).ap (f p).ap;have hg:1<=(f a).jX (f p)/\(f a).jX (f p)<=4:=⟨mw,jT⟩;clear mw jT;let⟨mw,jT⟩:=hg;let⟨hT0,hT1⟩:=hT;have ha':(a:Int)<n:=ab;have P4:(p:Int)<n:=ab;have G1:=am a ha;have Rz:=am p hp;have hne:=aF w;have x0:=λx:ai w=>x.cell ct
 have x1:=λx:ai w=>x.cell cl
 have x2:=λx:ai w=>x.cell<|bc.cellAt a ha
 have a0:=λx:ai w=>x.cell G1.c0
 have a1:=λx:ai w=>x.cell G1.c1
 have a2:=λx:ai w=>x.cell G1.c2
 have a3:=λx:ai w=>x.cell G1.c3
 have a4:=λx:ai w=>x.cell G1.c4
 have a5:=λx:ai w=>x.cell G1.c5
 have b0:=λx:ai w=>x.cell Rz.c0
 have b1:=λx:ai w=>x.cell Rz.c1
 have b2:=λx:ai w=>x.cell Rz.c2
 have b3:=λx:ai w=>x.cell Rz.c3
 have b4:=λx:ai w=>x.cell Rz.c4
 have b5:=λx:ai w=>x.cell Rz.c5
 go_enter Tz.func251,Tryz.ntmps251
 go_wp2;refine aI ?_;repeat(go_big_quiet_step ((go_at_call 109;exact bw<|pN (f a) (f p) _)))
 refine wpQuiet_nil<|bL ?_;intro w1 bI;go_wp2;go_ret;exact⟨rfl,bI⟩
end
def mO (r:Option (Nat->Int))(n:Nat)(w:World)(e:Ending)(w':World):Prop:=
 match r with
 |some T=>∃B cap,w.heap.size<=B/\e=.returned (.tuple #[.slice (some ⟨B,0,none⟩) n cap,.bool true])/\aC w' B n T/\n<=cap
 |none=>∃a cap,e=.returned (.tuple #[.slice a 0 cap,.bool false])
def Qp (r:Option (Nat->Int))(n:Nat)(w:World)(e:Ending)(w':World):Prop:=
 match r with
 |some T=>∃B,w.heap.size<=B/\e=.returned (.tuple #[.slice (some ⟨B,0,none⟩) n n,.bool true])/\aC w' B n T
 |none=>e=.returned (.tuple #[.slice none 0 0,.bool false])
def BX (b off n cap:Nat)(f:Nat->Mv)(b' aZ cap':Nat)(o:Nat->Nat)(w:World)(hm:az f n=true)(ho:∀i,i<n->o i<n)(xE:n<=cap')(bz:b<w)(am:aJ w b off n f)(bu:b'<w)(aP:aA w b' aZ n (λi=>(o i:Int))):
  Calls Tz.prog 231 #[.slice (some ⟨b',aZ,none⟩) n cap',.slice (some ⟨b,off,none⟩) n cap] w λe w'=>Qp (eB f o n) n w e w'/\Below w w w':=by
 have h6:=bP hm;have HM:Hid (az f n=true):=hm;clear hm;have P1:=um n ab;go_enter Tz.func231,Tryz.ntmps231
 go_wp2;go_loopw [21] (λi wr=>∃(k:Nat) (T:Nat->Int),k<=n/\i=.int .i64 k/\eB f o k=some T/\aC wr (w.heap.size+1) n T/\wr.cell? ⟨w.heap.size,0,none⟩=some (.slice (some ⟨b,off,none⟩) n cap)/\wr.cell? ⟨w.heap.size+1+1,0,none⟩=some (.slice (some ⟨w.heap.size+1,0,none⟩) n n)/\Below w.heap.size w wr) (λi _=>n-(intOf i).toNat)
 case atStart=>
  refine⟨0,_,ac8 _,rfl,rfl,?_,by simp[go_sem],by simp[go_sem],?_⟩
  .have:=nj (w.alloc<|.cells #[.slice (some ⟨b,off,none⟩) n cap] 23) n;simp only[World.size_alloc]at this;exact this.below ((acU _ _).alloc (ac3 _) _) this.lt
  .exact(((acU _ w).alloc (ac3 _) _).alloc aG _).alloc cH _
 case round=>
  obtain⟨k,T,hk,rfl,hT,bc,cl,cb,hB⟩:=hrel;have HT:Hid (eB f o k=some T):=hT;clear hT;have YU:=BU HM.out ho k T hk HT.out;by_cases ay:k<n
  .have dq:(k:Int)<n:=by omega
   have hp:=ho k ay;have P4:((o k:Nat):Int)<n:=ab;have hc:wr.cell? ⟨b',aZ+k,none⟩=some (.int .i64 ((o k:Nat):Int)):=(aP.below hB bu) k ay;have eO:=aW HM.out (o k) hp;let⟨z0,z1,z2,z3,z4,z5⟩:=Mv.fp eO;have Rz:=(am.below hB bz) (o k) hp;have c3:=Rz.c3;have Zu:(k:Int)<=cap':=ab;go_wp2;go_loopw [10,35] (λl j wr=>∃q:Nat,q<=k/\j=.int .i64 q/\l=.int .i64 (aY f o T (o k) q)/\aC wr (w.heap.size+1) n T/\wr.cell? w.heap.size=some (.slice (some ⟨b,off,none⟩) n cap)/\wr.cell? ⟨w.heap.size+1+1,0,none⟩=some (.slice (some ⟨w.heap.size+1,0,none⟩) n n)/\Below w w wr) (λ_ j _=>k-(intOf j).toNat)
   case atStart=>exact⟨0,ac8 _,rfl,rfl,bc,cl,cb,hB⟩
   case round=>
    clear bc cl cb hB hc Rz c3;obtain⟨q,hq,rfl,rfl,bc,cl,cb,hB⟩:=hrel;have hlb:=ot (o:=o) (p:=o k) ⟨z0,ab⟩ YU q;let⟨hl0,Je⟩:=hlb;have eG:=bc.lt;have ga:=block_lt_of_cell cl;have Oa:=block_lt_of_cell cb;by_cases Jh:q<k
    .have Zz:(q:Int)<k:=by omega
     have ha:=ho q ab;have hcq:wr.cell? ⟨b',aZ+q,none⟩=some (.int .i64 ((o q:Nat):Int)):=(aP.below hB bu) q ab;have mw:1<=(f<|o q).jX (f<|o k):=fO _ _ _;have jT:(f<|o q).jX (f<|o k)<=4:=sV _ _ _;let⟨t0,t1⟩:=YU<|o q;have HL:Hid (aY f o T (o k) (q+1)=if aY f o T (o k) q<T (o q)+(f<|o q).jX (f<|o k)then T (o q)+(f<|o q).jX (f<|o k)else aY f o T (o k) q):=rfl;have HC:=O3 (o q) (o k) (w.heap.size+1+1) w.heap.size b off n cap f (w.heap.size+1) T wr ha hp ab ⟨t0,t1⟩ cb cl (am.below hB bz) bc;by_cases VC:aY f o T (o k) q<T (o q)+(f<|o q).jX (f<|o k);all_goals
      go_wp2_with(go_at_call 251;refine HC.mono ?_;clear HC;rintro e w1 ⟨rfl,bI⟩)
      go_roundw
      case rel=>exact⟨q+1,ab,by go_num,by rw[HL.out];first|rw[if_pos VC]|rw[if_neg ab],bc.below bI eG,(bI.cell (p:=⟨w.heap.size,0,none⟩) ga).trans cl,(bI.cell (p:=⟨w.heap.size+1+1,0,none⟩) Oa).trans cb,hB.trans<|bI.mono hB.size⟩
      case measure=>exact bZ
    .have TF:q=k:=by omega
     subst TF;let⟨c0,c1,c2,c3,c4,c5⟩:=(am.below hB bz) (o q) hp;have hd:=bc.cellAt (o q) hp;have I8:=bc.frozen<|o q;have HK:=Ok (f<|o q) (aY f o T (o q) q) wr;cases hkb:gR (f<|o q) (aY f o T (o q) q)with
     |true=>
      have HE:Hid (eB f o (q+1)=some (λp=>if p=o q then il (f<|o q) (aY f o T (o q) q)else T p)):=sR HT.out hkb;rw[hkb]at HK;go_wp2_with(go_at_call 252;refine HK.mono ?_;clear HK;rintro e w1 ⟨rfl,bI⟩;have hd1:=(bI.cell (p:=⟨w.heap.size+1,o q,none⟩) eG).trans hd;have pH:=(bI.frozen (p:=⟨w.heap.size+1,o q,none⟩) eG).trans I8;have cb1:=(bI.cell (p:=⟨w.heap.size+1+1,0,none⟩) Oa).trans cb;have cl1:=(bI.cell (p:=⟨w.heap.size,0,none⟩) ga).trans cl)
      have fP:=bc.below bI eG;go_roundw
      case rel=>exact⟨q+1,_,ab,by go_num,HE.out,fP.set (o q) hp _,(World.cell?_setCell_other _ _ _ _ aG).trans cl1,(World.cell?_setCell_other _ _ _ _ aG).trans cb1,(hB.trans<|bI.mono hB.size).setCell aG _⟩
      case measure=>exact bZ
     |false=>
      have HE:Hid (eB f o n=none):=BW HT.out hkb ay;rw[hkb]at HK;go_wp2_with(go_at_call 252;refine HK.mono ?_;clear HK;rintro e w1 ⟨rfl,bI⟩)
      go_ret2
      refine⟨?_,hB.trans<|bI.mono hB.size⟩;rw[HE.out];exact rfl
  .have tS:k=n:=by omega
   subst tS;go_wp2;go_ret2
   refine⟨?_,hB⟩;rw[HT.out];exact⟨w.heap.size+1,ab,rfl,bc⟩
section
variable {a b:Mv}{s:Int}
def mz {S:Nat->Int}:∀j:Nat,(∀k,k<j->T (o k)=S (o k))->aY f o T p j=aY f o S p j
 |0,_=>rfl
 |j+1,h=>by
  simp only[aY];rw[mz j (λk hk=>h k ab),h j ab]
def jM {f:Nat->Mv}{o:Nat->Nat}{T:Nat->Int}{p:Nat}:∀j:Nat,(f p).bF<=aY f o T p j/\(∀k,k<j->T (o k)+(f (o k)).jX (f p)<=aY f o T p j)/\(aY f o T p j=(f p).bF\/∃k,k<j/\aY f o T p j=T (o k)+(f (o k)).jX (f p))
 |0=>⟨Int.le_refl _,λk hk=>absurd hk (ac7 _),.inl rfl⟩
 |j+1=>by
  obtain⟨h1,h2,h3⟩:=jM (f:=f) (o:=o) (T:=T) (p:=p) j;simp only[aY];split
  .rename_i ay;refine⟨by omega,λk hk=>?_,.inr ⟨j,by omega,rfl⟩⟩;by_cases e:k=j
   .subst e;omega
   .have:=h2 k (by omega);omega
  .rename_i ay;refine⟨h1,λk hk=>?_,?_⟩
   .by_cases e:k=j
    .subst e;omega
    .exact h2 k (by omega)
   .rcases h3 with h3|⟨k,hk,h3⟩
    .exact .inl h3
    .exact .inr ⟨k,by omega,h3⟩
def At:∀(i:Nat) (T:Nat->Int),eB f o i=some T->(∀j k,j<k->k<i->o j≠o k)->∀j,j<i->gR (f<|o j) (aY f o T (o j) j)=true/\T (o j)=il (f<|o j) (aY f o T (o j) j)
 |0,_,_,_,j,hj=>absurd hj (ac7 _)
 |i+1,T,h,hd,j,hj=>by
  cases e:eB f o i with
  |none=>simp only[eB,e]at h;cases h
  |some S=>
   have ih:=At i S e λj k h1 h2=>hd j k h1 ab;simp only[eB,e]at h;split at h
   .rename_i hk;simp only[Option.some.injEq]at h;have hT:∀k,k<i->T (o k)=S (o k):=λk hk=>by
     rw[<-h];simp only[if_neg (hd k i hk ab)]
    by_cases c:j=i
    .subst c;have hl:aY f o T (o j) j=aY f o S (o j) j:=mz j hT;rw[hl];exact⟨hk,by rw[<-h];simp⟩
    .have hl:aY f o T (o j) j=aY f o S (o j) j:=mz j λk hk=>hT k ab;rw[hl,hT j ab];exact ih j ab
   .cases h
def wo (h:s+a.jX b<=t):a.fF b s t=false/\b.fF a t s=false:=by
 have g:=fO a.ak a.ap b.ap;unfold Mv.jX at h;have h1:=jO a.ak a.ap b.ak b.ap s t;have h2:=jO b.ak b.ap a.ak a.ap t s;unfold Mv.fF;rw[if_neg ab,if_pos ab]at h1;rw[if_neg ab,if_neg ab]at h2;have q:decide (nZ a.ak a.ap b.ap<=t-s)=true:=cH;rw[q]at h1 h2;simpa using And.intro h1 h2
def tw (h:a.fF b s t=false):(s<=t->s+a.jX b<=t)/\(t<=s->t+b.jX a<=s):=by
 have h1:=jO a.ak a.ap b.ak b.ap s t;unfold Mv.fF at h;rw[h]at h1;unfold Mv.jX;by_cases e:s=t
 .subst e;simp at h1
 .rw[if_neg e]at h1;by_cases de:s<t
  .rw[if_pos de]at h1;simp at h1;exact⟨λ_=>ab,λ_=>ab⟩
  .rw[if_neg de]at h1;simp at h1;exact⟨λ_=>ab,λ_=>ab⟩
structure aap (f:Nat->Mv)(o:Nat->Nat)(n:Nat)(T:Nat->Int):Prop where
 fit:dU f T n
 up:∀i j,i<j->j<n->T (o i)<T (o j)
 least:∀i,i<n->¬dU f (λp=>if p=o i then T p-1 else T p) n
def qn (hm:az f n=true)(ho:∀i,i<n->o i<n)(hd:∀j k,j<k->k<n->o j≠o k)(h:eB f o n=some T):aap f o n T:=by
 have he:=At n T h hd;have hv:∀j,j<n->aY f o T (o j) j<=T (o j)/\T (o j)<=(f<|o j).late/\(f<|o j).bF<=T (o j)/\((f<|o j).prom=-1/\T (o j)=aY f o T (o j) j\/(f<|o j).prom=T (o j)):=λj hj=>by
  let⟨h1,h2⟩:=he j hj;have hb:=Mv.fp<|aW hm (o j)<|ho j hj;have hl:=(jM (f:=f) (o:=o) (T:=T) (p:=o j) j).1;unfold gR at h1;unfold il at h2;simp only[decide_eq_true_eq]at h1;by_cases e:(f<|o j).prom=-1
  .rw[if_pos e]at h1 h2;exact⟨ab,ab,ab,.inl ⟨e,h2⟩⟩
  .rw[if_neg e]at h1 h2;exact⟨ab,ab,ab,.inr h2.symm⟩
 have VA:∀i j,i<j->j<n->T (o i)+(f<|o i).jX (f<|o j)<=T (o j):=λi j kq hj=>by
  have h1:=(jM (f:=f) (o:=o) (T:=T) (p:=o j) j).2.1 i kq;have h2:=(hv j hj).1;omega
 have hs:∀p,p<n->∃i,i<n/\o i=p:=zR n o ho hd;refine⟨⟨λp hp=>?_,λq p ZQ hq=>?_⟩,λi j kq hj=>?_,λi hi hf=>?_⟩
 .obtain⟨i,hi,rfl⟩:=hs p hp;let⟨_,h2,h3,h4⟩:=hv i hi;unfold Mv.eM qe iB;simp only[Bool.and_eq_true,Bool.or_eq_true,decide_eq_true_eq,beq_iff_eq];omega
 .obtain⟨i,hi,rfl⟩:=hs p ab;obtain⟨j,hj,rfl⟩:=hs q hq;rcases Nat.lt_trichotomy i j with kq|kq|kq
  .exact(wo<|VA i j kq hj).1
  .subst kq;exact absurd ZQ<|Nat.lt_irrefl _
  .exact(wo<|VA j i kq hi).2
 .have h1:=VA i j kq hj;have g:=fO (f<|o i).ak (f<|o i).ap (f<|o j).ap;unfold Mv.jX at h1;omega
 .let⟨h1,h2,h3,h4⟩:=hv i hi;have hb:=Mv.fp<|aW hm (o i)<|ho i hi;have TM:=hf.1 (o i)<|ho i hi;simp only[if_true]at TM;unfold Mv.eM qe iB at TM;simp only[Bool.and_eq_true,Bool.or_eq_true,decide_eq_true_eq,beq_iff_eq]at TM;rcases h4 with⟨e,hl⟩|e
  .rcases(jM (f:=f) (o:=o) (T:=T) (p:=o i) i).2.2 with hh|⟨k,hk,hh⟩
   .omega
   .have hne:=hd k i hk hi;have g:=fO (f<|o k).ak (f<|o k).ap (f<|o i).ap;have hgg:(f<|o k).jX (f<|o i)=nZ (f<|o k).ak (f<|o k).ap (f<|o i).ap:=rfl;rcases Nat.lt_or_gt_of_ne hne with ay|ay
    .have:=(tw<|hf.2 (o i) (o k) ay<|ho i hi).1;simp only[if_true,if_neg hne]at this;omega
    .have:=(tw<|hf.2 (o k) (o i) ay<|ho k ab).2;simp only[if_true,if_neg hne]at this;omega
  .omega
end
abbrev I0 (w:World)(m:Mv):World:=w.alloc<|.cells #[m.name,m.ak,m.ap,m.bF,m.late,m.prom] 31
def MN (w:World)(m:Mv):tW (I0 w m) w.heap.size 0 m:=by
 constructor<;>simp[I0]
def me (b off n cap:Nat)(f:Nat->Mv)(b' aZ cap':Nat)(o:Nat->Nat)(w:World)(hm:az f n=true)(ho:∀i,i<n->o i<n)(bz:b<w)(am:aJ w b off n f)(bu:b'<w)(aP:aA w b' aZ n (λi=>(o i:Int))):
  Calls Tz.prog 104 #[.slice (some ⟨b,off,none⟩) n cap,.slice (some ⟨b',aZ,none⟩) n cap'] w λe w'=>mO (eB f o n) n w e w'/\Below w w w':=by
 have h6:=bP hm;have HM:Hid (az f n=true):=hm;clear hm;have P1:=um n ab;go_enter Tz.func104,Tryz.ntmps104
 go_wp2;go_loopw [7] (λi wr=>∃(k:Nat) (T:Nat->Int),k<=n/\i=.int .i64 k/\eB f o k=some T/\aC wr w.heap.size n T/\Below w.heap.size w wr) (λi _=>n-(intOf i).toNat)
 case atStart=>exact⟨0,_,ac8 _,rfl,rfl,nj w n,(acU _ w).alloc (ac3 _) _⟩
 case round=>
  obtain⟨k,T,hk,rfl,hT,bc,hB⟩:=hrel;have HT:Hid (eB f o k=some T):=hT;clear hT;have YU:=BU HM.out ho k T hk HT.out;by_cases ay:k<n
  .have dq:(k:Int)<n:=by omega
   have hp:=ho k ay;have P4:((o k:Nat):Int)<n:=ab;have hc:wr.cell? ⟨b',aZ+k,none⟩=some (.int .i64 ((o k:Nat):Int)):=(aP.below hB bu) k ay;have eO:=aW HM.out (o k) hp;let⟨z0,z1,z2,z3,z4,z5⟩:=Mv.fp eO;let⟨c0,c1,c2,c3,c4,c5⟩:=(am.below hB bz) (o k) hp;have hA:Below wr wr (I0 wr<|f<|o k):=(acU _ _).alloc (ac3 _) _;have hM:=MN wr<|f<|o k;have Tw:=bc.below hA bc.lt;have hBA:Below w w (I0 wr<|f<|o k):=hB.trans<|hA.mono hB.size;have hzw:w.heap.size<=wr:=hB.size;have hzo:w.heap.size<wr:=bc.lt;have HZ:Hid (w.heap.size≠wr.heap.size):=by
    have h:w.heap.size≠wr.heap.size:=ab;exact h
   go_wp2;obtain⟨Bm,YP⟩:∃Bm,Bm=wr.heap.size:=⟨_,rfl⟩;rw[<-YP]at hM hzw hzo⊢;go_loopw [9,10] (λl j wr=>∃q:Nat,q<=k/\j=.int .i64 q/\l=.int .i64 (aY f o T (o k) q)/\aC wr w.heap.size n T/\tW wr Bm 0 (f<|o k)/\Below w w wr) (λ_ j _=>k-(intOf j).toNat)
   case atStart=>exact⟨0,ac8 _,rfl,rfl,Tw,hM,hBA⟩
   case round=>
    clear bc hB hc c0 c1 c2 c3 c4 c5 hA hM Tw hBA HZ YP;obtain⟨q,hq,rfl,rfl,bc,hM,hB⟩:=hrel;have hlb:=ot (o:=o) (p:=o k) ⟨z0,ab⟩ YU q;let⟨hl0,Je⟩:=hlb;have eG:=bc.lt;have ga:=block_lt_of_cell hM.c0;by_cases Jh:q<k
    .have Zz:(q:Int)<k:=by omega
     have ZS:(q:Int)<n:=ab;have ha:=ho q ab;have ha':((o q:Nat):Int)<n:=ab;have hcq:wr.cell? ⟨b',aZ+q,none⟩=some (.int .i64 ((o q:Nat):Int)):=(aP.below hB bu) q ab;have mw:1<=(f<|o q).jX (f<|o k):=fO _ _ _;have jT:(f<|o q).jX (f<|o k)<=4:=sV _ _ _;let⟨t0,t1⟩:=YU<|o q;have HL:Hid (aY f o T (o k) (q+1)=if aY f o T (o k) q<T (o q)+(f<|o q).jX (f<|o k)then T (o q)+(f<|o q).jX (f<|o k)else aY f o T (o k) q):=rfl;have G1:=(am.below hB bz) (o q) ha;have hne:=aF wr;have x0:=λx:ai wr=>x.cell hcq
     have x1:=λx:ai wr=>x.cell<|bc.cellAt (o q) ha
     have a0:=λx:ai wr=>x.cell G1.c0
     have a1:=λx:ai wr=>x.cell G1.c1
     have a2:=λx:ai wr=>x.cell G1.c2
     have a3:=λx:ai wr=>x.cell G1.c3
     have a4:=λx:ai wr=>x.cell G1.c4
     have a5:=λx:ai wr=>x.cell G1.c5
     have b0:=λx:ai wr=>x.cell hM.c0
     have b1:=λx:ai wr=>x.cell hM.c1
     have b2:=λx:ai wr=>x.cell hM.c2
     have b3:=λx:ai wr=>x.cell hM.c3
     have b4:=λx:ai wr=>x.cell hM.c4
     have b5:=λx:ai wr=>x.cell hM.c5
     simp only[Nat.zero_add]at b0 b1 b2 b3 b4 b5;by_cases VC:aY f o T (o k) q<T (o q)+(f<|o q).jX (f<|o k);all_goals
      go_wp2;refine aI ?_;repeat(go_big_quiet_step ((go_at_call 130;exact bw<|qc (f<|o q) (f<|o k) _)))
      refine wpQuiet_nil<|bL ?_;intro w1 bI;go_wp2;go_roundw
      case rel=>exact⟨q+1,ab,by go_num,by rw[HL.out];first|rw[if_pos VC]|rw[if_neg ab],bc.below bI eG,hM.below bI ga,hB.trans<|bI.mono hB.size⟩
      case measure=>exact bZ
    .have TF:q=k:=by omega
     subst TF;let⟨m0,m1,m2,m3,m4,m5⟩:=hM;simp only[Nat.zero_add]at m0 m1 m2 m3 m4 m5;have hc:wr.cell? ⟨b',aZ+q,none⟩=some (.int .i64 ((o q:Nat):Int)):=(aP.below hB bu) q ay;have hd:=bc.cellAt (o q) hp;have I8:=bc.frozen<|o q;have ZS:(q:Int)<n:=ab;by_cases s9:(f<|o q).prom=-1
     .have XI:(f<|o q).prom<0:=by omega
      by_cases hle:aY f o T (o q) q<=(f<|o q).late
      .have J3:=sR HT.out (by unfold gR;rw[if_pos s9];simpa using hle);have HV:il (f<|o q) (aY f o T (o q) q)=aY f o T (o q) q:=by unfold il;rw[if_pos s9]
       rw[HV]at J3;have HE:Hid (eB f o (q+1)=some (λp=>if p=o q then aY f o T (o q) q else T p)):=J3;clear J3 HV s9;go_wp2;go_roundw
       case rel=>exact⟨q+1,_,ab,by go_num,HE.out,bc.set (o q) hp _,hB.setCell aG _⟩
       case measure=>exact bZ
      .have HE:Hid (eB f o n=none):=BW HT.out (by unfold gR;rw[if_pos s9];simpa using hle) ay;clear s9;go_wp2;go_ret2
       refine⟨?_,?_⟩
       .rw[HE.out];exact⟨_,_,rfl⟩
       .first|exact hB|exact hB.alloc hB.size _
     .have XI:0<=(f<|o q).prom:=by omega
      have oh:(f<|o q).prom<=(f<|o q).late:=ab;by_cases hle:aY f o T (o q) q<=(f<|o q).prom
      .have J3:=sR HT.out (by unfold gR;rw[if_neg s9];simpa using hle);have HV:il (f<|o q) (aY f o T (o q) q)=(f<|o q).prom:=by unfold il;rw[if_neg s9]
       rw[HV]at J3;have HE:Hid (eB f o (q+1)=some (λp=>if p=o q then(f<|o q).prom else T p)):=J3;clear J3 HV s9;go_wp2;go_roundw
       case rel=>exact⟨q+1,_,ab,by go_num,HE.out,bc.set (o q) hp _,hB.setCell aG _⟩
       case measure=>exact bZ
      .have HE:Hid (eB f o n=none):=BW HT.out (by unfold gR;rw[if_neg s9];simpa using hle) ay;clear s9;go_wp2;go_ret2
       refine⟨?_,?_⟩
       .rw[HE.out];exact⟨_,_,rfl⟩
       .first|exact hB|exact hB.alloc hB.size _
  .have tS:k=n:=by omega
   subst tS;go_wp2;go_ret2
   refine⟨?_,hB⟩;rw[HT.out];exact⟨w.heap.size,k,ac3 _,rfl,bc,ac3 _⟩
