import Derived.Test.YtlmcblcijndipaaGreatDoorj17
set_option linter.unusedVariables false
set_option maxHeartbeats 4000000
namespace Go.Proofs.YtlmcblcijndipaaGreatDoor
section
variable {f:Nat->Mv}{o:Nat->Nat}{i n:Nat}{T:Nat->Int}
def aV (f:Nat->Mv)(o:Nat->Nat)(T:Nat->Int)(p:Nat):Nat->Int
 |0=>(f p).ba
 |k+1=>if aV f o T p k<T (o k)+(f (o k)).oj (f p)then T (o k)+(f (o k)).oj (f p)else aV f o T p k
def iw (m:Mv)(t:Int):Int:=if m.prom=-1 then t else m.prom
def iv (m:Mv)(t:Int):Bool:=decide (t<=if m.prom=-1 then m.late else m.prom)
def d9 (f:Nat->Mv)(o:Nat->Nat):Nat->Option (Nat->Int)
 |0=>some λ_=>0
 |i+1=>match d9 f o i with
  |none=>none
  |some T=>if iv (f (o i)) (aV f o T (o i) i)=true then some (λp=>if p=o i then iw (f (o i)) (aV f o T (o i) i)else T p)else none
theorem Ih (h:d9 f o i=none):∀n,i<=n->d9 f o n=none:=by
 intro n hn;induction n with
 |zero=>
  have:i=0:=ab;subst this;exact h
 |succ n ih=>
  by_cases e:i=n+1
  .subst e;exact h
  .simp only[d9,ih ab]
theorem zU (h:d9 f o i=some T)(hk:iv (f (o i)) (aV f o T (o i) i)=false)(hi:i<n):d9 f o n=none:=
 Ih (i:=i+1) (by simp only[d9,h,hk];rfl) n ab
theorem vO (h:d9 f o i=some T)(hk:iv (f (o i)) (aV f o T (o i) i)=true):
  d9 f o (i+1)=some (λp=>if p=o i then iw (f (o i)) (aV f o T (o i) i)else T p):=by
 simp only[d9,h,hk];rfl
theorem nA {f:Nat->Mv}{o:Nat->Nat}{T:Nat->Int}{p:Nat}(hp:0<=(f p).ba/\(f p).ba<=10000)(hT:∀q,0<=T q/\T q<=10000):∀k,0<=aV f o T p k/\aV f o T p k<=10004
 |0=>by simp only[aV];omega
 |k+1=>by
  have h1:=nA hp hT k (o:=o);have h2:=iq (f (o k)).an (f (o k)).aD (f p).aD;have h3:=uX (f (o k)).an (f (o k)).aD (f p).aD;have h4:=hT (o k);have e:aV f o T p (k+1)=if aV f o T p k<T (o k)+(f (o k)).oj (f p)then T (o k)+(f (o k)).oj (f p)else aV f o T p k:=rfl
  have g:(f (o k)).oj (f p)=oO (f (o k)).an (f (o k)).aD (f p).aD:=rfl;rw[e,g];split<;>omega
theorem LI {m:Mv}(hm:m.ok=true){t:Int}(h0:0<=t)(hk:iv m t=true):0<=iw m t/\iw m t<=10000:=by
 have hb:=Mv.fR hm;unfold iv at hk;unfold iw;simp only[decide_eq_true_eq]at hk;split<;>(rename_i e;simp only[e,if_true,if_false]at hk)<;>omega
theorem zT (hm:aG f n=true)(ho:∀i,i<n->o i<n):∀(i:Nat) (T:Nat->Int),i<=n->d9 f o i=some T->∀p,0<=T p/\T p<=10000
 |0,T,_,h,p=>by simp only[d9,Option.some.injEq]at h;subst h;simp
 |i+1,T,hi,h,p=>by
  cases e:d9 f o i with
  |none=>simp only[d9,e]at h;cases h
  |some S=>
   have hS:=zT hm ho i S ab e;simp only[d9,e]at h;split at h
   .rename_i hk;simp only[Option.some.injEq]at h;subst h;have fw:=bj hm (o i) (ho i ab);have hb:=Mv.fR fw;have hl:=nA (o:=o) (p:=o i) ⟨hb.1,ab⟩ hS i;have:=LI fw hl.1 hk;by_cases c:p=o i
    .simp only[if_pos c];exact this
    .simp only[if_neg c];exact hS p
   .cases h
end
section
open RowKit
variable {b d:Bool}
theorem L9 {a c:Int}(h:a=c)(h':b=d):Ending.returned (.tuple #[a,b])=.returned (.tuple #[c,d]):=by rw[h,h']
theorem LJ (m:Mv)(t:Int)(w:World):
  Calls Tz.prog 252 #[.agg #[m.name,m.an,m.aD,m.ba,m.late,m.prom],t] w λe w'=>e=.returned (.tuple #[.int .i64 (iw m t),.bool (iv m t)])/\Below w w w':=by
 have hA:Below w w (w.alloc (.cells #[m.name,m.an,m.aD,m.ba,m.late,m.prom] 31)):=(aca _ _).alloc (ack _) _;have g4:(w.alloc (.cells #[m.name,m.an,m.aD,m.ba,m.late,m.prom] 31)).cell? ⟨w.heap.size,4,none⟩=some (.int .i64 m.late):=aH;have g5:(w.alloc (.cells #[m.name,m.an,m.aD,m.ba,m.late,m.prom] 31)).cell? ⟨w.heap.size,5,none⟩=some (.int .i64 m.prom):=aH;have hne:=aE (w.alloc (.cells #[m.name,m.an,m.aD,m.ba,m.late,m.prom] 31));have e4:=λx:aj (w.alloc (.cells #[m.name,m.an,m.aD,m.ba,m.late,m.prom] 31))=>x.cell g4
 have e5:=λx:aj (w.alloc (.cells #[m.name,m.an,m.aD,m.ba,m.late,m.prom] 31))=>x.cell g5
 clear g4 g5;by_cases hp:m.prom=-1
 .have Ns:(m.prom !=-1)=false:=by simpa using hp
  have Vf:iw m t=t:=by unfold iw;rw[if_pos hp]
  have HV:Hid (iw m t=t):=Vf;have Vb:iv m t=decide (t<=m.late):=by unfold iv;rw[if_pos hp]
  have HB:Hid (iv m t=decide (t<=m.late)):=Vb;clear Vf Vb hp;go_enter Tz.func252,Tryz.ntmps252
  go_wp2;refine ah ?_;repeat(go_big_quiet_step (fail))
  refine wpQuiet_nil (ak ?_);intro w1 bF;go_wp2;go_ret2
  exact⟨L9 HV.out.symm HB.out.symm,hA.trans (bF.mono hA.size)⟩
 .have Ns:(m.prom !=-1)=true:=by simpa using hp
  have Vf:iw m t=m.prom:=by unfold iw;rw[if_neg hp]
  have HV:Hid (iw m t=m.prom):=Vf;have Vb:iv m t=decide (t<=m.prom):=by unfold iv;rw[if_neg hp]
  have HB:Hid (iv m t=decide (t<=m.prom)):=Vb;clear Vf Vb hp;go_enter Tz.func252,Tryz.ntmps252
  go_wp2;refine ah ?_;repeat(go_big_quiet_step (fail))
  refine wpQuiet_nil (ak ?_);intro w1 bF;go_wp2;go_ret2
  exact⟨L9 HV.out.symm HB.out.symm,hA.trans (bF.mono hA.size)⟩
theorem Mu (a p:Nat)(bt bl:Nat)(b off n cap:Nat)(f:Nat->Mv)(tb:Nat)(T:Nat->Int)(w:World)(ha:a<n)(hp:p<n)(hn:n<=1048576)
  (hT:0<=T a/\T a<=10000)
  (ct:w.cell? bt=some (.slice tb n n))(cl:w.cell? bl=some (.slice (some ⟨b,off,none⟩) n cap))(aq:aM w b off n f)(aU:aJ w tb n T):
  Calls Tz.prog 251 #[.int .i64 (a:Int),.int .i64 (p:Int),.pointer bt,.pointer bl] w λe w'=>e=.returned (.int .i64 (T a+(f a).oj (f p)))/\Below w w w':=by
 have yR:=iq (f a).an (f a).aD (f p).aD;have oR:=uX (f a).an (f a).aD (f p).aD;have hg:1<=(f a).oj (f p)/\(f a).oj (f p)<=4:=⟨yR,oR⟩;clear yR oR;obtain⟨yR,oR⟩:=hg;obtain⟨M_,Ql⟩:=hT;have ha':(a:Int)<n:=ab;have Ns:(p:Int)<n:=ab;have Iy:=aq a ha;have OS:=aq p hp;have hne:=aE w;have x0:=λx:aj w=>x.cell ct
 have x1:=λx:aj w=>x.cell cl
 have x2:=λx:aj w=>x.cell (aU.cellAt a ha)
 have a0:=λx:aj w=>x.cell Iy.c0
 have a1:=λx:aj w=>x.cell Iy.c1
 have a2:=λx:aj w=>x.cell Iy.c2
 have a3:=λx:aj w=>x.cell Iy.c3
 have a4:=λx:aj w=>x.cell Iy.c4
 have a5:=λx:aj w=>x.cell Iy.c5
 have b0:=λx:aj w=>x.cell OS.c0
 have b1:=λx:aj w=>x.cell OS.c1
 have b2:=λx:aj w=>x.cell OS.c2
 have b3:=λx:aj w=>x.cell OS.c3
 have b4:=λx:aj w=>x.cell OS.c4
 have b5:=λx:aj w=>x.cell OS.c5
 go_enter Tz.func251,Tryz.ntmps251
 go_wp2;refine ah ?_;repeat(go_big_quiet_step ((go_at_call 109;exact bP (pc (f a) (f p) _))))
 refine wpQuiet_nil (ak ?_);intro w1 bF;go_wp2;go_ret;exact⟨rfl,bF⟩
end
section
open RowKit
def ma (r:Option (Nat->Int))(n:Nat)(w:World)(e:Ending)(w':World):Prop:=
 match r with
 |some T=>∃B cap,w.heap.size<=B/\e=.returned (.tuple #[.slice (some ⟨B,0,none⟩) n cap,.bool true])/\aJ w' B n T/\n<=cap
 |none=>∃a cap,e=.returned (.tuple #[.slice a 0 cap,.bool false])
def NN (r:Option (Nat->Int))(n:Nat)(w:World)(e:Ending)(w':World):Prop:=
 match r with
 |some T=>∃B,w.heap.size<=B/\e=.returned (.tuple #[.slice (some ⟨B,0,none⟩) n n,.bool true])/\aJ w' B n T
 |none=>e=.returned (.tuple #[.slice none 0 0,.bool false])
theorem zW (b off n cap:Nat)(f:Nat->Mv)(b' aW cap':Nat)(o:Nat->Nat)(w:World)(hm:aG f n=true)(ho:∀i,i<n->o i<n)(uP:n<=cap')(bw:b<w)(aq:aM w b off n f)(bc:b'<w)(aK:aB w b' aW n (λi=>(o i:Int))):
  Calls Tz.prog 231 #[.slice (some ⟨b',aW,none⟩) n cap',.slice (some ⟨b,off,none⟩) n cap] w λe w'=>NN (d9 f o n) n w e w'/\Below w w w':=by
 have h6:=cg hm;have HM:Hid (aG f n=true):=hm;clear hm;have Nr:=tB n ab;go_enter Tz.func231,Tryz.ntmps231
 go_wp2;go_loopw [21] (λi wr=>∃(k:Nat) (T:Nat->Int),k<=n/\i=.int .i64 k/\d9 f o k=some T/\aJ wr (w.heap.size+1) n T/\wr.cell? ⟨w.heap.size,0,none⟩=some (.slice (some ⟨b,off,none⟩) n cap)/\wr.cell? ⟨w.heap.size+1+1,0,none⟩=some (.slice (some ⟨w.heap.size+1,0,none⟩) n n)/\Below w.heap.size w wr) (λi _=>n-(intOf i).toNat)
 case atStart=>
  refine⟨0,_,acp _,rfl,rfl,?_,by simp[go_sem],by simp[go_sem],?_⟩
  .have:=mz (w.alloc (.cells #[.slice (some ⟨b,off,none⟩) n cap] 23)) n;simp only[World.size_alloc]at this;exact this.below ((aca _ _).alloc (ack _) _) this.lt
  .exact(((aca _ w).alloc (ack _) _).alloc aH _).alloc cC _
 case round=>
  obtain⟨k,T,hk,rfl,hT,aU,cl,cb,hB⟩:=hrel;have HT:Hid (d9 f o k=some T):=hT;clear hT;have VR:=zT HM.out ho k T hk HT.out;by_cases aI:k<n
  .have dG:(k:Int)<n:=by omega
   have hp:=ho k aI;have Ns:((o k:Nat):Int)<n:=ab;have hc:wr.cell? ⟨b',aW+k,none⟩=some (.int .i64 ((o k:Nat):Int)):=(aK.below hB bc) k aI;have fw:=bj HM.out (o k) hp;obtain⟨z0,z1,z2,z3,z4,z5⟩:=Mv.fR fw;have OS:=(aq.below hB bw) (o k) hp;have c3:=OS.c3;have hkc:(k:Int)<=cap':=ab;go_wp2;go_loopw [10,35] (λl j wr=>∃q:Nat,q<=k/\j=.int .i64 q/\l=.int .i64 (aV f o T (o k) q)/\aJ wr (w.heap.size+1) n T/\wr.cell? w.heap.size=some (.slice (some ⟨b,off,none⟩) n cap)/\wr.cell? ⟨w.heap.size+1+1,0,none⟩=some (.slice (some ⟨w.heap.size+1,0,none⟩) n n)/\Below w w wr) (λ_ j _=>k-(intOf j).toNat)
   case atStart=>exact⟨0,acp _,rfl,rfl,aU,cl,cb,hB⟩
   case round=>
    clear aU cl cb hB hc OS c3;obtain⟨q,hq,rfl,rfl,aU,cl,cb,hB⟩:=hrel;have WN:=nA (o:=o) (p:=o k) ⟨z0,ab⟩ VR q;obtain⟨hl0,JS⟩:=WN;have fq:=aU.lt;have iF:=block_lt_of_cell cl;have LA:=block_lt_of_cell cb;by_cases GM:q<k
    .have WP:(q:Int)<k:=by omega
     have ha:=ho q ab;have hcq:wr.cell? ⟨b',aW+q,none⟩=some (.int .i64 ((o q:Nat):Int)):=(aK.below hB bc) q ab;have yR:1<=(f (o q)).oj (f (o k)):=iq _ _ _;have oR:(f (o q)).oj (f (o k))<=4:=uX _ _ _;obtain⟨t0,t1⟩:=VR (o q);have HL:Hid (aV f o T (o k) (q+1)=if aV f o T (o k) q<T (o q)+(f (o q)).oj (f (o k))then T (o q)+(f (o q)).oj (f (o k))else aV f o T (o k) q):=rfl;have HC:=Mu (o q) (o k) (w.heap.size+1+1) w.heap.size b off n cap f (w.heap.size+1) T wr ha hp ab ⟨t0,t1⟩ cb cl (aq.below hB bw) aU;by_cases ST:aV f o T (o k) q<T (o q)+(f (o q)).oj (f (o k));all_goals
      go_wp2_with(go_at_call 251;refine HC.mono ?_;clear HC;rintro e w1 ⟨rfl,bF⟩)
      go_roundw
      case rel=>exact⟨q+1,ab,by go_num,by rw[HL.out];first|rw[if_pos ST]|rw[if_neg ab],aU.below bF fq,(bF.cell (p:=⟨w.heap.size,0,none⟩) iF).trans cl,(bF.cell (p:=⟨w.heap.size+1+1,0,none⟩) LA).trans cb,hB.trans (bF.mono hB.size)⟩
      case measure=>exact cf
    .have QG:q=k:=by omega
     subst QG;obtain⟨c0,c1,c2,c3,c4,c5⟩:=(aq.below hB bw) (o q) hp;have hd:=aU.cellAt (o q) hp;have Qp:=aU.frozen (o q);have HK:=LJ (f (o q)) (aV f o T (o q) q) wr;cases Zg:iv (f (o q)) (aV f o T (o q) q)with
     |true=>
      have HE:Hid (d9 f o (q+1)=some (λp=>if p=o q then iw (f (o q)) (aV f o T (o q) q)else T p)):=vO HT.out Zg;rw[Zg]at HK;go_wp2_with(go_at_call 252;refine HK.mono ?_;clear HK;rintro e w1 ⟨rfl,bF⟩;have hd1:=(bF.cell (p:=⟨w.heap.size+1,o q,none⟩) fq).trans hd;have uQ:=(bF.frozen (p:=⟨w.heap.size+1,o q,none⟩) fq).trans Qp;have cb1:=(bF.cell (p:=⟨w.heap.size+1+1,0,none⟩) LA).trans cb;have cl1:=(bF.cell (p:=⟨w.heap.size,0,none⟩) iF).trans cl)
      have fC:=aU.below bF fq;go_roundw
      case rel=>exact⟨q+1,_,ab,by go_num,HE.out,fC.set (o q) hp _,(World.cell?_setCell_other _ _ _ _ aH).trans cl1,(World.cell?_setCell_other _ _ _ _ aH).trans cb1,(hB.trans (bF.mono hB.size)).setCell aH _⟩
      case measure=>exact cf
     |false=>
      have HE:Hid (d9 f o n=none):=zU HT.out Zg aI;rw[Zg]at HK;go_wp2_with(go_at_call 252;refine HK.mono ?_;clear HK;rintro e w1 ⟨rfl,bF⟩)
      go_ret2
      refine⟨?_,hB.trans (bF.mono hB.size)⟩;rw[HE.out];exact rfl
  .have qo:k=n:=by omega
   subst qo;go_wp2;go_ret2
   refine⟨?_,hB⟩;rw[HT.out];exact⟨w.heap.size+1,ab,rfl,aU⟩
end
section
variable {f:Nat->Mv}{o:Nat->Nat}{T:Nat->Int}{p:Nat}{a b:Mv}{s t:Int}
theorem lP {S:Nat->Int}:∀j:Nat,(∀k,k<j->T (o k)=S (o k))->aV f o T p j=aV f o S p j
 |0,_=>rfl
 |j+1,h=>by
  simp only[aV];rw[lP j (λk hk=>h k ab),h j ab]
theorem lx {f:Nat->Mv}{o:Nat->Nat}{T:Nat->Int}{p:Nat}:∀j:Nat,(f p).ba<=aV f o T p j/\(∀k,k<j->T (o k)+(f (o k)).oj (f p)<=aV f o T p j)/\(aV f o T p j=(f p).ba\/∃k,k<j/\aV f o T p j=T (o k)+(f (o k)).oj (f p))
 |0=>⟨Int.le_refl _,λk hk=>absurd hk (aco _),.inl rfl⟩
 |j+1=>by
  obtain⟨h1,h2,h3⟩:=lx (f:=f) (o:=o) (T:=T) (p:=p) j;simp only[aV];split
  .rename_i aI;refine⟨by omega,λk hk=>?_,.inr ⟨j,by omega,rfl⟩⟩;by_cases e:k=j
   .subst e;omega
   .have:=h2 k (by omega);omega
  .rename_i aI;refine⟨h1,λk hk=>?_,?_⟩
   .by_cases e:k=j
    .subst e;omega
    .exact h2 k (by omega)
   .rcases h3 with h3|⟨k,hk,h3⟩
    .exact .inl h3
    .exact .inr ⟨k,by omega,h3⟩
theorem yI:∀(i:Nat) (T:Nat->Int),d9 f o i=some T->(∀j k,j<k->k<i->o j≠o k)->∀j,j<i->iv (f (o j)) (aV f o T (o j) j)=true/\T (o j)=iw (f (o j)) (aV f o T (o j) j)
 |0,_,_,_,j,hj=>absurd hj (aco _)
 |i+1,T,h,hd,j,hj=>by
  cases e:d9 f o i with
  |none=>simp only[d9,e]at h;cases h
  |some S=>
   have ih:=yI i S e (λj k h1 h2=>hd j k h1 ab);simp only[d9,e]at h;split at h
   .rename_i hk;simp only[Option.some.injEq]at h;have hT:∀k,k<i->T (o k)=S (o k):=λk hk=>by
     rw[<-h];simp only[if_neg (hd k i hk ab)]
    by_cases c:j=i
    .subst c;have hl:aV f o T (o j) j=aV f o S (o j) j:=lP j hT;rw[hl];exact⟨hk,by rw[<-h];simp⟩
    .have hl:aV f o T (o j) j=aV f o S (o j) j:=lP j (λk hk=>hT k ab);rw[hl,hT j ab];exact ih j ab
   .cases h
theorem GZ (h:s+a.oj b<=t):a.gt b s t=false/\b.gt a t s=false:=by
 have g:=iq a.an a.aD b.aD;unfold Mv.oj at h;have h1:=lA a.an a.aD b.an b.aD s t;have h2:=lA b.an b.aD a.an a.aD t s;unfold Mv.gt;rw[if_neg ab,if_pos ab]at h1;rw[if_neg ab,if_neg ab]at h2;have q:decide (oO a.an a.aD b.aD<=t-s)=true:=cC;rw[q]at h1 h2;simpa using And.intro h1 h2
theorem CI (h:a.gt b s t=false):(s<=t->s+a.oj b<=t)/\(t<=s->t+b.oj a<=s):=by
 have h1:=lA a.an a.aD b.an b.aD s t;unfold Mv.gt at h;rw[h]at h1;unfold Mv.oj;by_cases e:s=t
 .subst e;simp at h1
 .rw[if_neg e]at h1;by_cases dJ:s<t
  .rw[if_pos dJ]at h1;simp at h1;exact⟨λ_=>ab,λ_=>ab⟩
  .rw[if_neg dJ]at h1;simp at h1;exact⟨λ_=>ab,λ_=>ab⟩
structure ZN (f:Nat->Mv)(o:Nat->Nat)(n:Nat)(T:Nat->Int):Prop where
 fit:eH f T n
 up:∀i j,i<j->j<n->T (o i)<T (o j)
 least:∀i,i<n->¬eH f (λp=>if p=o i then T p-1 else T p) n
theorem tv {n:Nat}(hm:aG f n=true)(ho:∀i,i<n->o i<n)(hd:∀j k,j<k->k<n->o j≠o k)(h:d9 f o n=some T):ZN f o n T:=by
 have he:=yI n T h hd;have hv:∀j,j<n->aV f o T (o j) j<=T (o j)/\T (o j)<=(f (o j)).late/\(f (o j)).ba<=T (o j)/\((f (o j)).prom=-1/\T (o j)=aV f o T (o j) j\/(f (o j)).prom=T (o j)):=λj hj=>by
  obtain⟨h1,h2⟩:=he j hj;have hb:=Mv.fR (bj hm (o j) (ho j hj));have hl:=(lx (f:=f) (o:=o) (T:=T) (p:=o j) j).1;unfold iv at h1;unfold iw at h2;simp only[decide_eq_true_eq]at h1;by_cases e:(f (o j)).prom=-1
  .rw[if_pos e]at h1 h2;exact⟨ab,ab,ab,.inl ⟨e,h2⟩⟩
  .rw[if_neg e]at h1 h2;exact⟨ab,ab,ab,.inr h2.symm⟩
 have SR:∀i j,i<j->j<n->T (o i)+(f (o i)).oj (f (o j))<=T (o j):=λi j lI hj=>by
  have h1:=(lx (f:=f) (o:=o) (T:=T) (p:=o j) j).2.1 i lI;have h2:=(hv j hj).1;omega
 have hs:∀p,p<n->∃i,i<n/\o i=p:=yq n o ho hd;refine⟨⟨λp hp=>?_,λq p Xg hq=>?_⟩,λi j lI hj=>?_,λi hi hf=>?_⟩
 .obtain⟨i,hi,rfl⟩:=hs p hp;obtain⟨_,h2,h3,h4⟩:=hv i hi;unfold Mv.eV sZ iu;simp only[Bool.and_eq_true,Bool.or_eq_true,decide_eq_true_eq,beq_iff_eq];omega
 .obtain⟨i,hi,rfl⟩:=hs p ab;obtain⟨j,hj,rfl⟩:=hs q hq;rcases Nat.lt_trichotomy i j with lI|lI|lI
  .exact(GZ (SR i j lI hj)).1
  .subst lI;exact absurd Xg (Nat.lt_irrefl _)
  .exact(GZ (SR j i lI hi)).2
 .have h1:=SR i j lI hj;have g:=iq (f (o i)).an (f (o i)).aD (f (o j)).aD;unfold Mv.oj at h1;omega
 .obtain⟨h1,h2,h3,h4⟩:=hv i hi;have hb:=Mv.fR (bj hm (o i) (ho i hi));have Al:=hf.1 (o i) (ho i hi);simp only[if_true]at Al;unfold Mv.eV sZ iu at Al;simp only[Bool.and_eq_true,Bool.or_eq_true,decide_eq_true_eq,beq_iff_eq]at Al;rcases h4 with⟨e,hl⟩|e
  .rcases(lx (f:=f) (o:=o) (T:=T) (p:=o i) i).2.2 with hh|⟨k,hk,hh⟩
   .omega
   .have hne:=hd k i hk hi;have g:=iq (f (o k)).an (f (o k)).aD (f (o i)).aD;have hgg:(f (o k)).oj (f (o i))=oO (f (o k)).an (f (o k)).aD (f (o i)).aD:=rfl;rcases Nat.lt_or_gt_of_ne hne with aI|aI
    .have:=(CI (hf.2 (o i) (o k) aI (ho i hi))).1;simp only[if_true,if_neg hne]at this;omega
    .have:=(CI (hf.2 (o k) (o i) aI (ho k ab))).2;simp only[if_true,if_neg hne]at this;omega
  .omega
end
section
open RowKit
abbrev Gw (w:World)(m:Mv):World:=w.alloc (.cells #[m.name,m.an,m.aD,m.ba,m.late,m.prom] 31)
theorem Ko (w:World)(m:Mv):ti (Gw w m) w.heap.size 0 m:=by
 constructor<;>simp[Gw]
theorem lw (b off n cap:Nat)(f:Nat->Mv)(b' aW cap':Nat)(o:Nat->Nat)(w:World)(hm:aG f n=true)(ho:∀i,i<n->o i<n)(bw:b<w)(aq:aM w b off n f)(bc:b'<w)(aK:aB w b' aW n (λi=>(o i:Int))):
  Calls Tz.prog 104 #[.slice (some ⟨b,off,none⟩) n cap,.slice (some ⟨b',aW,none⟩) n cap'] w λe w'=>ma (d9 f o n) n w e w'/\Below w w w':=by
 have h6:=cg hm;have HM:Hid (aG f n=true):=hm;clear hm;have Nr:=tB n ab;go_enter Tz.func104,Tryz.ntmps104
 go_wp2;go_loopw [7] (λi wr=>∃(k:Nat) (T:Nat->Int),k<=n/\i=.int .i64 k/\d9 f o k=some T/\aJ wr w.heap.size n T/\Below w.heap.size w wr) (λi _=>n-(intOf i).toNat)
 case atStart=>exact⟨0,_,acp _,rfl,rfl,mz w n,(aca _ w).alloc (ack _) _⟩
 case round=>
  obtain⟨k,T,hk,rfl,hT,aU,hB⟩:=hrel;have HT:Hid (d9 f o k=some T):=hT;clear hT;have VR:=zT HM.out ho k T hk HT.out;by_cases aI:k<n
  .have dG:(k:Int)<n:=by omega
   have hp:=ho k aI;have Ns:((o k:Nat):Int)<n:=ab;have hc:wr.cell? ⟨b',aW+k,none⟩=some (.int .i64 ((o k:Nat):Int)):=(aK.below hB bc) k aI;have fw:=bj HM.out (o k) hp;obtain⟨z0,z1,z2,z3,z4,z5⟩:=Mv.fR fw;obtain⟨c0,c1,c2,c3,c4,c5⟩:=(aq.below hB bw) (o k) hp;have hA:Below wr wr (Gw wr (f (o k))):=(aca _ _).alloc (ack _) _;have hM:=Ko wr (f (o k));have QC:=aU.below hA aU.lt;have hBA:Below w w (Gw wr (f (o k))):=hB.trans (hA.mono hB.size);have hzw:w.heap.size<=wr:=hB.size;have hzo:w.heap.size<wr:=aU.lt;have HZ:Hid (w.heap.size≠wr.heap.size):=by
    have h:w.heap.size≠wr.heap.size:=ab;exact h
   go_wp2;obtain⟨Bm,VK⟩:∃Bm,Bm=wr.heap.size:=⟨_,rfl⟩;rw[<-VK]at hM hzw hzo⊢;go_loopw [9,10] (λl j wr=>∃q:Nat,q<=k/\j=.int .i64 q/\l=.int .i64 (aV f o T (o k) q)/\aJ wr w.heap.size n T/\ti wr Bm 0 (f (o k))/\Below w w wr) (λ_ j _=>k-(intOf j).toNat)
   case atStart=>exact⟨0,acp _,rfl,rfl,QC,hM,hBA⟩
   case round=>
    clear aU hB hc c0 c1 c2 c3 c4 c5 hA hM QC hBA HZ VK;obtain⟨q,hq,rfl,rfl,aU,hM,hB⟩:=hrel;have WN:=nA (o:=o) (p:=o k) ⟨z0,ab⟩ VR q;obtain⟨hl0,JS⟩:=WN;have fq:=aU.lt;have iF:=block_lt_of_cell hM.c0;by_cases GM:q<k
    .have WP:(q:Int)<k:=by omega
     have Xi:(q:Int)<n:=ab;have ha:=ho q ab;have ha':((o q:Nat):Int)<n:=ab;have hcq:wr.cell? ⟨b',aW+q,none⟩=some (.int .i64 ((o q:Nat):Int)):=(aK.below hB bc) q ab;have yR:1<=(f (o q)).oj (f (o k)):=iq _ _ _;have oR:(f (o q)).oj (f (o k))<=4:=uX _ _ _;obtain⟨t0,t1⟩:=VR (o q);have HL:Hid (aV f o T (o k) (q+1)=if aV f o T (o k) q<T (o q)+(f (o q)).oj (f (o k))then T (o q)+(f (o q)).oj (f (o k))else aV f o T (o k) q):=rfl;have Iy:=(aq.below hB bw) (o q) ha;have hne:=aE wr;have x0:=λx:aj wr=>x.cell hcq
     have x1:=λx:aj wr=>x.cell (aU.cellAt (o q) ha)
     have a0:=λx:aj wr=>x.cell Iy.c0
     have a1:=λx:aj wr=>x.cell Iy.c1
     have a2:=λx:aj wr=>x.cell Iy.c2
     have a3:=λx:aj wr=>x.cell Iy.c3
     have a4:=λx:aj wr=>x.cell Iy.c4
     have a5:=λx:aj wr=>x.cell Iy.c5
     have b0:=λx:aj wr=>x.cell hM.c0
     have b1:=λx:aj wr=>x.cell hM.c1
     have b2:=λx:aj wr=>x.cell hM.c2
     have b3:=λx:aj wr=>x.cell hM.c3
     have b4:=λx:aj wr=>x.cell hM.c4
     have b5:=λx:aj wr=>x.cell hM.c5
     simp only[Nat.zero_add]at b0 b1 b2 b3 b4 b5;by_cases ST:aV f o T (o k) q<T (o q)+(f (o q)).oj (f (o k));all_goals
      go_wp2;refine ah ?_;repeat(go_big_quiet_step ((go_at_call 130;exact bP (pD (f (o q)) (f (o k)) _))))
      refine wpQuiet_nil (ak ?_);intro w1 bF;go_wp2;go_roundw
      case rel=>exact⟨q+1,ab,by go_num,by rw[HL.out];first|rw[if_pos ST]|rw[if_neg ab],aU.below bF fq,hM.below bF iF,hB.trans (bF.mono hB.size)⟩
      case measure=>exact cf
    .have QG:q=k:=by omega
     subst QG;obtain⟨m0,m1,m2,m3,m4,m5⟩:=hM;simp only[Nat.zero_add]at m0 m1 m2 m3 m4 m5;have hc:wr.cell? ⟨b',aW+q,none⟩=some (.int .i64 ((o q:Nat):Int)):=(aK.below hB bc) q aI;have hd:=aU.cellAt (o q) hp;have Qp:=aU.frozen (o q);have Xi:(q:Int)<n:=ab;by_cases oX:(f (o q)).prom=-1
     .have UL:(f (o q)).prom<0:=by omega
      by_cases hle:aV f o T (o q) q<=(f (o q)).late
      .have Ht:=vO HT.out (by unfold iv;rw[if_pos oX];simpa using hle);have HV:iw (f (o q)) (aV f o T (o q) q)=aV f o T (o q) q:=by unfold iw;rw[if_pos oX]
       rw[HV]at Ht;have HE:Hid (d9 f o (q+1)=some (λp=>if p=o q then aV f o T (o q) q else T p)):=Ht;clear Ht HV oX;go_wp2;go_roundw
       case rel=>exact⟨q+1,_,ab,by go_num,HE.out,aU.set (o q) hp _,hB.setCell aH _⟩
       case measure=>exact cf
      .have HE:Hid (d9 f o n=none):=zU HT.out (by unfold iv;rw[if_pos oX];simpa using hle) aI;clear oX;go_wp2;go_ret2
       refine⟨?_,?_⟩
       .rw[HE.out];exact⟨_,_,rfl⟩
       .first|exact hB|exact hB.alloc hB.size _
     .have UL:0<=(f (o q)).prom:=by omega
      have qT:(f (o q)).prom<=(f (o q)).late:=ab;by_cases hle:aV f o T (o q) q<=(f (o q)).prom
      .have Ht:=vO HT.out (by unfold iv;rw[if_neg oX];simpa using hle);have HV:iw (f (o q)) (aV f o T (o q) q)=(f (o q)).prom:=by unfold iw;rw[if_neg oX]
       rw[HV]at Ht;have HE:Hid (d9 f o (q+1)=some (λp=>if p=o q then(f (o q)).prom else T p)):=Ht;clear Ht HV oX;go_wp2;go_roundw
       case rel=>exact⟨q+1,_,ab,by go_num,HE.out,aU.set (o q) hp _,hB.setCell aH _⟩
       case measure=>exact cf
      .have HE:Hid (d9 f o n=none):=zU HT.out (by unfold iv;rw[if_neg oX];simpa using hle) aI;clear oX;go_wp2;go_ret2
       refine⟨?_,?_⟩
       .rw[HE.out];exact⟨_,_,rfl⟩
       .first|exact hB|exact hB.alloc hB.size _
  .have qo:k=n:=by omega
   subst qo;go_wp2;go_ret2
   refine⟨?_,hB⟩;rw[HT.out];exact⟨w.heap.size,k,ack _,rfl,aU,ack _⟩
end
