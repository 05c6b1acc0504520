import Derived.Test.YtlmcblcijndipabGreatDoorAd17
set_option linter.unusedVariables false
set_option maxHeartbeats 4000000
namespace Go.Proofs.YtlmcblcijndipabGreatDoor
section
def aB (f:Nat->Mv)(o:Nat->Nat)(T:Nat->Int)(p:Nat):Nat->Int
 |0=>(f p).est
 |k+1=>if aB f o T p k<T (o k)+(f (o k)).gap (f p)then T (o k)+(f (o k)).gap (f p)else aB f o T p k
def ep (m:Mv)(t:Int):Int:=if m.prom=-1 then t else m.prom
def er (m:Mv)(t:Int):Bool:=decide (t<=if m.prom=-1 then m.late else m.prom)
def bK (f:Nat->Mv)(o:Nat->Nat):Nat->Option (Nat->Int)
 |0=>some λ_=>0
 |i+1=>match bK f o i with
  |none=>none
  |some T=>if er (f (o i)) (aB f o T (o i) i)=true then some (λp=>if p=o i then ep (f (o i)) (aB f o T (o i) i)else T p)else none
theorem xQ {f:Nat->Mv}{o:Nat->Nat}{i:Nat}(h:bK f o i=none):∀n,i<=n->bK f o n=none:=by
 intro n hn;induction n with
 |zero=>
  have:i=0:=by omega
  subst this;exact h
 |succ n ih=>
  by_cases e:i=n+1
  .subst e;exact h
  .simp only[bK,ih (by omega)]
theorem rC {f:Nat->Mv}{o:Nat->Nat}{i n:Nat}{T:Nat->Int}(h:bK f o i=some T)(hk:er (f (o i)) (aB f o T (o i) i)=false)(hi:i<n):bK f o n=none:=
 xQ (i:=i+1) (by simp only[bK,h,hk];rfl) n (by omega)
theorem ot {f:Nat->Mv}{o:Nat->Nat}{i:Nat}{T:Nat->Int}(h:bK f o i=some T)(hk:er (f (o i)) (aB f o T (o i) i)=true):
  bK f o (i+1)=some (λp=>if p=o i then ep (f (o i)) (aB f o T (o i) i)else T p):=by
 simp only[bK,h,hk];rfl
theorem iC {f:Nat->Mv}{o:Nat->Nat}{T:Nat->Int}{p:Nat}(hp:0<=(f p).est/\(f p).est<=10000)(hT:∀q,0<=T q/\T q<=10000):∀k,0<=aB f o T p k/\aB f o T p k<=10004
 |0=>by simp only[aB];omega
 |k+1=>by
  have h1:=iC hp hT k (o:=o);have h2:=eY (f (o k)).lands (f (o k)).wake (f p).wake;have h3:=nk (f (o k)).lands (f (o k)).wake (f p).wake;have h4:=hT (o k);have e:aB f o T p (k+1)=if aB f o T p k<T (o k)+(f (o k)).gap (f p)then T (o k)+(f (o k)).gap (f p)else aB f o T p k:=rfl
  have g:(f (o k)).gap (f p)=iT (f (o k)).lands (f (o k)).wake (f p).wake:=rfl;rw[e,g];split<;>omega
theorem zF {m:Mv}(hm:m.ok=true){t:Int}(h0:0<=t)(hk:er m t=true):0<=ep m t/\ep m t<=10000:=by
 have hb:=Mv.ok_bd hm;unfold er at hk;unfold ep;simp only[decide_eq_true_eq]at hk;split<;>(rename_i e;simp only[e,if_true,if_false]at hk)<;>omega
theorem rD {f:Nat->Mv}{o:Nat->Nat}{n:Nat}(hm:aw f n=true)(ho:∀i,i<n->o i<n):∀(i:Nat) (T:Nat->Int),i<=n->bK f o i=some T->∀p,0<=T p/\T p<=10000
 |0,T,_,h,p=>by simp only[bK,Option.some.injEq]at h;subst h;simp
 |i+1,T,hi,h,p=>by
  cases e:bK f o i with
  |none=>simp only[bK,e]at h;cases h
  |some S=>
   have hS:=rD hm ho i S (by omega) e;simp only[bK,e]at h;split at h
   .rename_i hk;simp only[Option.some.injEq]at h;subst h;have hok:=aS hm (o i) (ho i (by omega));have hb:=Mv.ok_bd hok;have hl:=iC (o:=o) (p:=o i) ⟨hb.1,by omega⟩ hS i;have:=zF hok hl.1 hk;by_cases c:p=o i
    .simp only[if_pos c];exact this
    .simp only[if_neg c];exact hS p
   .cases h
end
section
open Go.RowKit
theorem zG {a c:Int}{b d:Bool}(h:a=c)(h':b=d):Ending.returned (.tuple #[.int .i64 a,.bool b])=.returned (.tuple #[.int .i64 c,.bool d]):=by rw[h,h']
theorem zH (m:Mv)(t:Int)(w:World):
  Calls Tz.prog 252 #[.agg #[.string m.name,.bool m.lands,.int .i64 m.wake,.int .i64 m.est,.int .i64 m.late,.int .i64 m.prom],.int .i64 t] w λe w'=>e=.returned (.tuple #[.int .i64 (ep m t),.bool (er m t)])/\Below w.heap.size w w':=by
 have hA:Below w.heap.size w (w.alloc (.cells #[.string m.name,.bool m.lands,.int .i64 m.wake,.int .i64 m.est,.int .i64 m.late,.int .i64 m.prom] 36)):=(Gb _ _).alloc (Gm _) _;have g4:(w.alloc (.cells #[.string m.name,.bool m.lands,.int .i64 m.wake,.int .i64 m.est,.int .i64 m.late,.int .i64 m.prom] 36)).cell? ⟨w.heap.size,4,none⟩=some (.int .i64 m.late):=by simp
 have g5:(w.alloc (.cells #[.string m.name,.bool m.lands,.int .i64 m.wake,.int .i64 m.est,.int .i64 m.late,.int .i64 m.prom] 36)).cell? ⟨w.heap.size,5,none⟩=some (.int .i64 m.prom):=by simp
 have hne:=ay (w.alloc (.cells #[.string m.name,.bool m.lands,.int .i64 m.wake,.int .i64 m.est,.int .i64 m.late,.int .i64 m.prom] 36));have e4:=λx:ag (w.alloc (.cells #[.string m.name,.bool m.lands,.int .i64 m.wake,.int .i64 m.est,.int .i64 m.late,.int .i64 m.prom] 36))=>x.cell g4
 have e5:=λx:ag (w.alloc (.cells #[.string m.name,.bool m.lands,.int .i64 m.wake,.int .i64 m.est,.int .i64 m.late,.int .i64 m.prom] 36))=>x.cell g5
 clear g4 g5;by_cases hp:m.prom=-1
 .have hp':(m.prom !=-1)=false:=by simpa using hp
  have HV0:ep m t=t:=by unfold ep;rw[if_pos hp]
  have HV:Hid (ep m t=t):=HV0;have HB0:er m t=decide (t<=m.late):=by unfold er;rw[if_pos hp]
  have HB:Hid (er m t=decide (t<=m.late)):=HB0;clear HV0 HB0 hp;go_enter Tz.func252,Tryz.ntmps252
  go_wp2;refine af (by kernel_rfl) (by kernel_rfl) ?_;repeat(go_big_quiet_step (fail))
  refine wpQuiet_nil (ai ?_);intro w1 hb1;go_wp2;go_ret2
  exact⟨zG HV.out.symm HB.out.symm,hA.trans (hb1.mono hA.size)⟩
 .have hp':(m.prom !=-1)=true:=by simpa using hp
  have HV0:ep m t=m.prom:=by unfold ep;rw[if_neg hp]
  have HV:Hid (ep m t=m.prom):=HV0;have HB0:er m t=decide (t<=m.prom):=by unfold er;rw[if_neg hp]
  have HB:Hid (er m t=decide (t<=m.prom)):=HB0;clear HV0 HB0 hp;go_enter Tz.func252,Tryz.ntmps252
  go_wp2;refine af (by kernel_rfl) (by kernel_rfl) ?_;repeat(go_big_quiet_step (fail))
  refine wpQuiet_nil (ai ?_);intro w1 hb1;go_wp2;go_ret2
  exact⟨zG HV.out.symm HB.out.symm,hA.trans (hb1.mono hA.size)⟩
theorem zI (a p:Nat)(bt bl:Nat)(b off n cap:Nat)(f:Nat->Mv)(tb:Nat)(T:Nat->Int)(w:World)(ha:a<n)(hp:p<n)(hn:n<=1048576)
  (hT:0<=T a/\T a<=10000)
  (ct:w.cell? ⟨bt,0,none⟩=some (.slice (some ⟨tb,0,none⟩) n n))(cl:w.cell? ⟨bl,0,none⟩=some (.slice (some ⟨b,off,none⟩) n cap))(hrow:ak w b off n f)(hown:an w tb n T):
  Calls Tz.prog 251 #[.int .i64 (a:Int),.int .i64 (p:Int),.pointer (some ⟨bt,0,none⟩),.pointer (some ⟨bl,0,none⟩)] w λe w'=>e=.returned (.int .i64 (T a+(f a).gap (f p)))/\Below w.heap.size w w':=by
 have hg1:=eY (f a).lands (f a).wake (f p).wake;have hg2:=nk (f a).lands (f a).wake (f p).wake;have hg:1<=(f a).gap (f p)/\(f a).gap (f p)<=4:=⟨hg1,hg2⟩;clear hg1 hg2;obtain⟨hg1,hg2⟩:=hg;obtain⟨hT0,hT1⟩:=hT;have ha':(a:Int)<n:=by omega
 have hp':(p:Int)<n:=by omega
 have hra:=hrow a ha;have hrp:=hrow p hp;have hne:=ay w;have x0:=λx:ag w=>x.cell ct
 have x1:=λx:ag w=>x.cell cl
 have x2:=λx:ag w=>x.cell (hown.cellAt a ha)
 have a0:=λx:ag w=>x.cell hra.c0
 have a1:=λx:ag w=>x.cell hra.c1
 have a2:=λx:ag w=>x.cell hra.c2
 have a3:=λx:ag w=>x.cell hra.c3
 have a4:=λx:ag w=>x.cell hra.c4
 have a5:=λx:ag w=>x.cell hra.c5
 have b0:=λx:ag w=>x.cell hrp.c0
 have b1:=λx:ag w=>x.cell hrp.c1
 have b2:=λx:ag w=>x.cell hrp.c2
 have b3:=λx:ag w=>x.cell hrp.c3
 have b4:=λx:ag w=>x.cell hrp.c4
 have b5:=λx:ag w=>x.cell hrp.c5
 go_enter Tz.func251,Tryz.ntmps251
 go_wp2;refine af (by kernel_rfl) (by kernel_rfl) ?_;repeat(go_big_quiet_step ((go_at_call 149;exact aE (iU (f a) (f p) _))))
 refine wpQuiet_nil (ai ?_);intro w1 hb1;go_wp2;go_ret;exact⟨rfl,hb1⟩
def gZ (r:Option (Nat->Int))(n:Nat)(w:World)(e:Ending)(w':World):Prop:=
 match r with
 |some T=>∃B cap,w.heap.size<=B/\e=.returned (.tuple #[.slice (some ⟨B,0,none⟩) n cap,.bool true])/\an w' B n T/\n<=cap
 |none=>∃a cap,e=.returned (.tuple #[.slice a 0 cap,.bool false])
def Bp (r:Option (Nat->Int))(n:Nat)(w:World)(e:Ending)(w':World):Prop:=
 match r with
 |some T=>∃B,w.heap.size<=B/\e=.returned (.tuple #[.slice (some ⟨B,0,none⟩) n n,.bool true])/\an w' B n T
 |none=>e=.returned (.tuple #[.slice none 0 0,.bool false])
theorem rE (b off n cap:Nat)(f:Nat->Mv)(b' off' cap':Nat)(o:Nat->Nat)(w:World)(hm:aw f n=true)(ho:∀i,i<n->o i<n)(hcap:n<=cap')(hbs:b<w.heap.size)(hrow:ak w b off n f)(hbs':b'<w.heap.size)(hrow':al w b' off' n (λi=>(o i:Int))):
  Calls Tz.prog 245 #[.slice (some ⟨b',off',none⟩) n cap',.slice (some ⟨b,off,none⟩) n cap] w λe w'=>Bp (bK f o n) n w e w'/\Below w.heap.size w w':=by
 have h6:=aN hm;have HM:Hid (aw f n=true):=hm;clear hm;have hmk:=gJ n (by omega);go_enter Tz.func245,Tryz.ntmps245
 go_wp2;go_loopw [21] (λi wr=>∃(k:Nat) (T:Nat->Int),k<=n/\i=.int .i64 k/\bK f o k=some T/\an wr (w.heap.size+1) n T/\wr.cell? ⟨w.heap.size,0,none⟩=some (.slice (some ⟨b,off,none⟩) n cap)/\wr.cell? ⟨w.heap.size+1+1,0,none⟩=some (.slice (some ⟨w.heap.size+1,0,none⟩) n n)/\Below w.heap.size w wr) (λi _=>n-(intOf i).toNat)
 case atStart=>
  refine⟨0,_,Gs _,rfl,rfl,?_,by simp[go_sem],by simp[go_sem],?_⟩
  .have:=eK (w.alloc (.cells #[.slice (some ⟨b,off,none⟩) n cap] 30)) n;simp only[World.size_alloc]at this;exact this.below ((Gb _ _).alloc (Gm _) _) this.lt
  .exact(((Gb _ w).alloc (Gm _) _).alloc (by simp) _).alloc (by simp;omega) _
 case round=>
  obtain⟨k,T,hk,rfl,hT,hown,cl,cb,hB⟩:=hrel;have HT:Hid (bK f o k=some T):=hT;clear hT;have hTb:=rD HM.out ho k T hk HT.out;by_cases hlt:k<n
  .have hlt':(k:Int)<n:=by omega
   have hp:=ho k hlt;have hp':((o k:Nat):Int)<n:=by omega
   have hc:wr.cell? ⟨b',off'+k,none⟩=some (.int .i64 ((o k:Nat):Int)):=(hrow'.below hB hbs') k hlt;have hok:=aS HM.out (o k) hp;obtain⟨z0,z1,z2,z3,z4,z5⟩:=Mv.ok_bd hok;have hrp:=(hrow.below hB hbs) (o k) hp;have c3:=hrp.c3;have hkc:(k:Int)<=cap':=by omega
   go_wp2;go_loopw [10,35] (λl j wr=>∃q:Nat,q<=k/\j=.int .i64 q/\l=.int .i64 (aB f o T (o k) q)/\an wr (w.heap.size+1) n T/\wr.cell? ⟨w.heap.size,0,none⟩=some (.slice (some ⟨b,off,none⟩) n cap)/\wr.cell? ⟨w.heap.size+1+1,0,none⟩=some (.slice (some ⟨w.heap.size+1,0,none⟩) n n)/\Below w.heap.size w wr) (λ_ j _=>k-(intOf j).toNat)
   case atStart=>exact⟨0,Gs _,rfl,rfl,hown,cl,cb,hB⟩
   case round=>
    clear hown cl cb hB hc hrp c3;obtain⟨q,hq,rfl,rfl,hown,cl,cb,hB⟩:=hrel;have hlb:=iC (o:=o) (p:=o k) ⟨z0,by omega⟩ hTb q;obtain⟨hl0,hl1⟩:=hlb;have hz1:=hown.lt;have hz2:=block_lt_of_cell cl;have hz3:=block_lt_of_cell cb;by_cases hlq:q<k
    .have hlq':(q:Int)<k:=by omega
     have ha:=ho q (by omega);have hcq:wr.cell? ⟨b',off'+q,none⟩=some (.int .i64 ((o q:Nat):Int)):=(hrow'.below hB hbs') q (by omega);have hg1:1<=(f (o q)).gap (f (o k)):=eY _ _ _;have hg2:(f (o q)).gap (f (o k))<=4:=nk _ _ _;obtain⟨t0,t1⟩:=hTb (o q);have HL:Hid (aB f o T (o k) (q+1)=if aB f o T (o k) q<T (o q)+(f (o q)).gap (f (o k))then T (o q)+(f (o q)).gap (f (o k))else aB f o T (o k) q):=rfl;have HC:=zI (o q) (o k) (w.heap.size+1+1) w.heap.size b off n cap f (w.heap.size+1) T wr ha hp (by omega) ⟨t0,t1⟩ cb cl (hrow.below hB hbs) hown;by_cases hgt:aB f o T (o k) q<T (o q)+(f (o q)).gap (f (o k));all_goals
      go_wp2_with(go_at_call 251;refine HC.mono ?_;clear HC;rintro e w1 ⟨rfl,hb1⟩)
      go_roundw
      case rel=>exact⟨q+1,by omega,by go_num,by rw[HL.out];first|rw[if_pos hgt]|rw[if_neg (by omega)],hown.below hb1 hz1,(hb1.cell (p:=⟨w.heap.size,0,none⟩) hz2).trans cl,(hb1.cell (p:=⟨w.heap.size+1+1,0,none⟩) hz3).trans cb,hB.trans (hb1.mono hB.size)⟩
      case measure=>simp[intOf];omega
    .have hqk:q=k:=by omega
     subst hqk;obtain⟨c0,c1,c2,c3,c4,c5⟩:=(hrow.below hB hbs) (o q) hp;have hd:=hown.cellAt (o q) hp;have hfz:=hown.frozen (o q);have HK:=zH (f (o q)) (aB f o T (o q) q) wr;cases hkb:er (f (o q)) (aB f o T (o q) q)with
     |true=>
      have HE:Hid (bK f o (q+1)=some (λp=>if p=o q then ep (f (o q)) (aB f o T (o q) q)else T p)):=ot HT.out hkb;rw[hkb]at HK;go_wp2_with(go_at_call 252;refine HK.mono ?_;clear HK;rintro e w1 ⟨rfl,hb1⟩;have hd1:=(hb1.cell (p:=⟨w.heap.size+1,o q,none⟩) hz1).trans hd;have hf1:=(hb1.frozen (p:=⟨w.heap.size+1,o q,none⟩) hz1).trans hfz;have cb1:=(hb1.cell (p:=⟨w.heap.size+1+1,0,none⟩) hz3).trans cb;have cl1:=(hb1.cell (p:=⟨w.heap.size,0,none⟩) hz2).trans cl)
      have hown1:=hown.below hb1 hz1;go_roundw
      case rel=>exact⟨q+1,_,by omega,by go_num,HE.out,hown1.set (o q) hp _,(World.cell?_setCell_other _ _ _ _ (by simp)).trans cl1,(World.cell?_setCell_other _ _ _ _ (by simp)).trans cb1,(hB.trans (hb1.mono hB.size)).setCell (by simp) _⟩
      case measure=>simp[intOf];omega
     |false=>
      have HE:Hid (bK f o n=none):=rC HT.out hkb hlt;rw[hkb]at HK;go_wp2_with(go_at_call 252;refine HK.mono ?_;clear HK;rintro e w1 ⟨rfl,hb1⟩)
      go_ret2
      refine⟨?_,hB.trans (hb1.mono hB.size)⟩;rw[HE.out];exact rfl
  .have hkn:k=n:=by omega
   subst hkn;go_wp2;go_ret2
   refine⟨?_,hB⟩;rw[HT.out];exact⟨w.heap.size+1,by omega,rfl,hown⟩
end
section
theorem gD {f:Nat->Mv}{o:Nat->Nat}{S T:Nat->Int}{p:Nat}:∀j:Nat,(∀k,k<j->T (o k)=S (o k))->aB f o T p j=aB f o S p j
 |0,_=>rfl
 |j+1,h=>by
  simp only[aB];rw[gD j (λk hk=>h k (by omega)),h j (by omega)]
theorem gq {f:Nat->Mv}{o:Nat->Nat}{T:Nat->Int}{p:Nat}:∀j:Nat,(f p).est<=aB f o T p j/\(∀k,k<j->T (o k)+(f (o k)).gap (f p)<=aB f o T p j)/\(aB f o T p j=(f p).est\/∃k,k<j/\aB f o T p j=T (o k)+(f (o k)).gap (f p))
 |0=>⟨Int.le_refl _,λk hk=>absurd hk (Gr _),.inl rfl⟩
 |j+1=>by
  obtain⟨h1,h2,h3⟩:=gq (f:=f) (o:=o) (T:=T) (p:=p) j;simp only[aB];split
  .rename_i hlt;refine⟨by omega,λk hk=>?_,.inr ⟨j,by omega,rfl⟩⟩;by_cases e:k=j
   .subst e;omega
   .have:=h2 k (by omega);omega
  .rename_i hlt;refine⟨h1,λk hk=>?_,?_⟩
   .by_cases e:k=j
    .subst e;omega
    .exact h2 k (by omega)
   .rcases h3 with h3|⟨k,hk,h3⟩
    .exact .inl h3
    .exact .inr ⟨k,by omega,h3⟩
theorem ql {f:Nat->Mv}{o:Nat->Nat}:∀(i:Nat) (T:Nat->Int),bK f o i=some T->(∀j k,j<k->k<i->o j≠o k)->∀j,j<i->er (f (o j)) (aB f o T (o j) j)=true/\T (o j)=ep (f (o j)) (aB f o T (o j) j)
 |0,_,_,_,j,hj=>absurd hj (Gr _)
 |i+1,T,h,hd,j,hj=>by
  cases e:bK f o i with
  |none=>simp only[bK,e]at h;cases h
  |some S=>
   have ih:=ql i S e (λj k h1 h2=>hd j k h1 (by omega));simp only[bK,e]at h;split at h
   .rename_i hk;simp only[Option.some.injEq]at h;have hT:∀k,k<i->T (o k)=S (o k):=λk hk=>by
     rw[<-h];simp only[if_neg (hd k i hk (by omega))]
    by_cases c:j=i
    .subst c;have hl:aB f o T (o j) j=aB f o S (o j) j:=gD j hT;rw[hl];exact⟨hk,by rw[<-h];simp⟩
    .have hl:aB f o T (o j) j=aB f o S (o j) j:=gD j (λk hk=>hT k (by omega));rw[hl,hT j (by omega)];exact ih j (by omega)
   .cases h
theorem wH {a b:Mv}{s t:Int}(h:s+a.gap b<=t):a.near b s t=false/\b.near a t s=false:=by
 have g:=eY a.lands a.wake b.wake;unfold Mv.gap at h;have h1:=gi a.lands a.wake b.lands b.wake s t;have h2:=gi b.lands b.wake a.lands a.wake t s;unfold Mv.near;rw[if_neg (by omega),if_pos (by omega)]at h1;rw[if_neg (by omega),if_neg (by omega)]at h2;have q:decide (iT a.lands a.wake b.wake<=t-s)=true:=by simp;omega
 rw[q]at h1 h2;simpa using And.intro h1 h2
theorem tH {a b:Mv}{s t:Int}(h:a.near b s t=false):(s<=t->s+a.gap b<=t)/\(t<=s->t+b.gap a<=s):=by
 have h1:=gi a.lands a.wake b.lands b.wake s t;unfold Mv.near at h;rw[h]at h1;unfold Mv.gap;by_cases e:s=t
 .subst e;simp at h1
 .rw[if_neg e]at h1;by_cases hst:s<t
  .rw[if_pos hst]at h1;simp at h1;exact⟨λ_=>by omega,λ_=>by omega⟩
  .rw[if_neg hst]at h1;simp at h1;exact⟨λ_=>by omega,λ_=>by omega⟩
structure Et (f:Nat->Mv)(o:Nat->Nat)(n:Nat)(T:Nat->Int):Prop where
 fit:dU f T n
 up:∀i j,i<j->j<n->T (o i)<T (o j)
 least:∀i,i<n->¬dU f (λp=>if p=o i then T p-1 else T p) n
theorem qm {f:Nat->Mv}{o:Nat->Nat}{n:Nat}{T:Nat->Int}(hm:aw f n=true)(ho:∀i,i<n->o i<n)(hd:∀j k,j<k->k<n->o j≠o k)(h:bK f o n=some T):Et f o n T:=by
 have he:=ql n T h hd;have hv:∀j,j<n->aB f o T (o j) j<=T (o j)/\T (o j)<=(f (o j)).late/\(f (o j)).est<=T (o j)/\((f (o j)).prom=-1/\T (o j)=aB f o T (o j) j\/(f (o j)).prom=T (o j)):=λj hj=>by
  obtain⟨h1,h2⟩:=he j hj;have hb:=Mv.ok_bd (aS hm (o j) (ho j hj));have hl:=(gq (f:=f) (o:=o) (T:=T) (p:=o j) j).1;unfold er at h1;unfold ep at h2;simp only[decide_eq_true_eq]at h1;by_cases e:(f (o j)).prom=-1
  .rw[if_pos e]at h1 h2;exact⟨by omega,by omega,by omega,.inl ⟨e,h2⟩⟩
  .rw[if_neg e]at h1 h2;exact⟨by omega,by omega,by omega,.inr h2.symm⟩
 have hgap:∀i j,i<j->j<n->T (o i)+(f (o i)).gap (f (o j))<=T (o j):=λi j hij hj=>by
  have h1:=(gq (f:=f) (o:=o) (T:=T) (p:=o j) j).2.1 i hij;have h2:=(hv j hj).1;omega
 have hs:∀p,p<n->∃i,i<n/\o i=p:=surj n o ho hd;refine⟨⟨λp hp=>?_,λq p hpq hq=>?_⟩,λi j hij hj=>?_,λi hi hf=>?_⟩
 .obtain⟨i,hi,rfl⟩:=hs p hp;obtain⟨_,h2,h3,h4⟩:=hv i hi;unfold Mv.suits mE dN;simp only[Bool.and_eq_true,Bool.or_eq_true,decide_eq_true_eq,beq_iff_eq];omega
 .obtain⟨i,hi,rfl⟩:=hs p (by omega);obtain⟨j,hj,rfl⟩:=hs q hq;rcases Nat.lt_trichotomy i j with hij|hij|hij
  .exact(wH (hgap i j hij hj)).1
  .subst hij;exact absurd hpq (Nat.lt_irrefl _)
  .exact(wH (hgap j i hij hi)).2
 .have h1:=hgap i j hij hj;have g:=eY (f (o i)).lands (f (o i)).wake (f (o j)).wake;unfold Mv.gap at h1;omega
 .obtain⟨h1,h2,h3,h4⟩:=hv i hi;have hb:=Mv.ok_bd (aS hm (o i) (ho i hi));have hsu:=hf.1 (o i) (ho i hi);simp only[if_true]at hsu;unfold Mv.suits mE dN at hsu;simp only[Bool.and_eq_true,Bool.or_eq_true,decide_eq_true_eq,beq_iff_eq]at hsu;rcases h4 with⟨e,hl⟩|e
  .rcases(gq (f:=f) (o:=o) (T:=T) (p:=o i) i).2.2 with hh|⟨k,hk,hh⟩
   .omega
   .have hne:=hd k i hk hi;have g:=eY (f (o k)).lands (f (o k)).wake (f (o i)).wake;have hgg:(f (o k)).gap (f (o i))=iT (f (o k)).lands (f (o k)).wake (f (o i)).wake:=rfl;rcases Nat.lt_or_gt_of_ne hne with hlt|hlt
    .have:=(tH (hf.2 (o i) (o k) hlt (ho i hi))).1;simp only[if_true,if_neg hne]at this;omega
    .have:=(tH (hf.2 (o k) (o i) hlt (ho k (by omega)))).2;simp only[if_true,if_neg hne]at this;omega
  .omega
end
section
open Go.RowKit
abbrev wK (w:World)(m:Mv):World:=w.alloc (.cells #[.string m.name,.bool m.lands,.int .i64 m.wake,.int .i64 m.est,.int .i64 m.late,.int .i64 m.prom] 36)
theorem Ag (w:World)(m:Mv):lF (wK w m) w.heap.size 0 m:=by
 constructor<;>simp[wK]
theorem gt (b off n cap:Nat)(f:Nat->Mv)(b' off' cap':Nat)(o:Nat->Nat)(w:World)(hm:aw f n=true)(ho:∀i,i<n->o i<n)(hbs:b<w.heap.size)(hrow:ak w b off n f)(hbs':b'<w.heap.size)(hrow':al w b' off' n (λi=>(o i:Int))):
  Calls Tz.prog 88 #[.slice (some ⟨b,off,none⟩) n cap,.slice (some ⟨b',off',none⟩) n cap'] w λe w'=>gZ (bK f o n) n w e w'/\Below w.heap.size w w':=by
 have h6:=aN hm;have HM:Hid (aw f n=true):=hm;clear hm;have hmk:=gJ n (by omega);go_enter Tz.func88,Tryz.ntmps88
 go_wp2;go_loopw [7] (λi wr=>∃(k:Nat) (T:Nat->Int),k<=n/\i=.int .i64 k/\bK f o k=some T/\an wr w.heap.size n T/\Below w.heap.size w wr) (λi _=>n-(intOf i).toNat)
 case atStart=>exact⟨0,_,Gs _,rfl,rfl,eK w n,(Gb _ w).alloc (Gm _) _⟩
 case round=>
  obtain⟨k,T,hk,rfl,hT,hown,hB⟩:=hrel;have HT:Hid (bK f o k=some T):=hT;clear hT;have hTb:=rD HM.out ho k T hk HT.out;by_cases hlt:k<n
  .have hlt':(k:Int)<n:=by omega
   have hp:=ho k hlt;have hp':((o k:Nat):Int)<n:=by omega
   have hc:wr.cell? ⟨b',off'+k,none⟩=some (.int .i64 ((o k:Nat):Int)):=(hrow'.below hB hbs') k hlt;have hok:=aS HM.out (o k) hp;obtain⟨z0,z1,z2,z3,z4,z5⟩:=Mv.ok_bd hok;obtain⟨c0,c1,c2,c3,c4,c5⟩:=(hrow.below hB hbs) (o k) hp;have hA:Below wr.heap.size wr (wK wr (f (o k))):=(Gb _ _).alloc (Gm _) _;have hM:=Ag wr (f (o k));have hownA:=hown.below hA hown.lt;have hBA:Below w.heap.size w (wK wr (f (o k))):=hB.trans (hA.mono hB.size);have hzw:w.heap.size<=wr.heap.size:=hB.size;have hzo:w.heap.size<wr.heap.size:=hown.lt;have HZ:Hid (w.heap.size≠wr.heap.size):=by
    have h:w.heap.size≠wr.heap.size:=by omega
    exact h
   go_wp2;obtain⟨Bm,hBm⟩:∃Bm,Bm=wr.heap.size:=⟨_,rfl⟩;rw[<-hBm]at hM hzw hzo⊢;go_loopw [9,10] (λl j wr=>∃q:Nat,q<=k/\j=.int .i64 q/\l=.int .i64 (aB f o T (o k) q)/\an wr w.heap.size n T/\lF wr Bm 0 (f (o k))/\Below w.heap.size w wr) (λ_ j _=>k-(intOf j).toNat)
   case atStart=>exact⟨0,Gs _,rfl,rfl,hownA,hM,hBA⟩
   case round=>
    clear hown hB hc c0 c1 c2 c3 c4 c5 hA hM hownA hBA HZ hBm;obtain⟨q,hq,rfl,rfl,hown,hM,hB⟩:=hrel;have hlb:=iC (o:=o) (p:=o k) ⟨z0,by omega⟩ hTb q;obtain⟨hl0,hl1⟩:=hlb;have hz1:=hown.lt;have hz2:=block_lt_of_cell hM.c0;by_cases hlq:q<k
    .have hlq':(q:Int)<k:=by omega
     have hqn':(q:Int)<n:=by omega
     have ha:=ho q (by omega);have ha':((o q:Nat):Int)<n:=by omega
     have hcq:wr.cell? ⟨b',off'+q,none⟩=some (.int .i64 ((o q:Nat):Int)):=(hrow'.below hB hbs') q (by omega);have hg1:1<=(f (o q)).gap (f (o k)):=eY _ _ _;have hg2:(f (o q)).gap (f (o k))<=4:=nk _ _ _;obtain⟨t0,t1⟩:=hTb (o q);have HL:Hid (aB f o T (o k) (q+1)=if aB f o T (o k) q<T (o q)+(f (o q)).gap (f (o k))then T (o q)+(f (o q)).gap (f (o k))else aB f o T (o k) q):=rfl;have hra:=(hrow.below hB hbs) (o q) ha;have hne:=ay wr;have x0:=λx:ag wr=>x.cell hcq
     have x1:=λx:ag wr=>x.cell (hown.cellAt (o q) ha)
     have a0:=λx:ag wr=>x.cell hra.c0
     have a1:=λx:ag wr=>x.cell hra.c1
     have a2:=λx:ag wr=>x.cell hra.c2
     have a3:=λx:ag wr=>x.cell hra.c3
     have a4:=λx:ag wr=>x.cell hra.c4
     have a5:=λx:ag wr=>x.cell hra.c5
     have b0:=λx:ag wr=>x.cell hM.c0
     have b1:=λx:ag wr=>x.cell hM.c1
     have b2:=λx:ag wr=>x.cell hM.c2
     have b3:=λx:ag wr=>x.cell hM.c3
     have b4:=λx:ag wr=>x.cell hM.c4
     have b5:=λx:ag wr=>x.cell hM.c5
     simp only[Nat.zero_add]at b0 b1 b2 b3 b4 b5;by_cases hgt:aB f o T (o k) q<T (o q)+(f (o q)).gap (f (o k));all_goals
      go_wp2;refine af (by kernel_rfl) (by kernel_rfl) ?_;repeat(go_big_quiet_step ((go_at_call 107;exact aE (iV (f (o q)) (f (o k)) _))))
      refine wpQuiet_nil (ai ?_);intro w1 hb1;go_wp2;go_roundw
      case rel=>exact⟨q+1,by omega,by go_num,by rw[HL.out];first|rw[if_pos hgt]|rw[if_neg (by omega)],hown.below hb1 hz1,hM.below hb1 hz2,hB.trans (hb1.mono hB.size)⟩
      case measure=>simp[intOf];omega
    .have hqk:q=k:=by omega
     subst hqk;obtain⟨m0,m1,m2,m3,m4,m5⟩:=hM;simp only[Nat.zero_add]at m0 m1 m2 m3 m4 m5;have hc:wr.cell? ⟨b',off'+q,none⟩=some (.int .i64 ((o q:Nat):Int)):=(hrow'.below hB hbs') q hlt;have hd:=hown.cellAt (o q) hp;have hfz:=hown.frozen (o q);have hqn':(q:Int)<n:=by omega
     by_cases hpr:(f (o q)).prom=-1
     .have hpn:(f (o q)).prom<0:=by omega
      by_cases hle:aB f o T (o q) q<=(f (o q)).late
      .have HE0:=ot HT.out (by unfold er;rw[if_pos hpr];simpa using hle);have HV:ep (f (o q)) (aB f o T (o q) q)=aB f o T (o q) q:=by unfold ep;rw[if_pos hpr]
       rw[HV]at HE0;have HE:Hid (bK f o (q+1)=some (λp=>if p=o q then aB f o T (o q) q else T p)):=HE0;clear HE0 HV hpr;go_wp2;go_roundw
       case rel=>exact⟨q+1,_,by omega,by go_num,HE.out,hown.set (o q) hp _,hB.setCell (by simp) _⟩
       case measure=>simp[intOf];omega
      .have HE:Hid (bK f o n=none):=rC HT.out (by unfold er;rw[if_pos hpr];simpa using hle) hlt;clear hpr;go_wp2;go_ret2
       refine⟨?_,?_⟩
       .rw[HE.out];exact⟨_,_,rfl⟩
       .first|exact hB|exact hB.alloc hB.size _
     .have hpn:0<=(f (o q)).prom:=by omega
      have hpl:(f (o q)).prom<=(f (o q)).late:=by omega
      by_cases hle:aB f o T (o q) q<=(f (o q)).prom
      .have HE0:=ot HT.out (by unfold er;rw[if_neg hpr];simpa using hle);have HV:ep (f (o q)) (aB f o T (o q) q)=(f (o q)).prom:=by unfold ep;rw[if_neg hpr]
       rw[HV]at HE0;have HE:Hid (bK f o (q+1)=some (λp=>if p=o q then(f (o q)).prom else T p)):=HE0;clear HE0 HV hpr;go_wp2;go_roundw
       case rel=>exact⟨q+1,_,by omega,by go_num,HE.out,hown.set (o q) hp _,hB.setCell (by simp) _⟩
       case measure=>simp[intOf];omega
      .have HE:Hid (bK f o n=none):=rC HT.out (by unfold er;rw[if_neg hpr];simpa using hle) hlt;clear hpr;go_wp2;go_ret2
       refine⟨?_,?_⟩
       .rw[HE.out];exact⟨_,_,rfl⟩
       .first|exact hB|exact hB.alloc hB.size _
  .have hkn:k=n:=by omega
   subst hkn;go_wp2;go_ret2
   refine⟨?_,hB⟩;rw[HT.out];exact⟨w.heap.size,k,Gm _,rfl,hown,Gm _⟩
end
