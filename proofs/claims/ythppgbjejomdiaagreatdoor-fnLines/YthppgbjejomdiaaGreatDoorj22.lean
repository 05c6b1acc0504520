import Derived.Test.YthppgbjejomdiaaGreatDoorj17
import Derived.Test.YthppgbjejomdiaaGreatDoorj06c
set_option linter.all false
set_option maxHeartbeats 4000000
set_option maxRecDepth 100000
open Array renaming replicate_succ->bi,replicate_zero->bj
open Go renaming World->aj,Calls->au,wpQuiet_nil->av,Addr->ay,maxLen->aE,callsIn_wide->a7,cell_kept->a8,results->a9,run_takeDeferred->bB,grownBy_putObj'->bF,bodyPost_ret->bH,ownFrom_pure->bO
open Go.Ending renaming returned->ao
open Go.RowKit renaming Below->aa
open Go.Value renaming int->ac,slice->ad,bool->aP,tuple->a6
open Go.World renaming cell?_setCell_same'->bb,cell?_alloc_new->be
open List renaming append_toArray->bk,size_toArray->bm,push_toArray->bn,length_cons->bo,cons_append->bp,length_nil->br,nil_append->bs
open Nat renaming zero_add->aL,reduceAdd->bt,reduceSub->bv,succ_mul->bE
namespace Go.Proofs.YthppgbjejomdiaaGreatDoor
open RowKit Shelf
variable {now shift:Int}{m:Mv}{n:Nat}{t:Nat->Int}{f:Nat->Mv}{p:Prop}
def AV (a:m.Fits)(w):
  au Tz.prog 57 #[.agg #[m.name,m.ax,m.aI,m.cj,m.late,m.prom]] w λe w'=>e=ao m.ok/\aa w w w':=E4 _ _ _ _ _ _ _ a.name
def YD (x9:p:=by go_wp2;go_ret;exact⟨de (mo (by omega)<|by rw[show n=k by omega];exact dZ).symm,hB⟩):p:=x9
def YT (x9:p:=by exact⟨0,agB _,rfl,λi hi=>absurd hi ab,agn _ _⟩):p:=x9
def sI (b off n cap:Nat)(f:Nat->Mv)(w:aj)(hn:n<=1048576)(D:b<w)(O:aM w b off n f)(R:∀i,i<n->(f i).Fits):
  au Tz.prog 108 #[ad (some ⟨b,off,none⟩) n cap] w λe w'=>e=ao (aH f n)/\aa w w w':=by
 by_cases h6:6<n
 .have hm:aH f n=false:=xv ab;have T:(6:Int)<n:=ab;go_enter Tz.func108,Tryz.ntmps108
  go_wp2;go_ret;exact⟨de hm.symm,agn _ _⟩
 go_enter Tz.func108,Tryz.ntmps108
 go_wp2;go_loopw [3] (λi w'=>∃k:Nat,k<=n/\i=ac .i64 k/\lD f k/\aa w w w') (λi _=>n-(intOf i).toNat)
 .exact YT
 obtain⟨k,hk,rfl,dZ,hB⟩:=hrel;by_cases u:k<n
 .have J:=O.below hB D;let⟨U,Y,Z,c3,c4,c5⟩:=J k u;have v:=R k u;have dQ:(k:Int)<n:=ab;have mY:b<wr:=agx D hB.size;have ax:=aK wr;have d0:=λx:am wr=>x.cell U
  have d1:=λx:am wr=>x.cell Y
  have d2:=λx:am wr=>x.cell Z
  have d3:=λx:am wr=>x.cell c3
  have d4:=λx:am wr=>x.cell c4
  have d5:=λx:am wr=>x.cell c5
  cases y:(f k).ok with
  |false=>
   have B:jb f k=false:=by unfold jb;rw[y];rfl
   go_wp2;refine bg ?_;repeat(go_big_quiet_step ((go_at_call 57;exact cr<|AV v _)))
   refine av<|cK ?_;intro C r;go_wp2;go_ret;exact⟨de (rG u B).symm,hB.trans<|r.mono hB.size⟩
  |true=>
   by_cases N:k=0
   .have B:jb f k=true:=by unfold jb;rw[y,N];rfl
    have s:Hid (lD f<|k+1):=lE dZ B;go_wp2;have hz:decide (0<k)=false:=cY;clear N;refine bg ?_;repeat(go_big_quiet_step ((go_at_call 57;exact cr<|AV v _)))
    refine av<|cK ?_;intro C r;go_wp2;go_roundw
    .exact⟨k+1,ab,by go_num,s.out,hB.trans<|r.mono hB.size⟩
    exact cD
   obtain⟨j,rfl⟩:∃j,k=j+1:=⟨k-1,ab⟩;have e0:=λx:am wr=>x.cell (J j ab).c0
   have aI:(j:Int)<n:=ab;have hz:(0:Int)<(j:Int)+1:=ab;cases A:cG (f j).name (f<|j+1).name with
   |true=>
    have s:Hid (lD f<|j+1+1):=lE dZ (by unfold jb;rw[y];simpa using A);unfold cG at A;go_wp2;refine bg ?_;repeat(go_big_quiet_step ((go_at_call 57;exact cr<|AV v _)))
    refine av<|cK ?_;intro C r;go_wp2;go_roundw
    .exact⟨j+1+1,ab,by go_num,s.out,hB.trans<|r.mono hB.size⟩
    exact cD
   |false=>
    have s:Hid (aH f n=false):=rG u (by unfold jb;rw[y];simpa using A);unfold cG at A;go_wp2;refine bg ?_;repeat(go_big_quiet_step ((go_at_call 57;exact cr<|AV v _)))
    refine av<|cK ?_;intro C r;go_wp2;go_ret;exact⟨de s.out.symm,hB.trans<|r.mono hB.size⟩
 exact YD
def Aa (m:Mv)(w):
  au Tz.prog 141 #[.agg #[m.name,m.ax,m.aI,m.cj,m.late,m.prom]] w λe w'=>e=ao m.ok/\aa w w w':=EH _ _ _ _ _ _ _
def iy (b off n cap:Nat)(f)(w:aj)(hn:n<=1048576)(T:b<w)(Z:aM w b off n f): au Tz.prog 102 #[ad (some ⟨b,off,none⟩) n cap] w λe w'=>e=ao (aH f n)/\aa w w w':=by by_cases h6:6<n;(.have hm:aH f n=false:=xv ab;have ax:(6:Int)<n:=ab;go_enter Tz.func102,Tryz.ntmps102;go_wp2;go_ret;exact⟨de hm.symm,agn _ _⟩);go_enter Tz.func102,Tryz.ntmps102;go_wp2;(go_loopw [10] (λi w'=>∃k:Nat,k<=n/\i=ac .i64 k/\lD f k/\aa w w w') (λi _=>n-(intOf i).toNat));exact YT;obtain⟨k,hk,rfl,dZ,hB⟩:=hrel;by_cases D:k<n;(.have J:=Z.below hB T;let⟨c0,c1,c2,c3,c4,c5⟩:=J k D;have dQ:(k:Int)<n:=ab;have U:b<wr:=agx T hB.size;cases B:(f k).ok with|false=>have u:Hid (aH f n=false):=rG D (by unfold jb;rw[B];rfl);(go_wp2_with(go_at_call 141;refine(Aa (f k) _).mono ?_;rintro e r ⟨rfl,s⟩;let⟨v,N⟩:=mU s));go_ret;exact⟨de u.out.symm,hB.trans<|(qN (uV wr _) s).2.mono hB.size⟩|true=>by_cases O:k=0;(.have u:Hid (lD f<|k+1):=lE dZ (by unfold jb;rw[B,O];rfl);have HK:Hid (k=0):=O;clear O;(go_wp2_with(go_at_call 141;refine(Aa (f k) _).mono ?_;rintro e r ⟨rfl,s⟩;let⟨v,N⟩:=mU s));(have hz:decide (0<k)=false:=by have:=HK.out;simp;omega);have hq:=qN (uV wr _) s;have y:=aK r;refine nh ?_;intro Y A;go_wp2;(go_roundw);exact⟨k+1,ab,by go_num,u.out,hB.trans<|(hq.2.trans<|A.mono hq.2.size).mono hB.size⟩;exact cD);obtain⟨j,rfl⟩:∃j,k=j+1:=⟨k-1,ab⟩;have aI:(j:Int)<n:=ab;have hz:(0:Int)<(j:Int)+1:=ab;cases C:cG (f j).name (f<|j+1).name with|true=>have u:Hid (lD f<|j+1+1):=lE dZ (by unfold jb;rw[B];simpa using C);unfold cG at C;(go_wp2_with(go_at_call 141;refine(Aa (f<|j+1) _).mono ?_;rintro e r ⟨rfl,s⟩;let⟨v,N⟩:=mU s));have hq:=qN (uV wr _) s;have y:=aK r;(have R:r.cell? (wr:Nat)=some (.string (f<|j+1).name):=by rw[v _ _ aN,be];rfl);have e0:=λx:am r=>x.cell R;have e1:=λx:am r=>x.cell ((J.below hq.2 U) j ab).c0;refine nh ?_;intro Y A;go_wp2;(go_roundw);exact⟨j+1+1,ab,by go_num,u.out,hB.trans<|(hq.2.trans<|A.mono hq.2.size).mono hB.size⟩;exact cD|false=>have u:Hid (aH f n=false):=rG D (by unfold jb;rw[B];simpa using C);unfold cG at C;(go_wp2_with(go_at_call 141;refine(Aa (f<|j+1) _).mono ?_;rintro e r ⟨rfl,s⟩;let⟨v,N⟩:=mU s));have hq:=qN (uV wr _) s;have y:=aK r;(have R:r.cell? (wr:Nat)=some (.string (f<|j+1).name):=by rw[v _ _ aN,be];rfl);have e0:=λx:am r=>x.cell R;have e1:=λx:am r=>x.cell ((J.below hq.2 U) j ab).c0;refine nh ?_;intro Y A;go_wp2;go_ret;exact⟨de u.out.symm,hB.trans<|(hq.2.trans<|A.mono hq.2.size).mono hB.size⟩);exact YD
def QI (n a b:Int)(w):
  au Tz.prog 82 #[n,a,b] w λe w'=>e=ao (jr n a b)/\aa w w w':=
 (gN n a b w).mono λ_ _ ⟨c,d⟩=>⟨c,d▸agn _ _⟩
def yI (r:aH f n){k}(hk:k<n)(hs:(f k).ge (t k)):0<=t k/\t k<=10000:=by have s:=Mv.gp<|bf r k hk;have u:=iE hs;omega
def NT (p t:Int):(0<=p/\(t !=p))\/(0<=p/\(t !=p)=false)\/p<0:=f7
def ac6 (x9:p:=by go_wp2;refine bg ?_;(repeat(go_big_quiet_step ((go_at_call 82;exact cr<|QI _ _ _ _))));refine wpQuiet_nil<|cK ?_;intro w2 dh;go_wp2;go_ret;exact⟨de (zv aG HS.out).symm,hB.trans<|dh.mono hB.size⟩):p:=x9
def ac8 (x9:p:=by go_enter Tz.func83,Tryz.ntmps83;(go_wp2_with(go_at_call 108;refine(sI _ _ _ _ f _ hn bN az hf).mono ?_;rintro e w1 ⟨rfl,bK⟩));go_ret;exact⟨de HF.out.symm,bK⟩):p:=x9
def pD (b off n cap:Nat)(f)(N bJ m cap':Nat)(t)(w:aj)(hn:n<=1048576)(jQ:m<=aE)(bN:b<w)(az:aM w b off n f)(hf:∀i,i<n->(f i).Fits)(U:N<w)(aV:aD w N bJ m t): au Tz.prog 83 #[ad (some ⟨b,off,none⟩) n cap,ad (some ⟨N,bJ,none⟩) m cap'] w λe w'=>e=ao (eB f n t m)/\aa w w w':=by
 unfold aE at jQ;cases hm:aH f n;have HF:Hid (eB f n t m=false):=iT hm;exact ac8;by_cases s:m=n
 .subst s;have O:Hid (aH f m=true):=hm;have h6:=bY hm;go_enter Tz.func83,Tryz.ntmps83;go_wp2_with(go_at_call 108;refine(sI _ _ _ _ f _ hn bN az hf).mono ?_;rintro e w1 ⟨rfl,bK⟩)
  clear hm;go_loopw [5] (λi w'=>∃k:Nat,k<=m/\i=ac .i64 k/\ga f t k/\aa w w w') (λi _=>m-(intOf i).toNat)
  exact⟨0,agB _,rfl,yN f t,bK⟩;obtain⟨k,hk,rfl,Y,hB⟩:=hrel;by_cases aG:k<m
  .have R:=az.below hB bN;have T:=aV.below hB U;let⟨c0,c1,c2,c3,c4,c5⟩:=R k aG;have d0:=T k aG;have mY:b<wr:=agx bN hB.size;have aI:N<wr:=agx U hB.size;have dQ:(k:Int)<m:=ab;have Z:=aK wr;have e3:=λx:am wr=>x.cell c3;have e4:=λx:am wr=>x.cell c4;have e5:=λx:am wr=>x.cell c5;have e6:=λx:am wr=>x.cell d0;have r:=KG (bf O.out k aG)<|t k;cases hi:jr (t k) (f k).cj (f k).late;(have HS:Hid ((f k).ge (t k)=false):=by rw[r,hi];rfl);clear r;exact ac6;rcases NT (f k).prom (t k)with⟨u,Qm⟩|⟨u,Qm⟩|u;(have v:(f k).ge (t k)=false:=by rw[r,hi,Qm];simp[u]);have HS:Hid _:=v;clear r v;exact ac6;all_goals
      have v:(f k).ge (t k)=true:=by rw[r,hi];first|(rw[Qm];simp)|(simp;omega)
      have HS:Hid _:=v;have vC:=yI O.out aG v;let⟨B,C⟩:=vC;clear r v;go_wp2;try have Qw:decide (0<=(f k).prom)=false:=by(simp;omega)
      refine bg ?_;repeat(go_big_quiet_step ((go_at_call 82;exact cr<|QI _ _ _ _)))
      refine av<|cK ?_;intro w2 dh;have qu:aa w w w2:=hB.trans<|dh.mono hB.size;go_wp2;go_loopw [6] (λi w'=>∃q:Nat,q<=k/\i=ac .i64 q/\(∀p,p<q->(f p).iO (f k) (t p) (t k)=false)/\aa w w w') (λi _=>k-(intOf i).toNat)
      case atStart=>exact⟨0,agB _,rfl,λp u=>absurd u<|agA _,qu⟩
      obtain⟨q,hq,rfl,lw,hB⟩:=hrel;by_cases Fw:q<k
      .have R:=az.below hB bN;have T:=aV.below hB U;have y:=R k aG;have A:=R q ab;have Z:=aK wr;have a0:=λx:am wr=>x.cell y.c0
       have a1:=λx:am wr=>x.cell y.c1
       have a2:=λx:am wr=>x.cell y.c2
       have a3:=λx:am wr=>x.cell y.c3
       have a4:=λx:am wr=>x.cell y.c4
       have a5:=λx:am wr=>x.cell y.c5
       have b0:=λx:am wr=>x.cell A.c0
       have b1:=λx:am wr=>x.cell A.c1
       have b2:=λx:am wr=>x.cell A.c2
       have b3:=λx:am wr=>x.cell A.c3
       have b4:=λx:am wr=>x.cell A.c4
       have b5:=λx:am wr=>x.cell A.c5
       have d0:=λx:am wr=>x.cell<|T k aG
       have d1:=λx:am wr=>x.cell<|T q ab
       have ax:q<m:=ab;have aZ:(q:Int)<m:=ab;have bl:(k:Int)<m:=ab;let⟨D,J⟩:=yI O.out ax<|Y.1 q Fw;cases pR:(f q).iO (f k) (t q) (t k)with
       |true=>
        go_wp2;refine bg ?_;repeat(go_big_quiet_step ((go_at_call 109;exact cr<|Cv (f q) (f k) _ _ _ D J B C)))
        refine av<|cK ?_;intro w3 kO;go_wp2;go_ret;exact⟨de (zu Fw aG pR).symm,hB.trans<|kO.mono hB.size⟩
       |false=>
        go_wp2;refine bg ?_;repeat(go_big_quiet_step ((go_at_call 109;exact cr<|Cv (f q) (f k) _ _ _ D J B C)))
        refine av<|cK ?_;intro w3 kO;go_wp2;go_roundw
        case rel=>exact⟨q+1,ab,by go_num,λp u=>by
         by_cases e:p=q
         .subst e;exact pR
         .exact lw p ab,hB.trans (kO.mono hB.size)⟩
        case measure=>exact cD
      .go_wp2;go_roundw
       case rel=>exact⟨k+1,ab,by go_num,IJ Y HS.out λp u=>lw p ab,hB⟩
       case measure=>exact cD
  go_wp2;go_ret;exact⟨de ((fS O.out).mpr<|by rw[show m=k by omega];exact Y).symm,hB⟩
 have HF:Hid (eB f n t m=false):=rC s;have mL:((m:Int)!=n)=true:=cY;exact ac8
section
attribute [local go_sem] Oper.semAt_some
abbrev SO n:={p:Nat×Nat // p.1<p.2/\p.2<n}
abbrev SO.cH {n}(x:SO n):Array Value:=#[ac .i64 x.1.1,ac .i64 x.1.2]
def Y5 n (xs:List (SO n)):Prop:=∀i j (h:i<j/\j<n),(⟨(i,j),h⟩:SO n)∈xs
def Dh (n:Int)(w): au Tz.prog 104 #[n] w λe w'=>e=ao (.func (.func 143) #[] #[.pointer w])/\w'=w.alloc (.cells #[n] 3):=by go_enter Tz.func104,Tryz.ntmps104;go_wp2;go_ret;simp
def xz m (Bn u n:Nat)(w:aj)(S:n<=1048576)(C:Bn<u)(D:u<=w)(E:w.cell? Bn=some (ac .i64 (n:Int))):
  SeqStopsK Fence.wide m Tz.prog 143 #[.pointer Bn] (SO.cH (n:=n)) (aa u) (Y5 n) (λ_=>True) (n*n) w:=λl J T W F _ _ G y=>by
 have d:W.cell? Bn=some (ac .i64 (n:Int)):=(F.cell (p:=Bn) cY).trans E;refine callsIn_of_wp Tz.func143 rfl trivial ?_ rfl;simp only[Tryz.ntmps143,bm,bo,br,bt,bv,bi,bj,bn,bk,bs,bp];gi_wp2
 gi_loopw [6] (λi wr=>∃(k:Nat) (pre:List (SO n)),k<=n/\i=ac .i64 k/\pre.length<=k*n/\(∀i j (h:i<j/\j<n),i<k->(⟨(i,j),h⟩:SO n)∈pre)/\wr.cell? ⟨Bn,0,none⟩=some (ac .i64 (n:Int))/\J pre wr)
  (λi _=>n-(intOf i).toNat)
 case atStart=>exact⟨0,[],agB _,rfl,aN,λi j h r=>absurd r<|agA _,d,y⟩
 case round=>
  clear d y;obtain⟨k,pre,U,rfl,a,b,g,c⟩:=hrel;by_cases K:k<n
  .gi_wp2
   gi_loopw [4] (λi wr=>∃(q:Nat) (pre:List (SO n)),k<q/\q<=n/\i=ac .i64 q/\pre.length<=k*n+q/\(∀i j (h:i<j/\j<n),(i<k\/i=k/\j<q)->(⟨(i,j),h⟩:SO n)∈pre)/\wr.cell? ⟨Bn,0,none⟩=some (ac .i64 (n:Int))/\J pre wr)
    (λi _=>n-(intOf i).toNat)
   case atStart=>exact⟨k+1,pre,by omega,by omega,by go_num,by omega,λi j h r=>b i j h<|by omega,g,c⟩
   case round=>
    clear a b g c;obtain⟨q,pre,o,V,rfl,a,b,g,c⟩:=hrel;by_cases z:q<n
    .have L:pre.length<n*n:=by
      have X:(k+1)*n<=n*n:=Nat.mul_le_mul_right n K;have M:(k+1)*n=k*n+n:=bE k n;omega
     let⟨Y,A,s,B,N,O⟩:=G pre ⟨(k,q),o,z⟩ wr c L;dsimp only[SO.cH]at N;gi_wp2
     refine⟨λh=>(by simp[Fence.wide]at h),O.mono ?_⟩;rintro e P (⟨rfl,v,Q⟩|⟨rfl,x⟩)
     .have R:P.cell? Bn=some (ac .i64 (n:Int)):=(Q.cell C).trans g;gi_wp2
      go_roundw
      case rel=>exact⟨q+1,pre++[⟨(k,q),o,z⟩],ab,ab,by go_num,cY,λi j h r=>by
       by_cases e:i=k/\j=q
       .obtain⟨rfl,rfl⟩:=e;exact List.mem_append_right _ aN
       .exact List.mem_append_left _ (b i j h ab),R,v⟩
      exact cD
     .gi_wp2
      exact bH (results_none rfl _ _ _) rfl<|⟨⟨_,rfl⟩,.inr ⟨_,trivial,x⟩⟩
    .gi_wp2
     go_roundw
     case rel=>exact⟨k+1,pre,ab,by go_num,by
      have M:(k+1)*n=k*n+n:=bE k n;omega,λi j h r=>b i j h ab,g,c⟩
     exact cD
  gi_wp2
  go_end0
  exact⟨⟨_,rfl⟩,.inl ⟨pre,λi j h=>b i j h ab,c⟩⟩
end
section
attribute [local go_sem] Oper.semAt_some
def acY (x9:p:=by go_enter Tz.func78,Tryz.ntmps78;(go_wp2_with(go_at_call 102;refine(iy _ _ _ _ f _ hn cY<|az.below (o0 _ _ _) bN).mono ?_;rintro e w1 ⟨rfl,bK⟩;let⟨nA,ux⟩:=mU bK));have hz:=bK.size;simp at hz;exact bodyPost_ret (by simp[results,go_sem,nA]) rfl ⟨de HF.out.symm,((o0 _ _ _).trans<|bK.mono (o0 _ _ _).size).setCell cY _⟩):p:=x9
def zZ (b off n cap:Nat)(f:Nat->Mv)(a':Option ay)(m cap':Nat)(t:Nat->Int)(w:aj)(hn:n<=1048576)(x:m<=aE)(bN:b<w)(az:aM w b off n f)(h:aH f n=false\/m≠n): au Tz.prog 78 #[ad (some ⟨b,off,none⟩) n cap,ad a' m cap'] w λe w'=>e=ao (eB f n t m)/\aa w w w':=by
 unfold aE at x;have o0:∀s u v,aa w w (((w.alloc s).alloc u).alloc v):=λs u v=>(((agn _ w).alloc ab _).alloc aN _).alloc cY _;have r:eB f n t m=false:=by rcases h with h|h;exact iT h;exact rC h
 have HF:Hid (eB f n t m=false):=r;cases hm:aH f n;exact acY;have y:m≠n:=by rcases h with h|h;rw[hm]at h;cases h;exact h
 have A:((m:Int)!=n)=true:=cY;exact acY
abbrev dN (w:aj)(m:Mv):World:=w.alloc<|.cells #[m.name,m.ax,m.aI,m.cj,m.late,m.prom] 30
def qB (b off n cap:Nat)(f r s m cap' t)(w:aj)(u:n<=1048576)(v:m<=aE)(x:b<w)(y:aM w b off n f)(h:aH f n=false\/m≠n):
  au Tz.prog 78 #[ad (some ⟨b,off,none⟩) n cap,ad (some ⟨r,s,none⟩) m cap'] w λe w'=>e=ao (eB f n t m)/\aa w w w':=
 zZ b off n cap f _ m cap' t w u v x y h
def lZ (w m):vF (dN w m) w 0 m:=by constructor<;>simp[dN]
def gJ (w:aj)(m):aa w w (dN w m):=(agn _ _).alloc (agw _) _
def uF (b off n cap:Nat)(f)(u y cap':Nat)(t)(w:aj)(hn:n<=1048576)(N:b<w)(O:aM w b off n f)(bz:u<w)(aV:aD w u y n t)(hm:aH f n)(lw:¬∀i,i<n->(f i).ge (t i)): au Tz.prog 78 #[ad (some ⟨b,off,none⟩) n cap,ad (some ⟨u,y,none⟩) n cap'] w λe w'=>e=ao (eB f n t n)/\aa w w w':=by
 have A:∀R T U,aa w w (((w.alloc R).alloc T).alloc U):=λR T U=>(((agn _ w).alloc ab _).alloc aN _).alloc cY _;go_enter Tz.func78,Tryz.ntmps78;go_wp2_with(go_at_call 102;refine(iy _ _ _ _ f _ hn cY<|O.below (A _ _ _) N).mono ?_;rintro e r ⟨rfl,B⟩;let⟨C,ux⟩:=mU B)
 have hz:=B.size;simp at hz;have Y:aa w w r:=(A _ _ _).trans<|B.mono (A _ _ _).size;have l0:r.cell? (w:Nat)=some (ad (some ⟨b,off,none⟩) n cap):=by rw[C w 0 cY];simp[go_sem]
 have l1:r.cell? ⟨(w:Nat)+1,0,none⟩=some (ad (some ⟨u,y,none⟩) n cap'):=by rw[C ((w:Nat)+1) 0 aN];simp[go_sem]
 have l2:r.cell? ⟨(w:Nat)+1+1,0,none⟩=some (aP false):=by rw[C ((w:Nat)+1+1) 0 aN];simp[go_sem]
 have l3:r.frozen? ⟨(w:Nat)+1+1,0,none⟩=false:=by rw[ux ((w:Nat)+1+1) 0 aN];simp[go_sem]
 go_loopw [21] (λi wr=>∃k:Nat,k<=n/\i=ac .i64 k/\(∀j,j<k->(f j).ge (t j)=true)/\aa r r wr) (λi _=>n-(intOf i).toNat)
 exact⟨0,agB _,rfl,λj Z=>absurd Z ab,agn _ _⟩;obtain⟨k,hk,rfl,dq,hB⟩:=hrel;by_cases D:k<n
 .have v:aa w w wr:=Y.trans<|hB.mono Y.size;have hr:=O.below v N k D;have gm:=aV.below v bz k D;let⟨c0,c1,c2,c3,c4,c5⟩:=hr;have ax:(r:Nat)<=wr:=hB.size;have dQ:(k:Int)<n:=ab;have hA:=gJ wr<|f k;have s:=lZ wr<|f k;have aI:=aK<|dN wr<|f k;have e0:=λx:am (dN wr<|f k)=>x.cell s.c0;have e1:=λx:am (dN wr<|f k)=>x.cell s.c1;have e2:=λx:am (dN wr<|f k)=>x.cell s.c2;have e3:=λx:am (dN wr<|f k)=>x.cell s.c3;have e4:=λx:am (dN wr<|f k)=>x.cell s.c4;have e5:=λx:am (dN wr<|f k)=>x.cell s.c5;have e6:=λx:am (dN wr<|f k)=>x.cell<|(hA.cell cY).trans<|(hB.cell cY).trans l1;have e7:=λx:am (dN wr<|f k)=>x.cell<|(hA.cell cY).trans gm;simp[aL]at e0 e1 e2 e3 e4 e5;cases hs:(f k).ge (t k)with|true=>have HS:Hid _:=hs;go_wp2;refine bg ?_;(repeat(go_big_quiet_step ((go_at_call 103;exact cr<|wD (f k) _ _))));refine av<|cK ?_;intro w2 J;go_wp2;(go_roundw);(case rel=>exact⟨k+1,ab,by go_num,λj Z=>by by_cases e:j=k;subst e;exact HS.out;exact dq j ab,hB.trans<|(hA.trans<|J.mono hA.size).mono hB.size⟩);exact cD|false=>have HF:Hid (eB f n t n=false):=zv D hs;go_wp2;refine bg ?_;(repeat(go_big_quiet_step ((go_at_call 103;exact cr<|wD (f k) _ _))));refine av<|cK ?_;intro w2 J;have hq:aa wr wr w2:=hA.trans<|J.mono hA.size;have n2:=(hq.cell cY).trans<|(hB.cell cY).trans l2;have n3:=(hq.frozen cY).trans<|(hB.frozen cY).trans l3;go_wp2;exact bH (by simp[a9,Tryz.results78,go_sem,n2]) rfl ⟨de HF.out.symm,(v.trans<|hq.mono v.size).setCell cY _⟩
 exact absurd (λi hi=>dq i ab) lw
end
def Kg {a b c d:Int}(h:a=c)(e:b=d):ao (a6 #[a,b])=ao (a6 #[c,d]):=by rw[h,e]
def gh (f:Nat->Mv)(t:Nat->Int)(n:Nat):Prop:=∀j,j<n->0<=(f j).cj/\(f j).cj<=t j/\t j<=10000
def gh.sum (h:gh f t n) i (r:i<=n):0<=sumTo f t i/\sumTo f t i<=10000*i/\0<=dg f t i/\dg f t i<=10000:=
 If i λj s=>by have:=h j ab;omega
def gh.fits (s:aH f n)(h:ga f t n):gh f t n:=λj r=>by
 have u:=Mv.gp<|bf s j r;have v:=iE<|h.1 j r;omega
def lA (b off n cap:Nat)(f)(r v m cap':Nat)(t)(w:aj)(h6:n<=6)(BJ:n<=m)(A:b<w)(B:aM w b off n f)(C:r<w)(D:aD w r v n t)(y:gh f t n): au Tz.prog 88 #[ad (some ⟨b,off,none⟩) n cap,ad (some ⟨r,v,none⟩) m cap'] w λe w'=>e=ao (a6 #[ac .i64<|sumTo f t n,ac .i64<|dg f t n])/\aa w w w':=by
 go_enter Tz.func88,Tryz.ntmps88;go_wp2;go_loopw [6,7,8] (λs z i w'=>∃k:Nat,k<=n/\i=ac .i64 k/\s=ac .i64 (sumTo f t k)/\z=ac .i64 (dg f t k)/\aa w w w') (λ_ _ i _=>n-(intOf i).toNat)
 exact⟨0,agB _,rfl,rfl,rfl,agn _ _⟩;obtain⟨k,hk,rfl,rfl,rfl,hB⟩:=hrel;by_cases u:k<n
 .have J:=B.below hB A k u;have N:=D.below hB C k u;have dQ:(k:Int)<n:=ab;have O:(k:Int)<m:=ab;let⟨s0,s1,z0,z1⟩:=y.sum k hk;have xx:=y k u;have R:Hid (sumTo f t (k+1)=sumTo f t k+(t k-(f k).cj)):=rfl;have T:Hid (dg f t (k+1)=if dg f t k<t k-(f k).cj then t k-(f k).cj else dg f t k):=rfl;have U:=aK wr;have e3:=λx:am wr=>x.cell J.c3;have e6:=λx:am wr=>x.cell N;go_wp2;refine nh ?_;intro w1 Y;by_cases k_:dg f t k<t k-(f k).cj;all_goals
   go_wp2;go_roundw
   .exact⟨k+1,ab,by go_num,by rw[R.out],by rw[T.out];first|rw[if_pos k_]|rw[if_neg ab],hB.trans<|Y.mono hB.size⟩
   exact cD
 have Z:k=n:=by omega
 subst Z;go_wp2;go_ret2;simp_all
def uG (b off n cap:Nat)(f)(r y m cap':Nat)(t)(w:aj)(h6:n<=6)(BJ:n<=m)(C:b<w)(D:aM w b off n f)(A:r<w)(J:aD w r y n t)(B:gh f t n): au Tz.prog 79 #[ad (some ⟨b,off,none⟩) n cap,ad (some ⟨r,y,none⟩) m cap'] w λe w'=>e=ao (a6 #[ac .i64<|sumTo f t n,ac .i64<|dg f t n])/\aa w w w':=by
 go_enter Tz.func79,Tryz.ntmps79;go_wp2;go_loopw [6,7,13] (λs z i w'=>∃k:Nat,k<=n/\i=ac .i64 k/\s=ac .i64 (sumTo f t k)/\z=ac .i64 (dg f t k)/\aa w w w') (λ_ _ i _=>n-(intOf i).toNat)
 exact⟨0,agB _,rfl,rfl,rfl,agn _ _⟩;obtain⟨k,hk,rfl,rfl,rfl,hB⟩:=hrel;by_cases u:k<n
 .have N:=D.below hB C k u;have O:=J.below hB A k u;let⟨c0,c1,c2,c3,c4,c5⟩:=N;have dQ:(k:Int)<n:=ab;have R:(k:Int)<m:=ab;have v:r<wr:=agx A hB.size;let⟨s0,s1,z0,z1⟩:=B.sum k hk;let⟨x0,x1,x2⟩:=B k u;have T:Hid (sumTo f t (k+1)=sumTo f t k+(t k-(f k).cj)):=rfl;have U:Hid (dg f t (k+1)=if dg f t k<t k-(f k).cj then t k-(f k).cj else dg f t k):=rfl;have hA:=gJ wr<|f k;have Y:=lZ wr<|f k;have Z:=aK<|dN wr<|f k;have e3:=λx:am (dN wr<|f k)=>x.cell Y.c3;have e6:=λx:am (dN wr<|f k)=>x.cell<|(hA.cell v).trans O;simp[aL]at e3;go_wp2;refine nh ?_;intro w1 bK;have hq:aa wr wr w1:=hA.trans<|bK.mono hA.size;by_cases k_:dg f t k<t k-(f k).cj;all_goals
   go_wp2;go_roundw
   .exact⟨k+1,ab,by go_num,by rw[T.out],by rw[U.out];first|rw[if_pos k_]|rw[if_neg ab],hB.trans<|hq.mono hB.size⟩
   exact cD
 have tX:k=n:=by omega
 subst tX;go_wp2;go_ret2;simp_all
section
attribute [local go_sem] Oper.semAt_some
def QQ {W W':aj}(h:aa W W W') B:KeepsFrom B W W':=
 ⟨h.size,λk o _ hk _=>(h.block k (agy.1 hk).1).trans hk⟩
def yh (b off n cap:Nat)(f)(b' bJ cap':Nat)(t)(w:aj)(bN:b<w)(az:aM w b off n f)(bz:b'<w)(aV:aD w b' bJ n t)(hm:aH f n)(dq:∀i,i<n->(f i).ge (t i)): au Tz.prog 78 #[ad (some ⟨b,off,none⟩) n cap,ad (some ⟨b',bJ,none⟩) n cap'] w λe w'=>e=ao (eB f n t n)/\aa w w w':=by
 have h6:=bY hm;have hn:n<=1048576:=ab;have HM:Hid _:=hm;have o0:∀o1 o2 o3,aa w w (((w.alloc o1).alloc o2).alloc o3):=λo1 o2 o3=>(((agn _ w).alloc (agw _) _).alloc aN _).alloc cY _;refine(a7 (n:=9)).1 ?_;refine callsIn_of_wp_marks Tz.func78 rfl trivial ?_ rfl;simp[Tryz.ntmps78,bm,bo,br,bt,bv,bi,bj,bn,bk,bs,bp];gi_wp2_with (refine⟨trivial,?_⟩;gi_at_call 102;refine(a7.2<|iy _ _ _ _ f _ hn cY<|az.below (o0 _ _ _) bN).mono ?_;rintro e N ⟨rfl,bK⟩;let⟨nA,ux⟩:=mU bK)
 have hz:=bK.size;simp at hz;have j9:aa w w N:=(o0 _ _ _).trans<|bK.mono (o0 _ _ _).size;have l0:N.cell? (w:Nat)=some (ad (some ⟨b,off,none⟩) n cap):=by rw[nA w 0 cY];simp[go_sem]
 have l1:N.cell? ⟨(w:Nat)+1,0,none⟩=some (ad (some ⟨b',bJ,none⟩) n cap'):=by rw[nA ((w:Nat)+1) 0 aN];simp[go_sem]
 have l2:N.cell? ⟨(w:Nat)+1+1,0,none⟩=some (aP false):=by rw[nA ((w:Nat)+1+1) 0 aN];simp[go_sem]
 have l3:N.frozen? ⟨(w:Nat)+1+1,0,none⟩=false:=by rw[ux ((w:Nat)+1+1) 0 aN];simp[go_sem]
 clear nA ux bK;gi_loopw [21] (λi wr=>∃k:Nat,k<=n/\i=ac .i64 k/\aa N N wr) (λi _=>n-(intOf i).toNat)
 case atStart=>exact⟨0,agB _,rfl,agn _ _⟩
 obtain⟨k,hk,rfl,J⟩:=hrel;have iK:aa w w wr:=j9.trans<|J.mono j9.size;have bR:(N:Nat)<=wr:=J.size;by_cases aG:k<n
 .have hr:=az.below iK bN k aG;have gm:=aV.below iK bz k aG;let⟨c0,c1,c2,c3,c4,c5⟩:=hr;have dQ:(k:Int)<n:=ab;have hA:=gJ wr<|f k;have Y:=lZ wr<|f k;have bq:=aK<|dN wr<|f k;have e0:=λx:am (dN wr<|f k)=>x.cell Y.c0;have e1:=λx:am (dN wr<|f k)=>x.cell Y.c1;have e2:=λx:am (dN wr<|f k)=>x.cell Y.c2;have e3:=λx:am (dN wr<|f k)=>x.cell Y.c3;have e4:=λx:am (dN wr<|f k)=>x.cell Y.c4;have e5:=λx:am (dN wr<|f k)=>x.cell Y.c5;have e6:=λx:am (dN wr<|f k)=>x.cell<|(hA.cell cY).trans<|(J.cell cY).trans l1;have e7:=λx:am (dN wr<|f k)=>x.cell<|(hA.cell cY).trans gm;simp[aL]at e0 e1 e2 e3 e4 e5;have hs:=dq k aG;gi_wp2;refine oh (NA _) aO aO aO ?_;repeat(go_big_quiet_step ((go_at_call 103;exact cr<|wD (f k) _ _)))
  refine av<|cK ?_;intro w2 y;gi_wp2;go_roundw
  case rel=>exact⟨k+1,ab,by go_num,J.trans<|(hA.trans<|y.mono hA.size).mono J.size⟩
  exact cD
 have m0:wr.cell? (w:Nat)=some (ad (some ⟨b,off,none⟩) n cap):=(J.cell cY).trans l0;gi_wp2_with (refine⟨trivial,?_⟩;gi_at_call 104;refine(a7.2<|Dh _ _).mono ?_;rintro e w' ⟨rfl,rfl⟩)
 obtain⟨C,Qc⟩:∃C,wr.alloc (.cells #[ac .i64 (n:Int)] 3)=C:=⟨_,rfl⟩;have hL:aa wr wr C:=Qc▸(agn _ _).alloc ab _;have bS:(C:Nat)=(wr:Nat)+1:=by rw[<-Qc];simp
 have bx:C.cell? (wr:Nat)=some (ac .i64 (n:Int)):=by rw[<-Qc];simp
 rw[Qc];clear Qc;have ZS:aa w w C:=iK.trans<|hL.mono iK.size;have p0:=(hL.cell cY).trans m0;have p1:=(hL.cell cY).trans<|(J.cell (p:=⟨(w:Nat)+1,0,none⟩) cY).trans l1;have p2:=(hL.cell cY).trans<|(J.cell cY).trans l2;have p3:=(hL.frozen cY).trans<|(J.frozen cY).trans l3;refine wpIn_rangeFunc_ownG rfl ab rfl trivial (enters_of Tz.func143 aO rfl)
  (xz _ wr C n C hn ab ab bx) belowK_t (belowK_b ab) (agn _ _) (λ_=>rfl)
  (λpre W=>(∀x∈pre,(f x.1.1).iO (f x.1.2) (t x.1.1) (t x.1.2)=false)/\aa C C W)
  (λc pre W=>(c=.ret/\eB f n t n=false)/\(W.cell? ⟨(w:Nat)+1+1,0,none⟩=some (aP false)/\W.frozen? ⟨(w:Nat)+1+1,0,none⟩=false)/\aa w w W)
  (OwnFrom.and (bO _ _) (ownFrom_below ab ab))
  (λc=>OwnFrom.and (bO _ λ_=>c=.ret/\eB f n t n=false)<|OwnFrom.and (Own.from (λs A B bV hs hg hr=>⟨a8 hs.1 hg hr,(frozen_kept hs.1 hg hr).trans hs.2⟩) _)<|ownFrom_below ab ab)
  ⟨λx hx=>by simp at hx,agn _ _⟩
  ?a1 ?assign ?body ?done ?stop
 case assign=>intro l x W K hK;gi_wp2;exact hK
 case body=>rintro l pre ⟨⟨i,j⟩,mI,Z⟩ W ⟨EB,u⟩ _;dsimp only at mI Z;have O:aa w w W:=ZS.trans<|u.mono ZS.size;have jp:i<n:=ab;have bW:(i:Int)<n:=ab;have bX:(j:Int)<n:=ab;have JD:=az.below O bN i jp;have v:=az.below O bN j Z;have bA:=aV.below O bz i jp;have bM:=aV.below O bz j Z;let⟨ti0,ax⟩:=yI HM.out jp<|dq i jp;let⟨aI,aZ⟩:=yI HM.out Z<|dq j Z;have bq:=aK W;have q0:=λx:am W=>x.cell<|(u.cell cY).trans p0;have q1:=λx:am W=>x.cell<|(u.cell cY).trans p1;have a0:=λx:am W=>x.cell JD.c0;have a1:=λx:am W=>x.cell JD.c1;have a2:=λx:am W=>x.cell JD.c2;have a3:=λx:am W=>x.cell JD.c3;have a4:=λx:am W=>x.cell JD.c4;have a5:=λx:am W=>x.cell JD.c5;have b0:=λx:am W=>x.cell v.c0;have b1:=λx:am W=>x.cell v.c1;have b2:=λx:am W=>x.cell v.c2;have b3:=λx:am W=>x.cell v.c3;have b4:=λx:am W=>x.cell v.c4;have b5:=λx:am W=>x.cell v.c5;have d0:=λx:am W=>x.cell bA;have d1:=λx:am W=>x.cell bM;have C_:=u.size;have R:=(u.cell cY).trans p2;have bl:=(u.frozen cY).trans p3;cases pR:(f i).iO (f j) (t i) (t j)with|true=>have HF:Hid (eB f n t n=false):=zu mI Z pR;gi_wp2;refine oh (pu _ _) aO aO aO ?_;(repeat(go_big_quiet_step ((go_at_call 105;exact cr<|GR (f i) (f j) _ _ _ ti0 ax aI aZ))));refine av<|cK ?_;intro w2 y;have n2:=(y.cell cY).trans R;have n3:=(y.frozen cY).trans bl;simp[pR];gi_wp2;exact⟨(QQ y _).trans ((KeepsOthers.setCell _ _ _).from _),⟨rfl,HF.out⟩,⟨bb _ _ _ (by rw[n2];rfl),by rw[World.frozen?_setCell];exact n3⟩,(O.trans<|y.mono O.size).setCell cY _⟩|false=>have HN:Hid _:=pR;gi_wp2;refine oh (pu _ _) aO aO aO ?_;(repeat(go_big_quiet_step ((go_at_call 105;exact cr<|GR (f i) (f j) _ _ _ ti0 ax aI aZ))));refine av<|cK ?_;intro w2 y;simp only[pR];gi_wp2;refine⟨QQ y _,y.mono C_,?_,u.trans<|y.mono C_⟩;intro x hx;rcases agX.1 hx with h|h;exact EB x h;simp at h;subst h;exact HN.out
 case done=>rintro D xs W hD hS ⟨EB,u⟩ hK;have jC:eB f n t n=true:=(fS HM.out).mpr ⟨dq,λj k hk hj=>EB _<|hS k j ⟨hk,hj⟩⟩;have HF:Hid _:=jC;clear jC;have O:aa w w W:=ZS.trans<|u.mono ZS.size;have R:=(u.cell (p:=⟨(w:Nat)+1+1,0,none⟩) cY).trans p2;have bl:=(u.frozen (p:=⟨(w:Nat)+1+1,0,none⟩) cY).trans p3;gi_wp2;have T:=(KeepsOthers.setCell W ⟨(w:Nat)+1+1,0,none⟩ true).same D _ hK rfl;refine⟨aN,.inl ⟨_,_,rfl,bB T,?_⟩⟩;have U:=a8 (bb W ⟨(w:Nat)+1+1,0,none⟩ true<|by rw[R];rfl) (bF _ D<|.deferred none) (λr e=>by cases e;exact⟨_,T,rfl⟩);refine⟨aP true,?_,by rw[HF.out],(O.setCell cY _).trans<|belowK_b (w:=w) (agw _) _ D _ _ ab T rfl rfl⟩;simp[a9,Tryz.f78,go_sem,U]
 case stop=>rintro D c pre W hD _ ⟨⟨rfl,hF⟩,⟨UQ,jo⟩,u⟩ hK;have HF:Hid _:=hF;clear hF;gi_wp2;refine⟨aN,.inl ⟨_,_,rfl,bB hK,?_⟩⟩;have U:=a8 UQ (bF _ D<|.deferred none) (λr e=>by cases e;exact⟨_,hK,rfl⟩);refine⟨aP false,?_,by rw[HF.out],u.trans<|belowK_b (w:=w) (agw _) W D _ _ ab hK rfl rfl⟩;simp[a9,Tryz.f78,go_sem,U]
def pg (b off n cap:Nat)(f)(r s m cap':Nat)(t)(w:aj)(x:n<=1048576)(y:m<=aE)(u:b<w)(v:aM w b off n f)(A:r<w)(B:aD w r s m t): au Tz.prog 78 #[ad (some ⟨b,off,none⟩) n cap,ad (some ⟨r,s,none⟩) m cap'] w λe w'=>e=ao (eB f n t m)/\aa w w w':=by by_cases C:m=n;subst C;cases hm:aH f m;exact qB b off m cap f r s m cap' t w x y u v<|.inl hm;(exact if D:∀i,i<m->(f i).ge (t i)=true then yh b off m cap f r s cap' t w u v A B hm D else uF b off m cap f r s cap' t w x u v A B hm D);exact qB b off n cap f r s m cap' t w x y u v<|.inr C
end
section
section
variable {m:Nat}
def fY (now:Int)(m:Mv)(t:Int):Bool:=!(decide (t<now)||decide (t<now+4)&&m.prom==-1)
def np (now:Int)(f:Nat->Mv)(t:Nat->Int)(n:Nat):Bool:=(List.range n).all λi=>fY now (f i)<|t i
def aY (now shift:Int)(f:Nat->Mv)(n:Nat)(t:Nat->Int)(m:Nat):Bool:=jr now 0 10000&&jr shift 0 6&&eB f n t m&&np now f t n
def qX {i}(s:i<n)(h:fY now (f i) (t i)=false):np now f t n=false:=by rw[Bool.eq_false_iff];intro r;unfold np at r;grind
def wq (h:∀i,i<n->fY now (f i) (t i)):np now f t n:=by unfold np;grind
theorem sS (h:eB f n t m=false):aY now shift f n t m=false:=by unfold aY;simp[h]
def Cy (h:jr now 0 10000=false):aY now shift f n t m=false:=by unfold aY;simp[h]
def wQ (h:jr shift 0 6=false):aY now shift f n t m=false:=by unfold aY;simp[h]
def oJ (h:np now f t n=false):aY now shift f n t m=false:=by unfold aY;simp[h]
def ru (r:jr now 0 10000)(s:jr shift 0 6)(u:eB f n t m)(v:np now f t n):aY now shift f n t m:=by unfold aY;simp[r,s,u,v]
def oU (h:eB f n t m):aH f n/\m=n/\ga f t n:=by
 have r:aH f n=true:=by grind [iT]
 have s:m=n:=by grind [rC]
 subst s;exact⟨r,rfl,(fS r).mp h⟩
def eO {n a b}:jr n a b<->a<=n/\n<=b:=by unfold jr;simp
end
abbrev FN (w:aj)(now shift:Int)(a:Option ay)(n cap:Nat)(a':Option ay)(m cap':Nat):World:=w.alloc<|.cells #[now,shift,ad a n cap,ad a' m cap'] 42
structure sO (w:aj)(B:Nat)(now shift:Int)(a:Option ay)(n cap:Nat)(a':Option ay)(m cap':Nat):Prop where
 c0:w.cell? B=some (ac .i64 now)
 c1:w.cell? ⟨B,1,none⟩=some (ac .i64 shift)
 c2:w.cell? ⟨B,2,none⟩=some (ad a n cap)
 c3:w.cell? ⟨B,3,none⟩=some (ad a' m cap')
def qo (w:aj)(now shift:Int)(a:Option ay)(n cap:Nat)(a':Option ay)(m cap':Nat):sO (FN w now shift a n cap a' m cap') w now shift a n cap a' m cap':=by constructor<;>simp[FN]
def sO.below {N B:Nat}{w w':aj}{a:Option ay}{cap:Nat}{a':Option ay}{m cap':Nat}(h:sO w B now shift a n cap a' m cap')(b:aa N w w')(c:B<N):sO w' B now shift a n cap a' m cap':=
 ⟨(b.cell c).trans h.c0,(b.cell c).trans h.c1,(b.cell c).trans h.c2,(b.cell c).trans h.c3⟩
def kG (w:aj)(now shift:Int)(a:Option ay)(n cap:Nat)(a':Option ay)(m cap':Nat):aa w w (FN w now shift a n cap a' m cap'):=(agn _ _).alloc (agw _) _
def Dz now  t (a:m.ok): (fY now m t=false/\decide (t<now))\/(fY now m t/\decide (t<now)=false/\decide (t<now+4)=false)\/(fY now m t=false/\decide (t<now)=false/\decide (t<now+4)/\m.prom=-1)\/(fY now m t/\decide (t<now)=false/\decide (t<now+4)/\0<=m.prom):=by have b:=Mv.gp a;grind [fY]
def ac9 (x9:p:=by (have HB:Hid (aY now shift f m t m=true):=by have h:aY now shift f m t m=true:=HY.out<|wq λi hi=>dq i ab;exact h);go_wp2;go_ret;exact⟨de HB.out.symm,iK⟩):p:=x9
def ada (x9:p:=by go_enter Tz.func55,Tryz.ntmps55;(go_wp2_with(go_at_call 82;refine(gN _ _ _ _).mono ?_;rintro e w' ⟨rfl,rfl⟩));go_ret;exact⟨de HB.out.symm,bA⟩):p:=x9
def YB (x9:p:=by refine nh ?_;intro w2 dh;go_wp2;go_ret;exact⟨de HB.out.symm,iK.trans<|dh.mono iK.size⟩):p:=x9
def YI (x9:p:=by have h:np now f t m=true->aY now shift f m t m=true:=λh4=>ru h1 h2 h3 h4;exact h):p:=x9
def vj (now shift:Int)(b off n cap:Nat)(f:Nat->Mv)(y C m cap':Nat)(t:Nat->Int)(w:aj)(hn:n<=1048576)(jQ:m<=aE)(O:b<w)(Z:aM w b off n f)(hf:∀i,i<n->(f i).Fits)(R:y<w)(aV:aD w y C m t):
  au Tz.prog 55 #[.agg #[now,shift,ad (some ⟨b,off,none⟩) n cap,ad (some ⟨y,C,none⟩) m cap']] w λe w'=>e=ao (aY now shift f n t m)/\aa w w w':=by
 have bA:=kG w now shift (some ⟨b,off,none⟩) n cap (some ⟨y,C,none⟩) m cap';have hA:=qo w now shift (some ⟨b,off,none⟩) n cap (some ⟨y,C,none⟩) m cap';have A:=pD b off n cap f y C m cap' t _ hn jQ (agx O bA.size) (Z.below bA O) hf (agx R bA.size)<|aV.below bA R;cases h1:jr now 0 10000 with
 |false=>
  have HB:Hid (aY now shift f n t m=false):=Cy h1;exact ada
 |true=>
  cases h2:jr shift 0 6 with
  |false=>
   have HB:Hid (aY now shift f n t m=false):=wQ h2;exact ada
  |true=>
   cases h3:eB f n t m with
   |false=>
    have HB:Hid (aY now shift f n t m=false):=sS h3;rw[h3]at A;go_enter Tz.func55,Tryz.ntmps55
    go_wp2_with(first|(go_at_call 82;refine(gN _ _ _ _).mono ?_;rintro e w' ⟨rfl,rfl⟩)|(go_at_call 83;refine A.mono ?_;clear A;rintro e D ⟨rfl,B⟩))
    go_ret;exact⟨de HB.out.symm,bA.trans<|B.mono bA.size⟩
   |true=>
    obtain⟨hm,rfl,jC⟩:=oU h3;have h6:=bY hm;have HM:Hid (aH f m=true):=hm;have HY:Hid (np now f t m=true->aY now shift f m t m=true):=by
     exact YI
    have Ex:=eO.mp h1;have CY:IntKind.i64.wrap (now+4)=now+4:=jh;rw[h3]at A;clear hm jC;go_enter Tz.func55,Tryz.ntmps55
    go_wp2_with(first|(go_at_call 82;refine(gN _ _ _ _).mono ?_;rintro e w' ⟨rfl,rfl⟩)|(go_at_call 83;refine A.mono ?_;clear A;rintro e D ⟨rfl,B⟩))
    have j9:aa w w D:=bA.trans<|B.mono bA.size;have eI:(w:Nat)<D:=agx aN B.size;have Xn:=hA.below B aN;clear hA B;go_loopw [3] (λx wr=>∃k:Nat,k<=m/\x=ac .i64 k/\(∀j,j<k->fY now (f j) (t j)=true)/\aa D D wr) (λx _=>m-(intOf x).toNat)
    case atStart=>exact⟨0,agB _,rfl,λj T=>absurd T<|agA _,agn _ _⟩
    obtain⟨k,hk,rfl,dq,hB⟩:=hrel;have iK:aa w w wr:=j9.trans<|hB.mono j9.size;let⟨a0,a1,a2,a3⟩:=Xn.below hB eI;by_cases J:k<m
    .have dQ:(k:Int)<m:=by omega
     have gm:=aV.below iK R k J;have hr:=Z.below iK O k J;have ax:=aK wr;have x0:=λx:am wr=>x.cell a0
     have x2:=λx:am wr=>x.cell a2
     have x3:=λx:am wr=>x.cell a3
     have y5:=λx:am wr=>x.cell hr.c5
     have y6:=λx:am wr=>x.cell gm
     rcases Dz now (t k) (bf HM.out k J)with⟨hs,r⟩|⟨hs,r,s⟩|⟨hs,r,s,u⟩|⟨hs,r,s,u⟩
     .have HB:Hid (aY now shift f m t m=false):=oJ<|qX J hs;have v:Hid (decide (t k<now)=true):=r;clear hs r;go_wp2;have r:=v.out;exact YB
     .have U:Hid (fY now (f k) (t k)=true):=hs;have v:Hid (decide (t k<now)=false):=r;have N:Hid (decide (t k<now+4)=false):=s;clear hs r s;go_wp2;have r:=v.out;have s:=N.out;refine nh ?_;intro w2 dh;go_wp2;go_roundw
      case rel=>exact⟨k+1,ab,by go_num,λj T=>by
       by_cases e:j=k
       .subst e;exact U.out
       .exact dq j ab,hB.trans (dh.mono hB.size)⟩
      exact cD
     .have HB:Hid (aY now shift f m t m=false):=oJ<|qX J hs;have v:Hid (decide (t k<now)=false):=r;have N:Hid (decide (t k<now+4)=true):=s;have Y:Hid (decide ((f k).prom<0)=true):=by
       have h:decide ((f k).prom<0)=true:=by rw[u];rfl
       exact h
      clear hs r s u;go_wp2;have r:=v.out;have s:=N.out;have u:=Y.out;exact YB
     have U:Hid (fY now (f k) (t k)=true):=hs;have v:Hid (decide (t k<now)=false):=r;have N:Hid (decide (t k<now+4)=true):=s;have Y:Hid (decide ((f k).prom<0)=false):=by
      have h:decide ((f k).prom<0)=false:=by simpa using u
      exact h
     clear hs r s u;go_wp2;have r:=v.out;have s:=N.out;have u:=Y.out;refine nh ?_;intro w2 dh;go_wp2;go_roundw
     case rel=>exact⟨k+1,ab,by go_num,λj T=>by
      by_cases e:j=k
      .subst e;exact U.out
      .exact dq j ab,hB.trans (dh.mono hB.size)⟩
     case measure=>exact cD
    exact ac9
def ac4 (x9:p:=by
 refine nh ?_;intro w3 kO;go_wp2;go_roundw
 case rel=>exact⟨k+1,ab,by go_num,λj hj=>by by_cases e:j=k;subst e;exact HS.out;exact dq j ab,hB.trans<|(XY.trans<|kO.mono XY.size).mono hB.size⟩
 case measure=>exact cD):p:=x9
def adi (x9:p:=by
 rcases q with q|⟨q,q'⟩;all_goals
   go_enter Tz.func80,Tryz.ntmps80
   go_wp2;go_ret;exact⟨de HB.out.symm,bA⟩):p:=x9
def EF (now shift:Int)(b off n cap:Nat)(f:Nat->Mv)(A C m cap':Nat)(t:Nat->Int)(w:aj)(hn:n<=1048576)(jQ:m<=aE)(bN:b<w)(az:aM w b off n f)(N:A<w)(aV:aD w A C m t):
  au Tz.prog 80 #[.agg #[now,shift,ad (some ⟨b,off,none⟩) n cap,ad (some ⟨A,C,none⟩) m cap']] w λe w'=>e=ao (aY now shift f n t m)/\aa w w w':=by
 have bA:=kG w now shift (some ⟨b,off,none⟩) n cap (some ⟨A,C,none⟩) m cap';have hA:=qo w now shift (some ⟨b,off,none⟩) n cap (some ⟨A,C,none⟩) m cap';have R:=pg b off n cap f A C m cap' t _ hn jQ (agx bN bA.size) (az.below bA bN) (agx N bA.size)<|aV.below bA N;cases h1:jr now 0 10000 with
 |false=>
  have HB:Hid (aY now shift f n t m=false):=Cy h1;have q:now<0\/¬now<0/\10000<now:=by unfold jr at h1;simp at h1;omega
  clear h1;exact adi
 |true=>
  have Ex:=eO.mp h1;have q1:¬now<0:=ab;have q2:¬10000<now:=ab;cases h2:jr shift 0 6 with
  |false=>
   have HB:Hid (aY now shift f n t m=false):=wQ h2;have q:shift<0\/¬shift<0/\6<shift:=by unfold jr at h2;simp at h2;omega
   clear h2;exact adi
  |true=>
   have m8:=eO.mp h2;have q3:¬shift<0:=ab;have q4:¬6<shift:=ab;cases h3:eB f n t m with
   |false=>
    have HB:Hid (aY now shift f n t m=false):=sS h3;rw[h3]at R;go_enter Tz.func80,Tryz.ntmps80
    go_wp2_with(go_at_call 78;refine R.mono ?_;clear R;rintro e w1 ⟨rfl,T⟩)
    go_ret;exact⟨de HB.out.symm,bA.trans<|T.mono bA.size⟩
   |true=>
    obtain⟨hm,rfl,jC⟩:=oU h3;have h6:=bY hm;have HM:Hid (aH f m=true):=hm;have HY:Hid (np now f t m=true->aY now shift f m t m=true):=by
     exact YI
    have CY:IntKind.i64.wrap (now+4)=now+4:=jh;rw[h3]at R;clear hm jC;let⟨p0,p1,p2,p3⟩:=hA;go_enter Tz.func80,Tryz.ntmps80
    go_wp2_with(go_at_call 78;refine R.mono ?_;clear R;rintro e w1 ⟨rfl,T⟩;let⟨g0,g1,g2,g3⟩:=(sO.mk p0 p1 p2 p3).below T aN)
    have j9:aa w w w1:=bA.trans<|T.mono bA.size;have eI:(w:Nat)<w1:=agx aN T.size;have Xn:=sO.mk g0 g1 g2 g3;clear p0 p1 p2 p3 T;go_loopw [32] (λx wr=>∃k:Nat,k<=m/\x=ac .i64 k/\(∀j,j<k->fY now (f j) (t j)=true)/\aa w1 w1 wr) (λx _=>m-(intOf x).toNat)
    case atStart=>exact⟨0,agB _,rfl,λj hj=>absurd hj<|agA _,agn _ _⟩
    obtain⟨k,hk,rfl,dq,hB⟩:=hrel;have iK:aa w w wr:=j9.trans<|hB.mono j9.size;by_cases aG:k<m
    .have dQ:(k:Int)<m:=by omega
     have gm:=aV.below iK N k aG;let⟨c0,c1,c2,c3,c4,c5⟩:=az.below iK bN k aG;have Uv:=Xn.below hB eI;have u:=gJ wr<|f k;have hM:=lZ wr<|f k;have lz:(w:Nat)<wr:=agx eI hB.size;have OM:=Uv.below u lz;have D:(dN wr<|f k).cell? ⟨A,C+k,none⟩=some (ac .i64<|t k):=(u.cell (p:=⟨A,C+k,none⟩)<|agx N iK.size).trans gm;have y:=aK<|dN wr<|f k;have U:=λx:am (dN wr<|f k)=>x.cell OM.c0
     have Y:=λx:am (dN wr<|f k)=>x.cell OM.c3
     have Z:=λx:am (dN wr<|f k)=>x.cell D
     rcases Dz now (t k) (bf HM.out k aG)with⟨hs,s⟩|⟨hs,s,B⟩|⟨hs,s,B,d3⟩|⟨hs,s,B,d3⟩
     .have HB:Hid (aY now shift f m t m=false):=oJ<|qX aG hs;have O:Hid (decide (t k<now)=true):=s;clear hs s;go_wp2;have s:=O.out;refine nh ?_;intro r v;go_wp2;go_ret;exact⟨de HB.out.symm,iK.trans<|(u.trans<|v.mono u.size).mono iK.size⟩
     .have HS:Hid (fY now (f k) (t k)=true):=hs;have O:Hid (decide (t k<now)=false):=s;have D2:Hid (decide (t k<now+4)=false):=B;clear hs s B;go_wp2;have s:=O.out;refine nh ?_;intro r v;have XY:aa wr wr r:=u.trans<|v.mono u.size;have Qa:=hM.below v aN;have J:=OM.below v<|agx lz u.size;clear U Y Z y s;have y:=aK r;have U:=λx:am r=>x.cell J.c0
      have Y:=λx:am r=>x.cell J.c3
      have Z:=λx:am r=>x.cell<|(v.cell (p:=⟨A,C+k,none⟩)<|agx (agx N iK.size) u.size).trans D
      have z5:=λx:am r=>x.cell Qa.c5
      simp only[aL]at z5;have D4:Hid (((f k).prom==-1)=true\/((f k).prom==-1)=false):=by
       have h:((f k).prom==-1)=true\/((f k).prom==-1)=false:=by cases ((f k).prom==-1)<;>simp
       exact h
      go_wp2;have B:=D2.out;rcases D4.out with d4|d4;all_goals
       exact ac4
     .have HB:Hid (aY now shift f m t m=false):=oJ<|qX aG hs;have O:Hid (decide (t k<now)=false):=s;have D2:Hid (decide (t k<now+4)=true):=B;have D3:Hid (((f k).prom==-1)=true):=by
       have h:((f k).prom==-1)=true:=by rw[d3];rfl
       exact h
      clear hs s B d3;go_wp2;have s:=O.out;refine nh ?_;intro r v;have XY:aa wr wr r:=u.trans<|v.mono u.size;have Qa:=hM.below v aN;have J:=OM.below v<|agx lz u.size;clear U Y Z y s;have y:=aK r;have U:=λx:am r=>x.cell J.c0
      have Y:=λx:am r=>x.cell J.c3
      have Z:=λx:am r=>x.cell<|(v.cell (p:=⟨A,C+k,none⟩)<|agx (agx N iK.size) u.size).trans D
      have z5:=λx:am r=>x.cell Qa.c5
      simp only[aL]at z5;go_wp2;have B:=D2.out;have d3:=D3.out;refine nh ?_;intro w3 kO;go_wp2;go_ret;exact⟨de HB.out.symm,iK.trans<|(XY.trans<|kO.mono XY.size).mono iK.size⟩
     .have HS:Hid (fY now (f k) (t k)=true):=hs;have O:Hid (decide (t k<now)=false):=s;have D2:Hid (decide (t k<now+4)=true):=B;have D3:Hid (((f k).prom==-1)=false):=by
       have h:((f k).prom==-1)=false:=cY;exact h
      clear hs s B d3;go_wp2;have s:=O.out;refine nh ?_;intro r v;have XY:aa wr wr r:=u.trans<|v.mono u.size;have Qa:=hM.below v aN;have J:=OM.below v<|agx lz u.size;clear U Y Z y s;have y:=aK r;have U:=λx:am r=>x.cell J.c0
      have Y:=λx:am r=>x.cell J.c3
      have Z:=λx:am r=>x.cell<|(v.cell (p:=⟨A,C+k,none⟩)<|agx (agx N iK.size) u.size).trans D
      have z5:=λx:am r=>x.cell Qa.c5
      simp only[aL]at z5;go_wp2;have B:=D2.out;have d3:=D3.out;exact ac4
    .exact ac9
