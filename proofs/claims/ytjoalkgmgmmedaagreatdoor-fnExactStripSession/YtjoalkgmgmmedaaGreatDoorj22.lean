import Derived.Test.YtjoalkgmgmmedaaGreatDoorj13
import Derived.Test.YtjoalkgmgmmedaaGreatDoorj06c
set_option linter.defProp false
set_option maxHeartbeats 4000000
set_option maxRecDepth 100000
open Array renaming replicate_succ->a6,replicate_zero->a7
open Go renaming wpQuiet_nil->ai,World->ao,Calls->ay,maxLen->aL,Addr->a9,callsIn_wide->bb,cell_kept->br,run_takeDeferred->bs,grownBy_putObj'->bE,bodyPost_ret->bF,results->bI,ownFrom_pure->bO
open Go.Ending renaming returned->ac
open Go.RowKit renaming Below->aa
open Go.Value renaming slice->ad,int->au,bool->bv,tuple->bB
open Go.World renaming cell?_setCell_same'->aE,cell?_alloc_new->aN
open List renaming append_toArray->a8,size_toArray->be,push_toArray->bi,length_cons->bj,cons_append->bk,length_nil->bm,nil_append->bn
open Nat renaming zero_add->av,reduceAdd->bo,reduceSub->bp,succ_mul->bt
namespace Go.Proofs.YtjoalkgmgmmedaaGreatDoor
open Go.RowKit Go.Shelf RowKit
variable {now shift:Int}{m:Mv}{n:Nat}{t:Nat->Int}{f:Nat->Mv}{p:Prop}
def AC (a:m.Fits)(w):
  ay Tz.prog 36 #[.agg #[m.name,m.ax,m.aI,m.cE,m.late,m.prom]] w λe w'=>e=ac m.ok/\aa w w w':=EE _ _ _ _ _ _ _ a.name
def XL (x9:p:=by
  go_wp2;go_ret;exact⟨cY (mf (by omega)<|by rw[show n=k by omega];exact dZ).symm,hB⟩):p:=x9
def X1 (x9:p:=by
  exact⟨0,afP _,rfl,λi hi=>absurd hi ab,afB _ _⟩):p:=x9
def sx (b off n cap:Nat)(f)(w:ao)(hn:n<=1048576)(D:b<w)(O:aK w b off n f)(R:∀i,i<n->(f i).Fits):
  ay Tz.prog 82 #[ad (some ⟨b,off,none⟩) n cap] w λe w'=>e=ac (aG f n)/\aa w w w':=by
 by_cases h6:6<n
 .have hm:aG f n=false:=wR ab;have T:(6:Int)<n:=ab;go_enter Tz.func82,Tryz.ntmps82
  go_wp2;go_ret;exact⟨cY hm.symm,afB _ _⟩
 go_enter Tz.func82,Tryz.ntmps82
 go_wp2;go_loopw [3] (λi w'=>∃k:Nat,k<=n/\i=au .i64 k/\lj f k/\aa w w w') (λi _=>n-(intOf i).toNat)
 .exact X1
 obtain⟨k,hk,rfl,dZ,hB⟩:=hrel;by_cases u:k<n
 .have J:=O.below hB D;let⟨U,Y,Z,c3,c4,c5⟩:=J k u;have v:=R k u;have dV:(k:Int)<n:=ab;have oh:b<wr:=afL D hB.size;have ax:=aM wr;have d0:=λx:an wr=>x.cell U
  have d1:=λx:an wr=>x.cell Y
  have d2:=λx:an wr=>x.cell Z
  have d3:=λx:an wr=>x.cell c3
  have d4:=λx:an wr=>x.cell c4
  have d5:=λx:an wr=>x.cell c5
  cases y:(f k).ok with
  |false=>
   have B:iV f k=false:=by unfold iV;rw[y];rfl
   go_wp2;refine bf ?_;repeat(go_big_quiet_step ((go_at_call 36;exact cj<|AC v _)))
   refine ai<|cJ ?_;intro C r;go_wp2;go_ret;exact⟨cY (ru u B).symm,hB.trans<|r.mono hB.size⟩
  |true=>
   by_cases N:k=0
   .have B:iV f k=true:=by unfold iV;rw[y,N];rfl
    have s:Hid (lj f<|k+1):=ll dZ B;go_wp2;have hz:decide (0<k)=false:=dj;clear N;refine bf ?_;repeat(go_big_quiet_step ((go_at_call 36;exact cj<|AC v _)))
    refine ai<|cJ ?_;intro C r;go_wp2;go_roundw
    .exact⟨k+1,ab,by go_num,s.out,hB.trans<|r.mono hB.size⟩
    exact cD
   obtain⟨j,rfl⟩:∃j,k=j+1:=⟨k-1,ab⟩;have e0:=λx:an wr=>x.cell (J j ab).c0
   have aI:(j:Int)<n:=ab;have hz:(0:Int)<(j:Int)+1:=ab;cases A:cr (f j).name (f<|j+1).name with
   |true=>
    have s:Hid (lj f<|j+1+1):=ll dZ (by unfold iV;rw[y];simpa using A);unfold cr at A;go_wp2;refine bf ?_;repeat(go_big_quiet_step ((go_at_call 36;exact cj<|AC v _)))
    refine ai<|cJ ?_;intro C r;go_wp2;go_roundw
    .exact⟨j+1+1,ab,by go_num,s.out,hB.trans<|r.mono hB.size⟩
    exact cD
   |false=>
    have s:Hid (aG f n=false):=ru u (by unfold iV;rw[y];simpa using A);unfold cr at A;go_wp2;refine bf ?_;repeat(go_big_quiet_step ((go_at_call 36;exact cj<|AC v _)))
    refine ai<|cJ ?_;intro C r;go_wp2;go_ret;exact⟨cY s.out.symm,hB.trans<|r.mono hB.size⟩
 exact XL
def zC (m:Mv)(w):
  ay Tz.prog 137 #[.agg #[m.name,m.ax,m.aI,m.cE,m.late,m.prom]] w λe w'=>e=ac m.ok/\aa w w w':=Eg _ _ _ _ _ _ _
def iu (b off n cap:Nat)(f)(w:ao)(hn:n<=1048576)(R:b<w)(Y:aK w b off n f):
  ay Tz.prog 103 #[ad (some ⟨b,off,none⟩) n cap] w λe w'=>e=ac (aG f n)/\aa w w w':=by
 by_cases h6:6<n
 .have hm:aG f n=false:=wR ab;have Z:(6:Int)<n:=ab;go_enter Tz.func103,Tryz.ntmps103
  go_wp2;go_ret;exact⟨cY hm.symm,afB _ _⟩
 go_enter Tz.func103,Tryz.ntmps103
 go_wp2;go_loopw [10] (λi w'=>∃k:Nat,k<=n/\i=au .i64 k/\lj f k/\aa w w w') (λi _=>n-(intOf i).toNat)
 .exact X1
 obtain⟨k,hk,rfl,dZ,hB⟩:=hrel;by_cases C:k<n
 .have D:=Y.below hB R;let⟨c0,c1,c2,c3,c4,c5⟩:=D k C;have dV:(k:Int)<n:=ab;have T:b<wr:=afL R hB.size;cases A:(f k).ok with
  |false=>
   have u:Hid (aG f n=false):=ru C (by unfold iV;rw[A];rfl);go_wp2_with(go_at_call 137;refine(zC (f k) _).mono ?_;rintro e r ⟨rfl,s⟩;let⟨v,J⟩:=mJ s)
   go_ret;exact⟨cY u.out.symm,hB.trans<|(qG (uG wr _) s).2.mono hB.size⟩
  |true=>
   by_cases N:k=0
   .have u:Hid (lj f<|k+1):=ll dZ (by unfold iV;rw[A,N];rfl);have HK:Hid (k=0):=N;clear N;go_wp2_with(go_at_call 137;refine(zC (f k) _).mono ?_;rintro e r ⟨rfl,s⟩;let⟨v,J⟩:=mJ s)
    have hz:decide (0<k)=false:=by have:=HK.out;simp;omega
    have hq:=qG (uG wr _) s;have y:=aM r;refine nl ?_;intro U dg;go_wp2;go_roundw
    .exact⟨k+1,ab,by go_num,u.out,hB.trans<|(hq.2.trans<|dg.mono hq.2.size).mono hB.size⟩
    exact cD
   obtain⟨j,rfl⟩:∃j,k=j+1:=⟨k-1,ab⟩;have ax:(j:Int)<n:=ab;have hz:(0:Int)<(j:Int)+1:=ab;cases B:cr (f j).name (f<|j+1).name with
   |true=>
    have u:Hid (lj f<|j+1+1):=ll dZ (by unfold iV;rw[A];simpa using B);unfold cr at B;go_wp2_with(go_at_call 137;refine(zC (f<|j+1) _).mono ?_;rintro e r ⟨rfl,s⟩;let⟨v,J⟩:=mJ s)
    have hq:=qG (uG wr _) s;have y:=aM r;have O:r.cell? wr.heap.size=some (.string (f<|j+1).name):=by rw[v _ _ aP,aN];rfl
    have e0:=λx:an r=>x.cell O
    have e1:=λx:an r=>x.cell ((D.below hq.2 T) j ab).c0
    refine nl ?_;intro U dg;go_wp2;go_roundw
    .exact⟨j+1+1,ab,by go_num,u.out,hB.trans<|(hq.2.trans<|dg.mono hq.2.size).mono hB.size⟩
    exact cD
   |false=>
    have u:Hid (aG f n=false):=ru C (by unfold iV;rw[A];simpa using B);unfold cr at B;go_wp2_with(go_at_call 137;refine(zC (f<|j+1) _).mono ?_;rintro e r ⟨rfl,s⟩;let⟨v,J⟩:=mJ s)
    have hq:=qG (uG wr _) s;have y:=aM r;have O:r.cell? wr.heap.size=some (.string (f<|j+1).name):=by rw[v _ _ aP,aN];rfl
    have e0:=λx:an r=>x.cell O
    have e1:=λx:an r=>x.cell ((D.below hq.2 T) j ab).c0
    refine nl ?_;intro U dg;go_wp2;go_ret;exact⟨cY u.out.symm,hB.trans<|(hq.2.trans<|dg.mono hq.2.size).mono hB.size⟩
 exact XL
def P8 (n a b:Int)(w):
  ay Tz.prog 59 #[n,a,b] w λe w'=>e=ac (jj n a b)/\aa w w w':=
 (gL n a b w).mono λ_ _ ⟨c,d⟩=>⟨c,d▸afB _ _⟩
def yr (r:aG f n){k}(hk:k<n)(hs:(f k).ga (t k)):0<=t k/\t k<=10000:=by
 have s:=Mv.gj<|bd r k hk;have u:=iA hs;omega
def Nf (p t:Int):(0<=p/\(t !=p))\/(0<=p/\(t !=p)=false)\/p<0:=gC
def acg (x9:p:=by
  go_wp2;refine bf ?_;repeat(go_big_quiet_step ((go_at_call 59;exact cj<|P8 _ _ _ _)))
  refine wpQuiet_nil<|cJ ?_;intro w2 dg;go_wp2;go_ret;exact⟨cY (zc aF HS.out).symm,hB.trans<|dg.mono hB.size⟩):p:=x9
def aci (x9:p:=by
  go_enter Tz.func60,Tryz.ntmps60
  go_wp2_with(go_at_call 82;refine(sx _ _ _ _ f _ hn bN aB hf).mono ?_;rintro e w1 ⟨rfl,bL⟩)
  go_ret;exact⟨cY HF.out.symm,bL⟩):p:=x9
def pu (b off n cap:Nat)(f:Nat->Mv)(b' bH m cap':Nat)(t:Nat->Int)(w:ao)(hn:n<=1048576)(lw:m<=aL)(bN:b<w)(aB:aK w b off n f)(hf:∀i,i<n->(f i).Fits)(bz:b'<w)(aV:aD w b' bH m t):
  ay Tz.prog 60 #[ad (some ⟨b,off,none⟩) n cap,ad (some ⟨b',bH,none⟩) m cap'] w λe w'=>e=ac (er f n t m)/\aa w w w':=by
 unfold aL at lw;cases hm:aG f n with
 |false=>
  have HF:Hid (er f n t m=false):=iO hm;exact aci
 |true=>
  by_cases hlen:m=n
  .subst hlen;have HM:Hid (aG f m=true):=hm;have h6:=bX hm;go_enter Tz.func60,Tryz.ntmps60
   go_wp2_with(go_at_call 82;refine(sx _ _ _ _ f _ hn bN aB hf).mono ?_;rintro e w1 ⟨rfl,bL⟩)
   clear hm;go_loopw [5] (λi w'=>∃k:Nat,k<=m/\i=au .i64 k/\fX f t k/\aa w w w') (λi _=>m-(intOf i).toNat)
   .exact⟨0,afP _,rfl,yz f t,bL⟩
   obtain⟨k,hk,rfl,ju,hB⟩:=hrel;by_cases aF:k<m
   .have hr:=aB.below hB bN;have gh:=aV.below hB bz;let⟨c0,c1,c2,c3,c4,c5⟩:=hr k aF;have d0:=gh k aF;have oh:b<wr:=afL bN hB.size;have aaG:b'<wr:=afL bz hB.size;have dV:(k:Int)<m:=ab;have hne:=aM wr;have e3:=λx:an wr=>x.cell c3
    have e4:=λx:an wr=>x.cell c4
    have e5:=λx:an wr=>x.cell c5
    have e6:=λx:an wr=>x.cell d0
    have hss:=J6 (bd HM.out k aF)<|t k;cases hi:jj (t k) (f k).cE (f k).late with
    |false=>
     have HS:Hid ((f k).ga (t k)=false):=by rw[hss,hi];rfl
     clear hss;exact acg
    |true=>
     rcases Nf (f k).prom (t k)with⟨hp,PH⟩|⟨hp,PH⟩|hp
     .have SR:(f k).ga (t k)=false:=by rw[hss,hi,PH];simp[hp]
      have HS:Hid _:=SR;clear hss SR;exact acg
     all_goals
      have SR:(f k).ga (t k)=true:=by rw[hss,hi];first|(rw[PH];simp)|(simp;omega)
      have HS:Hid _:=SR;have vg:=yr HM.out aF SR;let⟨abg,abh⟩:=vg;clear hss SR;go_wp2;try have PS:decide (0<=(f k).prom)=false:=by(simp;omega)
      refine bf ?_;repeat(go_big_quiet_step ((go_at_call 59;exact cj<|P8 _ _ _ _)))
      refine ai<|cJ ?_;intro w2 dg;have qn:aa w w w2:=hB.trans<|dg.mono hB.size;go_wp2;go_loopw [6] (λi w'=>∃q:Nat,q<=k/\i=au .i64 q/\(∀p,p<q->(f p).iJ (f k) (t p) (t k)=false)/\aa w w w') (λi _=>k-(intOf i).toNat)
      case atStart=>exact⟨0,afP _,rfl,λp hp=>absurd hp<|afO _,qn⟩
      obtain⟨q,hq,rfl,kY,hB⟩:=hrel;by_cases E6:q<k
      .have hr:=aB.below hB bN;have gh:=aV.below hB bz;have xQ:=hr k aF;have hq0:=hr q ab;have hne:=aM wr;have a0:=λx:an wr=>x.cell xQ.c0
       have a1:=λx:an wr=>x.cell xQ.c1
       have a2:=λx:an wr=>x.cell xQ.c2
       have a3:=λx:an wr=>x.cell xQ.c3
       have a4:=λx:an wr=>x.cell xQ.c4
       have a5:=λx:an wr=>x.cell xQ.c5
       have b0:=λx:an wr=>x.cell hq0.c0
       have b1:=λx:an wr=>x.cell hq0.c1
       have b2:=λx:an wr=>x.cell hq0.c2
       have b3:=λx:an wr=>x.cell hq0.c3
       have b4:=λx:an wr=>x.cell hq0.c4
       have b5:=λx:an wr=>x.cell hq0.c5
       have d0:=λx:an wr=>x.cell<|gh k aF
       have d1:=λx:an wr=>x.cell<|gh q ab
       have hqm:q<m:=ab;have afb:(q:Int)<m:=ab;have aeR:(k:Int)<m:=ab;let⟨abi,abj⟩:=yr HM.out hqm<|ju.1 q E6;cases pI:(f q).iJ (f k) (t q) (t k)with
       |true=>
        go_wp2;refine bf ?_;repeat(go_big_quiet_step ((go_at_call 83;exact cj<|BY (f q) (f k) _ _ _ abi abj abg abh)))
        refine ai<|cJ ?_;intro w3 lu;go_wp2;go_ret;exact⟨cY (za E6 aF pI).symm,hB.trans<|lu.mono hB.size⟩
       |false=>
        go_wp2;refine bf ?_;repeat(go_big_quiet_step ((go_at_call 83;exact cj<|BY (f q) (f k) _ _ _ abi abj abg abh)))
        refine ai<|cJ ?_;intro w3 lu;go_wp2;go_roundw
        case rel=>exact⟨q+1,ab,by go_num,λp hp=>by
         by_cases e:p=q
         .subst e;exact pI
         .exact kY p ab,hB.trans (lu.mono hB.size)⟩
        case measure=>exact cD
      .go_wp2;go_roundw
       case rel=>exact⟨k+1,ab,by go_num,Ia ju HS.out λp hp=>kY p ab,hB⟩
       case measure=>exact cD
   .go_wp2;go_ret;exact⟨cY ((fN HM.out).mpr<|by rw[show m=k by omega];exact ju).symm,hB⟩
  .have HF:Hid (er f n t m=false):=ri hlen;have mF:((m:Int)!=n)=true:=dj;exact aci
section
attribute [local go_sem] Oper.semAt_some
abbrev R8 n:={p:Nat×Nat // p.1<p.2/\p.2<n}
abbrev R8.cG {n}(x:R8 n):Array Value:=#[au .i64 x.1.1,au .i64 x.1.2]
def Yd n (xs:List (R8 n)):Prop:=∀i j (h:i<j/\j<n),(⟨(i,j),h⟩:R8 n)∈xs
def CR (n:Int)(w):
  ay Tz.prog 105 #[n] w λe w'=>e=ac (.func (.func 139) #[] #[.pointer w])/\w'=w.alloc (.cells #[n] 3):=by
 go_enter Tz.func105,Tryz.ntmps105
 go_wp2;go_ret;simp
def wV m (Bn Eu n:Nat)(w:ao)(hn:n<=1048576)(Sj:Bn<Eu)(aep:Eu<=w)(hc:w.cell? Bn=some (au .i64 (n:Int))):
  SeqStopsK Fence.wide m Tz.prog 139 #[.pointer Bn] (R8.cG (n:=n)) (aa Eu) (Yd n) (λ_=>True) (n*n) w:=λl J Jx W hW _ _ hY h0=>by
 have hcW:W.cell? Bn=some (au .i64 (n:Int)):=(hW.cell (p:=Bn) dj).trans hc;refine callsIn_of_wp Tz.func139 rfl trivial ?_ rfl;simp only[Tryz.ntmps139,be,bj,bm,bo,bp,a6,a7,bi,a8,bn,bk];gi_wp2
 gi_loopw [6] (λi wr=>∃(k:Nat) (pre:List (R8 n)),k<=n/\i=au .i64 k/\pre.length<=k*n/\(∀i j (h:i<j/\j<n),i<k->(⟨(i,j),h⟩:R8 n)∈pre)/\wr.cell? ⟨Bn,0,none⟩=some (au .i64 (n:Int))/\J pre wr)
  (λi _=>n-(intOf i).toNat)
 case atStart=>exact⟨0,[],afP _,rfl,aP,λi j h hi=>absurd hi<|afO _,hcW,h0⟩
 case round=>
  clear hcW h0;obtain⟨k,pre,hk,rfl,hlen,dw,Uc,hJ⟩:=hrel;by_cases aF:k<n
  .gi_wp2
   gi_loopw [4] (λi wr=>∃(q:Nat) (pre:List (R8 n)),k<q/\q<=n/\i=au .i64 q/\pre.length<=k*n+q/\(∀i j (h:i<j/\j<n),(i<k\/i=k/\j<q)->(⟨(i,j),h⟩:R8 n)∈pre)/\wr.cell? ⟨Bn,0,none⟩=some (au .i64 (n:Int))/\J pre wr)
    (λi _=>n-(intOf i).toNat)
   case atStart=>exact⟨k+1,pre,by omega,by omega,by go_num,by omega,λi j h hi=>dw i j h<|by omega,Uc,hJ⟩
   case round=>
    clear hlen dw Uc hJ;obtain⟨q,pre,hkq,hq,rfl,hlen,dw,Uc,hJ⟩:=hrel;by_cases E6:q<n
    .have hN:pre.length<n*n:=by
      have h1:(k+1)*n<=n*n:=Nat.mul_le_mul_right n aF;have h2:(k+1)*n=k*n+n:=bt k n;omega
     let⟨fn,tmps,assign,body,hy,hR⟩:=hY pre ⟨(k,q),hkq,E6⟩ wr hJ hN;dsimp only[R8.cG]at hy;gi_wp2
     refine⟨λh=>(by simp[Fence.wide]at h),hR.mono ?_⟩;rintro e W3 (⟨rfl,hJ3,Zr⟩|⟨rfl,ac8⟩)
     .have Wz:W3.cell? Bn=some (au .i64 (n:Int)):=(Zr.cell Sj).trans Uc;gi_wp2
      go_roundw
      case rel=>exact⟨q+1,pre++[⟨(k,q),hkq,E6⟩],ab,ab,by go_num,dj,λi j h hi=>by
       by_cases e:i=k/\j=q
       .obtain⟨rfl,rfl⟩:=e;exact List.mem_append_right _ aP
       .exact List.mem_append_left _ (dw i j h ab),Wz,hJ3⟩
      exact cD
     .gi_wp2
      exact bF (results_none rfl _ _ _) rfl<|⟨⟨_,rfl⟩,.inr ⟨_,trivial,ac8⟩⟩
    .gi_wp2
     go_roundw
     case rel=>exact⟨k+1,pre,ab,by go_num,by
      have h2:(k+1)*n=k*n+n:=bt k n;omega,λi j h hi=>dw i j h ab,Uc,hJ⟩
     exact cD
  gi_wp2
  go_end0
  exact⟨⟨_,rfl⟩,.inl ⟨pre,λi j h=>dw i j h ab,hJ⟩⟩
end
section
attribute [local go_sem] Oper.semAt_some
set_option linter.unusedVariables false
def ab7 (x9:p:=by
  go_enter Tz.func78,Tryz.ntmps78
  go_wp2_with(go_at_call 103;refine(iu _ _ _ _ f _ hn dj<|aB.below (oN _ _ _) bN).mono ?_;rintro e w1 ⟨rfl,bL⟩;let⟨ng,ue⟩:=mJ bL)
  have hz:=bL.size;simp at hz;exact bodyPost_ret (by simp[results,go_sem,ng]) rfl ⟨cY HF.out.symm,((oN _ _ _).trans<|bL.mono (oN _ _ _).size).setCell dj _⟩):p:=x9
def zB (b off n cap:Nat)(f a' m cap' t)(w:ao)(hn:n<=1048576)(x:m<=aL)(bN:b<w)(aB:aK w b off n f)(h:aG f n=false\/m≠n):
  ay Tz.prog 78 #[ad (some ⟨b,off,none⟩) n cap,ad a' m cap'] w λe w'=>e=ac (er f n t m)/\aa w w w':=by
 unfold aL at x;have oN:∀s u v,aa w w (((w.alloc s).alloc u).alloc v):=λs u v=>(((afB _ w).alloc ab _).alloc aP _).alloc dj _
 have r:er f n t m=false:=by rcases h with h|h;exact iO h;exact ri h
 have HF:Hid (er f n t m=false):=r;cases hm:aG f n with
 |false=>
  exact ab7
 |true=>
  have y:m≠n:=by rcases h with h|h;rw[hm]at h;cases h;exact h
  have A:((m:Int)!=n)=true:=dj;exact ab7
abbrev dL (w:ao)(m:Mv):World:=w.alloc<|.cells #[m.name,m.ax,m.aI,m.cE,m.late,m.prom] 55
def qu (b off n cap:Nat)(f r s m cap' t)(w:ao)(u:n<=1048576)(v:m<=aL)(x:b<w)(y:aK w b off n f)(h:aG f n=false\/m≠n):
  ay Tz.prog 78 #[ad (some ⟨b,off,none⟩) n cap,ad (some ⟨r,s,none⟩) m cap'] w λe w'=>e=ac (er f n t m)/\aa w w w':=
 zB b off n cap f _ m cap' t w u v x y h
def lP (w m):xB (dL w m) w 0 m:=by
 constructor<;>simp[dL]
def gG (w:ao)(m):aa w w (dL w m):=(afB _ _).alloc (afK _) _
def uo (b off n cap:Nat)(f)(u y cap':Nat)(t)(w:ao)(hn:n<=1048576)(J:b<w)(N:aK w b off n f)(bz:u<w)(aV:aD w u y n t)(hm:aG f n)(kY:¬∀i,i<n->(f i).ga (t i)):
  ay Tz.prog 78 #[ad (some ⟨b,off,none⟩) n cap,ad (some ⟨u,y,none⟩) n cap'] w λe w'=>e=ac (er f n t n)/\aa w w w':=by
 have A:∀O R T,aa w w (((w.alloc O).alloc R).alloc T):=λO R T=>(((afB _ w).alloc ab _).alloc aP _).alloc dj _
 go_enter Tz.func78,Tryz.ntmps78
 go_wp2_with(go_at_call 103;refine(iu _ _ _ _ f _ hn dj<|N.below (A _ _ _) J).mono ?_;rintro e r ⟨rfl,B⟩;let⟨C,ue⟩:=mJ B)
 have hz:=B.size;simp at hz;have U:aa w w r:=(A _ _ _).trans<|B.mono (A _ _ _).size;have l0:r.cell? w.heap.size=some (ad (some ⟨b,off,none⟩) n cap):=by rw[C w.heap.size 0 dj];simp[go_sem]
 have l1:r.cell? ⟨w.heap.size+1,0,none⟩=some (ad (some ⟨u,y,none⟩) n cap'):=by rw[C (w.heap.size+1) 0 aP];simp[go_sem]
 have l2:r.cell? ⟨w.heap.size+1+1,0,none⟩=some (bv false):=by rw[C (w.heap.size+1+1) 0 aP];simp[go_sem]
 have l3:r.frozen? ⟨w.heap.size+1+1,0,none⟩=false:=by rw[ue (w.heap.size+1+1) 0 aP];simp[go_sem]
 go_loopw [21] (λi wr=>∃k:Nat,k<=n/\i=au .i64 k/\(∀j,j<k->(f j).ga (t j)=true)/\aa r r wr) (λi _=>n-(intOf i).toNat)
 .exact⟨0,afP _,rfl,λj Y=>absurd Y ab,afB _ _⟩
 obtain⟨k,hk,rfl,Z,hB⟩:=hrel;by_cases D:k<n
 .have v:aa w w wr:=U.trans<|hB.mono U.size;have hr:=N.below v J k D;have gh:=aV.below v bz k D;let⟨c0,c1,c2,c3,c4,c5⟩:=hr;have ax:r.heap.size<=wr:=hB.size;have dV:(k:Int)<n:=ab;have hA:=gG wr<|f k;have s:=lP wr<|f k;have aI:=aM<|dL wr<|f k;have e0:=λx:an (dL wr<|f k)=>x.cell s.c0
  have e1:=λx:an (dL wr<|f k)=>x.cell s.c1
  have e2:=λx:an (dL wr<|f k)=>x.cell s.c2
  have e3:=λx:an (dL wr<|f k)=>x.cell s.c3
  have e4:=λx:an (dL wr<|f k)=>x.cell s.c4
  have e5:=λx:an (dL wr<|f k)=>x.cell s.c5
  have e6:=λx:an (dL wr<|f k)=>x.cell<|(hA.cell dj).trans<|(hB.cell dj).trans l1
  have e7:=λx:an (dL wr<|f k)=>x.cell<|(hA.cell dj).trans gh
  simp[av]at e0 e1 e2 e3 e4 e5;cases hs:(f k).ga (t k)with
  |true=>
   have HS:Hid _:=hs;go_wp2;refine bf ?_;repeat(go_big_quiet_step ((go_at_call 104;exact cj<|vW (f k) _ _)))
   refine ai<|cJ ?_;intro w2 dg;go_wp2;go_roundw
   case rel=>exact⟨k+1,ab,by go_num,λj Y=>by
    by_cases e:j=k
    .subst e;exact HS.out
    .exact Z j ab,hB.trans ((hA.trans<|dg.mono hA.size).mono hB.size)⟩
   exact cD
  |false=>
   have HF:Hid (er f n t n=false):=zc D hs;go_wp2;refine bf ?_;repeat(go_big_quiet_step ((go_at_call 104;exact cj<|vW (f k) _ _)))
   refine ai<|cJ ?_;intro w2 dg;have hq:aa wr wr w2:=hA.trans<|dg.mono hA.size;have n2:=(hq.cell dj).trans<|(hB.cell dj).trans l2;have n3:=(hq.frozen dj).trans<|(hB.frozen dj).trans l3;go_wp2;exact bF (by simp[bI,Tryz.results78,go_sem,n2]) rfl ⟨cY HF.out.symm,(v.trans<|hq.mono v.size).setCell dj _⟩
 exact absurd (λi hi=>Z i ab) kY
end
def JH {a b c d:Int}(h:a=c)(e:b=d):ac (bB #[a,b])=ac (bB #[c,d]):=by rw[h,e]
def gb (f:Nat->Mv)(t:Nat->Int)(n:Nat):Prop:=∀j,j<n->0<=(f j).cE/\(f j).cE<=t j/\t j<=10000
def gb.sum (h:gb f t n) i (r:i<=n):0<=sumTo f t i/\sumTo f t i<=10000*i/\0<=cZ f t i/\cZ f t i<=10000:=
 Hj i λj s=>by have:=h j ab;omega
def gb.fits (s:aG f n)(h:fX f t n):gb f t n:=λj r=>by
 have u:=Mv.gj<|bd s j r;have v:=iA<|h.1 j r;omega
def lh (b off n cap:Nat)(f)(r v m cap':Nat)(t)(w:ao)(h6:n<=6)(A5:n<=m)(A:b<w)(B:aK w b off n f)(C:r<w)(D:aD w r v n t)(y:gb f t n):
  ay Tz.prog 65 #[ad (some ⟨b,off,none⟩) n cap,ad (some ⟨r,v,none⟩) m cap'] w λe w'=>e=ac (bB #[au .i64<|sumTo f t n,au .i64<|cZ f t n])/\aa w w w':=by
 go_enter Tz.func65,Tryz.ntmps65
 go_wp2;go_loopw [6,7,8] (λs z i w'=>∃k:Nat,k<=n/\i=au .i64 k/\s=au .i64 (sumTo f t k)/\z=au .i64 (cZ f t k)/\aa w w w') (λ_ _ i _=>n-(intOf i).toNat)
 .exact⟨0,afP _,rfl,rfl,rfl,afB _ _⟩
 obtain⟨k,hk,rfl,rfl,rfl,hB⟩:=hrel;by_cases u:k<n
 .have J:=B.below hB A k u;have N:=D.below hB C k u;have dV:(k:Int)<n:=ab;have O:(k:Int)<m:=ab;let⟨s0,s1,z0,z1⟩:=y.sum k hk;have xx:=y k u;have R:Hid (sumTo f t (k+1)=sumTo f t k+(t k-(f k).cE)):=rfl;have T:Hid (cZ f t (k+1)=if cZ f t k<t k-(f k).cE then t k-(f k).cE else cZ f t k):=rfl;have U:=aM wr;have e3:=λx:an wr=>x.cell J.c3
  have e6:=λx:an wr=>x.cell N
  go_wp2;refine nl ?_;intro w1 Y;by_cases Z:cZ f t k<t k-(f k).cE;all_goals
   go_wp2;go_roundw
   .exact⟨k+1,ab,by go_num,by rw[R.out],by rw[T.out];first|rw[if_pos Z]|rw[if_neg ab],hB.trans<|Y.mono hB.size⟩
   exact cD
 have tM:k=n:=by omega
 subst tM;go_wp2;go_ret2
 simp_all
def uq (b off n cap:Nat)(f)(r y m cap':Nat)(t)(w:ao)(h6:n<=6)(A5:n<=m)(C:b<w)(D:aK w b off n f)(A:r<w)(J:aD w r y n t)(B:gb f t n):
  ay Tz.prog 79 #[ad (some ⟨b,off,none⟩) n cap,ad (some ⟨r,y,none⟩) m cap'] w λe w'=>e=ac (bB #[au .i64<|sumTo f t n,au .i64<|cZ f t n])/\aa w w w':=by
 go_enter Tz.func79,Tryz.ntmps79
 go_wp2;go_loopw [6,7,13] (λs z i w'=>∃k:Nat,k<=n/\i=au .i64 k/\s=au .i64 (sumTo f t k)/\z=au .i64 (cZ f t k)/\aa w w w') (λ_ _ i _=>n-(intOf i).toNat)
 .exact⟨0,afP _,rfl,rfl,rfl,afB _ _⟩
 obtain⟨k,hk,rfl,rfl,rfl,hB⟩:=hrel;by_cases u:k<n
 .have N:=D.below hB C k u;have O:=J.below hB A k u;let⟨c0,c1,c2,c3,c4,c5⟩:=N;have dV:(k:Int)<n:=ab;have R:(k:Int)<m:=ab;have v:r<wr:=afL A hB.size;let⟨s0,s1,z0,z1⟩:=B.sum k hk;let⟨x0,x1,x2⟩:=B k u;have T:Hid (sumTo f t (k+1)=sumTo f t k+(t k-(f k).cE)):=rfl;have U:Hid (cZ f t (k+1)=if cZ f t k<t k-(f k).cE then t k-(f k).cE else cZ f t k):=rfl;have hA:=gG wr<|f k;have Y:=lP wr<|f k;have Z:=aM<|dL wr<|f k;have e3:=λx:an (dL wr<|f k)=>x.cell Y.c3
  have e6:=λx:an (dL wr<|f k)=>x.cell<|(hA.cell v).trans O
  simp[av]at e3;go_wp2;refine nl ?_;intro w1 bL;have hq:aa wr wr w1:=hA.trans<|bL.mono hA.size;by_cases Zo:cZ f t k<t k-(f k).cE;all_goals
   go_wp2;go_roundw
   .exact⟨k+1,ab,by go_num,by rw[T.out],by rw[U.out];first|rw[if_pos Zo]|rw[if_neg ab],hB.trans<|hq.mono hB.size⟩
   exact cD
 have tM:k=n:=by omega
 subst tM;go_wp2;go_ret2
 simp_all
section
attribute [local go_sem] Oper.semAt_some
set_option linter.unusedVariables false
def Qg {W W':ao}(h:aa W W W') B:KeepsFrom B W W':=
 ⟨h.size,λk o _ hk _=>(h.block k (afM.1 hk).1).trans hk⟩
def xL (b off n cap:Nat)(f:Nat->Mv)(b' bH cap':Nat)(t:Nat->Int)(w:ao)(bN:b<w)(aB:aK w b off n f)(bz:b'<w)(aV:aD w b' bH n t)(hm:aG f n)(dw:∀i,i<n->(f i).ga (t i)):
  ay Tz.prog 78 #[ad (some ⟨b,off,none⟩) n cap,ad (some ⟨b',bH,none⟩) n cap'] w λe w'=>e=ac (er f n t n)/\aa w w w':=by
 have h6:=bX hm;have hn:n<=1048576:=ab;have HM:Hid _:=hm;have oN:∀o1 o2 o3,aa w w (((w.alloc o1).alloc o2).alloc o3):=λo1 o2 o3=>(((afB _ w).alloc (afK _) _).alloc aP _).alloc dj _
 refine(bb (n:=9)).1 ?_;refine callsIn_of_wp_marks Tz.func78 rfl trivial ?_ rfl;simp[Tryz.ntmps78,be,bj,bm,bo,bp,a6,a7,bi,a8,bn,bk];gi_wp2_with (refine⟨trivial,?_⟩;gi_at_call 103;refine(bb.2<|iu _ _ _ _ f _ hn dj<|aB.below (oN _ _ _) bN).mono ?_;rintro e w1 ⟨rfl,bL⟩;let⟨ng,ue⟩:=mJ bL)
 have hz:=bL.size;simp at hz;have jU:aa w w w1:=(oN _ _ _).trans<|bL.mono (oN _ _ _).size;have l0:w1.cell? w.heap.size=some (ad (some ⟨b,off,none⟩) n cap):=by rw[ng w.heap.size 0 dj];simp[go_sem]
 have l1:w1.cell? ⟨w.heap.size+1,0,none⟩=some (ad (some ⟨b',bH,none⟩) n cap'):=by rw[ng (w.heap.size+1) 0 aP];simp[go_sem]
 have l2:w1.cell? ⟨w.heap.size+1+1,0,none⟩=some (bv false):=by rw[ng (w.heap.size+1+1) 0 aP];simp[go_sem]
 have l3:w1.frozen? ⟨w.heap.size+1+1,0,none⟩=false:=by rw[ue (w.heap.size+1+1) 0 aP];simp[go_sem]
 clear ng ue bL;gi_loopw [21] (λi wr=>∃k:Nat,k<=n/\i=au .i64 k/\aa w1 w1 wr) (λi _=>n-(intOf i).toNat)
 case atStart=>exact⟨0,afP _,rfl,afB _ _⟩
 obtain⟨k,hk,rfl,hB⟩:=hrel;have iY:aa w w wr:=jU.trans<|hB.mono jU.size;have hzr:w1.heap.size<=wr:=hB.size;by_cases aF:k<n
 .have hr:=aB.below iY bN k aF;have gh:=aV.below iY bz k aF;let⟨c0,c1,c2,c3,c4,c5⟩:=hr;have dV:(k:Int)<n:=ab;have hA:=gG wr<|f k;have hM:=lP wr<|f k;have hne:=aM<|dL wr<|f k;have e0:=λx:an (dL wr<|f k)=>x.cell hM.c0
  have e1:=λx:an (dL wr<|f k)=>x.cell hM.c1
  have e2:=λx:an (dL wr<|f k)=>x.cell hM.c2
  have e3:=λx:an (dL wr<|f k)=>x.cell hM.c3
  have e4:=λx:an (dL wr<|f k)=>x.cell hM.c4
  have e5:=λx:an (dL wr<|f k)=>x.cell hM.c5
  have e6:=λx:an (dL wr<|f k)=>x.cell<|(hA.cell dj).trans<|(hB.cell dj).trans l1
  have e7:=λx:an (dL wr<|f k)=>x.cell<|(hA.cell dj).trans gh
  simp[av]at e0 e1 e2 e3 e4 e5;have hs:=dw k aF;gi_wp2
  refine nY (MR _) aO aO aO ?_;repeat(go_big_quiet_step ((go_at_call 104;exact cj<|vW (f k) _ _)))
  refine ai<|cJ ?_;intro w2 dg;gi_wp2
  go_roundw
  case rel=>exact⟨k+1,ab,by go_num,hB.trans<|(hA.trans<|dg.mono hA.size).mono hB.size⟩
  exact cD
 have m0:wr.cell? w.heap.size=some (ad (some ⟨b,off,none⟩) n cap):=(hB.cell dj).trans l0;gi_wp2_with (refine⟨trivial,?_⟩;gi_at_call 105;refine(bb.2<|CR _ _).mono ?_;rintro e w' ⟨rfl,rfl⟩)
 obtain⟨WL,Pw⟩:∃WL,wr.alloc (.cells #[au .i64 (n:Int)] 3)=WL:=⟨_,rfl⟩;have hL:aa wr wr WL:=Pw▸(afB _ _).alloc ab _;have hzL:WL.heap.size=wr.heap.size+1:=by rw[<-Pw];simp
 have hcL:WL.cell? wr.heap.size=some (au .i64 (n:Int)):=by rw[<-Pw];simp
 rw[Pw];clear Pw;have YX:aa w w WL:=iY.trans<|hL.mono iY.size;have p0:=(hL.cell dj).trans m0;have p1:=(hL.cell dj).trans<|(hB.cell (p:=⟨w.heap.size+1,0,none⟩) dj).trans l1;have p2:=(hL.cell dj).trans<|(hB.cell dj).trans l2;have p3:=(hL.frozen dj).trans<|(hB.frozen dj).trans l3;refine wpIn_rangeFunc_ownG rfl ab rfl trivial (enters_of Tz.func139 aO rfl)
  (wV _ wr.heap.size WL.heap.size n WL hn ab ab hcL) belowK_t (belowK_b ab) (afB _ _) (λ_=>rfl)
  (λpre W=>(∀x∈pre,(f x.1.1).iJ (f x.1.2) (t x.1.1) (t x.1.2)=false)/\aa WL WL W)
  (λc pre W=>(c=.ret/\er f n t n=false)/\(W.cell? ⟨w.heap.size+1+1,0,none⟩=some (bv false)/\W.frozen? ⟨w.heap.size+1+1,0,none⟩=false)/\aa w w W)
  (OwnFrom.and (bO _ _) (ownFrom_below ab ab))
  (λc=>OwnFrom.and (bO _ λ_=>c=.ret/\er f n t n=false)<|OwnFrom.and (Own.from (λs A B row hs hg hr=>⟨br hs.1 hg hr,(frozen_kept hs.1 hg hr).trans hs.2⟩) _)<|ownFrom_below ab ab)
  ⟨λx hx=>by simp at hx,afB _ _⟩
  ?a1 ?assign ?body ?done ?stop
 case assign=>
  intro l x W K hK;gi_wp2
  exact hK
 case body=>
  rintro l pre ⟨⟨i,j⟩,mz,Of⟩ W ⟨Eb,E0⟩ _;dsimp only at mz Of;have E1:aa w w W:=YX.trans<|E0.mono YX.size;have jq:i<n:=ab;have ads:(i:Int)<n:=ab;have aeQ:(j:Int)<n:=ab;have I4:=aB.below E1 bN i jq;have hrj:=aB.below E1 bN j Of;have hti:=aV.below E1 bz i jq;have htj:=aV.below E1 bz j Of;let⟨ti0,ti1⟩:=yr HM.out jq<|dw i jq;let⟨tj0,tj1⟩:=yr HM.out Of<|dw j Of;have hne:=aM W;have q0:=λx:an W=>x.cell<|(E0.cell dj).trans p0
  have q1:=λx:an W=>x.cell<|(E0.cell dj).trans p1
  have a0:=λx:an W=>x.cell I4.c0
  have a1:=λx:an W=>x.cell I4.c1
  have a2:=λx:an W=>x.cell I4.c2
  have a3:=λx:an W=>x.cell I4.c3
  have a4:=λx:an W=>x.cell I4.c4
  have a5:=λx:an W=>x.cell I4.c5
  have b0:=λx:an W=>x.cell hrj.c0
  have b1:=λx:an W=>x.cell hrj.c1
  have b2:=λx:an W=>x.cell hrj.c2
  have b3:=λx:an W=>x.cell hrj.c3
  have b4:=λx:an W=>x.cell hrj.c4
  have b5:=λx:an W=>x.cell hrj.c5
  have d0:=λx:an W=>x.cell hti
  have d1:=λx:an W=>x.cell htj
  have ZI:=E0.size;have p2W:=(E0.cell dj).trans p2;have p3W:=(E0.frozen dj).trans p3;cases pI:(f i).iJ (f j) (t i) (t j)with
  |true=>
   have HF:Hid (er f n t n=false):=za mz Of pI;gi_wp2
   refine nY (pc _ _) aO aO aO ?_;repeat(go_big_quiet_step ((go_at_call 106;exact cj<|Gq (f i) (f j) _ _ _ ti0 ti1 tj0 tj1)))
   refine ai<|cJ ?_;intro w2 dg;have n2:=(dg.cell dj).trans p2W;have n3:=(dg.frozen dj).trans p3W;simp[pI];gi_wp2
   exact⟨(Qg dg _).trans ((KeepsOthers.setCell _ _ _).from _),⟨rfl,HF.out⟩,⟨aE _ _ _ (by rw[n2];rfl),by rw[World.frozen?_setCell];exact n3⟩,(E1.trans<|dg.mono E1.size).setCell dj _⟩
  |false=>
   have HN:Hid _:=pI;gi_wp2
   refine nY (pc _ _) aO aO aO ?_;repeat(go_big_quiet_step ((go_at_call 106;exact cj<|Gq (f i) (f j) _ _ _ ti0 ti1 tj0 tj1)))
   refine ai<|cJ ?_;intro w2 dg;simp only[pI];gi_wp2
   refine⟨Qg dg _,dg.mono ZI,?_,E0.trans<|dg.mono ZI⟩;intro x hx;rcases agb.1 hx with h|h
   .exact Eb x h
   simp at h;subst h;exact HN.out
 case done=>
  rintro D xs W hD hS ⟨Eb,E0⟩ hK;have ju:er f n t n=true:=(fN HM.out).mpr ⟨dw,λj k hk hj=>Eb _<|hS k j ⟨hk,hj⟩⟩;have HF:Hid _:=ju;clear ju;have E1:aa w w W:=YX.trans<|E0.mono YX.size;have p2W:=(E0.cell (p:=⟨w.heap.size+1+1,0,none⟩) dj).trans p2;have p3W:=(E0.frozen (p:=⟨w.heap.size+1+1,0,none⟩) dj).trans p3;gi_wp2
  have hK':=(KeepsOthers.setCell W ⟨w.heap.size+1+1,0,none⟩ true).same D _ hK rfl;refine⟨aP,.inl ⟨_,_,rfl,bs hK',?_⟩⟩;have hc5:=br (aE W ⟨w.heap.size+1+1,0,none⟩ true<|by rw[p2W];rfl) (bE _ D<|.deferred none) (λr e=>by cases e;exact⟨_,hK',rfl⟩);refine⟨bv true,?_,by rw[HF.out],(E1.setCell dj _).trans<|belowK_b (w:=w) (afK _) _ D _ _ ab hK' rfl rfl⟩;simp[bI,Tryz.f78,go_sem,hc5]
 case stop=>
  rintro D c pre W hD _ ⟨⟨rfl,hF⟩,⟨Uc,jB⟩,E0⟩ hK;have HF:Hid _:=hF;clear hF;gi_wp2
  refine⟨aP,.inl ⟨_,_,rfl,bs hK,?_⟩⟩;have hc5:=br Uc (bE _ D<|.deferred none) (λr e=>by cases e;exact⟨_,hK,rfl⟩);refine⟨bv false,?_,by rw[HF.out],E0.trans<|belowK_b (w:=w) (afK _) W D _ _ ab hK rfl rfl⟩;simp[bI,Tryz.f78,go_sem,hc5]
def oR (b off n cap:Nat)(f)(r s m cap':Nat)(t)(w:ao)(x:n<=1048576)(y:m<=aL)(u:b<w)(v:aK w b off n f)(A:r<w)(B:aD w r s m t):
  ay Tz.prog 78 #[ad (some ⟨b,off,none⟩) n cap,ad (some ⟨r,s,none⟩) m cap'] w λe w'=>e=ac (er f n t m)/\aa w w w':=by
 by_cases C:m=n
 .subst C;cases hm:aG f m with
  |false=>exact qu b off m cap f r s m cap' t w x y u v (.inl hm)
  |true=>
   exact if D:∀i,i<m->(f i).ga (t i)=true then xL b off m cap f r s cap' t w u v A B hm D else uo b off m cap f r s cap' t w x u v A B hm D
 exact qu b off n cap f r s m cap' t w x y u v<|.inr C
end
section
section
variable {m:Nat}
def fU (now:Int)(m:Mv)(t:Int):Bool:=!(decide (t<now)||decide (t<now+4)&&m.prom==-1)
def mW (now:Int)(f:Nat->Mv)(t:Nat->Int)(n:Nat):Bool:=(List.range n).all λi=>fU now (f i)<|t i
def aY (now shift:Int)(f:Nat->Mv)(n:Nat)(t:Nat->Int)(m:Nat):Bool:=jj now 0 10000&&jj shift 0 6&&er f n t m&&mW now f t n
def qQ {i}(s:i<n)(h:fU now (f i) (t i)=false):mW now f t n=false:=by
 rw[Bool.eq_false_iff];intro r;unfold mW at r;grind
def vN (h:∀i,i<n->fU now (f i) (t i)):mW now f t n:=by
 unfold mW;grind
theorem sI (h:er f n t m=false):aY now shift f n t m=false:=by unfold aY;simp[h]
def Cb (h:jj now 0 10000=false):aY now shift f n t m=false:=by unfold aY;simp[h]
def wo (h:jj shift 0 6=false):aY now shift f n t m=false:=by unfold aY;simp[h]
def oB (h:mW now f t n=false):aY now shift f n t m=false:=by unfold aY;simp[h]
def qZ (r:jj now 0 10000)(s:jj shift 0 6)(u:er f n t m)(v:mW now f t n):aY now shift f n t m:=by unfold aY;simp[r,s,u,v]
def oJ (h:er f n t m):aG f n/\m=n/\fX f t n:=by
 have r:aG f n=true:=by
  grind [iO]
 have s:m=n:=by
  grind [ri]
 subst s;exact⟨r,rfl,(fN r).mp h⟩
def eJ {n a b}:jj n a b<->a<=n/\n<=b:=by unfold jj;simp
end
abbrev Fm (w:ao)(now shift:Int)(a:Option a9)(n cap:Nat)(a':Option a9)(m cap':Nat):World:=w.alloc<|.cells #[now,shift,ad a n cap,ad a' m cap'] 29
structure sF (w:ao)(B:Nat)(now shift a n cap a' m cap'):Prop where
 c0:w.cell? B=some (au .i64 now)
 c1:w.cell? ⟨B,1,none⟩=some (au .i64 shift)
 c2:w.cell? ⟨B,2,none⟩=some (ad a n cap)
 c3:w.cell? ⟨B,3,none⟩=some (ad a' m cap')
def qh (w now shift a n cap a' m cap'):sF (Fm w now shift a n cap a' m cap') w now shift a n cap a' m cap':=by
 constructor<;>simp[Fm]
def sF.below {N B w w' a cap a' m cap'}(h:sF w B now shift a n cap a' m cap')(b:aa N w w')(c:B<N):sF w' B now shift a n cap a' m cap':=
 ⟨(b.cell c).trans h.c0,(b.cell c).trans h.c1,(b.cell c).trans h.c2,(b.cell c).trans h.c3⟩
def kv (w:ao)(now shift a n cap a' m cap'):aa w w (Fm w now shift a n cap a' m cap'):=(afB _ _).alloc (afK _) _
def C7 now  t (a:m.ok):
  (fU now m t=false/\decide (t<now))\/(fU now m t/\decide (t<now)=false/\decide (t<now+4)=false)
  \/(fU now m t=false/\decide (t<now)=false/\decide (t<now+4)/\m.prom=-1)\/(fU now m t/\decide (t<now)=false/\decide (t<now+4)/\0<=m.prom):=by
 have b:=Mv.gj a;grind [fU]
def acj (x9:p:=by
  have HB:Hid (aY now shift f m t m=true):=by
   have h:aY now shift f m t m=true:=HY.out<|vN λi hi=>dw i ab;exact h
  go_wp2;go_ret;exact⟨cY HB.out.symm,iY⟩):p:=x9
def ack (x9:p:=by
  go_enter Tz.func34,Tryz.ntmps34
  go_wp2_with(go_at_call 59;refine(gL _ _ _ _).mono ?_;rintro e w' ⟨rfl,rfl⟩)
  go_ret;exact⟨cY HB.out.symm,bA⟩):p:=x9
def XJ (x9:p:=by
  refine nl ?_;intro w2 dg;go_wp2;go_ret;exact⟨cY HB.out.symm,iY.trans<|dg.mono iY.size⟩):p:=x9
def XQ (x9:p:=by
  have h:mW now f t m=true->aY now shift f m t m=true:=λh4=>qZ h1 h2 h3 h4
  exact h):p:=x9
def uS (now shift:Int)(b off n cap:Nat)(f:Nat->Mv)(b' bH m cap':Nat)(t:Nat->Int)(w:ao)(hn:n<=1048576)(lw:m<=aL)(bN:b<w)(aB:aK w b off n f)(hf:∀i,i<n->(f i).Fits)(bz:b'<w)(aV:aD w b' bH m t):
  ay Tz.prog 34 #[.agg #[now,shift,ad (some ⟨b,off,none⟩) n cap,ad (some ⟨b',bH,none⟩) m cap']] w λe w'=>e=ac (aY now shift f n t m)/\aa w w w':=by
 have bA:=kv w now shift (some ⟨b,off,none⟩) n cap (some ⟨b',bH,none⟩) m cap';have hA:=qh w now shift (some ⟨b,off,none⟩) n cap (some ⟨b',bH,none⟩) m cap';have H1:=pu b off n cap f b' bH m cap' t _ hn lw (afL bN bA.size) (aB.below bA bN) hf (afL bz bA.size)<|aV.below bA bz;cases h1:jj now 0 10000 with
 |false=>
  have HB:Hid (aY now shift f n t m=false):=Cb h1;exact ack
 |true=>
  cases h2:jj shift 0 6 with
  |false=>
   have HB:Hid (aY now shift f n t m=false):=wo h2;exact ack
  |true=>
   cases h3:er f n t m with
   |false=>
    have HB:Hid (aY now shift f n t m=false):=sI h3;rw[h3]at H1;go_enter Tz.func34,Tryz.ntmps34
    go_wp2_with(first|(go_at_call 59;refine(gL _ _ _ _).mono ?_;rintro e w' ⟨rfl,rfl⟩)|(go_at_call 60;refine H1.mono ?_;clear H1;rintro e w1 ⟨rfl,b1⟩))
    go_ret;exact⟨cY HB.out.symm,bA.trans<|b1.mono bA.size⟩
   |true=>
    obtain⟨hm,rfl,ju⟩:=oJ h3;have h6:=bX hm;have HM:Hid (aG f m=true):=hm;have HY:Hid (mW now f t m=true->aY now shift f m t m=true):=by
     exact XQ
    have D7:=eJ.mp h1;have H5:IntKind.i64.wrap (now+4)=now+4:=kw;rw[h3]at H1;clear hm ju;go_enter Tz.func34,Tryz.ntmps34
    go_wp2_with(first|(go_at_call 59;refine(gL _ _ _ _).mono ?_;rintro e w' ⟨rfl,rfl⟩)|(go_at_call 60;refine H1.mono ?_;clear H1;rintro e w1 ⟨rfl,b1⟩))
    have jU:aa w w w1:=bA.trans<|b1.mono bA.size;have eO:w.heap.size<w1:=afL aP b1.size;have Wl:=hA.below b1 aP;clear hA b1;go_loopw [3] (λx wr=>∃k:Nat,k<=m/\x=au .i64 k/\(∀j,j<k->fU now (f j) (t j)=true)/\aa w1 w1 wr) (λx _=>m-(intOf x).toNat)
    case atStart=>exact⟨0,afP _,rfl,λj hj=>absurd hj<|afO _,afB _ _⟩
    obtain⟨k,hk,rfl,dw,hB⟩:=hrel;have iY:aa w w wr:=jU.trans<|hB.mono jU.size;let⟨a0,a1,a2,a3⟩:=Wl.below hB eO;by_cases aF:k<m
    .have dV:(k:Int)<m:=by omega
     have gh:=aV.below iY bz k aF;have hr:=aB.below iY bN k aF;have hne:=aM wr;have x0:=λx:an wr=>x.cell a0
     have x2:=λx:an wr=>x.cell a2
     have x3:=λx:an wr=>x.cell a3
     have y5:=λx:an wr=>x.cell hr.c5
     have y6:=λx:an wr=>x.cell gh
     rcases C7 now (t k) (bd HM.out k aF)with⟨hs,d1⟩|⟨hs,d1,d2⟩|⟨hs,d1,d2,d3⟩|⟨hs,d1,d2,d3⟩
     .have HB:Hid (aY now shift f m t m=false):=oB<|qQ aF hs;have D1:Hid (decide (t k<now)=true):=d1;clear hs d1;go_wp2;have d1:=D1.out;exact XJ
     .have HS:Hid (fU now (f k) (t k)=true):=hs;have D1:Hid (decide (t k<now)=false):=d1;have D2:Hid (decide (t k<now+4)=false):=d2;clear hs d1 d2;go_wp2;have d1:=D1.out;have d2:=D2.out;refine nl ?_;intro w2 dg;go_wp2;go_roundw
      case rel=>exact⟨k+1,ab,by go_num,λj hj=>by
       by_cases e:j=k
       .subst e;exact HS.out
       .exact dw j ab,hB.trans (dg.mono hB.size)⟩
      exact cD
     .have HB:Hid (aY now shift f m t m=false):=oB<|qQ aF hs;have D1:Hid (decide (t k<now)=false):=d1;have D2:Hid (decide (t k<now+4)=true):=d2;have D3:Hid (decide ((f k).prom<0)=true):=by
       have h:decide ((f k).prom<0)=true:=by rw[d3];rfl
       exact h
      clear hs d1 d2 d3;go_wp2;have d1:=D1.out;have d2:=D2.out;have d3:=D3.out;exact XJ
     have HS:Hid (fU now (f k) (t k)=true):=hs;have D1:Hid (decide (t k<now)=false):=d1;have D2:Hid (decide (t k<now+4)=true):=d2;have D3:Hid (decide ((f k).prom<0)=false):=by
      have h:decide ((f k).prom<0)=false:=by simpa using d3
      exact h
     clear hs d1 d2 d3;go_wp2;have d1:=D1.out;have d2:=D2.out;have d3:=D3.out;refine nl ?_;intro w2 dg;go_wp2;go_roundw
     case rel=>exact⟨k+1,ab,by go_num,λj hj=>by
      by_cases e:j=k
      .subst e;exact HS.out
      .exact dw j ab,hB.trans (dg.mono hB.size)⟩
     case measure=>exact cD
    exact acj
def ace (x9:p:=by
  refine nl ?_;intro w3 lu;go_wp2;go_roundw
  case rel=>exact⟨k+1,ab,by go_num,λj hj=>by
   by_cases e:j=k
   .subst e;exact HS.out
   .exact dw j ab,hB.trans ((WX.trans<|lu.mono WX.size).mono hB.size)⟩
  case measure=>exact cD):p:=x9
def acs (x9:p:=by
  rcases q with q|⟨q,q'⟩;all_goals
   go_enter Tz.func80,Tryz.ntmps80
   go_wp2;go_ret;exact⟨cY HB.out.symm,bA⟩):p:=x9
def Ee (now shift:Int)(b off n cap:Nat)(f:Nat->Mv)(b' bH m cap':Nat)(t:Nat->Int)(w:ao)(hn:n<=1048576)(lw:m<=aL)(bN:b<w)(aB:aK w b off n f)(bz:b'<w)(aV:aD w b' bH m t):
  ay Tz.prog 80 #[.agg #[now,shift,ad (some ⟨b,off,none⟩) n cap,ad (some ⟨b',bH,none⟩) m cap']] w λe w'=>e=ac (aY now shift f n t m)/\aa w w w':=by
 have bA:=kv w now shift (some ⟨b,off,none⟩) n cap (some ⟨b',bH,none⟩) m cap';have hA:=qh w now shift (some ⟨b,off,none⟩) n cap (some ⟨b',bH,none⟩) m cap';have H1:=oR b off n cap f b' bH m cap' t _ hn lw (afL bN bA.size) (aB.below bA bN) (afL bz bA.size)<|aV.below bA bz;cases h1:jj now 0 10000 with
 |false=>
  have HB:Hid (aY now shift f n t m=false):=Cb h1;have q:now<0\/¬now<0/\10000<now:=by unfold jj at h1;simp at h1;omega
  clear h1;exact acs
 |true=>
  have D7:=eJ.mp h1;have q1:¬now<0:=ab;have q2:¬10000<now:=ab;cases h2:jj shift 0 6 with
  |false=>
   have HB:Hid (aY now shift f n t m=false):=wo h2;have q:shift<0\/¬shift<0/\6<shift:=by unfold jj at h2;simp at h2;omega
   clear h2;exact acs
  |true=>
   have nk:=eJ.mp h2;have q3:¬shift<0:=ab;have q4:¬6<shift:=ab;cases h3:er f n t m with
   |false=>
    have HB:Hid (aY now shift f n t m=false):=sI h3;rw[h3]at H1;go_enter Tz.func80,Tryz.ntmps80
    go_wp2_with(go_at_call 78;refine H1.mono ?_;clear H1;rintro e w1 ⟨rfl,b1⟩)
    go_ret;exact⟨cY HB.out.symm,bA.trans<|b1.mono bA.size⟩
   |true=>
    obtain⟨hm,rfl,ju⟩:=oJ h3;have h6:=bX hm;have HM:Hid (aG f m=true):=hm;have HY:Hid (mW now f t m=true->aY now shift f m t m=true):=by
     exact XQ
    have H5:IntKind.i64.wrap (now+4)=now+4:=kw;rw[h3]at H1;clear hm ju;let⟨p0,p1,p2,p3⟩:=hA;go_enter Tz.func80,Tryz.ntmps80
    go_wp2_with(go_at_call 78;refine H1.mono ?_;clear H1;rintro e w1 ⟨rfl,b1⟩;let⟨g0,g1,g2,g3⟩:=(sF.mk p0 p1 p2 p3).below b1 aP)
    have jU:aa w w w1:=bA.trans<|b1.mono bA.size;have eO:w.heap.size<w1:=afL aP b1.size;have Wl:=sF.mk g0 g1 g2 g3;clear p0 p1 p2 p3 b1;go_loopw [32] (λx wr=>∃k:Nat,k<=m/\x=au .i64 k/\(∀j,j<k->fU now (f j) (t j)=true)/\aa w1 w1 wr) (λx _=>m-(intOf x).toNat)
    case atStart=>exact⟨0,afP _,rfl,λj hj=>absurd hj<|afO _,afB _ _⟩
    obtain⟨k,hk,rfl,dw,hB⟩:=hrel;have iY:aa w w wr:=jU.trans<|hB.mono jU.size;by_cases aF:k<m
    .have dV:(k:Int)<m:=by omega
     have gh:=aV.below iY bz k aF;let⟨c0,c1,c2,c3,c4,c5⟩:=aB.below iY bN k aF;have TQ:=Wl.below hB eO;have bM:=gG wr<|f k;have hM:=lP wr<|f k;have lz:w.heap.size<wr:=afL eO hB.size;have N8:=TQ.below bM lz;have hr3:(dL wr<|f k).cell? ⟨b',bH+k,none⟩=some (au .i64<|t k):=(bM.cell (p:=⟨b',bH+k,none⟩)<|afL bz iY.size).trans gh;have hne:=aM<|dL wr<|f k;have x0:=λx:an (dL wr<|f k)=>x.cell N8.c0
     have x3:=λx:an (dL wr<|f k)=>x.cell N8.c3
     have y6:=λx:an (dL wr<|f k)=>x.cell hr3
     rcases C7 now (t k) (bd HM.out k aF)with⟨hs,d1⟩|⟨hs,d1,d2⟩|⟨hs,d1,d2,d3⟩|⟨hs,d1,d2,d3⟩
     .have HB:Hid (aY now shift f m t m=false):=oB<|qQ aF hs;have D1:Hid (decide (t k<now)=true):=d1;clear hs d1;go_wp2;have d1:=D1.out;refine nl ?_;intro w2 dg;go_wp2;go_ret;exact⟨cY HB.out.symm,iY.trans<|(bM.trans<|dg.mono bM.size).mono iY.size⟩
     .have HS:Hid (fU now (f k) (t k)=true):=hs;have D1:Hid (decide (t k<now)=false):=d1;have D2:Hid (decide (t k<now+4)=false):=d2;clear hs d1 d2;go_wp2;have d1:=D1.out;refine nl ?_;intro w2 dg;have WX:aa wr wr w2:=bM.trans<|dg.mono bM.size;have Pt:=hM.below dg aP;have Se:=N8.below dg<|afL lz bM.size;clear x0 x3 y6 hne d1;have hne:=aM w2;have x0:=λx:an w2=>x.cell Se.c0
      have x3:=λx:an w2=>x.cell Se.c3
      have y6:=λx:an w2=>x.cell<|(dg.cell (p:=⟨b',bH+k,none⟩)<|afL (afL bz iY.size) bM.size).trans hr3
      have z5:=λx:an w2=>x.cell Pt.c5
      simp only[av]at z5;have D4:Hid (((f k).prom==-1)=true\/((f k).prom==-1)=false):=by
       have h:((f k).prom==-1)=true\/((f k).prom==-1)=false:=by cases ((f k).prom==-1)<;>simp
       exact h
      go_wp2;have d2:=D2.out;rcases D4.out with d4|d4;all_goals
       exact ace
     .have HB:Hid (aY now shift f m t m=false):=oB<|qQ aF hs;have D1:Hid (decide (t k<now)=false):=d1;have D2:Hid (decide (t k<now+4)=true):=d2;have D3:Hid (((f k).prom==-1)=true):=by
       have h:((f k).prom==-1)=true:=by rw[d3];rfl
       exact h
      clear hs d1 d2 d3;go_wp2;have d1:=D1.out;refine nl ?_;intro w2 dg;have WX:aa wr wr w2:=bM.trans<|dg.mono bM.size;have Pt:=hM.below dg aP;have Se:=N8.below dg<|afL lz bM.size;clear x0 x3 y6 hne d1;have hne:=aM w2;have x0:=λx:an w2=>x.cell Se.c0
      have x3:=λx:an w2=>x.cell Se.c3
      have y6:=λx:an w2=>x.cell<|(dg.cell (p:=⟨b',bH+k,none⟩)<|afL (afL bz iY.size) bM.size).trans hr3
      have z5:=λx:an w2=>x.cell Pt.c5
      simp only[av]at z5;go_wp2;have d2:=D2.out;have d3:=D3.out;refine nl ?_;intro w3 lu;go_wp2;go_ret;exact⟨cY HB.out.symm,iY.trans<|(WX.trans<|lu.mono WX.size).mono iY.size⟩
     .have HS:Hid (fU now (f k) (t k)=true):=hs;have D1:Hid (decide (t k<now)=false):=d1;have D2:Hid (decide (t k<now+4)=true):=d2;have D3:Hid (((f k).prom==-1)=false):=by
       have h:((f k).prom==-1)=false:=dj;exact h
      clear hs d1 d2 d3;go_wp2;have d1:=D1.out;refine nl ?_;intro w2 dg;have WX:aa wr wr w2:=bM.trans<|dg.mono bM.size;have Pt:=hM.below dg aP;have Se:=N8.below dg<|afL lz bM.size;clear x0 x3 y6 hne d1;have hne:=aM w2;have x0:=λx:an w2=>x.cell Se.c0
      have x3:=λx:an w2=>x.cell Se.c3
      have y6:=λx:an w2=>x.cell<|(dg.cell (p:=⟨b',bH+k,none⟩)<|afL (afL bz iY.size) bM.size).trans hr3
      have z5:=λx:an w2=>x.cell Pt.c5
      simp only[av]at z5;go_wp2;have d2:=D2.out;have d3:=D3.out;exact ace
    .exact acj
