import Derived.Test.YtjoalkgmgmmedaaGreatDoorj14
set_option linter.unusedVariables false
set_option maxHeartbeats 2000000
open Go.RowKit renaming Below->aa
open Go.Value renaming slice->ac,int->ad
namespace Go.Proofs.YtjoalkgmgmmedaaGreatDoor
open RowKit
theorem tB (b off m cap n:Nat)(g)(w:World)(hm:m<=maxLen)(B:n<=maxLen)(o:b<w)(r:aD w b off m g):
  Calls Tz.prog 111 #[ad .i64 n,ac (some ⟨b,off,none⟩) m cap] w λe w'=>e=.returned (nX g m n)/\aa w w w':=by
 unfold maxLen at hm B;by_cases u:m=n
 .subst u;go_enter Tz.func111,Tryz.ntmps111
  go_wp2;go_loopw [5] (λi w'=>∃k:Nat,k<=m/\i=ad .i64 k/\jy g m k/\aa w w w') (λi _=>m-(intOf i).toNat)
  .exact⟨0,afP _,rfl,Ie g m,afB _ _⟩
  obtain⟨k,L,rfl,s,hB⟩:=hrel;by_cases d:k<m
  .have M:=(r.below hB o) k d;have N:(k:Int)<m:=ab;cases f:jj (g k) 0 ((m:Int)-1)with
   |false=>
    have v:¬(0<=g k/\g k<m):=by unfold jj at f;simp at f;omega
    have c:Hid (nX g m m=false):=QH d v;go_wp2_with(go_at_call 59;refine(gL _ _ _ _).mono ?_;rintro e w' ⟨rfl,rfl⟩)
    go_ret;exact⟨cY c.out.symm,hB⟩
   |true=>
    have v:=FR f;have C:Hid (0<=g k/\g k<m):=by
     have h:0<=g k/\g k<m:=ab;exact h
    go_wp2_with(go_at_call 59;refine(gL _ _ _ _).mono ?_;rintro e w' ⟨rfl,rfl⟩)
    go_loopw [6] (λi w'=>∃q:Nat,q<=k/\i=ad .i64 q/\(∀j,j<q->g j≠g k)/\aa w w w') (λi _=>k-(intOf i).toNat)
    .exact⟨0,afP _,rfl,λj y=>absurd y ab,hB⟩
    obtain⟨q,hq,rfl,z,hB⟩:=hrel;by_cases D:q<k
    .have E:=aM wr;have O:=λx:an wr=>x.cell ((r.below hB o) k d)
     have R:=λx:an wr=>x.cell<|(r.below hB o) q ab
     have F:(q:Int)<m:=ab;cases A:(g q==g k)with
     |true=>
      have c:Hid (nX g m m=false):=JB D d (by simpa using A);go_wp2;refine nl ?_;intro G t;go_wp2;go_ret;exact⟨cY c.out.symm,hB.trans<|t.mono hB.size⟩
     |false=>
      have J:g q≠g k:=by simpa using A
      have K:Hid _:=J;go_wp2;refine nl ?_;intro G t;go_wp2;go_roundw
      case rel=>exact⟨q+1,ab,by go_num,λj y=>by
       by_cases e:j=q
       .subst e;exact K.out
       .exact z j ab,hB.trans (t.mono hB.size)⟩
      .exact cD
    .go_wp2;go_roundw
     .exact⟨k+1,ab,by go_num,Id s C.out λi f=>z i ab,hB⟩
     exact cD
  go_wp2;go_ret;exact⟨cY (Ae<|by rw[show m=k by omega]at s⊢;exact s).symm,hB⟩
 have c:Hid (nX g m n=false):=GE u;have S:((m:Int)!=n)=true:=dj;go_enter Tz.func111,Tryz.ntmps111
 go_wp2;go_ret;exact⟨cY c.out.symm,afB _ _⟩
theorem Dg (b off n cap:Nat)(g)(w:World)(o:n<=1048576)(r:b<w)(s:aD w b off n g)(t:jy g n n):
  Calls Tz.prog 213 #[ac (some ⟨b,off,none⟩) n cap] w λe w'=>e=.returned (ac w n n)/\aC w' w n (rD g n)/\aa w w w':=by
 have y:=vD n o;go_enter Tz.func213,Tryz.ntmps213
 go_wp2;go_loopw [11] (λi w'=>∃k:Nat,k<=n/\i=ad .i64 k/\aC w' w.heap.size n (rD g k)/\aa w w w') (λi _=>n-(intOf i).toNat)
 .exact⟨0,afP _,rfl,(nS w n).congr λi z=>rfl,(afB _ _).alloc ab _⟩
 obtain⟨k,A,rfl,d,f⟩:=hrel;by_cases j:k<n
 .have u:=(s.below f r) k j;have B:(k:Int)<n:=ab;have C:=t.1 k j;obtain⟨p,l⟩:∃p:Nat,g k=(p:Int):=⟨(g k).toNat,ab⟩;have c:p<n:=ab;have v:(p:Int)<n:=ab;have x:Hid _:=l;rw[l]at u;have D:=d.cellAt p c;have E:=d.frozen p;go_wp2;go_roundw
  case rel=>exact⟨k+1,ab,cO,(d.set p c (k:Int)).congr (λq F=>by
   simp[rD];rw[x.out];by_cases e:q=p
   .omega
   .rw[if_neg e,if_neg ab]),f.setCell aP _⟩
  exact cD
 go_wp2;go_ret;have G:k=n:=ab;simp_all
theorem so (b off n cap C L cap':Nat)(g h)(w:World)(N:n<=1048576)(bN:b<w)(aB:aD w b off n g)(d:jy g n n)(O:C<w)(aV:aD w C L n h)(s:jy h n n):
  Calls Tz.prog 186 #[ac (some ⟨b,off,none⟩) n cap,ac (some ⟨C,L,none⟩) n cap'] w λe w'=>(∃r,e=.returned (ad .i64 r)/\fk g h n r)/\aa w w w':=by
 have R:=Dg b off n cap g w N bN aB d;go_enter Tz.func186,Tryz.ntmps186
 go_wp2_with(first|(go_at_call 213;refine R.mono ?_;clear R;rintro e w1 ⟨rfl,S,A⟩)|(go_at_call 213;refine(Dg _ _ _ _ h _ N (afL O A.size) (aV.below A O) s).mono ?_;rintro e D ⟨rfl,T,dg⟩))
 have U:aa w w D:=A.trans<|dg.mono A.size;have V:=S.below dg S.lt;go_loopw [7,15] (λz i w'=>∃(k:Nat) (r:Int),k<=n/\i=ad .i64 k/\z=ad .i64 r/\tT g h n (λi q=>g i<k) r/\aa D.heap.size D w') (λ_ i _=>n-(intOf i).toNat)
 .exact⟨0,0,afP _,rfl,rfl,⟨Int.le_refl _,ab,λi q c _ _ h0=>absurd h0 (by have:=(d.1 i c).1;simp;omega),.inl rfl⟩,afB _ _⟩
 obtain⟨k,r,hk,rfl,rfl,j,hB⟩:=hrel;by_cases B:k<n
 .have dV:(k:Int)<n:=by omega
  have Y:=(V.below hB V.lt).cellAt k B;have Z:=(T.below hB T.lt).cellAt k B;let⟨i,c,f⟩:=d.BK k B;let⟨q,hq,E⟩:=s.BK k B;rw[tF d f n ab c]at Y;rw[tF s E n ab hq]at Z;have t:g i=h q:=ab;have F:Hid _:=t;have u:∀x y:Nat,x<n->y<n->g x=h y->g x<((k+1:Nat):Int)->g x<k\/x=i/\y=q:=by
   intro x y hx hy Xg hg;by_cases e:g x<k
   .omega
   have e1:g x=g i:=by rw[f];omega
   have e2:h y=h q:=by rw[E,<-Xg];omega
   refine .inr ⟨?_,?_⟩
   .rcases Nat.lt_trichotomy x i with l|l|l
    .exact absurd e1 (d.2 x i l c)
    .exact l
    exact absurd e1.symm<|d.2 i x l hx
   rcases Nat.lt_trichotomy y q with l|l|l
   .exact absurd e2 (s.2 y q l hq)
   .exact l
   exact absurd e2.symm<|s.2 q y l hy
  have J:Hid _:=u;have ao:=j.low;have au:=j.high;clear t f E u;have av:=aM wr;have c0:=λx:an wr=>x.cell Y
  have c1:=λx:an wr=>x.cell Z
  by_cases h1:r<(i:Int)-q
  .have h2:¬(i:Int)-q<(q:Int)-i:=by omega
   go_wp2;refine nl ?_;intro w3 v;go_wp2;go_roundw
   case rel=>exact⟨k+1,(i:Int)-q,ab,by go_num,by first|rfl|go_num,j.more c hq F.out J.out ab ab ab ab,hB.trans<|v.mono hB.size⟩
   exact cD
  by_cases h2:r<(q:Int)-i
  .go_wp2;refine nl ?_;intro w3 v;go_wp2;go_roundw
   .exact⟨k+1,(q:Int)-i,ab,by go_num,by first|rfl|go_num,j.more c hq F.out J.out ab ab ab ab,hB.trans<|v.mono hB.size⟩
   exact cD
  go_wp2;refine nl ?_;intro w3 v;go_wp2;go_roundw
  .exact⟨k+1,r,ab,by go_num,by first|rfl|go_num,j.more c hq F.out J.out ab ab ab ab,hB.trans<|v.mono hB.size⟩
  case measure=>exact cD
 go_wp2;go_ret;exact⟨⟨r,rfl,j.all (λi q c _ _=>by have:=(d.1 i c).2;omega)⟩,U.trans<|hB.mono U.size⟩
section
variable {a b:Nat->Int}{n m:Nat}
theorem Q1 (h:n≠m):eI a n b m (-1):=by unfold eI;rw[if_neg (λc=>h c.1)]
theorem n_ (h:nX a n n=false):eI a n b m (-1):=by unfold eI;rw[if_neg (λc=>by rw[h]at c;exact absurd c.2.1 aP)]
theorem o_ (h:nX b n n=false):eI a n b m (-1):=by unfold eI;rw[if_neg (λc=>by rw[h]at c;exact absurd c.2.2 aP)]
theorem Q3 {r}(c:nX a n n)(d:nX b n n)(h:fk a b n r):eI a n b n r:=by unfold eI;rw[if_pos ⟨rfl,c,d⟩];exact h
theorem BG (b off n cap b' bH m cap':Nat)(g h:Nat->Int)(w:World)(hn:n<=1048576)(hm:m<=1048576)(bN:b<w)(aB:aD w b off n g)(bz:b'<w)(aV:aD w b' bH m h):
  Calls Tz.prog 86 #[ac (some ⟨b,off,none⟩) n cap,ac (some ⟨b',bH,none⟩) m cap'] w λe w'=>(∃r,e=.returned (ad .i64 r)/\eI g n h m r)/\aa w w w':=by
 have H1:=tB b off n cap m g w iN iN bN aB;cases ha:nX g n m with
 |false=>
  rw[ha]at H1;have SR:eI g n h m (-1):=by
   by_cases e:n=m
   .subst e;exact n_ ha
   .exact Q1 e
  have HS:Hid (eI g n h m (-1)):=SR;clear SR;go_enter Tz.func86,Tryz.ntmps86
  go_wp2_with(go_at_call 111;refine H1.mono ?_;clear H1;rintro e w1 ⟨rfl,bL⟩)
  go_ret;exact⟨⟨-1,rfl,HS.out⟩,bL⟩
 |true=>
  rw[ha]at H1;have e:n=m:=by
   by_cases e:n=m
   .exact e
   .rw[GE e]at ha;cases ha
  subst e;cases hb:nX h n n with
  |false=>
   have HS:Hid (eI g n h n (-1)):=o_ hb;go_enter Tz.func86,Tryz.ntmps86
   go_wp2_with(first|(go_at_call 111;refine H1.mono ?_;clear H1;rintro e w1 ⟨rfl,bL⟩)|(go_at_call 111;refine(tB _ _ _ _ n h _ iN iN (afL bz bL.size)<|aV.below bL bz).mono ?_;rintro e w2 ⟨rfl,dg⟩))
   go_ret;exact⟨⟨-1,rfl,HS.out⟩,bL.trans<|dg.mono bL.size⟩
  |true=>
   have HA:Hid _:=ha;have HB:Hid _:=hb;go_enter Tz.func86,Tryz.ntmps86
   go_wp2_with(first|(go_at_call 111;refine H1.mono ?_;clear H1;rintro e w1 ⟨rfl,bL⟩)|(go_at_call 111;refine(tB _ _ _ _ n h _ iN iN (afL bz bL.size)<|aV.below bL bz).mono ?_;rintro e w2 ⟨rfl,dg⟩;have qn:aa w.heap.size w w2:=bL.trans<|dg.mono bL.size))
   clear ha hb;go_loopw [5,6] (λz i w'=>∃(k:Nat) (r:Int),k<=n/\i=ad .i64 k/\z=ad .i64 r/\tT g h n (λi q=>i<k) r/\aa w.heap.size w w') (λ_ i _=>n-(intOf i).toNat)
   case atStart=>exact⟨0,0,afP _,rfl,rfl,tT.none λi k h=>absurd h<|afO _,qn⟩
   obtain⟨k,r,hk,rfl,rfl,nk,hB⟩:=hrel;by_cases aF:k<n
   .have dV:(k:Int)<n:=by omega
    go_wp2;go_loopw [5,7] (λz i w'=>∃(q:Nat) (r:Int),q<=n/\i=ad .i64 q/\z=ad .i64 r/\tT g h n (λi y=>i<k\/i=k/\y<q) r/\aa w.heap.size w w') (λ_ i _=>n-(intOf i).toNat)
    .exact⟨0,r,afP _,rfl,rfl,nk.mono λi y _ _ _ h=>ab,hB⟩
    clear nk hB;obtain⟨q,r,hq,rfl,rfl,nk,hB⟩:=hrel;by_cases E6:q<n
    .have Ui:(q:Int)<n:=by omega
     have hrl:=nk.low;have hrh:=nk.high;have WB:=(aB.below hB bN) k aF;have vw:=(aV.below hB bz) q E6;cases he:(g k==h q)with
     |false=>
      have HE:Hid (∀x y:Nat,x<n->y<n->g x=h y->(x<k\/x=k/\y<q+1)->x<k\/x=k/\y<q):=by
       have h0:∀x y:Nat,x<n->y<n->g x=h y->(x<k\/x=k/\y<q+1)->x<k\/x=k/\y<q:=by
        intro x y _ _ Xg hc;by_cases e:x=k/\y=q
        .obtain⟨rfl,rfl⟩:=e;rw[Xg]at he;simp at he
        omega
       exact h0
      have hne:=aM wr;have c0:=λx:an wr=>x.cell WB
      have c1:=λx:an wr=>x.cell vw
      go_wp2;refine nl ?_;intro w3 lu;have aaX:=aM w3;have d0:=λx:an w3=>x.cell<|(lu.cell<|block_lt_of_cell WB).trans WB
      have d1:=λx:an w3=>x.cell<|(lu.cell<|block_lt_of_cell vw).trans vw
      go_wp2;refine nl ?_;intro w4 H0;go_wp2;go_roundw
      case rel=>exact⟨q+1,r,ab,by go_num,rfl,nk.mono HE.out,hB.trans<|(lu.trans<|H0.mono lu.size).mono hB.size⟩
      exact cD
     |true=>
      have HX0:g k=h q:=by simpa using he
      have HX:Hid _:=HX0;have HQ:Hid (∀x y:Nat,x<n->y<n->g x=h y->(x<k\/x=k/\y<q+1)->(x<k\/x=k/\y<q)\/x=k/\y=q):=by
       have h0:∀x y:Nat,x<n->y<n->g x=h y->(x<k\/x=k/\y<q+1)->(x<k\/x=k/\y<q)\/x=k/\y=q:=by
        intro x y _ _ _ hc;omega
       exact h0
      clear HX0;have hne:=aM wr;have c0:=λx:an wr=>x.cell WB
      have c1:=λx:an wr=>x.cell vw
      by_cases h1:r<(k:Int)-q
      .have h2:¬(k:Int)-q<(q:Int)-k:=by omega
       go_wp2;refine nl ?_;intro w3 lu;have aaX:=aM w3;have d0:=λx:an w3=>x.cell<|(lu.cell (p:=⟨b,off+k,none⟩)<|block_lt_of_cell WB).trans WB
       have d1:=λx:an w3=>x.cell<|(lu.cell (p:=⟨b',bH+q,none⟩)<|block_lt_of_cell vw).trans vw
       go_wp2;refine nl ?_;intro w4 H0;go_wp2;go_roundw
       .exact⟨q+1,(k:Int)-q,ab,by go_num,by first|rfl|go_num,nk.more aF E6 HX.out HQ.out ab ab ab ab,hB.trans<|(lu.trans<|H0.mono lu.size).mono hB.size⟩
       case measure=>exact cD
      by_cases h2:r<(q:Int)-k;all_goals
       go_wp2;refine nl ?_;intro w3 lu;have aaX:=aM w3;have d0:=λx:an w3=>x.cell<|(lu.cell (p:=⟨b,off+k,none⟩)<|block_lt_of_cell WB).trans WB
       have d1:=λx:an w3=>x.cell<|(lu.cell (p:=⟨b',bH+q,none⟩)<|block_lt_of_cell vw).trans vw
       go_wp2;refine nl ?_;intro w4 H0;go_wp2;go_roundw
       case rel=>first
        |exact⟨q+1,(q:Int)-k,ab,by go_num,by first|rfl|go_num,nk.more aF E6 HX.out HQ.out ab ab ab ab,hB.trans<|(lu.trans<|H0.mono lu.size).mono hB.size⟩
        |exact⟨q+1,r,ab,by go_num,by first|rfl|go_num,nk.more aF E6 HX.out HQ.out ab ab ab ab,hB.trans<|(lu.trans<|H0.mono lu.size).mono hB.size⟩
       case measure=>exact cD
    go_wp2;go_roundw
    .exact⟨k+1,r,ab,by go_num,rfl,nk.mono λi y _ hy _ h=>ab,hB⟩
    case measure=>exact cD
   go_wp2;go_ret;exact⟨⟨r,rfl,Q3 HA.out HB.out<|nk.all λi y hi _ _=>ab⟩,hB⟩
end
