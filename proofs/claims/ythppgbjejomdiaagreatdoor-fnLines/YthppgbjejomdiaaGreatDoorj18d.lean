import Derived.Test.YthppgbjejomdiaaGreatDoorj18
set_option linter.all false
set_option maxHeartbeats 2000000
open Go.Value renaming int->aa,slice->ac
namespace Go.Proofs.YthppgbjejomdiaaGreatDoor
open RowKit
theorem tN (b off m cap n:Nat)(g)(w:World)(hm:m<=maxLen)(B:n<=maxLen)(o:b<w)(r:aD w b off m g): Calls Tz.prog 149 #[.int .i64 n,.slice (some ⟨b,off,none⟩) m cap] w λe w'=>e=.returned (oe g m n)/\Below w w w':=by unfold maxLen at hm B;by_cases u:m=n;(.subst u;go_enter Tz.func149,Tryz.ntmps149;go_wp2;(go_loopw [5] (λi w'=>∃k:Nat,k<=m/\i=.int .i64 k/\jF g m k/\Below w w w') (λi _=>m-(intOf i).toNat));exact⟨0,agB _,rfl,IN g m,agn _ _⟩;obtain⟨k,L,rfl,s,hB⟩:=hrel;by_cases d:k<m;(.have M:=(r.below hB o) k d;have N:(k:Int)<m:=ab;cases f:jr (g k) 0 ((m:Int)-1)with|false=>(have v:¬(0<=g k/\g k<m):=by unfold jr at f;simp at f;omega);have c:Hid (oe g m m=false):=Rq d v;(go_wp2_with(go_at_call 82;refine(gN _ _ _ _).mono ?_;rintro e w' ⟨rfl,rfl⟩));go_ret;exact⟨de c.out.symm,hB⟩|true=>have v:=Gm f;(have C:Hid (0<=g k/\g k<m):=by have h:0<=g k/\g k<m:=ab;exact h);(go_wp2_with(go_at_call 82;refine(gN _ _ _ _).mono ?_;rintro e w' ⟨rfl,rfl⟩));(go_loopw [6] (λi w'=>∃q:Nat,q<=k/\i=.int .i64 q/\(∀j,j<q->g j≠g k)/\Below w w w') (λi _=>k-(intOf i).toNat));exact⟨0,agB _,rfl,λj y=>absurd y ab,hB⟩;obtain⟨q,hq,rfl,z,hB⟩:=hrel;by_cases D:q<k;(.have E:=aK wr;have O:=λx:am wr=>x.cell<|(r.below hB o) k d;have R:=λx:am wr=>x.cell<|(r.below hB o) q ab;have F:(q:Int)<m:=ab;cases A:(g q==g k)with|true=>have c:Hid (oe g m m=false):=J9 D d (by simpa using A);go_wp2;refine nh ?_;intro G t;go_wp2;go_ret;exact⟨de c.out.symm,hB.trans<|t.mono hB.size⟩|false=>(have J:g q≠g k:=by simpa using A);have K:Hid _:=J;go_wp2;refine nh ?_;intro G t;go_wp2;(go_roundw);(case rel=>exact⟨q+1,ab,by go_num,λj y=>by by_cases e:j=q;subst e;exact K.out;exact z j ab,hB.trans<|t.mono hB.size⟩);exact cD);go_wp2;(go_roundw);exact⟨k+1,ab,by go_num,IM s C.out λi f=>z i ab,hB⟩;exact cD);go_wp2;go_ret;exact⟨de (Ay<|by rw[show m=k by omega]at s⊢;exact s).symm,hB⟩);have c:Hid (oe g m n=false):=G5 u;have S:((m:Int)!=n)=true:=cY;go_enter Tz.func149,Tryz.ntmps149;go_wp2;go_ret;exact⟨de c.out.symm,agn _ _⟩
theorem DH (b off n cap:Nat)(g:Nat->Int)(w:World)(o:n<=1048576)(r:b<w)(s:aD w b off n g)(t:jF g n n): Calls Tz.prog 220 #[ac (some ⟨b,off,none⟩) n cap] w λe w'=>e=.returned (ac w n n)/\aC w' w n (rL g n)/\Below w w w':=by have y:=vZ n o;go_enter Tz.func220,Tryz.ntmps220;go_wp2;(go_loopw [11] (λi w'=>∃k:Nat,k<=n/\i=aa .i64 k/\aC w' w n (rL g k)/\Below w w w') (λi _=>n-(intOf i).toNat));exact⟨0,agB _,rfl,(n8 w n).congr λi z=>rfl,(agn _ _).alloc ab _⟩;obtain⟨k,A,rfl,d,f⟩:=hrel;by_cases j:k<n;(.have u:=(s.below f r) k j;have B:(k:Int)<n:=ab;have C:=t.1 k j;obtain⟨p,l⟩:∃p:Nat,g k=(p:Int):=⟨(g k).toNat,ab⟩;have c:p<n:=ab;have v:(p:Int)<n:=ab;have x:Hid _:=l;rw[l]at u;have D:=d.cellAt p c;have E:=d.frozen p;go_wp2;(go_roundw);(case rel=>exact⟨k+1,ab,cQ,(d.set p c (k:Int)).congr (λq F=>by simp[rL];rw[x.out];by_cases e:q=p;omega;rw[if_neg e,if_neg ab]),f.setCell aN _⟩);exact cD);go_wp2;go_ret;have G:k=n:=ab;simp_all
theorem sF (b off n cap C L cap':Nat)(g h:Nat->Int)(w:World)(N:n<=1048576)(bN:b<w)(az:aD w b off n g)(d:jF g n n)(O:C<w)(aV:aD w C L n h)(s:jF h n n):
  Calls Tz.prog 193 #[ac (some ⟨b,off,none⟩) n cap,ac (some ⟨C,L,none⟩) n cap'] w λe w'=>(∃r,e=.returned (aa .i64 r)/\ft g h n r)/\Below w w w':=by
 have R:=DH b off n cap g w N bN az d;go_enter Tz.func193,Tryz.ntmps193
 go_wp2_with(first|(go_at_call 220;refine R.mono ?_;clear R;rintro e w1 ⟨rfl,S,A⟩)|(go_at_call 220;refine(DH _ _ _ _ h _ N (agx O A.size) (aV.below A O) s).mono ?_;rintro e D ⟨rfl,T,U⟩))
 have V:Below w w D:=A.trans<|U.mono A.size;have Y:=S.below U S.lt;go_loopw [7,15] (λz i w'=>∃(k:Nat) (r:Int),k<=n/\i=aa .i64 k/\z=aa .i64 r/\ug g h n (λi q=>g i<k) r/\Below D D w') (λ_ i _=>n-(intOf i).toNat)
 .exact⟨0,0,agB _,rfl,rfl,⟨Int.le_refl _,ab,λi q c _ _ h0=>absurd h0 (by have:=(d.1 i c).1;simp;omega),.inl rfl⟩,agn _ _⟩
 obtain⟨k,r,hk,rfl,rfl,j,hB⟩:=hrel;by_cases B:k<n
 .have dQ:(k:Int)<n:=by omega
  have Z:=(Y.below hB Y.lt).cellAt k B;have hd:=(T.below hB T.lt).cellAt k B;let⟨i,c,f⟩:=d.Cm k B;let⟨q,hq,E⟩:=s.Cm k B;rw[tR d f n ab c]at Z;rw[tR s E n ab hq]at hd;have t:g i=h q:=ab;have F:Hid _:=t;have u:∀x y:Nat,x<n->y<n->g x=h y->g x<((k+1:Nat):Int)->g x<k\/x=i/\y=q:=by
   intro x y hx hy X7 hg;by_cases e:g x<k
   .omega
   have e1:g x=g i:=by rw[f];omega
   have e2:h y=h q:=by rw[E,<-X7];omega
   refine .inr ⟨?_,?_⟩
   .rcases Nat.lt_trichotomy x i with l|l|l
    .exact absurd e1 (d.2 x i l c)
    .exact l
    exact absurd e1.symm<|d.2 i x l hx
   rcases Nat.lt_trichotomy y q with l|l|l
   .exact absurd e2 (s.2 y q l hq)
   .exact l
   exact absurd e2.symm<|s.2 q y l hy
  have J:Hid _:=u;have ad:=j.low;have ao:=j.high;clear t f E u;have au:=aK wr;have c0:=λx:am wr=>x.cell Z
  have c1:=λx:am wr=>x.cell hd
  by_cases h1:r<(i:Int)-q
  .have h2:¬(i:Int)-q<(q:Int)-i:=by omega
   go_wp2;refine nh ?_;intro w3 v;go_wp2;go_roundw
   case rel=>exact⟨k+1,(i:Int)-q,ab,by go_num,by first|rfl|go_num,j.more c hq F.out J.out ab ab ab ab,hB.trans<|v.mono hB.size⟩
   exact cD
  by_cases h2:r<(q:Int)-i
  .go_wp2;refine nh ?_;intro w3 v;go_wp2;go_roundw
   .exact⟨k+1,(q:Int)-i,ab,by go_num,by first|rfl|go_num,j.more c hq F.out J.out ab ab ab ab,hB.trans<|v.mono hB.size⟩
   exact cD
  go_wp2;refine nh ?_;intro w3 v;go_wp2;go_roundw
  .exact⟨k+1,r,ab,by go_num,by first|rfl|go_num,j.more c hq F.out J.out ab ab ab ab,hB.trans<|v.mono hB.size⟩
  case measure=>exact cD
 go_wp2;go_ret;exact⟨⟨r,rfl,j.all (λi q c _ _=>by have:=(d.1 i c).2;omega)⟩,V.trans<|hB.mono V.size⟩
section
variable {a b:Nat->Int}{n m:Nat}
theorem RK (h:n≠m):eN a n b m (-1):=by unfold eN;rw[if_neg (λc=>h c.1)]
theorem aai (h:oe a n n=false):eN a n b m (-1):=by unfold eN;rw[if_neg (λc=>by rw[h]at c;exact absurd c.2.1 aN)]
theorem aaj (h:oe b n n=false):eN a n b m (-1):=by unfold eN;rw[if_neg (λc=>by rw[h]at c;exact absurd c.2.2 aN)]
theorem RM {r}(c:oe a n n)(d:oe b n n)(h:ft a b n r):eN a n b n r:=by unfold eN;rw[if_pos ⟨rfl,c,d⟩];exact h
theorem Ch (b off n cap A E m cap':Nat)(g h:Nat->Int)(w:World)(hn:n<=1048576)(hm:m<=1048576)(V:b<w)(Y:aD w b off n g)(B:A<w)(L:aD w A E m h):
  Calls Tz.prog 112 #[ac (some ⟨b,off,none⟩) n cap,ac (some ⟨A,E,none⟩) m cap'] w λe w'=>(∃r,e=.returned (aa .i64 r)/\eN g n h m r)/\Below w w w':=by
 have j:=tN b off n cap m g w iR iR V Y;cases u:oe g n m with
 |false=>
  rw[u]at j;have Z:eN g n h m (-1):=by
   by_cases e:n=m
   .subst e;exact aai u
   .exact RK e
  have N:Hid (eN g n h m (-1)):=Z;clear Z;go_enter Tz.func112,Tryz.ntmps112
  go_wp2_with(go_at_call 149;refine j.mono ?_;clear j;rintro e w1 ⟨rfl,d⟩)
  go_ret;exact⟨⟨-1,rfl,N.out⟩,d⟩
 |true=>
  rw[u]at j;have e:n=m:=by
   by_cases e:n=m
   .exact e
   .rw[G5 e]at u;cases u
  subst e;cases hb:oe h n n with
  |false=>
   have N:Hid (eN g n h n (-1)):=aaj hb;go_enter Tz.func112,Tryz.ntmps112
   go_wp2_with(first|(go_at_call 149;refine j.mono ?_;clear j;rintro e w1 ⟨rfl,d⟩)|(go_at_call 149;refine(tN _ _ _ _ n h _ iR iR (agx B d.size)<|L.below d B).mono ?_;rintro e w2 ⟨rfl,O⟩))
   go_ret;exact⟨⟨-1,rfl,N.out⟩,d.trans<|O.mono d.size⟩
  |true=>
   have HA:Hid _:=u;have HB:Hid _:=hb;go_enter Tz.func112,Tryz.ntmps112
   go_wp2_with(first|(go_at_call 149;refine j.mono ?_;clear j;rintro e w1 ⟨rfl,d⟩)|(go_at_call 149;refine(tN _ _ _ _ n h _ iR iR (agx B d.size)<|L.below d B).mono ?_;rintro e w2 ⟨rfl,O⟩;have qu:Below w w w2:=d.trans<|O.mono d.size))
   clear u hb;go_loopw [5,6] (λz i w'=>∃(k:Nat) (r:Int),k<=n/\i=aa .i64 k/\z=aa .i64 r/\ug g h n (λi q=>i<k) r/\Below w w w') (λ_ i _=>n-(intOf i).toNat)
   case atStart=>exact⟨0,0,agB _,rfl,rfl,ug.none λi k h=>absurd h<|agA _,qu⟩
   obtain⟨k,r,hk,rfl,rfl,m8,hB⟩:=hrel;by_cases F:k<n
   .have dQ:(k:Int)<n:=by omega
    go_wp2;go_loopw [5,7] (λz i w'=>∃(q:Nat) (r:Int),q<=n/\i=aa .i64 q/\z=aa .i64 r/\ug g h n (λi y=>i<k\/i=k/\y<q) r/\Below w w w') (λ_ i _=>n-(intOf i).toNat)
    .exact⟨0,r,agB _,rfl,rfl,m8.mono λi y _ _ _ h=>ab,hB⟩
    clear m8 hB;obtain⟨q,r,hq,rfl,rfl,m8,hB⟩:=hrel;by_cases J:q<n
    .have UV:(q:Int)<n:=by omega
     have ad:=m8.low;have ao:=m8.high;have s:=(Y.below hB V) k F;have t:=(L.below hB B) q J;cases he:(g k==h q)with
     |false=>
      have HE:Hid (∀x y:Nat,x<n->y<n->g x=h y->(x<k\/x=k/\y<q+1)->x<k\/x=k/\y<q):=by
       have R:∀x y:Nat,x<n->y<n->g x=h y->(x<k\/x=k/\y<q+1)->x<k\/x=k/\y<q:=by
        intro x y _ _ X7 hc;by_cases e:x=k/\y=q
        .obtain⟨rfl,rfl⟩:=e;rw[X7]at he;simp at he
        omega
       exact R
      have S:=aK wr;have c0:=λx:am wr=>x.cell s
      have c1:=λx:am wr=>x.cell t
      go_wp2;refine nh ?_;intro f c;have C:=aK f;have d0:=λx:am f=>x.cell<|(c.cell<|block_lt_of_cell s).trans s
      have d1:=λx:am f=>x.cell<|(c.cell<|block_lt_of_cell t).trans t
      go_wp2;refine nh ?_;intro w4 v;go_wp2;go_roundw
      case rel=>exact⟨q+1,r,ab,by go_num,rfl,m8.mono HE.out,hB.trans<|(c.trans<|v.mono c.size).mono hB.size⟩
      exact cD
     |true=>
      have D:g k=h q:=by simpa using he
      have T:Hid _:=D;have U:Hid (∀x y:Nat,x<n->y<n->g x=h y->(x<k\/x=k/\y<q+1)->(x<k\/x=k/\y<q)\/x=k/\y=q):=by
       have R:∀x y:Nat,x<n->y<n->g x=h y->(x<k\/x=k/\y<q+1)->(x<k\/x=k/\y<q)\/x=k/\y=q:=by
        intro x y _ _ _ hc;omega
       exact R
      clear D;have S:=aK wr;have c0:=λx:am wr=>x.cell s
      have c1:=λx:am wr=>x.cell t
      by_cases h1:r<(k:Int)-q
      .have h2:¬(k:Int)-q<(q:Int)-k:=by omega
       go_wp2;refine nh ?_;intro f c;have C:=aK f;have d0:=λx:am f=>x.cell<|(c.cell (p:=⟨b,off+k,none⟩)<|block_lt_of_cell s).trans s
       have d1:=λx:am f=>x.cell<|(c.cell (p:=⟨A,E+q,none⟩)<|block_lt_of_cell t).trans t
       go_wp2;refine nh ?_;intro w4 v;go_wp2;go_roundw
       .exact⟨q+1,(k:Int)-q,ab,by go_num,by first|rfl|go_num,m8.more F J T.out U.out ab ab ab ab,hB.trans<|(c.trans<|v.mono c.size).mono hB.size⟩
       case measure=>exact cD
      by_cases h2:r<(q:Int)-k;all_goals
       go_wp2;refine nh ?_;intro f c;have C:=aK f;have d0:=λx:am f=>x.cell<|(c.cell (p:=⟨b,off+k,none⟩)<|block_lt_of_cell s).trans s
       have d1:=λx:am f=>x.cell<|(c.cell (p:=⟨A,E+q,none⟩)<|block_lt_of_cell t).trans t
       go_wp2;refine nh ?_;intro w4 v;go_wp2;go_roundw
       case rel=>first
        |exact⟨q+1,(q:Int)-k,ab,by go_num,by first|rfl|go_num,m8.more F J T.out U.out ab ab ab ab,hB.trans<|(c.trans<|v.mono c.size).mono hB.size⟩
        |exact⟨q+1,r,ab,by go_num,by first|rfl|go_num,m8.more F J T.out U.out ab ab ab ab,hB.trans<|(c.trans<|v.mono c.size).mono hB.size⟩
       case measure=>exact cD
    go_wp2;go_roundw
    .exact⟨k+1,r,ab,by go_num,rfl,m8.mono λi y _ hy _ h=>ab,hB⟩
    case measure=>exact cD
   go_wp2;go_ret;exact⟨⟨r,rfl,RM HA.out HB.out<|m8.all λi y hi _ _=>ab⟩,hB⟩
end
