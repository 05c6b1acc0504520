import Derived.Test.YtlmcblcijndipabGreatDoorDr16
set_option linter.unusedVariables false
set_option maxHeartbeats 2000000
namespace Go.Proofs.YtlmcblcijndipabGreatDoor
open Go.RowKit
theorem ka (b off m cap n:Nat)(g:Nat->Int)(w:World)(hm:m<=maxLen)(hn:n<=maxLen)(hbs:b<w.heap.size)(hrow:ag w b off m g):
  Calls Tryz0.prog 109 #[.int .i64 (n:Int),.slice (some ⟨b,off,none⟩) m cap] w λe w'=>e=.returned (.bool (gC g m n))/\Below w.heap.size w w':=by
 unfold maxLen at hm hn;by_cases hl:m=n
 .subst hl;go_enter Tryz0.func109,Tryz.ntmps109
  go_wp2;go_loopw [5] (λi w'=>∃k:Nat,k<=m/\i=.int .i64 k/\ep g m k/\Below w.heap.size w w') (λi _=>m-(intOf i).toNat)
  case atStart=>exact⟨0,Nat.zero_le _,rfl,ua g m,Below.refl _ _⟩
  case round=>
   obtain⟨k,hk,rfl,hord,hB⟩:=hrel;by_cases hlt:k<m
   .have hc:=(hrow.below hB hbs) k hlt;have hlt':(k:Int)<m:=by omega
    cases hi:dE (g k) 0 ((m:Int)-1)with
    |false=>
     have hi0:¬(0<=g k/\g k<m):=by unfold dE at hi;simp at hi;omega
     have HF:Hid (gC g m m=false):=yp hlt hi0;clear hi0;go_wp2_with(go_at_call 59;refine(dK _ _ _ _).mono ?_;rintro e w' ⟨rfl,rfl⟩)
     go_ret;exact⟨aE HF.out.symm,hB⟩
    |true=>
     have hi0:=sg hi;have HI:Hid (0<=g k/\g k<m):=by
      have h:0<=g k/\g k<m:=by omega
      exact h
     clear hi0;go_wp2_with(go_at_call 59;refine(dK _ _ _ _).mono ?_;rintro e w' ⟨rfl,rfl⟩)
     go_loopw [6] (λi w'=>∃q:Nat,q<=k/\i=.int .i64 q/\(∀j,j<q->g j≠g k)/\Below w.heap.size w w') (λi _=>k-(intOf i).toNat)
     case atStart=>exact⟨0,Nat.zero_le _,rfl,λj hj=>absurd hj (Nat.not_lt_zero _),hB⟩
     case round=>
      clear hB hc;obtain⟨q,hq,rfl,hno,hB⟩:=hrel;by_cases hlq:q<k
      .have hne:=ax wr;have c0:=λx:af wr=>x.cell ((hrow.below hB hbs) k hlt)
       have c1:=λx:af wr=>x.cell ((hrow.below hB hbs) q (by omega))
       have hqm:(q:Int)<m:=by omega
       cases he:(g q==g k)with
       |true=>
        have HF:Hid (gC g m m=false):=uc hlq hlt (by simpa using he);go_wp2;refine ae (by kernel_rfl) (by kernel_rfl) ?_;repeat(go_big_quiet_step (fail))
        refine wpQuiet_nil (ak ?_);intro w1 hb1;go_wp2;go_ret;exact⟨aE HF.out.symm,hB.trans (hb1.mono hB.size)⟩
       |false=>
        have HE0:g q≠g k:=by simpa using he
        have HE:Hid _:=HE0;clear HE0;go_wp2;refine ae (by kernel_rfl) (by kernel_rfl) ?_;repeat(go_big_quiet_step (fail))
        refine wpQuiet_nil (ak ?_);intro w1 hb1;go_wp2;go_roundw
        case rel=>exact⟨q+1,by omega,by go_num,λj hj=>by
         by_cases e:j=q
         .subst e;exact HE.out
         .exact hno j (by omega),hB.trans (hb1.mono hB.size)⟩
        case measure=>simp[intOf];omega
      .go_wp2;go_roundw
       case rel=>exact⟨k+1,by omega,by go_num,ub hord HI.out (λi hi=>hno i (by omega)),hB⟩
       case measure=>simp[intOf];omega
   .go_wp2;go_ret;exact⟨aE (nE (by rw[show m=k by omega]at hord⊢;exact hord)).symm,hB⟩
 .have HF:Hid (gC g m n=false):=sk hl;have hl':((m:Int)!=n)=true:=by simp;omega
  go_enter Tryz0.func109,Tryz.ntmps109
  go_wp2;go_ret;exact⟨aE HF.out.symm,Below.refl _ _⟩
theorem pO (b off n cap:Nat)(g:Nat->Int)(w:World)(hn:n<=1048576)(hbs:b<w.heap.size)(hrow:ag w b off n g)(hord:ep g n n):
  Calls Tryz0.prog 239 #[.slice (some ⟨b,off,none⟩) n cap] w λe w'=>e=.returned (.slice (some ⟨w.heap.size,0,none⟩) n n)/\aj w' w.heap.size n (jr g n)/\Below w.heap.size w w':=by
 have hmk:=gA n hn;go_enter Tryz0.func239,Tryz.ntmps239
 go_wp2;go_loopw [11] (λi w'=>∃k:Nat,k<=n/\i=.int .i64 k/\aj w' w.heap.size n (jr g k)/\Below w.heap.size w w') (λi _=>n-(intOf i).toNat)
 case atStart=>exact⟨0,Nat.zero_le _,rfl,(ez w n).congr (λi hi=>rfl),(Below.refl _ _).alloc (Nat.le_refl _) _⟩
 case round=>
  obtain⟨k,hk,rfl,hown,hB⟩:=hrel;by_cases hlt:k<n
  .have hc:=(hrow.below hB hbs) k hlt;have hlt':(k:Int)<n:=by omega
   have hin:=hord.1 k hlt;obtain⟨p,hp⟩:∃p:Nat,g k=(p:Int):=⟨(g k).toNat,by omega⟩;have hpn:p<n:=by omega
   have hpn':(p:Int)<n:=by omega
   have HP:Hid _:=hp;rw[hp]at hc;clear hp hin;have hd:=hown.cellAt p hpn;have hfz:=hown.frozen p;go_wp2;go_roundw
   case rel=>exact⟨k+1,by omega,by go_num,(hown.set p hpn (k:Int)).congr (λq hq=>by
    simp only[jr];rw[HP.out];by_cases e:q=p
    .subst e;rw[if_pos rfl,if_pos rfl]
    .rw[if_neg e,if_neg (by omega)]),hB.setCell (by simp) _⟩
   case measure=>simp[intOf];omega
  .go_wp2;go_ret;have hkn:k=n:=by omega
   subst hkn;exact⟨rfl,hown,hB⟩
theorem jJ (b off n cap b' off' cap':Nat)(g h:Nat->Int)(w:World)(hn:n<=1048576)(hbs:b<w.heap.size)(hrow:ag w b off n g)(hord:ep g n n)(hbs':b'<w.heap.size)(hrow':ag w b' off' n h)(hord':ep h n n):
  Calls Tryz0.prog 207 #[.slice (some ⟨b,off,none⟩) n cap,.slice (some ⟨b',off',none⟩) n cap'] w λe w'=>(∃r,e=.returned (.int .i64 r)/\bQ g h n r)/\Below w.heap.size w w':=by
 have H1:=pO b off n cap g w hn hbs hrow hord;go_enter Tryz0.func207,Tryz.ntmps207
 go_wp2_with(first|(go_at_call 239;refine H1.mono ?_;clear H1;rintro e w1 ⟨rfl,hown1,hb1⟩)|(go_at_call 239;refine(pO _ _ _ _ h _ hn (Nat.lt_of_lt_of_le hbs' hb1.size) (hrow'.below hb1 hbs') hord').mono ?_;rintro e w2 ⟨rfl,hown2,hb2⟩))
 have hB2:Below w.heap.size w w2:=hb1.trans (hb2.mono hb1.size);have hown12:=hown1.below hb2 hown1.lt;go_loopw [7,15] (λz i w'=>∃(k:Nat) (r:Int),k<=n/\i=.int .i64 k/\z=.int .i64 r/\kI g h n (λi q=>g i<k) r/\Below w2.heap.size w2 w') (λ_ i _=>n-(intOf i).toNat)
 case atStart=>exact⟨0,0,Nat.zero_le _,rfl,rfl,⟨Int.le_refl _,by omega,λi q hi _ _ h0=>absurd h0 (by have:=(hord.1 i hi).1;simp;omega),.inl rfl⟩,Below.refl _ _⟩
 case round=>
  obtain⟨k,r,hk,rfl,rfl,hsh,hB⟩:=hrel;by_cases hlt:k<n
  .have hlt':(k:Int)<n:=by omega
   have hc:=(hown12.below hB hown12.lt).cellAt k hlt;have hd:=(hown2.below hB hown2.lt).cellAt k hlt;obtain⟨i,hi,hik⟩:=hord.surj k hlt;obtain⟨q,hq,hqk⟩:=hord'.surj k hlt;rw[jZ hord hik n (Nat.le_refl _) hi]at hc;rw[jZ hord' hqk n (Nat.le_refl _) hq]at hd;have hiq:g i=h q:=by rw[hik,hqk]
   have HX:Hid _:=hiq;have HP0:∀x y:Nat,x<n->y<n->g x=h y->g x<((k+1:Nat):Int)->g x<k\/x=i/\y=q:=by
    intro x y hx hy hxy hg;by_cases e:g x<k
    .exact .inl e
    .have e1:g x=g i:=by rw[hik];omega
     have e2:h y=h q:=by rw[hqk,<-hxy];omega
     refine .inr ⟨?_,?_⟩
     .rcases Nat.lt_trichotomy x i with l|l|l
      .exact absurd e1 (hord.2 x i l hi)
      .exact l
      .exact absurd e1.symm (hord.2 i x l hx)
     .rcases Nat.lt_trichotomy y q with l|l|l
      .exact absurd e2 (hord'.2 y q l hq)
      .exact l
      .exact absurd e2.symm (hord'.2 q y l hy)
   have HP:Hid _:=HP0;have hrl:=hsh.low;have hrh:=hsh.high;clear hiq hik hqk HP0;have hne:=ax wr;have c0:=λx:af wr=>x.cell hc
   have c1:=λx:af wr=>x.cell hd
   by_cases h1:r<(i:Int)-q
   .have h2:¬(i:Int)-q<(q:Int)-i:=by omega
    go_wp2;refine ae (by kernel_rfl) (by kernel_rfl) ?_;repeat(go_big_quiet_step (fail))
    refine wpQuiet_nil (ak ?_);intro w3 hb3;go_wp2;go_roundw
    case rel=>exact⟨k+1,(i:Int)-q,by omega,by go_num,by first|rfl|go_num,hsh.more hi hq HX.out HP.out (by omega) (by omega) (by omega) (by omega),hB.trans (hb3.mono hB.size)⟩
    case measure=>simp[intOf];omega
   .by_cases h2:r<(q:Int)-i
    .go_wp2;refine ae (by kernel_rfl) (by kernel_rfl) ?_;repeat(go_big_quiet_step (fail))
     refine wpQuiet_nil (ak ?_);intro w3 hb3;go_wp2;go_roundw
     case rel=>exact⟨k+1,(q:Int)-i,by omega,by go_num,by first|rfl|go_num,hsh.more hi hq HX.out HP.out (by omega) (by omega) (by omega) (by omega),hB.trans (hb3.mono hB.size)⟩
     case measure=>simp[intOf];omega
    .go_wp2;refine ae (by kernel_rfl) (by kernel_rfl) ?_;repeat(go_big_quiet_step (fail))
     refine wpQuiet_nil (ak ?_);intro w3 hb3;go_wp2;go_roundw
     case rel=>exact⟨k+1,r,by omega,by go_num,by first|rfl|go_num,hsh.more hi hq HX.out HP.out (by omega) (by omega) (by omega) (by omega),hB.trans (hb3.mono hB.size)⟩
     case measure=>simp[intOf];omega
  .go_wp2;go_ret;exact⟨⟨r,rfl,hsh.all (λi q hi _ _=>by have:=(hord.1 i hi).2;omega)⟩,hB2.trans (hB.mono hB2.size)⟩
theorem yQ {a b:Nat->Int}{n m:Nat}(h:n≠m):bF a n b m (-1):=by unfold bF;rw[if_neg (λhh=>h hh.1)]
theorem BO {a b:Nat->Int}{n m:Nat}(h:gC a n n=false):bF a n b m (-1):=by unfold bF;rw[if_neg (λhh=>by rw[h]at hh;exact absurd hh.2.1 (by simp))]
theorem BP {a b:Nat->Int}{n m:Nat}(h:gC b n n=false):bF a n b m (-1):=by unfold bF;rw[if_neg (λhh=>by rw[h]at hh;exact absurd hh.2.2 (by simp))]
theorem yR {a b:Nat->Int}{n:Nat}{r:Int}(ha:gC a n n=true)(hb:gC b n n=true)(h:bQ a b n r):bF a n b n r:=by unfold bF;rw[if_pos ⟨rfl,ha,hb⟩];exact h
theorem oX (b off n cap b' off' m cap':Nat)(g h:Nat->Int)(w:World)(hn:n<=1048576)(hm:m<=1048576)(hbs:b<w.heap.size)(hrow:ag w b off n g)(hbs':b'<w.heap.size)(hrow':ag w b' off' m h):
  Calls Tryz0.prog 87 #[.slice (some ⟨b,off,none⟩) n cap,.slice (some ⟨b',off',none⟩) m cap'] w λe w'=>(∃r,e=.returned (.int .i64 r)/\bF g n h m r)/\Below w.heap.size w w':=by
 have H1:=ka b off n cap m g w (by unfold maxLen;omega) (by unfold maxLen;omega) hbs hrow;cases ha:gC g n m with
 |false=>
  rw[ha]at H1;have HS0:bF g n h m (-1):=by
   by_cases e:n=m
   .subst e;exact BO ha
   .exact yQ e
  have HS:Hid (bF g n h m (-1)):=HS0;clear HS0;go_enter Tryz0.func87,Tryz.ntmps87
  go_wp2_with(go_at_call 109;refine H1.mono ?_;clear H1;rintro e w1 ⟨rfl,hb1⟩)
  go_ret;exact⟨⟨-1,rfl,HS.out⟩,hb1⟩
 |true=>
  rw[ha]at H1;have e:n=m:=by
   by_cases e:n=m
   .exact e
   .rw[sk e]at ha;cases ha
  subst e;cases hb:gC h n n with
  |false=>
   have HS:Hid (bF g n h n (-1)):=BP hb;go_enter Tryz0.func87,Tryz.ntmps87
   go_wp2_with(first|(go_at_call 109;refine H1.mono ?_;clear H1;rintro e w1 ⟨rfl,hb1⟩)|(go_at_call 109;refine(ka _ _ _ _ n h _ (by unfold maxLen;omega) (by unfold maxLen;omega) (Nat.lt_of_lt_of_le hbs' hb1.size) (hrow'.below hb1 hbs')).mono ?_;rintro e w2 ⟨rfl,hb2⟩))
   go_ret;exact⟨⟨-1,rfl,HS.out⟩,hb1.trans (hb2.mono hb1.size)⟩
  |true=>
   have HA:Hid _:=ha;have HB:Hid _:=hb;go_enter Tryz0.func87,Tryz.ntmps87
   go_wp2_with(first|(go_at_call 109;refine H1.mono ?_;clear H1;rintro e w1 ⟨rfl,hb1⟩)|(go_at_call 109;refine(ka _ _ _ _ n h _ (by unfold maxLen;omega) (by unfold maxLen;omega) (Nat.lt_of_lt_of_le hbs' hb1.size) (hrow'.below hb1 hbs')).mono ?_;rintro e w2 ⟨rfl,hb2⟩;have hB2:Below w.heap.size w w2:=hb1.trans (hb2.mono hb1.size)))
   clear ha hb;go_loopw [5,6] (λz i w'=>∃(k:Nat) (r:Int),k<=n/\i=.int .i64 k/\z=.int .i64 r/\kI g h n (λi q=>i<k) r/\Below w.heap.size w w') (λ_ i _=>n-(intOf i).toNat)
   case atStart=>exact⟨0,0,Nat.zero_le _,rfl,rfl,kI.none (λi k h=>absurd h (Nat.not_lt_zero _)),hB2⟩
   case round=>
    obtain⟨k,r,hk,rfl,rfl,hsh,hB⟩:=hrel;by_cases hlt:k<n
    .have hlt':(k:Int)<n:=by omega
     go_wp2;go_loopw [5,7] (λz i w'=>∃(q:Nat) (r:Int),q<=n/\i=.int .i64 q/\z=.int .i64 r/\kI g h n (λi y=>i<k\/i=k/\y<q) r/\Below w.heap.size w w') (λ_ i _=>n-(intOf i).toNat)
     case atStart=>exact⟨0,r,Nat.zero_le _,rfl,rfl,hsh.mono (λi y _ _ _ h=>by omega),hB⟩
     case round=>
      clear hsh hB;obtain⟨q,r,hq,rfl,rfl,hsh,hB⟩:=hrel;by_cases hlq:q<n
      .have hlq':(q:Int)<n:=by omega
       have hrl:=hsh.low;have hrh:=hsh.high;have hcg:=(hrow.below hB hbs) k hlt;have hch:=(hrow'.below hB hbs') q hlq;cases he:(g k==h q)with
       |false=>
        have HE:Hid (∀x y:Nat,x<n->y<n->g x=h y->(x<k\/x=k/\y<q+1)->x<k\/x=k/\y<q):=by
         have h0:∀x y:Nat,x<n->y<n->g x=h y->(x<k\/x=k/\y<q+1)->x<k\/x=k/\y<q:=by
          intro x y _ _ hxy hc;by_cases e:x=k/\y=q
          .obtain⟨rfl,rfl⟩:=e;rw[hxy]at he;simp at he
          .omega
         exact h0
        have hne:=ax wr;have c0:=λx:af wr=>x.cell hcg
        have c1:=λx:af wr=>x.cell hch
        go_wp2;refine ae (by kernel_rfl) (by kernel_rfl) ?_;repeat(go_big_quiet_step (fail))
        refine wpQuiet_nil (ak ?_);intro w3 hb3;have hne2:=ax w3;have d0:=λx:af w3=>x.cell ((hb3.cell (p:=⟨b,off+k,none⟩) (block_lt_of_cell hcg)).trans hcg)
        have d1:=λx:af w3=>x.cell ((hb3.cell (p:=⟨b',off'+q,none⟩) (block_lt_of_cell hch)).trans hch)
        go_wp2;refine ae (by kernel_rfl) (by kernel_rfl) ?_;repeat(go_big_quiet_step (fail))
        refine wpQuiet_nil (ak ?_);intro w4 hb4;go_wp2;go_roundw
        case rel=>exact⟨q+1,r,by omega,by go_num,rfl,hsh.mono HE.out,hB.trans ((hb3.trans (hb4.mono hb3.size)).mono hB.size)⟩
        case measure=>simp[intOf];omega
       |true=>
        have HX0:g k=h q:=by simpa using he
        have HX:Hid _:=HX0;have HQ:Hid (∀x y:Nat,x<n->y<n->g x=h y->(x<k\/x=k/\y<q+1)->(x<k\/x=k/\y<q)\/x=k/\y=q):=by
         have h0:∀x y:Nat,x<n->y<n->g x=h y->(x<k\/x=k/\y<q+1)->(x<k\/x=k/\y<q)\/x=k/\y=q:=by
          intro x y _ _ _ hc;omega
         exact h0
        clear HX0;have hne:=ax wr;have c0:=λx:af wr=>x.cell hcg
        have c1:=λx:af wr=>x.cell hch
        by_cases h1:r<(k:Int)-q
        .have h2:¬(k:Int)-q<(q:Int)-k:=by omega
         go_wp2;refine ae (by kernel_rfl) (by kernel_rfl) ?_;repeat(go_big_quiet_step (fail))
         refine wpQuiet_nil (ak ?_);intro w3 hb3;have hne2:=ax w3;have d0:=λx:af w3=>x.cell ((hb3.cell (p:=⟨b,off+k,none⟩) (block_lt_of_cell hcg)).trans hcg)
         have d1:=λx:af w3=>x.cell ((hb3.cell (p:=⟨b',off'+q,none⟩) (block_lt_of_cell hch)).trans hch)
         go_wp2;refine ae (by kernel_rfl) (by kernel_rfl) ?_;repeat(go_big_quiet_step (fail))
         refine wpQuiet_nil (ak ?_);intro w4 hb4;go_wp2;go_roundw
         case rel=>exact⟨q+1,(k:Int)-q,by omega,by go_num,by first|rfl|go_num,hsh.more hlt hlq HX.out HQ.out (by omega) (by omega) (by omega) (by omega),hB.trans ((hb3.trans (hb4.mono hb3.size)).mono hB.size)⟩
         case measure=>simp[intOf];omega
        .by_cases h2:r<(q:Int)-k;all_goals
          go_wp2;refine ae (by kernel_rfl) (by kernel_rfl) ?_;repeat(go_big_quiet_step (fail))
          refine wpQuiet_nil (ak ?_);intro w3 hb3;have hne2:=ax w3;have d0:=λx:af w3=>x.cell ((hb3.cell (p:=⟨b,off+k,none⟩) (block_lt_of_cell hcg)).trans hcg)
          have d1:=λx:af w3=>x.cell ((hb3.cell (p:=⟨b',off'+q,none⟩) (block_lt_of_cell hch)).trans hch)
          go_wp2;refine ae (by kernel_rfl) (by kernel_rfl) ?_;repeat(go_big_quiet_step (fail))
          refine wpQuiet_nil (ak ?_);intro w4 hb4;go_wp2;go_roundw
          case rel=>first
           |exact⟨q+1,(q:Int)-k,by omega,by go_num,by first|rfl|go_num,hsh.more hlt hlq HX.out HQ.out (by omega) (by omega) (by omega) (by omega),hB.trans ((hb3.trans (hb4.mono hb3.size)).mono hB.size)⟩
           |exact⟨q+1,r,by omega,by go_num,by first|rfl|go_num,hsh.more hlt hlq HX.out HQ.out (by omega) (by omega) (by omega) (by omega),hB.trans ((hb3.trans (hb4.mono hb3.size)).mono hB.size)⟩
          case measure=>simp[intOf];omega
      .go_wp2;go_roundw
       case rel=>exact⟨k+1,r,by omega,by go_num,rfl,hsh.mono (λi y _ hy _ h=>by omega),hB⟩
       case measure=>simp[intOf];omega
    .go_wp2;go_ret;exact⟨⟨r,rfl,yR HA.out HB.out (hsh.all (λi y hi _ _=>by omega))⟩,hB⟩
end Go.Proofs.YtlmcblcijndipabGreatDoor
