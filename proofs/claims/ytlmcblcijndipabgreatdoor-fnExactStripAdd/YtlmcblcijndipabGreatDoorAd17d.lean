import Derived.Test.YtlmcblcijndipabGreatDoorAd17
set_option linter.unusedVariables false
set_option maxHeartbeats 2000000
namespace Go.Proofs.YtlmcblcijndipabGreatDoor
open Go.RowKit
theorem kC (b off m cap n:Nat)(g:Nat->Int)(w:World)(hm:m<=maxLen)(hn:n<=maxLen)(hbs:b<w.heap.size)(hrow:al w b off m g):
  Calls Tz.prog 109 #[.int .i64 (n:Int),.slice (some ⟨b,off,none⟩) m cap] w λe w'=>e=.returned (.bool (gK g m n))/\Below w.heap.size w w':=by
 unfold maxLen at hm hn;by_cases hl:m=n
 .subst hl;go_enter Tz.func109,Tryz.ntmps109
  go_wp2;go_loopw [5] (λi w'=>∃k:Nat,k<=m/\i=.int .i64 k/\eG g m k/\Below w.heap.size w w') (λi _=>m-(intOf i).toNat)
  case atStart=>exact⟨0,Gs _,rfl,uC g m,Gb _ _⟩
  case round=>
   obtain⟨k,hk,rfl,hord,hB⟩:=hrel;by_cases hlt:k<m
   .have hc:=(hrow.below hB hbs) k hlt;have hlt':(k:Int)<m:=by omega
    cases hi:dN (g k) 0 ((m:Int)-1)with
    |false=>
     have hi0:¬(0<=g k/\g k<m):=by unfold dN at hi;simp at hi;omega
     have HF:Hid (gK g m m=false):=yU hlt hi0;clear hi0;go_wp2_with(go_at_call 59;refine(dQ _ _ _ _).mono ?_;rintro e w' ⟨rfl,rfl⟩)
     go_ret;exact⟨aK HF.out.symm,hB⟩
    |true=>
     have hi0:=sO hi;have HI:Hid (0<=g k/\g k<m):=by
      have h:0<=g k/\g k<m:=by omega
      exact h
     clear hi0;go_wp2_with(go_at_call 59;refine(dQ _ _ _ _).mono ?_;rintro e w' ⟨rfl,rfl⟩)
     go_loopw [6] (λi w'=>∃q:Nat,q<=k/\i=.int .i64 q/\(∀j,j<q->g j≠g k)/\Below w.heap.size w w') (λi _=>k-(intOf i).toNat)
     case atStart=>exact⟨0,Gs _,rfl,λj hj=>absurd hj (Gr _),hB⟩
     case round=>
      clear hB hc;obtain⟨q,hq,rfl,hno,hB⟩:=hrel;by_cases hlq:q<k
      .have hne:=ay wr;have c0:=λx:ag wr=>x.cell ((hrow.below hB hbs) k hlt)
       have c1:=λx:ag wr=>x.cell ((hrow.below hB hbs) q (by omega))
       have hqm:(q:Int)<m:=by omega
       cases he:(g q==g k)with
       |true=>
        have HF:Hid (gK g m m=false):=uE hlq hlt (by simpa using he);go_wp2;refine af (by kernel_rfl) (by kernel_rfl) ?_;repeat(go_big_quiet_step (fail))
        refine wpQuiet_nil (ai ?_);intro w1 hb1;go_wp2;go_ret;exact⟨aK HF.out.symm,hB.trans (hb1.mono hB.size)⟩
       |false=>
        have HE0:g q≠g k:=by simpa using he
        have HE:Hid _:=HE0;clear HE0;go_wp2;refine af (by kernel_rfl) (by kernel_rfl) ?_;repeat(go_big_quiet_step (fail))
        refine wpQuiet_nil (ai ?_);intro w1 hb1;go_wp2;go_roundw
        case rel=>exact⟨q+1,by omega,by go_num,λj hj=>by
         by_cases e:j=q
         .subst e;exact HE.out
         .exact hno j (by omega),hB.trans (hb1.mono hB.size)⟩
        case measure=>simp[intOf];omega
      .go_wp2;go_roundw
       case rel=>exact⟨k+1,by omega,by go_num,uD hord HI.out (λi hi=>hno i (by omega)),hB⟩
       case measure=>simp[intOf];omega
   .go_wp2;go_ret;exact⟨aK (nJ (by rw[show m=k by omega]at hord⊢;exact hord)).symm,hB⟩
 .have HF:Hid (gK g m n=false):=sR hl;have hl':((m:Int)!=n)=true:=by simp;omega
  go_enter Tz.func109,Tryz.ntmps109
  go_wp2;go_ret;exact⟨aK HF.out.symm,Gb _ _⟩
theorem qt (b off n cap:Nat)(g:Nat->Int)(w:World)(hn:n<=1048576)(hbs:b<w.heap.size)(hrow:al w b off n g)(hord:eG g n n):
  Calls Tz.prog 239 #[.slice (some ⟨b,off,none⟩) n cap] w λe w'=>e=.returned (.slice (some ⟨w.heap.size,0,none⟩) n n)/\an w' w.heap.size n (jD g n)/\Below w.heap.size w w':=by
 have hmk:=gJ n hn;go_enter Tz.func239,Tryz.ntmps239
 go_wp2;go_loopw [11] (λi w'=>∃k:Nat,k<=n/\i=.int .i64 k/\an w' w.heap.size n (jD g k)/\Below w.heap.size w w') (λi _=>n-(intOf i).toNat)
 case atStart=>exact⟨0,Gs _,rfl,(eK w n).congr (λi hi=>rfl),(Gb _ _).alloc (Gm _) _⟩
 case round=>
  obtain⟨k,hk,rfl,hown,hB⟩:=hrel;by_cases hlt:k<n
  .have hc:=(hrow.below hB hbs) k hlt;have hlt':(k:Int)<n:=by omega
   have hin:=hord.1 k hlt;obtain⟨p,hp⟩:∃p:Nat,g k=(p:Int):=⟨(g k).toNat,by omega⟩;have hpn:p<n:=by omega
   have hpn':(p:Int)<n:=by omega
   have HP:Hid _:=hp;rw[hp]at hc;clear hp hin;have hd:=hown.cellAt p hpn;have hfz:=hown.frozen p;go_wp2;go_roundw
   case rel=>exact⟨k+1,by omega,by go_num,(hown.set p hpn (k:Int)).congr (λq hq=>by
    simp only[jD];rw[HP.out];by_cases e:q=p
    .subst e;rw[if_pos rfl,if_pos rfl]
    .rw[if_neg e,if_neg (by omega)]),hB.setCell (by simp) _⟩
   case measure=>simp[intOf];omega
  .go_wp2;go_ret;have hkn:k=n:=by omega
   subst hkn;exact⟨rfl,hown,hB⟩
theorem jX (b off n cap b' off' cap':Nat)(g h:Nat->Int)(w:World)(hn:n<=1048576)(hbs:b<w.heap.size)(hrow:al w b off n g)(hord:eG g n n)(hbs':b'<w.heap.size)(hrow':al w b' off' n h)(hord':eG h n n):
  Calls Tz.prog 207 #[.slice (some ⟨b,off,none⟩) n cap,.slice (some ⟨b',off',none⟩) n cap'] w λe w'=>(∃r,e=.returned (.int .i64 r)/\bO g h n r)/\Below w.heap.size w w':=by
 have H1:=qt b off n cap g w hn hbs hrow hord;go_enter Tz.func207,Tryz.ntmps207
 go_wp2_with(first|(go_at_call 239;refine H1.mono ?_;clear H1;rintro e w1 ⟨rfl,hown1,hb1⟩)|(go_at_call 239;refine(qt _ _ _ _ h _ hn (Gn hbs' hb1.size) (hrow'.below hb1 hbs') hord').mono ?_;rintro e w2 ⟨rfl,hown2,hb2⟩))
 have hB2:Below w.heap.size w w2:=hb1.trans (hb2.mono hb1.size);have hown12:=hown1.below hb2 hown1.lt;go_loopw [7,15] (λz i w'=>∃(k:Nat) (r:Int),k<=n/\i=.int .i64 k/\z=.int .i64 r/\kO g h n (λi q=>g i<k) r/\Below w2.heap.size w2 w') (λ_ i _=>n-(intOf i).toNat)
 case atStart=>exact⟨0,0,Gs _,rfl,rfl,⟨Int.le_refl _,by omega,λi q hi _ _ h0=>absurd h0 (by have:=(hord.1 i hi).1;simp;omega),.inl rfl⟩,Gb _ _⟩
 case round=>
  obtain⟨k,r,hk,rfl,rfl,hsh,hB⟩:=hrel;by_cases hlt:k<n
  .have hlt':(k:Int)<n:=by omega
   have hc:=(hown12.below hB hown12.lt).cellAt k hlt;have hd:=(hown2.below hB hown2.lt).cellAt k hlt;obtain⟨i,hi,hik⟩:=hord.surj k hlt;obtain⟨q,hq,hqk⟩:=hord'.surj k hlt;rw[kh hord hik n (Gm _) hi]at hc;rw[kh hord' hqk n (Gm _) hq]at hd;have hiq:g i=h q:=by rw[hik,hqk]
   have HX:Hid _:=hiq;have HP0:∀x y:Nat,x<n->y<n->g x=h y->g x<((k+1:Nat):Int)->g x<k\/x=i/\y=q:=by
    intro x y hx hy hxy hg;by_cases e:g x<k
    .exact .inl e
    .have e1:g x=g i:=by rw[hik];omega
     have e2:h y=h q:=by rw[hqk,<-hxy];omega
     refine .inr ⟨?_,?_⟩
     .rcases Nat.lt_trichotomy x i with l|l|l
      .exact absurd e1 (hord.2 x i l hi)
      .exact l
      .exact absurd e1.symm (hord.2 i x l hx)
     .rcases Nat.lt_trichotomy y q with l|l|l
      .exact absurd e2 (hord'.2 y q l hq)
      .exact l
      .exact absurd e2.symm (hord'.2 q y l hy)
   have HP:Hid _:=HP0;have hrl:=hsh.low;have hrh:=hsh.high;clear hiq hik hqk HP0;have hne:=ay wr;have c0:=λx:ag wr=>x.cell hc
   have c1:=λx:ag wr=>x.cell hd
   by_cases h1:r<(i:Int)-q
   .have h2:¬(i:Int)-q<(q:Int)-i:=by omega
    go_wp2;refine af (by kernel_rfl) (by kernel_rfl) ?_;repeat(go_big_quiet_step (fail))
    refine wpQuiet_nil (ai ?_);intro w3 hb3;go_wp2;go_roundw
    case rel=>exact⟨k+1,(i:Int)-q,by omega,by go_num,by first|rfl|go_num,hsh.more hi hq HX.out HP.out (by omega) (by omega) (by omega) (by omega),hB.trans (hb3.mono hB.size)⟩
    case measure=>simp[intOf];omega
   .by_cases h2:r<(q:Int)-i
    .go_wp2;refine af (by kernel_rfl) (by kernel_rfl) ?_;repeat(go_big_quiet_step (fail))
     refine wpQuiet_nil (ai ?_);intro w3 hb3;go_wp2;go_roundw
     case rel=>exact⟨k+1,(q:Int)-i,by omega,by go_num,by first|rfl|go_num,hsh.more hi hq HX.out HP.out (by omega) (by omega) (by omega) (by omega),hB.trans (hb3.mono hB.size)⟩
     case measure=>simp[intOf];omega
    .go_wp2;refine af (by kernel_rfl) (by kernel_rfl) ?_;repeat(go_big_quiet_step (fail))
     refine wpQuiet_nil (ai ?_);intro w3 hb3;go_wp2;go_roundw
     case rel=>exact⟨k+1,r,by omega,by go_num,by first|rfl|go_num,hsh.more hi hq HX.out HP.out (by omega) (by omega) (by omega) (by omega),hB.trans (hb3.mono hB.size)⟩
     case measure=>simp[intOf];omega
  .go_wp2;go_ret;exact⟨⟨r,rfl,hsh.all (λi q hi _ _=>by have:=(hord.1 i hi).2;omega)⟩,hB2.trans (hB.mono hB2.size)⟩
theorem Ae {a b:Nat->Int}{n m:Nat}(h:n≠m):bE a n b m (-1):=by unfold bE;rw[if_neg (λhh=>h hh.1)]
theorem Dw {a b:Nat->Int}{n m:Nat}(h:gK a n n=false):bE a n b m (-1):=by unfold bE;rw[if_neg (λhh=>by rw[h]at hh;exact absurd hh.2.1 (by simp))]
theorem Dx {a b:Nat->Int}{n m:Nat}(h:gK b n n=false):bE a n b m (-1):=by unfold bE;rw[if_neg (λhh=>by rw[h]at hh;exact absurd hh.2.2 (by simp))]
theorem Af {a b:Nat->Int}{n:Nat}{r:Int}(ha:gK a n n=true)(hb:gK b n n=true)(h:bO a b n r):bE a n b n r:=by unfold bE;rw[if_pos ⟨rfl,ha,hb⟩];exact h
theorem pM (b off n cap b' off' m cap':Nat)(g h:Nat->Int)(w:World)(hn:n<=1048576)(hm:m<=1048576)(hbs:b<w.heap.size)(hrow:al w b off n g)(hbs':b'<w.heap.size)(hrow':al w b' off' m h):
  Calls Tz.prog 87 #[.slice (some ⟨b,off,none⟩) n cap,.slice (some ⟨b',off',none⟩) m cap'] w λe w'=>(∃r,e=.returned (.int .i64 r)/\bE g n h m r)/\Below w.heap.size w w':=by
 have H1:=kC b off n cap m g w (by unfold maxLen;omega) (by unfold maxLen;omega) hbs hrow;cases ha:gK g n m with
 |false=>
  rw[ha]at H1;have HS0:bE g n h m (-1):=by
   by_cases e:n=m
   .subst e;exact Dw ha
   .exact Ae e
  have HS:Hid (bE g n h m (-1)):=HS0;clear HS0;go_enter Tz.func87,Tryz.ntmps87
  go_wp2_with(go_at_call 109;refine H1.mono ?_;clear H1;rintro e w1 ⟨rfl,hb1⟩)
  go_ret;exact⟨⟨-1,rfl,HS.out⟩,hb1⟩
 |true=>
  rw[ha]at H1;have e:n=m:=by
   by_cases e:n=m
   .exact e
   .rw[sR e]at ha;cases ha
  subst e;cases hb:gK h n n with
  |false=>
   have HS:Hid (bE g n h n (-1)):=Dx hb;go_enter Tz.func87,Tryz.ntmps87
   go_wp2_with(first|(go_at_call 109;refine H1.mono ?_;clear H1;rintro e w1 ⟨rfl,hb1⟩)|(go_at_call 109;refine(kC _ _ _ _ n h _ (by unfold maxLen;omega) (by unfold maxLen;omega) (Gn hbs' hb1.size) (hrow'.below hb1 hbs')).mono ?_;rintro e w2 ⟨rfl,hb2⟩))
   go_ret;exact⟨⟨-1,rfl,HS.out⟩,hb1.trans (hb2.mono hb1.size)⟩
  |true=>
   have HA:Hid _:=ha;have HB:Hid _:=hb;go_enter Tz.func87,Tryz.ntmps87
   go_wp2_with(first|(go_at_call 109;refine H1.mono ?_;clear H1;rintro e w1 ⟨rfl,hb1⟩)|(go_at_call 109;refine(kC _ _ _ _ n h _ (by unfold maxLen;omega) (by unfold maxLen;omega) (Gn hbs' hb1.size) (hrow'.below hb1 hbs')).mono ?_;rintro e w2 ⟨rfl,hb2⟩;have hB2:Below w.heap.size w w2:=hb1.trans (hb2.mono hb1.size)))
   clear ha hb;go_loopw [5,6] (λz i w'=>∃(k:Nat) (r:Int),k<=n/\i=.int .i64 k/\z=.int .i64 r/\kO g h n (λi q=>i<k) r/\Below w.heap.size w w') (λ_ i _=>n-(intOf i).toNat)
   case atStart=>exact⟨0,0,Gs _,rfl,rfl,kO.none (λi k h=>absurd h (Gr _)),hB2⟩
   case round=>
    obtain⟨k,r,hk,rfl,rfl,hsh,hB⟩:=hrel;by_cases hlt:k<n
    .have hlt':(k:Int)<n:=by omega
     go_wp2;go_loopw [5,7] (λz i w'=>∃(q:Nat) (r:Int),q<=n/\i=.int .i64 q/\z=.int .i64 r/\kO g h n (λi y=>i<k\/i=k/\y<q) r/\Below w.heap.size w w') (λ_ i _=>n-(intOf i).toNat)
     case atStart=>exact⟨0,r,Gs _,rfl,rfl,hsh.mono (λi y _ _ _ h=>by omega),hB⟩
     case round=>
      clear hsh hB;obtain⟨q,r,hq,rfl,rfl,hsh,hB⟩:=hrel;by_cases hlq:q<n
      .have hlq':(q:Int)<n:=by omega
       have hrl:=hsh.low;have hrh:=hsh.high;have hcg:=(hrow.below hB hbs) k hlt;have hch:=(hrow'.below hB hbs') q hlq;cases he:(g k==h q)with
       |false=>
        have HE:Hid (∀x y:Nat,x<n->y<n->g x=h y->(x<k\/x=k/\y<q+1)->x<k\/x=k/\y<q):=by
         have h0:∀x y:Nat,x<n->y<n->g x=h y->(x<k\/x=k/\y<q+1)->x<k\/x=k/\y<q:=by
          intro x y _ _ hxy hc;by_cases e:x=k/\y=q
          .obtain⟨rfl,rfl⟩:=e;rw[hxy]at he;simp at he
          .omega
         exact h0
        have hne:=ay wr;have c0:=λx:ag wr=>x.cell hcg
        have c1:=λx:ag wr=>x.cell hch
        go_wp2;refine af (by kernel_rfl) (by kernel_rfl) ?_;repeat(go_big_quiet_step (fail))
        refine wpQuiet_nil (ai ?_);intro w3 hb3;have hne2:=ay w3;have d0:=λx:ag w3=>x.cell ((hb3.cell (p:=⟨b,off+k,none⟩) (block_lt_of_cell hcg)).trans hcg)
        have d1:=λx:ag w3=>x.cell ((hb3.cell (p:=⟨b',off'+q,none⟩) (block_lt_of_cell hch)).trans hch)
        go_wp2;refine af (by kernel_rfl) (by kernel_rfl) ?_;repeat(go_big_quiet_step (fail))
        refine wpQuiet_nil (ai ?_);intro w4 hb4;go_wp2;go_roundw
        case rel=>exact⟨q+1,r,by omega,by go_num,rfl,hsh.mono HE.out,hB.trans ((hb3.trans (hb4.mono hb3.size)).mono hB.size)⟩
        case measure=>simp[intOf];omega
       |true=>
        have HX0:g k=h q:=by simpa using he
        have HX:Hid _:=HX0;have HQ:Hid (∀x y:Nat,x<n->y<n->g x=h y->(x<k\/x=k/\y<q+1)->(x<k\/x=k/\y<q)\/x=k/\y=q):=by
         have h0:∀x y:Nat,x<n->y<n->g x=h y->(x<k\/x=k/\y<q+1)->(x<k\/x=k/\y<q)\/x=k/\y=q:=by
          intro x y _ _ _ hc;omega
         exact h0
        clear HX0;have hne:=ay wr;have c0:=λx:ag wr=>x.cell hcg
        have c1:=λx:ag wr=>x.cell hch
        by_cases h1:r<(k:Int)-q
        .have h2:¬(k:Int)-q<(q:Int)-k:=by omega
         go_wp2;refine af (by kernel_rfl) (by kernel_rfl) ?_;repeat(go_big_quiet_step (fail))
         refine wpQuiet_nil (ai ?_);intro w3 hb3;have hne2:=ay w3;have d0:=λx:ag w3=>x.cell ((hb3.cell (p:=⟨b,off+k,none⟩) (block_lt_of_cell hcg)).trans hcg)
         have d1:=λx:ag w3=>x.cell ((hb3.cell (p:=⟨b',off'+q,none⟩) (block_lt_of_cell hch)).trans hch)
         go_wp2;refine af (by kernel_rfl) (by kernel_rfl) ?_;repeat(go_big_quiet_step (fail))
         refine wpQuiet_nil (ai ?_);intro w4 hb4;go_wp2;go_roundw
         case rel=>exact⟨q+1,(k:Int)-q,by omega,by go_num,by first|rfl|go_num,hsh.more hlt hlq HX.out HQ.out (by omega) (by omega) (by omega) (by omega),hB.trans ((hb3.trans (hb4.mono hb3.size)).mono hB.size)⟩
         case measure=>simp[intOf];omega
        .by_cases h2:r<(q:Int)-k;all_goals
          go_wp2;refine af (by kernel_rfl) (by kernel_rfl) ?_;repeat(go_big_quiet_step (fail))
          refine wpQuiet_nil (ai ?_);intro w3 hb3;have hne2:=ay w3;have d0:=λx:ag w3=>x.cell ((hb3.cell (p:=⟨b,off+k,none⟩) (block_lt_of_cell hcg)).trans hcg)
          have d1:=λx:ag w3=>x.cell ((hb3.cell (p:=⟨b',off'+q,none⟩) (block_lt_of_cell hch)).trans hch)
          go_wp2;refine af (by kernel_rfl) (by kernel_rfl) ?_;repeat(go_big_quiet_step (fail))
          refine wpQuiet_nil (ai ?_);intro w4 hb4;go_wp2;go_roundw
          case rel=>first
           |exact⟨q+1,(q:Int)-k,by omega,by go_num,by first|rfl|go_num,hsh.more hlt hlq HX.out HQ.out (by omega) (by omega) (by omega) (by omega),hB.trans ((hb3.trans (hb4.mono hb3.size)).mono hB.size)⟩
           |exact⟨q+1,r,by omega,by go_num,by first|rfl|go_num,hsh.more hlt hlq HX.out HQ.out (by omega) (by omega) (by omega) (by omega),hB.trans ((hb3.trans (hb4.mono hb3.size)).mono hB.size)⟩
          case measure=>simp[intOf];omega
      .go_wp2;go_roundw
       case rel=>exact⟨k+1,r,by omega,by go_num,rfl,hsh.mono (λi y _ hy _ h=>by omega),hB⟩
       case measure=>simp[intOf];omega
    .go_wp2;go_ret;exact⟨⟨r,rfl,Af HA.out HB.out (hsh.all (λi y hi _ _=>by omega))⟩,hB⟩
