import Derived.Test.YtlmcblcijndipaaGreatDoorj17
set_option maxHeartbeats 2000000
namespace Go.Proofs.YtlmcblcijndipaaGreatDoor
section
open RowKit
theorem ru (b off m cap n:Nat)(g:Nat->Int)(w:World)(hm:m<=maxLen)(hn:n<=maxLen)(bw:b<w)(aq:aB w b off m g):
  Calls Tz.prog 132 #[.int .i64 (n:Int),.slice (some ⟨b,off,none⟩) m cap] w λe w'=>e=.returned (.bool (mE g m n))/\Below w.heap.size w w':=by
 unfold maxLen at hm hn;by_cases hl:m=n
 .subst hl;go_enter Tz.func132,Tryz.ntmps132
  go_wp2;go_loopw [5] (λi w'=>∃k:Nat,k<=m/\i=.int .i64 k/\iN g m k/\Below w w w') (λi _=>m-(intOf i).toNat)
  case atStart=>exact⟨0,acp _,rfl,Ed g m,aca _ _⟩
  case round=>
   obtain⟨k,hk,rfl,qS,hB⟩:=hrel;by_cases aI:k<m
   .have hc:=(aq.below hB bw) k aI;have dG:(k:Int)<m:=ab;cases hi:iu (g k) 0 ((m:Int)-1)with
    |false=>
     have DS:¬(0<=g k/\g k<m):=by unfold iu at hi;simp at hi;omega
     have HF:Hid (mE g m m=false):=L4 aI DS;clear DS;go_wp2_with(go_at_call 70;refine(gJ _ _ _ _).mono ?_;rintro e w' ⟨rfl,rfl⟩)
     go_ret;exact⟨bN HF.out.symm,hB⟩
    |true=>
     have DS:=Cr hi;have HI:Hid (0<=g k/\g k<m):=by
      have h:0<=g k/\g k<m:=ab;exact h
     clear DS;go_wp2_with(go_at_call 70;refine(gJ _ _ _ _).mono ?_;rintro e w' ⟨rfl,rfl⟩)
     go_loopw [6] (λi w'=>∃q:Nat,q<=k/\i=.int .i64 q/\(∀j,j<q->g j≠g k)/\Below w w w') (λi _=>k-(intOf i).toNat)
     case atStart=>exact⟨0,acp _,rfl,λj hj=>absurd hj (aco _),hB⟩
     case round=>
      clear hB hc;obtain⟨q,hq,rfl,lp,hB⟩:=hrel;by_cases GM:q<k
      .have hne:=aE wr;have c0:=λx:aj wr=>x.cell ((aq.below hB bw) k aI)
       have c1:=λx:aj wr=>x.cell ((aq.below hB bw) q ab)
       have hqm:(q:Int)<m:=ab;cases he:(g q==g k)with
       |true=>
        have HF:Hid (mE g m m=false):=Fz GM aI (by simpa using he);go_wp2;refine ah ?_;repeat(go_big_quiet_step (fail))
        refine wpQuiet_nil (ak ?_);intro w1 bF;go_wp2;go_ret;exact⟨bN HF.out.symm,hB.trans (bF.mono hB.size)⟩
       |false=>
        have Ht:g q≠g k:=by simpa using he
        have HE:Hid _:=Ht;clear Ht;go_wp2;refine ah ?_;repeat(go_big_quiet_step (fail))
        refine wpQuiet_nil (ak ?_);intro w1 bF;go_wp2;go_roundw
        case rel=>exact⟨q+1,ab,by go_num,λj hj=>by
         by_cases e:j=q
         .subst e;exact HE.out
         .exact lp j ab,hB.trans (bF.mono hB.size)⟩
        case measure=>exact cf
      .go_wp2;go_roundw
       case rel=>exact⟨k+1,ab,by go_num,Ec qS HI.out (λi hi=>lp i ab),hB⟩
       case measure=>exact cf
   .go_wp2;go_ret;exact⟨bN (wI (by rw[show m=k by omega]at qS⊢;exact qS)).symm,hB⟩
 .have HF:Hid (mE g m n=false):=CX hl;have ll:((m:Int)!=n)=true:=cC;go_enter Tz.func132,Tryz.ntmps132
  go_wp2;go_ret;exact⟨bN HF.out.symm,aca _ _⟩
theorem zx (b off n cap:Nat)(g:Nat->Int)(w:World)(hn:n<=1048576)(bw:b<w)(aq:aB w b off n g)(qS:iN g n n):
  Calls Tz.prog 201 #[.slice (some ⟨b,off,none⟩) n cap] w λe w'=>e=.returned (.slice w.heap.size n n)/\aJ w' w.heap.size n (p6 g n)/\Below w w w':=by
 have Nr:=tB n hn;go_enter Tz.func201,Tryz.ntmps201
 go_wp2;go_loopw [11] (λi w'=>∃k:Nat,k<=n/\i=.int .i64 k/\aJ w' w.heap.size n (p6 g k)/\Below w w w') (λi _=>n-(intOf i).toNat)
 case atStart=>exact⟨0,acp _,rfl,(mz w n).congr (λi hi=>rfl),(aca _ _).alloc (ack _) _⟩
 case round=>
  obtain⟨k,hk,rfl,aU,hB⟩:=hrel;by_cases aI:k<n
  .have hc:=(aq.below hB bw) k aI;have dG:(k:Int)<n:=ab;have gY:=qS.1 k aI;obtain⟨p,hp⟩:∃p:Nat,g k=(p:Int):=⟨(g k).toNat,ab⟩;have UL:p<n:=ab;have abH:(p:Int)<n:=ab;have HP:Hid _:=hp;rw[hp]at hc;clear hp gY;have hd:=aU.cellAt p UL;have Qp:=aU.frozen p;go_wp2;go_roundw
   case rel=>exact⟨k+1,ab,by go_num,(aU.set p UL (k:Int)).congr (λq hq=>by
    simp only[p6];rw[HP.out];by_cases e:q=p
    .subst e;rw[if_pos rfl,if_pos rfl]
    .rw[if_neg e,if_neg ab]),hB.setCell aH _⟩
   case measure=>exact cf
  .go_wp2;go_ret;have qo:k=n:=ab;subst qo;exact⟨rfl,aU,hB⟩
theorem qu (b off n cap b' aW cap':Nat)(g h:Nat->Int)(w:World)(hn:n<=1048576)(bw:b<w)(aq:aB w b off n g)(qS:iN g n n)(bc:b'<w)(aK:aB w b' aW n h)(wj:iN h n n):
  Calls Tz.prog 164 #[.slice (some ⟨b,off,none⟩) n cap,.slice (some ⟨b',aW,none⟩) n cap'] w λe w'=>(∃r,e=.returned (.int .i64 r)/\er g h n r)/\Below w w w':=by
 have H1:=zx b off n cap g w hn bw aq qS;go_enter Tz.func164,Tryz.ntmps164
 go_wp2_with(first|(go_at_call 201;refine H1.mono ?_;clear H1;rintro e w1 ⟨rfl,fC,bF⟩)|(go_at_call 201;refine(zx _ _ _ _ h _ hn (acl bc bF.size) (aK.below bF bc) wj).mono ?_;rintro e w2 ⟨rfl,GO,cH⟩))
 have qI:Below w w w2:=bF.trans (cH.mono bF.size);have Lo:=fC.below cH fC.lt;go_loopw [7,15] (λz i w'=>∃(k:Nat) (r:Int),k<=n/\i=.int .i64 k/\z=.int .i64 r/\rO g h n (λi q=>g i<k) r/\Below w2.heap.size w2 w') (λ_ i _=>n-(intOf i).toNat)
 case atStart=>exact⟨0,0,acp _,rfl,rfl,⟨Int.le_refl _,ab,λi q hi _ _ h0=>absurd h0 (by have:=(qS.1 i hi).1;simp;omega),.inl rfl⟩,aca _ _⟩
 case round=>
  obtain⟨k,r,hk,rfl,rfl,jh,hB⟩:=hrel;by_cases aI:k<n
  .have dG:(k:Int)<n:=by omega
   have hc:=(Lo.below hB Lo.lt).cellAt k aI;have hd:=(GO.below hB GO.lt).cellAt k aI;obtain⟨i,hi,Zd⟩:=qS.yq k aI;obtain⟨q,hq,QG⟩:=wj.yq k aI;rw[rD qS Zd n (ack _) hi]at hc;rw[rD wj QG n (ack _) hq]at hd;have hiq:g i=h q:=by rw[Zd,QG]
   have HX:Hid _:=hiq;have HP0:∀x y:Nat,x<n->y<n->g x=h y->g x<((k+1:Nat):Int)->g x<k\/x=i/\y=q:=by
    intro x y hx hy QO hg;by_cases e:g x<k
    .exact .inl e
    .have e1:g x=g i:=by rw[Zd];omega
     have e2:h y=h q:=by rw[QG,<-QO];omega
     refine .inr ⟨?_,?_⟩
     .rcases Nat.lt_trichotomy x i with l|l|l
      .exact absurd e1 (qS.2 x i l hi)
      .exact l
      .exact absurd e1.symm (qS.2 i x l hx)
     .rcases Nat.lt_trichotomy y q with l|l|l
      .exact absurd e2 (wj.2 y q l hq)
      .exact l
      .exact absurd e2.symm (wj.2 q y l hy)
   have HP:Hid _:=HP0;have hrl:=jh.low;have hrh:=jh.high;clear hiq Zd QG HP0;have hne:=aE wr;have c0:=λx:aj wr=>x.cell hc
   have c1:=λx:aj wr=>x.cell hd
   by_cases h1:r<(i:Int)-q
   .have h2:¬(i:Int)-q<(q:Int)-i:=by omega
    go_wp2;refine ah ?_;repeat(go_big_quiet_step (fail))
    refine wpQuiet_nil (ak ?_);intro w3 gZ;go_wp2;go_roundw
    case rel=>exact⟨k+1,(i:Int)-q,ab,by go_num,by first|rfl|go_num,jh.more hi hq HX.out HP.out ab ab ab ab,hB.trans (gZ.mono hB.size)⟩
    case measure=>exact cf
   .by_cases h2:r<(q:Int)-i
    .go_wp2;refine ah ?_;repeat(go_big_quiet_step (fail))
     refine wpQuiet_nil (ak ?_);intro w3 gZ;go_wp2;go_roundw
     case rel=>exact⟨k+1,(q:Int)-i,ab,by go_num,by first|rfl|go_num,jh.more hi hq HX.out HP.out ab ab ab ab,hB.trans (gZ.mono hB.size)⟩
     case measure=>exact cf
    .go_wp2;refine ah ?_;repeat(go_big_quiet_step (fail))
     refine wpQuiet_nil (ak ?_);intro w3 gZ;go_wp2;go_roundw
     case rel=>exact⟨k+1,r,ab,by go_num,by first|rfl|go_num,jh.more hi hq HX.out HP.out ab ab ab ab,hB.trans (gZ.mono hB.size)⟩
     case measure=>exact cf
  .go_wp2;go_ret;exact⟨⟨r,rfl,jh.all (λi q hi _ _=>by have:=(qS.1 i hi).2;omega)⟩,qI.trans (hB.mono qI.size)⟩
end
section
open RowKit
variable {a b:Nat->Int}{n m:Nat}
theorem Ml (h:n≠m):dR a n b m (-1):=by unfold dR;rw[if_neg (λhh=>h hh.1)]
theorem TW (h:mE a n n=false):dR a n b m (-1):=by unfold dR;rw[if_neg (λhh=>by rw[h]at hh;exact absurd hh.2.1 aH)]
theorem TX (h:mE b n n=false):dR a n b m (-1):=by unfold dR;rw[if_neg (λhh=>by rw[h]at hh;exact absurd hh.2.2 aH)]
theorem Mn {r:Int}(ha:mE a n n=true)(hb:mE b n n=true)(h:er a b n r):dR a n b n r:=by unfold dR;rw[if_pos ⟨rfl,ha,hb⟩];exact h
theorem yj (b off n cap b' aW m cap':Nat)(g h:Nat->Int)(w:World)(hn:n<=1048576)(hm:m<=1048576)(bw:b<w)(aq:aB w b off n g)(bc:b'<w)(aK:aB w b' aW m h):
  Calls Tz.prog 103 #[.slice (some ⟨b,off,none⟩) n cap,.slice (some ⟨b',aW,none⟩) m cap'] w λe w'=>(∃r,e=.returned (.int .i64 r)/\dR g n h m r)/\Below w w w':=by
 have H1:=ru b off n cap m g w iI iI bw aq;cases ha:mE g n m with
 |false=>
  rw[ha]at H1;have NQ:dR g n h m (-1):=by
   by_cases e:n=m
   .subst e;exact TW ha
   .exact Ml e
  have HS:Hid (dR g n h m (-1)):=NQ;clear NQ;go_enter Tz.func103,Tryz.ntmps103
  go_wp2_with(go_at_call 132;refine H1.mono ?_;clear H1;rintro e w1 ⟨rfl,bF⟩)
  go_ret;exact⟨⟨-1,rfl,HS.out⟩,bF⟩
 |true=>
  rw[ha]at H1;have e:n=m:=by
   by_cases e:n=m
   .exact e
   .rw[CX e]at ha;cases ha
  subst e;cases hb:mE h n n with
  |false=>
   have HS:Hid (dR g n h n (-1)):=TX hb;go_enter Tz.func103,Tryz.ntmps103
   go_wp2_with(first|(go_at_call 132;refine H1.mono ?_;clear H1;rintro e w1 ⟨rfl,bF⟩)|(go_at_call 132;refine(ru _ _ _ _ n h _ iI iI (acl bc bF.size) (aK.below bF bc)).mono ?_;rintro e w2 ⟨rfl,cH⟩))
   go_ret;exact⟨⟨-1,rfl,HS.out⟩,bF.trans (cH.mono bF.size)⟩
  |true=>
   have HA:Hid _:=ha;have HB:Hid _:=hb;go_enter Tz.func103,Tryz.ntmps103
   go_wp2_with(first|(go_at_call 132;refine H1.mono ?_;clear H1;rintro e w1 ⟨rfl,bF⟩)|(go_at_call 132;refine(ru _ _ _ _ n h _ iI iI (acl bc bF.size) (aK.below bF bc)).mono ?_;rintro e w2 ⟨rfl,cH⟩;have qI:Below w.heap.size w w2:=bF.trans (cH.mono bF.size)))
   clear ha hb;go_loopw [5,6] (λz i w'=>∃(k:Nat) (r:Int),k<=n/\i=.int .i64 k/\z=.int .i64 r/\rO g h n (λi q=>i<k) r/\Below w.heap.size w w') (λ_ i _=>n-(intOf i).toNat)
   case atStart=>exact⟨0,0,acp _,rfl,rfl,rO.none (λi k h=>absurd h (aco _)),qI⟩
   case round=>
    obtain⟨k,r,hk,rfl,rfl,jh,hB⟩:=hrel;by_cases aI:k<n
    .have dG:(k:Int)<n:=by omega
     go_wp2;go_loopw [5,7] (λz i w'=>∃(q:Nat) (r:Int),q<=n/\i=.int .i64 q/\z=.int .i64 r/\rO g h n (λi y=>i<k\/i=k/\y<q) r/\Below w.heap.size w w') (λ_ i _=>n-(intOf i).toNat)
     case atStart=>exact⟨0,r,acp _,rfl,rfl,jh.mono (λi y _ _ _ h=>ab),hB⟩
     case round=>
      clear jh hB;obtain⟨q,r,hq,rfl,rfl,jh,hB⟩:=hrel;by_cases GM:q<n
      .have WP:(q:Int)<n:=by omega
       have hrl:=jh.low;have hrh:=jh.high;have Qn:=(aq.below hB bw) k aI;have Be:=(aK.below hB bc) q GM;cases he:(g k==h q)with
       |false=>
        have HE:Hid (∀x y:Nat,x<n->y<n->g x=h y->(x<k\/x=k/\y<q+1)->x<k\/x=k/\y<q):=by
         have h0:∀x y:Nat,x<n->y<n->g x=h y->(x<k\/x=k/\y<q+1)->x<k\/x=k/\y<q:=by
          intro x y _ _ QO hc;by_cases e:x=k/\y=q
          .obtain⟨rfl,rfl⟩:=e;rw[QO]at he;simp at he
          .omega
         exact h0
        have hne:=aE wr;have c0:=λx:aj wr=>x.cell Qn
        have c1:=λx:aj wr=>x.cell Be
        go_wp2;refine ah ?_;repeat(go_big_quiet_step (fail))
        refine wpQuiet_nil (ak ?_);intro w3 gZ;have WU:=aE w3;have d0:=λx:aj w3=>x.cell ((gZ.cell (p:=⟨b,off+k,none⟩) (block_lt_of_cell Qn)).trans Qn)
        have d1:=λx:aj w3=>x.cell ((gZ.cell (p:=⟨b',aW+q,none⟩) (block_lt_of_cell Be)).trans Be)
        go_wp2;refine ah ?_;repeat(go_big_quiet_step (fail))
        refine wpQuiet_nil (ak ?_);intro w4 DQ;go_wp2;go_roundw
        case rel=>exact⟨q+1,r,ab,by go_num,rfl,jh.mono HE.out,hB.trans ((gZ.trans (DQ.mono gZ.size)).mono hB.size)⟩
        case measure=>exact cf
       |true=>
        have HX0:g k=h q:=by simpa using he
        have HX:Hid _:=HX0;have HQ:Hid (∀x y:Nat,x<n->y<n->g x=h y->(x<k\/x=k/\y<q+1)->(x<k\/x=k/\y<q)\/x=k/\y=q):=by
         have h0:∀x y:Nat,x<n->y<n->g x=h y->(x<k\/x=k/\y<q+1)->(x<k\/x=k/\y<q)\/x=k/\y=q:=by
          intro x y _ _ _ hc;omega
         exact h0
        clear HX0;have hne:=aE wr;have c0:=λx:aj wr=>x.cell Qn
        have c1:=λx:aj wr=>x.cell Be
        by_cases h1:r<(k:Int)-q
        .have h2:¬(k:Int)-q<(q:Int)-k:=by omega
         go_wp2;refine ah ?_;repeat(go_big_quiet_step (fail))
         refine wpQuiet_nil (ak ?_);intro w3 gZ;have WU:=aE w3;have d0:=λx:aj w3=>x.cell ((gZ.cell (p:=⟨b,off+k,none⟩) (block_lt_of_cell Qn)).trans Qn)
         have d1:=λx:aj w3=>x.cell ((gZ.cell (p:=⟨b',aW+q,none⟩) (block_lt_of_cell Be)).trans Be)
         go_wp2;refine ah ?_;repeat(go_big_quiet_step (fail))
         refine wpQuiet_nil (ak ?_);intro w4 DQ;go_wp2;go_roundw
         case rel=>exact⟨q+1,(k:Int)-q,ab,by go_num,by first|rfl|go_num,jh.more aI GM HX.out HQ.out ab ab ab ab,hB.trans ((gZ.trans (DQ.mono gZ.size)).mono hB.size)⟩
         case measure=>exact cf
        .by_cases h2:r<(q:Int)-k;all_goals
          go_wp2;refine ah ?_;repeat(go_big_quiet_step (fail))
          refine wpQuiet_nil (ak ?_);intro w3 gZ;have WU:=aE w3;have d0:=λx:aj w3=>x.cell ((gZ.cell (p:=⟨b,off+k,none⟩) (block_lt_of_cell Qn)).trans Qn)
          have d1:=λx:aj w3=>x.cell ((gZ.cell (p:=⟨b',aW+q,none⟩) (block_lt_of_cell Be)).trans Be)
          go_wp2;refine ah ?_;repeat(go_big_quiet_step (fail))
          refine wpQuiet_nil (ak ?_);intro w4 DQ;go_wp2;go_roundw
          case rel=>first
           |exact⟨q+1,(q:Int)-k,ab,by go_num,by first|rfl|go_num,jh.more aI GM HX.out HQ.out ab ab ab ab,hB.trans ((gZ.trans (DQ.mono gZ.size)).mono hB.size)⟩
           |exact⟨q+1,r,ab,by go_num,by first|rfl|go_num,jh.more aI GM HX.out HQ.out ab ab ab ab,hB.trans ((gZ.trans (DQ.mono gZ.size)).mono hB.size)⟩
          case measure=>exact cf
      .go_wp2;go_roundw
       case rel=>exact⟨k+1,r,ab,by go_num,rfl,jh.mono (λi y _ hy _ h=>ab),hB⟩
       case measure=>exact cf
    .go_wp2;go_ret;exact⟨⟨r,rfl,Mn HA.out HB.out (jh.all (λi y hi _ _=>ab))⟩,hB⟩
end
