import Derived.Test.YtlmcblcijndipaaGreatDoorj17
set_option linter.unusedVariables false
set_option maxHeartbeats 2000000
namespace Go.Proofs.YtlmcblcijndipaaGreatDoor
open RowKit
theorem sB (b off m cap n:Nat)(g:Nat->Int)(w:World)(hm:m<=maxLen)(hn:n<=maxLen)(bz:b<w)(am:aA w b off m g):
  Calls Tz.prog 132 #[.int .i64 (n:Int),.slice (some ⟨b,off,none⟩) m cap] w λe w'=>e=.returned (.bool<|np g m n)/\Below w.heap.size w w':=by
 unfold maxLen at hm hn;by_cases hl:m=n
 .subst hl;go_enter Tz.func132,Tryz.ntmps132
  go_wp2;go_loopw [5] (λi w'=>∃k:Nat,k<=m/\i=.int .i64 k/\jc g m k/\Below w w w') (λi _=>m-(intOf i).toNat)
  case atStart=>exact⟨0,ac8 _,rfl,Gi g m,acU _ _⟩
  case round=>
   obtain⟨k,hk,rfl,rP,hB⟩:=hrel;by_cases ay:k<m
   .have hc:=(am.below hB bz) k ay;have dq:(k:Int)<m:=ab;cases hi:iB (g k) 0 ((m:Int)-1)with
    |false=>
     have F1:¬(0<=g k/\g k<m):=by unfold iB at hi;simp at hi;omega
     have HF:Hid (np g m m=false):=OG ay F1;clear F1;go_wp2_with(go_at_call 70;refine(ig _ _ _ _).mono ?_;rintro e w' ⟨rfl,rfl⟩)
     go_ret;exact⟨bQ HF.out.symm,hB⟩
    |true=>
     have F1:=Eo hi;have HI:Hid (0<=g k/\g k<m):=by
      have h:0<=g k/\g k<m:=ab;exact h
     clear F1;go_wp2_with(go_at_call 70;refine(ig _ _ _ _).mono ?_;rintro e w' ⟨rfl,rfl⟩)
     go_loopw [6] (λi w'=>∃q:Nat,q<=k/\i=.int .i64 q/\(∀j,j<q->g j≠g k)/\Below w w w') (λi _=>k-(intOf i).toNat)
     case atStart=>exact⟨0,ac8 _,rfl,λj hj=>absurd hj<|ac7 _,hB⟩
     case round=>
      clear hB hc;obtain⟨q,hq,rfl,lQ,hB⟩:=hrel;by_cases Jh:q<k
      .have hne:=aF wr;have c0:=λx:ai wr=>x.cell ((am.below hB bz) k ay)
       have c1:=λx:ai wr=>x.cell<|(am.below hB bz) q ab
       have hqm:(q:Int)<m:=ab;cases he:(g q==g k)with
       |true=>
        have HF:Hid (np g m m=false):=Hy Jh ay (by simpa using he);go_wp2;refine jR ?_;intro w1 bI;go_wp2;go_ret;exact⟨bQ HF.out.symm,hB.trans<|bI.mono hB.size⟩
       |false=>
        have J3:g q≠g k:=by simpa using he
        have HE:Hid _:=J3;clear J3;go_wp2;refine jR ?_;intro w1 bI;go_wp2;go_roundw
        case rel=>exact⟨q+1,ab,by go_num,λj hj=>by
         by_cases e:j=q
         .subst e;exact HE.out
         .exact lQ j ab,hB.trans (bI.mono hB.size)⟩
        case measure=>exact bZ
      .go_wp2;go_roundw
       case rel=>exact⟨k+1,ab,by go_num,Gg rP HI.out λi hi=>lQ i ab,hB⟩
       case measure=>exact bZ
   .go_wp2;go_ret;exact⟨bQ (yq<|by rw[show m=k by omega]at rP⊢;exact rP).symm,hB⟩
 .have HF:Hid (np g m n=false):=EY hl;have lZ:((m:Int)!=n)=true:=cH;go_enter Tz.func132,Tryz.ntmps132
  go_wp2;go_ret;exact⟨bQ HF.out.symm,acU _ _⟩
theorem A9 (b off n cap:Nat)(g:Nat->Int)(w:World)(hn:n<=1048576)(bz:b<w)(am:aA w b off n g)(rP:jc g n n):
  Calls Tz.prog 201 #[.slice (some ⟨b,off,none⟩) n cap] w λe w'=>e=.returned (.slice w.heap.size n n)/\aC w' w.heap.size n (qA g n)/\Below w w w':=by
 have P1:=um n hn;go_enter Tz.func201,Tryz.ntmps201
 go_wp2;go_loopw [11] (λi w'=>∃k:Nat,k<=n/\i=.int .i64 k/\aC w' w.heap.size n (qA g k)/\Below w w w') (λi _=>n-(intOf i).toNat)
 case atStart=>exact⟨0,ac8 _,rfl,(nj w n).congr λi hi=>rfl,(acU _ _).alloc (ac3 _) _⟩
 case round=>
  obtain⟨k,hk,rfl,bc,hB⟩:=hrel;by_cases ay:k<n
  .have hc:=(am.below hB bz) k ay;have dq:(k:Int)<n:=ab;have iA:=rP.1 k ay;obtain⟨p,hp⟩:∃p:Nat,g k=(p:Int):=⟨(g k).toNat,ab⟩;have XI:p<n:=ab;have acr:(p:Int)<n:=ab;have HP:Hid _:=hp;rw[hp]at hc;clear hp iA;have hd:=bc.cellAt p XI;have I8:=bc.frozen p;go_wp2;go_roundw
   case rel=>exact⟨k+1,ab,by go_num,(bc.set p XI (k:Int)).congr (λq hq=>by
    simp only[qA];rw[HP.out];by_cases e:q=p
    .subst e;rw[if_pos rfl,if_pos rfl]
    .rw[if_neg e,if_neg ab]),hB.setCell aG _⟩
   case measure=>exact bZ
  .go_wp2;go_ret;have tS:k=n:=ab;subst tS;exact⟨rfl,bc,hB⟩
theorem qZ (b off n cap b' aZ cap':Nat)(g h:Nat->Int)(w:World)(hn:n<=1048576)(bz:b<w)(am:aA w b off n g)(rP:jc g n n)(bu:b'<w)(aP:aA w b' aZ n h)(xL:jc h n n):
  Calls Tz.prog 164 #[.slice (some ⟨b,off,none⟩) n cap,.slice (some ⟨b',aZ,none⟩) n cap'] w λe w'=>(∃r,e=.returned (.int .i64 r)/\eH g h n r)/\Below w w w':=by
 have H1:=A9 b off n cap g w hn bz am rP;go_enter Tz.func164,Tryz.ntmps164
 go_wp2_with(first|(go_at_call 201;refine H1.mono ?_;clear H1;rintro e w1 ⟨rfl,fP,bI⟩)|(go_at_call 201;refine(A9 _ _ _ _ h _ hn (ac4 bu bI.size) (aP.below bI bu) xL).mono ?_;rintro e w2 ⟨rfl,Jj,cj⟩))
 have qp:Below w w w2:=bI.trans<|cj.mono bI.size;have NS:=fP.below cj fP.lt;go_loopw [7,15] (λz i w'=>∃(k:Nat) (r:Int),k<=n/\i=.int .i64 k/\z=.int .i64 r/\sO g h n (λi q=>g i<k) r/\Below w2.heap.size w2 w') (λ_ i _=>n-(intOf i).toNat)
 case atStart=>exact⟨0,0,ac8 _,rfl,rfl,⟨Int.le_refl _,ab,λi q hi _ _ h0=>absurd h0 (by have:=(rP.1 i hi).1;simp;omega),.inl rfl⟩,acU _ _⟩
 case round=>
  obtain⟨k,r,hk,rfl,rfl,lh,hB⟩:=hrel;by_cases ay:k<n
  .have dq:(k:Int)<n:=by omega
   have hc:=(NS.below hB NS.lt).cellAt k ay;have hd:=(Jj.below hB Jj.lt).cellAt k ay;let⟨i,hi,hik⟩:=rP.zR k ay;let⟨q,hq,TF⟩:=xL.zR k ay;rw[sG rP hik n (ac3 _) hi]at hc;rw[sG xL TF n (ac3 _) hq]at hd;have hiq:g i=h q:=by rw[hik,TF]
   have HX:Hid _:=hiq;have HP0:∀x y:Nat,x<n->y<n->g x=h y->g x<((k+1:Nat):Int)->g x<k\/x=i/\y=q:=by
    intro x y hx hy XT hg;by_cases e:g x<k
    .exact .inl e
    .have e1:g x=g i:=by rw[hik];omega
     have e2:h y=h q:=by rw[TF,<-XT];omega
     refine .inr ⟨?_,?_⟩
     .rcases Nat.lt_trichotomy x i with l|l|l
      .exact absurd e1 (rP.2 x i l hi)
      .exact l
      .exact absurd e1.symm (rP.2 i x l hx)
     .rcases Nat.lt_trichotomy y q with l|l|l
      .exact absurd e2 (xL.2 y q l hq)
      .exact l
      .exact absurd e2.symm (xL.2 q y l hy)
   have HP:Hid _:=HP0;have hrl:=lh.low;have hrh:=lh.high;clear hiq hik TF HP0;have hne:=aF wr;have c0:=λx:ai wr=>x.cell hc
   have c1:=λx:ai wr=>x.cell hd
   by_cases h1:r<(i:Int)-q
   .have h2:¬(i:Int)-q<(q:Int)-i:=by omega
    go_wp2;refine jR ?_;intro w3 iC;go_wp2;go_roundw
    case rel=>exact⟨k+1,(i:Int)-q,ab,by go_num,by first|rfl|go_num,lh.more hi hq HX.out HP.out ab ab ab ab,hB.trans<|iC.mono hB.size⟩
    case measure=>exact bZ
   .by_cases h2:r<(q:Int)-i
    .go_wp2;refine jR ?_;intro w3 iC;go_wp2;go_roundw
     case rel=>exact⟨k+1,(q:Int)-i,ab,by go_num,by first|rfl|go_num,lh.more hi hq HX.out HP.out ab ab ab ab,hB.trans<|iC.mono hB.size⟩
     case measure=>exact bZ
    .go_wp2;refine jR ?_;intro w3 iC;go_wp2;go_roundw
     case rel=>exact⟨k+1,r,ab,by go_num,by first|rfl|go_num,lh.more hi hq HX.out HP.out ab ab ab ab,hB.trans<|iC.mono hB.size⟩
     case measure=>exact bZ
  .go_wp2;go_ret;exact⟨⟨r,rfl,lh.all (λi q hi _ _=>by have:=(rP.1 i hi).2;omega)⟩,qp.trans<|hB.mono qp.size⟩
section
variable {a b:Nat->Int}{n m:Nat}
theorem OY (h:n≠m):eu a n b m (-1):=by unfold eu;rw[if_neg (λhh=>h hh.1)]
theorem WO (h:np a n n=false):eu a n b m (-1):=by unfold eu;rw[if_neg (λhh=>by rw[h]at hh;exact absurd hh.2.1 aG)]
theorem WP (h:np b n n=false):eu a n b m (-1):=by unfold eu;rw[if_neg (λhh=>by rw[h]at hh;exact absurd hh.2.2 aG)]
theorem O0 {r:Int}(ha:np a n n=true)(hb:np b n n=true)(h:eH a b n r):eu a n b n r:=by unfold eu;rw[if_pos ⟨rfl,ha,hb⟩];exact h
theorem zN (b off n cap b' aZ m cap':Nat)(g h:Nat->Int)(w:World)(hn:n<=1048576)(hm:m<=1048576)(bz:b<w)(am:aA w b off n g)(bu:b'<w)(aP:aA w b' aZ m h):
  Calls Tz.prog 103 #[.slice (some ⟨b,off,none⟩) n cap,.slice (some ⟨b',aZ,none⟩) m cap'] w λe w'=>(∃r,e=.returned (.int .i64 r)/\eu g n h m r)/\Below w w w':=by
 have H1:=sB b off n cap m g w ie ie bz am;cases ha:np g n m with
 |false=>
  rw[ha]at H1;have Qq:eu g n h m (-1):=by
   by_cases e:n=m
   .subst e;exact WO ha
   .exact OY e
  have HS:Hid (eu g n h m (-1)):=Qq;clear Qq;go_enter Tz.func103,Tryz.ntmps103
  go_wp2_with(go_at_call 132;refine H1.mono ?_;clear H1;rintro e w1 ⟨rfl,bI⟩)
  go_ret;exact⟨⟨-1,rfl,HS.out⟩,bI⟩
 |true=>
  rw[ha]at H1;have e:n=m:=by
   by_cases e:n=m
   .exact e
   .rw[EY e]at ha;cases ha
  subst e;cases hb:np h n n with
  |false=>
   have HS:Hid (eu g n h n (-1)):=WP hb;go_enter Tz.func103,Tryz.ntmps103
   go_wp2_with(first|(go_at_call 132;refine H1.mono ?_;clear H1;rintro e w1 ⟨rfl,bI⟩)|(go_at_call 132;refine(sB _ _ _ _ n h _ ie ie (ac4 bu bI.size)<|aP.below bI bu).mono ?_;rintro e w2 ⟨rfl,cj⟩))
   go_ret;exact⟨⟨-1,rfl,HS.out⟩,bI.trans<|cj.mono bI.size⟩
  |true=>
   have HA:Hid _:=ha;have HB:Hid _:=hb;go_enter Tz.func103,Tryz.ntmps103
   go_wp2_with(first|(go_at_call 132;refine H1.mono ?_;clear H1;rintro e w1 ⟨rfl,bI⟩)|(go_at_call 132;refine(sB _ _ _ _ n h _ ie ie (ac4 bu bI.size)<|aP.below bI bu).mono ?_;rintro e w2 ⟨rfl,cj⟩;have qp:Below w.heap.size w w2:=bI.trans<|cj.mono bI.size))
   clear ha hb;go_loopw [5,6] (λz i w'=>∃(k:Nat) (r:Int),k<=n/\i=.int .i64 k/\z=.int .i64 r/\sO g h n (λi q=>i<k) r/\Below w.heap.size w w') (λ_ i _=>n-(intOf i).toNat)
   case atStart=>exact⟨0,0,ac8 _,rfl,rfl,sO.none λi k h=>absurd h<|ac7 _,qp⟩
   case round=>
    obtain⟨k,r,hk,rfl,rfl,lh,hB⟩:=hrel;by_cases ay:k<n
    .have dq:(k:Int)<n:=by omega
     go_wp2;go_loopw [5,7] (λz i w'=>∃(q:Nat) (r:Int),q<=n/\i=.int .i64 q/\z=.int .i64 r/\sO g h n (λi y=>i<k\/i=k/\y<q) r/\Below w.heap.size w w') (λ_ i _=>n-(intOf i).toNat)
     case atStart=>exact⟨0,r,ac8 _,rfl,rfl,lh.mono λi y _ _ _ h=>ab,hB⟩
     case round=>
      clear lh hB;obtain⟨q,r,hq,rfl,rfl,lh,hB⟩:=hrel;by_cases Jh:q<n
      .have Zz:(q:Int)<n:=by omega
       have hrl:=lh.low;have hrh:=lh.high;have Te:=(am.below hB bz) k ay;have DA:=(aP.below hB bu) q Jh;cases he:(g k==h q)with
       |false=>
        have HE:Hid (∀x y:Nat,x<n->y<n->g x=h y->(x<k\/x=k/\y<q+1)->x<k\/x=k/\y<q):=by
         have h0:∀x y:Nat,x<n->y<n->g x=h y->(x<k\/x=k/\y<q+1)->x<k\/x=k/\y<q:=by
          intro x y _ _ XT hc;by_cases e:x=k/\y=q
          .obtain⟨rfl,rfl⟩:=e;rw[XT]at he;simp at he
          .omega
         exact h0
        have hne:=aF wr;have c0:=λx:ai wr=>x.cell Te
        have c1:=λx:ai wr=>x.cell DA
        go_wp2;refine jR ?_;intro w3 iC;have ZG:=aF w3;have d0:=λx:ai w3=>x.cell<|(iC.cell (p:=⟨b,off+k,none⟩)<|block_lt_of_cell Te).trans Te
        have d1:=λx:ai w3=>x.cell<|(iC.cell (p:=⟨b',aZ+q,none⟩)<|block_lt_of_cell DA).trans DA
        go_wp2;refine jR ?_;intro w4 FZ;go_wp2;go_roundw
        case rel=>exact⟨q+1,r,ab,by go_num,rfl,lh.mono HE.out,hB.trans<|(iC.trans<|FZ.mono iC.size).mono hB.size⟩
        case measure=>exact bZ
       |true=>
        have HX0:g k=h q:=by simpa using he
        have HX:Hid _:=HX0;have HQ:Hid (∀x y:Nat,x<n->y<n->g x=h y->(x<k\/x=k/\y<q+1)->(x<k\/x=k/\y<q)\/x=k/\y=q):=by
         have h0:∀x y:Nat,x<n->y<n->g x=h y->(x<k\/x=k/\y<q+1)->(x<k\/x=k/\y<q)\/x=k/\y=q:=by
          intro x y _ _ _ hc;omega
         exact h0
        clear HX0;have hne:=aF wr;have c0:=λx:ai wr=>x.cell Te
        have c1:=λx:ai wr=>x.cell DA
        by_cases h1:r<(k:Int)-q
        .have h2:¬(k:Int)-q<(q:Int)-k:=by omega
         go_wp2;refine jR ?_;intro w3 iC;have ZG:=aF w3;have d0:=λx:ai w3=>x.cell<|(iC.cell (p:=⟨b,off+k,none⟩)<|block_lt_of_cell Te).trans Te
         have d1:=λx:ai w3=>x.cell<|(iC.cell (p:=⟨b',aZ+q,none⟩)<|block_lt_of_cell DA).trans DA
         go_wp2;refine jR ?_;intro w4 FZ;go_wp2;go_roundw
         case rel=>exact⟨q+1,(k:Int)-q,ab,by go_num,by first|rfl|go_num,lh.more ay Jh HX.out HQ.out ab ab ab ab,hB.trans<|(iC.trans<|FZ.mono iC.size).mono hB.size⟩
         case measure=>exact bZ
        .by_cases h2:r<(q:Int)-k;all_goals
          go_wp2;refine jR ?_;intro w3 iC;have ZG:=aF w3;have d0:=λx:ai w3=>x.cell<|(iC.cell (p:=⟨b,off+k,none⟩)<|block_lt_of_cell Te).trans Te
          have d1:=λx:ai w3=>x.cell<|(iC.cell (p:=⟨b',aZ+q,none⟩)<|block_lt_of_cell DA).trans DA
          go_wp2;refine jR ?_;intro w4 FZ;go_wp2;go_roundw
          case rel=>first
           |exact⟨q+1,(q:Int)-k,ab,by go_num,by first|rfl|go_num,lh.more ay Jh HX.out HQ.out ab ab ab ab,hB.trans<|(iC.trans<|FZ.mono iC.size).mono hB.size⟩
           |exact⟨q+1,r,ab,by go_num,by first|rfl|go_num,lh.more ay Jh HX.out HQ.out ab ab ab ab,hB.trans<|(iC.trans<|FZ.mono iC.size).mono hB.size⟩
          case measure=>exact bZ
      .go_wp2;go_roundw
       case rel=>exact⟨k+1,r,ab,by go_num,rfl,lh.mono λi y _ hy _ h=>ab,hB⟩
       case measure=>exact bZ
    .go_wp2;go_ret;exact⟨⟨r,rfl,O0 HA.out HB.out<|lh.all λi y hi _ _=>ab⟩,hB⟩
end
