import Derived.Test.YtlmcblcijndipaaGreatDoora16
set_option linter.unusedVariables false
set_option maxHeartbeats 2000000
namespace Go.Proofs.YtlmcblcijndipaaGreatDoor
open RowKit
theorem rX (b off m cap n:Nat)(g:Nat->Int)(w:World)(hm:m<=maxLen)(hn:n<=maxLen)(bH:b<w)(aq:aA w b off m g):
  Calls Tz.prog 132 #[.int .i64 (n:Int),.slice (some ⟨b,off,none⟩) m cap] w λe w'=>e=.returned (.bool<|nk g m n)/\Below w.heap.size w w':=by
 unfold maxLen at hm hn;by_cases hl:m=n
 .subst hl;go_enter Tz.func132,Tryz.ntmps132
  go_wp2;go_loopw [5] (λi w'=>∃k:Nat,k<=m/\i=.int .i64 k/\je g m k/\Below w w w') (λi _=>m-(intOf i).toNat)
  case atStart=>exact⟨0,ada _,rfl,FP g m,acW _ _⟩
  case round=>
   obtain⟨k,hk,rfl,rD,hB⟩:=hrel;by_cases aB:k<m
   .have hc:=(aq.below hB bH) k aB;have dr:(k:Int)<m:=aa;cases hi:iL (g k) 0 ((m:Int)-1)with
    |false=>
     have Lj:¬(0<=g k/\g k<m):=by unfold iL at hi;simp at hi;omega
     have HF:Hid (nk g m m=false):=NN aB Lj;clear Lj;go_wp2_with(go_at_call 70;refine(ic _ _ _ _).mono ?_;rintro e w' ⟨rfl,rfl⟩)
     go_ret;exact⟨bQ HF.out.symm,hB⟩
    |true=>
     have Lj:=D0 hi;have HI:Hid (0<=g k/\g k<m):=by
      have h:0<=g k/\g k<m:=aa;exact h
     clear Lj;go_wp2_with(go_at_call 70;refine(ic _ _ _ _).mono ?_;rintro e w' ⟨rfl,rfl⟩)
     go_loopw [6] (λi w'=>∃q:Nat,q<=k/\i=.int .i64 q/\(∀j,j<q->g j≠g k)/\Below w w w') (λi _=>k-(intOf i).toNat)
     case atStart=>exact⟨0,ada _,rfl,λj hj=>absurd hj<|ac9 _,hB⟩
     case round=>
      clear hB hc;obtain⟨q,hq,rfl,pg,hB⟩:=hrel;by_cases IG:q<k
      .have hne:=aG wr;have c0:=λx:ai wr=>x.cell ((aq.below hB bH) k aB)
       have c1:=λx:ai wr=>x.cell<|(aq.below hB bH) q aa
       have hqm:(q:Int)<m:=aa;cases he:(g q==g k)with
       |true=>
        have HF:Hid (nk g m m=false):=G8 IG aB (by simpa using he);go_wp2;refine kI ?_;intro w1 bP;go_wp2;go_ret;exact⟨bQ HF.out.symm,hB.trans<|bP.mono hB.size⟩
       |false=>
        have Jv:g q≠g k:=by simpa using he
        have HE:Hid _:=Jv;clear Jv;go_wp2;refine kI ?_;intro w1 bP;go_wp2;go_roundw
        case rel=>exact⟨q+1,aa,by go_num,λj hj=>by
         by_cases e:j=q
         .subst e;exact HE.out
         .exact pg j aa,hB.trans (bP.mono hB.size)⟩
        case measure=>exact cI
      .go_wp2;go_roundw
       case rel=>exact⟨k+1,aa,by go_num,FO rD HI.out λi hi=>pg i aa,hB⟩
       case measure=>exact cI
   .go_wp2;go_ret;exact⟨bQ (xU<|by rw[show m=k by omega]at rD⊢;exact rD).symm,hB⟩
 .have HF:Hid (nk g m n=false):=Ez hl;have mI:((m:Int)!=n)=true:=cU;go_enter Tz.func132,Tryz.ntmps132
  go_wp2;go_ret;exact⟨bQ HF.out.symm,acW _ _⟩
theorem A4 (b off n cap:Nat)(g:Nat->Int)(w:World)(hn:n<=1048576)(bH:b<w)(aq:aA w b off n g)(rD:je g n n):
  Calls Tz.prog 201 #[.slice (some ⟨b,off,none⟩) n cap] w λe w'=>e=.returned (.slice w.heap.size n n)/\aC w' w.heap.size n (qu g n)/\Below w w w':=by
 have O6:=tW n hn;go_enter Tz.func201,Tryz.ntmps201
 go_wp2;go_loopw [11] (λi w'=>∃k:Nat,k<=n/\i=.int .i64 k/\aC w' w.heap.size n (qu g k)/\Below w w w') (λi _=>n-(intOf i).toNat)
 case atStart=>exact⟨0,ada _,rfl,(ng w n).congr λi hi=>rfl,(acW _ _).alloc (ac5 _) _⟩
 case round=>
  obtain⟨k,hk,rfl,bc,hB⟩:=hrel;by_cases aB:k<n
  .have hc:=(aq.below hB bH) k aB;have dr:(k:Int)<n:=aa;have iv:=rD.1 k aB;obtain⟨p,hp⟩:∃p:Nat,g k=(p:Int):=⟨(g k).toNat,aa⟩;have WG:p<n:=aa;have acr:(p:Int)<n:=aa;have HP:Hid _:=hp;rw[hp]at hc;clear hp iv;have hd:=bc.cellAt p WG;have IC:=bc.frozen p;go_wp2;go_roundw
   case rel=>exact⟨k+1,aa,by go_num,(bc.set p WG (k:Int)).congr (λq hq=>by
    simp only[qu];rw[HP.out];by_cases e:q=p
    .subst e;rw[if_pos rfl,if_pos rfl]
    .rw[if_neg e,if_neg aa]),hB.setCell aF _⟩
   case measure=>exact cI
  .go_wp2;go_ret;have tD:k=n:=aa;subst tD;exact⟨rfl,bc,hB⟩
theorem qS (b off n cap b' ce cap':Nat)(g h:Nat->Int)(w:World)(hn:n<=1048576)(bH:b<w)(aq:aA w b off n g)(rD:je g n n)(bI:b'<w)(aU:aA w b' ce n h)(xq:je h n n):
  Calls Tz.prog 164 #[.slice (some ⟨b,off,none⟩) n cap,.slice (some ⟨b',ce,none⟩) n cap'] w λe w'=>(∃r,e=.returned (.int .i64 r)/\ew g h n r)/\Below w w w':=by
 have H1:=A4 b off n cap g w hn bH aq rD;go_enter Tz.func164,Tryz.ntmps164
 go_wp2_with(first|(go_at_call 201;refine H1.mono ?_;clear H1;rintro e w1 ⟨rfl,fN,bP⟩)|(go_at_call 201;refine(A4 _ _ _ _ h _ hn (ac6 bI bP.size) (aU.below bP bI) xq).mono ?_;rintro e w2 ⟨rfl,IM,cP⟩))
 have rl:Below w w w2:=bP.trans<|cP.mono bP.size;have MZ:=fN.below cP fN.lt;go_loopw [7,15] (λz i w'=>∃(k:Nat) (r:Int),k<=n/\i=.int .i64 k/\z=.int .i64 r/\sD g h n (λi q=>g i<k) r/\Below w2.heap.size w2 w') (λ_ i _=>n-(intOf i).toNat)
 case atStart=>exact⟨0,0,ada _,rfl,rfl,⟨Int.le_refl _,aa,λi q hi _ _ h0=>absurd h0 (by have:=(rD.1 i hi).1;simp;omega),.inl rfl⟩,acW _ _⟩
 case round=>
  obtain⟨k,r,hk,rfl,rfl,ku,hB⟩:=hrel;by_cases aB:k<n
  .have dr:(k:Int)<n:=by omega
   have hc:=(MZ.below hB MZ.lt).cellAt k aB;have hd:=(IM.below hB IM.lt).cellAt k aB;let⟨i,hi,hik⟩:=rD.zH k aB;let⟨q,hq,SA⟩:=xq.zH k aB;rw[sj rD hik n (ac5 _) hi]at hc;rw[sj xq SA n (ac5 _) hq]at hd;have hiq:g i=h q:=by rw[hik,SA]
   have HX:Hid _:=hiq;have HP0:∀x y:Nat,x<n->y<n->g x=h y->g x<((k+1:Nat):Int)->g x<k\/x=i/\y=q:=by
    intro x y hx hy WQ hg;by_cases e:g x<k
    .exact .inl e
    .have e1:g x=g i:=by rw[hik];omega
     have e2:h y=h q:=by rw[SA,<-WQ];omega
     refine .inr ⟨?_,?_⟩
     .rcases Nat.lt_trichotomy x i with l|l|l
      .exact absurd e1 (rD.2 x i l hi)
      .exact l
      .exact absurd e1.symm (rD.2 i x l hx)
     .rcases Nat.lt_trichotomy y q with l|l|l
      .exact absurd e2 (xq.2 y q l hq)
      .exact l
      .exact absurd e2.symm (xq.2 q y l hy)
   have HP:Hid _:=HP0;have hrl:=ku.low;have hrh:=ku.high;clear hiq hik SA HP0;have hne:=aG wr;have c0:=λx:ai wr=>x.cell hc
   have c1:=λx:ai wr=>x.cell hd
   by_cases h1:r<(i:Int)-q
   .have h2:¬(i:Int)-q<(q:Int)-i:=by omega
    go_wp2;refine kI ?_;intro w3 iw;go_wp2;go_roundw
    case rel=>exact⟨k+1,(i:Int)-q,aa,by go_num,by first|rfl|go_num,ku.more hi hq HX.out HP.out aa aa aa aa,hB.trans<|iw.mono hB.size⟩
    case measure=>exact cI
   .by_cases h2:r<(q:Int)-i
    .go_wp2;refine kI ?_;intro w3 iw;go_wp2;go_roundw
     case rel=>exact⟨k+1,(q:Int)-i,aa,by go_num,by first|rfl|go_num,ku.more hi hq HX.out HP.out aa aa aa aa,hB.trans<|iw.mono hB.size⟩
     case measure=>exact cI
    .go_wp2;refine kI ?_;intro w3 iw;go_wp2;go_roundw
     case rel=>exact⟨k+1,r,aa,by go_num,by first|rfl|go_num,ku.more hi hq HX.out HP.out aa aa aa aa,hB.trans<|iw.mono hB.size⟩
     case measure=>exact cI
  .go_wp2;go_ret;exact⟨⟨r,rfl,ku.all (λi q hi _ _=>by have:=(rD.1 i hi).2;omega)⟩,rl.trans<|hB.mono rl.size⟩
section
variable {a b:Nat->Int}{n m:Nat}
theorem Ob (h:n≠m):d8 a n b m (-1):=by unfold d8;rw[if_neg (λhh=>h hh.1)]
theorem VA (h:nk a n n=false):d8 a n b m (-1):=by unfold d8;rw[if_neg (λhh=>by rw[h]at hh;exact absurd hh.2.1 aF)]
theorem VB (h:nk b n n=false):d8 a n b m (-1):=by unfold d8;rw[if_neg (λhh=>by rw[h]at hh;exact absurd hh.2.2 aF)]
theorem Od {r:Int}(ha:nk a n n=true)(hb:nk b n n=true)(h:ew a b n r):d8 a n b n r:=by unfold d8;rw[if_pos ⟨rfl,ha,hb⟩];exact h
theorem zC (b off n cap b' ce m cap':Nat)(g h:Nat->Int)(w:World)(hn:n<=1048576)(hm:m<=1048576)(bH:b<w)(aq:aA w b off n g)(bI:b'<w)(aU:aA w b' ce m h):
  Calls Tz.prog 103 #[.slice (some ⟨b,off,none⟩) n cap,.slice (some ⟨b',ce,none⟩) m cap'] w λe w'=>(∃r,e=.returned (.int .i64 r)/\d8 g n h m r)/\Below w w w':=by
 have H1:=rX b off n cap m g w jl jl bH aq;cases ha:nk g n m with
 |false=>
  rw[ha]at H1;have Pv:d8 g n h m (-1):=by
   by_cases e:n=m
   .subst e;exact VA ha
   .exact Ob e
  have HS:Hid (d8 g n h m (-1)):=Pv;clear Pv;go_enter Tz.func103,Tryz.ntmps103
  go_wp2_with(go_at_call 132;refine H1.mono ?_;clear H1;rintro e w1 ⟨rfl,bP⟩)
  go_ret;exact⟨⟨-1,rfl,HS.out⟩,bP⟩
 |true=>
  rw[ha]at H1;have e:n=m:=by
   by_cases e:n=m
   .exact e
   .rw[Ez e]at ha;cases ha
  subst e;cases hb:nk h n n with
  |false=>
   have HS:Hid (d8 g n h n (-1)):=VB hb;go_enter Tz.func103,Tryz.ntmps103
   go_wp2_with(first|(go_at_call 132;refine H1.mono ?_;clear H1;rintro e w1 ⟨rfl,bP⟩)|(go_at_call 132;refine(rX _ _ _ _ n h _ jl jl (ac6 bI bP.size)<|aU.below bP bI).mono ?_;rintro e w2 ⟨rfl,cP⟩))
   go_ret;exact⟨⟨-1,rfl,HS.out⟩,bP.trans<|cP.mono bP.size⟩
  |true=>
   have HA:Hid _:=ha;have HB:Hid _:=hb;go_enter Tz.func103,Tryz.ntmps103
   go_wp2_with(first|(go_at_call 132;refine H1.mono ?_;clear H1;rintro e w1 ⟨rfl,bP⟩)|(go_at_call 132;refine(rX _ _ _ _ n h _ jl jl (ac6 bI bP.size)<|aU.below bP bI).mono ?_;rintro e w2 ⟨rfl,cP⟩;have rl:Below w.heap.size w w2:=bP.trans<|cP.mono bP.size))
   clear ha hb;go_loopw [5,6] (λz i w'=>∃(k:Nat) (r:Int),k<=n/\i=.int .i64 k/\z=.int .i64 r/\sD g h n (λi q=>i<k) r/\Below w.heap.size w w') (λ_ i _=>n-(intOf i).toNat)
   case atStart=>exact⟨0,0,ada _,rfl,rfl,sD.none λi k h=>absurd h<|ac9 _,rl⟩
   case round=>
    obtain⟨k,r,hk,rfl,rfl,ku,hB⟩:=hrel;by_cases aB:k<n
    .have dr:(k:Int)<n:=by omega
     go_wp2;go_loopw [5,7] (λz i w'=>∃(q:Nat) (r:Int),q<=n/\i=.int .i64 q/\z=.int .i64 r/\sD g h n (λi y=>i<k\/i=k/\y<q) r/\Below w.heap.size w w') (λ_ i _=>n-(intOf i).toNat)
     case atStart=>exact⟨0,r,ada _,rfl,rfl,ku.mono λi y _ _ _ h=>aa,hB⟩
     case round=>
      clear ku hB;obtain⟨q,r,hq,rfl,rfl,ku,hB⟩:=hrel;by_cases IG:q<n
      .have YP:(q:Int)<n:=by omega
       have hrl:=ku.low;have hrh:=ku.high;have Se:=(aq.below hB bH) k aB;have Db:=(aU.below hB bI) q IG;cases he:(g k==h q)with
       |false=>
        have HE:Hid (∀x y:Nat,x<n->y<n->g x=h y->(x<k\/x=k/\y<q+1)->x<k\/x=k/\y<q):=by
         have h0:∀x y:Nat,x<n->y<n->g x=h y->(x<k\/x=k/\y<q+1)->x<k\/x=k/\y<q:=by
          intro x y _ _ WQ hc;by_cases e:x=k/\y=q
          .obtain⟨rfl,rfl⟩:=e;rw[WQ]at he;simp at he
          .omega
         exact h0
        have hne:=aG wr;have c0:=λx:ai wr=>x.cell Se
        have c1:=λx:ai wr=>x.cell Db
        go_wp2;refine kI ?_;intro w3 iw;have YW:=aG w3;have d0:=λx:ai w3=>x.cell<|(iw.cell (p:=⟨b,off+k,none⟩)<|block_lt_of_cell Se).trans Se
        have d1:=λx:ai w3=>x.cell<|(iw.cell (p:=⟨b',ce+q,none⟩)<|block_lt_of_cell Db).trans Db
        go_wp2;refine kI ?_;intro w4 Ft;go_wp2;go_roundw
        case rel=>exact⟨q+1,r,aa,by go_num,rfl,ku.mono HE.out,hB.trans<|(iw.trans<|Ft.mono iw.size).mono hB.size⟩
        case measure=>exact cI
       |true=>
        have HX0:g k=h q:=by simpa using he
        have HX:Hid _:=HX0;have HQ:Hid (∀x y:Nat,x<n->y<n->g x=h y->(x<k\/x=k/\y<q+1)->(x<k\/x=k/\y<q)\/x=k/\y=q):=by
         have h0:∀x y:Nat,x<n->y<n->g x=h y->(x<k\/x=k/\y<q+1)->(x<k\/x=k/\y<q)\/x=k/\y=q:=by
          intro x y _ _ _ hc;omega
         exact h0
        clear HX0;have hne:=aG wr;have c0:=λx:ai wr=>x.cell Se
        have c1:=λx:ai wr=>x.cell Db
        by_cases h1:r<(k:Int)-q
        .have h2:¬(k:Int)-q<(q:Int)-k:=by omega
         go_wp2;refine kI ?_;intro w3 iw;have YW:=aG w3;have d0:=λx:ai w3=>x.cell<|(iw.cell (p:=⟨b,off+k,none⟩)<|block_lt_of_cell Se).trans Se
         have d1:=λx:ai w3=>x.cell<|(iw.cell (p:=⟨b',ce+q,none⟩)<|block_lt_of_cell Db).trans Db
         go_wp2;refine kI ?_;intro w4 Ft;go_wp2;go_roundw
         case rel=>exact⟨q+1,(k:Int)-q,aa,by go_num,by first|rfl|go_num,ku.more aB IG HX.out HQ.out aa aa aa aa,hB.trans<|(iw.trans<|Ft.mono iw.size).mono hB.size⟩
         case measure=>exact cI
        .by_cases h2:r<(q:Int)-k;all_goals
          go_wp2;refine kI ?_;intro w3 iw;have YW:=aG w3;have d0:=λx:ai w3=>x.cell<|(iw.cell (p:=⟨b,off+k,none⟩)<|block_lt_of_cell Se).trans Se
          have d1:=λx:ai w3=>x.cell<|(iw.cell (p:=⟨b',ce+q,none⟩)<|block_lt_of_cell Db).trans Db
          go_wp2;refine kI ?_;intro w4 Ft;go_wp2;go_roundw
          case rel=>first
           |exact⟨q+1,(q:Int)-k,aa,by go_num,by first|rfl|go_num,ku.more aB IG HX.out HQ.out aa aa aa aa,hB.trans<|(iw.trans<|Ft.mono iw.size).mono hB.size⟩
           |exact⟨q+1,r,aa,by go_num,by first|rfl|go_num,ku.more aB IG HX.out HQ.out aa aa aa aa,hB.trans<|(iw.trans<|Ft.mono iw.size).mono hB.size⟩
          case measure=>exact cI
      .go_wp2;go_roundw
       case rel=>exact⟨k+1,r,aa,by go_num,rfl,ku.mono λi y _ hy _ h=>aa,hB⟩
       case measure=>exact cI
    .go_wp2;go_ret;exact⟨⟨r,rfl,Od HA.out HB.out<|ku.all λi y hi _ _=>aa⟩,hB⟩
end
