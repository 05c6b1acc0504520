import Derived.Test.YtlmcblcijndipaaGreatDoorj21
set_option linter.defProp false
set_option linter.unusedVariables false
set_option maxHeartbeats 4000000
set_option maxRecDepth 100000
namespace Go.Proofs.YtlmcblcijndipaaGreatDoor
open Go.RowKit Go.Shelf RowKit
variable {now shift:Int}{i m n:Nat}{t:Nat->Int}{f:Nat->Mv}
section
attribute [local go_sem] Oper.semAt_some
set_option linter.unusedVariables false
def Oi {W W':World}(h:Below W W W')(B:Nat):KeepsFrom B W W':=
 ⟨h.size,λk o _ hk _=>(h.block k (ac5.1 hk).1).trans hk⟩
def vW (b off n cap:Nat)(f:Nat->Mv)(b' aZ cap':Nat)(t:Nat->Int)(w:World)(bz:b<w)(am:aJ w b off n f)(bu:b'<w)(aP:aA w b' aZ n t)(hm:az f n=true)(cD:∀i,i<n->(f i).eM (t i)=true):
  Calls Tz.prog 50 #[.slice (some ⟨b,off,none⟩) n cap,.slice (some ⟨b',aZ,none⟩) n cap'] w λe w'=>e=.returned (.bool<|eC f n t n)/\Below w w w':=by
 have h6:=bP hm;have hn:n<=1048576:=ab;have HM:Hid _:=hm;have lY:∀o1 o2 o3,Below w w (((w.alloc o1).alloc o2).alloc o3):=λo1 o2 o3=>(((acU _ w).alloc (ac3 _) _).alloc aG _).alloc cH _
 refine(callsIn_wide (n:=9)).1 ?_;refine callsIn_of_wp_marks Tz.func50 rfl trivial ?_ rfl;simp only[Tryz.ntmps50,List.size_toArray,List.length_cons,List.length_nil,Nat.reduceAdd,Nat.reduceSub,Array.replicate_succ,Array.replicate_zero,List.push_toArray,List.append_toArray,List.nil_append,List.cons_append];gi_wp2_with (refine⟨trivial,?_⟩;gi_at_call 75;refine(callsIn_wide.2<|fW _ _ _ _ f _ hn cH<|am.below (lY _ _ _) bz).mono ?_;rintro e w1 ⟨rfl,bI⟩;let⟨kY,pH⟩:=jF bI)
 have hz:=bI.size;simp at hz;have oa:Below w w w1:=(lY _ _ _).trans<|bI.mono (lY _ _ _).size;have l0:w1.cell? w.heap.size=some (.slice (some ⟨b,off,none⟩) n cap):=by rw[kY w.heap.size 0 cH];simp[go_sem]
 have l1:w1.cell? ⟨w.heap.size+1,0,none⟩=some (.slice (some ⟨b',aZ,none⟩) n cap'):=by rw[kY (w.heap.size+1) 0 aG];simp[go_sem]
 have l2:w1.cell? ⟨w.heap.size+1+1,0,none⟩=some (.bool false):=by rw[kY (w.heap.size+1+1) 0 aG];simp[go_sem]
 have l3:w1.frozen? ⟨w.heap.size+1+1,0,none⟩=false:=by rw[pH (w.heap.size+1+1) 0 aG];simp[go_sem]
 clear kY pH bI;gi_loopw [21] (λi wr=>∃k:Nat,k<=n/\i=.int .i64 k/\Below w1 w1 wr) (λi _=>n-(intOf i).toNat)
 case atStart=>exact⟨0,ac8 _,rfl,acU _ _⟩
 case round=>
  obtain⟨k,hk,rfl,hB⟩:=hrel;have gD:Below w w wr:=oa.trans<|hB.mono oa.size;have hzr:w1.heap.size<=wr:=hB.size;by_cases ay:k<n
  .have hr:=am.below gD bz k ay;have fH:=aP.below gD bu k ay;let⟨c0,c1,c2,c3,c4,c5⟩:=hr;have dq:(k:Int)<n:=ab;have hA:=fG wr<|f k;have hM:=jH wr<|f k;have m1:wr.cell? ⟨w.heap.size+1,0,none⟩=some (.slice (some ⟨b',aZ,none⟩) n cap'):=(hB.cell (p:=⟨w.heap.size+1,0,none⟩) cH).trans l1;have hne:=aF<|cR wr<|f k;have e0:=λx:ai (cR wr<|f k)=>x.cell hM.c0
   have e1:=λx:ai (cR wr<|f k)=>x.cell hM.c1
   have e2:=λx:ai (cR wr<|f k)=>x.cell hM.c2
   have e3:=λx:ai (cR wr<|f k)=>x.cell hM.c3
   have e4:=λx:ai (cR wr<|f k)=>x.cell hM.c4
   have e5:=λx:ai (cR wr<|f k)=>x.cell hM.c5
   have e6:=λx:ai (cR wr<|f k)=>x.cell<|(hA.cell (p:=⟨w.heap.size+1,0,none⟩) cH).trans m1
   have e7:=λx:ai (cR wr<|f k)=>x.cell<|(hA.cell (p:=⟨b',aZ+k,none⟩) cH).trans fH
   simp only[Nat.zero_add]at e0 e1 e2 e3 e4 e5;have hs:=cD k ay;gi_wp2
   refine nt (K0 _) bj bj bj ?_;repeat(go_big_quiet_step ((go_at_call 76;exact bw<|uC (f k) _ _)))
   refine wpQuiet_nil<|bL ?_;intro w2 cj;gi_wp2
   go_roundw
   case rel=>exact⟨k+1,ab,by go_num,hB.trans<|(hA.trans<|cj.mono hA.size).mono hB.size⟩
   case measure=>exact bZ
  .have m0:wr.cell? w.heap.size=some (.slice (some ⟨b,off,none⟩) n cap):=(hB.cell (p:=w.heap.size) cH).trans l0;have m1:wr.cell? ⟨w.heap.size+1,0,none⟩=some (.slice (some ⟨b',aZ,none⟩) n cap'):=(hB.cell (p:=⟨w.heap.size+1,0,none⟩) cH).trans l1;have m2:wr.cell? ⟨w.heap.size+1+1,0,none⟩=some (.bool false):=(hB.cell (p:=⟨w.heap.size+1+1,0,none⟩) cH).trans l2;have m3:wr.frozen? ⟨w.heap.size+1+1,0,none⟩=false:=(hB.frozen (p:=⟨w.heap.size+1+1,0,none⟩) cH).trans l3;gi_wp2_with (refine⟨trivial,?_⟩;gi_at_call 77;refine(callsIn_wide.2<|AU _ _).mono ?_;rintro e w' ⟨rfl,rfl⟩)
   obtain⟨WL,Nv⟩:∃WL,wr.alloc (.cells #[.int .i64 (n:Int)] 3)=WL:=⟨_,rfl⟩;have hL:Below wr wr WL:=Nv▸(acU _ _).alloc (ac3 _) _;have hzL:WL.heap.size=wr.heap.size+1:=by rw[<-Nv];simp
   have hcL:WL.cell? wr.heap.size=some (.int .i64 (n:Int)):=by rw[<-Nv];simp
   rw[Nv];clear Nv;have U7:Below w w WL:=gD.trans<|hL.mono gD.size;have p0:=(hL.cell (p:=w.heap.size) cH).trans m0;have p1:=(hL.cell (p:=⟨w.heap.size+1,0,none⟩) cH).trans m1;have p2:=(hL.cell (p:=⟨w.heap.size+1+1,0,none⟩) cH).trans m2;have p3:=(hL.frozen (p:=⟨w.heap.size+1+1,0,none⟩) cH).trans m3;refine wpIn_rangeFunc_ownG rfl ab (gf:=108) (lb:=#[.pointer wr.heap.size]) rfl trivial (enters_of Tz.func108 bj rfl)
    (vl _ wr.heap.size WL.heap.size n WL hn ab (ac3 _) hcL) belowK_t (belowK_b<|ac3 _) (acU _ _) (λ_=>rfl)
    (λpre W=>(∀x∈pre,(f x.1.1).fF (f x.1.2) (t x.1.1) (t x.1.2)=false)/\Below WL WL W)
    (λc pre W=>(c=.ret/\eC f n t n=false)/\(W.cell? ⟨w.heap.size+1+1,0,none⟩=some (.bool false)/\W.frozen? ⟨w.heap.size+1+1,0,none⟩=false)/\Below w w W)
    (OwnFrom.and (ownFrom_pure _ _) (ownFrom_below (ac3 _)<|ac3 _))
    (λc=>OwnFrom.and (ownFrom_pure _ λ_=>c=.ret/\eC f n t n=false)<|OwnFrom.and (Own.from (λs A B row hs hg hr=>⟨cell_kept hs.1 hg hr,(frozen_kept hs.1 hg hr).trans hs.2⟩) _)<|ownFrom_below (ac3 _) ab)
    ⟨λx hx=>by simp at hx,acU _ _⟩
    ?a1 ?assign ?body ?done ?stop
   case assign=>
    intro l x W K hK;gi_wp2
    exact hK
   case body=>
    rintro l pre ⟨⟨i,j⟩,kq,F2⟩ W ⟨Cq,Cd⟩ _;dsimp only at kq F2;have GR:Below w w W:=U7.trans<|Cd.mono U7.size;have iA:i<n:=ab;have VD:(i:Int)<n:=ab;have acb:(j:Int)<n:=ab;have KN:=am.below GR bz i iA;have XK:=am.below GR bz j F2;have XO:=aP.below GR bu i iA;have htj:=aP.below GR bu j F2;let⟨ti0,ti1⟩:=wG HM.out iA<|cD i iA;let⟨tj0,tj1⟩:=wG HM.out F2<|cD j F2;have hne:=aF W;have q0:=λx:ai W=>x.cell<|(Cd.cell (p:=w.heap.size) cH).trans p0
    have q1:=λx:ai W=>x.cell<|(Cd.cell (p:=⟨w.heap.size+1,0,none⟩) cH).trans p1
    have a0:=λx:ai W=>x.cell KN.c0
    have a1:=λx:ai W=>x.cell KN.c1
    have a2:=λx:ai W=>x.cell KN.c2
    have a3:=λx:ai W=>x.cell KN.c3
    have a4:=λx:ai W=>x.cell KN.c4
    have a5:=λx:ai W=>x.cell KN.c5
    have b0:=λx:ai W=>x.cell XK.c0
    have b1:=λx:ai W=>x.cell XK.c1
    have b2:=λx:ai W=>x.cell XK.c2
    have b3:=λx:ai W=>x.cell XK.c3
    have b4:=λx:ai W=>x.cell XK.c4
    have b5:=λx:ai W=>x.cell XK.c5
    have d0:=λx:ai W=>x.cell XO
    have d1:=λx:ai W=>x.cell htj
    have VW:=Cd.size;have J_:=(Cd.cell (p:=⟨w.heap.size+1+1,0,none⟩) cH).trans p2;have p3W:=(Cd.frozen (p:=⟨w.heap.size+1+1,0,none⟩) cH).trans p3;cases pc:(f i).fF (f j) (t i) (t j)with
    |true=>
     have HF:Hid (eC f n t n=false):=xl kq F2 pc;gi_wp2
     refine nt (oy _ _) bj bj bj ?_;repeat(go_big_quiet_step ((go_at_call 78;exact bw<|EK (f i) (f j) _ _ _ ti0 ti1 tj0 tj1)))
     refine wpQuiet_nil<|bL ?_;intro w2 cj;have n2:=(cj.cell (p:=⟨w.heap.size+1+1,0,none⟩) cH).trans J_;have n3:=(cj.frozen (p:=⟨w.heap.size+1+1,0,none⟩) cH).trans p3W;simp only[pc];gi_wp2
     exact⟨(Oi cj _).trans ((KeepsOthers.setCell _ _ _).from _),⟨rfl,HF.out⟩,⟨World.cell?_setCell_same' _ _ _ (by rw[n2];rfl),by rw[World.frozen?_setCell];exact n3⟩,(GR.trans<|cj.mono GR.size).setCell cH _⟩
    |false=>
     have HN:Hid _:=pc;gi_wp2
     refine nt (oy _ _) bj bj bj ?_;repeat(go_big_quiet_step ((go_at_call 78;exact bw<|EK (f i) (f j) _ _ _ ti0 ti1 tj0 tj1)))
     refine wpQuiet_nil<|bL ?_;intro w2 cj;simp only[pc];gi_wp2
     refine⟨Oi cj _,cj.mono VW,?_,Cd.trans<|cj.mono VW⟩;intro x hx;rcases adv.1 hx with h|h
     .exact Cq x h
     .simp at h;subst h;exact HN.out
   case done=>
    rintro D xs W hD hS ⟨Cq,Cd⟩ hK;have gG:eC f n t n=true:=(fV HM.out).mpr ⟨cD,λj k hk hj=>Cq _<|hS k j ⟨hk,hj⟩⟩;have HF:Hid _:=gG;clear gG;have GR:Below w w W:=U7.trans<|Cd.mono U7.size;have J_:=(Cd.cell (p:=⟨w.heap.size+1+1,0,none⟩) cH).trans p2;have p3W:=(Cd.frozen (p:=⟨w.heap.size+1+1,0,none⟩) cH).trans p3;gi_wp2
    have hK':=(KeepsOthers.setCell W ⟨w.heap.size+1+1,0,none⟩ true).same D _ hK rfl;refine⟨aG,.inl ⟨_,_,rfl,run_takeDeferred hK',?_⟩⟩;have Y6:=cell_kept (World.cell?_setCell_same' W ⟨w.heap.size+1+1,0,none⟩ true<|by rw[J_];rfl) (grownBy_putObj' _ D<|.deferred none) (λr e=>by cases e;exact⟨_,hK',rfl⟩);refine⟨.bool true,?_,by rw[HF.out],(GR.setCell (p:=⟨w.heap.size+1+1,0,none⟩) cH _).trans<|belowK_b (w:=w) (ac3 _) _ D _ _ ab hK' rfl rfl⟩;simp[results,Tryz.f50,go_sem,Y6]
   case stop=>
    rintro D c pre W hD _ ⟨⟨rfl,hF⟩,⟨Vw,fM⟩,Cd⟩ hK;have HF:Hid _:=hF;clear hF;gi_wp2
    refine⟨aG,.inl ⟨_,_,rfl,run_takeDeferred hK,?_⟩⟩;have Y6:=cell_kept Vw (grownBy_putObj' _ D<|.deferred none) (λr e=>by cases e;exact⟨_,hK,rfl⟩);refine⟨.bool false,?_,by rw[HF.out],Cd.trans<|belowK_b (w:=w) (ac3 _) W D _ _ ab hK rfl rfl⟩;simp[results,Tryz.f50,go_sem,Y6]
def Cv (b off n cap:Nat)(f:Nat->Mv)(b' aZ m cap':Nat)(t:Nat->Int)(w:World)(hn:n<=1048576)(nK:m<=maxLen)(bz:b<w)(am:aJ w b off n f)(bu:b'<w)(aP:aA w b' aZ m t):
  Calls Tz.prog 50 #[.slice (some ⟨b,off,none⟩) n cap,.slice (some ⟨b',aZ,none⟩) m cap'] w λe w'=>e=.returned (.bool<|eC f n t m)/\Below w w w':=by
 by_cases hl:m=n
 .subst hl;cases hm:az f m with
  |false=>exact pM b off m cap f b' aZ m cap' t w hn nK bz am (.inl hm)
  |true=>
   by_cases cD:∀i,i<m->(f i).eM (t i)=true
   .exact vW b off m cap f b' aZ cap' t w bz am bu aP hm cD
   .exact tf b off m cap f b' aZ cap' t w hn bz am bu aP hm cD
 .exact pM b off n cap f b' aZ m cap' t w hn nK bz am (.inr hl)
end
section
def fD (now:Int)(m:Mv)(t:Int):Bool:=!(decide (t<now)||decide (t<now+4)&&m.prom==-1)
def lE (now:Int)(f:Nat->Mv)(t:Nat->Int)(n:Nat):Bool:=(List.range n).all λi=>fD now (f i)<|t i
def aM (now shift:Int)(f:Nat->Mv)(n:Nat)(t:Nat->Int)(m:Nat):Bool:=iB now 0 10000&&iB shift 0 6&&eC f n t m&&lE now f t n
def qb (hi:i<n)(h:fD now (f i) (t i)=false):lE now f t n=false:=by
 rw[Bool.eq_false_iff];intro hh;unfold lE at hh;simp only[List.all_eq_true,List.mem_range]at hh;rw[hh i hi]at h;cases h
def qz (h:∀i,i<n->fD now (f i) (t i)=true):lE now f t n=true:=by
 unfold lE;simp only[List.all_eq_true,List.mem_range];exact h
def rA (h:eC f n t m=false):aM now shift f n t m=false:=by unfold aM;simp[h]
def Ao (h:iB now 0 10000=false):aM now shift f n t m=false:=by unfold aM;simp[h]
def uL (h:iB shift 0 6=false):aM now shift f n t m=false:=by unfold aM;simp[h]
def nS (h:lE now f t n=false):aM now shift f n t m=false:=by unfold aM;simp[h]
def mY (h1:iB now 0 10000=true)(h2:iB shift 0 6=true)(h3:eC f n t m=true)(h4:lE now f t n=true):aM now shift f n t m=true:=by unfold aM;simp[h1,h2,h3,h4]
def nY (h:eC f n t m=true):az f n=true/\m=n/\dU f t n:=by
 have hm:az f n=true:=by
  cases e:az f n with
  |true=>rfl
  |false=>rw[jJ e]at h;cases h
 have hl:m=n:=by
  by_cases e:m=n
  .exact e
  .rw[uj e]at h;cases h
 subst hl;exact⟨hm,rfl,(fV hm).mp h⟩
def d6 {n lo hi:Int}:iB n lo hi=true<->lo<=n/\n<=hi:=by unfold iB;simp
section
variable {t:Int}
def ID (b off cap b' aZ cap' n:Nat)(g:Nat->Int)(w:World)(hn:n<=1048576)(bz:b<w)(am:aA w b off n g)(bu:b'<w)(aP:aA w b' aZ n g):
  Calls Tz.prog 49 #[.slice (some ⟨b,off,none⟩) n cap,.slice (some ⟨b',aZ,none⟩) n cap'] w λe w'=>e=.returned true/\Below w w w':=by
 go_enter Tz.func49,Tryz.ntmps49
 go_wp2;go_loopw [5] (λi w'=>∃k:Nat,k<=n/\i=.int .i64 k/\Below w w w') (λi _=>n-(intOf i).toNat)
 case atStart=>exact⟨0,ac8 _,rfl,acU _ _⟩
 case round=>
  obtain⟨k,hk,rfl,hB⟩:=hrel;by_cases ay:k<n
  .have hr:=am.below hB bz k ay;have fH:=aP.below hB bu k ay;have dq:(k:Int)<n:=ab;have hne:=aF wr;have c0:=λx:ai wr=>x.cell hr
   have d0:=λx:ai wr=>x.cell fH
   go_wp2;refine jR ?_;intro w1 bI;go_wp2;go_roundw
   case rel=>exact⟨k+1,ab,by go_num,hB.trans<|bI.mono hB.size⟩
   case measure=>exact bZ
  .go_wp2;go_ret;exact⟨rfl,hB⟩
def IC (a a':Option Addr)(cap cap':Nat)(w:World):
  Calls Tz.prog 49 #[.slice a 0 cap,.slice a' 0 cap'] w λe w'=>e=.returned true/\Below w w w':=by
 go_enter Tz.func49,Tryz.ntmps49
 go_wp2;go_loopw [5] (λi w'=>i=.int .i64 0/\Below w w w') (λ_ _=>0)
 case atStart=>exact⟨rfl,acU _ _⟩
 case round=>
  obtain⟨rfl,hB⟩:=hrel;go_wp2;go_ret;exact⟨rfl,hB⟩
def yW (a b:Mv)(w:World)(ha:1<=a.ap/\a.ap<=3)(hb:1<=b.ap/\b.ap<=3):
  Calls Tz.prog 51 #[.agg #[a.name,a.ak,a.ap,a.bF,a.late,a.prom],.agg #[b.name,b.ak,b.ap,b.bF,b.late,b.prom]] w λe w'=>e=.returned (.int .i64<|a.jX b)/\Below w w w':=by
 have lY:∀o1 o2,Below w w ((w.alloc o1).alloc o2):=λo1 o2=>((acU _ w).alloc (ac3 _) _).alloc aG _
 have hg:a.jX b=(if a.ak then 2 else 1)+(if b.ap<a.ap then a.ap-b.ap else 0):=by
  unfold Mv.jX nZ iB;simp[ha,hb]
 have HG:Hid (a.jX b=(if a.ak then 2 else 1)+(if b.ap<a.ap then a.ap-b.ap else 0)):=hg;clear hg;cases hl:a.ak<;>by_cases hw:b.ap<a.ap
 all_goals
  go_enter Tz.func51,Tryz.ntmps51
  go_wp2;go_ret;refine⟨?_,lY _ _⟩;rw[HG.out];simp[hl,hw]<;>omega
def Ss {m:Mv}(h:m.ok=true)(hs:m.eM t=true):¬t<m.bF/\¬m.late<t/\(0<=m.prom->t=m.prom):=by
 have hb:=Mv.fp h;unfold Mv.eM qe iB at hs;simp only[Bool.and_eq_true,decide_eq_true_eq,Bool.or_eq_true,beq_iff_eq]at hs;omega
def Ox {a b:Mv}{s:Int}(h:a.fF b s t=false):(s<=t->a.jX b<=t-s)/\(t<=s->b.jX a<=s-t):=by
 have h1:=jO a.ak a.ap b.ak b.ap s t;unfold Mv.fF at h;rw[h]at h1;have g1:=fO a.ak a.ap b.ap;unfold Mv.jX;by_cases e:s=t
 .subst e;simp at h1
 .rw[if_neg e]at h1;by_cases de:s<t
  .rw[if_pos de]at h1;simp at h1;exact⟨λ_=>h1,λ_=>ab⟩
  .rw[if_neg de]at h1;simp at h1;exact⟨λ_=>ab,λ_=>h1⟩
end
abbrev DR (w:World)(now shift:Int)(a:Option Addr)(n cap:Nat)(a':Option Addr)(m cap':Nat):World:=w.alloc<|.cells #[now,shift,.slice a n cap,.slice a' m cap'] 29
structure rr (w:World)(B:Nat)(now shift:Int)(a:Option Addr)(n cap:Nat)(a':Option Addr)(m cap':Nat):Prop where
 c0:w.cell? B=some (.int .i64 now)
 c1:w.cell? ⟨B,1,none⟩=some (.int .i64 shift)
 c2:w.cell? ⟨B,2,none⟩=some (.slice a n cap)
 c3:w.cell? ⟨B,3,none⟩=some (.slice a' m cap')
def pC (w:World)(now shift:Int)(a:Option Addr)(n cap:Nat)(a':Option Addr)(m cap':Nat):rr (DR w now shift a n cap a' m cap') w.heap.size now shift a n cap a' m cap':=by
 constructor<;>simp[DR]
def rr.below {N B:Nat}{w w':World}{a:Option Addr}{cap:Nat}{a':Option Addr}{cap':Nat}(h:rr w B now shift a n cap a' m cap')(hb:Below N w w')(hB:B<N):rr w' B now shift a n cap a' m cap':=
 ⟨(hb.cell hB).trans h.c0,(hb.cell hB).trans h.c1,(hb.cell hB).trans h.c2,(hb.cell hB).trans h.c3⟩
def jG (w:World)(now shift:Int)(a:Option Addr)(n cap:Nat)(a':Option Addr)(m cap':Nat):Below w w (DR w now shift a n cap a' m cap'):=(acU _ _).alloc (ac3 _) _
def A6 (now:Int){m:Mv}(t:Int)(eO:m.ok=true):
  (fD now m t=false/\decide (t<now)=true)\/(fD now m t=true/\decide (t<now)=false/\decide (t<now+4)=false)
  \/(fD now m t=false/\decide (t<now)=false/\decide (t<now+4)=true/\m.prom=-1)\/(fD now m t=true/\decide (t<now)=false/\decide (t<now+4)=true/\0<=m.prom):=by
 have hb:=Mv.fp eO;unfold fD;by_cases h1:t<now
 .left;simp[h1]
 .by_cases h2:t<now+4
  .rcases hb.2.2.2.1 with h3|h3
   .right;right;left;simp[h1,h2,h3]
   .right;right;right;have:m.prom≠-1:=by omega
    simp[h1,h2,this];omega
  .right;left;simp[h1,h2]
def tG (now shift:Int)(b off n cap:Nat)(f:Nat->Mv)(b' aZ m cap':Nat)(t:Nat->Int)(w:World)(hn:n<=1048576)(nK:m<=maxLen)(bz:b<w)(am:aJ w b off n f)(hf:∀i,i<n->(f i).Fits)(bu:b'<w)(aP:aA w b' aZ m t):
  Calls Tz.prog 39 #[.agg #[now,shift,.slice (some ⟨b,off,none⟩) n cap,.slice (some ⟨b',aZ,none⟩) m cap']] w λe w'=>e=.returned (.bool<|aM now shift f n t m)/\Below w w w':=by
 have bA:=jG w now shift (some ⟨b,off,none⟩) n cap (some ⟨b',aZ,none⟩) m cap';have hA:=pC w now shift (some ⟨b,off,none⟩) n cap (some ⟨b',aZ,none⟩) m cap';have H1:=C4 b off n cap f b' aZ m cap' t _ hn nK (ac4 bz bA.size) (am.below bA bz) hf (ac4 bu bA.size)<|aP.below bA bu;cases h1:iB now 0 10000 with
 |false=>
  have HB:Hid (aM now shift f n t m=false):=Ao h1;go_enter Tz.func39,Tryz.ntmps39
  go_wp2_with(go_at_call 70;refine(ig _ _ _ _).mono ?_;rintro e w' ⟨rfl,rfl⟩)
  go_ret;exact⟨bQ HB.out.symm,bA⟩
 |true=>
  cases h2:iB shift 0 6 with
  |false=>
   have HB:Hid (aM now shift f n t m=false):=uL h2;go_enter Tz.func39,Tryz.ntmps39
   go_wp2_with(go_at_call 70;refine(ig _ _ _ _).mono ?_;rintro e w' ⟨rfl,rfl⟩)
   go_ret;exact⟨bQ HB.out.symm,bA⟩
  |true=>
   cases h3:eC f n t m with
   |false=>
    have HB:Hid (aM now shift f n t m=false):=rA h3;rw[h3]at H1;go_enter Tz.func39,Tryz.ntmps39
    go_wp2_with(first|(go_at_call 70;refine(ig _ _ _ _).mono ?_;rintro e w' ⟨rfl,rfl⟩)|(go_at_call 71;refine H1.mono ?_;clear H1;rintro e w1 ⟨rfl,b1⟩))
    go_ret;exact⟨bQ HB.out.symm,bA.trans<|b1.mono bA.size⟩
   |true=>
    obtain⟨hm,rfl,gG⟩:=nY h3;have h6:=bP hm;have HM:Hid (az f m=true):=hm;have HY:Hid (lE now f t m=true->aM now shift f m t m=true):=by
     have h:lE now f t m=true->aM now shift f m t m=true:=λh4=>mY h1 h2 h3 h4
     exact h
    have KJ:=d6.mp h1;have xP:IntKind.i64.wrap (now+4)=now+4:=ia;rw[h3]at H1;clear hm gG;go_enter Tz.func39,Tryz.ntmps39
    go_wp2_with(first|(go_at_call 70;refine(ig _ _ _ _).mono ?_;rintro e w' ⟨rfl,rfl⟩)|(go_at_call 71;refine H1.mono ?_;clear H1;rintro e w1 ⟨rfl,b1⟩))
    have oa:Below w w w1:=bA.trans<|b1.mono bA.size;have eG:w.heap.size<w1:=ac4 aG b1.size;have LY:=hA.below b1 aG;clear hA b1;go_loopw [3] (λx wr=>∃k:Nat,k<=m/\x=.int .i64 k/\(∀j,j<k->fD now (f j) (t j)=true)/\Below w1 w1 wr) (λx _=>m-(intOf x).toNat)
    case atStart=>exact⟨0,ac8 _,rfl,λj hj=>absurd hj<|ac7 _,acU _ _⟩
    case round=>
     obtain⟨k,hk,rfl,cD,hB⟩:=hrel;have gD:Below w w wr:=oa.trans<|hB.mono oa.size;let⟨a0,a1,a2,a3⟩:=LY.below hB eG;by_cases ay:k<m
     .have dq:(k:Int)<m:=by omega
      have fH:=aP.below gD bu k ay;have hr:=am.below gD bz k ay;have hne:=aF wr;have x0:=λx:ai wr=>x.cell a0
      have x2:=λx:ai wr=>x.cell a2
      have x3:=λx:ai wr=>x.cell a3
      have y5:=λx:ai wr=>x.cell hr.c5
      have y6:=λx:ai wr=>x.cell fH
      rcases A6 now (t k) (aW HM.out k ay)with⟨hs,d1⟩|⟨hs,d1,d2⟩|⟨hs,d1,d2,d3⟩|⟨hs,d1,d2,d3⟩
      .have HB:Hid (aM now shift f m t m=false):=nS<|qb ay hs;have D1:Hid (decide (t k<now)=true):=d1;clear hs d1;go_wp2;have d1:=D1.out;refine jR ?_;intro w2 cj;go_wp2;go_ret;exact⟨bQ HB.out.symm,gD.trans<|cj.mono gD.size⟩
      .have HS:Hid (fD now (f k) (t k)=true):=hs;have D1:Hid (decide (t k<now)=false):=d1;have D2:Hid (decide (t k<now+4)=false):=d2;clear hs d1 d2;go_wp2;have d1:=D1.out;have d2:=D2.out;refine jR ?_;intro w2 cj;go_wp2;go_roundw
       case rel=>exact⟨k+1,ab,by go_num,λj hj=>by
        by_cases e:j=k
        .subst e;exact HS.out
        .exact cD j ab,hB.trans (cj.mono hB.size)⟩
       case measure=>exact bZ
      .have HB:Hid (aM now shift f m t m=false):=nS<|qb ay hs;have D1:Hid (decide (t k<now)=false):=d1;have D2:Hid (decide (t k<now+4)=true):=d2;have D3:Hid (decide ((f k).prom<0)=true):=by
        have h:decide ((f k).prom<0)=true:=by rw[d3];rfl
        exact h
       clear hs d1 d2 d3;go_wp2;have d1:=D1.out;have d2:=D2.out;have d3:=D3.out;refine jR ?_;intro w2 cj;go_wp2;go_ret;exact⟨bQ HB.out.symm,gD.trans<|cj.mono gD.size⟩
      .have HS:Hid (fD now (f k) (t k)=true):=hs;have D1:Hid (decide (t k<now)=false):=d1;have D2:Hid (decide (t k<now+4)=true):=d2;have D3:Hid (decide ((f k).prom<0)=false):=by
        have h:decide ((f k).prom<0)=false:=by simpa using d3
        exact h
       clear hs d1 d2 d3;go_wp2;have d1:=D1.out;have d2:=D2.out;have d3:=D3.out;refine jR ?_;intro w2 cj;go_wp2;go_roundw
       case rel=>exact⟨k+1,ab,by go_num,λj hj=>by
        by_cases e:j=k
        .subst e;exact HS.out
        .exact cD j ab,hB.trans (cj.mono hB.size)⟩
       case measure=>exact bZ
     .have HB:Hid (aM now shift f m t m=true):=by
       have h:aM now shift f m t m=true:=HY.out<|qz λi hi=>cD i ab;exact h
      go_wp2;go_ret;exact⟨bQ HB.out.symm,gD⟩
def Ct (now shift:Int)(b off n cap:Nat)(f:Nat->Mv)(b' aZ m cap':Nat)(t:Nat->Int)(w:World)(hn:n<=1048576)(nK:m<=maxLen)(bz:b<w)(am:aJ w b off n f)(bu:b'<w)(aP:aA w b' aZ m t):
  Calls Tz.prog 16 #[.agg #[now,shift,.slice (some ⟨b,off,none⟩) n cap,.slice (some ⟨b',aZ,none⟩) m cap']] w λe w'=>e=.returned (.bool<|aM now shift f n t m)/\Below w w w':=by
 have bA:=jG w now shift (some ⟨b,off,none⟩) n cap (some ⟨b',aZ,none⟩) m cap';have hA:=pC w now shift (some ⟨b,off,none⟩) n cap (some ⟨b',aZ,none⟩) m cap';have H1:=Cv b off n cap f b' aZ m cap' t _ hn nK (ac4 bz bA.size) (am.below bA bz) (ac4 bu bA.size)<|aP.below bA bu;cases h1:iB now 0 10000 with
 |false=>
  have HB:Hid (aM now shift f n t m=false):=Ao h1;have q:now<0\/¬now<0/\10000<now:=by unfold iB at h1;simp at h1;omega
  clear h1;rcases q with q|⟨q,q'⟩;all_goals
   go_enter Tz.func16,Tryz.ntmps16
   go_wp2;go_ret;exact⟨bQ HB.out.symm,bA⟩
 |true=>
  have KJ:=d6.mp h1;have q1:¬now<0:=ab;have q2:¬10000<now:=ab;cases h2:iB shift 0 6 with
  |false=>
   have HB:Hid (aM now shift f n t m=false):=uL h2;have q:shift<0\/¬shift<0/\6<shift:=by unfold iB at h2;simp at h2;omega
   clear h2;rcases q with q|⟨q,q'⟩;all_goals
    go_enter Tz.func16,Tryz.ntmps16
    go_wp2;go_ret;exact⟨bQ HB.out.symm,bA⟩
  |true=>
   have lh:=d6.mp h2;have q3:¬shift<0:=ab;have q4:¬6<shift:=ab;cases h3:eC f n t m with
   |false=>
    have HB:Hid (aM now shift f n t m=false):=rA h3;rw[h3]at H1;go_enter Tz.func16,Tryz.ntmps16
    go_wp2_with(go_at_call 50;refine H1.mono ?_;clear H1;rintro e w1 ⟨rfl,b1⟩)
    go_ret;exact⟨bQ HB.out.symm,bA.trans<|b1.mono bA.size⟩
   |true=>
    obtain⟨hm,rfl,gG⟩:=nY h3;have h6:=bP hm;have HM:Hid (az f m=true):=hm;have HY:Hid (lE now f t m=true->aM now shift f m t m=true):=by
     have h:lE now f t m=true->aM now shift f m t m=true:=λh4=>mY h1 h2 h3 h4
     exact h
    have xP:IntKind.i64.wrap (now+4)=now+4:=ia;rw[h3]at H1;clear hm gG;let⟨p0,p1,p2,p3⟩:=hA;go_enter Tz.func16,Tryz.ntmps16
    go_wp2_with(go_at_call 50;refine H1.mono ?_;clear H1;rintro e w1 ⟨rfl,b1⟩;let⟨g0,g1,g2,g3⟩:=(rr.mk p0 p1 p2 p3).below b1 aG)
    have oa:Below w w w1:=bA.trans<|b1.mono bA.size;have eG:w.heap.size<w1:=ac4 aG b1.size;have LY:=rr.mk g0 g1 g2 g3;clear p0 p1 p2 p3 b1;go_loopw [32] (λx wr=>∃k:Nat,k<=m/\x=.int .i64 k/\(∀j,j<k->fD now (f j) (t j)=true)/\Below w1 w1 wr) (λx _=>m-(intOf x).toNat)
    case atStart=>exact⟨0,ac8 _,rfl,λj hj=>absurd hj<|ac7 _,acU _ _⟩
    case round=>
     obtain⟨k,hk,rfl,cD,hB⟩:=hrel;have gD:Below w w wr:=oa.trans<|hB.mono oa.size;by_cases ay:k<m
     .have dq:(k:Int)<m:=by omega
      have fH:=aP.below gD bu k ay;let⟨c0,c1,c2,c3,c4,c5⟩:=am.below gD bz k ay;have YM:=LY.below hB eG;have bM:=fG wr<|f k;have hM:=jH wr<|f k;have lz:w.heap.size<wr:=ac4 eG hB.size;have U6:=YM.below bM lz;have ZT:(cR wr<|f k).cell? ⟨b',aZ+k,none⟩=some (.int .i64<|t k):=(bM.cell (p:=⟨b',aZ+k,none⟩)<|ac4 bu gD.size).trans fH;have hne:=aF<|cR wr<|f k;have x0:=λx:ai (cR wr<|f k)=>x.cell U6.c0
      have x3:=λx:ai (cR wr<|f k)=>x.cell U6.c3
      have y6:=λx:ai (cR wr<|f k)=>x.cell ZT
      rcases A6 now (t k) (aW HM.out k ay)with⟨hs,d1⟩|⟨hs,d1,d2⟩|⟨hs,d1,d2,d3⟩|⟨hs,d1,d2,d3⟩
      .have HB:Hid (aM now shift f m t m=false):=nS<|qb ay hs;have D1:Hid (decide (t k<now)=true):=d1;clear hs d1;go_wp2;have d1:=D1.out;refine jR ?_;intro w2 cj;go_wp2;go_ret;exact⟨bQ HB.out.symm,gD.trans<|(bM.trans<|cj.mono bM.size).mono gD.size⟩
      .have HS:Hid (fD now (f k) (t k)=true):=hs;have D1:Hid (decide (t k<now)=false):=d1;have D2:Hid (decide (t k<now+4)=false):=d2;clear hs d1 d2;go_wp2;have d1:=D1.out;refine jR ?_;intro w2 cj;have Jk:Below wr wr w2:=bM.trans<|cj.mono bM.size;have KB:=hM.below cj aG;have SY:=U6.below cj<|ac4 lz bM.size;have ZU:w2.cell? ⟨b',aZ+k,none⟩=some (.int .i64<|t k):=(cj.cell (p:=⟨b',aZ+k,none⟩)<|ac4 (ac4 bu gD.size) bM.size).trans ZT;clear x0 x3 y6 hne d1;have hne:=aF w2;have x0:=λx:ai w2=>x.cell SY.c0
       have x3:=λx:ai w2=>x.cell SY.c3
       have y6:=λx:ai w2=>x.cell ZU
       have z5:=λx:ai w2=>x.cell KB.c5
       simp only[Nat.zero_add]at z5;have D4:Hid (((f k).prom==-1)=true\/((f k).prom==-1)=false):=by
        have h:((f k).prom==-1)=true\/((f k).prom==-1)=false:=by cases ((f k).prom==-1)<;>simp
        exact h
       go_wp2;have d2:=D2.out;rcases D4.out with d4|d4;all_goals
        refine jR ?_;intro w3 iC;go_wp2;go_roundw
        case rel=>exact⟨k+1,ab,by go_num,λj hj=>by
         by_cases e:j=k
         .subst e;exact HS.out
         .exact cD j ab,hB.trans ((Jk.trans<|iC.mono Jk.size).mono hB.size)⟩
        case measure=>exact bZ
      .have HB:Hid (aM now shift f m t m=false):=nS<|qb ay hs;have D1:Hid (decide (t k<now)=false):=d1;have D2:Hid (decide (t k<now+4)=true):=d2;have D3:Hid (((f k).prom==-1)=true):=by
        have h:((f k).prom==-1)=true:=by rw[d3];rfl
        exact h
       clear hs d1 d2 d3;go_wp2;have d1:=D1.out;refine jR ?_;intro w2 cj;have Jk:Below wr wr w2:=bM.trans<|cj.mono bM.size;have KB:=hM.below cj aG;have SY:=U6.below cj<|ac4 lz bM.size;have ZU:w2.cell? ⟨b',aZ+k,none⟩=some (.int .i64<|t k):=(cj.cell (p:=⟨b',aZ+k,none⟩)<|ac4 (ac4 bu gD.size) bM.size).trans ZT;clear x0 x3 y6 hne d1;have hne:=aF w2;have x0:=λx:ai w2=>x.cell SY.c0
       have x3:=λx:ai w2=>x.cell SY.c3
       have y6:=λx:ai w2=>x.cell ZU
       have z5:=λx:ai w2=>x.cell KB.c5
       simp only[Nat.zero_add]at z5;go_wp2;have d2:=D2.out;have d3:=D3.out;refine jR ?_;intro w3 iC;go_wp2;go_ret;exact⟨bQ HB.out.symm,gD.trans<|(Jk.trans<|iC.mono Jk.size).mono gD.size⟩
      .have HS:Hid (fD now (f k) (t k)=true):=hs;have D1:Hid (decide (t k<now)=false):=d1;have D2:Hid (decide (t k<now+4)=true):=d2;have D3:Hid (((f k).prom==-1)=false):=by
        have h:((f k).prom==-1)=false:=cH;exact h
       clear hs d1 d2 d3;go_wp2;have d1:=D1.out;refine jR ?_;intro w2 cj;have Jk:Below wr wr w2:=bM.trans<|cj.mono bM.size;have KB:=hM.below cj aG;have SY:=U6.below cj<|ac4 lz bM.size;have ZU:w2.cell? ⟨b',aZ+k,none⟩=some (.int .i64<|t k):=(cj.cell (p:=⟨b',aZ+k,none⟩)<|ac4 (ac4 bu gD.size) bM.size).trans ZT;clear x0 x3 y6 hne d1;have hne:=aF w2;have x0:=λx:ai w2=>x.cell SY.c0
       have x3:=λx:ai w2=>x.cell SY.c3
       have y6:=λx:ai w2=>x.cell ZU
       have z5:=λx:ai w2=>x.cell KB.c5
       simp only[Nat.zero_add]at z5;go_wp2;have d2:=D2.out;have d3:=D3.out;refine jR ?_;intro w3 iC;go_wp2;go_roundw
       case rel=>exact⟨k+1,ab,by go_num,λj hj=>by
        by_cases e:j=k
        .subst e;exact HS.out
        .exact cD j ab,hB.trans ((Jk.trans<|iC.mono Jk.size).mono hB.size)⟩
       case measure=>exact bZ
     .have HB:Hid (aM now shift f m t m=true):=by
       have h:aM now shift f m t m=true:=HY.out<|qz λi hi=>cD i ab;exact h
      go_wp2;go_ret;exact⟨bQ HB.out.symm,gD⟩
def QZ {k:Nat}(h:dU f t n)(hi:i<n)(hk:k<n)(hne:k≠i)(hle:t i<=t k):t i+(f i).jX (f k)<=t k:=by
 by_cases ay:i<k
 .have:=(Ox<|h.2 k i ay hk).1 hle;omega
 .have:=(Ox<|h.2 i k (by omega) hi).2 hle;omega
def LP (b off n cap:Nat)(f:Nat->Mv)(b' aZ cap':Nat)(t:Nat->Int)(w:World)(bz:b<w.heap.size)(am:aJ w b off n f)(bu:b'<w.heap.size)(aP:aA w b' aZ n t)(hm:az f n=true)(gG:dU f t n):
  Calls Tz.prog 17 #[.slice (some ⟨b,off,none⟩) n cap,.slice (some ⟨b',aZ,none⟩) n cap'] w λe w'=>e=.returned (.bool true)/\Below w.heap.size w w':=by
 have h6:=bP hm;have HM:Hid (az f n=true):=hm;clear hm;go_enter Tz.func17,Tryz.ntmps17
 go_wp2;go_loopw [5] (λi wr=>∃k:Nat,k<=n/\i=.int .i64 k/\Below w.heap.size w wr) (λi _=>n-(intOf i).toNat)
 case atStart=>exact⟨0,ac8 _,rfl,acU _ _⟩
 case round=>
  obtain⟨i,hi,rfl,hB⟩:=hrel;by_cases ay:i<n
  .have hr:=am.below hB bz i ay;have fH:=aP.below hB bu i ay;let⟨c0,c1,c2,c3,c4,c5⟩:=hr;have dq:(i:Int)<n:=by omega
   have hA:=fG wr<|f i;have Ve:=jH wr<|f i;have eO:=aW HM.out i ay;have I6:=Mv.fp eO;have Nz:b'<wr.heap.size:=ac4 bu hB.size;let⟨s1,s2,s3⟩:=Ss eO<|gG.1 i ay;have Z1:Hid (decide (t i<(f i).bF)=false):=by
    have h:decide (t i<(f i).bF)=false:=by simpa using s1
    exact h
   have Z2:Hid (decide ((f i).late<t i)=false):=by
    have h:decide ((f i).late<t i)=false:=by simpa using s2
    exact h
   have Z3:Hid (decide (0<=(f i).prom)=false\/(decide (0<=(f i).prom)=true/\(t i !=(f i).prom)=false)):=by
    have h:decide (0<=(f i).prom)=false\/(decide (0<=(f i).prom)=true/\(t i !=(f i).prom)=false):=by
     by_cases hp:0<=(f i).prom
     .exact .inr ⟨by simpa using hp,by simpa using s3 hp⟩
     .exact .inl (by simpa using hp)
    exact h
   clear s1 s2 s3;have hne:=aF<|cR wr<|f i;have e3:=λx:ai (cR wr<|f i)=>x.cell Ve.c3
   have e4:=λx:ai (cR wr<|f i)=>x.cell Ve.c4
   have e5:=λx:ai (cR wr<|f i)=>x.cell Ve.c5
   have e6:=λx:ai (cR wr<|f i)=>x.cell<|(hA.cell (p:=⟨b',aZ+i,none⟩) Nz).trans fH
   simp only[Nat.zero_add]at e3 e4 e5;go_wp2;have z1:=Z1.out;have z2:=Z2.out;rcases Z3.out with z3|⟨z3,z4⟩;all_goals
    refine jR ?_;intro w2 cj;have KB:=Ve.below cj (by simp);have qp:Below w.heap.size w w2:=hB.trans<|(hA.trans<|cj.mono hA.size).mono hB.size;have ga:wr.heap.size<w2.heap.size:=ac4 (by simp) cj.size;clear e3 e4 e5 e6 hne cj hA Ve c0 c1 c2 c3 c4 c5 fH;try clear z4
    clear z1 z2 z3 Z1 Z2 Z3;go_wp2;go_loopw [7] (λy wv=>∃k:Nat,k<=n/\y=.int .i64 k/\Below w2.heap.size w2 wv) (λy _=>n-(intOf y).toNat)
    case atStart=>exact⟨0,ac8 _,rfl,acU _ _⟩
    case round=>
     obtain⟨k,hk,rfl,Ky⟩:=hrel;have GR:Below w.heap.size w wr:=qp.trans<|Ky.mono qp.size;by_cases NM:k<n
     .have abb:(k:Int)<n:=by omega
      let⟨m0,m1,m2,m3,m4,m5⟩:=KB.below Ky ga;simp only[Nat.zero_add]at m0 m1 m2 m3 m4 m5;have nJ:=aP.below GR bu i ay;have po:=aP.below GR bu k NM;let⟨d0,d1,d2,d3,d4,d5⟩:=am.below GR bz k NM;have P6:=(Mv.fp<|aW HM.out k NM).2.2.2.2;have hwi:=I6.2.2.2.2;have KL:=aW HM.out k NM;have nI:=Mv.fp KL;have ti:=fT<|gG.1 i ay;have tk:=fT<|gG.1 k NM;have gp:=fO (f i).ak (f i).ap (f k).ap;have gl:=sV (f i).ak (f i).ap (f k).ap;have hgz:(f i).jX (f k)=nZ (f i).ak (f i).ap (f k).ap:=rfl;rw[<-hgz]at gp gl;clear hgz;have xP:IntKind.i64.wrap (t i+(f i).jX (f k))=t i+(f i).jX (f k):=by rw[IntKind.wrap_i64];omega
      have hne:=aF wr;have a0:=λx:ai wr=>x.cell m0
      have a1:=λx:ai wr=>x.cell m1
      have a2:=λx:ai wr=>x.cell m2
      have a3:=λx:ai wr=>x.cell m3
      have a4:=λx:ai wr=>x.cell m4
      have a5:=λx:ai wr=>x.cell m5
      have b0:=λx:ai wr=>x.cell d0
      have b1:=λx:ai wr=>x.cell d1
      have b2:=λx:ai wr=>x.cell d2
      have b3:=λx:ai wr=>x.cell d3
      have b4:=λx:ai wr=>x.cell d4
      have b5:=λx:ai wr=>x.cell d5
      have x0:=λx:ai wr=>x.cell nJ
      have x1:=λx:ai wr=>x.cell po
      have Y:Hid ((k=i)\/(((k:Int)!=i)=true/\decide (t i<=t k)=false)\/(((k:Int)!=i)=true/\decide (t i<=t k)=true/\decide (t k<t i+(f i).jX (f k))=false)):=by
       have h:(k=i)\/(((k:Int)!=i)=true/\decide (t i<=t k)=false)\/(((k:Int)!=i)=true/\decide (t i<=t k)=true/\decide (t k<t i+(f i).jX (f k))=false):=by
        by_cases e:k=i
        .exact .inl e
        .have e':((k:Int)!=i)=true:=by simp;omega
         by_cases hle:t i<=t k
         .have:=QZ gG ay NM e hle;exact .inr<|.inr ⟨e',by simpa using hle,by simpa using this⟩
         .exact .inr (.inl ⟨e',by simpa using hle⟩)
       exact h
      go_wp2;rcases Y.out with y0|⟨y0,y1⟩|⟨y0,y1,y2⟩
      .subst y0;refine aI ?_;repeat(go_big_quiet_step ((go_at_call 51;exact bw<|yW (f k) (f k) _ hwi P6)))
       refine wpQuiet_nil<|bL ?_;intro w3 iC;go_wp2;go_roundw
       case rel=>exact⟨k+1,by omega,by go_num,Ky.trans<|iC.mono Ky.size⟩
       case measure=>exact bZ
      .refine aI ?_;repeat(go_big_quiet_step ((go_at_call 51;exact bw<|yW (f i) (f k) _ hwi P6)))
       refine wpQuiet_nil<|bL ?_;intro w3 iC;go_wp2;go_roundw
       case rel=>exact⟨k+1,by omega,by go_num,Ky.trans<|iC.mono Ky.size⟩
       case measure=>exact bZ
      .refine aI ?_;repeat(go_big_quiet_step ((go_at_call 51;exact bw<|yW (f i) (f k) _ hwi P6)))
       refine wpQuiet_nil<|bL ?_;intro w3 iC;go_wp2;go_roundw
       case rel=>exact⟨k+1,by omega,by go_num,Ky.trans<|iC.mono Ky.size⟩
       case measure=>exact bZ
     .go_wp2;go_roundw
      case rel=>exact⟨i+1,by omega,by go_num,GR⟩
      case measure=>exact bZ
  .go_wp2;go_ret;exact⟨rfl,hB⟩
