import Derived.Test.YtjoalkgmgmmedaaGreatDoorj08
import Derived.Test.YtjoalkgmgmmedaaGreatDoorj44
set_option linter.defProp false
set_option linter.unusedSimpArgs false
set_option linter.unusedVariables false
set_option linter.unusedSectionVars false
set_option maxHeartbeats 8000000
set_option maxRecDepth 20000
open Array renaming size_eq_zero_iff->a7
open ByteArray renaming size_append->ao,ext->bm,size_extract->bn
open Go renaming World->a8,Value->be,wp_region_held_drew->bj,Calls->bk,execOp->bo,results_none->bE,wpAnyH_done->bH,binOp->bI,sizeOf->bL
open Go.Act renaming put->a6
open Go.Ending renaming returned->a0
open Go.Lib renaming countByte->ai,strCells->aV,TabIs->bB
open Go.Op renaming equalIn->a9,maxDepth->br,equal->bv
open Go.Value renaming pointer->aa,slice->ac,string->av,int->aL,tuple->bp,agg->bs,bool->bz
open List renaming setIfInBounds_toArray->ad,set_cons_succ->au,set_cons_zero->ay,mem_range->bt
open Nat renaming le_of_eq->a4,zero_add->bi
open Option renaming isSome_iff_exists->a5
namespace Go.Proofs.YtjoalkgmgmmedaaGreatDoor
open Conc Lib RowKit Shelf
variable {b:Bk}{s t:ByteArray}{c r0:Frame}{cs:List Frame}{B N:Nat}{p:Prop}{v y:be}{Q:be->a8->Prop}{V W w:a8}
def Dl:∀(n:Nat) {b:Bk} (d:b.ok) (o:ByteArray),(eH n b o).1.ok/\(eH n b o).2.size<=o.size+54*n+11
 |0,b,d,o=>by
  have:=dy (z:=b.now) (by have:=(gd d).1;omega);refine⟨d,?_⟩;show(o++⟨#[110,111,119,32]⟩++fd b.now).size<=_;rw[ao,ao];show o.size+4+_<=_;omega
 |n+1,b,d,o=>by
  have j:(fd 2).size<=6:=dy (by decide);rw[eH];split
  .refine⟨d,?_⟩;show(o++(⟨#[99,111,100,101,32]⟩++fd 2)).size<=_;rw[ao,ao];show o.size+(5+_)<=_;omega
  .rename_i h;have e:=Dl n (J9 d h)<|kU b (gone b.now b.t b.n) o;have l:=jS d (gone b.now b.t b.n) o λi g=>(qm g).1;have r:=ql b.now b.t b.n;have A:=d.Ns;exact⟨e.1,by omega⟩
def Af {b}(d:b.ok):∀L:List Nat,(∀i∈L,i<b.n)->∀o:ByteArray,(L.foldl (λo i=>o++jQ b i) o).size<=o.size+17*L.length
 |[],_,o=>afK _
 |i::L,h,o=>by
  have e:=h i (by simp);have l:=Af d L (λj g=>h j<|by simp[g])<|o++jQ b i;have r:=d.name e;have A:=dy (z:=b.t i) (by have:=(gb.fits (bK d).1 (bK d).2.2) i e;omega);have C:(jQ b i).size<=17:=by
   unfold jQ;simp;show 1+_+1+_+_<=_;split
   .show _+0<=_;omega
   .show _+1<=_;omega
  grind
def pm (b):∀k i,(fg b k i).length<=b.n*k+i
 |0,0=>afK _
 |k+1,0=>by rw[<-uJ];exact pm b k b.n
 |k,i+1=>by
  have:=pm b k i;by_cases h:b.t i=b.now+(k:Nat)
  .rw[pn h,List.length_append];simp;omega
  .rw[wW h];omega
def JD (b):jW b=fg b (10001-b.now.toNat) 0:=by simp[jW,fg]
def tv (hb:b.ok):(kS b).size<=1100000:=by
 have r:=pm b (10001-b.now.toNat) 0;rw[<-JD]at r;have A:=Af hb (jW b) (λi C=>by grind [jW])<|fd b.now;have D:=dy (z:=b.now) (by have:=(gd hb).1;omega);let⟨⟨_,J⟩,_,O⟩:=DH hb;have R:=dy (z:=(bU b.f b.n b.t b.n).1) (by omega);have T:=dy (z:=(bU b.f b.n b.t b.n).2) (by omega);have U:=Nat.mul_le_mul hb.Ns (show 10001-b.now.toNat<=10001 by omega);unfold kS;simp;show _+(6+_+6+_)<=_;omega
def yV {x}(h:x.1.ok/\0<=x.2/\x.2<=6):(codeF x).1.ok/\(codeF x).2.size<=1100000:=by
 have:=dy (z:=x.2) (by omega);refine⟨h.1,?_⟩;unfold codeF;simp;show 5+_<=_;omega
def zQ (a:b.ok)(k g):(bG b k g).1.ok/\(bG b k g).2.size<=1100000:=by
 have e:((b,⟨#[98,97,100]⟩):Bk×ByteArray).1.ok/\((b,⟨#[98,97,100]⟩):Bk×ByteArray).2.size<=1100000:=⟨a,show 3<=1100000 by decide⟩;unfold bG;simp;split
 .split
  .exact yV (Ik a)
  omega
 split
 .exact yV (IF a)
 split
 .exact yV (JG a)
 split
 .split
  .rename_i h;have d:=Dl h.choose a ⟨#[]⟩;have i:=h.choose_spec.2;exact⟨d.1,afN d.2 (by show 0+_+_<=_;omega)⟩
  omega
 split
 .exact⟨a,tv a⟩
 split
 .refine⟨a,?_⟩;show(if _ then _ else _:ByteArray).size<=_;split<;>decide
 omega
def yj (g):∀k,(pV g k).1.ok/\(pV g k).2.size<=1100001*k
 |0=>⟨show aY 0 2 _ 0 _ 0=true from q8 (by decide) (by decide),afK _⟩
 |k+1=>by
  have a:=yj g k;have d:=zQ a.1 (ai (g k).data.toList 32)<|d9 32<|g k;refine⟨d.1,?_⟩;show((pV g k).2++(uw (pV g k).1<|g k).2++⟨#[10]⟩).size<=_;rw[ao,ao];show _+(bG _ _ _).2.size+1<=_;omega
def Cg (c s):∀k,(gU c s k).size<=s.size
 |0=>afK _
 |k+1=>by
  show((gU c s k).extract _ (gU c s k).size).size<=_;have:=Cg c s k;rw[bn];omega
def rh (c s k):(d9 c s k).size<=s.size:=by
 have:=Cg c s k;grind [d9,bn]
def oE (c)(s:ByteArray):ai s.data.toList c<=s.size:=by
 have:=List.count_le_length (a:=c) (l:=s.data.toList);assumption
def QN {base k c q}(h:W.ownsRow base 9 1 (ac (some ⟨B,0,none⟩) k c) k (Xs q s k)):Ij W B 0 k (d9 q s):=λi e=>by
 rw[bi];exact(h.cellAt i gC).trans<|by simp[Xs,e]
def acm (x9:p:=by
  have mF:(d9 10 s K).toList.isEmpty=false:=by simpa using jV (a:=d9 10 s K) (l:=[]) λe=>hl (by rw[e];rfl)
  go_wp2;go_ret;exact⟨rfl,b1⟩):p:=x9
def acw (x9:p:=by
  rw[show d9 10 s K=⟨#[]⟩ from ByteArray.ext (Array.size_eq_zero_iff.1 hl)]at tl;go_wp2;go_ret;exact⟨rfl,b1⟩):p:=x9
def Q4 (s)(hs:s.size<=1048576)(w):bk Tz.prog 4 #[av s] w λe w'=>e=a0 (av<|xe s)/\Below w w w':=by
 have H1:bk Tz.prog 6 #[av s,aL .u8 10] w _:=KJ s 10 hs w;obtain⟨R,U⟩:∃R,xe s=R:=⟨_,rfl⟩;rw[U];have aI:=oE 10 s;unfold xe te at U;simp only at U;obtain⟨K,hK⟩:∃K,ai s.data.toList 10=K:=⟨_,rfl⟩;rw[hK]at H1 U aI;obtain⟨m,hm⟩:∃m,(if(d9 10 s K).size=0 then K else K+1)=m:=⟨_,rfl⟩;rw[hm]at U;have aZ:m<=K+1:=by rw[<-hm];split<;>omega
 replace U:Hid _:=U;replace hm:Hid _:=hm;clear hK;go_enter Tz.func4,Tryz.ntmps4
 go_wp2_with(go_at_call 6;fail)
 refine H1.mono ?_;clear H1;rintro e w1 ⟨⟨B,cp,rfl,J⟩,b1⟩;have hT:=QN J;have hB:=(kO J).1;have Zh:=(kO J).2;have tl:=hT K<|afY _;rw[bi]at tl;clear J;let⟨W2,e2,k2,b2,z2⟩:=boxed w1 0 0 none 0 0 none 0 0;let⟨x0,x1,x2,x3,x4⟩:=k2.cells;let⟨W3,e3,k3,b3,z3,o3⟩:=aJ k2 b2 (afK _) 0 2 none 0 0 none 0 0;replace z2:Hid _:=z2;replace z3:Hid _:=z3;by_cases h1:10000<s.size
 .have nv:(10000:Int)<s.size:=by omega
  rw[if_pos (.inl h1)]at U;obtain rfl:=U.out;by_cases hl:(d9 10 s K).size=0
  .exact acw
  .exact acm
 have nv:¬(10000:Int)<s.size:=by omega
 by_cases h2:200<m
 .rw[if_pos (.inr h2)]at U;obtain rfl:=U.out;by_cases hl:(d9 10 s K).size=0
  .have Mf:(200:Int)<K:=by have:=hm.out;rw[if_pos hl]at this;omega
   exact acw
  .have Mf:(200:Int)<(K:Int)+1:=by have:=hm.out;rw[if_neg hl]at this;omega
   exact acm
 rw[if_neg (by omega)]at U;have AS:Hid (m<=200):=Nat.le_of_not_lt h2;by_cases hl:(d9 10 s K).size=0;case' pos=>
  have lw:K=m:=by have:=hm.out;rwa [if_pos hl]at this
  have Mf:¬(200:Int)<K:=by omega
  replace lw:Hid _:=lw;rw[show d9 10 s K=⟨#[]⟩ from bm (a7.1 hl)]at tl;go_wp2;rw[lw.out]
 case' neg=>
  have lw:K+1=m:=by have:=hm.out;rwa [if_neg hl]at this
  have Mf:¬(200:Int)<(K:Int)+1:=by omega
  replace lw:Hid _:=lw;have mF:(d9 10 s K).toList.isEmpty=false:=by simpa using jV (a:=d9 10 s K) (l:=[]) λe=>hl (by rw[e];rfl)
  go_wp2;rw[lw.out]
 all_goals
  clear tl x0 x1 x2 x3 x4 k2 b2 e2 e3;replace AS:=AS.out;generalize hg:d9 10 s=g at*;replace hg:Hid _:=hg;go_loopw [5,6] (λo x W=>∃(i:Nat) (b:Bk) (O:ByteArray) (t2:Option Addr) (d2:Nat) (t3:Option Addr) (d3:Nat),i<=m/\x=aL .i64 i/\o=av O/\Hid (pV g i=(b,O))/\aR W w1.heap.size b.now b.shift (ac t2 b.n d2) (ac t3 b.n d3)/\fp (λx=>x=w1.heap.size) W b t2 d2 t3 d3/\Below w1 w1 W) (λ_ x _=>m-(intOf x).toNat)
  case atStart=>exact⟨0,⟨0,2,0,_,_⟩,_,none,0,none,0,afP _,rfl,rfl,rfl,k3,⟨⟨λ_=>⟨rfl,rfl⟩,λ_ h=>nomatch h⟩,⟨λ_=>⟨rfl,rfl⟩,λ_ h=>nomatch h⟩,afK _,λa h=>by rcases h with h|h<;>cases h⟩,b3⟩
  case round=>
   obtain⟨i,b,O,t2,d2,t3,d3,hi,rfl,rfl,hF,r,C,A⟩:=hrel;let⟨hb,ho⟩:=yj g i;rw[hF.out]at hb ho;replace ho:O.size<=1100001*i:=ho;let⟨y0,y1,y2,y3,y4⟩:=r.cells;by_cases aF:i<m
   .have dV:(i:Int)<m:=by omega
    have ti:=hT.below A hB i (by omega);rw[bi]at ti;have iY:B<wr.heap.size:=afL hB A.size;have aB:(g i).size<=10000:=by rw[<-hg.out];exact afN (rh 10 s i)<|by omega
    obtain⟨Z,hZ⟩:∃Z,uw b (g i)=Z:=⟨_,rfl⟩;let⟨aE,H7⟩:=zQ hb (ai (g i).data.toList 32)<|d9 32<|g i;rw[show bG b _ _=Z from hZ]at aE H7;have HC:∀W,bk Tz.prog 6 #[av<|g i,aL .u8 32] W _:=λW=>KJ (g i) 32 (afN aB<|by decide) W
    have HL:∀(W:a8) (lo:Nat) (X:Nat->Prop) (hX:∀x,X x->x<W) (C:fp X W b t2 d2 t3 d3) (B2 c2:Nat) (J:W.ownsRow lo 9 1 (ac (some ⟨B2,0,none⟩) (ai (g i).data.toList 32+1) c2) (ai (g i).data.toList 32+1) (Xs 32 (g i)<|ai (g i).data.toList 32+1)),bk Tz.prog 7 #[bs #[aL .i64 b.now,aL .i64 b.shift,ac t2 b.n d2,ac t3 b.n d3],ac (some B2) (ai (g i).data.toList 32+1:Nat) c2] W λe w'=>(∃s2 c2 s3 c3,e=a0 (bp #[bs #[aL .i64 Z.1.now,aL .i64 Z.1.shift,ac s2 Z.1.n c2,ac s3 Z.1.n c3],av Z.2])/\fp X w' Z.1 s2 c2 s3 c3)/\Below W W w':=λW lo X hX C B2 c2 J=>by
     rw[<-hZ];exact Qo b hb t2 d2 t3 d3 W X hX C B2 _ c2 (d9 32<|g i) (kO J).2 (afN (oE 32 _) aB) (λj=>afN (rh 32 _ j) aB) (kO J).1<|QN J
    have eO:¬9223372036854775807<O.size+Z.2.size:=by omega
    have fZ:¬9223372036854775807<O.size+Z.2.size+1:=by omega
    replace hZ:Hid _:=hZ;clear aE H7 ho;generalize ai (g i).data.toList 32=kk at*;go_wp2;refine bj (S:=Kp wr w1.heap.size B B) aO ⟨afK _,⟨r.lt,iY,iY⟩,rfl,rfl,rfl⟩ λhS=>?_;refine aj 0 (bs #[aL .i64 b.now,aL .i64 b.shift,ac t2 b.n d2,ac t3 b.n d3]) 39 rfl pY hS ?_;refine aj 1 (ac (some B) m cp) 40 rfl pY hS ?_;refine aj 2 (aL .i64 i) 41 rfl pY hS ?_;refine aj 3 (aa<|some ⟨B,i,none⟩) 42 rfl pY hS ?_;refine aj 4 (av<|g i) 43 rfl pY hS ?_;simp only[a6,ad,ay,au];refine Ls 5 10 rfl rfl (λK hK=>?_) λK hK=>?_;focus
     go_simp
     go_at_call 6
     refine(HC _).mono ?_;rintro e w2 ⟨⟨B2,c2,rfl,J⟩,b2⟩;have g2:=(afB _ wr).drew.trans b2;have A:=A.trans<|g2.mono A.size;have r:=r.same<|g2.block _ r.lt;have C:=C.grow g2;refine hK.out _ _ (hS.below b2) λhS=>?_
     clear hK K;refine Ls 6 10 rfl rfl (λK hK=>?_) λK hK=>?_;focus
      go_simp
      go_at_call 7
      refine(HL _ _ _ (λx h=>h▸r.lt) C _ _ J).mono ?_;rintro e w5 ⟨⟨p2,q2,p3,q3,rfl,C⟩,b5⟩;have A:=A.trans<|b5.mono A.size;have r:=r.same<|b5.block _ r.lt;refine hK.out _ _ (hS.below b5) λhS=>?_
      clear hK K;refine aj 7 (bp #[bs #[aL .i64 Z.1.now,aL .i64 Z.1.shift,ac p2 Z.1.n q2,ac p3 Z.1.n q3],av Z.2]) 38 rfl gQ hS ?_;refine aj 8 (bs #[aL .i64 Z.1.now,aL .i64 Z.1.shift,ac p2 Z.1.n q2,ac p3 Z.1.n q3]) 46 rfl gQ hS ?_;refine aj 9 (av Z.2) 47 rfl gQ hS ?_;simp only[a6,ad,ay,au];refine f8 10 rfl λK hK=>?_;let⟨WA,eA,D,T,zA⟩:=boxed w5 0 0 none 0 0 none 0 0;replace zA:Hid _:=zA;have ax:w1.heap.size<w5.heap.size:=r.lt;have TS:B≠w5.heap.size:=af1<|afL hB A.size;have C:=(C.more (Y:=λx=>x=w1.heap.size\/x=w5.heap.size) λx h=>h.imp id λh=>a4 h.symm).grow T;go_simp
      refine hK.out _ _ (hS.below T) λhS=>?_
      clear hK K eA;have A:=A.trans<|T.mono A.size;have r:=r.same<|T.block _ r.lt
     rotate_left;focus
      let⟨WA,eA,D,T,zA⟩:=boxed w2 0 0 none 0 0 none 0 0;replace zA:Hid _:=zA;have ax:w1.heap.size<w2.heap.size:=r.lt;have TS:B≠w2.heap.size:=af1<|afL hB A.size;have C:=(C.more (Y:=λx=>x=w1.heap.size\/x=w2.heap.size) λx h=>h.imp id λh=>a4 h.symm).grow T;go_simp
      refine hK.out _ _ (hS.below T) λhS=>?_
      clear hK K eA;have A:=A.trans<|T.mono A.size;have r:=r.same<|T.block _ r.lt;have J:=iT J T;refine f8 6 rfl λK hK=>?_;go_simp
      go_at_call 7
      refine(HL _ _ _ (λx h=>h.elim (λh=>h▸r.lt) λh=>h▸D.lt) C _ _ J).mono ?_;rintro e w5 ⟨⟨p2,q2,p3,q3,rfl,C⟩,b5⟩;have A:=A.trans<|b5.mono A.size;have r:=r.same<|b5.block _ r.lt;have D:=D.same<|b5.block _ D.lt;refine hK.out _ _ (hS.below b5) λhS=>?_
      clear hK K;refine aj 7 (bp #[bs #[aL .i64 Z.1.now,aL .i64 Z.1.shift,ac p2 Z.1.n q2,ac p3 Z.1.n q3],av Z.2]) 38 rfl gQ hS ?_;refine aj 8 (bs #[aL .i64 Z.1.now,aL .i64 Z.1.shift,ac p2 Z.1.n q2,ac p3 Z.1.n q3]) 46 rfl gQ hS ?_;refine aj 9 (av Z.2) 47 rfl gQ hS ?_;simp only[a6,ad,ay,au]
    rotate_left 2;focus
     let⟨WA,eA,D,T,zA⟩:=boxed wr.drew 0 0 none 0 0 none 0 0;have D:aR WA wr.heap.size 0 0 (ac none 0 0) (ac none 0 0):=D;replace zA:Hid _:=zA;have ax:w1.heap.size<wr.heap.size:=r.lt;have TS:B≠wr.heap.size:=af1<|afL hB A.size;have C:=(C.more (Y:=λx=>x=w1.heap.size\/x=wr.heap.size) λx h=>h.imp id λh=>a4 h.symm).grow<|(afB _ wr).drew.trans T;go_simp
     refine hK.out _ _ (hS.below T) λhS=>?_
     clear hK K eA;have gA:=(afB _ wr).drew.trans T;have A:=A.trans<|gA.mono A.size;have r:=r.same<|gA.block _ r.lt;refine f8 5 rfl λK hK=>?_;go_simp
     go_at_call 6
     refine(HC _).mono ?_;rintro e w2 ⟨⟨B2,c2,rfl,J⟩,b2⟩;have A:=A.trans<|b2.mono A.size;have r:=r.same<|b2.block _ r.lt;have C:=C.grow b2;have D:=D.same<|b2.block _ D.lt;refine hK.out _ _ (hS.below b2) λhS=>?_
     clear hK K;refine f8 6 rfl λK hK=>?_;go_simp
     go_at_call 7
     refine(HL _ _ _ (λx h=>h.elim (λh=>h▸r.lt) λh=>h▸D.lt) C _ _ J).mono ?_;rintro e w5 ⟨⟨p2,q2,p3,q3,rfl,C⟩,b5⟩;have A:=A.trans<|b5.mono A.size;have r:=r.same<|b5.block _ r.lt;have D:=D.same<|b5.block _ D.lt;refine hK.out _ _ (hS.below b5) λhS=>?_
     clear hK K;refine aj 7 (bp #[bs #[aL .i64 Z.1.now,aL .i64 Z.1.shift,ac p2 Z.1.n q2,ac p3 Z.1.n q3],av Z.2]) 38 rfl gQ hS ?_;refine aj 8 (bs #[aL .i64 Z.1.now,aL .i64 Z.1.shift,ac p2 Z.1.n q2,ac p3 Z.1.n q3]) 46 rfl gQ hS ?_;refine aj 9 (av Z.2) 47 rfl gQ hS ?_;simp only[a6,ad,ay,au]
    all_goals
     refine f8 11 rfl λK hK=>?_;let⟨x0,x1,x2,x3,x4⟩:=D.cells;let⟨W7,e7,k7,b7,z7,o7⟩:=aJ D A (af2 ax) Z.1.now Z.1.shift p2 Z.1.n q2 p3 Z.1.n q3;replace z7:Hid _:=z7;go_simp
     refine hK.out _ _ (hS.set o7 z7.out (af1 ax) TS TS) λhS=>?_
     clear hK K;refine aj 12 (av Z.2) 8 rfl gQ hS ?_;refine bH aO ?_ _;simp only[a6,ad,ay,au];clear y0 y1 y2 y3 y4 x0 x1 x2 x3 x4 e7;have r:=r.same<|o7 _<|af1 ax;let⟨y0,y1,y2,y3,y4⟩:=r.cells;let⟨x0,x1,x2,x3,x4⟩:=k7.cells;let⟨W8,e8,k8,b8,z8,o8⟩:=aJ r b7 (afK _) Z.1.now Z.1.shift p2 Z.1.n q2 p3 Z.1.n q3;replace z8:Hid _:=z8;go_wp2;go_roundw
     case rel=>exact⟨i+1,Z.1,_,p2,q2,p3,q3,aF,by go_num,rfl,by show _=_;rw[pV,hF.out,hZ.out],k8,((C.set (λx hx=>o7 x λe=>hx<|.inr e)<|a4 z7.out.symm).set (λx hx=>o8 x λe=>hx<|.inl e)<|a4 z8.out.symm).more λx hx=>.inl<|.inl hx,b8⟩
     case measure=>exact cD
   .obtain rfl:i=m:=by omega
    go_wp2;go_ret;obtain rfl:R=O:=by rw[<-U.out,hF.out]
    exact⟨rfl,b1.trans<|A.mono b1.size⟩
def Tb (w:a8):Prop:=bB Tz.prog w "internal/strconv.uint64pow10" .u64 Lib.pow10Tab
def Tb.same {w'}(h:Tb w)(e:w'.heap[6]?=w.heap[6]?):Tb w':=by
 unfold Tb bB World.var? at h⊢;rw[show Tz.prog.globalNamed "internal/strconv.uint64pow10"=some 6 by kernel_rfl]at h⊢;grind
def zI {z}(g:0<=z)(h:z<1000000)(d:Tb w):bk Tz.prog 54 #[aL .i64 z] w λe w'=>e=a0 (av<|fd z)/\Below w w w':=by
 obtain⟨n,rfl⟩:∃n:Nat,z=n:=⟨z.toNat,by omega⟩;exact Qf n (by omega) w d
def Cf {cd}(d:0<=cd)(j:cd<=6)(g:Tb w):bk Tz.prog 53 #[aL .i64 cd] w λe w'=>e=a0 (av<|⟨#[99,111,100,101,32]⟩++fd cd)/\Below w w w':=by
 have l:¬9223372036854775807<5+(fd cd).size:=by have:=dy (z:=cd) (by omega);omega
 go_enter Tz.func53,Tryz.ntmps53
 go_wp2_with(go_at_call 54;refine(zI d (by omega) g).mono ?_;rintro e n ⟨rfl,r⟩)
 go_ret;simp_all
def Qp (s)(g:s.size<=1048576)(w):bk Tz.prog 8 #[av s] w λe w'=>e=a0 (ac (some ⟨w.heap.size,0,none⟩) (te s)<|ai s.data.toList 10+1)/\te s<=ai s.data.toList 10+1/\kg w' w.heap.size (ai s.data.toList 10+1) (d9 10 s)/\Below w w w':=by
 have H:=Da s 10 w g;have i:=oE 10 s;unfold te;simp only;generalize ai s.data.toList 10=K at*;obtain⟨m,a⟩:∃m,(if(d9 10 s K).size=0 then K else K+1)=m:=⟨_,rfl⟩;rw[a];replace a:Hid _:=a;go_enter Tz.func8,Tryz.ntmps8
 go_wp2_with(go_at_call 22;fail)
 apply H.mono;rintro e l ⟨rfl,j,n⟩;have k:=j.2 K ab;by_cases d:(d9 10 s K).size=0
 .obtain rfl:K=m:=by have:=a.out;grind
  rw[show d9 10 s K=⟨#[]⟩ from bm (a7.1 d)]at k;exact Ho
 obtain rfl:K+1=m:=by have:=a.out;grind
 have q:(d9 10 s K).toList.isEmpty=false:=by simpa using jV λe=>d (by rw[e];rfl)
 exact Ho
def Wc (t:Nat->Int)(x y:Nat):Int:=if t x<t y then -1 else if t y<t x then 1 else 0
theorem KH (t x y):Wc t x y<0<->t x<t y:=by unfold Wc;split<;>(try split)<;>omega
def Tl (a b w):bk Tz.prog 77 #[aL .i64 a,aL .i64 b] w λe w'=>e=a0 (aL .i64 (if a<b then -1 else if b<a then 1 else 0))/\w'=w:=by
 rcases(show a<b\/(¬a<b/\b<a)\/(¬a<b/\¬b<a) by omega)with h|⟨h,d⟩|⟨h,d⟩<;>
 .simp[*];go_enter Tz.func77,Tryz.ntmps77
  exact Ho
def VB (h:p:=by intro w' hSw;subst hSw;go_simp):p:=h
def RE (x y)(bl b n cap:Nat)(t W)(r:x<n)(hy:y<n)
  (D:W.cell? bl=some (ac (some ⟨b,0,none⟩) n cap))(q:aD W b 0 n t):
  bk Tz.prog 76 #[aL .i64 (x:Int),aL .i64 (y:Int),aa bl] W λe w'=>e=a0 (aL .i64<|Wc t x y)/\Below W W w'/\W.drawn<=w'.drawn:=by
 have J:(x:Int)<n:=by omega
 have O:(y:Int)<n:=by omega
 have z:=q x r;have A:=q y hy;rw[bi]at z A;have H:bk Tz.prog 77 #[aL .i64<|t x,aL .i64<|t y] W.drew λe w'=>e=a0 (aL .i64<|Wc t x y)/\w'=W.drew:=Tl (t x) (t y) W.drew
 go_enter Tz.func76,Tryz.ntmps76
 go_wp2;refine bj aO rfl λhS=>aj 0 (ac (some b) n cap) 6 rfl VB hS<|aj 1 (aL .i64 x) 7 rfl VB hS<|aj 2 (aa<|some ⟨b,x,none⟩) 8 rfl VB hS<|aj 3 (aL .i64<|t x) 9 rfl VB hS<|aj 4 (ac (some b) n cap) 10 rfl VB hS<|aj 5 (aL .i64 y) 11 rfl VB hS<|aj 6 (aa<|some ⟨b,y,none⟩) 12 rfl VB hS<|aj 7 (aL .i64<|t y) 13 rfl VB hS ?_;simp[a6,au];refine f8 8 rfl λK C=>?_;go_simp
 go_at_call 77
 apply H.mono;rintro e R ⟨rfl,rfl⟩;refine C.out _ _ rfl λhS=>aj 9 (aL .i64<|Wc t x y) 5 rfl VB hS<|wpAnyH_done aO ?_ _
 simp only[a6,ad,ay,au];go_wp2;go_ret;exact⟨rfl,(afB _ W).drew,Nat.le_succ _⟩
def acQ (k t bl b cap d w)(r:bl≠d)(z:b≠d)
  (A:w.cell? bl=some (ac (some ⟨b,0,none⟩) (k+1) cap))(C:aD w b 0 (k+1) t):
  CmpLays1 Tz.prog 76 #[aa bl] (rO k) (λa b=>Wc t a b) d 0 (k+1) w:=by
 intro m l n _ x y;have q:∀(g o:Nat) (v:be),g≠d->w.cell? ⟨g,o,none⟩=some v->(sortWorld _ w d 0 m n l).cell? ⟨g,o,none⟩=some v:=λg o v j h=>
  (cell?_sortWorld_other (rO k) w d 0 m n l ⟨g,o,none⟩ j (block_lt_of_cell h)).trans h
 exact(RE x y bl b _ cap t _ x.2 y.2 (q _ _ _ r A) λi D=>q _ _ _ z<|C i D).mono λe w' ⟨he,E,F⟩=>⟨he,grown_of E F⟩
def aeb (t k):Go.Sort.SWO (ltOf λa b:Fin (k+1)=>Wc t a b):=by
 have h:∀x y:Fin _,ltOf (λa b:Fin (k+1)=>Wc t a b) x y=decide _:=λx y=>by unfold ltOf;exact decide_eq_decide.2<|KH t x y
 constructor<;>intros<;>simp[h]at*<;>omega
def aac (t:Nat->Int)(n:Nat)(g:Nat->Nat):Prop:=(∀x,x<n->∃i,i<n/\g i=x)/\(∀i,i<n->g i<n)/\∀i j,i<j->j<n->t (g i)<t (g j)
def JE (s n c t w)(hn:n<=6)(D:pN w s n c t)(hd:∀i j,i<n->j<n->i≠j->t i≠t j):
  bk Tz.prog 55 #[ac s n c] w λe w'=>(∃g B,aac t n g/\e=a0 (ac (some ⟨B,0,none⟩) n n)/\aC w' B n (λi=>((g i:Nat):Int)))/\Below w w w':=by
 obtain⟨q,e1,T,z,U⟩:∃q,w.alloc (.cells #[ac s n c] 27)=q/\q.cell? w.heap.size=some (ac s n c)/\Below w w q/\w.heap.size<q.heap.size:=⟨_,rfl,cO,(afB _ w).alloc ab _,by simp⟩;have A:=Dm n q (by omega);replace D:=D.below z;cases n with
 |zero=>
  go_enter Tz.func55,Tryz.ntmps55
  go_wp2_with(first|(go_at_call 74;refine A.mono ?_;clear A;rintro e O ⟨rfl,C,r⟩)|(go_at_call 75;refine(C8 _ _ _ _).mono ?_;rintro e Y ⟨rfl,rfl⟩))
  go_ret;exact⟨⟨λi=>i,_,⟨λx h=>absurd h ab,λx h=>absurd h ab,λ_ j _ h=>absurd h ab⟩,rfl,C⟩,z.trans<|r.mono z.size⟩
 |succ k=>
  obtain⟨b,rfl,hb,Z⟩:=D.pos ab;go_enter Tz.func55,Tryz.ntmps55
  go_wp2_with(first
   |(go_at_call 74;refine A.mono ?_;clear A;rintro e O ⟨rfl,C,r⟩;have cl:=(r.cell U).trans T;have R:=G5 (cap':=k+1) (by omega) (aeb t k) (enters_of Tz.func76 aO rfl) (acQ k t _ b c _ O ab ab cl<|Z.below r hb) C)
   |(go_at_call 75;refine R.mono ?_;clear R;rintro e Y ⟨rfl,J,n,os,hp,hs,rfl⟩))
  go_ret;let⟨iP,hm,aF⟩:=Co J hp hs;refine⟨⟨λi=>(J[i]!:Nat),_,⟨λx hx=>?_,λi _=>(J[i]!).2,λi j mz hj=>?_⟩,rfl,LF _ _ _ _ _ _ iP C⟩,z.trans<|(r.trans<|Hm _ _ _ _ _ _ ab r.size).mono z.size⟩
  .let⟨i,hi,e⟩:=List.getElem_of_mem<|hm ⟨x,hx⟩;grind
  grind [ltOf,decide_eq_false_iff_not,KH]
def C9 {t:Nat->Int}:∀{L d:List Nat},L.Pairwise (λa b=>t a<t b)->d.Pairwise (λa b=>t a<t b)->(∀x,x∈L<->x∈d)->L=d
 |[],[],_,_,_=>rfl
 |[],a::_,_,_,h=>absurd ((h a).2<|by simp) (by simp)
 |a::_,[],_,_,h=>absurd ((h a).1<|by simp) (by simp)
 |a::L,b::d,g,i,h=>by
  rw[List.pairwise_cons]at g i;have e:a=b:=by
   have j:=(h a).1 cO;rcases j with e|j
   .omega
   .grind
  congr 1;refine C9 g.2 i.2 λx=>⟨λk=>?_,λk=>?_⟩<;>grind
def Bk.ok.dif (h:b.ok)(i j)(A:i<b.n)(r:j<b.n)(C:i≠j):b.t i≠b.t j:=by
 have q:∀j k,k<j->j<b.n->b.t k≠b.t j:=λj k hk r e=>by
  have D:=((bK h).2.2.2) j k hk r;have J:=kC (b.f k).ax (b.f k).aI (b.f j).ax (b.f j).aI (b.t k)<|b.t j;grind [Mv.iJ]
 grind
def Bk.ok.now (h:b.ok){i}(a:i<b.n):b.now<=b.t i/\b.t i<=10000:=by
 have d:=(gd h).2.2;have e:=(gb.fits (bK h).1 (bK h).2.2) i a;grind [mW,fU]
def Nb (h:b.ok){g}(l:aac b.t b.n g):(List.range b.n).map g=jW b:=by
 have A:=(gd h).1;refine C9 (t:=b.t) ?_ ?_ λx=>⟨λd=>?_,λd=>?_⟩
 .rw[List.pairwise_map];exact List.pairwise_lt_range.imp_of_mem λC r z=>l.2.2 _ _ z<|bt.1 r
 .unfold jW;rw[List.pairwise_flatMap];refine⟨λk _=>?_,List.pairwise_lt_range.imp λ{k D} hk x d y E=>?_⟩
  .refine((List.pairwise_lt_range).filter _).imp_of_mem λ{i j} a m F=>?_
   simp at a m;exact absurd (a.2.trans m.2.symm)<|h.dif i j a.1 m.1<|by omega
  grind
 .obtain⟨i,a,rfl⟩:=List.mem_map.1 d;have q:=l.2.1 i<|bt.1 a;have:=h.now q;simp[jW];exact⟨(b.t (g i)-b.now).toNat,by omega,q,by omega⟩
 simp[jW]at d;let⟨i,a,e⟩:=l.1 x (by omega);grind
abbrev EY (W:a8)(B:Nat)(x y:be):Prop:=W.heap[B]?=some (.cells #[x,y] 41 (0,0))
def Hq:Tryz.prog.underlying 38=some (.pointer 41):=aO
def RO:Tryz.prog.underlying 87=some .unsafePointer:=aO
def Xz:(Tryz.prog.info? 41).map (λi=>decide (i.size=0))=some false:=aO
section
variable [Gl]{ok:Ctx}{ρ:Ren}{ev f:Operand->be}{o:Oper}{x y:Operand}{u:be}
def Jr {P}{m:Sem Next}(a:m.run P W=.ok (.value v) W)(d:m.events P W #[]=#[]):m.runT P W #[]=(.ok (.value v) W,#[]):=cO
def xU (O:lH ok ρ ev f)(R:dq ok.fn x=true)(he:ev x=aa B)(T:bw ok true ρ V W)(U:EY V B u v):∃(r:Nat) (A C:be) (z:Nat×Nat),f x=aa r/\ρ B=some r/\W.heap[r]?=some (.cells #[A,C] 41 z):=by
 have h:=O x R;rw[he]at h;generalize f x=q at h;cases h with
 |@ptr a a' h=>
  let⟨hb,ho,hs⟩:=h;let⟨Y,a2,a3⟩:=a';subst ho hs;let⟨p,p',J,Z,hO⟩:=T.heap _ _ hb;rw[U]at J;cases J;cases hO with
  |@cells c c' e z z' D h2=>
   let⟨A,hu,_⟩:=D.get (i:=0) rfl;let⟨C,hv,_⟩:=D.get (i:=1) rfl;have hz:=D.size.symm;refine⟨Y,A,C,z',rfl,hb,?_⟩;rw[Z];congr 2;grind
def ZO (T:o.op=.convert 38 87 x)(A:lH ok ρ ev f)(C:dq ok.fn x=true)(he:ev x=aa B)(D:bw ok true ρ V W)(J:EY V B u v):(bo f o).runT Tryz.prog W #[]=(.ok (.value<|f x) W,#[]):=by
 obtain⟨O,R,U,z,Y,-,Z⟩:=xU A C he D J;have r:W.cell? O=some R:=by grind [World.cell?]
 have h1:=run_convert_to_unsafe Hq RO Xz r;have h2:=events_convert_to_unsafe Hq RO Xz r;simp_all [bo]
def Qq (Y:o.op=.convert 87 38 x)(O:lH ok ρ ev f)(R:dq ok.fn x=true)(he:ev x=aa B)(T:bw ok true ρ V W)(U:EY V B u v):(bo f o).runT Tryz.prog W #[]=(.ok (.value<|f x) W,#[]):=by
 obtain⟨r,Z,v',z,e1,-,e2⟩:=xU O R he T U;have C:W.shape? r=some (41,2):=by grind [World.shape?]
 have D:liesAt Tryz.prog Tryz.prog.depth 41 (2/Tryz.prog.cellsOf 41) 0 41 1=true:=aO;let⟨j,J⟩:=a5.1 (show(Tryz.prog.info? 41).isSome=true from aO);have h1:=Lib.run_from_unsafe W ⟨r,0,none⟩ RO Hq J C D;have h2:∀A,(convert 87 38 (aa<|some ⟨r,0,none⟩)).events Tryz.prog W A=A:=λA=>by
  simp[convert,run_underlying Hq,Conv.unsafePointer,Conv.seenAt,viewAt,C,variablesAt,D,bL,typeInfo,J,Result.evThen]
 simp_all [bo]
def UC (T:o.op=.binOp .neq 38 x y 38)(C:lH ok ρ ev f)(U:dq ok.fn x=true)(Y:dq ok.fn y=true)(he:ev x=aa B)(Z:ev y=aa B)(D:bw ok true ρ V W)(J:EY V B u v):(bo f o).runT Tryz.prog W #[]=(.ok (.value<|bz false) W,#[]):=by
 let⟨r,u',v',z,e1,r1,e2⟩:=xU C U he D J;let⟨B2,u2,v2,z2,e3,O,_⟩:=xU C Y Z D J;rw[r1]at O;cases O;let⟨t,R⟩:=a5.1 (show(Tryz.prog.info? 41).isSome=true from aO);have h1:=Lib.run_neq_ptr_same W ⟨r,0,none⟩ Hq R;have h3:∀d:Nat,(a9 (d+1) 38 (aa<|some ⟨r,0,none⟩)<|aa<|some ⟨r,0,none⟩).run Tryz.prog W=.ok true W/\∀A,(a9 (d+1) 38 (aa<|some ⟨r,0,none⟩)<|aa<|some ⟨r,0,none⟩).events Tryz.prog W A=A:=λd=>by
  constructor<;>simp[a9,bL,R,sameAddr]
 have h2:∀A,(bI .neq 38 (aa<|some ⟨r,0,none⟩)<|aa<|some ⟨r,0,none⟩).events Tryz.prog W A=A:=λA=>by
  simp_all [bI,bv,br]
 unfold bo;simp only[T,e1,e3];refine Jr ?_ ?_
 .go_simp
 .simp[go_sem,h1,h2]
def K8 {b}(C:o.op=.binOp .eql 38 x (.const<|aa none) 38)(D:lH ok ρ ev f)(hc:∀v,f (.const v)=v)(J:dq ok.fn x=true)(he:ev x=aa none/\b=true\/(∃B:Nat,ev x=aa B)/\b=false):(bo f o).runT Tryz.prog W #[]=(.ok (.value<|bz b) W,#[]):=by
 have h:=D x J;let⟨t,O⟩:=a5.1 (show(Tryz.prog.info? 41).isSome=true from aO);obtain⟨q,hq,hb⟩:∃q,f x=aa q/\b=q.isNone:=by
  rcases he with⟨e,rfl⟩|⟨⟨B,e⟩,rfl⟩<;>rw[e]at h<;>generalize f x=q at h<;>cases h<;>grind
 subst hb;unfold bo;simp only[C,hq,hc];have r:∀d:Nat,(a9 (d+1) 38 (aa q)<|aa none).run Tryz.prog W=.ok q.isNone W/\∀A,(a9 (d+1) 38 (aa q)<|aa none).events Tryz.prog W A=A:=λd=>by
  cases q<;>constructor<;>simp[a9,bL,typeInfo,O,sameAddr]
 refine Jr ?_ ?_
 .simp[go_sem,bI,bv,br,(r 9999).1]
 .simp[go_sem,bI,bv,br,(r 9999).1,(r 9999).2]
end
section
variable [Gl]{ok:Ctx}{x:be}
omit [Gl] in
def EY.gets (h:EY V B x y):V.cell? B=some x/\V.cell? ⟨B,1,none⟩=some y/\∀j,V.frozen? ⟨B,j,none⟩=false:=by
 grind [World.cell?,World.frozen?]
omit [Gl] in
def EY.rc (h:EY V B x y)(τ:Nat->Question->Nat)(d:Nat):(re V τ d).cell? B=some x/\(re V τ d).cell? ⟨B,1,none⟩=some y/\∀j,(re V τ d).frozen? ⟨B,j,none⟩=false:=EY.gets h
omit [Gl] in
def Td (a:EY V B x y)(v:be):EY (V.setCell B v) B v y:=by
 show(V.setCell _ _).heap[B]?=_;rw[gm,if_pos rfl,a];simp
omit [Gl] in
def m_ (v:be)(w:a8):(callFunc 58 #[v]).run Tz.prog w=.ok (.value v) w:=by
 rw[run_callFunc_extern (Tz.aH Tryz.func58) (by kernel_rfl) (by kernel_rfl) (by kernel_rfl) (by kernel_rfl),Lib.run_noEscape];rfl
def ae.off {b:Frame}{a}(E:dB Tz.prog ok c aS)(hb:ok.aN b.fn=true)(h:ae Tz.prog ok c aS Q ⟨{b.at a []with mode:=.returning},cs,V⟩):ae Tz.prog ok c aS Q ⟨b.at a [],cs,V⟩:=ae.go (fr2:={b.at a []with mode:=.returning}) E hb (λW=>⟨_,stepG_end⟩) h
def va (E:dB Tz.prog ok c aS)(T:∀P,Gl.top P->P=Tryz.prog)(r:ok.aN 30=true)(eN:ok.aN r0.fn=true)(hx:x=aa none\/x=aa B)(O:EY V B x y)
  (U:∀Y,EY Y B (aa B) y->(∀k,k≠B->Y.heap[k]?=V.heap[k]?)->Y.heap.size=V.heap.size->ae Tz.prog ok c aS Q ⟨r0.finish<|bp #[],cs,Y⟩):
  ae Tz.prog ok c aS Q ⟨Frame.enter Tz.prog 30 #[aa B] .normal,r0::cs,V⟩:=by
 replace U:Hid _:=U;refine ae.en Tz.func30 rfl Tryz.ntmps30 iE<|uv ?_;refine ae.seq E r<|ae.rg E r<|ae.oc E r 0 4 λK τ d hK=>?_;let⟨c0,c1,c2⟩:=O.rc τ d;simp only[ap];go_wp2;refine hK.out _ _<|ae.un ?_;rcases hx with rfl|rfl
 .refine ae.wQ (y:=.const<|bz true) rfl rfl rfl rfl rfl (λτ d P A ρ f W Z C D J R=>?_) ?_
  .rw[T P A,J];exact K8 C D J rfl<|.inl ⟨rfl,rfl⟩
  rw[ar rfl];refine ae.regionEnd E r<|ae.cond E r rfl<|ae.rg E r<|ae.oc E r 0 2 λK τ d hK=>?_;simp only[ap];go_wp2;refine hK.out _ _<|ae.un<|ae.wQ (y:=.tmp 8) rfl rfl rfl rfl rfl (λτ d P A ρ f W Z C D J R=>?_) ?_
  .rw[T P A];exact ZO C D rfl rfl R O
  rw[ar rfl];have ax:=m_<|aa B;refine ae.oc E r 3 1 λK τ d hK=>?_
  simp only[ap,a6];go_wp2;refine hK.out _ _<|ae.un<|ae.wQ (y:=.tmp 10) rfl rfl rfl rfl rfl (λτ d P A ρ f W Z C D J R=>?_) ?_
  .rw[T P A];exact Qq C D rfl rfl R O
  rw[ar rfl];refine ae.oc E r 5 3 λK τ d hK=>?_
  let⟨c0,c1,c2⟩:=O.rc τ d;simp only[ap,a6];go_wp2;exact hK.out _ _<|ae.regionEnd E r<|ae.off E r<|ae.lv E eN Tz.func30 (λτ d=>bE rfl _ _ _)<|U.out _ (Td O _) (λk hk=>afD _ _ _ _ hk)<|iw _ _ _
 refine ae.wQ (y:=.const<|bz false) rfl rfl rfl rfl rfl (λτ d P A ρ f W Z C D J R=>?_) ?_
 .rw[T P A,J];exact K8 C D J rfl<|.inr ⟨⟨B,rfl⟩,rfl⟩
 rw[ar rfl];refine ae.regionEnd E r<|ae.cond E r rfl<|ae.seq E r<|ae.rg E r<|ae.oc E r 0 5 λK τ d hK=>?_;let⟨c0,c1,c2⟩:=O.rc τ d;simp only[ap];go_wp2;refine hK.out _ _<|ae.un<|ae.wQ (y:=.const<|bz false) rfl rfl rfl rfl rfl (λτ d P A ρ f W Z C D J R=>?_) ?_
 .rw[T P A,J];exact UC C D rfl rfl rfl rfl R O
 rw[ar rfl];exact ae.regionEnd E r<|ae.cond E r rfl<|ae.skip E r<|ae.off E r<|ae.lv E eN Tz.func30 (λτ d=>bE rfl _ _ _)<|U.out _ O (λk hk=>rfl) rfl
end
def FT:∃i,Tz.prog.info? 5=some i/\i.zero=some (aL .u8 0)/\i.size=1/\i.bytes=1:=by
 have h:(Tz.prog.info? 5).map (λi=>(i.zero,i.size,i.bytes))=some (some<|aL .u8 0,1,1):=aO;simp_all
structure Bs (V N B y s):Prop where
 bl:∃x,EY V B x y/\(x=aa none\/x=aa B)
 own:V.ownsRow N 5 1 y s.size (aV s)
 lo:B<N
 hi:N<=V
structure SN (V V':a8)(B)(y:be):Prop where
 sz:V.heap.size<=V'
 keep:∀k:Nat,k<V->k≠B->y.ownBlock≠some k->V'.heap[k]?=V.heap[k]?
def QL {base e q n xs}(h:w.ownsRow base e q v n xs):∃a l c,v=ac a l c:=by
 obtain⟨A,⟨rfl,rfl⟩|⟨g,r,z,rfl,C,D,J⟩⟩:=h;all_goals grind
def EQ (s t):aV s++aV t=aV (s++t):=by simp[aV]
def Bs.put {j a:a8}{d}(h:Bs V N B y s)(z:EY j B (aa B) y)(A:∀k,k≠B->j.heap[k]?=V.heap[k]?)(e:∀k,k<V.heap.size->y.ownBlock≠some k->a.heap[k]?=j.heap[k]?)(F:V.heap.size<=a)
  (n:a.ownsRow N 5 1 d (s.size+t.size) (aV s++aV t)):EY a B (aa B) y/\Bs (a.setCell ⟨B,1,none⟩ d) N B d (s++t)/\SN V (a.setCell ⟨B,1,none⟩ d) B y:=by
 have C:=h.lo;have D:=h.hi;have q:=(e B (by omega) λe=>by have:=dh h.own B e;omega).trans z;have g:∀k,k≠B->(a.setCell ⟨B,1,none⟩ d).heap[k]?=a.heap[k]?:=λk l=>afD _ _ _ _ l
 refine⟨q,⟨⟨_,?_,.inr rfl⟩,?_,C,?_⟩,⟨?_,λk l i m=>(g k i).trans<|(e k l m).trans<|A k i⟩⟩
 .show(a.setCell _ _).heap[B]?=_;rw[gm,if_pos rfl,q];simp
 .rw[ao,<-EQ];exact az n λr E=>g r (by have:=dh n r E;omega)
 all_goals grind [iw]
section
variable [Gl]{ok:Ctx}
def vb (E:dB Tz.prog ok c aS)(hG:∀P,Gl.top P->P=Tryz.prog)(U:ok.aN 30=true)(q:ok.aN 10=true)(eN:ok.aN r0.fn=true)(h:Bs V N B y s)(Y:s.size+t.size<=140737488355328)
  (C:∀D y',Bs D N B y' (s++t)->SN V D B y->ae Tz.prog ok c aS Q ⟨r0.finish<|bp #[aL .i64 t.size,.nilIface],cs,D⟩):
  ae Tz.prog ok c aS Q ⟨Frame.enter Tz.prog 10 #[aa B,av t] .normal,r0::cs,V⟩:=by
 replace C:Hid _:=C;let⟨x,hB,hx⟩:=h.bl;let⟨i0,hI,gK,eO,fZ⟩:=FT;refine ae.en Tz.func10 rfl Tryz.ntmps10 iE<|ae.ck E q [_] _ λK R τ d z Z=>?_
 simp[ak];go_wp2;refine z.out _ _<|ae.un ?_;clear z Z K R;refine ae.seq E q<|ae.rg E q<|ae.oc E q 0 1 λK τ d z=>?_;simp only[ap];go_wp2;refine z.out _ _<|ae.un ?_;clear z K;refine ae.aZ E rfl rfl U (λw=>od)<|va E hG U q hx hB ?_;intro A jU A3 uk;rw[ar rfl];refine ae.regionEnd E q<|ae.ck E q [_,_] _ λK R τ d z Z=>?_
 let⟨c0,c1,c2⟩:=jU.rc τ d;simp only[ak];have hO:(re A τ d).ownsRow N 5 1 y s.size (aV s):=az h.own λr J=>A3 r (by have:=dh h.own r J;have:=h.lo;omega)
 have O:N<=(re A τ d).heap.size:=by have:=h.hi;show N<=A.heap.size;omega
 go_wp2_with(at_builtin;refine wpList_append_own_string _ rfl (.tmp 12) (.tmp 13) 39 9 rfl N 5 i0 aO aO hI gK eO fZ y s.size (aV s) rfl hO t rfl (afN Y<|by decide) Y O ?_;intro y2 w2 nP jC _;obtain⟨a2,l2,q2,rfl⟩:=QL nP;have T:=h.put jU A3 (λk hk J=>jC.block k (show k<A.heap.size by omega) λe=>J e.symm) (afN (a4 uk.symm) jC.size) nP;let⟨p1,p2,p3⟩:=T.1.gets)
 refine z.out _ _<|ae.ret E q<|ae.lv E eN Tz.func10 (λτ d=>results_tmp2 rfl _ _ _) ?_;exact C.out _ _ T.2.1 T.2.2
def Ds {x}(E:dB Tz.prog ok c aS)(hG:∀P,Gl.top P->P=Tryz.prog)(Z:ok.aN 30=true)(C:ok.aN 12=true)(eN:ok.aN r0.fn=true)(h:Bs V N B y s)(hz:s.size+1<=140737488355328)
  (O:∀T y',Bs T N B y' (s++⟨#[x]⟩)->SN V T B y->ae Tz.prog ok c aS Q ⟨r0.finish .nilIface,cs,T⟩):
  ae Tz.prog ok c aS Q ⟨Frame.enter Tz.prog 12 #[aa B,aL .u8 x.toNat] .normal,r0::cs,V⟩:=by
 replace O:Hid _:=O;let⟨z,hB,hx⟩:=h.bl;let⟨i0,hI,gK,eO,fZ⟩:=FT;refine ae.en Tz.func12 rfl Tryz.ntmps12 iE ?_;refine ae.ck E C [_] _ λK R τ d hK hR=>?_
 simp only[ak];go_wp2;refine hK.out _ _<|ae.un ?_;clear hK hR K R;refine ae.seq E C<|ae.rg E C<|ae.oc E C 0 1 λK τ d hK=>?_;simp only[ap];go_wp2;refine hK.out _ _<|ae.un ?_;clear hK K;refine ae.aZ E rfl rfl Z (λw=>od)<|va E hG Z C hx hB ?_;intro A jU A3 uk;rw[ar rfl];refine ae.regionEnd E C<|ae.ck E C [_,_] _ λK R τ d hK hR=>?_
 let⟨c0,c1,c2⟩:=jU.rc τ d;simp only[ak];have J:(re A τ d).ownsRow N 5 1 y s.size (aV s):=az h.own λr D=>A3 r (by have:=dh h.own r D;have:=h.lo;omega)
 have U:N<=(re A τ d).heap.size:=by have:=h.hi;show N<=A.heap.size;omega
 have hA:=(afB (re A τ d).heap.size<|re A τ d).alloc ab<|.cells #[aL .u8 x.toNat] 5;have J:=az J λr D=>hA.block r (J.lt r D).2
 go_wp2_with(at_builtin;refine wpList_append_own _ rfl (.tmp 11) (.tmp 13) 39 rfl N 5 i0 _ 1 1 aO hI gK eO fZ rfl bh y s.size (aV s) rfl J (re A τ d).heap.size 1 1 [aL .u8 x.toNat] rfl rfl (fx<|heap_alloc_new (re A τ d) _) sJ (afN hz<|by decide) (by omega) (afN U hA.size) ?_;intro y2 w2 nP jC _;obtain⟨a2,l2,q2,rfl⟩:=QL nP;have Y:=h.put (t:=⟨#[x]⟩) jU A3 (λk hk D=>(jC.block k (show k<_ from afL (show k<A.heap.size by omega) hA.size) λe=>D e.symm).trans<|hA.block k (show k<A.heap.size by omega)) (afN (a4 uk.symm)<|afN hA.size jC.size) nP;let⟨p1,p2,p3⟩:=Y.1.gets)
 refine hK.out _ _<|ae.ret E C<|ae.lv E eN Tz.func12 (λτ d=>results_tmp rfl _ _ _) ?_;exact O.out _ _ Y.2.1 Y.2.2
end
def RB (h:p:=by intro w' hSw;let⟨s0,s1,s2⟩:=hSw.gets;go_simp):p:=h
def LD (h:Bs w N B y s)(C:s.size≠0\/y=ac none 0 0)(hs:s.size<=9223372036854775807):bk Tz.prog 13 #[aa B] w λe w'=>e=a0 (av s)/\Below N w w':=by
 obtain⟨x,D,-⟩:=h.bl;obtain⟨A,q,l,c,rfl,hl,T5,O,r⟩:∃A q l c,y=ac q l c/\(l:Int)=s.size/\(∀W,(Builtin.unsafeSliceData_ #[39] 1000000000 #[ac q l c]).run Tz.prog W=.ok (aa q) W)/\(Builtin.unsafeString_ #[66,3] 9 #[aa q,aL .i64 s.size]).run Tz.prog w.drew=.ok (av s) A/\Below N w A:=by
  obtain⟨h1,⟨rfl,R⟩|⟨g,T,z,rfl,U,Y,Uk,zn,Z,Xe⟩⟩:=h.own
  .obtain rfl:s=ByteArray.empty:=bm<|a7.1 R;exact⟨w.drew,none,0,0,rfl,rfl,λ_=>rfl,run_unsafeString_none _ _ _ _ _,(afB _ w).drew⟩
  have C:=C.resolve_right (by simp);refine⟨_,_,_,_,rfl,rfl,λ_=>run_unsafeSliceData_row _ _ _ _ _ _<|by omega,run_unsafeString_row w.drew 66 3 9 5 aO aO g z.size (by have qp:w.drew.heap[g]?=some (.cells z 5 (0,0)):=Y;simp[World.shape?,qp]) s.data.toList (λe=>C<|by rw[show s.size=s.data.toList.length from rfl,e];rfl) (by rw[Array.length_toList];show s.size<=_;omega) hs ?_,below_freeze (Below.drew<|afB N w) U _⟩;exact λj x hx=>h.own.cells rfl j (aL .u8 x.toNat)<|by simp[aV,hx]
 let⟨c0,c1,c2⟩:=EY.gets (V:=w.drew) D;go_enter Tz.func13,Tryz.ntmps13
 refine uv ?_;go_wp2;refine bj (S:=λw'=>EY w' B x<|ac q l c) aO D λhS=>?_;refine aj 0 (aa B) 3 rfl RB hS ?_;refine aj 1 (aa B) 4 rfl RB hS ?_;refine aj 2 (aa<|some ⟨B,1,none⟩) 5 rfl RB hS ?_;refine aj 3 (ac q l c) 6 rfl RB hS ?_;refine aj 4 (aa q) 7 rfl RB hS ?_;refine aj 5 (aa B) 8 rfl RB hS ?_;refine aj 6 (aa B) 9 rfl RB hS ?_;refine aj 7 (aa<|some ⟨B,1,none⟩) 10 rfl RB hS ?_;refine aj 8 (ac q l c) 11 rfl RB hS ?_;refine aj 9 (aL .i64 s.size) 12 rfl RB hS ?_;simp;refine f8 10 rfl λK J=>?_;go_simp
 refine J.out _ _ (show A.heap[B]?=_ from(r.block B h.lo).trans D) λhS=>?_
 clear J K;refine aj 11 (av s) 2 rfl RB hS ?_;refine bH aO ?_ _;simp only[a6,ad,ay,au];go_wp2;go_ret;exact⟨rfl,r⟩
