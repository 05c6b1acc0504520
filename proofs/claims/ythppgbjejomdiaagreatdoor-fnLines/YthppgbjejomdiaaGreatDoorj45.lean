import Derived.Test.YthppgbjejomdiaaGreatDoorj44
import Derived.Test.YthppgbjejomdiaaGreatDoorj08
set_option linter.all false
set_option maxHeartbeats 8000000
set_option maxRecDepth 20000
open Array renaming size_eq_zero_iff->bv,size_replicate->bz
open ByteArray renaming size_append->a8,ext->bE,size_extract->bM
open Go renaming World->ao,Calls->au,Value->ay,execOp->a6,binOp->bs,wp_region_held_drew->bB,sizeOf->bK,results_none->bR,wpAnyH_done->bS
open Go.Act renaming put->a0
open Go.Ending renaming returned->av
open Go.Lib renaming countByte->aL,strCells->aV,nDigits->bi,decDigits->bk,TabIs->bn,pow10Tab->bp,decDigits_length->bN
open Go.Op renaming equalIn->bm,maxDepth->bH,equal->bJ
open Go.Value renaming int->aa,pointer->ac,slice->ad,string->aj,agg->a4,tuple->bj,bool->bo
open List renaming set_cons_succ->a5,setIfInBounds_toArray->a7,set_cons_zero->a9,mem_range->bO
open Nat renaming le_of_eq->be,zero_add->br
open Option renaming isSome_iff_exists->bt
namespace Go.Proofs.YthppgbjejomdiaaGreatDoor
open Conc Go.Sort Lib RowKit Shelf
variable {b:Bk}{s t:ByteArray}{c r0:Frame}{cs:List Frame}{B N:Nat}{p:Prop}{v y:ay}{Q:ay->ao->Prop}{V W w:ao}
def Uo n (i:n<18446744073709551616)(m:bi n<=23)(w:ao): au Tz.prog 129 #[ad (some ⟨w,1,none⟩) (bi n) 23,aa .u64 n] (w.alloc<|.cells Lib.zeros24 163) λe w'=>e=av (bj #[])/\(∀j,(a:j<(bk n).length)->w'.cell? ⟨w,1+j,none⟩=some (aa .u8 ((bk n)[j].toNat:Int)))/\Below w w w':=by have d:=Lib.holds_zero w 163 (bi n) (by omega);have h:=Any.internal_strconv_formatBase10 Tz.fbL w 1 23 n _ _ d (by grind [bz,Lib.lt_pow_nDigits]) i f7;rw[bz]at h;apply h.mono;rintro e w' ⟨rfl,k,q,g,rfl,hF⟩;refine⟨rfl,λj a=>?_,?_⟩;rw[Lib.row_is_numeral hF j a,World.cell?_drewN];exact cell?_putRow (λ(b:UInt8)=>aa .u8 _) _ w 1 _ g d (by rw[hF.size,bz]) j (by rw[hF.size];rw[bN]at a;exact a);obtain⟨r,l⟩:=Lib.fin_pos w _ g k;rw[l];refine⟨rfl,rfl,rfl,cQ,λb z=>?_⟩;simp[Go.Sort.grow];grind
def Un (n:Nat)(C:n<1000000)(w:ao)(i:bn Tz.prog w "internal/strconv.uint64pow10" .u64 bp): au Tz.prog 98 #[aa .i64 n,(10:Int)] w λe w'=>e=av (aj ⟨(bk n).toArray⟩)/\Below w w w':=by
 go_enter Tz.func98,Tryz.ntmps98;refine uK ?_;by_cases k:n<100
 .have l:(n:Int)<100:=by omega
  have H:=λw=>Any.internal_strconv_small Tz.smL n k w;go_wp2_with(go_at_call 127;refine(H _).mono ?_;rintro e a ⟨rfl,m⟩;subst a)
  all_goals go_ret
  all_goals exact⟨rfl,agn _ _⟩
 have l:¬(n:Int)<100:=by omega
 have D:bi n<=20:=by have:=Lib.numDigits_eq n (by omega) (by omega);grind
 have r:=λw z=>Any.internal_strconv_numDigits Tz.ndL n (by omega) (by omega) w z;have A:=Uo n (by omega) (by omega) w;have d:Tz.prog.arrayLen 163=24:=by kernel_rfl
 have E:∀W,(Instr.sliceAt 163 _ (some<|aa .i64 1) (some<|aa .i64<|1+(bi n:Int)) none).run Tz.prog W=.ok (ad (some ⟨w,1,none⟩) (bi n) 23) W:=λW=>by rw[run_sliceAt_array_lh W 163 ⟨w,0,none⟩ (by kernel_rfl) .i64 .i64 1 (1+(bi n:Int)) (by omega) (by omega) ab];rw[d];go_simp;omega
 clear d;go_wp2_with(first
  |(go_at_call 128;refine(r _<|Lib.tabIs_alloc i _).mono ?_;rintro e a ⟨rfl,m⟩;subst a)
  |(go_at_call 129;refine A.mono ?_;rintro e a ⟨rfl,F,J⟩;have g:=run_convert_bytes_back a 22 9 5 ⟨w,1,none⟩ 23 (bk n) (Tz.al Tryz.underlying22) (Tz.al Tryz.underlying5) (Tz.al Tryz.underlying9) (λj K=>by grind [Lib.add_plain]);rw[bN]at g))
 all_goals go_ret
 simp_all
def Va (n:Nat)(a:n<1000000)(w:ao)(d:bn Tz.prog w "internal/strconv.uint64pow10" .u64 bp): au Tz.prog 73 #[aa .i64 n] w λe w'=>e=av (aj ⟨(bk n).toArray⟩)/\Below w w w':=by go_enter Tz.func73,Tryz.ntmps73;(go_wp2_with(go_at_call 98;refine(Un n a w d).mono ?_;rintro e g ⟨rfl,h⟩));go_ret;simp_all
def QP (n:Nat)(a:n<1000000)(w:ao)(d:bn Tz.prog w "internal/strconv.uint64pow10" .u64 bp): au Tz.prog 49 #[aa .i64 n] w λe w'=>e=av (aj ⟨(bk n).toArray⟩)/\Below w w w':=by go_enter Tz.func49,Tryz.ntmps49;(go_wp2_with(go_at_call 73;refine(Va n a w d).mono ?_;rintro e g ⟨rfl,h⟩));go_ret;simp_all
def DK:∀(n:Nat) {b:Bk} (d:b.ok) (o:ByteArray),(eM n b o).1.ok/\(eM n b o).2.size<=o.size+54*n+11
 |0,b,d,o=>by
  have:=dA (z:=b.now) (by have:=(gi d).1;omega);refine⟨d,?_⟩;show(o++⟨#[110,111,119,32]⟩++d7 b.now).size<=_;rw[a8,a8];show o.size+4+_<=_;omega
 |n+1,b,d,o=>by
  have j:(d7 2).size<=6:=dA (by decide);rw[eM];split
  .refine⟨d,?_⟩;show(o++(⟨#[99,111,100,101,32]⟩++d7 2)).size<=_;rw[a8,a8];show o.size+(5+_)<=_;omega
  .rename_i h;have e:=DK n (KJ d h)<|lh b (gone b.now b.t b.n) o;have l:=jX d (gone b.now b.t b.n) o λi g=>(qt g).1;have r:=qs b.now b.t b.n;have A:=d.Oc;exact⟨e.1,by omega⟩
def Az {b}(d:b.ok):∀L:List Nat,(∀i∈L,i<b.n)->∀o:ByteArray,(L.foldl (λo i=>o++jV b i) o).size<=o.size+17*L.length
 |[],_,o=>agw _
 |i::L,h,o=>by
  have e:=h i (by simp);have l:=Az d L (λj g=>h j<|by simp[g])<|o++jV b i;have r:=d.name e;have A:=dA (z:=b.t i) (by have:=(gh.fits (bL d).1 (bL d).2.2) i e;omega);have C:(jV b i).size<=17:=by
   unfold jV;simp;show 1+_+1+_+_<=_;split
   .show _+0<=_;omega
   .show _+1<=_;omega
  grind
def pz (b):∀k i,(fo b k i).length<=b.n*k+i
 |0,0=>agw _
 |k+1,0=>by rw[<-uY];exact pz b k b.n
 |k,i+1=>by
  have:=pz b k i;by_cases h:b.t i=b.now+(k:Nat)
  .rw[pA h,List.length_append];simp;omega
  .rw[xA h];omega
def Kc (b):kg b=fo b (10001-b.now.toNat) 0:=by simp[kg,fo]
def tI (hb:b.ok):(lg b).size<=1100000:=by have r:=pz b (10001-b.now.toNat) 0;rw[<-Kc]at r;have A:=Az hb (kg b) (λi C=>by grind [kg])<|d7 b.now;have D:=dA (z:=b.now) (by have:=(gi hb).1;omega);let⟨⟨_,J⟩,_,O⟩:=Ea hb;have R:=dA (z:=(bU b.f b.n b.t b.n).1) (by omega);have T:=dA (z:=(bU b.f b.n b.t b.n).2) (by omega);have U:=Nat.mul_le_mul hb.Oc (show 10001-b.now.toNat<=10001 by omega);unfold lg;simp;show _+(6+_+6+_)<=_;omega
def zk {x}(h:x.1.ok/\0<=x.2/\x.2<=6):(codeF x).1.ok/\(codeF x).2.size<=1100000:=by have:=dA (z:=x.2) (by omega);refine⟨h.1,?_⟩;unfold codeF;simp;show 5+_<=_;omega
def Am (a:b.ok)(k g):(bG b k g).1.ok/\(bG b k g).2.size<=1100000:=by have e:((b,⟨#[98,97,100]⟩):Bk×ByteArray).1.ok/\((b,⟨#[98,97,100]⟩):Bk×ByteArray).2.size<=1100000:=⟨a,show 3<=1100000 by decide⟩;unfold bG;simp;split;split;exact zk<|IU a;omega;split;exact zk<|Jh a;split;exact zk<|Kf a;split;split;rename_i h;have d:=DK h.choose a ⟨#[]⟩;have i:=h.choose_spec.2;exact⟨d.1,agz d.2 (by show 0+_+_<=_;omega)⟩;omega;split;exact⟨a,tI a⟩;split;refine⟨a,?_⟩;show(if _ then _ else _:ByteArray).size<=_;split<;>decide;omega
def yD (g):∀k,(p8 g k).1.ok/\(p8 g k).2.size<=1100001*k
 |0=>⟨show aY 0 2 _ 0 _ 0=true from rz (by decide) (by decide),agw _⟩
 |k+1=>by
  have a:=yD g k;have d:=Am a.1 (aL (g k).data.toList 32)<|eh 32<|g k;refine⟨d.1,?_⟩;show((p8 g k).2++(uL (p8 g k).1<|g k).2++⟨#[10]⟩).size<=_;rw[a8,a8];show _+(bG _ _ _).2.size+1<=_;omega
def CD (c s):∀k,(gY c s k).size<=s.size
 |0=>agw _
 |k+1=>by
  show((gY c s k).extract _ (gY c s k).size).size<=_;have:=CD c s k;rw[bM];omega
def rB (c s k):(eh c s k).size<=s.size:=by have:=CD c s k;grind [eh,bM]
def oN (c:UInt8)(s:ByteArray):aL s.data.toList c<=s.size:=by have:=List.count_le_length (a:=c) (l:=s.data.toList);assumption
def Rw {base k c q}(h:W.ownsRow base 9 1 (ad (some ⟨B,0,none⟩) k c) k (Yi q s k)):IT W B 0 k (eh q s):=λi e=>by
 rw[br];exact(h.cellAt i f7).trans<|by simp[Yi,e]
def adc (x9:p:=by (have mL:(eh 10 s K).toList.isEmpty=false:=by simpa using ka (a:=eh 10 s K) (l:=[]) λe=>hl<|by rw[e];rfl);go_wp2;go_ret;exact⟨rfl,b1⟩):p:=x9
def adl (x9:p:=by rw[show eh 10 s K=⟨#[]⟩ from ByteArray.ext (Array.size_eq_zero_iff.1 hl)]at tl;go_wp2;go_ret;exact⟨rfl,b1⟩):p:=x9
def Hs (s:ByteArray)(hs:s.size<=1048576)(w:ao):au Tz.prog 6 #[aj s] w λe w'=>e=av (aj<|sE s)/\Below w w w':=by
 have H1:au Tz.prog 20 #[aj s,aa .u8 10] w _:=Lj s 10 hs w;obtain⟨R,U⟩:∃R,sE s=R:=⟨_,rfl⟩;rw[U];have aI:=oN 10 s;unfold sE tC at U;simp only at U;obtain⟨K,hK⟩:∃K,aL s.data.toList 10=K:=⟨_,rfl⟩;rw[hK]at H1 U aI;obtain⟨m,hm⟩:∃m,(if(eh 10 s K).size=0 then K else K+1)=m:=⟨_,rfl⟩;rw[hm]at U;have aZ:m<=K+1:=by rw[<-hm];split<;>omega
 replace U:Hid _:=U;replace hm:Hid _:=hm;clear hK;go_enter Tz.func6,Tryz.ntmps6;go_wp2_with(go_at_call 20;fail)
 refine H1.mono ?_;clear H1;rintro e w1 ⟨⟨B,cp,rfl,J⟩,b1⟩;have hT:=Rw J;have hB:=(kW J).1;have e_:=(kW J).2;have tl:=hT K<|agK _;rw[br]at tl;clear J;let⟨W2,e2,k2,b2,z2⟩:=boxed w1 0 0 none 0 0 none 0 0;let⟨x0,x1,x2,x3,x4⟩:=k2.cells;let⟨W3,e3,k3,b3,z3,o3⟩:=aJ k2 b2 (agw _) 0 2 none 0 0 none 0 0;replace z2:Hid _:=z2;replace z3:Hid _:=z3;by_cases h1:10000<s.size;have oy:(10000:Int)<s.size:=by omega
 rw[if_pos (.inl h1)]at U;obtain rfl:=U.out;by_cases hl:(eh 10 s K).size=0;exact adl;exact adc;have oy:¬(10000:Int)<s.size:=by omega
 by_cases h2:200<m;rw[if_pos (.inr h2)]at U;obtain rfl:=U.out;by_cases hl:(eh 10 s K).size=0;have MX:(200:Int)<K:=by have:=hm.out;rw[if_pos hl]at this;omega
 exact adl;have MX:(200:Int)<(K:Int)+1:=by have:=hm.out;rw[if_neg hl]at this;omega
 exact adc;rw[if_neg (by omega)]at U;have rE:Hid (m<=200):=Nat.le_of_not_lt h2;by_cases hl:(eh 10 s K).size=0;case' pos=>(have jQ:K=m:=by have:=hm.out;rwa [if_pos hl]at this);(have MX:¬(200:Int)<K:=by omega);replace jQ:Hid _:=jQ;rw[show eh 10 s K=⟨#[]⟩ from bE (bv.1 hl)]at tl;go_wp2;rw[jQ.out]
 case' neg=>(have jQ:K+1=m:=by have:=hm.out;rwa [if_neg hl]at this);(have MX:¬(200:Int)<(K:Int)+1:=by omega);replace jQ:Hid _:=jQ;(have mL:(eh 10 s K).toList.isEmpty=false:=by simpa using ka (a:=eh 10 s K) (l:=[]) λe=>hl<|by rw[e];rfl);go_wp2;rw[jQ.out]
 all_goals
  clear tl x0 x1 x2 x3 x4 k2 b2 e2 e3;replace rE:=rE.out;generalize hg:eh 10 s=g at*;replace hg:Hid _:=hg;go_loopw [5,6] (λo x W=>∃(i:Nat) (b:Bk) (O:ByteArray) (t2:Option Addr) (d2:Nat) (t3:Option Addr) (d3:Nat),i<=m/\x=aa .i64 i/\o=aj O/\Hid (p8 g i=(b,O))/\aR W w1 b.now b.shift (ad t2 b.n d2) (ad t3 b.n d3)/\fx (λx=>x=(w1:Nat)) W b t2 d2 t3 d3/\Below w1 w1 W) (λ_ x _=>m-(intOf x).toNat)
  case atStart=>exact⟨0,⟨0,2,0,_,_⟩,_,none,0,none,0,agB _,rfl,rfl,rfl,k3,⟨⟨λ_=>⟨rfl,rfl⟩,λ_ h=>nomatch h⟩,⟨λ_=>⟨rfl,rfl⟩,λ_ h=>nomatch h⟩,agw _,λa h=>by rcases h with h|h<;>cases h⟩,b3⟩
  case round=>
   obtain⟨i,b,O,t2,d2,t3,d3,hi,rfl,rfl,hF,r,C,A⟩:=hrel;let⟨hb,ho⟩:=yD g i;rw[hF.out]at hb ho;replace ho:O.size<=1100001*i:=ho;let⟨y0,y1,y2,y3,y4⟩:=r.cells;by_cases aG:i<m
   .have dQ:(i:Int)<m:=by omega
    have ti:=hT.below A hB i (by omega);rw[br]at ti;have iK:B<wr:=agx hB A.size;have az:(g i).size<=10000:=by rw[<-hg.out];exact agz (rB 10 s i)<|by omega
    obtain⟨Z,hZ⟩:∃Z,uL b (g i)=Z:=⟨_,rfl⟩;let⟨aE,IF⟩:=Am hb (aL (g i).data.toList 32)<|eh 32<|g i;rw[show bG b _ _=Z from hZ]at aE IF;have HC:∀W,au Tz.prog 20 #[aj<|g i,aa .u8 32] W _:=λW=>Lj (g i) 32 (agz az<|by decide) W
    have HL:∀(W:ao) (lo:Nat) (X:Nat->Prop) (hX:∀x,X x->x<W) (C:fx X W b t2 d2 t3 d3) (B2 c2:Nat) (J:W.ownsRow lo 9 1 (ad (some ⟨B2,0,none⟩) (aL (g i).data.toList 32+1) c2) (aL (g i).data.toList 32+1) (Yi 32 (g i)<|aL (g i).data.toList 32+1)),au Tz.prog 21 #[a4 #[aa .i64 b.now,aa .i64 b.shift,ad t2 b.n d2,ad t3 b.n d3],ad (some B2) (aL (g i).data.toList 32+1:Nat) c2] W λe w'=>(∃s2 c2 s3 c3,e=av (bj #[a4 #[aa .i64 Z.1.now,aa .i64 Z.1.shift,ad s2 Z.1.n c2,ad s3 Z.1.n c3],aj Z.2])/\fx X w' Z.1 s2 c2 s3 c3)/\Below W W w':=λW lo X hX C B2 c2 J=>by
     rw[<-hZ];exact QY b hb t2 d2 t3 d3 W X hX C B2 _ c2 (eh 32<|g i) (kW J).2 (agz (oN 32 _) az) (λj=>agz (rB 32 _ j) az) (kW J).1<|Rw J
    have eI:¬9223372036854775807<O.size+Z.2.size:=by omega
    have f8:¬9223372036854775807<O.size+Z.2.size+1:=by omega
    replace hZ:Hid _:=hZ;clear aE IF ho;generalize aL (g i).data.toList 32=kk at*;go_wp2;refine bB (S:=Kp wr w1 B B) aO ⟨agw _,⟨r.lt,iK,iK⟩,rfl,rfl,rfl⟩ λhS=>?_;refine ai 0 (a4 #[aa .i64 b.now,aa .i64 b.shift,ad t2 b.n d2,ad t3 b.n d3]) 39 rfl qb hS ?_;refine ai 1 (ad (some B) m cp) 40 rfl qb hS ?_;refine ai 2 (aa .i64 i) 41 rfl qb hS ?_;refine ai 3 (ac<|some ⟨B,i,none⟩) 42 rfl qb hS ?_;refine ai 4 (aj<|g i) 43 rfl qb hS ?_;simp only[a0,a7,a9,a5];refine L9 5 10 rfl rfl (λK hK=>?_) λK hK=>?_;focus
     go_simp
     go_at_call 20
     refine(HC _).mono ?_;rintro e w2 ⟨⟨B2,c2,rfl,J⟩,b2⟩;have g2:=(agn _ wr).drew.trans b2;have A:=A.trans<|g2.mono A.size;have r:=r.same<|g2.block _ r.lt;have C:=C.grow g2;refine hK.out _ _ (hS.below b2) λhS=>?_
     clear hK K;refine L9 6 10 rfl rfl (λK hK=>?_) λK hK=>?_;focus
      go_simp
      go_at_call 21
      refine(HL _ _ _ (λx h=>h▸r.lt) C _ _ J).mono ?_;rintro e w5 ⟨⟨p2,q2,p3,q3,rfl,C⟩,b5⟩;have A:=A.trans<|b5.mono A.size;have r:=r.same<|b5.block _ r.lt;refine hK.out _ _ (hS.below b5) λhS=>?_
      clear hK K;refine ai 7 (bj #[a4 #[aa .i64 Z.1.now,aa .i64 Z.1.shift,ad p2 Z.1.n q2,ad p3 Z.1.n q3],aj Z.2]) 38 rfl gS hS ?_;refine ai 8 (a4 #[aa .i64 Z.1.now,aa .i64 Z.1.shift,ad p2 Z.1.n q2,ad p3 Z.1.n q3]) 46 rfl gS hS ?_;refine ai 9 (aj Z.2) 47 rfl gS hS ?_;simp only[a0,a7,a9,a5];refine fH 10 rfl λK hK=>?_;let⟨WA,eA,D,T,zA⟩:=boxed w5 0 0 none 0 0 none 0 0;replace zA:Hid _:=zA;have ax:(w1:Nat)<w5:=r.lt;have Ux:B≠(w5:Nat):=agN<|agx hB A.size;have C:=(C.more (Y:=λx=>x=(w1:Nat)\/x=(w5:Nat)) λx h=>h.imp id λh=>be h.symm).grow T;go_simp
      refine hK.out _ _ (hS.below T) λhS=>?_
      clear hK K eA;have A:=A.trans<|T.mono A.size;have r:=r.same<|T.block _ r.lt
     rotate_left;focus
      let⟨WA,eA,D,T,zA⟩:=boxed w2 0 0 none 0 0 none 0 0;replace zA:Hid _:=zA;have ax:(w1:Nat)<w2:=r.lt;have Ux:B≠(w2:Nat):=agN<|agx hB A.size;have C:=(C.more (Y:=λx=>x=(w1:Nat)\/x=(w2:Nat)) λx h=>h.imp id λh=>be h.symm).grow T;go_simp
      refine hK.out _ _ (hS.below T) λhS=>?_
      clear hK K eA;have A:=A.trans<|T.mono A.size;have r:=r.same<|T.block _ r.lt;have J:=iZ J T;refine fH 6 rfl λK hK=>?_;go_simp
      go_at_call 21
      refine(HL _ _ _ (λx h=>h.elim (λh=>h▸r.lt) λh=>h▸D.lt) C _ _ J).mono ?_;rintro e w5 ⟨⟨p2,q2,p3,q3,rfl,C⟩,b5⟩;have A:=A.trans<|b5.mono A.size;have r:=r.same<|b5.block _ r.lt;have D:=D.same<|b5.block _ D.lt;refine hK.out _ _ (hS.below b5) λhS=>?_
      clear hK K;refine ai 7 (bj #[a4 #[aa .i64 Z.1.now,aa .i64 Z.1.shift,ad p2 Z.1.n q2,ad p3 Z.1.n q3],aj Z.2]) 38 rfl gS hS ?_;refine ai 8 (a4 #[aa .i64 Z.1.now,aa .i64 Z.1.shift,ad p2 Z.1.n q2,ad p3 Z.1.n q3]) 46 rfl gS hS ?_;refine ai 9 (aj Z.2) 47 rfl gS hS ?_;simp only[a0,a7,a9,a5]
    rotate_left 2;focus
     let⟨WA,eA,D,T,zA⟩:=boxed wr.drew 0 0 none 0 0 none 0 0;have D:aR WA wr 0 0 (ad none 0 0) (ad none 0 0):=D;replace zA:Hid _:=zA;have ax:(w1:Nat)<wr:=r.lt;have Ux:B≠(wr:Nat):=agN<|agx hB A.size;have C:=(C.more (Y:=λx=>x=(w1:Nat)\/x=(wr:Nat)) λx h=>h.imp id λh=>be h.symm).grow<|(agn _ wr).drew.trans T;go_simp
     refine hK.out _ _ (hS.below T) λhS=>?_
     clear hK K eA;have gA:=(agn _ wr).drew.trans T;have A:=A.trans<|gA.mono A.size;have r:=r.same<|gA.block _ r.lt;refine fH 5 rfl λK hK=>?_;go_simp
     go_at_call 20
     refine(HC _).mono ?_;rintro e w2 ⟨⟨B2,c2,rfl,J⟩,b2⟩;have A:=A.trans<|b2.mono A.size;have r:=r.same<|b2.block _ r.lt;have C:=C.grow b2;have D:=D.same<|b2.block _ D.lt;refine hK.out _ _ (hS.below b2) λhS=>?_
     clear hK K;refine fH 6 rfl λK hK=>?_;go_simp
     go_at_call 21
     refine(HL _ _ _ (λx h=>h.elim (λh=>h▸r.lt) λh=>h▸D.lt) C _ _ J).mono ?_;rintro e w5 ⟨⟨p2,q2,p3,q3,rfl,C⟩,b5⟩;have A:=A.trans<|b5.mono A.size;have r:=r.same<|b5.block _ r.lt;have D:=D.same<|b5.block _ D.lt;refine hK.out _ _ (hS.below b5) λhS=>?_
     clear hK K;refine ai 7 (bj #[a4 #[aa .i64 Z.1.now,aa .i64 Z.1.shift,ad p2 Z.1.n q2,ad p3 Z.1.n q3],aj Z.2]) 38 rfl gS hS ?_;refine ai 8 (a4 #[aa .i64 Z.1.now,aa .i64 Z.1.shift,ad p2 Z.1.n q2,ad p3 Z.1.n q3]) 46 rfl gS hS ?_;refine ai 9 (aj Z.2) 47 rfl gS hS ?_;simp only[a0,a7,a9,a5]
    all_goals
     refine fH 11 rfl λK hK=>?_;let⟨x0,x1,x2,x3,x4⟩:=D.cells;let⟨W7,e7,k7,b7,z7,o7⟩:=aJ D A (agO ax) Z.1.now Z.1.shift p2 Z.1.n q2 p3 Z.1.n q3;replace z7:Hid _:=z7;go_simp
     refine hK.out _ _ (hS.set o7 z7.out (agN ax) Ux Ux) λhS=>?_
     clear hK K;refine ai 12 (aj Z.2) 8 rfl gS hS ?_;refine bS aO ?_ _;simp only[a0,a7,a9,a5];clear y0 y1 y2 y3 y4 x0 x1 x2 x3 x4 e7;have r:=r.same<|o7 _<|agN ax;let⟨y0,y1,y2,y3,y4⟩:=r.cells;let⟨x0,x1,x2,x3,x4⟩:=k7.cells;let⟨W8,e8,k8,b8,z8,o8⟩:=aJ r b7 (agw _) Z.1.now Z.1.shift p2 Z.1.n q2 p3 Z.1.n q3;replace z8:Hid _:=z8;go_wp2;go_roundw
     case rel=>exact⟨i+1,Z.1,_,p2,q2,p3,q3,aG,by go_num,rfl,by show _=_;rw[p8,hF.out,hZ.out],k8,((C.set (λx hx=>o7 x λe=>hx<|.inr e)<|be z7.out.symm).set (λx hx=>o8 x λe=>hx<|.inl e)<|be z8.out.symm).more λx hx=>.inl<|.inl hx,b8⟩
     case measure=>exact cD
   .obtain rfl:i=m:=by omega
    go_wp2;go_ret;obtain rfl:R=O:=by rw[<-U.out,hF.out]
    exact⟨rfl,b1.trans<|A.mono b1.size⟩
def Tb (w:ao):Prop:=bn Tz.prog w "internal/strconv.uint64pow10" .u64 bp
def Tb.same {w'}(h:Tb w)(e:w'.heap[6]?=w.heap[6]?):Tb w':=by unfold Tb bn World.var? at h⊢;rw[show Tz.prog.globalNamed "internal/strconv.uint64pow10"=some 6 by kernel_rfl]at h⊢;grind
def Af {z:Int}(g:0<=z)(h:z<1000000)(d:Tb w):au Tz.prog 49 #[aa .i64 z] w λe w'=>e=av (aj<|d7 z)/\Below w w w':=by obtain⟨n,rfl⟩:∃n:Nat,z=n:=⟨z.toNat,by omega⟩;exact QP n (by omega) w d
def CC {cd:Int}(d:0<=cd)(j:cd<=6)(g:Tb w):au Tz.prog 48 #[aa .i64 cd] w λe w'=>e=av (aj<|⟨#[99,111,100,101,32]⟩++d7 cd)/\Below w w w':=by
 have l:¬9223372036854775807<5+(d7 cd).size:=by have:=dA (z:=cd) (by omega);omega
 go_enter Tz.func48,Tryz.ntmps48;go_wp2_with(go_at_call 49;refine(Af d (by omega) g).mono ?_;rintro e n ⟨rfl,r⟩)
 go_ret;simp_all
def QZ (s:ByteArray)(g:s.size<=1048576)(w:ao):au Tz.prog 14 #[aj s] w λe w'=>e=av (ad (some ⟨w,0,none⟩) (tC s)<|aL s.data.toList 10+1)/\tC s<=aL s.data.toList 10+1/\ky w' w (aL s.data.toList 10+1) (eh 10 s)/\Below w w w':=by
 have H:=DC s 10 w g;have i:=oN 10 s;unfold tC;simp only;generalize aL s.data.toList 10=K at*;obtain⟨m,a⟩:∃m,(if(eh 10 s K).size=0 then K else K+1)=m:=⟨_,rfl⟩;rw[a];replace a:Hid _:=a;go_enter Tz.func14,Tryz.ntmps14;go_wp2_with(go_at_call 22;fail)
 apply H.mono;rintro e l ⟨rfl,j,n⟩;have k:=j.2 K ab;by_cases d:(eh 10 s K).size=0;obtain rfl:K=m:=by have:=a.out;grind
 rw[show eh 10 s K=⟨#[]⟩ from bE (bv.1 d)]at k;exact Ik;obtain rfl:K+1=m:=by have:=a.out;grind
 have q:(eh 10 s K).toList.isEmpty=false:=by simpa using ka λe=>d (by rw[e];rfl)
 exact Ik
def Xh (t:Nat->Int)(x y:Nat):Int:=if t x<t y then -1 else if t y<t x then 1 else 0
theorem Lh (t x y):Xh t x y<0<->t x<t y:=by unfold Xh;split<;>(try split)<;>omega
def T3 (a b:Int)(w:ao):au Tz.prog 77 #[aa .i64 a,aa .i64 b] w λe w'=>e=av (aa .i64 (if a<b then -1 else if b<a then 1 else 0))/\w'=w:=by
 rcases(show a<b\/(¬a<b/\b<a)\/(¬a<b/\¬b<a) by omega)with h|⟨h,d⟩|⟨h,d⟩<;>
 .simp[*];go_enter Tz.func77,Tryz.ntmps77
  exact Ik
def Wv (h:p:=by intro w' hSw;subst hSw;go_simp):p:=h
def Sm (x y:Nat)(bl b n cap:Nat)(t:Nat->Int)(W:ao)(r:x<n)(hy:y<n) (D:W.cell? bl=some (ad (some ⟨b,0,none⟩) n cap))(q:aD W b 0 n t): au Tz.prog 76 #[aa .i64 (x:Int),aa .i64 (y:Int),ac bl] W λe w'=>e=av (aa .i64<|Xh t x y)/\Below W W w'/\W.drawn<=w'.drawn:=by
 have J:(x:Int)<n:=by omega
 have O:(y:Int)<n:=by omega
 have z:=q x r;have A:=q y hy;rw[br]at z A;have H:au Tz.prog 77 #[aa .i64<|t x,aa .i64<|t y] W.drew λe w'=>e=av (aa .i64<|Xh t x y)/\w'=W.drew:=T3 (t x) (t y) W.drew;go_enter Tz.func76,Tryz.ntmps76;go_wp2;refine bB aO rfl λhS=>ai 0 (ad (some b) n cap) 6 rfl Wv hS<|ai 1 (aa .i64 x) 7 rfl Wv hS<|ai 2 (ac<|some ⟨b,x,none⟩) 8 rfl Wv hS<|ai 3 (aa .i64<|t x) 9 rfl Wv hS<|ai 4 (ad (some b) n cap) 10 rfl Wv hS<|ai 5 (aa .i64 y) 11 rfl Wv hS<|ai 6 (ac<|some ⟨b,y,none⟩) 12 rfl Wv hS<|ai 7 (aa .i64<|t y) 13 rfl Wv hS ?_;simp[a0,a5];refine fH 8 rfl λK C=>?_;go_simp;go_at_call 77
 apply H.mono;rintro e R ⟨rfl,rfl⟩;refine C.out _ _ rfl λhS=>ai 9 (aa .i64<|Xh t x y) 5 rfl Wv hS<|wpAnyH_done aO ?_ _;simp only[a0,a7,a9,a5];go_wp2;go_ret;exact⟨rfl,(agn _ W).drew,Nat.le_succ _⟩
def adH (k:Nat)(t:Nat->Int)(bl b cap d:Nat)(w:ao)(r:bl≠d)(z:b≠d) (A:w.cell? bl=some (ad (some ⟨b,0,none⟩) (k+1) cap))(C:aD w b 0 (k+1) t): CmpLays1 Tz.prog 76 #[ac bl] (rZ k) (λa b=>Xh t a b) d 0 (k+1) w:=by intro m l n _ x y;have q:∀(g o:Nat) (v:ay),g≠d->w.cell? ⟨g,o,none⟩=some v->(sortWorld _ w d 0 m n l).cell? ⟨g,o,none⟩=some v:=λg o v j h=>(cell?_sortWorld_other (rZ k) w d 0 m n l ⟨g,o,none⟩ j<|block_lt_of_cell h).trans h;exact(Sm x y bl b _ cap t _ x.2 y.2 (q _ _ _ r A) λi D=>q _ _ _ z<|C i D).mono λe w' ⟨he,E,F⟩=>⟨he,grown_of E F⟩
def aeX (t k):Go.Sort.SWO (ltOf λa b:Fin (k+1)=>Xh t a b):=by
 have h:∀x y:Fin _,ltOf (λa b:Fin (k+1)=>Xh t a b) x y=decide _:=λx y=>by unfold ltOf;exact decide_eq_decide.2<|Lh t x y
 constructor<;>intros<;>simp[h]at*<;>omega
def aaS (t:Nat->Int)(n:Nat)(g:Nat->Nat):Prop:=(∀x,x<n->∃i,i<n/\g i=x)/\(∀i,i<n->g i<n)/\∀i j,i<j->j<n->t (g i)<t (g j)
def Kd (s:Option Addr)(n c:Nat)(t:Nat->Int)(w:ao)(hn:n<=6)(D:pX w s n c t)(hd:∀i j,i<n->j<n->i≠j->t i≠t j): au Tz.prog 50 #[ad s n c] w λe w'=>(∃g B,aaS t n g/\e=av (ad (some ⟨B,0,none⟩) n n)/\aC w' B n (λi=>((g i:Nat):Int)))/\Below w w w':=by
 obtain⟨q,e1,T,z,U⟩:∃q,w.alloc (.cells #[ad s n c] 40)=q/\q.cell? (w:Nat)=some (ad s n c)/\Below w w q/\(w:Nat)<q:=⟨_,rfl,cQ,(agn _ w).alloc ab _,by simp⟩;have A:=DL n q (by omega);replace D:=D.below z;cases n with
 |zero=>go_enter Tz.func50,Tryz.ntmps50;(go_wp2_with(first|(go_at_call 74;refine A.mono ?_;clear A;rintro e O ⟨rfl,C,r⟩)|(go_at_call 75;refine(DA _ _ _ _).mono ?_;rintro e Y ⟨rfl,rfl⟩)));go_ret;exact⟨⟨λi=>i,_,⟨λx h=>absurd h ab,λx h=>absurd h ab,λ_ j _ h=>absurd h ab⟩,rfl,C⟩,z.trans<|r.mono z.size⟩|succ k=>
  obtain⟨b,rfl,hb,Z⟩:=D.pos ab;go_enter Tz.func50,Tryz.ntmps50;go_wp2_with(first
   |(go_at_call 74;refine A.mono ?_;clear A;rintro e O ⟨rfl,C,r⟩;have cl:=(r.cell U).trans T;have R:=Hy (cap':=k+1) (by omega) (aeX t k) (enters_of Tz.func76 aO rfl) (adH k t _ b c _ O ab ab cl<|Z.below r hb) C)
   |(go_at_call 75;refine R.mono ?_;clear R;rintro e Y ⟨rfl,J,n,os,hp,hs,rfl⟩))
  go_ret;let⟨iV,hm,aG⟩:=CK J hp hs;refine⟨⟨λi=>(J[i]!:Nat),_,⟨λx hx=>?_,λi _=>(J[i]!).2,λi j mI hj=>?_⟩,rfl,Mn _ _ _ _ _ _ iV C⟩,z.trans<|(r.trans<|Ii _ _ _ _ _ _ ab r.size).mono z.size⟩;let⟨i,hi,e⟩:=List.getElem_of_mem<|hm ⟨x,hx⟩;grind;grind [ltOf,decide_eq_false_iff_not,Lh]
def DB {t:Nat->Int}:∀{L d:List Nat},L.Pairwise (λa b=>t a<t b)->d.Pairwise (λa b=>t a<t b)->(∀x,x∈L<->x∈d)->L=d
 |[],[],_,_,_=>rfl
 |[],a::_,_,_,h=>absurd ((h a).2<|by simp) (by simp)
 |a::_,[],_,_,h=>absurd ((h a).1<|by simp) (by simp)
 |a::L,b::d,g,i,h=>by
  rw[List.pairwise_cons]at g i;have e:a=b:=by
   have j:=(h a).1 cQ;rcases j with e|j
   .omega
   .grind
  congr 1;refine DB g.2 i.2 λx=>⟨λk=>?_,λk=>?_⟩<;>grind
def Bk.ok.dif (h:b.ok)(i j)(A:i<b.n)(r:j<b.n)(C:i≠j):b.t i≠b.t j:=by (have q:∀j k,k<j->j<b.n->b.t k≠b.t j:=λj k hk r e=>by have D:=((bL h).2.2.2) j k hk r;have J:=kL (b.f k).ax (b.f k).aI (b.f j).ax (b.f j).aI (b.t k)<|b.t j;grind [Mv.iO]);grind
def Bk.ok.now (h:b.ok){i}(a:i<b.n):b.now<=b.t i/\b.t i<=10000:=by have d:=(gi h).2.2;have e:=(gh.fits (bL h).1 (bL h).2.2) i a;grind [np,fY]
def NQ (h:b.ok){g}(l:aaS b.t b.n g):(List.range b.n).map g=kg b:=by have A:=(gi h).1;refine DB (t:=b.t) ?_ ?_ λx=>⟨λd=>?_,λd=>?_⟩;rw[List.pairwise_map];exact List.pairwise_lt_range.imp_of_mem λC r z=>l.2.2 _ _ z<|bO.1 r;unfold kg;rw[List.pairwise_flatMap];refine⟨λk _=>?_,List.pairwise_lt_range.imp λ{k D} hk x d y E=>?_⟩;refine((List.pairwise_lt_range).filter _).imp_of_mem λ{i j} a m F=>?_;simp at a m;exact absurd (a.2.trans m.2.symm) (h.dif i j a.1 m.1<|by omega);grind;obtain⟨i,a,rfl⟩:=List.mem_map.1 d;have q:=l.2.1 i<|bO.1 a;have:=h.now q;simp[kg];exact⟨(b.t (g i)-b.now).toNat,by omega,q,by omega⟩;simp[kg]at d;let⟨i,a,e⟩:=l.1 x (by omega);grind
abbrev Fo (W:ao)(B:Nat)(x y:ay):Prop:=W.heap[B]?=some (.cells #[x,y] 49 (0,0))
def Im:Tryz.prog.underlying 47=some (.pointer 49):=aO
def Sy:Tryz.prog.underlying 87=some .unsafePointer:=aO
def Yq:(Tryz.prog.info? 49).map (λi=>decide (i.size=0))=some false:=aO
section
variable [Gl]{ok:Ctx}{ρ:Ren}{ev f:Operand->ay}{o:Oper}{x y:Operand}{u:ay}
def JY {P}{m:Sem Next}(a:m.run P W=.ok (.value v) W)(d:m.events P W #[]=#[]):m.runT P W #[]=(.ok (.value v) W,#[]):=cQ
def yr (O:lR ok ρ ev f)(R:du ok.fn x=true)(he:ev x=ac B)(T:bw ok true ρ V W)(U:Fo V B u v):∃(r:Nat) (A C:ay) (z:Nat×Nat),f x=ac r/\ρ B=some r/\W.heap[r]?=some (.cells #[A,C] 49 z):=by have h:=O x R;rw[he]at h;generalize f x=q at h;cases h with|@ptr a a' h=>let⟨hb,ho,hs⟩:=h;let⟨Y,a2,a3⟩:=a';subst ho hs;let⟨p,p',J,Z,hO⟩:=T.heap _ _ hb;rw[U]at J;cases J;cases hO with|@cells c c' e z z' D h2=>let⟨A,hu,_⟩:=D.get (i:=0) rfl;let⟨C,hv,_⟩:=D.get (i:=1) rfl;have hz:=D.size.symm;refine⟨Y,A,C,z',rfl,hb,?_⟩;rw[Z];congr 2;grind
def H' (T:o.op=.convert 47 87 x)(A:lR ok ρ ev f)(C:du ok.fn x=true)(he:ev x=ac B)(D:bw ok true ρ V W)(J:Fo V B u v):(a6 f o).runT Tryz.prog W #[]=(.ok (.value<|f x) W,#[]):=by
 obtain⟨O,R,U,z,Y,-,Z⟩:=yr A C he D J;have r:W.cell? O=some R:=by grind [World.cell?]
 have h1:=run_convert_to_unsafe Im Sy Yq r;have h2:=events_convert_to_unsafe Im Sy Yq r;simp_all [a6]
def Q1 (Y:o.op=.convert 87 47 x)(O:lR ok ρ ev f)(R:du ok.fn x=true)(he:ev x=ac B)(T:bw ok true ρ V W)(U:Fo V B u v):(a6 f o).runT Tryz.prog W #[]=(.ok (.value<|f x) W,#[]):=by
 obtain⟨r,Z,v',z,e1,-,e2⟩:=yr O R he T U;have C:W.shape? r=some (49,2):=by grind [World.shape?]
 have D:liesAt Tryz.prog Tryz.prog.depth 49 (2/Tryz.prog.cellsOf 49) 0 49 1=true:=aO;let⟨j,J⟩:=bt.1 (show(Tryz.prog.info? 49).isSome=true from aO);have h1:=Lib.run_from_unsafe W ⟨r,0,none⟩ Sy Im J C D;have h2:∀A,(convert 87 47 (ac<|some ⟨r,0,none⟩)).events Tryz.prog W A=A:=λA=>by simp[convert,run_underlying Im,Conv.unsafePointer,Conv.seenAt,viewAt,C,variablesAt,D,bK,typeInfo,J,Result.evThen]
 simp_all [a6]
def Vh (T:o.op=.binOp .neq 47 x y 47)(C:lR ok ρ ev f)(U:du ok.fn x=true)(Y:du ok.fn y=true)(he:ev x=ac B)(Z:ev y=ac B)(D:bw ok true ρ V W)(J:Fo V B u v):(a6 f o).runT Tryz.prog W #[]=(.ok (.value<|bo false) W,#[]):=by
 let⟨r,u',v',z,e1,r1,e2⟩:=yr C U he D J;let⟨B2,u2,v2,z2,e3,O,_⟩:=yr C Y Z D J;rw[r1]at O;cases O;let⟨t,R⟩:=bt.1 (show(Tryz.prog.info? 49).isSome=true from aO);have h1:=Lib.run_neq_ptr_same W ⟨r,0,none⟩ Im R;have h3:∀d:Nat,(bm (d+1) 47 (ac<|some ⟨r,0,none⟩)<|ac<|some ⟨r,0,none⟩).run Tryz.prog W=.ok true W/\∀A,(bm (d+1) 47 (ac<|some ⟨r,0,none⟩)<|ac<|some ⟨r,0,none⟩).events Tryz.prog W A=A:=λd=>by constructor<;>simp[bm,bK,R,sameAddr]
 have h2:∀A,(bs .neq 47 (ac<|some ⟨r,0,none⟩)<|ac<|some ⟨r,0,none⟩).events Tryz.prog W A=A:=λA=>by simp_all [bs,bJ,bH]
 unfold a6;simp only[T,e1,e3];refine JY ?_ ?_
 .go_simp
 simp[go_sem,h1,h2]
def LN {b:Bool}(C:o.op=.binOp .eql 47 x (.const<|ac none) 47)(D:lR ok ρ ev f)(hc:∀v,f (.const v)=v)(J:du ok.fn x=true)(he:ev x=ac none/\b=true\/(∃B:Nat,ev x=ac B)/\b=false):(a6 f o).runT Tryz.prog W #[]=(.ok (.value<|bo b) W,#[]):=by
 have h:=D x J;let⟨t,O⟩:=bt.1 (show(Tryz.prog.info? 49).isSome=true from aO);obtain⟨q,hq,hb⟩:∃q,f x=ac q/\b=q.isNone:=by rcases he with⟨e,rfl⟩|⟨⟨B,e⟩,rfl⟩<;>rw[e]at h<;>generalize f x=q at h<;>cases h<;>grind
 subst hb;unfold a6;simp only[C,hq,hc];have r:∀d:Nat,(bm (d+1) 47 (ac q)<|ac none).run Tryz.prog W=.ok q.isNone W/\∀A,(bm (d+1) 47 (ac q)<|ac none).events Tryz.prog W A=A:=λd=>by cases q<;>constructor<;>simp[bm,bK,typeInfo,O,sameAddr]
 refine JY ?_ ?_
 .simp[go_sem,bs,bJ,bH,(r 9999).1]
 simp[go_sem,bs,bJ,bH,(r 9999).1,(r 9999).2]
end
section
variable [Gl]{ok:Ctx}{x:ay}
omit [Gl] in
def Fo.gets (h:Fo V B x y):V.cell? B=some x/\V.cell? ⟨B,1,none⟩=some y/\∀j,V.frozen? ⟨B,j,none⟩=false:=by grind [World.cell?,World.frozen?]
omit [Gl] in
def Fo.rc (h:Fo V B x y)(τ:Nat->Question->Nat)(d:Nat):(re V τ d).cell? B=some x/\(re V τ d).cell? ⟨B,1,none⟩=some y/\∀j,(re V τ d).frozen? ⟨B,j,none⟩=false:=Fo.gets h
omit [Gl] in
def TT (a:Fo V B x y)(v:ay):Fo (V.setCell B v) B v y:=by show(V.setCell _ _).heap[B]?=_;rw[gq,if_pos rfl,a];simp
omit [Gl] in
def aah (v:ay)(w:ao):(callFunc 53 #[v]).run Tz.prog w=.ok (.value v) w:=by rw[run_callFunc_extern (Tz.aF Tryz.func53) (by kernel_rfl) (by kernel_rfl) (by kernel_rfl) (by kernel_rfl),Lib.run_noEscape];rfl
def ae.off {b:Frame}{a}(E:dC Tz.prog ok c aS)(hb:ok.aP b.fn=true)(h:ae Tz.prog ok c aS Q ⟨{b.at a []with mode:=.returning},cs,V⟩):ae Tz.prog ok c aS Q ⟨b.at a [],cs,V⟩:=ae.go (fr2:={b.at a []with mode:=.returning}) E hb (λW=>⟨_,stepG_end⟩) h
def vu (E:dC Tz.prog ok c aS)(T:∀P,Gl.top P->P=Tryz.prog)(r:ok.aP 30=true)(eU:ok.aP r0.fn=true)(hx:x=ac none\/x=ac B)(O:Fo V B x y) (U:∀Y,Fo Y B (ac B) y->(∀k,k≠B->Y.heap[k]?=V.heap[k]?)->(Y:Nat)=(V:Nat)->ae Tz.prog ok c aS Q ⟨r0.finish<|bj #[],cs,Y⟩): ae Tz.prog ok c aS Q ⟨Frame.enter Tz.prog 30 #[ac B] .normal,r0::cs,V⟩:=by replace U:Hid _:=U;refine ae.en Tz.func30 rfl Tryz.ntmps30 iI<|uK ?_;refine ae.seq E r<|ae.rg E r<|ae.oc E r 0 4 λK τ d hK=>?_;let⟨c0,c1,c2⟩:=O.rc τ d;simp only[an];go_wp2;refine hK.out _ _<|ae.un ?_;rcases hx with rfl|rfl;(.refine ae.xu (y:=.const<|bo true) rfl rfl rfl rfl rfl (λτ d P A ρ f W Z C D J R=>?_) ?_;rw[T P A,J];exact LN C D J rfl<|.inl ⟨rfl,rfl⟩;rw[aq rfl];refine ae.regionEnd E r<|ae.cond E r rfl<|ae.rg E r<|ae.oc E r 0 2 λK τ d hK=>?_;simp only[an];go_wp2;refine hK.out _ _<|ae.un<|ae.xu (y:=.tmp 8) rfl rfl rfl rfl rfl (λτ d P A ρ f W Z C D J R=>?_) ?_;rw[T P A];exact H' C D rfl rfl R O;rw[aq rfl];have ax:=aah<|ac B;refine ae.oc E r 3 1 λK τ d hK=>?_;simp only[an,a0];go_wp2;refine hK.out _ _<|ae.un<|ae.xu (y:=.tmp 10) rfl rfl rfl rfl rfl (λτ d P A ρ f W Z C D J R=>?_) ?_;rw[T P A];exact Q1 C D rfl rfl R O;rw[aq rfl];refine ae.oc E r 5 3 λK τ d hK=>?_;let⟨c0,c1,c2⟩:=O.rc τ d;simp only[an,a0];go_wp2;exact hK.out _ _<|ae.regionEnd E r<|ae.off E r<|ae.lv E eU Tz.func30 (λτ d=>bR rfl _ _ _)<|U.out _ (TT O _) (λk hk=>agp _ _ _ _ hk)<|iA _ _ _);refine ae.xu (y:=.const<|bo false) rfl rfl rfl rfl rfl (λτ d P A ρ f W Z C D J R=>?_) ?_;rw[T P A,J];exact LN C D J rfl<|.inr ⟨⟨B,rfl⟩,rfl⟩;rw[aq rfl];refine ae.regionEnd E r<|ae.cond E r rfl<|ae.seq E r<|ae.rg E r<|ae.oc E r 0 5 λK τ d hK=>?_;let⟨c0,c1,c2⟩:=O.rc τ d;simp only[an];go_wp2;refine hK.out _ _<|ae.un<|ae.xu (y:=.const<|bo false) rfl rfl rfl rfl rfl (λτ d P A ρ f W Z C D J R=>?_) ?_;rw[T P A,J];exact Vh C D rfl rfl rfl rfl R O;rw[aq rfl];exact ae.regionEnd E r<|ae.cond E r rfl<|ae.skip E r<|ae.off E r<|ae.lv E eU Tz.func30 (λτ d=>bR rfl _ _ _)<|U.out _ O (λk hk=>rfl) rfl
end
def Gn:∃i,Tz.prog.info? 5=some i/\i.zero=some (aa .u8 0)/\i.size=1/\i.bytes=1:=by have h:(Tz.prog.info? 5).map (λi=>(i.zero,i.size,i.bytes))=some (some<|aa .u8 0,1,1):=aO;simp_all
structure Bs (V:ao)(N B:Nat)(y:ay)(s:ByteArray):Prop where
 bl:∃x,Fo V B x y/\(x=ac none\/x=ac B)
 own:V.ownsRow N 5 1 y s.size (aV s)
 lo:B<N
 hi:N<=V
structure TC (V V':ao)(B:Nat)(y:ay):Prop where
 sz:(V:Nat)<=V'
 keep:∀k:Nat,k<V->k≠B->y.ownBlock≠some k->V'.heap[k]?=V.heap[k]?
def Ru {base:Nat}{e:TypeId}{q:Nat}{n:Nat}{xs:List ay}(h:w.ownsRow base e q v n xs):∃a l c,v=ad a l c:=by obtain⟨A,⟨rfl,rfl⟩|⟨g,r,z,rfl,C,D,J⟩⟩:=h;all_goals grind
def Fg (s t:ByteArray):aV s++aV t=aV (s++t):=by simp[aV]
def Bs.put {j a:ao}{d:ay}(h:Bs V N B y s)(z:Fo j B (ac B) y)(A:∀k,k≠B->j.heap[k]?=V.heap[k]?)(e:∀k,k<(V:Nat)->y.ownBlock≠some k->a.heap[k]?=j.heap[k]?)(F:(V:Nat)<=a) (n:a.ownsRow N 5 1 d (s.size+t.size) (aV s++aV t)):Fo a B (ac B) y/\Bs (a.setCell ⟨B,1,none⟩ d) N B d (s++t)/\TC V (a.setCell ⟨B,1,none⟩ d) B y:=by have C:=h.lo;have D:=h.hi;have q:=(e B (by omega) λe=>by have:=dl h.own B e;omega).trans z;have g:∀k,k≠B->(a.setCell ⟨B,1,none⟩ d).heap[k]?=a.heap[k]?:=λk l=>agp _ _ _ _ l;refine⟨q,⟨⟨_,?_,.inr rfl⟩,?_,C,?_⟩,⟨?_,λk l i m=>(g k i).trans<|(e k l m).trans<|A k i⟩⟩;show(a.setCell _ _).heap[B]?=_;rw[gq,if_pos rfl,q];simp;rw[a8,<-Fg];exact aA n λr E=>g r (by have:=dl n r E;omega);all_goals grind [iA]
section
variable [Gl]{ok:Ctx}
def vw (E:dC Tz.prog ok c aS)(hG:∀P,Gl.top P->P=Tryz.prog)(U:ok.aP 30=true)(q:ok.aP 16=true)(eU:ok.aP r0.fn=true)(h:Bs V N B y s)(Y:s.size+t.size<=140737488355328) (C:∀D y',Bs D N B y' (s++t)->TC V D B y->ae Tz.prog ok c aS Q ⟨r0.finish<|bj #[aa .i64 t.size,.nilIface],cs,D⟩): ae Tz.prog ok c aS Q ⟨Frame.enter Tz.prog 16 #[ac B,aj t] .normal,r0::cs,V⟩:=by
 replace C:Hid _:=C;let⟨x,hB,hx⟩:=h.bl;let⟨i0,hI,gE,eI,f8⟩:=Gn;refine ae.en Tz.func16 rfl Tryz.ntmps16 iI<|ae.ck E q [_] _ λK R τ d z Z=>?_;simp[ak];go_wp2;refine z.out _ _<|ae.un ?_;clear z Z K R;refine ae.seq E q<|ae.rg E q<|ae.oc E q 0 1 λK τ d z=>?_;simp only[an];go_wp2;refine z.out _ _<|ae.un ?_;clear z K;refine ae.aZ E rfl rfl U (λw=>nU)<|vu E hG U q hx hB ?_;intro A j9 BH uC;rw[aq rfl];refine ae.regionEnd E q<|ae.ck E q [_,_] _ λK R τ d z Z=>?_;let⟨c0,c1,c2⟩:=j9.rc τ d;simp only[ak];have hO:(re A τ d).ownsRow N 5 1 y s.size (aV s):=aA h.own λr J=>BH r (by have:=dl h.own r J;have:=h.lo;omega);have O:N<=(re A τ d).heap.size:=by have:=h.hi;show N<=(A:Nat);omega
 go_wp2_with(at_builtin;refine wpList_append_own_string _ rfl (.tmp 12) (.tmp 13) 22 9 rfl N 5 i0 aO aO hI gE eI f8 y s.size (aV s) rfl hO t rfl (agz Y<|by decide) Y O ?_;intro y2 w2 nI jI _;obtain⟨a2,l2,q2,rfl⟩:=Ru nI;have T:=h.put j9 BH (λk hk J=>jI.block k (show k<(A:Nat) by omega) λe=>J e.symm) (agz (be uC.symm) jI.size) nI;let⟨p1,p2,p3⟩:=T.1.gets)
 refine z.out _ _<|ae.ret E q<|ae.lv E eU Tz.func16 (λτ d=>results_tmp2 rfl _ _ _) ?_;exact C.out _ _ T.2.1 T.2.2
def DP {x:UInt8}(E:dC Tz.prog ok c aS)(hG:∀P,Gl.top P->P=Tryz.prog)(Z:ok.aP 30=true)(C:ok.aP 18=true)(eU:ok.aP r0.fn=true)(h:Bs V N B y s)(hz:s.size+1<=140737488355328) (O:∀T y',Bs T N B y' (s++⟨#[x]⟩)->TC V T B y->ae Tz.prog ok c aS Q ⟨r0.finish .nilIface,cs,T⟩): ae Tz.prog ok c aS Q ⟨Frame.enter Tz.prog 18 #[ac B,aa .u8 x.toNat] .normal,r0::cs,V⟩:=by
 replace O:Hid _:=O;let⟨z,hB,hx⟩:=h.bl;let⟨i0,hI,gE,eI,f8⟩:=Gn;refine ae.en Tz.func18 rfl Tryz.ntmps18 iI ?_;refine ae.ck E C [_] _ λK R τ d hK hR=>?_;simp only[ak];go_wp2;refine hK.out _ _<|ae.un ?_;clear hK hR K R;refine ae.seq E C<|ae.rg E C<|ae.oc E C 0 1 λK τ d hK=>?_;simp only[an];go_wp2;refine hK.out _ _<|ae.un ?_;clear hK K;refine ae.aZ E rfl rfl Z (λw=>nU)<|vu E hG Z C hx hB ?_;intro A j9 BH uC;rw[aq rfl];refine ae.regionEnd E C<|ae.ck E C [_,_] _ λK R τ d hK hR=>?_;let⟨c0,c1,c2⟩:=j9.rc τ d;simp only[ak];have J:(re A τ d).ownsRow N 5 1 y s.size (aV s):=aA h.own λr D=>BH r (by have:=dl h.own r D;have:=h.lo;omega);have U:N<=(re A τ d).heap.size:=by have:=h.hi;show N<=(A:Nat);omega
 have hA:=(agn (re A τ d).heap.size<|re A τ d).alloc ab<|.cells #[aa .u8 x.toNat] 5;have J:=aA J λr D=>hA.block r (J.lt r D).2;go_wp2_with(at_builtin;refine wpList_append_own _ rfl (.tmp 11) (.tmp 13) 22 rfl N 5 i0 _ 1 1 aO hI gE eI f8 rfl bc y s.size (aV s) rfl J (re A τ d).heap.size 1 1 [aa .u8 x.toNat] rfl rfl (fC<|heap_alloc_new (re A τ d) _) sU (agz hz<|by decide) (by omega) (agz U hA.size) ?_;intro y2 w2 nI jI _;obtain⟨a2,l2,q2,rfl⟩:=Ru nI;have Y:=h.put (t:=⟨#[x]⟩) j9 BH (λk hk D=>(jI.block k (show k<_ from agx (show k<(A:Nat) by omega) hA.size) λe=>D e.symm).trans<|hA.block k (show k<(A:Nat) by omega)) (agz (be uC.symm)<|agz hA.size jI.size) nI;let⟨p1,p2,p3⟩:=Y.1.gets)
 refine hK.out _ _<|ae.ret E C<|ae.lv E eU Tz.func18 (λτ d=>results_tmp rfl _ _ _) ?_;exact O.out _ _ Y.2.1 Y.2.2
end
def Sj (h:p:=by intro w' hSw;let⟨s0,s1,s2⟩:=hSw.gets;go_simp):p:=h
def Ml (h:Bs w N B y s)(C:s.size≠0\/y=ad none 0 0)(hs:s.size<=9223372036854775807):au Tz.prog 19 #[ac B] w λe w'=>e=av (aj s)/\Below N w w':=by obtain⟨x,D,-⟩:=h.bl;(obtain⟨A,q,l,c,rfl,hl,UJ,O,r⟩:∃A q l c,y=ad q l c/\(l:Int)=s.size/\(∀W,(Builtin.unsafeSliceData_ #[22] 1000000000 #[ad q l c]).run Tz.prog W=.ok (ac q) W)/\(Builtin.unsafeString_ #[68,3] 9 #[ac q,aa .i64 s.size]).run Tz.prog w.drew=.ok (aj s) A/\Below N w A:=by obtain⟨h1,⟨rfl,R⟩|⟨g,T,z,rfl,U,Y,UX,zJ,Z,X5⟩⟩:=h.own;obtain rfl:s=ByteArray.empty:=bE<|bv.1 R;exact⟨w.drew,none,0,0,rfl,rfl,λ_=>rfl,run_unsafeString_none _ _ _ _ _,(agn _ w).drew⟩;have C:=C.resolve_right (by simp);refine⟨_,_,_,_,rfl,rfl,λ_=>run_unsafeSliceData_row _ _ _ _ _ _<|by omega,run_unsafeString_row w.drew 68 3 9 5 aO aO g z.size (by have qw:w.drew.heap[g]?=some (.cells z 5 (0,0)):=Y;simp[World.shape?,qw]) s.data.toList (λe=>C<|by rw[show s.size=s.data.toList.length from rfl,e];rfl) (by rw[Array.length_toList];show s.size<=_;omega) hs ?_,below_freeze (Below.drew<|agn N w) U _⟩;exact λj x hx=>h.own.cells rfl j (aa .u8 x.toNat)<|by simp[aV,hx]);let⟨c0,c1,c2⟩:=Fo.gets (V:=w.drew) D;go_enter Tz.func19,Tryz.ntmps19;refine uK ?_;go_wp2;refine bB (S:=λw'=>Fo w' B x<|ad q l c) aO D λhS=>?_;refine ai 0 (ac B) 3 rfl Sj hS ?_;refine ai 1 (ac B) 4 rfl Sj hS ?_;refine ai 2 (ac<|some ⟨B,1,none⟩) 5 rfl Sj hS ?_;refine ai 3 (ad q l c) 6 rfl Sj hS ?_;refine ai 4 (ac q) 7 rfl Sj hS ?_;refine ai 5 (ac B) 8 rfl Sj hS ?_;refine ai 6 (ac B) 9 rfl Sj hS ?_;refine ai 7 (ac<|some ⟨B,1,none⟩) 10 rfl Sj hS ?_;refine ai 8 (ad q l c) 11 rfl Sj hS ?_;refine ai 9 (aa .i64 s.size) 12 rfl Sj hS ?_;simp;refine fH 10 rfl λK J=>?_;go_simp;refine J.out _ _ (show A.heap[B]?=_ from(r.block B h.lo).trans D) λhS=>?_;clear J K;refine ai 11 (aj s) 2 rfl Sj hS ?_;refine bS aO ?_ _;simp only[a0,a7,a9,a5];go_wp2;go_ret;exact⟨rfl,r⟩
