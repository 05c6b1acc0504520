import Derived.Test.YtlmcblcijndipaaGreatDoorj22
import Derived.Test.YtlmcblcijndipaaGreatDoorj10
import Derived.Test.YtlmcblcijndipaaGreatDoorj27
import Derived.Lib.QuietBelow
import Derived.Shelf.SlSortFunc.HeapSort
set_option linter.unusedVariables false
set_option maxHeartbeats 1000000
namespace Go.Proofs.YtlmcblcijndipaaGreatDoor
section
open RowKit Shelf
variable {k:Nat}
theorem sD (f:Nat->Mv)(x y:Fin (k+1)):ltOf (λa b:Fin (k+1)=>JI f a b) x y=true<->oo f x y:=by
 unfold ltOf;rw[decide_eq_true_eq];exact Oa f x y
theorem sE (f:Nat->Mv)(x y:Fin (k+1)):ltOf (λa b:Fin (k+1)=>JI f a b) x y=false<->¬oo f x y:=by
 rw[<-sD,Bool.not_eq_true]
theorem swo (f:Nat->Mv)(k:Nat):Go.Sort.SWO (ltOf (λa b:Fin (k+1)=>JI f a b)) where
 irrefl x:=(sE f x x).mpr (oo.irrefl f x)
 trans x y z h1 h2:=(sD f x z).mpr (((sD f x y).mp h1).trans ((sD f y z).mp h2))
 ntrans x y z h1 h2:=(sE f x z).mpr (λh=>by
  have n1:=(sE f x y).mp h1;have n2:=(sE f y z).mp h2;rcases oo.tri f x y with b|b|b
  .exact n1 b
  .rw[b]at h;exact n2 h
  .exact n2 (b.trans h))
theorem J0 {W w':World}(h:Below W.heap.size W w')(hd:W.drawn<=w'.drawn):∃q TJ,w'=Go.Sort.grow (W.drewN q) TJ:=by
 obtain⟨p,hp⟩:=regrown_of_below h;refine⟨p.d-W.drawn,p.os,?_⟩;have e:w'.drawn=p.d:=by rw[hp];rfl
 rw[hp];unfold redrawn World.drewN;rw[show W.drawn+(p.d-W.drawn)=p.d by omega]
abbrev rQ (k:Nat)(x:Fin (k+1)):Value:=.int .i64 ((x:Nat):Int)
theorem Ob (k:Nat)(f:Nat->Mv)(bl b off cap blk:Nat)(w:World)(hk:k+1<=1048576)(oq:bl≠blk)(hb:b≠blk)(bw:b<w)
  (cl:w.cell? bl=some (.slice (some ⟨b,off,none⟩) (k+1) cap))(aq:aM w b off (k+1) f):
  CmpLays1 Tz.prog 233 #[.pointer bl] (rQ k) (λa b=>JI f a b) blk 0 (k+1) w:=by
 intro m os dk _ x y;have hc:∀(bb o:Nat) (v:Value),bb≠blk->w.cell? ⟨bb,o,none⟩=some v->(sortWorld (rQ k) w blk 0 m dk os).cell? ⟨bb,o,none⟩=some v:=λbb o v hne h=>
  (cell?_sortWorld_other (rQ k) w blk 0 m dk os ⟨bb,o,none⟩ hne (block_lt_of_cell h)).trans h
 have hr:aM (sortWorld (rQ k) w blk 0 m dk os) b off (k+1) f:=λi hi=>by
  obtain⟨c0,c1,c2,c3,c4,c5⟩:=aq i hi;exact⟨hc _ _ _ hb c0,hc _ _ _ hb c1,hc _ _ _ hb c2,hc _ _ _ hb c3,hc _ _ _ hb c4,hc _ _ _ hb c5⟩
 exact(Em x y bl b off (k+1) cap f _ x.2 y.2 hk (hc _ _ _ oq cl) hr).mono λe w' ⟨he,h1,h2⟩=>⟨he,J0 h1 h2⟩
theorem Mw (k:Nat)(f:Nat->Mv)(bl b off cap blk cap':Nat)(w:World)(hk:k+1<=1048576)(oq:bl≠blk)(hb:b≠blk)(bw:b<w)
  (cl:w.cell? bl=some (.slice (some ⟨b,off,none⟩) (k+1) cap))(aq:aM w b off (k+1) f)(aU:aJ w blk (k+1) (λi=>(i:Int))):
  Calls Tz.prog 147 #[.slice blk (k+1:Nat) cap',.func (.func 233) #[] #[.pointer bl]] w λe w'=>
   e=.returned (.tuple #[])/\∃(d':Array (Fin (k+1))) (n:Nat) (os:Array Obj),Go.Sort.PermIn 0 (k+1) (Array.ofFn (λi:Fin (k+1)=>i)) d'/\Go.Sort.SortedIn (ltOf (λa b:Fin (k+1)=>JI f a b)) 0 (k+1) d'/\w'=sortWorld (rQ k) w blk 0 n d' os:=by
 obtain⟨d,hd⟩:∃d:Array (Fin (k+1)),d=Array.ofFn (λi:Fin (k+1)=>i):=⟨_,rfl⟩;have Ws:d.size=k+1:=by rw[hd];simp
 have hblk:=aU.lt;have hH:Go.Sort.Holds (rQ k) w blk 0 d:=λj hj=>by
  have hj':j<k+1:=ab;refine⟨?_,aU.frozen _⟩;have e:d[j]! =⟨j,hj'⟩:=by rw[getElem!_pos d j hj];simp[hd]
  rw[e,Nat.zero_add];exact aU.cellAt j hj'
 have hO:=swo f k;have eg:∀args w,(callFunc 233 args).run Tz.prog w=.ok (.enter 233 args) w:=enters_of Tz.func233 bR rfl;have Wj:CmpLays1 Tz.prog 233 #[.pointer bl] (rQ k) (λa b=>JI f a b) blk 0 d.size w:=by rw[Ws];exact Ob k f bl b off cap blk w hk oq hb bw cl aq
 have aao:Lib.bitLen d.size<4611686018427387904:=acB (Lib.bitLen_le d.size 62 ab ab) ab;have hp:=Any.pdqsortCmpFunc_all Tz.Pj (rQ k) (λa b=>JI f a b) 233 #[.pointer bl] hO blk 0 cap' d w eg Wj ⟨λ_=>rfl,hH,hblk⟩ (d.size+1) 0 d.size (Lib.bitLen d.size) d w ab rfl (SW.start hH) (acp _) (ack _) ab aao (Or.inl rfl);have hs:=Go.Sort.pdq_sorts (ltOf (λa b:Fin (k+1)=>JI f a b)) hO d 0 d.size (Lib.bitLen d.size) true true (acp _) (ack _) (Or.inl rfl);change Calls Tz.prog 172 _ _ _ at hp;have hl:Calls Tz.prog 173 #[.int .u64 (d.size:Int)] w λe w'=>e=.returned (.int .i64 (Lib.bitLen d.size:Nat))/\w'=w:=by
  have h:=Any.bits_Len (SlLaysF0.n15.bits (P:=Tz.prog) (ρ:=Tz.sK) {Tz.Pj with}) (d.size:Int) w ab ab;rwa [Int.toNat_natCast]at h
 rw[Ws]at hp hl hs;have wr:IntKind.u64.wrap ((k+1:Nat):Int)=((k+1:Nat):Int):=by simp[IntKind.wrap,IntKind.bits,IntKind.signed];omega
 rw[<-hd];clear hH Wj hd;go_enter Tz.func147,Tryz.ntmps147
 go_wp2_with(first|(go_at_call 173;refine hl.mono ?_;rintro e w' ⟨rfl,rfl⟩)|(go_at_call 172;refine hp.mono ?_;rintro e w' ⟨rfl,n,os,rfl⟩))
 go_end0
 exact⟨rfl,_,n,os,hs.1,hs.2,rfl⟩
theorem MV (w:World)(blk n:Nat)(d:Array (Fin (k+1)))(os:Array Obj)(j:Nat)(hj:j<w)(hne:j≠blk):(sortWorld (rQ k) w blk 0 n d os).heap[j]?=w.heap[j]?:=by
 unfold sortWorld;rw[Go.Sort.heap_grow_old _ _ (by simpa using hj)];unfold Go.Sort.putRow Go.Sort.mapBlock;simp[Array.getElem?_modify];intro h;exact absurd h.symm hne
theorem Ub (w:World)(blk n:Nat)(d:Array (Fin (k+1)))(os:Array Obj)(cs:Array Value)(T:TypeId)(h:w.heap[blk]?=some (.cells cs T (0,0))):
  (sortWorld (rQ k) w blk 0 n d os).heap[blk]?=some (.cells (Go.Sort.putCells (rQ k) 0 d cs) T (0,0)):=by
 have aI:blk<w:=(acm.1 h).1;unfold sortWorld;rw[Go.Sort.heap_grow_old _ _ (by simpa using aI)];unfold Go.Sort.putRow Go.Sort.mapBlock;simp[Array.getElem?_modify,h,Go.Sort.onCells]
theorem PP (w:World)(blk n:Nat)(d:Array (Fin (k+1)))(os:Array Obj):w.heap.size<=(sortWorld (rQ k) w blk 0 n d os).heap.size:=by
 unfold sortWorld;simp
theorem PO (w:World)(blk n:Nat)(d:Array (Fin (k+1)))(os:Array Obj)(g:Nat->Int)(hd:d.size=k+1)(h:aJ w blk (k+1) g):
  aJ (sortWorld (rQ k) w blk 0 n d os) blk (k+1) (λi=>((d[i]!:Nat):Int)):=by
 obtain⟨⟨cs,h1,h2⟩,_⟩:=h;have qi:=Ub w blk n d os cs _ h1;refine⟨⟨_,qi,by simp[Go.Sort.putCells,h2]⟩,λi hi=>?_⟩;rw[cell_of_row _ _ _ _ _ _ qi,Nat.zero_add];have ox:i<cs.size:=ab;simp only[Go.Sort.putCells,Array.getElem?_mapIdx,Array.getElem?_eq_getElem ox,Option.map_some];rw[if_pos ab];rfl
theorem MU (w:World)(blk n:Nat)(d:Array (Fin (k+1)))(os:Array Obj)(aC:Nat)(h0:aC<=blk)(h1:aC<=w):Below aC w (sortWorld (rQ k) w blk 0 n d os):=
 ⟨rfl,rfl,rfl,PP w blk n d os,λj hj=>MV w blk n d os j ab ab⟩
theorem KN (f:Nat->Mv)(d':Array (Fin (k+1)))(hp:Go.Sort.PermIn 0 (k+1) (Array.ofFn (λi:Fin (k+1)=>i)) d')(hs:Go.Sort.SortedIn (ltOf (λa b:Fin (k+1)=>JI f a b)) 0 (k+1) d'):
  d'.size=k+1/\dw f (k+1) (λi=>(d'[i]!:Nat)):=by
 obtain⟨iZ,_,QD⟩:=hp;have qU:d'.size=k+1:=by rw[iZ];simp
 refine⟨qU,λi _=>(d'[i]!).2,?_⟩;have hn:d'.toList.Nodup:=by
  have ex:∀(d:Array (Fin (k+1))) (m:Nat),m=d.size->d.extract 0 m=d:=λd m e=>by subst e;simp
  rw[ex d' _ qU.symm,ex _ (k+1) aH]at QD;refine QD.nodup_iff.mpr ?_;rw[List.Nodup,List.pairwise_iff_getElem];intro i j hi hj lI e;rw[Array.getElem_toList,Array.getElem_toList,Array.getElem_ofFn,Array.getElem_ofFn]at e;have:=congrArg Fin.val e;simp only at this;omega
 intro i j lI hj;have h1:=(sE f _ _).mp (hs i j (acp _) lI hj);have hne:d'[i]!≠d'[j]!:=by
  rw[getElem!_pos d' i ab,getElem!_pos d' j ab];intro e;have:=(List.pairwise_iff_getElem.mp hn) i j cC cC lI;exact this (by simpa using e)
 rcases oo.tri f (d'[i]!:Nat) (d'[j]!:Nat)with b|b|b
 .exact b
 .exact absurd (Fin.ext b) hne
 .exact absurd b h1
theorem Fg:Tz.prog.underlying 183=some (.slice 3):=bR
theorem Fr (n:Nat)(hn:n<=1048576)(w:World):
  (Instr.makeSlice 183 (.int .i64 (n:Int)) (.int .i64 (n:Int))).run Tz.prog w=.ok (.slice w.heap.size n n) (w.alloc (.cells (madeCells #[.int .i64 0] n) 3)):=by
 have hi:=kN;cases hI:Tz.prog.info? 3 with
 |none=>rw[hI]at hi;simp at hi
 |some i=>
  rw[hI]at hi;simp only[Option.map_some,Option.some.injEq,Prod.mk.injEq]at hi;obtain⟨h6,VG,hz⟩:=hi;have:=run_make (P:=Tz.prog) w 183 3 i _ Fg hI hz .i64 .i64 n n ab ab (by rw[VG];omega) ab;rw[h6]at this;simpa[Value.cells]using this
theorem Jy (n:Nat)(w:World)(hn:n<=1048576):
  Calls Tz.prog 146 #[.int .i64 (n:Int)] w λe w'=>e=.returned (.slice w.heap.size n n)/\aJ w' w.heap.size n (λi=>(i:Int))/\Below w w w':=by
 have Nr:=Fr n hn;go_enter Tz.func146,Tryz.ntmps146
 go_wp2;go_loopw [9] (λi w'=>∃k:Nat,k<=n/\i=.int .i64 k/\aJ w' w.heap.size n (λi=>if i<k then(i:Int)else 0)/\Below w w w') (λi _=>n-(intOf i).toNat)
 case atStart=>exact⟨0,acp _,rfl,(mz w n).congr (λi hi=>aH),(aca _ _).alloc (ack _) _⟩
 case round=>
  obtain⟨k,hk,rfl,aU,hB⟩:=hrel;by_cases aI:k<n
  .have dG:(k:Int)<n:=by omega
   have hd:=aU.cellAt k aI;have Qp:=aU.frozen k;go_wp2;go_roundw
   case rel=>exact⟨k+1,ab,by go_num,(aU.set k aI (k:Int)).congr (λi hi=>by
    by_cases e:i=k
    .subst e;simp
    .simp only[if_neg e];by_cases h:i<k
     .rw[if_pos h,if_pos ab]
     .rw[if_neg h,if_neg ab]),hB.setCell aH _⟩
   case measure=>exact cf
  .go_wp2;go_ret;exact⟨rfl,aU.congr (λi hi=>by rw[if_pos ab]),hB⟩
theorem BG (v:Value)(h1:v.oneCell'=true)(a:Option Addr)(n cap:Nat)(hv:v=.slice a n cap)(w:World):
  Calls Tz.prog 197 #[v] w λe w'=>e=.returned (.func (.func 233) #[] #[.pointer w.heap.size])/\w'=w.alloc (.cells #[v] 23):=by
 subst hv;go_enter Tz.func197,Tryz.ntmps197
 go_wp2;go_ret;exact⟨rfl,rfl⟩
def yw (f:Nat->Mv)(n:Nat)(w:World)(e:Ending)(w':World):Prop:=
 ∃(g:Nat->Nat) (B cap:Nat),dw f n g/\w.heap.size<=B/\e=.returned (.slice B n cap)/\aJ w' B n (λi=>((g i:Nat):Int))
def vo (f:Nat->Mv)(n:Nat)(w:World)(e:Ending)(w':World):Prop:=
 ∃(g:Nat->Nat) (B:Nat),dw f n g/\w.heap.size<=B/\e=.returned (.slice B n n)/\aJ w' B n (λi=>((g i:Nat):Int))
theorem vo.says {f:Nat->Mv}{n:Nat}{w w':World}{e:Ending}(h:vo f n w e w'):yw f n w e w':=by obtain⟨g,B,h1,h2,h3,h4⟩:=h;exact⟨g,B,n,h1,h2,h3,h4⟩
theorem Jc (a:Option Addr)(cap:Nat)(fv:Value)(w:World):
  Calls Tz.prog 147 #[.slice a 0 cap,fv] w λe w'=>e=.returned (.tuple #[])/\w'=w:=by
 have hp:=AnyF.pdqsortCmpFunc_none (P:=Tz.prog) (ρ:=Tz.sK) {Tz.Pj with} a cap (Lib.bitLen 0:Nat) fv w;change Calls Tz.prog 172 _ _ _ at hp;have hl:Calls Tz.prog 173 #[.int .u64 0] w λe w'=>e=.returned (.int .i64 (Lib.bitLen 0:Nat))/\w'=w:=
  Any.bits_Len (SlLaysF0.n15.bits (P:=Tz.prog) (ρ:=Tz.sK) {Tz.Pj with}) 0 w ab ab
 go_enter Tz.func147,Tryz.ntmps147
 go_wp2_with(first|(go_at_call 173;refine hl.mono ?_;rintro e w' ⟨rfl,rfl⟩)|(go_at_call 172;refine hp.mono ?_;rintro e w' ⟨rfl,rfl⟩))
 go_end0
 exact⟨rfl,rfl⟩
theorem xO (b off n cap:Nat)(f:Nat->Mv)(w:World)(hn:n<=1048576)(bw:b<w)(aq:aM w b off n f):
  Calls Tz.prog 162 #[.slice (some ⟨b,off,none⟩) n cap] w λe w'=>vo f n w e w'/\Below w w w':=by
 have H1:=Jy n w hn;have H2:=λW=>BG (.slice (some ⟨b,off,none⟩) n cap) rfl (some ⟨b,off,none⟩) n cap rfl W
 cases n with
 |zero=>
  go_enter Tz.func162,Tryz.ntmps162
  go_wp2_with(first|(go_at_call 146;refine H1.mono ?_;clear H1;rintro e w1 ⟨rfl,o1,b1⟩)|(go_at_call 197;refine(H2 _).mono ?_;clear H2;rintro e w2 ⟨rfl,rfl⟩)|(go_at_call 147;refine(Jc _ _ _ _).mono ?_;rintro e w3 ⟨rfl,rfl⟩))
  go_ret;exact⟨⟨λi=>i,w.heap.size,⟨λi hi=>absurd hi (aco _),λi j _ hj=>absurd hj (aco _)⟩,ack _,rfl,(o1.below ((aca _ w1).alloc (ack _) _) o1.lt).congr (λi hi=>absurd hi (aco _))⟩,b1.alloc b1.size _⟩
 |succ k=>
  go_enter Tz.func162,Tryz.ntmps162
  go_wp2_with(first|(go_at_call 146;refine H1.mono ?_;clear H1;rintro e w1 ⟨rfl,o1,b1⟩)|(go_at_call 197;refine(H2 _).mono ?_;clear H2;rintro e w2 ⟨rfl,rfl⟩;have bA:Below w1.heap.size w1 (w1.alloc (.cells #[.slice (some ⟨b,off,none⟩) (k+1) cap] 23)):=(aca _ _).alloc (ack _) _;have o2:=o1.below bA o1.lt;have bb:=b1.trans (bA.mono b1.size);have H3:=Mw k f w1.heap.size b off cap w.heap.size (k+1) _ hn (by have:=o1.lt;omega) ab (acl bw bb.size) aH (aq.below bb bw) o2)|(go_at_call 147;refine H3.mono ?_;clear H3;rintro e w3 ⟨rfl,d',q,os,hp,hs,rfl⟩))
  go_ret;obtain⟨iZ,Lf⟩:=KN f d' hp hs;exact⟨⟨_,w.heap.size,Lf,ack _,rfl,PO _ _ _ _ _ _ iZ o2⟩,bb.trans (MU _ _ _ _ _ _ (ack _) bb.size)⟩
theorem xP (b off n cap:Nat)(f:Nat->Mv)(w:World)(hn:n<=1048576)(bw:b<w)(aq:aM w b off n f):
  Calls Tz.prog 162 #[.slice (some ⟨b,off,none⟩) n cap] w λe w'=>yw f n w e w'/\Below w w w':=
 (xO b off n cap f w hn bw aq).mono λe w' h=>⟨h.1.says,h.2⟩
end
section
open RowKit
variable {w:World}{b n base:Nat}{T:TypeId}{t:Nat->Int}
theorem OX:IntKind.i64.min=-9223372036854775808:=bK
theorem OW:IntKind.i64.max=9223372036854775807:=bK
theorem uj {T:Nat->Int}(h:aB w b 0 n T):∀(j:Nat) (u:Value),(eN T n)[j]?=some u->w.cell? ((b:Addr).add j)=some u:=λj u hu=>by
 have hj:j<n:=by rcases acu j n with h|h;exact h;rw[acw (by rw[jb];exact h)]at hu;cases hu
 rw[f8 hj]at hu;rw[show(b:Addr).add j=⟨b,0+j,none⟩ by unfold Addr.add;split<;>simp_all,h j hj];exact hu
theorem CY {B c:Nat}(h:w.ownsRow base T 1 (.slice B n c) n (eN t n)):aB w B 0 n t:=λi hi=>by
 rw[Nat.zero_add,h.cellAt i ab];exact f8 hi
theorem aB.set {k:Nat}(h:aB w b 0 n t)(hk:k<n)(x:Int):aB (w.setCell ⟨b,k,none⟩ x) b 0 n (λp=>if p=k then x else t p):=λi hi=>by
 rw[Nat.zero_add];by_cases e:i=k
 .subst e;have h1:=h i hi;rw[Nat.zero_add]at h1;simp only[if_true];exact World.cell?_setCell_same' _ _ _ (by rw[h1];rfl)
 .rw[World.cell?_setCell_other _ _ _ _ (by intro e';cases e';exact e rfl)];simp only[if_neg e];have h1:=h i hi;rw[Nat.zero_add]at h1;exact h1
theorem od {x:Int}(h:-9223372036854775808<=x/\x<=9223372036854775807):(Lit.int .i64 x).wf=true:=by
 show(decide (IntKind.i64.min<=x)&&decide (x<=IntKind.i64.max))=true;rw[OX,OW];simpa using h
end
