import Derived.Test.YtlmcblcijndipabGreatDoorAd24
import Derived.Test.YtlmcblcijndipabGreatDoorAd11
import Derived.Test.YtlmcblcijndipabGreatDoorAd30
import Derived.Lib.QuietBelow
import Derived.Shelf.SlSortFunc.HeapSort
set_option linter.unusedVariables false
set_option maxHeartbeats 1000000
namespace Go.Proofs.YtlmcblcijndipabGreatDoor
section
open Go.RowKit Go.Shelf
theorem lg {k:Nat}(f:Nat->Mv)(x y:Fin (k+1)):ltOf (λa b:Fin (k+1)=>yN f a b) x y=true<->iQ f x y:=by
 unfold ltOf;rw[decide_eq_true_eq];exact Bj f x y
theorem lh {k:Nat}(f:Nat->Mv)(x y:Fin (k+1)):ltOf (λa b:Fin (k+1)=>yN f a b) x y=false<->¬iQ f x y:=by
 rw[<-lg,Bool.not_eq_true]
theorem EV (f:Nat->Mv)(k:Nat):Go.Sort.SWO (ltOf (λa b:Fin (k+1)=>yN f a b)) where
 irrefl x:=(lh f x x).mpr (iQ.irrefl f x)
 trans x y z h1 h2:=(lg f x z).mpr (((lg f x y).mp h1).trans ((lg f y z).mp h2))
 ntrans x y z h1 h2:=(lh f x z).mpr (λh=>by
  have n1:=(lh f x y).mp h1;have n2:=(lh f y z).mp h2;rcases iQ.tri f x y with b|b|b
  .exact n1 b
  .rw[b]at h;exact n2 h
  .exact n2 (b.trans h))
theorem zT {W w':World}(h:Below W.heap.size W w')(hd:W.drawn<=w'.drawn):∃q os',w'=Go.Sort.grow (W.drewN q) os':=by
 obtain⟨p,hp⟩:=regrown_of_below h;refine⟨p.d-W.drawn,p.os,?_⟩;have e:w'.drawn=p.d:=by rw[hp];rfl
 rw[hp];unfold redrawn World.drewN;rw[show W.drawn+(p.d-W.drawn)=p.d by omega]
abbrev li (k:Nat)(x:Fin (k+1)):Value:=.int .i64 ((x:Nat):Int)
theorem BI (k:Nat)(f:Nat->Mv)(bl b off cap blk:Nat)(w:World)(hk:k+1<=1048576)(hbl:bl≠blk)(hb:b≠blk)(hbs:b<w.heap.size)
  (cl:w.cell? ⟨bl,0,none⟩=some (.slice (some ⟨b,off,none⟩) (k+1) cap))(hrow:ak w b off (k+1) f):
  CmpLays1 Tz.prog 247 #[.pointer (some ⟨bl,0,none⟩)] (li k) (λa b=>yN f a b) blk 0 (k+1) w:=by
 intro m os dk _ x y;have hc:∀(bb o:Nat) (v:Value),bb≠blk->w.cell? ⟨bb,o,none⟩=some v->(sortWorld (li k) w blk 0 m dk os).cell? ⟨bb,o,none⟩=some v:=λbb o v hne h=>
  (cell?_sortWorld_other (li k) w blk 0 m dk os ⟨bb,o,none⟩ hne (block_lt_of_cell h)).trans h
 have hr:ak (sortWorld (li k) w blk 0 m dk os) b off (k+1) f:=λi hi=>by
  obtain⟨c0,c1,c2,c3,c4,c5⟩:=hrow i hi;exact⟨hc _ _ _ hb c0,hc _ _ _ hb c1,hc _ _ _ hb c2,hc _ _ _ hb c3,hc _ _ _ hb c4,hc _ _ _ hb c5⟩
 exact(vh x y bl b off (k+1) cap f _ x.2 y.2 hk (hc _ _ _ hbl cl) hr).mono λe w' ⟨he,h1,h2⟩=>⟨he,zT h1 h2⟩
theorem zU (k:Nat)(f:Nat->Mv)(bl b off cap blk cap':Nat)(w:World)(hk:k+1<=1048576)(hbl:bl≠blk)(hb:b≠blk)(hbs:b<w.heap.size)
  (cl:w.cell? ⟨bl,0,none⟩=some (.slice (some ⟨b,off,none⟩) (k+1) cap))(hrow:ak w b off (k+1) f)(hown:an w blk (k+1) (λi=>(i:Int))):
  Calls Tz.prog 123 #[.slice (some ⟨blk,0,none⟩) (k+1:Nat) cap',.func (.func 247) #[] #[.pointer (some ⟨bl,0,none⟩)]] w λe w'=>
   e=.returned (.tuple #[])/\∃(d':Array (Fin (k+1))) (n:Nat) (os:Array Obj),Go.Sort.PermIn 0 (k+1) (Array.ofFn (λi:Fin (k+1)=>i)) d'/\Go.Sort.SortedIn (ltOf (λa b:Fin (k+1)=>yN f a b)) 0 (k+1) d'/\w'=sortWorld (li k) w blk 0 n d' os:=by
 obtain⟨d,hd⟩:∃d:Array (Fin (k+1)),d=Array.ofFn (λi:Fin (k+1)=>i):=⟨_,rfl⟩;have hds:d.size=k+1:=by rw[hd];simp
 have hblk:=hown.lt;have hH:Go.Sort.Holds (li k) w blk 0 d:=λj hj=>by
  have hj':j<k+1:=by omega
  refine⟨?_,hown.frozen _⟩;have e:d[j]! =⟨j,hj'⟩:=by rw[getElem!_pos d j hj];simp[hd]
  rw[e,Nat.zero_add];exact hown.cellAt j hj'
 have hO:=EV f k;have eg:∀args w,(callFunc 247 args).run Tz.prog w=.ok (.enter 247 args) w:=enters_of Tz.func247 (by kernel_rfl) rfl;have hcmp:CmpLays1 Tz.prog 247 #[.pointer (some ⟨bl,0,none⟩)] (li k) (λa b=>yN f a b) blk 0 d.size w:=by rw[hds];exact BI k f bl b off cap blk w hk hbl hb hbs cl hrow
 have hlim:Lib.bitLen d.size<4611686018427387904:=GC (Lib.bitLen_le d.size 62 (by omega) (by omega)) (by omega);have hp:=Any.pdqsortCmpFunc_all Tz.pdqL (li k) (λa b=>yN f a b) 247 #[.pointer (some ⟨bl,0,none⟩)] hO blk 0 cap' d w eg hcmp ⟨λ_=>rfl,hH,hblk⟩ (d.size+1) 0 d.size (Lib.bitLen d.size) d w (by omega) rfl (SW.start hH) (Gs _) (Gm _) (by omega) hlim (Or.inl rfl);have hs:=Go.Sort.pdq_sorts (ltOf (λa b:Fin (k+1)=>yN f a b)) hO d 0 d.size (Lib.bitLen d.size) true true (Gs _) (Gm _) (Or.inl rfl);change Calls Tz.prog 143 _ _ _ at hp;have hl:Calls Tz.prog 144 #[.int .u64 (d.size:Int)] w λe w'=>e=.returned (.int .i64 (Lib.bitLen d.size:Nat))/\w'=w:=by
  have h:=Any.bits_Len (SlLaysF0.n15.bits (P:=Tz.prog) (ρ:=Tz.pdqL_ren) {Tz.pdqL with}) (d.size:Int) w (by omega) (by omega);rwa [Int.toNat_natCast]at h
 rw[hds]at hp hl hs;have wr:IntKind.u64.wrap ((k+1:Nat):Int)=((k+1:Nat):Int):=by simp[IntKind.wrap,IntKind.bits,IntKind.signed];omega
 rw[<-hd];clear hH hcmp hd;go_enter Tz.func123,Tryz.ntmps123
 go_wp2_with(first|(go_at_call 144;refine hl.mono ?_;rintro e w' ⟨rfl,rfl⟩)|(go_at_call 143;refine hp.mono ?_;rintro e w' ⟨rfl,n,os,rfl⟩))
 go_end0
 exact⟨rfl,_,n,os,hs.1,hs.2,rfl⟩
theorem zW {k:Nat}(w:World)(blk n:Nat)(d:Array (Fin (k+1)))(os:Array Obj)(j:Nat)(hj:j<w.heap.size)(hne:j≠blk):(sortWorld (li k) w blk 0 n d os).heap[j]?=w.heap[j]?:=by
 unfold sortWorld;rw[Go.Sort.heap_grow_old _ _ (by simpa using hj)];unfold Go.Sort.putRow Go.Sort.mapBlock;simp[Array.getElem?_modify];intro h;exact absurd h.symm hne
theorem Dv {k:Nat}(w:World)(blk n:Nat)(d:Array (Fin (k+1)))(os:Array Obj)(cs:Array Value)(T:TypeId)(h:w.heap[blk]?=some (.cells cs T (0,0))):
  (sortWorld (li k) w blk 0 n d os).heap[blk]?=some (.cells (Go.Sort.putCells (li k) 0 d cs) T (0,0)):=by
 have hlt:blk<w.heap.size:=(Gp.1 h).1;unfold sortWorld;rw[Go.Sort.heap_grow_old _ _ (by simpa using hlt)];unfold Go.Sort.putRow Go.Sort.mapBlock;simp[Array.getElem?_modify,h,Go.Sort.onCells]
theorem BJ {k:Nat}(w:World)(blk n:Nat)(d:Array (Fin (k+1)))(os:Array Obj):w.heap.size<=(sortWorld (li k) w blk 0 n d os).heap.size:=by
 unfold sortWorld;simp
theorem BK {k:Nat}(w:World)(blk n:Nat)(d:Array (Fin (k+1)))(os:Array Obj)(g:Nat->Int)(hd:d.size=k+1)(h:an w blk (k+1) g):
  an (sortWorld (li k) w blk 0 n d os) blk (k+1) (λi=>((d[i]!:Nat):Int)):=by
 obtain⟨⟨cs,h1,h2⟩,_⟩:=h;have h1':=Dv w blk n d os cs _ h1;refine⟨⟨_,h1',by simp[Go.Sort.putCells,h2]⟩,λi hi=>?_⟩;rw[cell_of_row _ _ _ _ _ _ h1',Nat.zero_add];have hi':i<cs.size:=by omega
 simp only[Go.Sort.putCells,Array.getElem?_mapIdx,Array.getElem?_eq_getElem hi',Option.map_some];rw[if_pos (by omega)];rfl
theorem zX {k:Nat}(w:World)(blk n:Nat)(d:Array (Fin (k+1)))(os:Array Obj)(FX:Nat)(h0:FX<=blk)(h1:FX<=w.heap.size):Below FX w (sortWorld (li k) w blk 0 n d os):=
 ⟨rfl,rfl,rfl,BJ w blk n d os,λj hj=>zW w blk n d os j (by omega) (by omega)⟩
theorem zY {k:Nat}(f:Nat->Mv)(d':Array (Fin (k+1)))(hp:Go.Sort.PermIn 0 (k+1) (Array.ofFn (λi:Fin (k+1)=>i)) d')(hs:Go.Sort.SortedIn (ltOf (λa b:Fin (k+1)=>yN f a b)) 0 (k+1) d'):
  d'.size=k+1/\bg f (k+1) (λi=>(d'[i]!:Nat)):=by
 obtain⟨hsz,_,hperm⟩:=hp;have hsz':d'.size=k+1:=by rw[hsz];simp
 refine⟨hsz',λi _=>(d'[i]!).2,?_⟩;have hn:d'.toList.Nodup:=by
  have ex:∀(d:Array (Fin (k+1))) (m:Nat),m=d.size->d.extract 0 m=d:=λd m e=>by subst e;simp
  rw[ex d' _ hsz'.symm,ex _ (k+1) (by simp)]at hperm;refine hperm.nodup_iff.mpr ?_;rw[List.Nodup,List.pairwise_iff_getElem];intro i j hi hj hij e;rw[Array.getElem_toList,Array.getElem_toList,Array.getElem_ofFn,Array.getElem_ofFn]at e;have:=congrArg Fin.val e;simp only at this;omega
 intro i j hij hj;have h1:=(lh f _ _).mp (hs i j (Gs _) hij hj);have hne:d'[i]!≠d'[j]!:=by
  rw[getElem!_pos d' i (by omega),getElem!_pos d' j (by omega)];intro e;have:=(List.pairwise_iff_getElem.mp hn) i j (by simp;omega) (by simp;omega) hij;exact this (by simpa using e)
 rcases iQ.tri f (d'[i]!:Nat) (d'[j]!:Nat)with b|b|b
 .exact b
 .exact absurd (Fin.ext b) hne
 .exact absurd b h1
theorem vq:Tz.prog.underlying 164=some (.slice 3):=by kernel_rfl
theorem vr (n:Nat)(hn:n<=1048576)(w:World):
  (Instr.makeSlice 164 (.int .i64 (n:Int)) (.int .i64 (n:Int))).run Tz.prog w=.ok (.slice (some ⟨w.heap.size,0,none⟩) n n) (w.alloc (.cells (madeCells #[.int .i64 0] n) 3)):=by
 have hi:=gI;cases hI:Tz.prog.info? 3 with
 |none=>rw[hI]at hi;simp at hi
 |some i=>
  rw[hI]at hi;simp only[Option.map_some,Option.some.injEq,Prod.mk.injEq]at hi;obtain⟨h6,h56,hz⟩:=hi;have:=run_make (P:=Tz.prog) w 164 3 i _ vq hI hz .i64 .i64 n n (by omega) (by omega) (by rw[h56];omega) (by omega);rw[h6]at this;simpa[Value.cells]using this
theorem yh (n:Nat)(w:World)(hn:n<=1048576):
  Calls Tz.prog 122 #[.int .i64 (n:Int)] w λe w'=>e=.returned (.slice (some ⟨w.heap.size,0,none⟩) n n)/\an w' w.heap.size n (λi=>(i:Int))/\Below w.heap.size w w':=by
 have hmk:=vr n hn;go_enter Tz.func122,Tryz.ntmps122
 go_wp2;go_loopw [9] (λi w'=>∃k:Nat,k<=n/\i=.int .i64 k/\an w' w.heap.size n (λi=>if i<k then(i:Int)else 0)/\Below w.heap.size w w') (λi _=>n-(intOf i).toNat)
 case atStart=>exact⟨0,Gs _,rfl,(eK w n).congr (λi hi=>by simp),(Gb _ _).alloc (Gm _) _⟩
 case round=>
  obtain⟨k,hk,rfl,hown,hB⟩:=hrel;by_cases hlt:k<n
  .have hlt':(k:Int)<n:=by omega
   have hd:=hown.cellAt k hlt;have hfz:=hown.frozen k;go_wp2;go_roundw
   case rel=>exact⟨k+1,by omega,by go_num,(hown.set k hlt (k:Int)).congr (λi hi=>by
    by_cases e:i=k
    .subst e;simp
    .simp only[if_neg e];by_cases h:i<k
     .rw[if_pos h,if_pos (by omega)]
     .rw[if_neg h,if_neg (by omega)]),hB.setCell (by simp) _⟩
   case measure=>simp[intOf];omega
  .go_wp2;go_ret;exact⟨rfl,hown.congr (λi hi=>by rw[if_pos (by omega)]),hB⟩
theorem tU (v:Value)(h1:v.oneCell'=true)(a:Option Addr)(n cap:Nat)(hv:v=.slice a n cap)(w:World):
  Calls Tz.prog 235 #[v] w λe w'=>e=.returned (.func (.func 247) #[] #[.pointer (some ⟨w.heap.size,0,none⟩)])/\w'=w.alloc (.cells #[v] 30):=by
 subst hv;go_enter Tz.func235,Tryz.ntmps235
 go_wp2;go_ret;exact⟨rfl,rfl⟩
def qs (f:Nat->Mv)(n:Nat)(w:World)(e:Ending)(w':World):Prop:=
 ∃(g:Nat->Nat) (B cap:Nat),bg f n g/\w.heap.size<=B/\e=.returned (.slice (some ⟨B,0,none⟩) n cap)/\an w' B n (λi=>((g i:Nat):Int))
def oF (f:Nat->Mv)(n:Nat)(w:World)(e:Ending)(w':World):Prop:=
 ∃(g:Nat->Nat) (B:Nat),bg f n g/\w.heap.size<=B/\e=.returned (.slice (some ⟨B,0,none⟩) n n)/\an w' B n (λi=>((g i:Nat):Int))
theorem oF.says {f:Nat->Mv}{n:Nat}{w w':World}{e:Ending}(h:oF f n w e w'):qs f n w e w':=by obtain⟨g,B,h1,h2,h3,h4⟩:=h;exact⟨g,B,n,h1,h2,h3,h4⟩
theorem yi (a:Option Addr)(cap:Nat)(fv:Value)(w:World):
  Calls Tz.prog 123 #[.slice a 0 cap,fv] w λe w'=>e=.returned (.tuple #[])/\w'=w:=by
 have hp:=AnyF.pdqsortCmpFunc_none (P:=Tz.prog) (ρ:=Tz.pdqL_ren) {Tz.pdqL with} a cap (Lib.bitLen 0:Nat) fv w;change Calls Tz.prog 143 _ _ _ at hp;have hl:Calls Tz.prog 144 #[.int .u64 0] w λe w'=>e=.returned (.int .i64 (Lib.bitLen 0:Nat))/\w'=w:=
  Any.bits_Len (SlLaysF0.n15.bits (P:=Tz.prog) (ρ:=Tz.pdqL_ren) {Tz.pdqL with}) 0 w (by omega) (by omega)
 go_enter Tz.func123,Tryz.ntmps123
 go_wp2_with(first|(go_at_call 144;refine hl.mono ?_;rintro e w' ⟨rfl,rfl⟩)|(go_at_call 143;refine hp.mono ?_;rintro e w' ⟨rfl,rfl⟩))
 go_end0
 exact⟨rfl,rfl⟩
theorem pJ (b off n cap:Nat)(f:Nat->Mv)(w:World)(hn:n<=1048576)(hbs:b<w.heap.size)(hrow:ak w b off n f):
  Calls Tz.prog 205 #[.slice (some ⟨b,off,none⟩) n cap] w λe w'=>oF f n w e w'/\Below w.heap.size w w':=by
 have H1:=yh n w hn;have H2:=λW=>tU (.slice (some ⟨b,off,none⟩) n cap) rfl (some ⟨b,off,none⟩) n cap rfl W
 cases n with
 |zero=>
  go_enter Tz.func205,Tryz.ntmps205
  go_wp2_with(first|(go_at_call 122;refine H1.mono ?_;clear H1;rintro e w1 ⟨rfl,o1,b1⟩)|(go_at_call 235;refine(H2 _).mono ?_;clear H2;rintro e w2 ⟨rfl,rfl⟩)|(go_at_call 123;refine(yi _ _ _ _).mono ?_;rintro e w3 ⟨rfl,rfl⟩))
  go_ret;exact⟨⟨λi=>i,w.heap.size,⟨λi hi=>absurd hi (Gr _),λi j _ hj=>absurd hj (Gr _)⟩,Gm _,rfl,(o1.below ((Gb _ w1).alloc (Gm _) _) o1.lt).congr (λi hi=>absurd hi (Gr _))⟩,b1.alloc b1.size _⟩
 |succ k=>
  go_enter Tz.func205,Tryz.ntmps205
  go_wp2_with(first|(go_at_call 122;refine H1.mono ?_;clear H1;rintro e w1 ⟨rfl,o1,b1⟩)|(go_at_call 235;refine(H2 _).mono ?_;clear H2;rintro e w2 ⟨rfl,rfl⟩;have bA:Below w1.heap.size w1 (w1.alloc (.cells #[.slice (some ⟨b,off,none⟩) (k+1) cap] 30)):=(Gb _ _).alloc (Gm _) _;have o2:=o1.below bA o1.lt;have bb:=b1.trans (bA.mono b1.size);have H3:=zU k f w1.heap.size b off cap w.heap.size (k+1) _ hn (by have:=o1.lt;omega) (by omega) (Gn hbs bb.size) (by simp) (hrow.below bb hbs) o2)|(go_at_call 123;refine H3.mono ?_;clear H3;rintro e w3 ⟨rfl,d',q,os,hp,hs,rfl⟩))
  go_ret;obtain⟨hsz,hfirst⟩:=zY f d' hp hs;exact⟨⟨_,w.heap.size,hfirst,Gm _,rfl,BK _ _ _ _ _ _ hsz o2⟩,bb.trans (zX _ _ _ _ _ _ (Gm _) bb.size)⟩
theorem pK (b off n cap:Nat)(f:Nat->Mv)(w:World)(hn:n<=1048576)(hbs:b<w.heap.size)(hrow:ak w b off n f):
  Calls Tz.prog 205 #[.slice (some ⟨b,off,none⟩) n cap] w λe w'=>qs f n w e w'/\Below w.heap.size w w':=
 (pJ b off n cap f w hn hbs hrow).mono λe w' h=>⟨h.1.says,h.2⟩
end
section
open Go Go.RowKit
theorem BR:IntKind.i64.min=-9223372036854775808:=by decide
theorem BU:IntKind.i64.max=9223372036854775807:=by decide
theorem uc {w:World}{b n:Nat}{T:Nat->Int}(h:al w b 0 n T):∀(j:Nat) (u:Value),(dR T n)[j]?=some u->w.cell? ((⟨b,0,none⟩:Addr).add j)=some u:=λj u hu=>by
 have hj:j<n:=by rcases Gv j n with h|h;exact h;rw[Gx (by rw[fE];exact h)]at hu;cases hu
 rw[gG hj]at hu;rw[show(⟨b,0,none⟩:Addr).add j=⟨b,0+j,none⟩ by unfold Addr.add;split<;>simp_all,h j hj];exact hu
theorem wS {x:Int}(h:-9223372036854775808<=x/\x<=9223372036854775807):(Lit.int .i64 x).wf=true:=by
 show(decide (IntKind.i64.min<=x)&&decide (x<=IntKind.i64.max))=true;rw[BR,BU];simpa using h
end
