import Derived.Test.YtlmcblcijndipaaGreatDoora19
import Derived.Test.YtlmcblcijndipaaGreatDoora10
import Derived.Test.YtlmcblcijndipaaGreatDoora23
import Derived.Test.YtlmcblcijndipaaGreatDoora24
import Derived.Lib.QuietBelow
import Derived.Shelf.SlSortFunc.HeapSort
import Derived.Deep.AppendLies
set_option linter.defProp false
set_option linter.unusedVariables false
set_option maxHeartbeats 4000000
set_option maxRecDepth 10000
namespace Go.Proofs.YtlmcblcijndipaaGreatDoor
open RowKit Shelf
variable {b c k n:Nat}{W w w':World}
def sS (f:Nat->Mv)(x y:Fin (k+1)):ltOf (λa b:Fin (k+1)=>K9 f a b) x y=true<->nA f x y:=by
 unfold ltOf;rw[decide_eq_true_eq];exact PL f x y
def sU (f:Nat->Mv)(x y:Fin (k+1)):ltOf (λa b:Fin (k+1)=>K9 f a b) x y=false<->¬nA f x y:=by
 rw[<-sS,Bool.not_eq_true]
def swo (f:Nat->Mv)(k:Nat):Go.Sort.SWO (ltOf λa b:Fin (k+1)=>K9 f a b) where
 irrefl x:=(sU f x x).mpr<|nA.irrefl f x
 trans x y z h1 h2:=(sS f x z).mpr<|((sS f x y).mp h1).trans<|(sS f y z).mp h2
 ntrans x y z h1 h2:=(sU f x z).mpr (λh=>by
  have n1:=(sU f x y).mp h1;have n2:=(sU f y z).mp h2;rcases nA.tri f x y with b|b|b
  .exact n1 b
  .rw[b]at h;exact n2 h
  .exact n2 (b.trans h))
def Lt (h:Below W.heap.size W w')(hd:W.drawn<=w'.drawn):∃q Vn,w'=Go.Sort.grow (W.drewN q) Vn:=by
 let⟨p,hp⟩:=regrown_of_below h;refine⟨p.d-W.drawn,p.os,?_⟩;have e:w'.drawn=p.d:=by rw[hp];rfl
 rw[hp];unfold redrawn World.drewN;rw[show W.drawn+(p.d-W.drawn)=p.d by omega]
abbrev sI (k:Nat)(x:Fin (k+1)):Value:=.int .i64 ((x:Nat):Int)
def PM (k:Nat)(f:Nat->Mv)(bl b off cap blk:Nat)(w:World)(hk:k+1<=1048576)(oG:bl≠blk)(hb:b≠blk)(bH:b<w)
  (cl:w.cell? bl=some (.slice (some ⟨b,off,none⟩) (k+1) cap))(aq:aI w b off (k+1) f):
  CmpLays1 Tz.prog 233 #[.pointer bl] (sI k) (λa b=>K9 f a b) blk 0 (k+1) w:=by
 intro m os dk _ x y;have hc:∀(bb o:Nat) (v:Value),bb≠blk->w.cell? ⟨bb,o,none⟩=some v->(sortWorld (sI k) w blk 0 m dk os).cell? ⟨bb,o,none⟩=some v:=λbb o v hne h=>
  (cell?_sortWorld_other (sI k) w blk 0 m dk os ⟨bb,o,none⟩ hne (block_lt_of_cell h)).trans h
 have hr:aI (sortWorld (sI k) w blk 0 m dk os) b off (k+1) f:=λi hi=>by
  let⟨c0,c1,c2,c3,c4,c5⟩:=aq i hi;exact⟨hc _ _ _ hb c0,hc _ _ _ hb c1,hc _ _ _ hb c2,hc _ _ _ hb c3,hc _ _ _ hb c4,hc _ _ _ hb c5⟩
 exact(FX x y bl b off (k+1) cap f _ x.2 y.2 hk (hc _ _ _ oG cl) hr).mono λe w' ⟨he,h1,h2⟩=>⟨he,Lt h1 h2⟩
def Oi (k:Nat)(f:Nat->Mv)(bl b off cap blk cap':Nat)(w:World)(hk:k+1<=1048576)(oG:bl≠blk)(hb:b≠blk)(bH:b<w)
  (cl:w.cell? bl=some (.slice (some ⟨b,off,none⟩) (k+1) cap))(aq:aI w b off (k+1) f)(bc:aC w blk (k+1) (λi=>(i:Int))):
  Calls Tz.prog 147 #[.slice blk (k+1:Nat) cap',.func (.func 233) #[] #[.pointer bl]] w λe w'=>
   e=.returned (.tuple #[])/\∃(d':Array (Fin<|k+1)) (n:Nat) (os:Array Obj),Go.Sort.PermIn 0 (k+1) (Array.ofFn λi:Fin (k+1)=>i) d'/\Go.Sort.SortedIn (ltOf λa b:Fin (k+1)=>K9 f a b) 0 (k+1) d'/\w'=sortWorld (sI k) w blk 0 n d' os:=by
 obtain⟨d,hd⟩:∃d:Array (Fin<|k+1),d=Array.ofFn (λi:Fin (k+1)=>i):=⟨_,rfl⟩;have Yv:d.size=k+1:=by rw[hd];simp
 have hblk:=bc.lt;have hH:Go.Sort.Holds (sI k) w blk 0 d:=λj hj=>by
  have hj':j<k+1:=aa;refine⟨?_,bc.frozen _⟩;have e:d[j]! =⟨j,hj'⟩:=by rw[getElem!_pos d j hj];simp[hd]
  rw[e,Nat.zero_add];exact bc.cellAt j hj'
 have hO:=swo f k;have eg:∀args w,(callFunc 233 args).run Tz.prog w=.ok (.enter 233 args) w:=enters_of Tz.func233 bD rfl;have Yn:CmpLays1 Tz.prog 233 #[.pointer bl] (sI k) (λa b=>K9 f a b) blk 0 d.size w:=by rw[Yv];exact PM k f bl b off cap blk w hk oG hb bH cl aq
 have aa4:Lib.bitLen d.size<4611686018427387904:=adl (Lib.bitLen_le d.size 62 aa aa) aa;have hp:=Any.pdqsortCmpFunc_all Tz.QW (sI k) (λa b=>K9 f a b) 233 #[.pointer bl] hO blk 0 cap' d w eg Yn ⟨λ_=>rfl,hH,hblk⟩ (d.size+1) 0 d.size (Lib.bitLen d.size) d w aa rfl (SW.start hH) (ada _) (ac5 _) aa aa4<|Or.inl rfl;have hs:=Go.Sort.pdq_sorts (ltOf λa b:Fin (k+1)=>K9 f a b) hO d 0 d.size (Lib.bitLen d.size) true true (ada _) (ac5 _)<|Or.inl rfl;change Calls Tz.prog 172 _ _ _ at hp;have hl:Calls Tz.prog 173 #[.int .u64 (d.size:Int)] w λe w'=>e=.returned (.int .i64 (Lib.bitLen d.size:Nat))/\w'=w:=by
  have h:=Any.bits_Len (SlLaysF0.n15.bits (P:=Tz.prog) (ρ:=Tz.td) {Tz.QW with}) (d.size:Int) w aa aa;rwa [Int.toNat_natCast]at h
 rw[Yv]at hp hl hs;have wr:IntKind.u64.wrap ((k+1:Nat):Int)=((k+1:Nat):Int):=by simp[IntKind.wrap,IntKind.bits,IntKind.signed];omega
 rw[<-hd];clear hH Yn hd;go_enter Tz.func147,Tryz.ntmps147
 go_wp2_with(first|(go_at_call 173;refine hl.mono ?_;rintro e w' ⟨rfl,rfl⟩)|(go_at_call 172;refine hp.mono ?_;rintro e w' ⟨rfl,n,os,rfl⟩))
 go_end0
 exact⟨rfl,_,n,os,hs.1,hs.2,rfl⟩
def OH (w:World)(blk n:Nat)(d:Array (Fin<|k+1))(os:Array Obj)(j:Nat)(hj:j<w)(hne:j≠blk):(sortWorld (sI k) w blk 0 n d os).heap[j]?=w.heap[j]?:=by
 unfold sortWorld;rw[Go.Sort.heap_grow_old _ _ (by simpa using hj)];unfold Go.Sort.putRow Go.Sort.mapBlock;simp[Array.getElem?_modify];intro h;exact absurd h.symm hne
def VN (w:World)(blk n:Nat)(d:Array (Fin<|k+1))(os:Array Obj)(cs:Array Value)(T:TypeId)(h:w.heap[blk]?=some (.cells cs T (0,0))):
  (sortWorld (sI k) w blk 0 n d os).heap[blk]?=some (.cells (Go.Sort.putCells (sI k) 0 d cs) T (0,0)):=by
 have aB:blk<w:=(ac7.1 h).1;unfold sortWorld;rw[Go.Sort.heap_grow_old _ _ (by simpa using aB)];unfold Go.Sort.putRow Go.Sort.mapBlock;simp[Array.getElem?_modify,h,Go.Sort.onCells]
def Rw (w:World)(blk n:Nat)(d:Array (Fin<|k+1))(os:Array Obj):w.heap.size<=(sortWorld (sI k) w blk 0 n d os).heap.size:=by
 unfold sortWorld;simp
def Rv (w:World)(blk n:Nat)(d:Array (Fin<|k+1))(os:Array Obj)(g:Nat->Int)(hd:d.size=k+1)(h:aC w blk (k+1) g):
  aC (sortWorld (sI k) w blk 0 n d os) blk (k+1) (λi=>((d[i]!:Nat):Int)):=by
 let⟨⟨cs,h1,h2⟩,_⟩:=h;have pa:=VN w blk n d os cs _ h1;refine⟨⟨_,pa,by simp[Go.Sort.putCells,h2]⟩,λi hi=>?_⟩;rw[cell_of_row _ _ _ _ _ _ pa,Nat.zero_add];have oH:i<cs.size:=aa;simp only[Go.Sort.putCells,Array.getElem?_mapIdx,Array.getElem?_eq_getElem oH,Option.map_some];rw[if_pos aa];rfl
def OG (w:World)(blk n:Nat)(d:Array (Fin<|k+1))(os:Array Obj)(ay:Nat)(h0:ay<=blk)(h1:ay<=w):Below ay w (sortWorld (sI k) w blk 0 n d os):=
 ⟨rfl,rfl,rfl,Rw w blk n d os,λj hj=>OH w blk n d os j aa aa⟩
def Mo (f:Nat->Mv)(d':Array (Fin<|k+1))(hp:Go.Sort.PermIn 0 (k+1) (Array.ofFn λi:Fin (k+1)=>i) d')(hs:Go.Sort.SortedIn (ltOf λa b:Fin (k+1)=>K9 f a b) 0 (k+1) d'):
  d'.size=k+1/\dt f (k+1) (λi=>(d'[i]!:Nat)):=by
 let⟨jQ,_,Sx⟩:=hp;have rE:d'.size=k+1:=by rw[jQ];simp
 refine⟨rE,λi _=>(d'[i]!).2,?_⟩;have hn:d'.toList.Nodup:=by
  have ex:∀(d:Array (Fin<|k+1)) (m:Nat),m=d.size->d.extract 0 m=d:=λd m e=>by subst e;simp
  rw[ex d' _ rE.symm,ex _ (k+1) aF]at Sx;refine Sx.nodup_iff.mpr ?_;rw[List.Nodup,List.pairwise_iff_getElem];intro i j hi hj lH e;rw[Array.getElem_toList,Array.getElem_toList,Array.getElem_ofFn,Array.getElem_ofFn]at e;have:=congrArg Fin.val e;simp only at this;omega
 intro i j lH hj;have h1:=(sU f _ _).mp<|hs i j (ada _) lH hj;have hne:d'[i]!≠d'[j]!:=by
  rw[getElem!_pos d' i aa,getElem!_pos d' j aa];intro e;have:=(List.pairwise_iff_getElem.mp hn) i j cU cU lH;exact this<|by simpa using e
 rcases nA.tri f (d'[i]!:Nat) (d'[j]!:Nat)with b|b|b
 .exact b
 .exact absurd (Fin.ext b) hne
 .exact absurd b h1
def GO:Tz.prog.underlying 183=some (.slice 3):=bD
def GY (n:Nat)(hn:n<=1048576)(w:World):
  (Instr.makeSlice 183 (.int .i64 (n:Int)) (.int .i64 (n:Int))).run Tz.prog w=.ok (.slice w.heap.size n n) (w.alloc<|.cells (madeCells #[(0:Int)] n) 3):=by
 have hi:=nf;cases hI:Tz.prog.info? 3 with
 |none=>rw[hI]at hi;simp at hi
 |some i=>
  rw[hI]at hi;simp only[Option.map_some,Option.some.injEq,Prod.mk.injEq]at hi;let⟨h6,XS,hz⟩:=hi;have:=run_make (P:=Tz.prog) w 183 3 i _ GO hI hz .i64 .i64 n n aa aa (by rw[XS];omega) aa;rw[h6]at this;simpa[Value.cells]using this
def KZ (n:Nat)(w:World)(hn:n<=1048576):
  Calls Tz.prog 146 #[.int .i64 (n:Int)] w λe w'=>e=.returned (.slice w.heap.size n n)/\aC w' w.heap.size n (λi=>(i:Int))/\Below w w w':=by
 have O6:=GY n hn;go_enter Tz.func146,Tryz.ntmps146
 go_wp2;go_loopw [9] (λi w'=>∃k:Nat,k<=n/\i=.int .i64 k/\aC w' w.heap.size n (λi=>if i<k then(i:Int)else 0)/\Below w w w') (λi _=>n-(intOf i).toNat)
 case atStart=>exact⟨0,ada _,rfl,(ng w n).congr λi hi=>aF,(acW _ _).alloc (ac5 _) _⟩
 case round=>
  obtain⟨k,hk,rfl,bc,hB⟩:=hrel;by_cases aB:k<n
  .have dr:(k:Int)<n:=by omega
   have hd:=bc.cellAt k aB;have IC:=bc.frozen k;go_wp2;go_roundw
   case rel=>exact⟨k+1,aa,by go_num,(bc.set k aB (k:Int)).congr (λi hi=>by
    by_cases e:i=k
    .subst e;simp
    .simp only[if_neg e];by_cases h:i<k
     .rw[if_pos h,if_pos aa]
     .rw[if_neg h,if_neg aa]),hB.setCell aF _⟩
   case measure=>exact cI
  .go_wp2;go_ret;exact⟨rfl,bc.congr λi hi=>by rw[if_pos aa],hB⟩
def Dy (v:Value)(h1:v.oneCell'=true)(a:Option Addr)(n cap:Nat)(hv:v=.slice a n cap)(w:World):
  Calls Tz.prog 197 #[v] w λe w'=>e=.returned (.func (.func 233) #[] #[.pointer w.heap.size])/\w'=w.alloc (.cells #[v] 23):=by
 subst hv;go_enter Tz.func197,Tryz.ntmps197
 go_wp2;go_ret;exact⟨rfl,rfl⟩
def zQ (f:Nat->Mv)(n:Nat)(w:World)(e:Ending)(w':World):Prop:=
 ∃(g:Nat->Nat) (B cap:Nat),dt f n g/\w.heap.size<=B/\e=.returned (.slice B n cap)/\aC w' B n (λi=>((g i:Nat):Int))
def we (f:Nat->Mv)(n:Nat)(w:World)(e:Ending)(w':World):Prop:=
 ∃(g:Nat->Nat) (B:Nat),dt f n g/\w.heap.size<=B/\e=.returned (.slice B n n)/\aC w' B n (λi=>((g i:Nat):Int))
def we.says {f:Nat->Mv}{e:Ending}(h:we f n w e w'):zQ f n w e w':=by let⟨g,B,h1,h2,h3,h4⟩:=h;exact⟨g,B,n,h1,h2,h3,h4⟩
def KL (a:Option Addr)(cap:Nat)(fv:Value)(w:World):
  Calls Tz.prog 147 #[.slice a 0 cap,fv] w λe w'=>e=.returned (.tuple #[])/\w'=w:=by
 have hp:=AnyF.pdqsortCmpFunc_none (P:=Tz.prog) (ρ:=Tz.td) {Tz.QW with} a cap (Lib.bitLen 0:Nat) fv w;change Calls Tz.prog 172 _ _ _ at hp;have hl:Calls Tz.prog 173 #[.int .u64 0] w λe w'=>e=.returned (.int .i64 (Lib.bitLen 0:Nat))/\w'=w:=
  Any.bits_Len (SlLaysF0.n15.bits (P:=Tz.prog) (ρ:=Tz.td) {Tz.QW with}) 0 w aa aa
 go_enter Tz.func147,Tryz.ntmps147
 go_wp2_with(first|(go_at_call 173;refine hl.mono ?_;rintro e w' ⟨rfl,rfl⟩)|(go_at_call 172;refine hp.mono ?_;rintro e w' ⟨rfl,rfl⟩))
 go_end0
 exact⟨rfl,rfl⟩
def zj (b off n cap:Nat)(f:Nat->Mv)(w:World)(hn:n<=1048576)(bH:b<w)(aq:aI w b off n f):
  Calls Tz.prog 162 #[.slice (some ⟨b,off,none⟩) n cap] w λe w'=>we f n w e w'/\Below w w w':=by
 have H1:=KZ n w hn;have H2:=λW=>Dy (.slice (some ⟨b,off,none⟩) n cap) rfl (some ⟨b,off,none⟩) n cap rfl W
 cases n with
 |zero=>
  go_enter Tz.func162,Tryz.ntmps162
  go_wp2_with(first|(go_at_call 146;refine H1.mono ?_;clear H1;rintro e w1 ⟨rfl,o1,b1⟩)|(go_at_call 197;refine(H2 _).mono ?_;clear H2;rintro e w2 ⟨rfl,rfl⟩)|(go_at_call 147;refine(KL _ _ _ _).mono ?_;rintro e w3 ⟨rfl,rfl⟩))
  go_ret;exact⟨⟨λi=>i,w.heap.size,⟨λi hi=>absurd hi<|ac9 _,λi j _ hj=>absurd hj<|ac9 _⟩,ac5 _,rfl,(o1.below ((acW _ w1).alloc (ac5 _) _) o1.lt).congr λi hi=>absurd hi<|ac9 _⟩,b1.alloc b1.size _⟩
 |succ k=>
  go_enter Tz.func162,Tryz.ntmps162
  go_wp2_with(first|(go_at_call 146;refine H1.mono ?_;clear H1;rintro e w1 ⟨rfl,o1,b1⟩)|(go_at_call 197;refine(H2 _).mono ?_;clear H2;rintro e w2 ⟨rfl,rfl⟩;have bA:Below w1.heap.size w1 (w1.alloc<|.cells #[.slice (some ⟨b,off,none⟩) (k+1) cap] 23):=(acW _ _).alloc (ac5 _) _;have o2:=o1.below bA o1.lt;have bb:=b1.trans<|bA.mono b1.size;have H3:=Oi k f w1.heap.size b off cap w.heap.size (k+1) _ hn (by have:=o1.lt;omega) aa (ac6 bH bb.size) aF (aq.below bb bH) o2)|(go_at_call 147;refine H3.mono ?_;clear H3;rintro e w3 ⟨rfl,d',q,os,hp,hs,rfl⟩))
  go_ret;let⟨jQ,Gw⟩:=Mo f d' hp hs;exact⟨⟨_,w.heap.size,Gw,ac5 _,rfl,Rv _ _ _ _ _ _ jQ o2⟩,bb.trans<|OG _ _ _ _ _ _ (ac5 _) bb.size⟩
def zk (b off n cap:Nat)(f:Nat->Mv)(w:World)(hn:n<=1048576)(bH:b<w)(aq:aI w b off n f):
  Calls Tz.prog 162 #[.slice (some ⟨b,off,none⟩) n cap] w λe w'=>zQ f n w e w'/\Below w w w':=
 (zj b off n cap f w hn bH aq).mono λe w' h=>⟨h.1.says,h.2⟩
def sQ (m:Mv)(w:World):
  Calls Tz.prog 131 #[.agg #[m.name,m.aj,m.ap,m.aW,m.late,m.prom]] w λe w'=>e=.returned m.key/\Below w w w':=Qz m w
def Nu (f:Nat->Mv)(x i:Nat)(h:x<i):
  (nA f x i/\(f x).key<(f i).key)\/(nA f x i/\decide ((f x).key<(f i).key)=false/\((f x).key==(f i).key)=true/\(bU (f x).name (f i).name||bX (f x).name (f i).name)=true)
  \/(¬nA f x i/\decide ((f x).key<(f i).key)=false/\((f x).key==(f i).key)=false)\/(¬nA f x i/\decide ((f x).key<(f i).key)=false/\((f x).key==(f i).key)=true/\(bU (f x).name (f i).name||bX (f x).name (f i).name)=false):=by
 rw[JD h];by_cases h1:(f x).key<(f i).key
 .exact .inl ⟨.inl h1,h1⟩
 .by_cases h2:(f x).key=(f i).key
  .cases h3:(bU (f x).name (f i).name||bX (f x).name (f i).name)with
   |true=>exact .inr (.inl ⟨.inr ⟨h2,rfl⟩,by simpa using h1,by simpa using h2,rfl⟩)
   |false=>exact .inr<|.inr<|.inr ⟨λhh=>hh.elim h1 λ⟨_,c⟩=>Bool.noConfusion c,by simpa using h1,by simpa using h2,rfl⟩
  .exact .inr (.inr<|.inl ⟨λhh=>hh.elim h1 λ⟨c,_⟩=>h2 c,by simpa using h1,by simpa using h2⟩)
def qT (b off n cap:Nat)(f:Nat->Mv)(w:World)(hn:n<=1048576)(bH:b<w)(aq:aI w b off n f):
  Calls Tz.prog 101 #[.slice (some ⟨b,off,none⟩) n cap] w λe w'=>(∃(g:Nat->Nat) (B c:Nat),dt f n g/\e=.returned (.slice B n c)/\B<w'.heap.size/\aA w' B 0 n (λi=>((g i:Nat):Int)))/\Below w w w':=by
 go_enter Tz.func101,Tryz.ntmps101
 go_wp2;go_loopw [3,4] (λv x wr=>∃(i:Nat) (g:Nat->Nat) (B c:Nat),i<=n/\x=.int .i64 i/\v=.slice (some ⟨B,0,none⟩) i c/\dt f i g/\wr.ownsRow w.heap.size 3 1 (.slice (some ⟨B,0,none⟩) i c) i (cm g i)/\Below w.heap.size w wr) (λ_ x _=>n-(intOf x).toNat)
 case atStart=>exact⟨0,id,w.heap.size,0,ada _,rfl,rfl,Cr f _,nl (ac5 _)<|heap_alloc_new _ _,(acW _ _).alloc (ac5 _) _⟩
 case round=>
  obtain⟨i,g,B,c,hi,rfl,rfl,hf,bc,hB⟩:=hrel;by_cases aB:i<n
  .have dr:(i:Int)<n:=by omega
   go_wp2;go_loopw [5] (λy wr=>∃k:Nat,k<=i/\y=.int .i64 k/\(∀j,j<k->nA f (g j) i)/\wr.ownsRow w.heap.size 3 1 (.slice B i c) i (cm g i)/\Below w w wr) (λy _=>i-(intOf y).toNat)
   case atStart=>exact⟨0,ada _,rfl,λj hj=>absurd hj<|ac9 _,bc,hB⟩
   case round=>
    clear bc hB;obtain⟨k,hk,rfl,MG,bc,hB⟩:=hrel;let⟨Gm,hic⟩:=xV bc;have hcell:∀j,j<i->wr.cell? ⟨B,j,none⟩=some (.int .i64 ((g j:Nat):Int)):=λj hj=>by rw[bc.cellAt j aa];exact gU hj
    have hne:=aG wr;by_cases hlk:k<i;case' pos=>
     have ack:(k:Int)<i:=aa;have YE:=hf.low k hlk;have hgn:((g k:Nat):Int)<n:=aa;have Kc:=aq.below hB bH i aB;have WH:=aq.below hB bH (g k) aa;have x0:=λx:ai wr=>x.cell<|hcell k hlk
     have a0:=λx:ai wr=>x.cell Kc.c0
     have a1:=λx:ai wr=>x.cell Kc.c1
     have a2:=λx:ai wr=>x.cell Kc.c2
     have a3:=λx:ai wr=>x.cell Kc.c3
     have a4:=λx:ai wr=>x.cell Kc.c4
     have a5:=λx:ai wr=>x.cell Kc.c5
     have b0:=λx:ai wr=>x.cell WH.c0
     have b1:=λx:ai wr=>x.cell WH.c1
     have b2:=λx:ai wr=>x.cell WH.c2
     have b3:=λx:ai wr=>x.cell WH.c3
     have b4:=λx:ai wr=>x.cell WH.c4
     have b5:=λx:ai wr=>x.cell WH.c5
     rcases Nu f (g k) i YE with⟨dw,h1⟩|⟨dw,h1,h2,h3⟩|⟨dw,h1,h2⟩|⟨dw,h1,h2,h3⟩;case' inl=>
      have HB:Hid (nA f (g k) i):=dw;clear dw;go_wp2;refine aS ?_;repeat(go_big_quiet_step ((go_at_call 131;exact bT<|sQ _ _)))
      refine wpQuiet_nil<|cf ?_;intro w1 bP;go_wp2;go_roundw
      case rel=>exact⟨k+1,aa,by go_num,λj hj=>by
       by_cases e:j=k
       .subst e;exact HB.out
       .exact MG j aa,t9 bc bP,hB.trans (bP.mono hB.size)⟩
      case measure=>exact cI
     case' inr.inl=>
      have HB:Hid (nA f (g k) i):=dw;have H1:Hid (decide ((f<|g k).key<(f i).key)=false):=h1;have H2:Hid (((f<|g k).key==(f i).key)=true):=h2;unfold bU bX at h3;have H3:Hid ((Op.bytesLess (f<|g k).name.toList (f i).name.toList||(f<|g k).name.toList==(f i).name.toList)=true):=h3;clear dw h1 h2 h3;go_wp2;have h1:=H1.out;have h2:=H2.out;have h3:=H3.out;refine aS ?_;repeat(go_big_quiet_step ((go_at_call 131;exact bT<|sQ _ _)))
      refine wpQuiet_nil<|cf ?_;intro w1 bP;go_wp2;go_roundw
      case rel=>exact⟨k+1,aa,by go_num,λj hj=>by
       by_cases e:j=k
       .subst e;exact HB.out
       .exact MG j aa,t9 bc bP,hB.trans (bP.mono hB.size)⟩
      case measure=>exact cI
     case' inr.inr.inl=>
      have H1:Hid (decide ((f<|g k).key<(f i).key)=false):=h1;have H2:Hid (((f<|g k).key==(f i).key)=false):=h2;have HF:Hid (dt f (i+1)<|oB g k i):=ma hf hk MG λ_=>dw;clear dw h1 h2;go_wp2;have h1:=H1.out;have h2:=H2.out;refine aS ?_;repeat(go_big_quiet_step ((go_at_call 131;exact bT<|sQ _ _)))
      refine wpQuiet_nil<|cf ?_;intro w1 bP;clear x0 a0 a1 a2 a3 a4 a5 b0 b1 b2 b3 b4 b5 hne
     case' inr.inr.inr=>
      have H1:Hid (decide ((f<|g k).key<(f i).key)=false):=h1;have H2:Hid (((f<|g k).key==(f i).key)=true):=h2;unfold bU bX at h3;have H3:Hid ((Op.bytesLess (f<|g k).name.toList (f i).name.toList||(f<|g k).name.toList==(f i).name.toList)=false):=h3;have HF:Hid (dt f (i+1)<|oB g k i):=ma hf hk MG λ_=>dw;clear dw h1 h2 h3;go_wp2;have h1:=H1.out;have h2:=H2.out;have h3:=H3.out;refine aS ?_;repeat(go_big_quiet_step ((go_at_call 131;exact bT<|sQ _ _)))
      refine wpQuiet_nil<|cf ?_;intro w1 bP;clear x0 a0 a1 a2 a3 a4 a5 b0 b1 b2 b3 b4 b5 hne
    case' neg=>
     have HF:Hid (dt f (i+1)<|oB g k i):=ma hf hk MG λh=>absurd h hlk;have Z1:Hid (decide (k<i)=false):=by
      have h:decide (k<i)=false:=by simpa using hlk
      exact h
     go_wp2;have z1:=Z1.out;refine aS ?_;repeat(go_big_quiet_step ((go_at_call 131;exact bT<|sQ _ _)))
     refine wpQuiet_nil<|cf ?_;intro w1 bP;clear hne
    all_goals
     have fN:=t9 bc bP;have nQ:Below w w w1:=hB.trans<|bP.mono hB.size;clear bc hB bP;go_wp2;obtain⟨i0,hI,gj,eO,gM⟩:∃i0,Tz.prog.info? 3=some i0/\i0.zero=some (.int .i64 0)/\i0.size=1/\i0.bytes=8:=by
      have h:=nf;cases hI:Tz.prog.info? 3 with
      |none=>rw[hI]at h;simp at h
      |some i0=>rw[hI]at h;simp only[Option.map_some,Option.some.injEq,Prod.mk.injEq]at h;exact⟨i0,rfl,h.2.2,h.1,h.2.1⟩
     let⟨XV,aca⟩:=xV fN;have YJ:(k:Int)<=c:=aa;have MK:∀{W':World},Below w1 w1 W'->∀j,j<i->W'.cell? ⟨B,j,none⟩=some (.int .i64 ((g j:Nat):Int)):=λdw j hj=>(dw.cell (p:=⟨B,j,none⟩) XV).trans (by rw[fN.cellAt j aa];exact gU hj)
     have F7:∀{W':World},Below w1 w1 W'->∀j u,(cm g k)[j]?=some u->W'.cell? ((B:Addr).add j)=some u:=λdw j u hu=>by
      have hj:j<k:=by rcases ade j k with h|h;exact h;rw[adg (by rw[eu];exact h)]at hu;cases hu
      rw[gU hj]at hu;rw[pv,Nat.zero_add,MK dw j aa];exact hu
     have TF:∀{W':World},Below w1 w1 W'->∀j u,(cm (λj=>g<|k+j)<|i-k)[j]?=some u->W'.cell? ((⟨B,if c=k then 0 else k,none⟩:Addr).add j)=some u:=λdw j u hu=>by
      have hj:j<i-k:=by rcases ade j (i-k)with h|h;exact h;rw[adg (by rw[eu];exact h)]at hu;cases hu
      rw[gU hj]at hu;rw[if_neg aa,pv,MK dw (k+j) aa];exact hu
     have QN:∀(g:Nat->Nat) (k:Nat),∀u∈cm g k,u.oneCell'=true:=λg k u hu=>by unfold cm at hu;simp at hu;obtain⟨_,_,rfl⟩:=hu;rfl
     have La:(w1.alloc<|.cells #[] 3).heap[w1.heap.size]?=some (.cells #[] 3 (0,0)):=heap_alloc_new _ _;have XT:((w1.alloc<|.cells #[] 3).alloc<|.cells #[.int .i64 (i:Int)] 3).heap[w1.heap.size]?=some (.cells #[] 3 (0,0)):=(acX _ _ _ aF).trans La;have T8:((w1.alloc<|.cells #[.int .i64 (i:Int)] 3).alloc<|.cells #[] 3).heap[w1.heap.size+1]?=some (.cells #[] 3 (0,0)):=by have:=heap_alloc_new (w1.alloc<|.cells #[.int .i64 (i:Int)] 3)<|.cells #[] 3;simpa using this
     have B_:Below w1 w1 (w1.alloc<|.cells #[] 3).drew:=((acW _ w1).alloc (ac5 _) _).drew;have C':Below w1 w1 ((w1.alloc<|.cells #[] 3).alloc<|.cells #[.int .i64 (i:Int)] 3).drew:=(((acW _ w1).alloc (ac5 _) _).alloc aF _).drew;have C_:Below w1 w1 ((w1.alloc<|.cells #[.int .i64 (i:Int)] 3).alloc<|.cells #[] 3).drew:=(((acW _ w1).alloc (ac5 _) _).alloc aF _).drew;have hD2:((w1.alloc<|.cells #[] 3).alloc<|.cells #[.int .i64 (i:Int)] 3).heap[w1.heap.size+1]?=some (.cells #[.int .i64 (i:Int)] 3 (0,0)):=by have:=heap_alloc_new (w1.alloc<|.cells #[] 3)<|.cells #[.int .i64 (i:Int)] 3;simpa using this
     have M_:((w1.alloc<|.cells #[.int .i64 (i:Int)] 3).alloc<|.cells #[] 3).heap[w1.heap.size]?=some (.cells #[.int .i64 (i:Int)] 3 (0,0)):=(acX _ _ _ aF).trans<|heap_alloc_new _ _;go_region_law (first
      |(refine eh rfl (.tmp 67) (.tmp 70) 27 rfl 3 i0 (.int .i64 0) 1 8 (Tz.aR Tryz.underlying27) hI gj eO gM rfl bF w1.heap.size (.slice (some ⟨_,0,none⟩) 0 0) 0 [] cj (nl aF La) ⟨B,0,none⟩ k c (cm g k) cj (by rw[eu];omega) (F7 B_) (QN g k) jl aa B_.size ?_
        intro v2 w2 pU OZ;simp only[Nat.zero_add,List.nil_append]at pU;have B2:Below w1 w1 w2:=B_.grown OZ B_.size λq hq=>F2;skip
        clear OZ)
      |(refine eh rfl (.tmp 67) (.tmp 70) 27 rfl 3 i0 (.int .i64 0) 1 8 (Tz.aR Tryz.underlying27) hI gj eO gM rfl bF w1.heap.size (.slice (some ⟨_,0,none⟩) 0 0) 0 [] cj (nl aF XT) ⟨B,0,none⟩ k c (cm g k) cj (by rw[eu];omega) (F7 C') (QN g k) jl aa C'.size ?_
        intro v2 w2 pU OZ;simp only[Nat.zero_add,List.nil_append]at pU;have B2:Below w1 w1 w2:=C'.grown OZ C'.size λq hq=>F2;have d2:w2.heap[w1.heap.size+1]?=some (.cells #[.int .i64 (i:Int)] 3 (0,0)):=(OZ.block (w1.heap.size+1) aF F3).trans hD2;clear OZ)
      |(refine eh rfl (.tmp 67) (.tmp 70) 27 rfl 3 i0 (.int .i64 0) 1 8 (Tz.aR Tryz.underlying27) hI gj eO gM rfl bF w1.heap.size (.slice (some ⟨_,0,none⟩) 0 0) 0 [] cj (nl aF T8) ⟨B,0,none⟩ k c (cm g k) cj (by rw[eu];omega) (F7 C_) (QN g k) jl aa C_.size ?_
        intro v2 w2 pU OZ;simp only[Nat.zero_add,List.nil_append]at pU;have B2:Below w1 w1 w2:=C_.grown OZ C_.size λq hq=>F2;have d2:w2.heap[w1.heap.size]?=some (.cells #[.int .i64 (i:Int)] 3 (0,0)):=(OZ.block w1.heap.size cU F3).trans M_;clear OZ)
      |(refine eh rfl (.tmp 71) (.tmp 73) 27 rfl 3 i0 (.int .i64 0) 1 8 (Tz.aR Tryz.underlying27) hI gj eO gM rfl bF w1.heap.size v2 k (cm g k) cj pU ⟨_,0,none⟩ 1 1 [.int .i64 (i:Int)] cj rfl (jD d2) Bw jl aa B2.size ?_
        intro v3 w3 pV vH;have B3:Below w1 w1 w3:=B2.grown vH B2.size λq hq=>im pU q hq;clear vH B2 pU)
      |(refine eh rfl (.tmp 71) (.tmp 73) 27 rfl 3 i0 (.int .i64 0) 1 8 (Tz.aR Tryz.underlying27) hI gj eO gM rfl bF w1.heap.size v2 k (cm g k) cj (pU.alloc _) ⟨_,0,none⟩ 1 1 [.int .i64 (i:Int)] cj rfl (jD<|heap_alloc_new w2 _) Bw jl aa (B2.alloc B2.size _).size ?_
        intro v3 w3 pV vH;have B3:Below w1 w1 w3:=(B2.alloc B2.size _).grown vH (B2.alloc B2.size _).size λq hq=>im pU q hq;clear vH B2 pU)
      |(refine eh rfl (.tmp 74) (.tmp 77) 27 rfl 3 i0 (.int .i64 0) 1 8 (Tz.aR Tryz.underlying27) hI gj eO gM rfl bF w1.heap.size v3 (k+1) (cm g k++[.int .i64 (i:Int)]) cj pV ⟨B,if c=k then 0 else k,none⟩ (i-k) (c-k) (cm (λj=>g<|k+j)<|i-k) (by simp[Act.eval];split<;>rfl) (by rw[eu];omega) (TF B3) (QN _ _) jl aa B3.size ?_
        intro v4 w4 Vo gr4;rw[ON g i k hk,show k+1+(i-k)=i+1 by omega]at Vo;have B4:Below w1 w1 w4:=B3.grown gr4 B3.size λq hq=>im pV q hq;obtain⟨b4,c4,rfl⟩:=pW Vo;clear gr4 B3 pV))
     all_goals
      go_wp2;go_roundw
      case rel=>exact⟨i+1,oB g k i,b4,c4,aa,by go_num,rfl,HF.out,sZ Vo nQ.size,nQ.trans<|B4.mono nQ.size⟩
      case measure=>exact cI
  .go_wp2;go_ret;have iv:i=n:=aa;subst iv;let⟨Gm,hic⟩:=xV bc;exact⟨⟨g,B,c,hf,rfl,Gm,λj hj=>by rw[Nat.zero_add,bc.cellAt j aa];exact gU hj⟩,hB⟩
section
variable {W' w1 wr:World}{lo N F:Nat}{cm:List Value}{L:List (List Nat)}{fg:List Nat}{v:Value}
def sC (W:World)(n lo:Nat)(cm:List Value)(L:List (List Nat)):Prop:=
 ∀(i:Nat) (fg:List Nat),L[i]?=some fg->∃tb tc,cm[i]?=some (Value.slice (some ⟨tb,0,none⟩) n tc)/\lo<=tb/\(∃cs,W.heap[tb]?=some (.cells cs 3 (0,0)))/\aA W tb 0 n (λi=>((pl fg i:Nat):Int))
def ue {off:Nat}{g:Nat->Int}(h:aA W b off n g)(e:W'.heap[b]?=W.heap[b]?):aA W' b off n g:=λi hi=>by have:=h i hi;simp only[World.cell?,e]at this⊢;exact this
def sC.same (h:sC W n lo cm L)(e:∀b cs,lo<=b->W.heap[b]?=some (.cells cs 3 (0,0))->W'.heap[b]?=W.heap[b]?):sC W' n lo cm L:=λi fg hi=>by
 let⟨tb,tc,h1,h3,⟨cs,h4⟩,h5⟩:=h i fg hi;exact⟨tb,tc,h1,h3,⟨cs,(e tb cs h3 h4).trans h4⟩,ue h5<|e tb cs h3 h4⟩
def sC.snoc {C:Nat}(h:sC W n lo cm L)(hl:cm.length=L.length)(h3:lo<=C)(h4:∃cs,W.heap[C]?=some (.cells cs 3 (0,0)))(h5:aA W C 0 n (λi=>((pl fg i:Nat):Int))):
  sC W n lo (cm++[.slice C n c]) (L++[fg]):=λi l hi=>by
 by_cases aB:i<L.length
 .rw[adh aB]at hi;let⟨tb,tc,g1,g2⟩:=h i l hi;exact⟨tb,tc,by rw[adh aa];exact g1,g2⟩
 .rw[adi aa]at hi;have Lj:i-L.length=0:=by
   have:=(adf.1 hi).1;simp at this;omega
  rw[Lj]at hi;simp at hi;subst hi;exact⟨C,c,by rw[adi aa,hl,Lj];rfl,h3,h4,h5⟩
def xF (l:List Nat):List Value:=l.map λ(p:Nat)=>Value.int .i64 (p:Int)
structure uw (w w1 wr:World)(n:Nat)(v:Value)(L:List (List Nat)):Prop where
 ex:∃cm,wr.ownsRow w.heap.size 27 1 v L.length cm/\sC wr n w.heap.size cm L
 own:∀r,v.ownBlock=some r->r=w.heap.size\/w1.heap.size<=r
 but:fH w.heap.size w1 wr
 K8:Below w w wr
def uw.later {wr':World}(h:uw w w1 wr n v L)(hb:Below wr wr wr'):uw w w1 wr' n v L:=by
 let⟨cm,h1,h2⟩:=h.ex;refine⟨⟨cm,?_,h2.same λb cs _ hc=>hb.block b (ac7.1 hc).1⟩,h.own,h.but.trans<|fH.of hb,h.K8.trans<|hb.mono h.K8.size⟩;obtain⟨g1,g2|⟨g,cap,cur,rfl,g3,g4,g5⟩⟩:=h1
 .exact⟨g1,.inl g2⟩
 .exact⟨g1,.inr ⟨g,cap,cur,rfl,g3,(hb.block g (ac7.1 g4).1).trans g4,g5⟩⟩
def Kk:∃i0,Tz.prog.info? 3=some i0/\i0.zero=some (.int .i64 0)/\i0.size=1/\i0.bytes=8:=by
 have h:=nf;cases hI:Tz.prog.info? 3 with
 |none=>rw[hI]at h;simp at h
 |some i0=>rw[hI]at h;simp only[Option.map_some,Option.some.injEq,Prod.mk.injEq]at h;exact⟨i0,rfl,h.2.2,h.1,h.2.1⟩
def GK:∃i0,Tz.prog.info? 27=some i0/\i0.zero=some (.slice none 0 0)/\i0.size=1/\i0.bytes=24:=by
 have h:(Tz.prog.info? 27).map (λi=>(i.size,i.bytes,i.zero))=some (1,24,some<|.slice none 0 0):=bD;cases hI:Tz.prog.info? 27 with
 |none=>rw[hI]at h;simp at h
 |some i0=>rw[hI]at h;simp only[Option.map_some,Option.some.injEq,Prod.mk.injEq]at h;exact⟨i0,rfl,h.2.2,h.1,h.2.1⟩
def GM:Tz.prog.underlying 141=some (.slice 27):=bD
def xD:Tz.prog.underlying 27=some (.slice 3):=bD
def oD (N F:Nat):List (List Nat):=(List.range F).flatMap λx=>(aQ N).map λl=>x::l.map (lE x)
def wq (N F:Nat):oD N (F+1)=oD N F++(aQ N).map λl=>F::l.map (lE F):=by simp[oD,List.range_succ,List.flatMap_append]
def zX (h:(aQ N).length<=720):∀F,(oD N F).length<=F*720
 |0=>by simp[oD]
 |F+1=>by
  have:=zX h F;rw[wq,List.length_append,List.length_map];omega
def OI {I:Nat}{l:List Nat}(h:(aQ N)[I]?=some l):((aQ N).take<|I+1).map (λl=>F::l.map (lE F))=((aQ N).take I).map (λl=>F::l.map (lE F))++[F::l.map (lE F)]:=by
 rw[List.take_add_one,h];simp
def abr {WI w3:World}{G gc og oc:Nat}{o:Obj}{A:List (List Nat)}{X:List (List Nat)}(hO:uw w w1 wr (N+1) v A)(q1:wr.ownsRow w.heap.size 27 1 v A.length cm)(q2:sC wr (N+1) w.heap.size cm A)
  (hB:Below WI WI wr)(hX:X=A++[F::fg.map (lE F)])(bc:wr.ownsRow WI.heap.size 3 1 (.slice G (N+1) gc) (N+1) (xF<|F::fg.map (lE F)))(hG:WI.heap.size<=G)(hwI:w.heap.size<=WI)(FE:w.heap.size<=w1)
  (pV:w3.ownsRow w.heap.size 27 1 (.slice og (A.length+1) oc) (A.length+1) (cm++[.slice G (N+1) gc]))(vH:(wr.alloc o).grownBy w3 v.ownBlock)(Y1:v.ownBlock=some og\/og=(wr.alloc o).heap.size):
  uw w w1 w3 (N+1) (.slice og (A.length+1) oc) X:=by
 subst hX;have eO:=hO.but.size;have gM:=hO.K8.size;have hblk:∀b,b<wr.heap.size->some b≠v.ownBlock->w3.heap[b]?=wr.heap[b]?:=λb hb hne=>(vH.block b cU hne).trans<|acX _ _ _ hb
 have hnr:∀b cs,wr.heap[b]?=some (.cells cs 3 (0,0))->some b≠v.ownBlock:=λb cs hc e'=>by
  rcases q1.2 with⟨rfl,_⟩|⟨g,cap,cur,rfl,_,YC,_⟩
  .simp[Value.ownBlock]at e'
  .obtain rfl:b=g:=by simpa[Value.ownBlock]using e'
   rw[hc]at YC;simp at YC
 have hint:∀b cs,w.heap.size<=b->wr.heap[b]?=some (.cells cs 3 (0,0))->w3.heap[b]?=wr.heap[b]?:=λb cs _ hc=>hblk b (ac7.1 hc).1<|hnr b cs hc
 obtain⟨cs,hcs,hcell⟩:∃cs,wr.heap[G]?=some (.cells cs 3 (0,0))/\aA wr G 0 (N+1) (λi=>((pl (F::fg.map (lE F)) i:Nat):Int)):=by
  have hc:=bc;rcases bc.2 with⟨h,_⟩|⟨g,cap,cur,h1,h2,h3,h4⟩
  .cases h
  .obtain⟨rfl,rfl⟩:G=g/\gc=cap:=by simpa using h1
   refine⟨cur,h3,λi hi=>?_⟩;rw[Nat.zero_add,hc.cellAt i aa];have hl:=hc.1;simp only[xF,List.length_map,Nat.mul_one]at hl;simp only[xF,List.getElem?_map,pl,List.getD];rw[adr aa];rfl
 have UY:cm.length=A.length:=by have:=q1.1;omega
 refine⟨⟨cm++[.slice G (N+1) gc],by rw[List.length_append];exact pV,?_⟩,λr hr=>?_,⟨?_,λb hb hne=>?_⟩,⟨vH.os.trans hO.K8.os,vH.tape.trans hO.K8.tape,vH.output.trans hO.K8.output,?_,λb hb=>?_⟩⟩
 .exact(q2.same hint).snoc UY aa ⟨cs,(hint G cs aa hcs).trans hcs⟩ (ue hcell<|hint G cs aa hcs)
 .obtain rfl:og=r:=by simpa[Value.ownBlock]using hr
  rcases Y1 with h|h
  .exact hO.own _ h
  .right;rw[h];simp;omega
 .have:=vH.size;simp at this;omega
 .refine(hblk b aa λe=>?_).trans (hO.but.block b hb hne);rcases hO.own b e.symm with h|h<;>omega
 .have:=vH.size;simp at this;omega
 .refine(hblk b aa λe=>?_).trans (hO.K8.block b hb);rcases hO.own b e.symm with h|h<;>omega
def AA:∀(n:Nat) (w:World),n<=6->
  Calls Tz.prog 102 #[.int .i64 (n:Int)] w λe w'=>(∃v cm,e=.returned v/\w'.ownsRow w.heap.size 27 1 v (aQ n).length cm/\sC w' n w.heap.size cm (aQ n))/\Below w w w'
 |0,w,_=>by
  go_enter Tz.func102,Tryz.ntmps102
  go_wp2;go_ret;have hA:=heap_alloc_new (w.alloc<|.cells #[] 3)<|.cells #[.slice w.heap.size 0 0] 27;have hB:((w.alloc<|.cells #[] 3).alloc<|.cells #[.slice w.heap.size 0 0] 27).heap[w.heap.size]?=some (.cells #[] 3 (0,0)):=(acX _ _ _ aF).trans<|heap_alloc_new w _;refine⟨⟨_,[.slice w.heap.size 0 0],rfl,⟨rfl,.inr ⟨w.heap.size+1,1,_,rfl,aa,by simpa using hA,bF,bF,rfl,rfl⟩⟩,λi fg hi=>?_⟩,((acW _ w).alloc (ac5 _) _).alloc aF _⟩;have h0:i=0:=by have:=(adf.1 hi).1;simp[aQ]at this;omega
  subst h0;exact⟨w.heap.size,0,rfl,ac5 _,⟨_,hB⟩,λi hi=>absurd hi<|ac9 _⟩
 |N+1,w,h6=>by
  have IH:=AA N (w.alloc<|.cells #[] 27) aa;let⟨Sc,hN0⟩:=jI N aa;have e0:(((N+1:Nat):Int)-1)=(N:Int):=aa;go_enter Tz.func102,Tryz.ntmps102
  have hle:¬((N:Int)+1<=0):=aa;have acj:(0:Int)<(N:Int)+1:=aa;have e1:((N:Int)+1-1)=(N:Int):=aa;go_wp2_with(go_at_call 102;(try rw[e1]);refine IH.mono ?_;rintro e w1 ⟨⟨vL,cm,rfl,rR,SU⟩,b1⟩;obtain⟨M,hM⟩:∃M,(aQ N).length=M+1:=⟨(aQ N).length-1,aa⟩;rw[hM]at rR;obtain⟨LB,Lc,rfl⟩:=pW rR)
  have hLB:w.heap.size+1<=LB:=by have:=im rR LB rfl;simpa using this
  have Uf:=(xV rR).1;have JW:Below w w (w.alloc<|.cells #[] 27):=(acW _ w).alloc (ac5 _) _;have eO:w.heap.size+1<=w1:=by have:=b1.size;simpa using this
  have Gn:Below w w w1:=JW.trans<|b1.mono aF;have hE1:w1.heap[w.heap.size]?=some (.cells #[] 27 (0,0)):=(b1.block w.heap.size aF).trans<|heap_alloc_new w _;have pF:∀(I:Nat) (fg:List Nat),(aQ N)[I]?=some fg->∃tb tc,w1.cell? ⟨LB,I,none⟩=some (.slice (some ⟨tb,0,none⟩) N tc)/\w.heap.size+1<=tb/\tb<w1.heap.size/\aA w1 tb 0 N (λi=>((pl fg i:Nat):Int)):=λI fg hI=>by
   let⟨tb,tc,h1,h2,⟨cs,h3⟩,h4⟩:=SU I fg hI;have aB:=(adf.1 hI).1;exact⟨tb,tc,by rw[rR.cellAt I aa];exact h1,by simpa using h2,(ac7.1 h3).1,h4⟩
  rw[<-hM]at rR;clear rR SU b1 IH JW;go_loopw [3,5] (λv x wr=>∃F:Nat,F<=N+1/\x=.int .i64 F/\uw w w1 wr (N+1) v (oD N F)) (λ_ x _=>N+1-(intOf x).toNat)
  case atStart=>exact⟨0,ada _,rfl,⟨[],nl (ac5 _) hE1,λi fg hi=>by simp[oD]at hi⟩,λr hr=>.inl<|by simpa[Value.ownBlock]using hr.symm,fH.refl _ _,Gn⟩
  case round=>
   obtain⟨F,hF,rfl,hO⟩:=hrel;by_cases aB:F<N+1
   .have dr:(F:Int)<(N:Int)+1:=by omega
    go_wp2;go_loopw [3,6] (λv x wr=>∃I:Nat,I<=(aQ N).length/\x=.int .i64 I/\uw w w1 wr (N+1) v (oD N F++((aQ N).take I).map λl=>F::l.map (lE F))) (λ_ x _=>(aQ N).length-(intOf x).toNat)
    case atStart=>exact⟨0,ada _,rfl,by simpa using hO⟩
    case round=>
     clear hO;obtain⟨I,hI,rfl,hO⟩:=hrel;by_cases hlI:I<(aQ N).length
     .obtain⟨fg,nU⟩:∃x,(aQ N)[I]?=some x:=⟨_,adr hlI⟩;have UI:(I:Int)<(M:Int)+1:=aa;let⟨tb,tc,kq,ht1,UW,nD⟩:=pF I fg nU;have hll:=(gI<|List.mem_of_getElem? nU).1;obtain⟨WI,hWI⟩:∃WI,wr=WI:=⟨_,rfl⟩;have Q_:uw w w1 WI (N+1) u3 (oD N F++((aQ N).take I).map λl=>F::l.map (lE F)):=hWI▸hO;have Y':∀W',Below WI WI W'->W'.cell? ⟨LB,I,none⟩=some (.slice tb N tc):=λW' hb=>by
       have h1:=(fH.trans Q_.but<|fH.of hb).block LB Uf aa;simp only[World.cell?,h1]at kq⊢;exact kq
      have hrW:∀W',Below WI WI W'->aA W' tb 0 N (λi=>((pl fg i:Nat):Int)):=λW' hb=>ue nD<|(fH.trans Q_.but<|fH.of hb).block tb UW aa
      rw[hWI];clear hO hWI;go_wp2;go_loopw [7,8] (λv x wr=>∃K:Nat,K<=N/\x=.int .i64 K/\wr.ownsRow WI.heap.size 3 1 v (K+1) (xF<|F::(fg.take K).map (lE F))/\Below WI WI wr) (λ_ x _=>N-(intOf x).toNat)
      case atStart=>exact⟨0,ada _,rfl,⟨rfl,.inr ⟨WI.heap.size,1,_,rfl,ac5 _,heap_alloc_new _ _,bF,bF,rfl,rfl⟩⟩,(acW _ _).alloc (ac5 _) _⟩
      case round=>
       obtain⟨K,hK,rfl,bc,hB⟩:=hrel;have hcK:=Y' wr hB;by_cases hlK:K<N
       .have ach:(K:Int)<N:=by omega
        have hrK:=hrW wr hB K hlK;simp only[Nat.zero_add]at hrK;let⟨i0,O_,gj,Qw,gM⟩:=Kk;have Kh:=hB.size;have IF:∀x:Nat,x=lE F (pl fg K)->xF (F::(fg.take K).map (lE F))++[.int .i64 (x:Int)]=xF (F::(fg.take<|K+1).map (lE F)):=λx hx=>by
         have hg:fg[K]?=some (pl fg K):=by simp[pl,List.getD,hll,hlK]
         rw[List.take_add_one,hg,hx];simp[xF]
        have hpb:((pl fg K:Nat):Int)<6:=by have:=(gI<|List.mem_of_getElem? nU).2.1 K hlK;omega
        by_cases tC:F<=pl fg K
        .have UC:((F:Int)<=((pl fg K:Nat):Int)):=by omega
         have HL:Hid _:=IF (pl fg K+1) (by unfold lE;rw[if_pos tC]);clear IF;go_wp2_with(refine wpList_append_own _ rfl (.tmp 52) (.tmp 54) 27 rfl WI.heap.size 3 i0 (.int .i64 0) 1 8 xD O_ gj Qw gM rfl bF _ (K+1) _ cj (bc.alloc _) _ 1 1 [.int .i64 ((pl fg K:Int)+1)] cj rfl (jD<|heap_alloc_new wr _) Bw jl aa cU ?_;intro v' w3 pV vH WB)
         have JX:Below WI WI w3:=(hB.alloc Kh _).grown vH cU λq hq=>im bc q hq;go_roundw
         case rel=>exact⟨K+1,aa,by go_num,by have:=HL.out;push_cast at this;rw[this]at pV;exact pV,JX⟩
         case measure=>exact cI
        .have UC:¬((F:Int)<=((pl fg K:Nat):Int)):=by omega
         have HL:Hid _:=IF (pl fg K) (by unfold lE;rw[if_neg tC]);clear IF;go_wp2_with(refine wpList_append_own _ rfl (.tmp 52) (.tmp 54) 27 rfl WI.heap.size 3 i0 (.int .i64 0) 1 8 xD O_ gj Qw gM rfl bF _ (K+1) _ cj (bc.alloc _) _ 1 1 [.int .i64 (pl fg K:Int)] cj rfl (jD<|heap_alloc_new wr _) Bw jl aa cU ?_;intro v' w3 pV vH WB)
         have JX:Below WI WI w3:=(hB.alloc Kh _).grown vH cU λq hq=>im bc q hq;go_roundw
         case rel=>exact⟨K+1,aa,by go_num,by rw[HL.out]at pV;exact pV,JX⟩
         case measure=>exact cI
       .obtain rfl:K=N:=by omega
        rw[List.take_of_length_le aa]at bc;obtain⟨G,gc,rfl⟩:=pW bc;have hO3:=Q_.later hB;let⟨cm,q1,q2⟩:=hO3.ex;let⟨i0,O_,gj,Qw,gM⟩:=GK;have Kh:=hB.size;have hzI:=Q_.K8.size;have hGI:WI.heap.size<=G:=im bc G rfl;have XZ:(oD K F++((aQ K).take I).map λl=>F::l.map (lE F)).length<=5040:=by
         have h1:(oD K F).length<=F*720:=zX Sc F;have h2:((aQ K).take I).length<=720:=cU;simp only[List.length_append,List.length_map];omega
        generalize hA:(oD K F++((aQ K).take I).map λl=>F::l.map (lE F))=A at hO3 q1 q2 XZ;go_wp2_with(refine wpList_append_lies _ rfl (.tmp 56) (.tmp 58) 141 rfl w.heap.size 27 i0 () 1 24 GM O_ gj Qw gM rfl bF _ _ _ cj (q1.alloc _) _ 1 1 [.slice G (K+1) gc] cj rfl (jD<|heap_alloc_new wr _) Bw bF jl aa cU _ rfl ?_;intro og oc w3 pV vH Y1 UM)
        go_roundw
        case rel=>exact⟨I+1,aa,by go_num,abr hO3 q1 q2 hB (by rw[<-hA,OI nU,List.append_assoc]) bc hGI hzI aa pV vH Y1⟩
        case measure=>exact cI
     .obtain rfl:I=(aQ N).length:=by omega
      have UI:¬(((aQ N).length:Nat):Int)<(M:Int)+1:=aa;go_wp2;go_roundw
      case rel=>exact⟨F+1,aa,by go_num,by rw[wq];simpa using hO⟩
      case measure=>exact cI
   .obtain rfl:F=N+1:=by omega
    have dr:¬((N+1:Nat):Int)<(N:Int)+1:=aa;go_wp2;go_ret;let⟨cm,o1,o2⟩:=hO.ex;refine⟨?_,hO.K8⟩;first|exact⟨_,cm,rfl,o1,o2⟩|exact⟨_,rfl,cm,o1,o2⟩
end
section
variable {base:Nat}{T:TypeId}{t:Nat->Int}
def Qy:IntKind.i64.min=-9223372036854775808:=bF
def Qx:IntKind.i64.max=9223372036854775807:=bF
def uL {T:Nat->Int}(h:aA w b 0 n T):∀(j:Nat) (u:Value),(dX T n)[j]?=some u->w.cell? ((b:Addr).add j)=some u:=λj u hu=>by
 have hj:j<n:=by rcases ade j n with h|h;exact h;rw[adg (by rw[eH];exact h)]at hu;cases hu
 rw[d9 hj]at hu;rw[show(b:Addr).add j=⟨b,0+j,none⟩ by unfold Addr.add;split<;>simp_all,h j hj];exact hu
def EA {B:Nat}(h:w.ownsRow base T 1 (.slice B n c) n (dX t n)):aA w B 0 n t:=λi hi=>by
 rw[Nat.zero_add,h.cellAt i aa];exact d9 hi
def aA.set (h:aA w b 0 n t)(hk:k<n)(x:Int):aA (w.setCell ⟨b,k,none⟩ x) b 0 n (λp=>if p=k then x else t p):=λi hi=>by
 rw[Nat.zero_add];by_cases e:i=k
 .subst e;have h1:=h i hi;rw[Nat.zero_add]at h1;simp only[if_true];exact World.cell?_setCell_same' _ _ _ (by rw[h1];rfl)
 .rw[World.cell?_setCell_other _ _ _ _ (by intro e';cases e';exact e rfl)];simp only[if_neg e];have h1:=h i hi;rw[Nat.zero_add]at h1;exact h1
def oL {x:Int}(h:-9223372036854775808<=x/\x<=9223372036854775807):(Lit.int .i64 x).wf=true:=by
 show(decide (IntKind.i64.min<=x)&&decide (x<=IntKind.i64.max))=true;rw[Qy,Qx];simpa using h
end
