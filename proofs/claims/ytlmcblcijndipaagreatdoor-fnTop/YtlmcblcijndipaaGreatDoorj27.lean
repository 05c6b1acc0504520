import Derived.Test.YtlmcblcijndipaaGreatDoorj22
import Derived.Test.YtlmcblcijndipaaGreatDoorj10
import Derived.Test.YtlmcblcijndipaaGreatDoorj24
import Derived.Test.YtlmcblcijndipaaGreatDoorj25
import Derived.Lib.QuietBelow
import Derived.Shelf.SlSortFunc.HeapSort
import Derived.Deep.AppendLies
set_option linter.defProp false
set_option linter.unusedVariables false
set_option maxHeartbeats 4000000
set_option maxRecDepth 10000
namespace Go.Proofs.YtlmcblcijndipaaGreatDoor
open RowKit Shelf
variable {b c n:Nat}{W w w':World}
section
variable {k:Nat}
def tm (f:Nat->Mv)(x y:Fin (k+1)):ltOf (λa b:Fin (k+1)=>LX f a b) x y=true<->nG f x y:=by
 unfold ltOf;rw[decide_eq_true_eq];exact QI f x y
def tq (f:Nat->Mv)(x y:Fin (k+1)):ltOf (λa b:Fin (k+1)=>LX f a b) x y=false<->¬nG f x y:=by
 rw[<-tm,Bool.not_eq_true]
def swo (f:Nat->Mv)(k:Nat):Go.Sort.SWO (ltOf λa b:Fin (k+1)=>LX f a b) where
 irrefl x:=(tq f x x).mpr<|nG.irrefl f x
 trans x y z h1 h2:=(tm f x z).mpr<|((tm f x y).mp h1).trans<|(tm f y z).mp h2
 ntrans x y z h1 h2:=(tq f x z).mpr (λh=>by
  have n1:=(tq f x y).mp h1;have n2:=(tq f y z).mp h2;rcases nG.tri f x y with b|b|b
  .exact n1 b
  .rw[b]at h;exact n2 h
  .exact n2 (b.trans h))
def Mh (h:Below W.heap.size W w')(hd:W.drawn<=w'.drawn):∃q Wy,w'=Go.Sort.grow (W.drewN q) Wy:=by
 let⟨p,hp⟩:=regrown_of_below h;refine⟨p.d-W.drawn,p.os,?_⟩;have e:w'.drawn=p.d:=by rw[hp];rfl
 rw[hp];unfold redrawn World.drewN;rw[show W.drawn+(p.d-W.drawn)=p.d by omega]
abbrev sS (k:Nat)(x:Fin (k+1)):Value:=.int .i64 ((x:Nat):Int)
def QK (k:Nat)(f:Nat->Mv)(bl b off cap blk:Nat)(w:World)(hk:k+1<=1048576)(pa:bl≠blk)(hb:b≠blk)(bz:b<w)
  (cl:w.cell? bl=some (.slice (some ⟨b,off,none⟩) (k+1) cap))(am:aJ w b off (k+1) f):
  CmpLays1 Tz.prog 233 #[.pointer bl] (sS k) (λa b=>LX f a b) blk 0 (k+1) w:=by
 intro m os dk _ x y;have hc:∀(bb o:Nat) (v:Value),bb≠blk->w.cell? ⟨bb,o,none⟩=some v->(sortWorld (sS k) w blk 0 m dk os).cell? ⟨bb,o,none⟩=some v:=λbb o v hne h=>
  (cell?_sortWorld_other (sS k) w blk 0 m dk os ⟨bb,o,none⟩ hne (block_lt_of_cell h)).trans h
 have hr:aJ (sortWorld (sS k) w blk 0 m dk os) b off (k+1) f:=λi hi=>by
  let⟨c0,c1,c2,c3,c4,c5⟩:=am i hi;exact⟨hc _ _ _ hb c0,hc _ _ _ hb c1,hc _ _ _ hb c2,hc _ _ _ hb c3,hc _ _ _ hb c4,hc _ _ _ hb c5⟩
 exact(Gr x y bl b off (k+1) cap f _ x.2 y.2 hk (hc _ _ _ pa cl) hr).mono λe w' ⟨he,h1,h2⟩=>⟨he,Mh h1 h2⟩
def O4 (k:Nat)(f:Nat->Mv)(bl b off cap blk cap':Nat)(w:World)(hk:k+1<=1048576)(pa:bl≠blk)(hb:b≠blk)(bz:b<w)
  (cl:w.cell? bl=some (.slice (some ⟨b,off,none⟩) (k+1) cap))(am:aJ w b off (k+1) f)(bc:aC w blk (k+1) (λi=>(i:Int))):
  Calls Tz.prog 147 #[.slice blk (k+1:Nat) cap',.func (.func 233) #[] #[.pointer bl]] w λe w'=>
   e=.returned (.tuple #[])/\∃(d':Array (Fin<|k+1)) (n:Nat) (os:Array Obj),Go.Sort.PermIn 0 (k+1) (Array.ofFn λi:Fin (k+1)=>i) d'/\Go.Sort.SortedIn (ltOf λa b:Fin (k+1)=>LX f a b) 0 (k+1) d'/\w'=sortWorld (sS k) w blk 0 n d' os:=by
 obtain⟨d,hd⟩:∃d:Array (Fin<|k+1),d=Array.ofFn (λi:Fin (k+1)=>i):=⟨_,rfl⟩;have Zg:d.size=k+1:=by rw[hd];simp
 have hblk:=bc.lt;have hH:Go.Sort.Holds (sS k) w blk 0 d:=λj hj=>by
  have hj':j<k+1:=ab;refine⟨?_,bc.frozen _⟩;have e:d[j]! =⟨j,hj'⟩:=by rw[getElem!_pos d j hj];simp[hd]
  rw[e,Nat.zero_add];exact bc.cellAt j hj'
 have hO:=swo f k;have eg:∀args w,(callFunc 233 args).run Tz.prog w=.ok (.enter 233 args) w:=enters_of Tz.func233 bj rfl;have Y8:CmpLays1 Tz.prog 233 #[.pointer bl] (sS k) (λa b=>LX f a b) blk 0 d.size w:=by rw[Zg];exact QK k f bl b off cap blk w hk pa hb bz cl am
 have aba:Lib.bitLen d.size<4611686018427387904:=adj (Lib.bitLen_le d.size 62 ab ab) ab;have hp:=Any.pdqsortCmpFunc_all Tz.R2 (sS k) (λa b=>LX f a b) 233 #[.pointer bl] hO blk 0 cap' d w eg Y8 ⟨λ_=>rfl,hH,hblk⟩ (d.size+1) 0 d.size (Lib.bitLen d.size) d w ab rfl (SW.start hH) (ac8 _) (ac3 _) ab aba<|Or.inl rfl;have hs:=Go.Sort.pdq_sorts (ltOf λa b:Fin (k+1)=>LX f a b) hO d 0 d.size (Lib.bitLen d.size) true true (ac8 _) (ac3 _)<|Or.inl rfl;change Calls Tz.prog 172 _ _ _ at hp;have hl:Calls Tz.prog 173 #[.int .u64 (d.size:Int)] w λe w'=>e=.returned (.int .i64 (Lib.bitLen d.size:Nat))/\w'=w:=by
  have h:=Any.bits_Len (SlLaysF0.n15.bits (P:=Tz.prog) (ρ:=Tz.tB) {Tz.R2 with}) (d.size:Int) w ab ab;rwa [Int.toNat_natCast]at h
 rw[Zg]at hp hl hs;have wr:IntKind.u64.wrap ((k+1:Nat):Int)=((k+1:Nat):Int):=by simp[IntKind.wrap,IntKind.bits,IntKind.signed];omega
 rw[<-hd];clear hH Y8 hd;go_enter Tz.func147,Tryz.ntmps147
 go_wp2_with(first|(go_at_call 173;refine hl.mono ?_;rintro e w' ⟨rfl,rfl⟩)|(go_at_call 172;refine hp.mono ?_;rintro e w' ⟨rfl,n,os,rfl⟩))
 go_end0
 exact⟨rfl,_,n,os,hs.1,hs.2,rfl⟩
def Pr (w:World)(blk n:Nat)(d:Array (Fin<|k+1))(os:Array Obj)(j:Nat)(hj:j<w)(hne:j≠blk):(sortWorld (sS k) w blk 0 n d os).heap[j]?=w.heap[j]?:=by
 unfold sortWorld;rw[Go.Sort.heap_grow_old _ _ (by simpa using hj)];unfold Go.Sort.putRow Go.Sort.mapBlock;simp[Array.getElem?_modify];intro h;exact absurd h.symm hne
def Xb (w:World)(blk n:Nat)(d:Array (Fin<|k+1))(os:Array Obj)(cs:Array Value)(T:TypeId)(h:w.heap[blk]?=some (.cells cs T (0,0))):
  (sortWorld (sS k) w blk 0 n d os).heap[blk]?=some (.cells (Go.Sort.putCells (sS k) 0 d cs) T (0,0)):=by
 have ay:blk<w:=(ac5.1 h).1;unfold sortWorld;rw[Go.Sort.heap_grow_old _ _ (by simpa using ay)];unfold Go.Sort.putRow Go.Sort.mapBlock;simp[Array.getElem?_modify,h,Go.Sort.onCells]
def Sx (w:World)(blk n:Nat)(d:Array (Fin<|k+1))(os:Array Obj):w.heap.size<=(sortWorld (sS k) w blk 0 n d os).heap.size:=by
 unfold sortWorld;simp
def Sw (w:World)(blk n:Nat)(d:Array (Fin<|k+1))(os:Array Obj)(g:Nat->Int)(hd:d.size=k+1)(h:aC w blk (k+1) g):
  aC (sortWorld (sS k) w blk 0 n d os) blk (k+1) (λi=>((d[i]!:Nat):Int)):=by
 let⟨⟨cs,h1,h2⟩,_⟩:=h;have pn:=Xb w blk n d os cs _ h1;refine⟨⟨_,pn,by simp[Go.Sort.putCells,h2]⟩,λi hi=>?_⟩;rw[cell_of_row _ _ _ _ _ _ pn,Nat.zero_add];have nJ:i<cs.size:=ab;simp only[Go.Sort.putCells,Array.getElem?_mapIdx,Array.getElem?_eq_getElem nJ,Option.map_some];rw[if_pos ab];rfl
def Pq (w:World)(blk n:Nat)(d:Array (Fin<|k+1))(os:Array Obj)(cr:Nat)(h0:cr<=blk)(h1:cr<=w):Below cr w (sortWorld (sS k) w blk 0 n d os):=
 ⟨rfl,rfl,rfl,Sx w blk n d os,λj hj=>Pr w blk n d os j ab ab⟩
def Nj (f:Nat->Mv)(d':Array (Fin<|k+1))(hp:Go.Sort.PermIn 0 (k+1) (Array.ofFn λi:Fin (k+1)=>i) d')(hs:Go.Sort.SortedIn (ltOf λa b:Fin (k+1)=>LX f a b) 0 (k+1) d'):
  d'.size=k+1/\dr f (k+1) (λi=>(d'[i]!:Nat)):=by
 let⟨jw,_,TA⟩:=hp;have rQ:d'.size=k+1:=by rw[jw];simp
 refine⟨rQ,λi _=>(d'[i]!).2,?_⟩;have hn:d'.toList.Nodup:=by
  have ex:∀(d:Array (Fin<|k+1)) (m:Nat),m=d.size->d.extract 0 m=d:=λd m e=>by subst e;simp
  rw[ex d' _ rQ.symm,ex _ (k+1) aG]at TA;refine TA.nodup_iff.mpr ?_;rw[List.Nodup,List.pairwise_iff_getElem];intro i j hi hj kq e;rw[Array.getElem_toList,Array.getElem_toList,Array.getElem_ofFn,Array.getElem_ofFn]at e;have:=congrArg Fin.val e;simp only at this;omega
 intro i j kq hj;have h1:=(tq f _ _).mp<|hs i j (ac8 _) kq hj;have hne:d'[i]!≠d'[j]!:=by
  rw[getElem!_pos d' i ab,getElem!_pos d' j ab];intro e;have:=(List.pairwise_iff_getElem.mp hn) i j cH cH kq;exact this<|by simpa using e
 rcases nG.tri f (d'[i]!:Nat) (d'[j]!:Nat)with b|b|b
 .exact b
 .exact absurd (Fin.ext b) hne
 .exact absurd b h1
def He:Tz.prog.underlying 183=some (.slice 3):=bj
def Hq (n:Nat)(hn:n<=1048576)(w:World):
  (Instr.makeSlice 183 (.int .i64 (n:Int)) (.int .i64 (n:Int))).run Tz.prog w=.ok (.slice w.heap.size n n) (w.alloc<|.cells (madeCells #[(0:Int)] n) 3):=by
 have hi:=li;cases hI:Tz.prog.info? 3 with
 |none=>rw[hI]at hi;simp at hi
 |some i=>
  rw[hI]at hi;simp only[Option.map_some,Option.some.injEq,Prod.mk.injEq]at hi;let⟨h6,YL,hz⟩:=hi;have:=run_make (P:=Tz.prog) w 183 3 i _ He hI hz .i64 .i64 n n ab ab (by rw[YL];omega) ab;rw[h6]at this;simpa[Value.cells]using this
def LM (n:Nat)(w:World)(hn:n<=1048576):
  Calls Tz.prog 146 #[.int .i64 (n:Int)] w λe w'=>e=.returned (.slice w.heap.size n n)/\aC w' w.heap.size n (λi=>(i:Int))/\Below w w w':=by
 have P1:=Hq n hn;go_enter Tz.func146,Tryz.ntmps146
 go_wp2;go_loopw [9] (λi w'=>∃k:Nat,k<=n/\i=.int .i64 k/\aC w' w.heap.size n (λi=>if i<k then(i:Int)else 0)/\Below w w w') (λi _=>n-(intOf i).toNat)
 case atStart=>exact⟨0,ac8 _,rfl,(nj w n).congr λi hi=>aG,(acU _ _).alloc (ac3 _) _⟩
 case round=>
  obtain⟨k,hk,rfl,bc,hB⟩:=hrel;by_cases ay:k<n
  .have dq:(k:Int)<n:=by omega
   have hd:=bc.cellAt k ay;have I8:=bc.frozen k;go_wp2;go_roundw
   case rel=>exact⟨k+1,ab,by go_num,(bc.set k ay (k:Int)).congr (λi hi=>by
    by_cases e:i=k
    .subst e;simp
    .simp only[if_neg e];by_cases h:i<k
     .rw[if_pos h,if_pos ab]
     .rw[if_neg h,if_neg ab]),hB.setCell aG _⟩
   case measure=>exact bZ
  .go_wp2;go_ret;exact⟨rfl,bc.congr λi hi=>by rw[if_pos ab],hB⟩
def DP (v:Value)(h1:v.oneCell'=true)(a:Option Addr)(n cap:Nat)(hv:v=.slice a n cap)(w:World):
  Calls Tz.prog 197 #[v] w λe w'=>e=.returned (.func (.func 233) #[] #[.pointer w.heap.size])/\w'=w.alloc (.cells #[v] 23):=by
 subst hv;go_enter Tz.func197,Tryz.ntmps197
 go_wp2;go_ret;exact⟨rfl,rfl⟩
def Ab (f:Nat->Mv)(n:Nat)(w:World)(e:Ending)(w':World):Prop:=
 ∃(g:Nat->Nat) (B cap:Nat),dr f n g/\w.heap.size<=B/\e=.returned (.slice B n cap)/\aC w' B n (λi=>((g i:Nat):Int))
def wJ (f:Nat->Mv)(n:Nat)(w:World)(e:Ending)(w':World):Prop:=
 ∃(g:Nat->Nat) (B:Nat),dr f n g/\w.heap.size<=B/\e=.returned (.slice B n n)/\aC w' B n (λi=>((g i:Nat):Int))
def wJ.says {f:Nat->Mv}{e:Ending}(h:wJ f n w e w'):Ab f n w e w':=by let⟨g,B,h1,h2,h3,h4⟩:=h;exact⟨g,B,n,h1,h2,h3,h4⟩
def Lr (a:Option Addr)(cap:Nat)(fv:Value)(w:World):
  Calls Tz.prog 147 #[.slice a 0 cap,fv] w λe w'=>e=.returned (.tuple #[])/\w'=w:=by
 have hp:=AnyF.pdqsortCmpFunc_none (P:=Tz.prog) (ρ:=Tz.tB) {Tz.R2 with} a cap (Lib.bitLen 0:Nat) fv w;change Calls Tz.prog 172 _ _ _ at hp;have hl:Calls Tz.prog 173 #[.int .u64 0] w λe w'=>e=.returned (.int .i64 (Lib.bitLen 0:Nat))/\w'=w:=
  Any.bits_Len (SlLaysF0.n15.bits (P:=Tz.prog) (ρ:=Tz.tB) {Tz.R2 with}) 0 w ab ab
 go_enter Tz.func147,Tryz.ntmps147
 go_wp2_with(first|(go_at_call 173;refine hl.mono ?_;rintro e w' ⟨rfl,rfl⟩)|(go_at_call 172;refine hp.mono ?_;rintro e w' ⟨rfl,rfl⟩))
 go_end0
 exact⟨rfl,rfl⟩
def zu (b off n cap:Nat)(f:Nat->Mv)(w:World)(hn:n<=1048576)(bz:b<w)(am:aJ w b off n f):
  Calls Tz.prog 162 #[.slice (some ⟨b,off,none⟩) n cap] w λe w'=>wJ f n w e w'/\Below w w w':=by
 have H1:=LM n w hn;have H2:=λW=>DP (.slice (some ⟨b,off,none⟩) n cap) rfl (some ⟨b,off,none⟩) n cap rfl W
 cases n with
 |zero=>
  go_enter Tz.func162,Tryz.ntmps162
  go_wp2_with(first|(go_at_call 146;refine H1.mono ?_;clear H1;rintro e w1 ⟨rfl,o1,b1⟩)|(go_at_call 197;refine(H2 _).mono ?_;clear H2;rintro e w2 ⟨rfl,rfl⟩)|(go_at_call 147;refine(Lr _ _ _ _).mono ?_;rintro e w3 ⟨rfl,rfl⟩))
  go_ret;exact⟨⟨λi=>i,w.heap.size,⟨λi hi=>absurd hi<|ac7 _,λi j _ hj=>absurd hj<|ac7 _⟩,ac3 _,rfl,(o1.below ((acU _ w1).alloc (ac3 _) _) o1.lt).congr λi hi=>absurd hi<|ac7 _⟩,b1.alloc b1.size _⟩
 |succ k=>
  go_enter Tz.func162,Tryz.ntmps162
  go_wp2_with(first|(go_at_call 146;refine H1.mono ?_;clear H1;rintro e w1 ⟨rfl,o1,b1⟩)|(go_at_call 197;refine(H2 _).mono ?_;clear H2;rintro e w2 ⟨rfl,rfl⟩;have bA:Below w1.heap.size w1 (w1.alloc<|.cells #[.slice (some ⟨b,off,none⟩) (k+1) cap] 23):=(acU _ _).alloc (ac3 _) _;have o2:=o1.below bA o1.lt;have bb:=b1.trans<|bA.mono b1.size;have H3:=O4 k f w1.heap.size b off cap w.heap.size (k+1) _ hn (by have:=o1.lt;omega) ab (ac4 bz bb.size) aG (am.below bb bz) o2)|(go_at_call 147;refine H3.mono ?_;clear H3;rintro e w3 ⟨rfl,d',q,os,hp,hs,rfl⟩))
  go_ret;let⟨jw,Cj⟩:=Nj f d' hp hs;exact⟨⟨_,w.heap.size,Cj,ac3 _,rfl,Sw _ _ _ _ _ _ jw o2⟩,bb.trans<|Pq _ _ _ _ _ _ (ac3 _) bb.size⟩
def zv (b off n cap:Nat)(f:Nat->Mv)(w:World)(hn:n<=1048576)(bz:b<w)(am:aJ w b off n f):
  Calls Tz.prog 162 #[.slice (some ⟨b,off,none⟩) n cap] w λe w'=>Ab f n w e w'/\Below w w w':=
 (zu b off n cap f w hn bz am).mono λe w' h=>⟨h.1.says,h.2⟩
end
def tl (m:Mv)(w:World):
  Calls Tz.prog 131 #[.agg #[m.name,m.ak,m.ap,m.bF,m.late,m.prom]] w λe w'=>e=.returned m.key/\Below w w w':=RD m w
def Ol (f:Nat->Mv)(x i:Nat)(h:x<i):
  (nG f x i/\(f x).key<(f i).key)\/(nG f x i/\decide ((f x).key<(f i).key)=false/\((f x).key==(f i).key)=true/\(bX (f x).name (f i).name||bJ (f x).name (f i).name)=true)
  \/(¬nG f x i/\decide ((f x).key<(f i).key)=false/\((f x).key==(f i).key)=false)\/(¬nG f x i/\decide ((f x).key<(f i).key)=false/\((f x).key==(f i).key)=true/\(bX (f x).name (f i).name||bJ (f x).name (f i).name)=false):=by
 rw[Kc h];by_cases h1:(f x).key<(f i).key
 .exact .inl ⟨.inl h1,h1⟩
 .by_cases h2:(f x).key=(f i).key
  .cases h3:(bX (f x).name (f i).name||bJ (f x).name (f i).name)with
   |true=>exact .inr (.inl ⟨.inr ⟨h2,rfl⟩,by simpa using h1,by simpa using h2,rfl⟩)
   |false=>exact .inr<|.inr<|.inr ⟨λhh=>hh.elim h1 λ⟨_,c⟩=>Bool.noConfusion c,by simpa using h1,by simpa using h2,rfl⟩
  .exact .inr (.inr<|.inl ⟨λhh=>hh.elim h1 λ⟨c,_⟩=>h2 c,by simpa using h1,by simpa using h2⟩)
def q9 (b off n cap:Nat)(f:Nat->Mv)(w:World)(hn:n<=1048576)(bz:b<w)(am:aJ w b off n f):
  Calls Tz.prog 101 #[.slice (some ⟨b,off,none⟩) n cap] w λe w'=>(∃(g:Nat->Nat) (B c:Nat),dr f n g/\e=.returned (.slice B n c)/\B<w'.heap.size/\aA w' B 0 n (λi=>((g i:Nat):Int)))/\Below w w w':=by
 go_enter Tz.func101,Tryz.ntmps101
 go_wp2;go_loopw [3,4] (λv x wr=>∃(i:Nat) (g:Nat->Nat) (B c:Nat),i<=n/\x=.int .i64 i/\v=.slice (some ⟨B,0,none⟩) i c/\dr f i g/\wr.ownsRow w.heap.size 3 1 (.slice (some ⟨B,0,none⟩) i c) i (cf g i)/\Below w.heap.size w wr) (λ_ x _=>n-(intOf x).toNat)
 case atStart=>exact⟨0,id,w.heap.size,0,ac8 _,rfl,rfl,CC f _,nq (ac3 _)<|heap_alloc_new _ _,(acU _ _).alloc (ac3 _) _⟩
 case round=>
  obtain⟨i,g,B,c,hi,rfl,rfl,hf,bc,hB⟩:=hrel;by_cases ay:i<n
  .have dq:(i:Int)<n:=by omega
   go_wp2;go_loopw [5] (λy wr=>∃k:Nat,k<=i/\y=.int .i64 k/\(∀j,j<k->nG f (g j) i)/\wr.ownsRow w.heap.size 3 1 (.slice B i c) i (cf g i)/\Below w w wr) (λy _=>i-(intOf y).toNat)
   case atStart=>exact⟨0,ac8 _,rfl,λj hj=>absurd hj<|ac7 _,bc,hB⟩
   case round=>
    clear bc hB;obtain⟨k,hk,rfl,Ny,bc,hB⟩:=hrel;let⟨GQ,hic⟩:=yr bc;have hcell:∀j,j<i->wr.cell? ⟨B,j,none⟩=some (.int .i64 ((g j:Nat):Int)):=λj hj=>by rw[bc.cellAt j ab];exact gY hj
    have hne:=aF wr;by_cases NM:k<i;case' pos=>
     have abb:(k:Int)<i:=ab;have Zp:=hf.low k NM;have hgn:((g k:Nat):Int)<n:=ab;have KN:=am.below hB bz i ay;have XJ:=am.below hB bz (g k) ab;have x0:=λx:ai wr=>x.cell<|hcell k NM
     have a0:=λx:ai wr=>x.cell KN.c0
     have a1:=λx:ai wr=>x.cell KN.c1
     have a2:=λx:ai wr=>x.cell KN.c2
     have a3:=λx:ai wr=>x.cell KN.c3
     have a4:=λx:ai wr=>x.cell KN.c4
     have a5:=λx:ai wr=>x.cell KN.c5
     have b0:=λx:ai wr=>x.cell XJ.c0
     have b1:=λx:ai wr=>x.cell XJ.c1
     have b2:=λx:ai wr=>x.cell XJ.c2
     have b3:=λx:ai wr=>x.cell XJ.c3
     have b4:=λx:ai wr=>x.cell XJ.c4
     have b5:=λx:ai wr=>x.cell XJ.c5
     rcases Ol f (g k) i Zp with⟨dt,h1⟩|⟨dt,h1,h2,h3⟩|⟨dt,h1,h2⟩|⟨dt,h1,h2,h3⟩;case' inl=>
      have HB:Hid (nG f (g k) i):=dt;clear dt;go_wp2;refine aI ?_;repeat(go_big_quiet_step ((go_at_call 131;exact bw<|tl _ _)))
      refine wpQuiet_nil<|bL ?_;intro w1 bI;go_wp2;go_roundw
      case rel=>exact⟨k+1,ab,by go_num,λj hj=>by
       by_cases e:j=k
       .subst e;exact HB.out
       .exact Ny j ab,ur bc bI,hB.trans (bI.mono hB.size)⟩
      case measure=>exact bZ
     case' inr.inl=>
      have HB:Hid (nG f (g k) i):=dt;have H1:Hid (decide ((f<|g k).key<(f i).key)=false):=h1;have H2:Hid (((f<|g k).key==(f i).key)=true):=h2;unfold bX bJ at h3;have H3:Hid ((Op.bytesLess (f<|g k).name.toList (f i).name.toList||(f<|g k).name.toList==(f i).name.toList)=true):=h3;clear dt h1 h2 h3;go_wp2;have h1:=H1.out;have h2:=H2.out;have h3:=H3.out;refine aI ?_;repeat(go_big_quiet_step ((go_at_call 131;exact bw<|tl _ _)))
      refine wpQuiet_nil<|bL ?_;intro w1 bI;go_wp2;go_roundw
      case rel=>exact⟨k+1,ab,by go_num,λj hj=>by
       by_cases e:j=k
       .subst e;exact HB.out
       .exact Ny j ab,ur bc bI,hB.trans (bI.mono hB.size)⟩
      case measure=>exact bZ
     case' inr.inr.inl=>
      have H1:Hid (decide ((f<|g k).key<(f i).key)=false):=h1;have H2:Hid (((f<|g k).key==(f i).key)=false):=h2;have HF:Hid (dr f (i+1)<|oW g k i):=mg hf hk Ny λ_=>dt;clear dt h1 h2;go_wp2;have h1:=H1.out;have h2:=H2.out;refine aI ?_;repeat(go_big_quiet_step ((go_at_call 131;exact bw<|tl _ _)))
      refine wpQuiet_nil<|bL ?_;intro w1 bI;clear x0 a0 a1 a2 a3 a4 a5 b0 b1 b2 b3 b4 b5 hne
     case' inr.inr.inr=>
      have H1:Hid (decide ((f<|g k).key<(f i).key)=false):=h1;have H2:Hid (((f<|g k).key==(f i).key)=true):=h2;unfold bX bJ at h3;have H3:Hid ((Op.bytesLess (f<|g k).name.toList (f i).name.toList||(f<|g k).name.toList==(f i).name.toList)=false):=h3;have HF:Hid (dr f (i+1)<|oW g k i):=mg hf hk Ny λ_=>dt;clear dt h1 h2 h3;go_wp2;have h1:=H1.out;have h2:=H2.out;have h3:=H3.out;refine aI ?_;repeat(go_big_quiet_step ((go_at_call 131;exact bw<|tl _ _)))
      refine wpQuiet_nil<|bL ?_;intro w1 bI;clear x0 a0 a1 a2 a3 a4 a5 b0 b1 b2 b3 b4 b5 hne
    case' neg=>
     have HF:Hid (dr f (i+1)<|oW g k i):=mg hf hk Ny λh=>absurd h NM;have Z1:Hid (decide (k<i)=false):=by
      have h:decide (k<i)=false:=by simpa using NM
      exact h
     go_wp2;have z1:=Z1.out;refine aI ?_;repeat(go_big_quiet_step ((go_at_call 131;exact bw<|tl _ _)))
     refine wpQuiet_nil<|bL ?_;intro w1 bI;clear hne
    all_goals
     have fP:=ur bc bI;have oa:Below w w w1:=hB.trans<|bI.mono hB.size;clear bc hB bI;go_wp2;obtain⟨i0,hI,gE,eG,ga⟩:∃i0,Tz.prog.info? 3=some i0/\i0.zero=some (.int .i64 0)/\i0.size=1/\i0.bytes=8:=by
      have h:=li;cases hI:Tz.prog.info? 3 with
      |none=>rw[hI]at h;simp at h
      |some i0=>rw[hI]at h;simp only[Option.map_some,Option.some.injEq,Prod.mk.injEq]at h;exact⟨i0,rfl,h.2.2,h.1,h.2.1⟩
     let⟨YO,aca⟩:=yr fP;have Zu:(k:Int)<=c:=ab;have ND:∀{W':World},Below w1 w1 W'->∀j,j<i->W'.cell? ⟨B,j,none⟩=some (.int .i64 ((g j:Nat):Int)):=λdt j hj=>(dt.cell (p:=⟨B,j,none⟩) YO).trans (by rw[fP.cellAt j ab];exact gY hj)
     have Gz:∀{W':World},Below w1 w1 W'->∀j u,(cf g k)[j]?=some u->W'.cell? ((B:Addr).add j)=some u:=λdt j u hu=>by
      have hj:j<k:=by rcases adb j k with h|h;exact h;rw[ade (by rw[eF];exact h)]at hu;cases hu
      rw[gY hj]at hu;rw[pA,Nat.zero_add,ND dt j ab];exact hu
     have UD:∀{W':World},Below w1 w1 W'->∀j u,(cf (λj=>g<|k+j)<|i-k)[j]?=some u->W'.cell? ((⟨B,if c=k then 0 else k,none⟩:Addr).add j)=some u:=λdt j u hu=>by
      have hj:j<i-k:=by rcases adb j (i-k)with h|h;exact h;rw[ade (by rw[eF];exact h)]at hu;cases hu
      rw[gY hj]at hu;rw[if_neg ab,pA,ND dt (k+j) ab];exact hu
     have RQ:∀(g:Nat->Nat) (k:Nat),∀u∈cf g k,u.oneCell'=true:=λg k u hu=>by unfold cf at hu;simp at hu;obtain⟨_,_,rfl⟩:=hu;rfl
     have LY:(w1.alloc<|.cells #[] 3).heap[w1.heap.size]?=some (.cells #[] 3 (0,0)):=heap_alloc_new _ _;have YM:((w1.alloc<|.cells #[] 3).alloc<|.cells #[.int .i64 (i:Int)] 3).heap[w1.heap.size]?=some (.cells #[] 3 (0,0)):=(acV _ _ _ aG).trans LY;have U6:((w1.alloc<|.cells #[.int .i64 (i:Int)] 3).alloc<|.cells #[] 3).heap[w1.heap.size+1]?=some (.cells #[] 3 (0,0)):=by have:=heap_alloc_new (w1.alloc<|.cells #[.int .i64 (i:Int)] 3)<|.cells #[] 3;simpa using this
     have bA1:Below w1 w1 (w1.alloc<|.cells #[] 3).drew:=((acU _ w1).alloc (ac3 _) _).drew;have bA2:Below w1 w1 ((w1.alloc<|.cells #[] 3).alloc<|.cells #[.int .i64 (i:Int)] 3).drew:=(((acU _ w1).alloc (ac3 _) _).alloc aG _).drew;have bA3:Below w1 w1 ((w1.alloc<|.cells #[.int .i64 (i:Int)] 3).alloc<|.cells #[] 3).drew:=(((acU _ w1).alloc (ac3 _) _).alloc aG _).drew;have hD2:((w1.alloc<|.cells #[] 3).alloc<|.cells #[.int .i64 (i:Int)] 3).heap[w1.heap.size+1]?=some (.cells #[.int .i64 (i:Int)] 3 (0,0)):=by have:=heap_alloc_new (w1.alloc<|.cells #[] 3)<|.cells #[.int .i64 (i:Int)] 3;simpa using this
     have hD3:((w1.alloc<|.cells #[.int .i64 (i:Int)] 3).alloc<|.cells #[] 3).heap[w1.heap.size]?=some (.cells #[.int .i64 (i:Int)] 3 (0,0)):=(acV _ _ _ aG).trans<|heap_alloc_new _ _;go_region_law (first
      |(refine dB rfl (.tmp 67) (.tmp 70) 27 rfl 3 i0 (.int .i64 0) 1 8 (Tz.aE Tryz.underlying27) hI gE eG ga rfl bd w1.heap.size (.slice (some ⟨_,0,none⟩) 0 0) 0 [] bD (nq aG LY) ⟨B,0,none⟩ k c (cf g k) bD (by rw[eF];omega) (Gz bA1) (RQ g k) ie ab bA1.size ?_
        intro v2 w2 pY PQ;simp only[Nat.zero_add,List.nil_append]at pY;have B2:Below w1 w1 w2:=bA1.grown PQ bA1.size λq hq=>Gu;skip
        clear PQ)
      |(refine dB rfl (.tmp 67) (.tmp 70) 27 rfl 3 i0 (.int .i64 0) 1 8 (Tz.aE Tryz.underlying27) hI gE eG ga rfl bd w1.heap.size (.slice (some ⟨_,0,none⟩) 0 0) 0 [] bD (nq aG YM) ⟨B,0,none⟩ k c (cf g k) bD (by rw[eF];omega) (Gz bA2) (RQ g k) ie ab bA2.size ?_
        intro v2 w2 pY PQ;simp only[Nat.zero_add,List.nil_append]at pY;have B2:Below w1 w1 w2:=bA2.grown PQ bA2.size λq hq=>Gu;have d2:w2.heap[w1.heap.size+1]?=some (.cells #[.int .i64 (i:Int)] 3 (0,0)):=(PQ.block (w1.heap.size+1) aG DW).trans hD2;clear PQ)
      |(refine dB rfl (.tmp 67) (.tmp 70) 27 rfl 3 i0 (.int .i64 0) 1 8 (Tz.aE Tryz.underlying27) hI gE eG ga rfl bd w1.heap.size (.slice (some ⟨_,0,none⟩) 0 0) 0 [] bD (nq aG U6) ⟨B,0,none⟩ k c (cf g k) bD (by rw[eF];omega) (Gz bA3) (RQ g k) ie ab bA3.size ?_
        intro v2 w2 pY PQ;simp only[Nat.zero_add,List.nil_append]at pY;have B2:Below w1 w1 w2:=bA3.grown PQ bA3.size λq hq=>Gu;have d2:w2.heap[w1.heap.size]?=some (.cells #[.int .i64 (i:Int)] 3 (0,0)):=(PQ.block w1.heap.size cH DW).trans hD3;clear PQ)
      |(refine dB rfl (.tmp 71) (.tmp 73) 27 rfl 3 i0 (.int .i64 0) 1 8 (Tz.aE Tryz.underlying27) hI gE eG ga rfl bd w1.heap.size v2 k (cf g k) bD pY ⟨_,0,none⟩ 1 1 [.int .i64 (i:Int)] bD rfl (fN d2) t9 ie ab B2.size ?_
        intro v3 w3 pZ we;have B3:Below w1 w1 w3:=B2.grown we B2.size λq hq=>iq pY q hq;clear we B2 pY)
      |(refine dB rfl (.tmp 71) (.tmp 73) 27 rfl 3 i0 (.int .i64 0) 1 8 (Tz.aE Tryz.underlying27) hI gE eG ga rfl bd w1.heap.size v2 k (cf g k) bD (pY.alloc _) ⟨_,0,none⟩ 1 1 [.int .i64 (i:Int)] bD rfl (fN<|heap_alloc_new w2 _) t9 ie ab (B2.alloc B2.size _).size ?_
        intro v3 w3 pZ we;have B3:Below w1 w1 w3:=(B2.alloc B2.size _).grown we (B2.alloc B2.size _).size λq hq=>iq pY q hq;clear we B2 pY)
      |(refine dB rfl (.tmp 74) (.tmp 77) 27 rfl 3 i0 (.int .i64 0) 1 8 (Tz.aE Tryz.underlying27) hI gE eG ga rfl bd w1.heap.size v3 (k+1) (cf g k++[.int .i64 (i:Int)]) bD pZ ⟨B,if c=k then 0 else k,none⟩ (i-k) (c-k) (cf (λj=>g<|k+j)<|i-k) (by simp[Act.eval];split<;>rfl) (by rw[eF];omega) (UD B3) (RQ _ _) ie ab B3.size ?_
        intro v4 w4 Wz gr4;rw[PA g i k hk,show k+1+(i-k)=i+1 by omega]at Wz;have B4:Below w1 w1 w4:=B3.grown gr4 B3.size λq hq=>iq pZ q hq;obtain⟨b4,c4,rfl⟩:=lq Wz;clear gr4 B3 pZ))
     all_goals
      go_wp2;go_roundw
      case rel=>exact⟨i+1,oW g k i,b4,c4,ab,by go_num,rfl,HF.out,iQ Wz oa.size,oa.trans<|B4.mono oa.size⟩
      case measure=>exact bZ
  .go_wp2;go_ret;have iA:i=n:=ab;subst iA;let⟨GQ,hic⟩:=yr bc;exact⟨⟨g,B,c,hf,rfl,GQ,λj hj=>by rw[Nat.zero_add,bc.cellAt j ab];exact gY hj⟩,hB⟩
section
variable {W' w1 wr:World}{lo N F:Nat}{cf:List Value}{L:List (List Nat)}{fg:List Nat}{v:Value}
def sN (W:World)(n lo:Nat)(cf:List Value)(L:List (List Nat)):Prop:=
 ∀(i:Nat) (fg:List Nat),L[i]?=some fg->∃tb tc,cf[i]?=some (Value.slice (some ⟨tb,0,none⟩) n tc)/\lo<=tb/\(∃cs,W.heap[tb]?=some (.cells cs 3 (0,0)))/\aA W tb 0 n (λi=>((pl fg i:Nat):Int))
def uv {off:Nat}{g:Nat->Int}(h:aA W b off n g)(e:W'.heap[b]?=W.heap[b]?):aA W' b off n g:=λi hi=>by have:=h i hi;simp only[World.cell?,e]at this⊢;exact this
def sN.same (h:sN W n lo cf L)(e:∀b cs,lo<=b->W.heap[b]?=some (.cells cs 3 (0,0))->W'.heap[b]?=W.heap[b]?):sN W' n lo cf L:=λi fg hi=>by
 let⟨tb,tc,h1,h3,⟨cs,h4⟩,h5⟩:=h i fg hi;exact⟨tb,tc,h1,h3,⟨cs,(e tb cs h3 h4).trans h4⟩,uv h5<|e tb cs h3 h4⟩
def sN.snoc {C:Nat}(h:sN W n lo cf L)(hl:cf.length=L.length)(h3:lo<=C)(h4:∃cs,W.heap[C]?=some (.cells cs 3 (0,0)))(h5:aA W C 0 n (λi=>((pl fg i:Nat):Int))):
  sN W n lo (cf++[.slice C n c]) (L++[fg]):=λi l hi=>by
 by_cases ay:i<L.length
 .rw[adf ay]at hi;let⟨tb,tc,g1,g2⟩:=h i l hi;exact⟨tb,tc,by rw[adf ab];exact g1,g2⟩
 .rw[adg ab]at hi;have F1:i-L.length=0:=by
   have:=(adc.1 hi).1;simp at this;omega
  rw[F1]at hi;simp at hi;subst hi;exact⟨C,c,by rw[adg ab,hl,F1];rfl,h3,h4,h5⟩
def xV (l:List Nat):List Value:=l.map λ(p:Nat)=>Value.int .i64 (p:Int)
structure uI (w w1 wr:World)(n:Nat)(v:Value)(L:List (List Nat)):Prop where
 ex:∃cf,wr.ownsRow w.heap.size 27 1 v L.length cf/\sN wr n w.heap.size cf L
 own:∀r,v.ownBlock=some r->r=w.heap.size\/w1.heap.size<=r
 but:ja w.heap.size w1 wr
 MI:Below w w wr
def uI.later {wr':World}(h:uI w w1 wr n v L)(hb:Below wr wr wr'):uI w w1 wr' n v L:=by
 let⟨cf,h1,h2⟩:=h.ex;refine⟨⟨cf,?_,h2.same λb cs _ hc=>hb.block b (ac5.1 hc).1⟩,h.own,h.but.trans<|ja.of hb,h.MI.trans<|hb.mono h.MI.size⟩;obtain⟨g1,g2|⟨g,cap,cur,rfl,g3,g4,g5⟩⟩:=h1
 .exact⟨g1,.inl g2⟩
 .exact⟨g1,.inr ⟨g,cap,cur,rfl,g3,(hb.block g (ac5.1 g4).1).trans g4,g5⟩⟩
def KV:∃i0,Tz.prog.info? 3=some i0/\i0.zero=some (.int .i64 0)/\i0.size=1/\i0.bytes=8:=by
 have h:=li;cases hI:Tz.prog.info? 3 with
 |none=>rw[hI]at h;simp at h
 |some i0=>rw[hI]at h;simp only[Option.map_some,Option.some.injEq,Prod.mk.injEq]at h;exact⟨i0,rfl,h.2.2,h.1,h.2.1⟩
def Hb:∃i0,Tz.prog.info? 27=some i0/\i0.zero=some (.slice none 0 0)/\i0.size=1/\i0.bytes=24:=by
 have h:(Tz.prog.info? 27).map (λi=>(i.size,i.bytes,i.zero))=some (1,24,some<|.slice none 0 0):=bj;cases hI:Tz.prog.info? 27 with
 |none=>rw[hI]at h;simp at h
 |some i0=>rw[hI]at h;simp only[Option.map_some,Option.some.injEq,Prod.mk.injEq]at h;exact⟨i0,rfl,h.2.2,h.1,h.2.1⟩
def Hc:Tz.prog.underlying 141=some (.slice 27):=bj
def xU:Tz.prog.underlying 27=some (.slice 3):=bj
def oX (N F:Nat):List (List Nat):=(List.range F).flatMap λx=>(aS N).map λl=>x::l.map (lK x)
def wP (N F:Nat):oX N (F+1)=oX N F++(aS N).map λl=>F::l.map (lK F):=by simp[oX,List.range_succ,List.flatMap_append]
def Ai (h:(aS N).length<=720):∀F,(oX N F).length<=F*720
 |0=>by simp[oX]
 |F+1=>by
  have:=Ai h F;rw[wP,List.length_append,List.length_map];omega
def Ps {I:Nat}{l:List Nat}(h:(aS N)[I]?=some l):((aS N).take<|I+1).map (λl=>F::l.map (lK F))=((aS N).take I).map (λl=>F::l.map (lK F))++[F::l.map (lK F)]:=by
 rw[List.take_add_one,h];simp
def aby {WI w3:World}{G gc og oc:Nat}{o:Obj}{A:List (List Nat)}{X:List (List Nat)}(hO:uI w w1 wr (N+1) v A)(q1:wr.ownsRow w.heap.size 27 1 v A.length cf)(q2:sN wr (N+1) w.heap.size cf A)
  (hB:Below WI WI wr)(hX:X=A++[F::fg.map (lK F)])(bc:wr.ownsRow WI.heap.size 3 1 (.slice G (N+1) gc) (N+1) (xV<|F::fg.map (lK F)))(hG:WI.heap.size<=G)(hwI:w.heap.size<=WI)(N6:w.heap.size<=w1)
  (pZ:w3.ownsRow w.heap.size 27 1 (.slice og (A.length+1) oc) (A.length+1) (cf++[.slice G (N+1) gc]))(we:(wr.alloc o).grownBy w3 v.ownBlock)(ZL:v.ownBlock=some og\/og=(wr.alloc o).heap.size):
  uI w w1 w3 (N+1) (.slice og (A.length+1) oc) X:=by
 subst hX;have eG:=hO.but.size;have ga:=hO.MI.size;have hblk:∀b,b<wr.heap.size->some b≠v.ownBlock->w3.heap[b]?=wr.heap[b]?:=λb hb hne=>(we.block b cH hne).trans<|acV _ _ _ hb
 have hnr:∀b cs,wr.heap[b]?=some (.cells cs 3 (0,0))->some b≠v.ownBlock:=λb cs hc e'=>by
  rcases q1.2 with⟨rfl,_⟩|⟨g,cap,cur,rfl,_,Zn,_⟩
  .simp[Value.ownBlock]at e'
  .obtain rfl:b=g:=by simpa[Value.ownBlock]using e'
   rw[hc]at Zn;simp at Zn
 have hint:∀b cs,w.heap.size<=b->wr.heap[b]?=some (.cells cs 3 (0,0))->w3.heap[b]?=wr.heap[b]?:=λb cs _ hc=>hblk b (ac5.1 hc).1<|hnr b cs hc
 obtain⟨cs,hcs,hcell⟩:∃cs,wr.heap[G]?=some (.cells cs 3 (0,0))/\aA wr G 0 (N+1) (λi=>((pl (F::fg.map (lK F)) i:Nat):Int)):=by
  have hc:=bc;rcases bc.2 with⟨h,_⟩|⟨g,cap,cur,h1,h2,h3,h4⟩
  .cases h
  .obtain⟨rfl,rfl⟩:G=g/\gc=cap:=by simpa using h1
   refine⟨cur,h3,λi hi=>?_⟩;rw[Nat.zero_add,hc.cellAt i ab];have hl:=hc.1;simp only[xV,List.length_map,Nat.mul_one]at hl;simp only[xV,List.getElem?_map,pl,List.getD];rw[adp ab];rfl
 have hvl:cf.length=A.length:=by have:=q1.1;omega
 refine⟨⟨cf++[.slice G (N+1) gc],by rw[List.length_append];exact pZ,?_⟩,λr hr=>?_,⟨?_,λb hb hne=>?_⟩,⟨we.os.trans hO.MI.os,we.tape.trans hO.MI.tape,we.output.trans hO.MI.output,?_,λb hb=>?_⟩⟩
 .exact(q2.same hint).snoc hvl ab ⟨cs,(hint G cs ab hcs).trans hcs⟩ (uv hcell<|hint G cs ab hcs)
 .obtain rfl:og=r:=by simpa[Value.ownBlock]using hr
  rcases ZL with h|h
  .exact hO.own _ h
  .right;rw[h];simp;omega
 .have:=we.size;simp at this;omega
 .refine(hblk b ab λe=>?_).trans (hO.but.block b hb hne);rcases hO.own b e.symm with h|h<;>omega
 .have:=we.size;simp at this;omega
 .refine(hblk b ab λe=>?_).trans (hO.MI.block b hb);rcases hO.own b e.symm with h|h<;>omega
def AG:∀(n:Nat) (w:World),n<=6->
  Calls Tz.prog 102 #[.int .i64 (n:Int)] w λe w'=>(∃v cf,e=.returned v/\w'.ownsRow w.heap.size 27 1 v (aS n).length cf/\sN w' n w.heap.size cf (aS n))/\Below w w w'
 |0,w,_=>by
  go_enter Tz.func102,Tryz.ntmps102
  go_wp2;go_ret;have hA:=heap_alloc_new (w.alloc<|.cells #[] 3)<|.cells #[.slice w.heap.size 0 0] 27;have hB:((w.alloc<|.cells #[] 3).alloc<|.cells #[.slice w.heap.size 0 0] 27).heap[w.heap.size]?=some (.cells #[] 3 (0,0)):=(acV _ _ _ aG).trans<|heap_alloc_new w _;refine⟨⟨_,[.slice w.heap.size 0 0],rfl,⟨rfl,.inr ⟨w.heap.size+1,1,_,rfl,ab,by simpa using hA,bd,bd,rfl,rfl⟩⟩,λi fg hi=>?_⟩,((acU _ w).alloc (ac3 _) _).alloc aG _⟩;have h0:i=0:=by have:=(adc.1 hi).1;simp[aS]at this;omega
  subst h0;exact⟨w.heap.size,0,rfl,ac3 _,⟨_,hB⟩,λi hi=>absurd hi<|ac7 _⟩
 |N+1,w,h6=>by
  have IH:=AG N (w.alloc<|.cells #[] 27) ab;let⟨S6,hN0⟩:=jE N ab;have e0:(((N+1:Nat):Int)-1)=(N:Int):=ab;go_enter Tz.func102,Tryz.ntmps102
  have hle:¬((N:Int)+1<=0):=ab;have acj:(0:Int)<(N:Int)+1:=ab;have e1:((N:Int)+1-1)=(N:Int):=ab;go_wp2_with(go_at_call 102;(try rw[e1]);refine IH.mono ?_;rintro e w1 ⟨⟨vL,cf,rfl,sv,T1⟩,b1⟩;obtain⟨M,hM⟩:∃M,(aS N).length=M+1:=⟨(aS N).length-1,ab⟩;rw[hM]at sv;obtain⟨LB,Lc,rfl⟩:=lq sv)
  have hLB:w.heap.size+1<=LB:=by have:=iq sv LB rfl;simpa using this
  have Vd:=(yr sv).1;have Ks:Below w w (w.alloc<|.cells #[] 27):=(acU _ w).alloc (ac3 _) _;have eG:w.heap.size+1<=w1:=by have:=b1.size;simpa using this
  have GS:Below w w w1:=Ks.trans<|b1.mono aG;have hE1:w1.heap[w.heap.size]?=some (.cells #[] 27 (0,0)):=(b1.block w.heap.size aG).trans<|heap_alloc_new w _;have pI:∀(I:Nat) (fg:List Nat),(aS N)[I]?=some fg->∃tb tc,w1.cell? ⟨LB,I,none⟩=some (.slice (some ⟨tb,0,none⟩) N tc)/\w.heap.size+1<=tb/\tb<w1.heap.size/\aA w1 tb 0 N (λi=>((pl fg i:Nat):Int)):=λI fg hI=>by
   let⟨tb,tc,h1,h2,⟨cs,h3⟩,h4⟩:=T1 I fg hI;have ay:=(adc.1 hI).1;exact⟨tb,tc,by rw[sv.cellAt I ab];exact h1,by simpa using h2,(ac5.1 h3).1,h4⟩
  rw[<-hM]at sv;clear sv T1 b1 IH Ks;go_loopw [3,5] (λv x wr=>∃F:Nat,F<=N+1/\x=.int .i64 F/\uI w w1 wr (N+1) v (oX N F)) (λ_ x _=>N+1-(intOf x).toNat)
  case atStart=>exact⟨0,ac8 _,rfl,⟨[],nq (ac3 _) hE1,λi fg hi=>by simp[oX]at hi⟩,λr hr=>.inl<|by simpa[Value.ownBlock]using hr.symm,ja.refl _ _,GS⟩
  case round=>
   obtain⟨F,hF,rfl,hO⟩:=hrel;by_cases ay:F<N+1
   .have dq:(F:Int)<(N:Int)+1:=by omega
    go_wp2;go_loopw [3,6] (λv x wr=>∃I:Nat,I<=(aS N).length/\x=.int .i64 I/\uI w w1 wr (N+1) v (oX N F++((aS N).take I).map λl=>F::l.map (lK F))) (λ_ x _=>(aS N).length-(intOf x).toNat)
    case atStart=>exact⟨0,ac8 _,rfl,by simpa using hO⟩
    case round=>
     clear hO;obtain⟨I,hI,rfl,hO⟩:=hrel;by_cases hlI:I<(aS N).length
     .obtain⟨fg,oe⟩:∃x,(aS N)[I]?=some x:=⟨_,adp hlI⟩;have VH:(I:Int)<(M:Int)+1:=ab;let⟨tb,tc,kY,ht1,TN,nL⟩:=pI I fg oe;have hll:=(gj<|List.mem_of_getElem? oe).1;obtain⟨WI,hWI⟩:∃WI,wr=WI:=⟨_,rfl⟩;have hO1:uI w w1 WI (N+1) u3 (oX N F++((aS N).take I).map λl=>F::l.map (lK F)):=hWI▸hO;have hcW:∀W',Below WI WI W'->W'.cell? ⟨LB,I,none⟩=some (.slice tb N tc):=λW' hb=>by
       have h1:=(ja.trans hO1.but<|ja.of hb).block LB Vd ab;simp only[World.cell?,h1]at kY⊢;exact kY
      have hrW:∀W',Below WI WI W'->aA W' tb 0 N (λi=>((pl fg i:Nat):Int)):=λW' hb=>uv nL<|(ja.trans hO1.but<|ja.of hb).block tb TN ab
      rw[hWI];clear hO hWI;go_wp2;go_loopw [7,8] (λv x wr=>∃K:Nat,K<=N/\x=.int .i64 K/\wr.ownsRow WI.heap.size 3 1 v (K+1) (xV<|F::(fg.take K).map (lK F))/\Below WI WI wr) (λ_ x _=>N-(intOf x).toNat)
      case atStart=>exact⟨0,ac8 _,rfl,⟨rfl,.inr ⟨WI.heap.size,1,_,rfl,ac3 _,heap_alloc_new _ _,bd,bd,rfl,rfl⟩⟩,(acU _ _).alloc (ac3 _) _⟩
      case round=>
       obtain⟨K,hK,rfl,bc,hB⟩:=hrel;have hcK:=hcW wr hB;by_cases hlK:K<N
       .have ach:(K:Int)<N:=by omega
        have hrK:=hrW wr hB K hlK;simp only[Nat.zero_add]at hrK;let⟨i0,hI0,gE,RA,ga⟩:=KV;have Mb:=hB.size;have Jf:∀x:Nat,x=lK F (pl fg K)->xV (F::(fg.take K).map (lK F))++[.int .i64 (x:Int)]=xV (F::(fg.take<|K+1).map (lK F)):=λx hx=>by
         have hg:fg[K]?=some (pl fg K):=by simp[pl,List.getD,hll,hlK]
         rw[List.take_add_one,hg,hx];simp[xV]
        have hpb:((pl fg K:Nat):Int)<6:=by have:=(gj<|List.mem_of_getElem? oe).2.1 K hlK;omega
        by_cases tR:F<=pl fg K
        .have VB:((F:Int)<=((pl fg K:Nat):Int)):=by omega
         have HL:Hid _:=Jf (pl fg K+1) (by unfold lK;rw[if_pos tR]);clear Jf;go_wp2_with(refine wpList_append_own _ rfl (.tmp 52) (.tmp 54) 27 rfl WI.heap.size 3 i0 (.int .i64 0) 1 8 xU hI0 gE RA ga rfl bd _ (K+1) _ bD (bc.alloc _) _ 1 1 [.int .i64 ((pl fg K:Int)+1)] bD rfl (fN<|heap_alloc_new wr _) t9 ie ab cH ?_;intro v' w3 pZ we Tt)
         have Kt:Below WI WI w3:=(hB.alloc Mb _).grown we cH λq hq=>iq bc q hq;go_roundw
         case rel=>exact⟨K+1,ab,by go_num,by have:=HL.out;push_cast at this;rw[this]at pZ;exact pZ,Kt⟩
         case measure=>exact bZ
        .have VB:¬((F:Int)<=((pl fg K:Nat):Int)):=by omega
         have HL:Hid _:=Jf (pl fg K) (by unfold lK;rw[if_neg tR]);clear Jf;go_wp2_with(refine wpList_append_own _ rfl (.tmp 52) (.tmp 54) 27 rfl WI.heap.size 3 i0 (.int .i64 0) 1 8 xU hI0 gE RA ga rfl bd _ (K+1) _ bD (bc.alloc _) _ 1 1 [.int .i64 (pl fg K:Int)] bD rfl (fN<|heap_alloc_new wr _) t9 ie ab cH ?_;intro v' w3 pZ we Tt)
         have Kt:Below WI WI w3:=(hB.alloc Mb _).grown we cH λq hq=>iq bc q hq;go_roundw
         case rel=>exact⟨K+1,ab,by go_num,by rw[HL.out]at pZ;exact pZ,Kt⟩
         case measure=>exact bZ
       .obtain rfl:K=N:=by omega
        rw[List.take_of_length_le ab]at bc;obtain⟨G,gc,rfl⟩:=lq bc;have hO3:=hO1.later hB;let⟨cf,q1,q2⟩:=hO3.ex;let⟨i0,hI0,gE,RA,ga⟩:=Hb;have Mb:=hB.size;have hzI:=hO1.MI.size;have hGI:WI.heap.size<=G:=iq bc G rfl;have YR:(oX K F++((aS K).take I).map λl=>F::l.map (lK F)).length<=5040:=by
         have h1:(oX K F).length<=F*720:=Ai S6 F;have h2:((aS K).take I).length<=720:=cH;simp only[List.length_append,List.length_map];omega
        generalize hA:(oX K F++((aS K).take I).map λl=>F::l.map (lK F))=A at hO3 q1 q2 YR;go_wp2_with(refine wpList_append_lies _ rfl (.tmp 56) (.tmp 58) 141 rfl w.heap.size 27 i0 () 1 24 Hc hI0 gE RA ga rfl bd _ _ _ bD (q1.alloc _) _ 1 1 [.slice G (K+1) gc] bD rfl (fN<|heap_alloc_new wr _) t9 bd ie ab cH _ rfl ?_;intro og oc w3 pZ we ZL VL)
        go_roundw
        case rel=>exact⟨I+1,ab,by go_num,aby hO3 q1 q2 hB (by rw[<-hA,Ps oe,List.append_assoc]) bc hGI hzI ab pZ we ZL⟩
        case measure=>exact bZ
     .obtain rfl:I=(aS N).length:=by omega
      have VH:¬(((aS N).length:Nat):Int)<(M:Int)+1:=ab;go_wp2;go_roundw
      case rel=>exact⟨F+1,ab,by go_num,by rw[wP];simpa using hO⟩
      case measure=>exact bZ
   .obtain rfl:F=N+1:=by omega
    have dq:¬((N+1:Nat):Int)<(N:Int)+1:=ab;go_wp2;go_ret;let⟨cf,o1,o2⟩:=hO.ex;refine⟨?_,hO.MI⟩;first|exact⟨_,cf,rfl,o1,o2⟩|exact⟨_,rfl,cf,o1,o2⟩
end
section
variable {base:Nat}{T:TypeId}{t:Nat->Int}
def RC:IntKind.i64.min=-9223372036854775808:=bd
def RB:IntKind.i64.max=9223372036854775807:=bd
def vd {T:Nat->Int}(h:aA w b 0 n T):∀(j:Nat) (u:Value),(ee T n)[j]?=some u->w.cell? ((b:Addr).add j)=some u:=λj u hu=>by
 have hj:j<n:=by rcases adb j n with h|h;exact h;rw[ade (by rw[eN];exact h)]at hu;cases hu
 rw[dY hj]at hu;rw[show(b:Addr).add j=⟨b,0+j,none⟩ by unfold Addr.add;split<;>simp_all,h j hj];exact hu
def EZ {B:Nat}(h:w.ownsRow base T 1 (.slice B n c) n (ee t n)):aA w B 0 n t:=λi hi=>by
 rw[Nat.zero_add,h.cellAt i ab];exact dY hi
def vB {x:Int}(h:-9223372036854775808<=x/\x<=9223372036854775807):(Lit.int .i64 x).wf=true:=by
 show(decide (IntKind.i64.min<=x)&&decide (x<=IntKind.i64.max))=true;rw[RC,RB];simpa using h
end
