import Derived.Test.YtjoalkgmgmmedaaGreatDoorj43
import Derived.Test.YtjoalkgmgmmedaaGreatDoorj15
import Derived.Lib.Atoi
import Derived.Lib.ItoaMem
set_option linter.defProp false
set_option linter.unusedVariables false
set_option maxHeartbeats 8000000
set_option maxRecDepth 20000
open ByteArray renaming append_assoc->a2,size_append->a6,ext->bp,size_extract->ci,size->cl,empty->cn,append_empty->co
open Classical renaming epsilon_spec->bF,epsilon->cq
open Go renaming wp_region_held_drew->ay,World->a8,wpAnyH_done->a9,bodyPost_ret->bt,Addr->bz,Calls->bB,wpList_append_own->bE,heap_alloc_new->bM,results->bO
open Go.Act renaming put->aB
open Go.Ending renaming returned->aL
open Go.Lib renaming decFrom->aE,decDigits->aI,digitVal->aN,countByte->aV,decDigits_one->be,indexByte->bi
open Go.RowKit renaming Below->a4
open Go.Value renaming slice->au,string->av,int->ax,pointer->a5,agg->bb,tuple->bs,bool->ch
open Int renaming toNat_natCast->bA
open List renaming setIfInBounds_toArray->aa,set_cons_zero->ac,set_cons_succ->ai,range->bk,range_succ->bm,drop_eq_getElem_cons->bH,take_of_length_le->bI,mem_of_mem_take->bN,length_cons->bR,length_take->bS,count_cons->b0
open Nat renaming le_of_eq->a3,zero_add->bn,strongRecOn->br,lt_irrefl->cb,pow_succ->cc,le_succ->ce,not_le->cf
open Or renaming inr->bj,inl->bv
open UInt8 renaming ofNat->a7,toNat_inj->bV
namespace Go.Proofs.YtjoalkgmgmmedaaGreatDoor
open Go Go.RowKit RowKit
variable {s:ByteArray}{a0 a1 x0 x1 z:Int}{l:List UInt8}{B D M N c2 c3 d fr i j k m n o x:Nat}{g:Nat->ByteArray}{T:Nat->Int}{F:Nat->Mv}{X:Nat->Prop}{s2 s3:Option bz}{p:Prop}{c:UInt8}{W W' w w' w3:a8}
section
set_option linter.unusedVariables false
structure Bk where
 now:Int
 shift:Int
 n:Nat
 f:Nat->Mv
 t:Nat->Int
def Bk.ok (b:Bk):Prop:=aY b.now b.shift b.f b.n b.t b.n=true
noncomputable def plB (b:Bk)(s:ByteArray):Int:=cq<|ew b.f b.n s
theorem qI {b k}(h:ew b.f b.n s k):plB b s=k:=ew.one (bF ⟨k,h⟩) h
def QP (b s):ew b.f b.n s (plB b s):=bF (by
 by_cases e:∃j,j<b.n/\de (b.f j).name s=true
 .let⟨j,u⟩:=e;induction j using br with
  |_ j v=>
   by_cases e:∃i,i<j/\de (b.f i).name s=true
   .let⟨i,t,hs⟩:=e;exact v i t ⟨gC,hs⟩
   .exact⟨j,bj ⟨j,rfl,u.1,u.2,λi t=>Bool.eq_false_iff.2 λh=>e ⟨i,t,h⟩⟩⟩
 .exact⟨-1,bv ⟨rfl,λi t=>Bool.eq_false_iff.2 λh=>e ⟨i,t,h⟩⟩⟩)
noncomputable def HJ (b:Bk)(q:Mv):Bk×Int:=match vj b.f b.n b.now b.shift q with
 |.no c=>(b,c)
 |.yes p T=>(⟨b.now,b.shift,b.n+1,ee b.f p q,T⟩,0)
noncomputable def Fx (b:Bk)(s:ByteArray):Bk×Int:=match oG b.f b.n b.t b.now b.shift (plB b s)with
 |.no c=>(b,c)
 |.yes p T=>(⟨b.now,b.shift,b.n-1,dX b.f p,T⟩,0)
noncomputable def GO (b:Bk)(s:ByteArray):Bk×Int:=match gD b.f b.n b.t b.now (plB b s)with
 |.inl c=>(b,c)
 |.inr (p,T)=>(⟨b.now,b.shift,(aw b.f b.t p b.n).length,jO<|aw b.f b.t p b.n,T⟩,0)
def LH (b:Bk):Bk:=⟨b.now+1,b.shift,(stay b.now b.t b.n).length,tkF b.f b.t b.now b.n,tkT b.t b.now b.n⟩
section
variable {b:Bk}{q:Mv}{l:Nat}{cd:Int}{r:List Nat}
def BP.eq (hb:b.ok)(h:BP b.f b.n b.t b.n b.now b.shift q a0 a1 l F o T cd):HJ b q=(⟨a0,a1,l,F,T⟩,cd)/\o=l:=by
 unfold HJ;cases h with
 |bad h=>rw[hb]at h;grind
 |no _ h=>simp_all
 |yes _ h=>grind
def wi.eq (hb:b.ok)(h:wi b.f b.n b.t b.n b.now b.shift s a0 a1 l F o T cd):Fx b s=(⟨a0,a1,l,F,T⟩,cd)/\o=l:=by
 unfold Fx;cases h with
 |bad h=>rw[hb]at h;grind
 |no _ k h=>rw[qI k,h];grind
 |yes _ k h=>grind [qI]
def BU.eq (hb:b.ok)(h:BU b.f b.n b.t b.n b.now b.shift s a0 a1 l F o T cd):GO b s=(⟨a0,a1,l,F,T⟩,cd)/\o=l:=by
 unfold GO;cases h with
 |bad h=>rw[hb]at h;grind
 |no _ k h=>rw[qI k,h];grind
 |yes _ k h=>grind [qI]
def yE.eq (hb:b.ok)(h:yE b.f b.n b.t b.n b.now b.shift a0 a1 l F o T r cd):o=l/\(b.now=10000/\b=⟨a0,a1,l,F,T⟩/\r=[]/\cd=2\/b.now≠10000/\LH b=⟨a0,a1,l,F,T⟩/\r=gone b.now b.t b.n/\cd=0):=by
 cases h with
 |bad h=>rw[hb]at h;grind
 |last _ h=>grind
 |yes _ h=>exact⟨rfl,bj ⟨h,rfl,rfl,rfl⟩⟩
def Ik (hb:b.ok):(HJ b q).1.ok/\0<=(HJ b q).2/\(HJ b q).2<=6:=by
 unfold HJ;cases h:vj b.f b.n b.now b.shift q with
 |no c=>
  refine⟨hb,?_⟩;unfold vj AY at h;split at h
  .rename_i t;cases h;split at t
   .grind
   split at t<;>grind
  grind
 |yes p T=>exact⟨(AI (S0 h).2).1,(by decide:(0:Int)<=0),(by decide:(0:Int)<=6)⟩
def IF (hb:b.ok):(Fx b s).1.ok/\0<=(Fx b s).2/\(Fx b s).2<=6:=by
 unfold Fx;cases h:oG b.f b.n b.t b.now b.shift (plB b s)with
 |no c=>
  grind [oG]
 |yes p T=>
  obtain⟨u,rfl⟩:=YI (QP b s) h;refine⟨?_,(by decide:(0:Int)<=0),(by decide:(0:Int)<=6)⟩;rcases Tv b.f b.n b.t b.now b.shift p with e|⟨e,_⟩
  .rw[e];exact RV hb u
  exact(AI e).1
def JG (hb:b.ok):(GO b s).1.ok/\0<=(GO b s).2/\(GO b s).2<=6:=by
 unfold GO;cases h:gD b.f b.n b.t b.now (plB b s)with
 |inl c=>
  grind [gD]
 |inr x=>
  let⟨p,T⟩:=x;let⟨u,_,v,y,_⟩:=g_ (QP b s) h;exact⟨JJ hb u v y,(by decide:(0:Int)<=0),(by decide:(0:Int)<=6)⟩
def J9 (a:b.ok)(h:b.now≠10000):(LH b).ok:=NL a h
end
def fd (n:Int):ByteArray:=⟨(aI n.toNat).toArray⟩
def codeF (x:Bk×Int):Bk×ByteArray:=(x.1,⟨#[99,111,100,101,32]⟩++fd x.2)
def kU (b:Bk)(l:List Nat)(o:ByteArray):ByteArray:=l.foldl (λo i=>o++((b.f i).name++⟨#[32]⟩)) o
def eH:Nat->Bk->ByteArray->Bk×ByteArray
 |0,b,o=>(b,o++⟨#[110,111,119,32]⟩++fd b.now)
 |k+1,b,o=>if b.now=10000 then(b,o++(⟨#[99,111,100,101,32]⟩++fd 2))else eH k (LH b) (kU b (gone b.now b.t b.n) o)
def jQ (b:Bk)(i:Nat):ByteArray:=⟨#[32]⟩++(b.f i).name++⟨#[64]⟩++fd (b.t i)++(if(b.f i).prom=-1 then⟨#[]⟩else⟨#[33]⟩)
def jW (b:Bk):List Nat:=(bk<|10001-b.now.toNat).flatMap λk:Nat=>(bk b.n).filter λi=>b.t i==b.now+(k:Nat)
def kS (b:Bk):ByteArray:=((jW b).foldl (λo i=>o++jQ b i)<|fd b.now)++(⟨#[32,108,97,116,101,32]⟩++fd (bU b.f b.n b.t b.n).1++⟨#[32,109,111,115,116,32]⟩++fd (bU b.f b.n b.t b.n).2)
def eQ (s:ByteArray)(n:Nat):Prop:=n<100000/\s=fd n
open Classical in
noncomputable def bG (b:Bk)(k:Nat)(w:Nat->ByteArray):Bk×ByteArray:=
 let u:Bk×ByteArray:=(b,⟨#[98,97,100]⟩)
 if(w 0=⟨#[108,97,110,100]⟩\/w 0=⟨#[108,101,97,118,101]⟩)/\k=4 then
  if h:∃x:Nat×Nat×Nat,eQ (w 2) x.1/\eQ (w 3) x.2.1/\eQ (w 4) x.2.2 then codeF (HJ b ⟨w 1,decide (w 0=⟨#[108,97,110,100]⟩),h.choose.1,h.choose.2.1,h.choose.2.2,-1⟩)else u
 else if w 0=⟨#[100,114,111,112]⟩/\k=1 then codeF (Fx b<|w 1)
 else if w 0=⟨#[114,111,117,110,100]⟩/\k=1 then codeF (GO b<|w 1)
 else if w 0=⟨#[116,105,99,107]⟩/\k=1 then if h:∃n,eQ (w 1) n/\n<=100 then eH h.choose b ⟨#[]⟩else u
 else if w 0=⟨#[112,108,97,110]⟩/\k=0 then(b,kS b)
 else if w 0=⟨#[115,117,114,101]⟩/\k=0 then(b,if fD b.now b.shift b.f b.n b.t b.n=true then⟨#[121,101,115]⟩else⟨#[110,111]⟩)
 else u
noncomputable def uw (b:Bk)(s:ByteArray):Bk×ByteArray:=bG b (aV s.data.toList 32)<|d9 32 s
noncomputable def pV (g:Nat->ByteArray):Nat->Bk×ByteArray
 |0=>(⟨0,2,0,λ_=>Ko,λ_=>0⟩,⟨#[]⟩)
 |k+1=>((uw (pV g k).1<|g k).1,(pV g k).2++(uw (pV g k).1<|g k).2++⟨#[10]⟩)
def te (s:ByteArray):Nat:=let k:=aV s.data.toList 10;if(d9 10 s k).size=0 then k else k+1
noncomputable def xe (s:ByteArray):ByteArray:=if 10000<s.size\/200<te s then⟨#[116,111,111,32,108,111,110,103,10]⟩else(pV (d9 10 s)<|te s).2
end
section
def gQ (h:p:=by intro w' hSw;go_simp):p:=h
def uF {g}(a:W.heap[g]?=some (.cells #[ax .u8<|48+(d:Int)] 5 (0,0)))(f:d<10):(convert 39 9 (au (some ⟨g,0,none⟩) 1 1)).run Tz.prog W=.ok (av ⟨#[48+a7 d]⟩) W:=
 run_convert_bytes_back _ 39 9 5 ⟨g,0,none⟩ 1 [48+a7 d] (Tz.al Tryz.underlying39) (Tz.al Tryz.underlying5) (Tz.al Tryz.underlying9) λj e=>by
  obtain rfl:j=0:=by simpa using e
  rw[show(⟨g,0,none⟩:bz).add 0=⟨g,0,none⟩ from rfl,cell_of_row _ _ _ _ _ _ a];simp;omega
def KL (h:n<10):fd n=⟨#[48+a7 n]⟩:=by unfold fd;rw[bA,be h,UInt8.ofNat_add];rfl
def Fw (h:¬n<10):fd n=fd (n/10:Nat)++⟨#[48+a7 (n%10)]⟩:=by
 unfold fd;rw[bA,bA,aI,dif_neg h];apply bp;simp
def nJ:∀(j n:Nat),n<10^(j+1)->(fd n).size<=j+1
 |j,n,h=>by
  by_cases a:n<10
  .rw[KL a];exact Nat.le_add_left 1 j
  .cases j with
   |zero=>exact absurd h a
   |succ j=>
    have:=nJ j (n/10) (by rw[cc]at h;omega);rw[Fw a,a6];exact Nat.add_le_add_right this 1
def DI:∀(n:Nat) (J:n<1000000) (w:a8),bB Tz.prog 33 #[ax .i64 n] w λe w'=>e=aL (av<|fd n)/\a4 w w w':=by
 intro n;induction n using br with
 |_ n A=>
  intro J w;by_cases h:n<10
  .have h':(n:Int)<10:=by omega
   have hc:=λw=>uF (bM w<|.cells #[ax .u8<|48+(n:Int)] 5) h
   rw[KL h];go_enter Tz.func33,Tryz.ntmps33
   go_wp2;go_ret;exact⟨rfl,(afB _ _).alloc ab _⟩
  have h':¬(n:Int)<10:=by omega
  have u:=λw=>A (n/10) (by omega) (by omega) w
  have O:(n:Int).tdiv 10=((n/10:Nat):Int):=rfl;have R:(n:Int).tmod 10=((n%10:Nat):Int):=rfl;have U:n/10<100000:=by omega
  have y:n%10<10:=by omega
  rw[Fw h];clear A;generalize n/10=k at*;generalize n%10=d at*;have hc:=λw=>uF (bM w<|.cells #[ax .u8<|48+(d:Int)] 5) y
  have Z:¬9223372036854775807<(fd k).size+1:=by have:=nJ 5 k (by omega);omega
  have q1:IntKind.i64.wrap (k:Int)=k:=by rw[IntKind.wrap_i64];omega
  have q2:IntKind.i64.wrap (48+(d:Int))=48+d:=by rw[IntKind.wrap_i64];omega
  have q3:IntKind.u8.wrap (48+(d:Int))=48+d:=by rw[IntKind.wrap_u8];omega
  go_enter Tz.func33,Tryz.ntmps33
  go_wp2;refine ay (S:=a4 w w) aO (afB _ _).drew λhS=>?_;refine aj 0 (ax .i64 n) 16 rfl gQ hS ?_;refine aj 1 (ax .i64 k) 17 rfl gQ hS ?_;refine aj 3 (ax .i64 n) 19 rfl gQ hS ?_;refine aj 4 (ax .i64 d) 20 rfl gQ hS ?_;refine aj 5 (ax .i64<|48+d) 21 rfl gQ hS ?_;refine aj 6 (ax .u8<|48+d) 22 rfl gQ hS ?_;simp only[aB,aa,ac,ai];refine Ls 2 7 rfl rfl (λK f=>?_) λK f=>?_;focus
   go_simp
   go_at_call 33
   refine(u _).mono ?_;rintro e C ⟨rfl,t⟩;refine f.out _ _ (hS.trans<|t.mono hS.size) λhS=>?_
   clear f K t;refine f8 7 rfl λK f=>?_;go_simp
   refine f.out _ _ (hS.alloc hS.size _) λhS=>?_
   clear f K;refine f8 8 rfl λK f=>?_;go_simp
   refine f.out _ _ hS λhS=>?_
   clear f K
  rotate_left;focus
   go_simp
   refine f.out _ _ (hS.alloc hS.size _) λhS=>?_
   clear f K;refine Ls 2 8 rfl rfl (λK f=>?_) λK f=>?_;focus
    go_simp
    go_at_call 33
    refine(u _).mono ?_;rintro e C ⟨rfl,t⟩;have hc:=uF ((t.block _<|by simp[World.drew]).trans<|heap_alloc_new w<|.cells #[ax .u8<|48+(d:Int)] 5) y;refine f.out _ _ (hS.trans<|t.mono hS.size) λhS=>?_
    clear f K t;refine f8 8 rfl λK f=>?_;go_simp
    refine f.out _ _ hS λhS=>?_
    clear f K
   rotate_left;focus
    have hc:=uF (W:=(w.alloc<|.cells #[ax .u8<|48+(d:Int)] 5).drew) (bM w<|.cells #[ax .u8<|48+(d:Int)] 5) y;go_simp
    refine f.out _ _ hS λhS=>?_
    clear f K;refine f8 2 rfl λK f=>?_;go_simp
    go_at_call 33
    refine(u _).mono ?_;rintro e C ⟨rfl,t⟩;refine f.out _ _ (hS.trans<|t.mono hS.size) λhS=>?_
    clear f K t
  all_goals refine f8 9 rfl λK f=>?_
  all_goals go_simp
  all_goals refine f.out _ _ hS λhS=>?_
  all_goals clear f K
  all_goals refine f8 10 rfl λK f=>?_
  all_goals go_simp
  all_goals refine f.out _ _ hS λhS=>?_
  all_goals clear f K
  all_goals refine a9 aO ?_ _
  all_goals go_wp2
  all_goals go_ret
  all_goals exact⟨rfl,hS⟩
def P5 {c}:∀{l:List UInt8} {m:Nat},(∀k,k<m->l[k]?≠some c)->l[m]?=some c->bi l c=m
 |[],_,_,h=>by simp at h
 |x::l,0,_,h=>by simp at h;subst h;simp[bi]
 |x::l,m+1,h,f=>by
  have t:¬x=c:=λe=>h 0 (Nat.zero_lt_succ _)<|by simp[e]
  have u:=P5 (l:=l) (m:=m) (λk hk=>by have:=h (k+1) (by omega);simpa using this) (by simpa using f);have e:((m:Int)==-1)=false:=by simp
  simp[bi,t,u,e]
def t7 (h):s.data.toList[i]?=some s[i]:=by
 rw[af5 yO];rfl
structure pD (c s)(i j fr:Nat):Prop where
 le:fr<=i
 is:gU c s j=s.extract fr s.size
 no:∀k,fr<=k->k<i->s.data.toList[k]?≠some c
 cnt:(s.data.toList.drop i).count c+j=aV s.data.toList c
def pD.start (c s):pD c s 0 0 0:=⟨afK _,by simp[gU],λk _ h=>absurd h<|afO _,rfl⟩
def Pb (s:ByteArray)(a):(s.extract a s.size).data.toList=s.data.toList.drop a:=by
 rw[Lib.extract_data];exact bI cO
def pD.pass (h:pD c s i j fr){x}(f:s.data.toList[i]?=some x)(hc:x≠c):pD c s (i+1) j fr:=by
 refine⟨Nat.le_succ_of_le h.le,h.is,λk t u=>?_,?_⟩
 .by_cases e:k=i
  .grind
  exact h.no k t<|by omega
 have:=h.cnt;rw[bH (afT.1 f).1,b0,(afT.1 f).2]at this;grind
def pD.cut (h:pD c s i j fr)(e:s.data.toList[i]?=some c):pD c s (i+1) (j+1) (i+1)/\d9 c s j=s.extract fr i/\j<aV s.data.toList c:=by
 have t:=(afT.1 e).1;have u:=h.le;have f:bi (gU c s j).data.toList c=(i-fr:Nat):=by
  rw[h.is,Pb];refine P5 (λk hk=>?_) ?_
  .rw[List.getElem?_drop];exact h.no _ (by omega)<|by omega
  grind
 have hc:=h.cnt;rw[bH t,b0,(afT.1 e).2]at hc;simp at hc;have v:i<s.size:=yO;refine⟨⟨afK _,?_,λk y A=>by omega,by omega⟩,?_,by omega⟩
 .show(gU c s j).extract ((bi (gU c s j).data.toList c).toNat+1) (gU c s j).size=_;rw[f,h.is];apply bp;simp[ci];grind
 unfold d9;rw[if_pos (by omega),f,h.is];apply bp;simp;grind
def pD.last (h:pD c s s.size j fr):j=aV s.data.toList c/\d9 c s j=s.extract fr s.size:=by
 have hc:=h.cnt;rw[List.drop_eq_nil_of_le cO]at hc;simp at hc;exact⟨hc,by unfold d9;rw[if_neg (by omega)];exact h.is⟩
def Xs (c:UInt8)(s:ByteArray)(j:Nat):List Value:=(bk j).map λi=>av<|d9 c s i
def GG (c s j):Xs c s j++[av (d9 c s j)]=Xs c s (j+1):=by simp[Xs,bm]
def KJ (s c)(hs:s.size<=1048576)(w):bB Tz.prog 6 #[av s,ax .u8 c.toNat] w λe w'=>(∃B k,e=aL (au (some ⟨B,0,none⟩) (aV s.data.toList c+1) k)/\w'.ownsRow w.heap.size 9 1 (au (some ⟨B,0,none⟩) (aV s.data.toList c+1) k) (aV s.data.toList c+1) (Xs c s<|aV s.data.toList c+1))/\a4 w w w':=by
 let⟨iS,A,Sx,uk,xS⟩:=FU;go_enter Tz.func6,Tryz.ntmps6
 go_wp2;go_loopw [5,6,7] (λv y x W=>∃(i j fr B k:Nat),i<=s.size/\j<=i/\x=ax .i64 i/\y=ax .i64 fr/\v=au (some ⟨B,0,none⟩) j k/\pD c s i j fr/\W.ownsRow w.heap.size 9 1 (au (some ⟨B,0,none⟩) j k) j (Xs c s j)/\a4 w w W) (λ_ _ x _=>s.size-(intOf x).toNat)
 .exact⟨0,0,0,w.heap.size,0,afP _,afK _,rfl,rfl,rfl,pD.start c s,jP ab<|heap_alloc_new _ _,(afB _ _).alloc ab _⟩
 obtain⟨i,j,fr,B,k,hi,hj,rfl,rfl,rfl,hA,C,f⟩:=hrel;by_cases aF:i<s.size
 .have dV:(i:Int)<s.size:=by omega
  have O:=t7 aF;have R:=hA.le;by_cases hc:s[i]=c
  .rw[hc]at O;let⟨U,Z,ad⟩:=hA.cut O;have Cu:(((s[i]).toNat:Int)==c.toNat)=true:=cO;have u:=(afB wr.heap.size wr).alloc ab<|.cells #[av<|s.extract fr i] 9;go_wp2_with(at_builtin;refine bE _ rfl (.tmp 20) (.tmp 25) 24 rfl w.heap.size 9 iS _ 1 16 sV A Sx uk xS rfl bh _ j _ bQ (iT C u) wr.heap.size 1 1 [av (s.extract fr i)] bQ rfl (fx<|heap_alloc_new wr _) sJ iN ab (afN f.size u.size) ?_;intro s5 w5 J Cx _;obtain⟨B5,c5,rfl⟩:=iv J)
   go_roundw
   case rel=>exact⟨i+1,j+1,i+1,B5,c5,by omega,by omega,by go_num,by go_num,rfl,U,by rw[<-GG,Z];exact J,(f.trans<|u.mono f.size).grown Cx (afN f.size u.size)<|dh C⟩
   exact cD
  have Cu:(((s[i]).toNat:Int)==c.toNat)=false:=by simpa usingλh=>hc<|bV.1<|by omega
  go_wp2;go_roundw
  .exact⟨i+1,j,fr,B,k,by omega,by omega,by go_num,rfl,rfl,hA.pass O hc,C,f⟩
  exact cD
 obtain rfl:i=s.size:=by omega
 obtain⟨rfl,Z⟩:=hA.last;have R:=hA.le;have u:=(afB wr.heap.size wr).alloc ab<|.cells #[av<|s.extract fr s.size] 9;go_wp2_with(at_builtin;refine bE _ rfl (.tmp 29) (.tmp 33) 24 rfl w.heap.size 9 iS _ 1 16 sV A Sx uk xS rfl bh _ _ _ bQ (iT C u) wr.heap.size 1 1 [av (s.extract fr s.size)] bQ rfl (fx<|heap_alloc_new wr _) sJ iN ab (afN f.size u.size) ?_;intro s5 w5 J Cx _;obtain⟨B5,c5,rfl⟩:=iv J)
 go_ret;exact⟨⟨B5,c5,rfl,by rw[<-GG,Z];exact J⟩,(f.trans<|u.mono f.size).grown Cx (afN f.size u.size)<|dh C⟩
def oF (b):∀(l:List UInt8) (a:Nat),aE a (l++[b])=(aE a l).bind λm=>(aN b).map λd=>m*10+d
 |[],a=>by simp only[List.nil_append,aE,Option.bind_some];cases aN b<;>rfl
 |x::l,a=>by
  simp only[List.cons_append,aE];cases aN x with
  |none=>rfl
  |some d=>exact oF b l _
def fig (h:d<10):aN (a7<|48+d)=some d:=by
 have:(a7<|48+d).toNat=48+d:=by simp;omega
 unfold aN;grind
def Fu (n):aE 0 (aI n)=some n:=by
 induction n using br with
 |_ n a=>
  rw[aI];split
  .rename_i h;simp only[aE,fig h,Nat.zero_mul,bn]
  rw[oF,a (n/10) (by omega),fig (by omega)];grind
theorem FF (r)(h:l≠[]):(l++r).head?=l.head?:=by cases l with|nil=>exact absurd rfl h|cons=>rfl
def Fv (n):aI n≠[]/\(1<=n->(aI n).head?≠some 48):=by
 induction n using br with
 |_ n e=>
  rw[aI];split
  .refine⟨cO,λf a=>?_⟩;simp at a;have:=congrArg UInt8.toNat a;simp at this;omega
  grind [FF]
def LL {b}(h:aN b=some d):d<10/\b=a7 (48+d):=by
 unfold aN at h;split at h
 .obtain rfl:=afQ h;refine⟨by omega,?_⟩;simp_all
 grind
def O2:∀(k:Nat) (l:List UInt8) (n:Nat),l.length=k+1->aE 0 l=some n->(k=0\/l.head?≠some 48)->aI n=l
 |k,l,n,e,a,A=>by
  obtain⟨l,b,rfl⟩:∃C b,l=C++[b]:=⟨l.dropLast,l.getLast (by intro h;simp[h]at e),(List.dropLast_concat_getLast _).symm⟩;rw[oF]at a;let⟨m,v,a⟩:=af4.1 a;obtain⟨d,E,rfl⟩:=af3.1 a;obtain⟨G,rfl⟩:=LL E;cases k with
  |zero=>
   obtain rfl:l=[]:=by simpa using e
   obtain rfl:0=m:=by simpa[aE]using v
   rw[be (by omega)];simp
  |succ k=>
   have y:l.length=k+1:=by simpa using e
   have f:l≠[]:=by intro h;simp[h]at y
   have t:l.head?≠some 48:=by have:=A.resolve_left (by omega);rwa [FF _ f]at this
   have u:=O2 k l m y v<|bj t;have J:m≠0:=by rintro rfl;rw[be (by decide)]at u;rw[<-u]at t;exact t rfl
   rw[aI,dif_neg (by omega),show(m*10+d)/10=m by omega,show(m*10+d)%10=d by omega,u]
def decFrom_lt (h:aE 0 l=some m)(e:l.length<=5):m<100000:=by
 have f:∀(l:List UInt8) (a m:Nat),aE a l=some m->m<(a+1)*10^l.length:=by
  intro l;induction l with
  |nil=>grind [aE]
  |cons b l t=>
   intro a m h;simp[aE]at h;split at h
   .rename_i d u;have v:=t _ _ h;have y:=(LL u).1;rw[bR,cc,Nat.mul_comm (10^_) 10,<-Nat.mul_assoc];exact afL v<|Nat.mul_le_mul_right _<|by omega
   grind
 have:=f _ _ _ h;rw[bn,Nat.one_mul]at this;exact afL this<|Nat.pow_le_pow_right ab e
def fu:eQ s n<->s.size<=5/\1<=s.size/\(s.size=1\/s.data.toList.head?≠some 48)/\aE 0 s.data.toList=some n:=by
 constructor
 .rintro⟨a,rfl⟩;have e:(fd n).data.toList=aI n:=by simp[fd]
  have t:(fd n).size=(aI n).length:=by simp[fd,cl]
  have f:=Fv n;refine⟨nJ 4 n a,gC,?_,Fu n⟩;grind [be]
 rintro⟨u,v,f,a⟩;have t:s.data.toList.length=s.size:=cO;have y:=O2 (s.size-1) s.data.toList n (by omega) a<|f.imp (by omega) id;refine⟨?_,bp<|by grind [fd]⟩;exact decFrom_lt a<|by omega
def nR (h:eQ s n)(a:eQ s m):n=m:=by
 have:=(fu.1 h).2.2.2;rw[(fu.1 a).2.2.2]at this;grind
def ws:∀{l:List UInt8} {a n i:Nat} {x:UInt8},aE a l=some n->l[i]?=some x->48<=x.toNat/\x.toNat<=57
 |[],_,_,_,_,_,h=>by simp at h
 |b::l,a,n,i,x,h,f=>by
  simp only[aE]at h;split at h
  .rename_i d e;cases i with
   |zero=>
    obtain rfl:b=x:=by simpa using f
    unfold aN at e;split at e
    .assumption
    .cases e
   |succ i=>exact ws h<|by simpa using f
  .cases h
def PI (h):s.data.toList.head?=some s[0]:=by rw[List.head?_eq_getElem?];exact t7 h
def aae (s:ByteArray)(z:Int):Prop:=(∃n:Nat,eQ s n/\z=n)\/(¬∃n,eQ s n)/\z=-1
def UL (s:ByteArray)(V:s.size<=1048576)(w:a8):bB Tz.prog 32 #[av s] w λe w'=>(∃z,e=aL (ax .i64 z)/\aae s z)/\a4 w w w':=by
 by_cases y:1<=s.size/\s.size<=5
 .have L:jj s.size 1 5=true:=by unfold jj;grind
  have O:0<s.size:=by omega
  have Z:=PI O;by_cases t:(1:Int)<s.size/\s[0]=48
  .let⟨t,h0⟩:=t;have Q:(((s[0]).toNat:Int)==48)=true:=cO;go_enter Tz.func32,Tryz.ntmps32
   go_wp2_with(go_at_call 59;refine(gL _ _ _ _).mono ?_;rintro e w' ⟨rfl,rfl⟩)
   go_ret;refine⟨⟨-1,rfl,bj ⟨λ⟨n,h⟩=>?_,rfl⟩⟩,afB _ _⟩;have:=(fu.1 h).2.2.1;grind
  have A:s.size=1\/s.data.toList.head?≠some 48:=by
   grind
  have C:(¬(1:Int)<s.size)\/(1:Int)<s.size/\(((s[0]).toNat:Int)==48)=false:=by
   exact if e:(1:Int)<s.size then bj ⟨e,by simpa usingλh=>t ⟨e,bV.1<|by simpa using ab⟩⟩else bv e
  have A:Hid _:=A;clear t;rcases C with C|⟨C,h4⟩;all_goals go_enter Tz.func32,Tryz.ntmps32
  all_goals go_wp2_with(go_at_call 59;refine(gL _ _ _ _).mono ?_;rintro e w' ⟨rfl,rfl⟩)
  all_goals go_loopw [3,4] (λv x W=>∃i m:Nat,i<=s.size/\x=ax .i64 i/\v=ax .i64 m/\aE 0 (s.data.toList.take i)=some m/\a4 w' w' W) (λ_ x _=>s.size-(intOf x).toNat)
  .exact⟨0,0,afP _,rfl,rfl,rfl,afB _ _⟩
  case atStart=>exact⟨0,0,afP _,rfl,rfl,rfl,afB _ _⟩
  all_goals obtain⟨i,m,hi,rfl,rfl,u,E⟩:=hrel
  all_goals have hl:=decFrom_lt u gC
  all_goals by_cases R:i<s.size
  all_goals first
   |(have J:=t7 R
     have dV:(i:Int)<s.size:=by omega
     have f:¬(48<=(s[i]).toNat/\(s[i]).toNat<=57)->aae s (-1):=λh=>bj ⟨λ⟨n,S⟩=>h<|ws (fu.1 S).2.2.2 J,rfl⟩
     by_cases d1:((s[i]).toNat:Int)<48
     .go_wp2;go_ret;exact⟨⟨-1,rfl,f<|by omega⟩,E⟩
     .by_cases d2:(57:Int)<(s[i]).toNat
      .go_wp2;go_ret;exact⟨⟨-1,rfl,f<|by omega⟩,E⟩
      have U:aN s[i]=some ((s[i]).toNat-48):=by unfold aN;grind
      have hn:=Lib.decFrom_take _ _ _ _ _ _ u J U;clear f;go_wp2;go_roundw
      .grind
      exact cD)
   |(obtain rfl:i=s.size:=by omega
     rw[bI yO]at u;go_wp2;go_ret;exact⟨⟨m,rfl,bv ⟨m,fu.2 ⟨y.2,y.1,A.out,u⟩,rfl⟩⟩,E⟩)
 have L:jj s.size 1 5=false:=by unfold jj;grind
 go_enter Tz.func32,Tryz.ntmps32
 go_wp2_with(go_at_call 59;refine(gL _ _ _ _).mono ?_;rintro e w' ⟨rfl,rfl⟩)
 go_ret;exact⟨⟨-1,rfl,bj ⟨λ⟨n,h⟩=>y ⟨(fu.1 h).2.1,(fu.1 h).1⟩,rfl⟩⟩,afB _ _⟩
def Ij (w:a8)(b off n:Nat)(g:Nat->ByteArray):Prop:=∀i,i<n->w.cell? ⟨b,off+i,none⟩=some (av<|g i)
def Ij.below {b off}(h:Ij w b off n g)(a:a4 w w w')(e:b<w):Ij w' b off n g:=λi f=>(a.cell e).trans<|h i f
def ZZ (L:List Nat):List Value:=L.map λ(x:Nat)=>ax .i64 x
def yC (g:Nat->ByteArray)(L:List Nat):Prop:=∀i x,L[i]?=some x->eQ (g i) x
def yC.snoc {L}(h:yC g L)(f:eQ (g L.length) x):yC g (L++[x]):=λi y a=>by
 by_cases e:i<L.length
 .rw[afV e]at a;exact h i y a
 .rw[afW (by omega)]at a;have:i-L.length=0:=by
   have:=(afT.1 a).1;simp at this;omega
  grind
def Gu (B off n c:Nat)(g)(w:a8)(hn:n<=1048576)(hg:∀i,i<n->(g i).size<=1048576)(hB:B<w)(hr:Ij w B off n g):
  bB Tz.prog 14 #[au (some ⟨B,off,none⟩) n c] w λe w'=>(∃D l k r,e=aL (bs #[au (some ⟨D,0,none⟩) l k,ch r])/\(r=true/\(∃L,L.length=n/\l=n/\yC g L/\w'.ownsRow w.heap.size 3 1 (au (some ⟨D,0,none⟩) l k) l (ZZ L))\/r=false/\∃i,i<n/\¬∃x,eQ (g i) x))/\a4 w w w':=by
 let⟨i0,hI,gK,eO,fZ⟩:=ur;go_enter Tz.func14,Tryz.ntmps14
 go_wp2;go_loopw [4,5] (λv x W=>∃(i D k:Nat) (L:List Nat),i<=n/\L.length=i/\x=ax .i64 i/\v=au (some ⟨D,0,none⟩) i k/\yC g L/\W.ownsRow w.heap.size 3 1 (au (some ⟨D,0,none⟩) i k) i (ZZ L)/\a4 w w W) (λ_ x _=>n-(intOf x).toNat)
 .exact⟨0,w.heap.size,0,[],afP _,rfl,rfl,rfl,(λi x h=>cO),jP ab<|heap_alloc_new _ _,(afB _ _).alloc ab _⟩
 obtain⟨i,D,k,L,hi,R,rfl,rfl,U,A,f⟩:=hrel;have C:Hid _:=R;clear R;by_cases J:i<n
 .have dV:(i:Int)<n:=by omega
  have hc:=hr.below f hB i J;have H:=UL (g i)<|hg i J;go_wp2_with(first
   |(go_at_call 32;refine(H _).mono ?_;clear H;rintro e u ⟨⟨z,rfl,hz⟩,t⟩;rcases hz with⟨x,O,rfl⟩|⟨O,rfl⟩)
   |(at_builtin;have y:=(afB u.heap.size u).alloc ab<|.cells #[ax .i64 x] 3;refine bE _ rfl (.tmp 22) (.tmp 24) 27 rfl w.heap.size 3 i0 _ 1 8 iH hI gK eO fZ rfl bh _ i _ bQ (iT (iT A t) y) u.heap.size 1 1 [ax .i64 x] bQ rfl (fx<|heap_alloc_new u _) sJ iN ab (afN f.size<|afN t.size y.size) ?_;intro s5 w5 Z Cx _;obtain⟨B5,c5,rfl⟩:=iv Z))
  .go_roundw
   case rel=>exact⟨i+1,B5,c5,L++[x],by omega,by rw[List.length_append,C.out];rfl,by go_num,rfl,U.snoc (by rw[C.out];exact O),by rw[ZZ,List.map_append];exact Z,((f.trans<|t.mono f.size).trans<|y.mono<|afN f.size t.size).grown Cx (afN f.size<|afN t.size y.size)<|dh A⟩
   exact cD
  exact bt (v:=bs #[au (some ⟨D,0,none⟩) i k,ch false]) (by simp[bO,Tryz.f14,go_sem]) rfl ⟨⟨_,_,_,_,rfl,bj ⟨rfl,i,J,O⟩⟩,f.trans<|t.mono f.size⟩
 obtain rfl:i=n:=by omega
 go_wp2;exact bt (by simp[bO,Tryz.f14,go_sem]) rfl ⟨⟨_,_,_,_,rfl,bv ⟨rfl,L,C.out,rfl,U,A⟩⟩,f⟩
def Hl (h:p:=by intro w' hSw;obtain⟨-,s0,s1,s2,s3,s4⟩:=hSw;go_simp):p:=h
def Kr (w:a8)(N:Nat)(x0 x1:Int)(v u:Value)(w':a8):Prop:=a4 w w w'/\w'.cell? N=some (ax .i64 x0)/\w'.cell? ⟨N,1,none⟩=some (ax .i64 x1)/\w'.cell? ⟨N,2,none⟩=some v/\w'.cell? ⟨N,3,none⟩=some u/\∀j,w'.frozen? ⟨N,j,none⟩=false
def Kr.of {v u}(a:a4 w w w')(h:aR w' N x0 x1 v u):Kr w N x0 x1 v u w':=⟨a,h.cells⟩
def yW (now shift ao n cp bo m t cd)(h0:0<=cd)(h6:cd<=6)(w):
  bB Tz.prog 15 #[bb #[ax .i64 now,ax .i64 shift,au ao n cp,au bo m t],ax .i64 cd] w λe w'=>e=aL (bs #[bb #[ax .i64 now,ax .i64 shift,au ao n cp,au bo m t],av<|⟨#[99,111,100,101,32]⟩++fd cd])/\a4 w w w':=by
 obtain⟨k,rfl⟩:∃k:Nat,cd=k:=⟨cd.toNat,by omega⟩;have H:=λw=>DI k (by omega) w
 have hz:¬9223372036854775807<5+(fd k).size:=by have:=nJ 5 k (by omega);omega
 let⟨Z,e1,k1,J,A⟩:=boxed w now shift ao n cp bo m t;let⟨W2,e2,u,O,z2⟩:=boxed Z 0 0 none 0 0 none 0 0;have f:=J.trans<|O.mono J.size;have k1:=k1.same<|O.block _ k1.lt;replace A:Hid _:=A;clear z2;go_enter Tz.func15,Tryz.ntmps15
 go_wp2;refine ay aO (Kr.of f.drew k1) λhS=>aj 0 (bb #[ax .i64 now,ax .i64 shift,au ao n cp,au bo m t]) 6 rfl Hl hS<|aj 1 (ax .i64 k) 7 rfl Hl hS ?_;simp[aB,aa,ac,ai];refine f8 2 rfl λK y=>?_;go_simp
 go_at_call 33
 refine(H _).mono ?_;rintro e w3 ⟨rfl,C⟩;have f:=f.drew.trans<|C.mono f.size;have k1:=k1.same<|C.block _ k1.lt;have u:=u.same<|C.block _ u.lt;refine y.out _ _ (Kr.of f k1) λhS=>?_
 clear y K C;refine aj 3 (av<|⟨#[99,111,100,101,32]⟩++fd k) 9 rfl Hl hS ?_;simp only[aB,aa,ac,ai];refine f8 4 rfl λK y=>?_;let⟨y0,y1,y2,y3,y4⟩:=u.cells;let⟨W5,e5,k5,R,U,o5⟩:=aJ u f (afN (ce _)<|a3 A.out.symm) now shift ao n cp bo m t;replace U:Hid _:=U;go_simp
 refine y.out _ _ (Kr.of R<|k1.same<|o5 _ (by have:=A.out;omega)) λhS=>?_
 clear y K;refine aj 5 (av<|⟨#[99,111,100,101,32]⟩++fd k) 5 rfl Hl hS<|wpAnyH_done aO ?_ _;simp only[aB,aa,ac,ai];go_wp2;let⟨q0,q1,q2,q3,q4⟩:=k5.cells;exact bt (by simp[bO,Tryz.f15,go_sem,q0,q1,q2,q3]) rfl ⟨rfl,R⟩
structure fp (X:Nat->Prop)(W)(b:Bk)(s2 c2 s3 c3):Prop where
 sm:qe W s2 b.n c2 b.f
 si:pN W s3 b.n c3 b.t
 rm:b.n<=c3
 ne:∀a,s2=some a\/s3=some a->¬X a.block
section
variable {Y:Nat->Prop}{b:Bk}
def Bk.ok.Ns (h:b.ok):b.n<=6:=by
 have:=(bK h).1;unfold aG at this;grind
def Bk.ok.name (h:b.ok)(t:i<b.n):(b.f i).name.size<=8:=by have:=Ld<|bd (bK h).1 i t;omega
def fp.bq (h:fp X W b s2 c2 s3 c3)(u:b.ok):Bq W b.now b.shift s2 b.n c2 b.f s3 b.n c3 b.t:=by
 have r:=gd u;have v:s2=none\/s3=none->b.n=0:=λe=>e.elim (λe=>(h.sm.1 e).1) λe=>(h.si.1 e).1
 exact⟨u.Ns,u.Ns,h.sm,h.si,λe=>⟨v e,v e,r.1,r.2.1⟩,λi y=>Ew<|bd (bK u).1 i y⟩
def fp.set (h:fp X W b s2 c2 s3 c3)(e:∀k,¬X k->W'.heap[k]?=W.heap[k]?)(y:W.heap.size<=W'):fp X W' b s2 c2 s3 c3:=
 ⟨⟨h.sm.1,λf a=>by let⟨x,t,u,v⟩:=h.sm.2 f a;exact⟨x,t,afL u y,dJ v<|e x (by have:=h.ne f<|bv a;rwa [t]at this)⟩⟩,
  ⟨h.si.1,λf a=>by let⟨x,t,u,v⟩:=h.si.2 f a;exact⟨x,t,afL u y,lZ v<|e x (by have:=h.ne f<|bj a;rwa [t]at this)⟩⟩,h.rm,h.ne⟩
def fp.grow (h:fp X W b s2 c2 s3 c3)(a:a4 W W W'):fp X W' b s2 c2 s3 c3:=⟨h.sm.bl<|Bl.of a,h.si.bl<|Bl.of a,h.rm,h.ne⟩
def If.rows {v l}(h:If W v s2 l c2 F s3 o c3 T)(ho:o=l)(y:∀x,X x->x<v):fp X W ⟨a0,a1,l,F,T⟩ s2 c2 s3 c3:=by
 subst ho;rcases h with⟨rfl,rfl,rfl,rfl,-,rfl⟩|⟨x,A,rfl,rfl,f,C,t⟩
 .exact⟨⟨λ_=>⟨rfl,rfl⟩,λ_ h=>nomatch h⟩,⟨λ_=>⟨rfl,rfl⟩,λ_ h=>nomatch h⟩,afK _,λa h=>cO⟩
 exact⟨⟨(λh=>nomatch h),λE e=>by cases e;exact⟨x,rfl,(fE f).2.1,eh f⟩⟩,⟨(λh=>nomatch h),λE e=>by cases e;exact⟨A,rfl,t.lt,t.2.2⟩⟩,C,λa h=>by
  rcases h with h|h<;>cases h
  .exact λu=>cb _ (afL (y _ u) (fE f).1)
  .exact λu=>cb _<|afL (y _ u) t.1⟩
def fp.more (h:fp X W b s2 c2 s3 c3)(u:∀x,Y x->X x\/W.heap.size<=x):fp Y W b s2 c2 s3 c3:=
 ⟨h.sm,h.si,h.rm,λa e v=>by
  rcases u _ v with f|f
  .exact h.ne a e f
  .rcases e with e|e
   .obtain⟨x,rfl,t,_⟩:=h.sm.2 a e;exact absurd f (cf.2 t)
   .obtain⟨x,rfl,t,_⟩:=h.si.2 a e;exact absurd f<|cf.2 t⟩
end
def Ka (b l i o):kU b (l++[i]) o=kU b l o++(b.f i).name++⟨#[32]⟩:=by simp[kU,a2]
def jS {b}(hb:b.ok):∀(l:List Nat) (o:ByteArray),(∀i∈l,i<b.n)->(kU b l o).size<=o.size+9*l.length
 |[],o,_=>afK _
 |i::l,o,h=>by
  have:=jS hb l (o++((b.f i).name++⟨#[32]⟩)) (λj t=>h j<|by simp[t]);have u:=hb.name (h i<|by simp);simp only[kU,List.foldl_cons,bR]at this⊢;simp only[a6,show(⟨#[32]⟩:ByteArray).size=1 from rfl]at this;omega
def qk (f:0<=z)(h:z<1000000)(w):bB Tz.prog 33 #[ax .i64 z] w λe w'=>e=aL (av<|fd z)/\a4 w w w':=by
 obtain⟨n,rfl⟩:∃n:Nat,z=n:=⟨z.toNat,by omega⟩;exact DI n (by omega) w
def dy (h:z<1000000):(fd z).size<=6:=by
 by_cases e:0<=z
 .obtain⟨n,rfl⟩:∃n:Nat,z=n:=⟨z.toNat,by omega⟩;exact nJ 5 n<|by omega
 unfold fd;rw[show z.toNat=0 by omega];decide +kernel
def CO {t f u v l}(h:W.ownsRow t 9 1 (au u l.length v) l.length (nL f l))(A):∃B,u=some ⟨B,0,none⟩/\W.cell? ⟨B,j,none⟩=some (av (f l[j]).name):=by
 let⟨B,c,y⟩:=UV h ab;cases y;exact⟨B,rfl,(h.cellAt j<|by omega).trans<|by grind [nL]⟩
def NM (b)(hb:b.ok)(s2 c2 s3 c3)(n:Nat)(hn:n<=100)(w:a8)(X:Nat->Prop)(hX:∀x,X x->x<w)(hR:fp X w b s2 c2 s3 c3):
  bB Tz.prog 19 #[bb #[ax .i64 b.now,ax .i64 b.shift,au s2 b.n c2,au s3 b.n c3],ax .i64 n] w λe w'=>(∃s2 c2 s3 c3,e=aL (bs #[bb #[ax .i64 (eH n b ⟨#[]⟩).1.now,ax .i64 (eH n b ⟨#[]⟩).1.shift,au s2 (eH n b ⟨#[]⟩).1.n c2,au s3 (eH n b ⟨#[]⟩).1.n c3],av (eH n b ⟨#[]⟩).2])/\fp X w' (eH n b ⟨#[]⟩).1 s2 c2 s3 c3)/\a4 w w w':=by
 let⟨W1,e1,k1,b1,z1⟩:=boxed w b.now b.shift s2 b.n c2 s3 b.n c3;let⟨W2,e2,y,b2,z2⟩:=boxed W1 0 0 none 0 0 none 0 0;have A:=b1.trans<|b2.mono b1.size;have k1:=k1.same<|b2.block _ k1.lt;have hR:=(hR.more (Y:=λx=>X x\/x=w.heap.size\/x=W1.heap.size) λx h=>h.imp id λh=>by omega).grow A;obtain⟨R,p6⟩:∃R,eH n b ⟨#[]⟩=R:=⟨_,rfl⟩;rw[p6];replace p6:Hid (eH n b ⟨#[]⟩=R):=p6;have hM:w.heap.size<W1.heap.size:=by omega
 clear z1 z2 b1 b2;go_enter Tz.func19,Tryz.ntmps19
 go_wp2;clear e1 e2;generalize W1.heap.size=M at*;go_loopw [6,7] (λo x W=>∃(k:Nat) (u:Bk) (t2:Option bz) (d2:Nat) (t3:Option bz) (d3:Nat) (out:ByteArray),k<=n/\x=ax .i64 k/\o=av out/\u.ok/\Hid (eH (n-k) u out=R)/\out.size<=54*k/\aR W w.heap.size u.now u.shift (au t2 u.n d2) (au t3 u.n d3)/\fp (λx=>X x\/x=w.heap.size\/x=M) W u t2 d2 t3 d3/\aR W M 0 0 (au none 0 0) (au none 0 0)/\a4 w w W) (λ_ x _=>n-(intOf x).toNat)
 case atStart=>exact⟨0,b,s2,c2,s3,c3,_,afP _,rfl,rfl,hb,by rw[Nat.sub_zero];exact p6,afK _,k1,hR,y,A⟩
 clear p6 hR k1 y A hb;obtain⟨k,u,t2,d2,t3,d3,out,hk,rfl,rfl,hb,hF,ho,k1,hR,y,A⟩:=hrel;let⟨y0,y1,y2,y3,y4⟩:=k1.cells;by_cases aF:k<n
 .have dV:(k:Int)<n:=by omega
  have H:=C' u.now u.shift t2 u.n d2 u.f t3 u.n d3 u.t wr<|hR.bq hb;by_cases C:u.now=10000
  .have HX:Hid _:=C;clear C;go_wp2_with(go_at_call 43;refine H.mono ?_;clear H;rintro e w3 ⟨⟨a0,a1,p2,l,Z,F,p3,o,q3,T,sa,js,sc,r,cd,rfl,hO,hQ,bo,J⟩,b3⟩;let⟨Up,hq⟩:=hO.eq hb;obtain⟨-,-,-,rfl⟩:=hq.resolve_right λh=>h.1 HX.out;clear hq hO hQ bo J Up;let⟨W8,e8,k8,b8,z8⟩:=boxed w3 0 0 none 0 0 none 0 0;have bx:=A.trans<|b3.mono A.size;let⟨x0,x1,x2,x3,x4⟩:=k8.cells;let⟨W9,e9,k9,b9,z9,o9⟩:=aJ k8 b8 ab a0 a1 p2 l Z p3 o q3;replace z8:Hid _:=z8;replace z9:Hid _:=z9)
   have H:=λw=>DI 2 (by decide) w
   have b9:=b3.trans<|b9.mono b3.size;have k1:=k1.same<|b9.block _ k1.lt;have y:=y.same<|b9.block _ y.lt;have hR:=hR.grow b9;have ad:=A.trans<|b9.mono A.size;have eO:¬9223372036854775807<out.size+5:=by omega
   have fZ:¬9223372036854775807<out.size+5+(fd 2).size:=by have:(fd 2).size<=6:=nJ 5 2 (by decide);omega
   refine ay aO (Kr.of ad.drew k1) λhS=>aj 0 (bb #[ax .i64 u.now,ax .i64 u.shift,au t2 u.n d2,au t3 u.n d3]) 25 rfl Hl hS<|aj 1 (av out) 26 rfl Hl hS<|aj 2 (av<|out++⟨#[99,111,100,101,32]⟩) 27 rfl Hl hS<|aj 3 (ax .i64 2) 28 rfl Hl hS ?_;simp only[aB,aa,ac,ai];refine f8 4 rfl λK hK=>?_;go_simp
   go_at_call 33
   refine(H _).mono ?_;rintro e w4 ⟨rfl,O⟩;have A:=ad.drew.trans<|O.mono ad.size;have k1:=k1.same<|O.block _ k1.lt;have y:=y.same<|O.block _ y.lt;have hR:=hR.grow<|(afB _ W9).drew.trans O;refine hK.out _ _ (Kr.of A k1) λhS=>?_
   clear hK K O;refine aj 5 (av<|out++⟨#[99,111,100,101,32]⟩++fd (2:Nat)) 30 rfl Hl hS ?_;simp only[aB,aa,ac,ai];refine f8 6 rfl λK hK=>?_;let⟨y0,y1,y2,y3,y4⟩:=y.cells;let⟨W5,e5,k5,b5,U,o5⟩:=aJ y A ab u.now u.shift t2 u.n d2 t3 u.n d3;replace U:Hid _:=U;go_simp
   refine hK.out _ _ (Kr.of b5<|k1.same<|o5 _<|af1 hM) λhS=>?_
   clear hK K;refine aj 7 (av<|out++⟨#[99,111,100,101,32]⟩++fd (2:Nat)) 5 rfl Hl hS ?_;refine a9 aO ?_ _;simp only[aB,aa,ac,ai];go_wp2;let⟨q0,q1,Z,q3,q4⟩:=k5.cells;have hF:R=(u,out++⟨#[99,111,100,101,32]⟩++fd (2:Nat)):=by
    rw[<-hF.out,show n-k=(n-k-1)+1 by omega,eH,if_pos HX.out,a2];rfl
   subst hF;exact bt (v:=bs #[bb #[ax .i64 u.now,ax .i64 u.shift,au t2 u.n d2,au t3 u.n d3],av<|out++⟨#[99,111,100,101,32]⟩++fd (2:Nat)]) (by simp[bO,Tryz.f19,go_sem,q0,q1,Z,q3]) rfl ⟨⟨_,_,_,_,rfl,(hR.set (λx C=>o5 x λe=>C<|bj<|bj e)<|a3 U.out.symm).more λx C=>bv<|bv C⟩,b5⟩
  .have HX:Hid _:=C;clear C;have hN:∀x,X x\/x=w.heap.size\/x=M->x<wr.heap.size:=λx h=>h.elim (λh=>afL (hX x h) A.size) λh=>h.elim (λh=>h▸k1.lt) λh=>h▸y.lt
   replace hN:Hid _:=hN;have Ss:Hid (w.heap.size<wr.heap.size):=k1.lt;go_wp2_with(go_at_call 43;refine H.mono ?_;clear H;rintro e w3 ⟨⟨a0,a1,p2,l,Z,F,p3,o,q3,T,sa,js,sc,r,cd,rfl,hO,hQ,rfl,J⟩,b3⟩;let⟨Up,hq⟩:=hO.eq hb;obtain⟨-,hT,Wr,rfl⟩:=hq.resolve_left λh=>HX.out h.1;subst Up;replace hQ:Hid _:=hQ.rows (a0:=a0) (a1:=a1) rfl hN.out;replace hT:Hid _:=hT;replace Wr:Hid _:=Wr;clear hq hO hN;let⟨W8,e8,k8,b8,z8⟩:=boxed w3 0 0 none 0 0 none 0 0;have bx:=A.trans<|b3.mono A.size;let⟨x0,x1,x2,x3,x4⟩:=k8.cells;let⟨W9,e9,k9,b9,z9,o9⟩:=aJ k8 b8 (afK _) a0 a1 p2 o Z p3 o q3;let⟨v0,v1,v2,v3,v4⟩:=k9.cells;have ao:=b3.trans<|b9.mono b3.size;have k1:=k1.same<|ao.block _ k1.lt;have y:=y.same<|ao.block _ y.lt;let⟨y0,y1,y2,y3,y4⟩:=k1.cells;let⟨W5,e5,k5,b5,U,o5⟩:=aJ k1 (A.trans<|ao.mono A.size) (afK _) a0 a1 p2 o Z p3 o q3;replace z8:Hid _:=z8;replace z9:Hid _:=z9;replace U:Hid _:=U)
   have hR:fp (λx=>X x\/x=w.heap.size\/x=M) W5 ⟨a0,a1,o,F,T⟩ p2 Z p3 q3:=(hQ.out.grow b9).set (λx C=>o5 x λe=>C<|bj<|bv e)<|a3 U.out.symm;have y:=y.same<|o5 _<|af0 hM;have b6:r.length<=6:=by rw[Wr.out];exact afN (ql _ _ _) hb.Ns
   have Zy:∀i,i∈r->i<u.n:=λi hi=>by rw[Wr.out]at hi;exact(qm hi).1
   have bL:∀j (hj:j<r.length),∃B,sa=some ⟨B,0,none⟩/\W5.cell? ⟨B,j,none⟩=some (av (u.f r[j]).name):=λj hj=>by
    obtain⟨B,rfl,hc⟩:=CO J hj;have hl:=kO J;have ug:=dh J B rfl;have e:W5.heap[B]?=w3.heap[B]?:=(o5 _<|af0<|afL Ss.out ug).trans<|b9.block _ hl.1;exact⟨B,rfl,by rw[<-hc];unfold World.cell?;rw[e]⟩
   clear J e5 e9 e8 o5 o9 k9 k8 x0 x1 x2 x3 x4 v0 v1 v2 v3 v4 y0 y1 y2 y3 y4 hQ;go_loopw [6,11] (λo x W=>∃j:Nat,j<=r.length/\x=ax .i64 j/\o=av (kU u (r.take j) out)/\W=W5) (λ_ x _=>r.length-(intOf x).toNat)
   case atStart=>exact⟨0,afP _,rfl,rfl,rfl⟩
   case round=>
    obtain⟨j,hj,rfl,rfl,rfl⟩:=hrel;by_cases aZ:j<r.length
    .have b7:(j:Int)<r.length:=by omega
     obtain⟨B,rfl,hc⟩:=bL j aZ;have hs:=jS hb (r.take j) out λi hi=>Zy i<|bN hi;rw[bS]at hs;have gK:=hb.name<|Zy _<|List.getElem_mem aZ;have eO:¬9223372036854775807<(kU u (r.take j) out).size+(u.f r[j]).name.size:=by omega
     have fZ:¬9223372036854775807<(kU u (r.take j) out).size+(u.f r[j]).name.size+1:=by omega
     clear hs gK;go_wp2;go_roundw
     case rel=>exact⟨j+1,by omega,by go_num,by rw[List.take_succ_eq_append_getElem aZ,Ka],trivial⟩
     exact cD
    obtain rfl:j=r.length:=by omega
    go_wp2;go_roundw
    case rel=>
     refine⟨k+1,⟨a0,a1,o,F,T⟩,p2,Z,p3,q3,_,by omega,by go_num,rfl,by rw[<-hT.out];exact J9 hb HX.out,?_,?_,k5,hR,y,b5⟩
     .rw[<-hF.out,show n-k=(n-(k+1))+1 by omega,eH,if_neg HX.out,hT.out,List.take_length,Wr.out];exact rfl
     have:=jS hb (r.take r.length) out λi hi=>Zy i<|bN hi;rw[bS,Nat.min_self]at this;omega
    case measure=>exact cD
 obtain rfl:k=n:=by omega
 have hr:=(gd hb).1;have H:=λw=>qk hr.1 (by omega) w
 have eO:¬9223372036854775807<out.size+4:=by omega
 have fZ:¬9223372036854775807<out.size+4+(fd u.now).size:=by have:=dy (z:=u.now) (by omega);omega
 clear hr;go_wp2;refine ay aO (Kr.of A.drew k1) λhS=>?_;refine aj 0 (bb #[ax .i64 u.now,ax .i64 u.shift,au t2 u.n d2,au t3 u.n d3]) 45 rfl Hl hS ?_;refine aj 1 (av out) 46 rfl Hl hS ?_;refine aj 2 (av<|out++⟨#[110,111,119,32]⟩) 47 rfl Hl hS ?_;refine aj 3 (a5<|some w.heap.size) 48 rfl Hl hS ?_;refine aj 4 (ax .i64 u.now) 49 rfl Hl hS ?_;simp only[aB,aa,ac,ai];refine f8 5 rfl λK hK=>?_;go_simp
 go_at_call 33
 refine(H _).mono ?_;rintro e w4 ⟨rfl,O⟩;have bl:=A.drew.trans<|O.mono A.size;have k1:=k1.same<|O.block _ k1.lt;have y:=y.same<|O.block _ y.lt;have hR:=hR.grow<|(afB _ wr).drew.trans O;refine hK.out _ _ (Kr.of bl k1) λhS=>?_
 clear hK K O;refine aj 6 (av<|out++⟨#[110,111,119,32]⟩++fd u.now) 51 rfl Hl hS ?_;simp only[aB,aa,ac,ai];refine f8 7 rfl λK hK=>?_;let⟨y0,y1,y2,y3,y4⟩:=y.cells;let⟨W5,e5,k5,b5,U,o5⟩:=aJ y bl ab u.now u.shift t2 u.n d2 t3 u.n d3;replace U:Hid _:=U;go_simp
 refine hK.out _ _ (Kr.of b5<|k1.same<|o5 _<|af1 hM) λhS=>?_
 clear hK K;refine aj 8 (av<|out++⟨#[110,111,119,32]⟩++fd u.now) 5 rfl Hl hS<|wpAnyH_done aO ?_ _;simp only[aB,aa,ac,ai];go_wp2;let⟨q0,q1,Z,q3,q4⟩:=k5.cells;obtain rfl:R=(u,out++⟨#[110,111,119,32]⟩++fd u.now):=by rw[<-hF.out,Nat.sub_self];rfl
 exact bt (by simp[bO,Tryz.f19,go_sem,q0,q1,Z,q3]) rfl ⟨⟨_,_,_,_,rfl,(hR.set (λx C=>o5 x λe=>C<|bj<|bj e)<|a3 U.out.symm).more λx C=>bv<|bv C⟩,b5⟩
def plO (b:Bk)(L:List Nat):ByteArray:=L.foldl (λo i=>o++jQ b i)<|fd b.now
def GH (b L i):plO b (L++[i])=plO b L++jQ b i:=by simp[plO]
def fg (b:Bk)(k i:Nat):List Nat:=((bk k).flatMap λk:Nat=>(bk b.n).filter λi=>b.t i==b.now+(k:Nat))++(bk i).filter λi=>b.t i==b.now+(k:Nat)
def uJ (b k):fg b k b.n=fg b (k+1) 0:=by simp[fg,bm]
def pn {b:Bk}(h:b.t i=b.now+(k:Nat)):fg b k (i+1)=fg b k i++[i]:=by simp[fg,bm,h]
def wW {b:Bk}(h:¬b.t i=b.now+(k:Nat)):fg b k (i+1)=fg b k i:=by simp[fg,bm,h]
def OZ {ao bo ca da}(w):bB Tz.prog 44 #[au ao 0 ca,au bo 0 da] w λe w'=>e=aL (bs #[(0:Int),(0:Int)])/\a4 w w w':=by
 have h:∀w,bB Tz.prog 65 #[au ao 0 ca,au bo 0 da] w λe w'=>e=aL (bs #[(0:Int),(0:Int)])/\w'=w:=λw=>by
  go_enter Tz.func65,Tryz.ntmps65
  go_wp2;go_loopw [6,7,8] (λa b x W=>a=ax .i64 0/\b=ax .i64 0/\x=ax .i64 0/\W=w) (λ_ _ _ _=>0)
  case atStart=>grind
  obtain⟨rfl,rfl,rfl,rfl⟩:=hrel;go_wp2;go_ret2
  simp
 have f:=uT (ao:=ao) (ca:=ca) (bo:=bo) (da:=da) w;go_enter Tz.func44,Tryz.ntmps44
 go_wp2_with(first|(go_at_call 60;refine f.mono ?_;clear f;rintro e t ⟨rfl,u⟩)|(go_at_call 65;refine(h _).mono ?_;rintro e v ⟨rfl,rfl⟩))
 go_ret2
 simp_all
def DH {b:Bk}(h:b.ok):(0<=(bU b.f b.n b.t b.n).1/\(bU b.f b.n b.t b.n).1<=60000)/\0<=(bU b.f b.n b.t b.n).2/\(bU b.f b.n b.t b.n).2<=10000:=by
 have hs:=(gb.fits (bK h).1 (bK h).2.2).sum b.n ab;have u:=h.Ns;unfold bU;grind
theorem fp.cost {b}(h:fp X W b s2 c2 s3 c3)(u:b.ok):bB Tz.prog 44 #[au s2 b.n c2,au s3 b.n c3] W λe w'=>e=aL (bs #[ax .i64 (bU b.f b.n b.t b.n).1,ax .i64 (bU b.f b.n b.t b.n).2])/\a4 W W w':=by
 have y:=u.Ns;refine(h.bq u).cases (λv _ _ _=>?_) λb R v A hb C J O=>?_
 .rw[v,show bU b.f 0 b.t 0=(0,0) by unfold bU;split<;>rfl];exact OZ W
 subst v A;exact ED _ _ _ _ _ _ _ _ _ _ W (by omega) (afN y<|by decide) hb C (h.bq u).fit J O
def BxN (w:a8)(N:Nat)(x0 x1:Int)(v u:Value)(q:bz)(s:ByteArray)(w':a8):Prop:=Kr w N x0 x1 v u w'/\w'.cell? q=some (av s)
def NK (h:p:=by intro w' hSw;obtain⟨⟨-,s0,s1,s2,s3,s4⟩,s5⟩:=hSw;go_simp):p:=h
def QQ (b)(hb:b.ok)(s2 c2 s3 c3 w X)(hR:fp X w b s2 c2 s3 c3):
  bB Tz.prog 20 #[bb #[ax .i64 b.now,ax .i64 b.shift,au s2 b.n c2,au s3 b.n c3]] w λe w'=>e=aL (av<|kS b)/\a4 w w w':=by
 let⟨W1,e1,O,b1,z1⟩:=boxed w b.now b.shift s2 b.n c2 s3 b.n c3;have hR:=(hR.more λx h=>bj ab).grow b1;obtain⟨R,p6⟩:∃R,kS b=R:=⟨_,rfl⟩;rw[p6];replace p6:Hid (kS b=R):=p6;have hr:=(gd hb).1;have iP:=dy (z:=b.now) (by omega);have h6:=hb.Ns;have A:=λw=>qk (z:=b.now) hr.1 (by omega) w
 have hl:=O.lt;let⟨y0,y1,y2,y3,y4⟩:=O.cells;replace z1:Hid _:=z1;go_enter Tz.func20,Tryz.ntmps20
 go_wp2_with(go_at_call 33;refine(A _).mono ?_;clear A;rintro e w2 ⟨rfl,b2⟩;have k2:=O.same<|b2.block _ hl;let⟨v0,v1,v2,v3,v4⟩:=k2.cells)
 clear v0 v1 v2 v3 v4 y0 y1 y2 y3 y4 e1 k2;go_loopw [3,4] (λo x W=>∃(k:Nat) (out:ByteArray),b.now+k<=10001/\x=ax .i64 (b.now+k)/\o=av out/\Hid (out=plO b (fg b k 0))/\out.size<=6+102*k/\a4 W1 W1 W) (λ_ x _=>10001-(intOf x).toNat)
 case atStart=>exact⟨0,_,by omega,by go_num,rfl,rfl,iP,b2⟩
 clear iP b2;obtain⟨k,out,hk,rfl,rfl,hF,ho,u⟩:=hrel;by_cases aF:b.now+k<=10000
 .go_wp2;go_loopw [3,5] (λo x W=>∃(i:Nat) (out:ByteArray),i<=b.n/\x=ax .i64 i/\o=av out/\Hid (out=plO b (fg b k i))/\out.size<=6+102*k+17*i/\a4 W1 W1 W) (λ_ x _=>b.n-(intOf x).toNat)
  case atStart=>exact⟨0,out,afP _,rfl,rfl,hF,ho,u⟩
  clear ho hF u;obtain⟨i,out,hi,rfl,rfl,hF,ho,u⟩:=hrel;have J:=O.same<|u.block _ hl;let⟨y0,y1,y2,y3,y4⟩:=J.cells;by_cases y:i<b.n
  .have bx:(i:Int)<b.n:=by omega
   obtain⟨B,rfl,hB,ad⟩:=hR.sm.pos (by omega);obtain⟨B',rfl,Po,I4⟩:=hR.si.pos (by omega);have hc:=I4.below u Po i y;rw[bn]at hc;by_cases U:b.t i=b.now+k
   .have Z:Hid _:=U;rw[U]at hc;clear U;let⟨c0,c1,U',ao,c4,c5⟩:=ad.below u hB i y;have aZ:=hb.name y;have bl:=dy (z:=b.now+k) (by omega);have A:=λw=>qk (z:=b.now+k) (by omega) (by omega) w
    have eO:¬9223372036854775807<out.size+1:=by omega
    have fZ:¬9223372036854775807<out.size+1+(b.f i).name.size:=by omega
    have FP:¬9223372036854775807<out.size+1+(b.f i).name.size+1:=by omega
    have bo:¬9223372036854775807<out.size+1+(b.f i).name.size+1+(fd<|b.now+k).size:=by omega
    have tN:¬9223372036854775807<out.size+1+(b.f i).name.size+1+(fd<|b.now+k).size+1:=by omega
    have HZ:Hid (out.size+1+(b.f i).name.size+1+(fd<|b.now+k).size+1<=6+102*k+17*(i+1)):=by show _<=_;omega
    simp only[bn]at c0 c5;clear aZ bl ho c1 U' ao c4;go_wp2;refine ay (S:=BxN W1 w.heap.size b.now b.shift (au (some B) b.n c2) (au (some B') b.n c3) ⟨B,i*6,none⟩ (b.f i).name) aO ⟨Kr.of u.drew J,c0⟩ λhS=>?_;refine aj 0 (av out) 31 rfl NK hS ?_;refine aj 1 (av<|out++⟨#[32]⟩) 32 rfl NK hS ?_;refine aj 2 (a5<|some ⟨w.heap.size,2,none⟩) 33 rfl NK hS ?_;refine aj 3 (au (some B) b.n c2) 34 rfl NK hS ?_;refine aj 4 (ax .i64 i) 35 rfl NK hS ?_;refine aj 5 (a5<|some ⟨B,i*6,none⟩) 36 rfl NK hS ?_;refine aj 6 (a5<|some ⟨B,i*6,none⟩) 37 rfl NK hS ?_;refine aj 7 (av (b.f i).name) 38 rfl NK hS ?_;refine aj 8 (av<|out++⟨#[32]⟩++(b.f i).name) 39 rfl NK hS ?_;refine aj 9 (av<|out++⟨#[32]⟩++(b.f i).name++⟨#[64]⟩) 40 rfl NK hS ?_;refine aj 10 (ax .i64<|b.now+k) 41 rfl NK hS ?_;simp only[aB,aa,ac,ai];refine f8 11 rfl λK hK=>?_;go_simp
    go_at_call 33
    refine(A _).mono ?_;rintro e w4 ⟨rfl,b4⟩;have u:=u.drew.trans<|b4.mono u.size;have J:=O.same<|u.block _ hl;obtain⟨c0,-,-,-,-,c5⟩:=ad.below u hB i y;simp only[bn]at c0 c5;refine hK.out _ _ ⟨Kr.of u J,c0⟩ λhS=>?_
    clear hK K b4;refine aj 12 (av<|out++⟨#[32]⟩++(b.f i).name++⟨#[64]⟩++fd (b.now+k)) 43 rfl NK hS<|aj 13 (av<|out++⟨#[32]⟩++(b.f i).name++⟨#[64]⟩++fd (b.now+k)) 3 rfl NK hS<|wpAnyH_done aO ?_ _;simp only[aB,aa,ac,ai];let⟨y0,y1,y2,y3,y4⟩:=J.cells;by_cases hp:0<=(b.f i).prom
    .have HP:Hid (¬(b.f i).prom=-1):=by show¬_;omega
     go_wp2;go_roundw
     case rel=>exact⟨i+1,_,by omega,by go_num,rfl,by show _=_;rw[pn Z.out,GH,<-hF.out,jQ,if_neg HP.out,Z.out];simp[a2],by simp[a6];exact HZ.out,u⟩
     exact cD
    have HP:Hid ((b.f i).prom=-1):=by show _=_;have:=(Mv.gj<|bd (bK hb).1 i y);omega
    go_wp2;go_roundw
    case rel=>exact⟨i+1,_,by omega,by go_num,rfl,by show _=_;rw[pn Z.out,GH,<-hF.out,jQ,if_pos HP.out,Z.out,show(⟨#[]⟩:ByteArray)=cn from rfl];simp[a2,co],by simp[a6];exact afN (ce _) HZ.out,u⟩
    case measure=>exact cD
   .have eX:(b.t i==b.now+k)=false:=by simpa using U
    have Z:Hid _:=U;clear U;go_wp2;go_roundw
    case rel=>exact⟨i+1,out,by omega,by go_num,rfl,by rw[wW Z.out];exact hF,by omega,u⟩
    case measure=>exact cD
  .obtain rfl:i=b.n:=by omega
   go_wp2;go_roundw
   case rel=>exact⟨k+1,out,by omega,by go_num,rfl,by rw[<-uJ];exact hF,by omega,u⟩
   case measure=>exact cD
 .let⟨⟨q0,q1⟩,q2,q3⟩:=DH hb;have J:=O.same<|u.block _ hl;let⟨y0,y1,y2,y3,y4⟩:=J.cells;have H:=(hR.grow u).cost hb;have A:=λw=>qk q0 (by omega) w
  have HE:=λw=>qk q2 (by omega) w
  have s1:=dy (z:=(bU b.f b.n b.t b.n).1) (by omega);have s2:=dy (z:=(bU b.f b.n b.t b.n).2) (by omega);have eO:¬9223372036854775807<out.size+6:=by omega
  have fZ:¬9223372036854775807<out.size+6+(fd (bU b.f b.n b.t b.n).1).size:=by omega
  have FP:¬9223372036854775807<out.size+6+(fd (bU b.f b.n b.t b.n).1).size+6:=by omega
  have bo:¬9223372036854775807<out.size+6+(fd (bU b.f b.n b.t b.n).1).size+6+(fd (bU b.f b.n b.t b.n).2).size:=by omega
  have HF:Hid (R=out++⟨#[32,108,97,116,101,32]⟩++fd (bU b.f b.n b.t b.n).1++⟨#[32,109,111,115,116,32]⟩++fd (bU b.f b.n b.t b.n).2):=by
   show _=_;rw[<-p6.out,hF.out,show k=10001-b.now.toNat by omega];simp only[kS,jW,fg,List.range_zero,List.filter_nil,List.append_nil,a2];rfl
  clear q0 q1 q2 q3 s1 s2;generalize bU b.f b.n b.t b.n=C at*;go_wp2_with(first|(go_at_call 44;refine H.mono ?_;clear H;rintro e w1 ⟨rfl,bq⟩)|(go_at_call 33;first|(refine(A _).mono ?_;clear A;rintro e w3 ⟨rfl,b3⟩)|(refine(HE _).mono ?_;clear HE;rintro e w5 ⟨rfl,b5⟩)))
  go_ret;rw[HF.out];have u:=b1.trans<|u.mono b1.size;have u:=u.trans<|bq.mono u.size;have u:=u.trans<|b3.mono u.size;exact⟨rfl,u.trans<|b5.mono u.size⟩
def fQ {Q a v2 v3 ans}(hk:aR W M x0 x1 v2 v3)(hQ:Q (.returned<|.tuple #[.agg #[.int .i64 x0,.int .i64 x1,v2,v3],.string ans]) W)(h4:a.tmps[4]?=some (.pointer<|some M):=by rfl)(h5:a.tmps[5]?=some (.string ans):=by rfl)(hd:a.defers=[]:=by rfl):bodyPost Tz.prog Tryz.f7 Q .ret a W:=by
 let⟨q0,q1,q2,q3,q4⟩:=hk.cells;let⟨t,d⟩:=a;exact bodyPost_ret (by simp at h4 h5;simp[results,go_sem,q0,q1,q2,q3,h4,h5]) hd hQ
structure Kp (w3:a8)(N B D:Nat)(w':a8):Prop where
 sz:w3.heap.size<=w'
 lt:N<w3/\B<w3/\D<w3
 e1:w'.heap[N]?=w3.heap[N]?
 e2:w'.heap[B]?=w3.heap[B]?
 e3:w'.heap[D]?=w3.heap[D]?
def Kp.below (h:Kp w3 N B D W)(a:a4 W W W'):Kp w3 N B D W':=
 have q:=λ{x:Nat} (e:x<w3.heap.size)=>a.block x<|afL e h.sz
 ⟨afN h.sz a.size,h.lt,(q h.lt.1).trans h.e1,(q h.lt.2.1).trans h.e2,(q h.lt.2.2).trans h.e3⟩
def Kp.set (h:Kp w3 N B D W)(o:∀k,k≠M->W'.heap[k]?=W.heap[k]?)(e:W'.heap.size=W.heap.size)(f:N≠M)(t:B≠M)(u:D≠M):Kp w3 N B D W':=
 ⟨afN h.sz<|a3 e.symm,h.lt,(o _ f).trans h.e1,(o _ t).trans h.e2,(o _ u).trans h.e3⟩
def DE (h:w'.heap[N]?=w.heap[N]?):(∀j,w'.cell? ⟨N,j,none⟩=w.cell? ⟨N,j,none⟩)/\∀j,w'.frozen? ⟨N,j,none⟩=w.frozen? ⟨N,j,none⟩:=⟨λj=>by unfold World.cell?;rw[h],λj=>by unfold World.frozen?;rw[h]⟩
def pY (h:p:=by intro w' hSw;obtain⟨-,-,h1,h2,h3⟩:=hSw;have s1:=DE h1;have s2:=DE h2;have s3:=DE h3;clear h1 h2 h3;go_simp):p:=h
def jV {a:ByteArray}(h:¬a=⟨l.toArray⟩):¬a.toList=l:=λe=>h (by rw[ByteArray.toList_eq]at e;subst e;rfl)
def td {b}(e:g 0=⟨#[116,105,99,107]⟩)(a:eQ (g 1) x):bG b 1 g=if x<=100 then eH x b ⟨#[]⟩else(b,⟨#[98,97,100]⟩):=by
 simp only[bG,e];rw[if_neg ab,if_neg (by simp),if_neg (by simp),if_pos (by simp)];by_cases h:x<=100
 .rw[dif_pos ⟨x,a,h⟩,if_pos h,nR (Exists.choose_spec (⟨x,a,h⟩:∃n,eQ (g 1) n/\n<=100)).1 a]
 rw[if_neg h,dif_neg λ⟨y,f,t⟩=>h<|nR a f▸t]
def Gc {b}(a:g 0=⟨#[116,105,99,107]⟩)(e:¬∃x,eQ (g 1) x):bG b 1 g=(b,⟨#[98,97,100]⟩):=by
 simp[bG];grind
def CF {b}(hq:g 0=⟨#[108,97,110,100]⟩\/g 0=⟨#[108,101,97,118,101]⟩){y z}(f:eQ (g 2) x)(t:eQ (g 3) y)(u:eQ (g 4) z):bG b 4 g=codeF (HJ b ⟨g 1,decide (g 0=⟨#[108,97,110,100]⟩),x,y,z,-1⟩):=by
 have h:∃x:Nat×Nat×Nat,eQ (g 2) x.1/\eQ (g 3) x.2.1/\eQ (g 4) x.2.2:=⟨(x,y,z),f,t,u⟩;have e:=h.choose_spec;unfold bG;simp only;rw[if_pos ⟨hq,trivial⟩,dif_pos h,nR e.1 f,nR e.2.1 t,nR e.2.2 u]
def CG {b}(a:g 0=⟨#[108,97,110,100]⟩\/g 0=⟨#[108,101,97,118,101]⟩)(e:∃i,i<3/\¬∃x,eQ (g<|i+2) x):bG b 4 g=(b,⟨#[98,97,100]⟩):=by
 unfold bG;grind
def VH (x9:p:=by
  exact⟨⟨_,_,_,_,rfl,(hR.set (λx hx=>o7 x λe=>hx<|.inr<|.inr e)<|Nat.le_of_eq z7.out.symm).more λx hx=>.inl<|.inl hx⟩,b7⟩):p:=x9
def H_ (x9:p:=by
  have hq1:¬(k:Int)+1=2:=by omega
  go_wp2;exact fQ k5<|fin ⟨#[98,97,100]⟩<|by simp[bG,hq,AW]):p:=x9
def XT (x9:p:=by
  have hq1:¬(k:Int)+1=5:=by omega
  go_wp2;exact fQ k5<|fin ⟨#[98,97,100]⟩<|by simp[bG,hq,AW]):p:=x9
def XU (x9:p:=by
  have hq1:¬(k:Int)+1=1:=by omega
  go_wp2;exact fQ k5<|fin ⟨#[98,97,100]⟩<|by simp[bG,hq,AW]):p:=x9
def Qo (b)(hb:b.ok)(s2 c2 s3 c3)(w:a8)(X:Nat->Prop)(hX:∀x,X x->x<w)(hR:fp X w b s2 c2 s3 c3)(B k cp:Nat)(g)(hk:k<cp)(A3:k<=10000)(hg:∀i,(g i).size<=10000)(hB:B<w)(hT:Ij w B 0 (k+1) g):
  bB Tz.prog 7 #[bb #[ax .i64 b.now,ax .i64 b.shift,au s2 b.n c2,au s3 b.n c3],au (some B) (k+1:Nat) cp] w λe w'=>(∃s2 c2 s3 c3,e=aL (bs #[bb #[ax .i64 (bG b k g).1.now,ax .i64 (bG b k g).1.shift,au s2 (bG b k g).1.n c2,au s3 (bG b k g).1.n c3],av (bG b k g).2])/\fp X w' (bG b k g).1 s2 c2 s3 c3)/\a4 w w w':=by
 let⟨W1,e1,J,b1,z1⟩:=boxed w b.now b.shift s2 b.n c2 s3 b.n c3;let⟨W2,e2,u,b2,z2⟩:=boxed W1 0 0 none 0 0 none 0 0;have A:=b1.trans<|b2.mono b1.size;have J:=J.same<|b2.block _ J.lt;have hR:=(hR.more (Y:=λx=>X x\/x=w.heap.size\/x=W1.heap.size) λx h=>h.imp id λh=>by omega).grow A;have hT:=hT.below A hB;have H1:=Gu B (if cp=1 then 0 else 1) k (cp-1) (λi=>g<|i+1) W2 (by omega) (λi _=>afN (hg _)<|by decide) (afL hB A.size) (λi hi=>by rw[if_neg (by omega)];have:=hT (i+1) (by omega);rwa [show 0+(i+1)=1+i by omega]at this);obtain⟨sl,Oj⟩:∃x:Option bz,(if cp=1 then some ⟨B,0,none⟩else some ⟨B,1,none⟩)=x:=⟨_,rfl⟩;rw[show(some ⟨B,if cp=1 then 0 else 1,none⟩:Option bz)=if cp=1 then some ⟨B,0,none⟩else some ⟨B,1,none⟩ by split<;>rfl,Oj]at H1;have hM:w.heap.size<W1.heap.size:=by omega
 clear z1 z2 b1 b2;have Pt:=u.lt;obtain⟨R,p6⟩:∃R,bG b k g=R:=⟨_,rfl⟩;rw[p6];replace p6:Hid (bG b k g=R):=p6;go_enter Tz.func7,Tryz.ntmps7
 go_wp2_with(go_at_call 14;fail)
 refine H1.mono ?_;clear H1;rintro e w3 ⟨⟨D,l,kk,r,rfl,hr⟩,b3⟩;replace hr:Hid _:=hr;have J:=J.same<|b3.block _ J.lt;have u:=u.same<|b3.block _ u.lt;have hT:=hT.below b3<|afL hB A.size;have t0:=hT 0<|Nat.succ_pos _;have hR:=hR.grow b3;have A:=A.trans<|b3.mono A.size;let⟨y0,y1,y2,y3,y4⟩:=J.cells;let⟨x0,x1,x2,x3,x4⟩:=u.cells;let⟨W5,e5,k5,b5,z5,o5⟩:=aJ u A (af2 hM) b.now b.shift s2 b.n c2 s3 b.n c3;replace z5:Hid _:=z5;have fin:=λ(ans:ByteArray) (h:bG b k g=(b,ans))=>(show(∃t2 d2 t3 d3,aL (bs #[bb #[ax .i64 b.now,ax .i64 b.shift,au s2 b.n c2,au s3 b.n c3],av ans])=aL (bs #[bb #[ax .i64 R.1.now,ax .i64 R.1.shift,au t2 R.1.n d2,au t3 R.1.n d3],av R.2])/\fp X W5 R.1 t2 d2 t3 d3)/\a4 w w W5 from by
  rw[<-p6.out,h];exact⟨⟨_,_,_,_,rfl,(hR.set (λx hx=>o5 x λe=>hx<|bj<|bj e)<|a3 z5.out.symm).more λx hx=>bv<|bv hx⟩,b5⟩)
 have vd:B<w3.heap.size:=afL hB A.size;have Sf:B≠W1.heap.size:=af1<|Nat.lt_trans hB hM;have hN:∀x,X x\/x=w.heap.size\/x=W1.heap.size->x<w3.heap.size:=λx h=>h.elim (λh=>afL (hX x h) A.size) λh=>h.elim (λh=>h▸J.lt) λh=>h▸u.lt
 by_cases hA:(g 0=⟨#[108,97,110,100]⟩\/g 0=⟨#[108,101,97,118,101]⟩)/\k=4
 .obtain⟨hA,rfl⟩:=hA;clear fin e5 o5 k5 z5 b5 W5;have Zh:¬cp=2:=by omega
  have H2:=Gu B 2 3 (cp-2) (λi=>g<|i+2) w3 (by omega) (λi _=>afN (hg _)<|by decide) vd (λi hi=>by have:=hT (i+2) (by omega);rwa [show 0+(i+2)=2+i by omega]at this);rcases hA with hq|hq<;>(rw[hq]at t0;go_wp2_with(go_at_call 14;fail))
  all_goals
   refine H2.mono ?_;clear H2;rintro e w4 ⟨⟨D2,l2,m2,r2,rfl,Sv⟩,C⟩;have Sk:W1.heap.size<w3.heap.size:=u.lt;have J:=J.same<|C.block _ J.lt;have u:=u.same<|C.block _ u.lt;have hT:=hT.below C vd;have hR:=hR.grow C;have A:=A.trans<|C.mono A.size;have IR:B<w4.heap.size:=afL vd C.size;have t0:=hT 0 (by omega);rw[hq]at t0;have t1:=hT 1 (by omega);let⟨y0,y1,y2,y3,y4⟩:=J.cells;let⟨x0,x1,x2,x3,x4⟩:=u.cells;rcases Sv with⟨rfl,L,hL,rfl,ad,O⟩|⟨rfl,hx⟩
   .obtain⟨x,y,z,rfl⟩:∃x y z,L=[x,y,z]:=by match L,hL with|[x,y,z],_=>exact⟨x,y,z,rfl⟩
    have hx:=ad 0 x rfl;have hy:=ad 1 y rfl;have hz:=ad 2 z rfl;have d0:w4.cell? ⟨D2,0,none⟩=some (ax .i64 x):=O.cellAt 0 (by simp);have d1:w4.cell? ⟨D2,1,none⟩=some (ax .i64 y):=O.cellAt 1 (by simp);have d2:w4.cell? ⟨D2,2,none⟩=some (ax .i64 z):=O.cellAt 2 (by simp);have Pq:=(kO O).1;have aF:D2≠W1.heap.size:=λe=>by have:=dh O D2 rfl;omega
    have hN:=λx h=>afL (hN x h) C.size
    have wx:(Lit.int .i64 (x:Nat)).wf=true:=AM (by have:=hx.1;omega);have wy:(Lit.int .i64 (y:Nat)).wf=true:=AM (by have:=hy.1;omega);have wz:(Lit.int .i64 (z:Nat)).wf=true:=AM (by have:=hz.1;omega);obtain⟨ld,hl⟩:∃ld,ld=decide (g 0=⟨#[108,97,110,100]⟩):=⟨_,rfl⟩;have ao:=hl;rw[hq]at ao;simp at ao;replace hl:Hid _:=hl;have HD:=aaj b.now b.shift s2 b.n c2 b.f s3 b.n c3 b.t ⟨g 1,ld,x,y,z,-1⟩ w4.drew ((hR.grow (afB _ w4).drew).bq hb) ⟨afN (hg 1)<|by decide,wx,wy,wz,rfl⟩;replace hx:Hid _:=hx;replace hy:Hid _:=hy;replace hz:Hid _:=hz;go_wp2;refine ay (S:=Kp w4 w.heap.size B D2) aO ⟨afK _,⟨J.lt,IR,Pq⟩,rfl,rfl,rfl⟩ λhS=>?_;refine aj 0 (bb #[ax .i64 b.now,ax .i64 b.shift,au s2 b.n c2,au s3 b.n c3]) 41 rfl pY hS ?_;refine aj 1 (au (some B) 5 cp) 42 rfl pY hS ?_;refine aj 2 (a5<|some ⟨B,1,none⟩) 43 rfl pY hS ?_;refine aj 3 (av<|g 1) 44 rfl pY hS ?_;refine aj 4 (au (some B) 5 cp) 45 rfl pY hS ?_;refine aj 5 (a5<|some B) 46 rfl pY hS ?_;refine aj 6 (av<|g 0) 47 rfl pY hS ?_;refine aj 7 (ch ld) 48 rfl pY hS ?_;replace ao:Hid _:=ao;clear wx wy wz;refine aj 8 (au (some D2) 3 m2) 49 rfl pY hS ?_;refine aj 9 (a5<|some D2) 50 rfl pY hS ?_;refine aj 10 (ax .i64 x) 51 rfl pY hS ?_;refine aj 11 (au (some D2) 3 m2) 52 rfl pY hS ?_;refine aj 12 (a5<|some ⟨D2,1,none⟩) 53 rfl pY hS ?_;refine aj 13 (ax .i64 y) 54 rfl pY hS ?_;refine aj 14 (au (some D2) 3 m2) 55 rfl pY hS ?_;refine aj 15 (a5<|some ⟨D2,2,none⟩) 56 rfl pY hS ?_;refine aj 16 (ax .i64 z) 57 rfl pY hS ?_;refine aj 17 (bb #[av<|g 1,ch ld,ax .i64 x,ax .i64 y,ax .i64 z,ax .i64 (-1)]) 58 rfl pY hS ?_;simp only[aB,aa,ac,ai];refine f8 18 rfl λK hK=>?_;go_simp
    go_at_call 16
    refine HD.mono ?_;rintro e w4 ⟨⟨a0,a1,U,l,Z,F,p3,o,q3,T,cd,rfl,O,hQ⟩,C⟩;let⟨he,Up⟩:=O.eq hb;subst Up;let⟨eF,Od,KP⟩:=Ik (q:=⟨g 1,ld,x,y,z,-1⟩) hb;rw[he]at eF Od KP;have A:=A.drew.trans<|C.mono A.size;have u:=u.same<|C.block _ u.lt;have hR:=hQ.rows (a0:=a0) (a1:=a1) rfl hN;refine hK.out _ _ (hS.below C) λhS=>?_
    clear hK K C O hQ;refine aj 19 (bb #[ax .i64 a0,ax .i64 a1,au U o Z,au p3 o q3]) 60 rfl gQ hS ?_;refine aj 20 (ax .i64 cd) 61 rfl gQ hS ?_;simp only[aB,aa,ac,ai];refine f8 21 rfl λK hK=>?_;go_simp
    go_at_call 15
    refine(yW a0 a1 U o Z p3 o q3 cd Od KP _).mono ?_;rintro e w6 ⟨rfl,b6⟩;have A:=A.trans<|b6.mono A.size;have u:=u.same<|b6.block _ u.lt;have hR:=hR.grow b6;refine hK.out _ _ (hS.below b6) λhS=>?_
    clear hK K b6;refine aj 22 (bb #[ax .i64 a0,ax .i64 a1,au U o Z,au p3 o q3]) 63 rfl gQ hS ?_;refine aj 23 (av<|⟨#[99,111,100,101,32]⟩++fd cd) 64 rfl gQ hS ?_;simp only[aB,aa,ac,ai];refine f8 24 rfl λK hK=>?_;let⟨x0,x1,x2,x3,x4⟩:=u.cells;let⟨W7,e7,k7,b7,z7,o7⟩:=aJ u A (af2 hM) a0 a1 U o Z p3 o q3;replace z7:Hid _:=z7;go_simp
    refine hK.out _ _ (hS.set o7 z7.out (af1 hM) Sf aF) λhS=>?_
    clear hK K;refine aj 25 (av<|⟨#[99,111,100,101,32]⟩++fd cd) 5 rfl gQ hS ?_;refine a9 aO ?_ _;simp only[aB,aa,ac,ai];go_wp2;refine fQ k7 ?_;rw[<-p6.out,show bG b _ g=_ from(CF (by simp[hq]) hx.out hy.out hz.out).trans (by rw[<-hl.out]),he];exact VH
   .let⟨W7,e7,k7,b7,z7,o7⟩:=aJ u A (af2 hM) b.now b.shift s2 b.n c2 s3 b.n c3;replace z7:Hid _:=z7;go_wp2;refine fQ (ans:=⟨#[98,97,100]⟩) k7 ?_;rw[<-p6.out,CG (by simp[hq]) hx];exact VH
 by_cases hq:g 0=⟨#[108,97,110,100]⟩
 .rw[hq]at t0;have AW:¬k=4:=λe=>hA ⟨bv hq,e⟩
  exact XT
 have n1:Hid _:=hq;by_cases hq:g 0=⟨#[108,101,97,118,101]⟩
 .rw[hq]at t0;have AW:¬k=4:=λe=>hA ⟨bj hq,e⟩
  exact XT
 have n2:Hid _:=hq;by_cases hq:g 0=⟨#[100,114,111,112]⟩
 .rw[hq]at t0;by_cases AW:k=1
  .subst AW;have t1:=hT 1 (by omega);have HD:=YJ b.now b.shift s2 b.n c2 b.f s3 b.n c3 b.t (g 1) w3.drew ((hR.grow (afB _ w3).drew).bq hb) hR.rm;go_wp2;refine ay (S:=Kp w3 w.heap.size B B) aO ⟨afK _,⟨J.lt,vd,vd⟩,rfl,rfl,rfl⟩ λhS=>?_;refine aj 0 (bb #[ax .i64 b.now,ax .i64 b.shift,au s2 b.n c2,au s3 b.n c3]) 75 rfl pY hS ?_;refine aj 1 (au (some B) 2 cp) 76 rfl pY hS ?_;refine aj 2 (a5<|some ⟨B,1,none⟩) 77 rfl pY hS ?_;refine aj 3 (av<|g 1) 78 rfl pY hS ?_;simp only[aB,aa,ac,ai];refine f8 4 rfl λK hK=>?_;go_simp
   go_at_call 17
   refine HD.mono ?_;rintro e w4 ⟨⟨a0,a1,U,l,Z,F,p3,o,q3,T,cd,rfl,O,hQ⟩,C⟩;let⟨he,Up⟩:=O.eq hb;subst Up;let⟨eF,Od,KP⟩:=IF (s:=g 1) hb;rw[he]at eF Od KP;have A:=A.drew.trans<|C.mono A.size;have u:=u.same<|C.block _ u.lt;have hR:=hQ.rows (a0:=a0) (a1:=a1) rfl hN;refine hK.out _ _ (hS.below C) λhS=>?_
   clear hK K C e5 o5 k5 O hQ;refine aj 5 (bb #[ax .i64 a0,ax .i64 a1,au U o Z,au p3 o q3]) 80 rfl gQ hS ?_;refine aj 6 (ax .i64 cd) 81 rfl gQ hS ?_;simp only[aB,aa,ac,ai];refine f8 7 rfl λK hK=>?_;go_simp
   go_at_call 15
   refine(yW a0 a1 U o Z p3 o q3 cd Od KP _).mono ?_;rintro e w6 ⟨rfl,b6⟩;have A:=A.trans<|b6.mono A.size;have u:=u.same<|b6.block _ u.lt;have hR:=hR.grow b6;refine hK.out _ _ (hS.below b6) λhS=>?_
   clear hK K b6;refine aj 8 (bb #[ax .i64 a0,ax .i64 a1,au U o Z,au p3 o q3]) 83 rfl gQ hS ?_;refine aj 9 (av<|⟨#[99,111,100,101,32]⟩++fd cd) 84 rfl gQ hS ?_;simp only[aB,aa,ac,ai];refine f8 10 rfl λK hK=>?_;let⟨x0,x1,x2,x3,x4⟩:=u.cells;let⟨W7,e7,k7,b7,z7,o7⟩:=aJ u A (af2 hM) a0 a1 U o Z p3 o q3;replace z7:Hid _:=z7;go_simp
   refine hK.out _ _ (hS.set o7 z7.out (af1 hM) Sf Sf) λhS=>?_
   clear hK K;refine aj 11 (av<|⟨#[99,111,100,101,32]⟩++fd cd) 5 rfl gQ hS ?_;refine a9 aO ?_ _;simp only[aB,aa,ac,ai];go_wp2;refine fQ k7 ?_;rw[<-p6.out,show bG b _ g=_ from show bG b 1 g=codeF (Fx b<|g 1) by simp[bG,hq],he];exact VH
  .exact H_
 have n3:Hid _:=hq;by_cases hq:g 0=⟨#[114,111,117,110,100]⟩
 .rw[hq]at t0;by_cases AW:k=1
  .subst AW;have t1:=hT 1 (by omega);have HD:=U6 b.now b.shift s2 b.n c2 b.f s3 b.n c3 b.t (g 1) w3.drew<|(hR.grow (afB _ w3).drew).bq hb;go_wp2;refine ay (S:=Kp w3 w.heap.size B B) aO ⟨afK _,⟨J.lt,vd,vd⟩,rfl,rfl,rfl⟩ λhS=>?_;refine aj 0 (bb #[ax .i64 b.now,ax .i64 b.shift,au s2 b.n c2,au s3 b.n c3]) 95 rfl pY hS ?_;refine aj 1 (au (some B) 2 cp) 96 rfl pY hS ?_;refine aj 2 (a5<|some ⟨B,1,none⟩) 97 rfl pY hS ?_;refine aj 3 (av<|g 1) 98 rfl pY hS ?_;simp only[aB,aa,ac,ai];refine f8 4 rfl λK hK=>?_;go_simp
   go_at_call 18
   refine HD.mono ?_;rintro e w4 ⟨⟨a0,a1,U,l,Z,F,p3,o,q3,T,cd,rfl,O,hQ⟩,C⟩;let⟨he,Up⟩:=O.eq hb;subst Up;let⟨eF,Od,KP⟩:=JG (s:=g 1) hb;rw[he]at eF Od KP;have A:=A.drew.trans<|C.mono A.size;have u:=u.same<|C.block _ u.lt;have hR:=hQ.rows (a0:=a0) (a1:=a1) rfl hN;refine hK.out _ _ (hS.below C) λhS=>?_
   clear hK K C e5 o5 k5 O hQ;refine aj 5 (bb #[ax .i64 a0,ax .i64 a1,au U o Z,au p3 o q3]) 100 rfl gQ hS ?_;refine aj 6 (ax .i64 cd) 101 rfl gQ hS ?_;simp only[aB,aa,ac,ai];refine f8 7 rfl λK hK=>?_;go_simp
   go_at_call 15
   refine(yW a0 a1 U o Z p3 o q3 cd Od KP _).mono ?_;rintro e w6 ⟨rfl,b6⟩;have A:=A.trans<|b6.mono A.size;have u:=u.same<|b6.block _ u.lt;have hR:=hR.grow b6;refine hK.out _ _ (hS.below b6) λhS=>?_
   clear hK K b6;refine aj 8 (bb #[ax .i64 a0,ax .i64 a1,au U o Z,au p3 o q3]) 103 rfl gQ hS ?_;refine aj 9 (av<|⟨#[99,111,100,101,32]⟩++fd cd) 104 rfl gQ hS ?_;simp only[aB,aa,ac,ai];refine f8 10 rfl λK hK=>?_;let⟨x0,x1,x2,x3,x4⟩:=u.cells;let⟨W7,e7,k7,b7,z7,o7⟩:=aJ u A (af2 hM) a0 a1 U o Z p3 o q3;replace z7:Hid _:=z7;go_simp
   refine hK.out _ _ (hS.set o7 z7.out (af1 hM) Sf Sf) λhS=>?_
   clear hK K;refine aj 11 (av<|⟨#[99,111,100,101,32]⟩++fd cd) 5 rfl gQ hS ?_;refine a9 aO ?_ _;simp only[aB,aa,ac,ai];go_wp2;refine fQ k7 ?_;rw[<-p6.out,show bG b _ g=_ from show bG b 1 g=codeF (GO b<|g 1) by simp[bG,hq],he];exact VH
  .exact H_
 have n4:Hid _:=hq;by_cases hq:g 0=⟨#[116,105,99,107]⟩
 .rw[hq]at t0;by_cases AW:k=1
  .subst AW;rcases hr.out with⟨rfl,L,hL,rfl,ad,O⟩|⟨rfl,i,hi,p8⟩
   .obtain⟨x,rfl⟩:∃x,L=[x]:=List.length_eq_one_iff.1 hL;have hx:eQ (g 1) x:=ad 0 x rfl;have d0:w3.cell? ⟨D,0,none⟩=some (ax .i64 x):=O.cellAt 0 (by simp);by_cases H6:x<=100
    .have Uq:(x:Int)<=100:=by omega
     have Pq:=(kO O).1;have aF:D≠W1.heap.size:=λe=>by have:=dh O D rfl;omega
     clear fin e5 o5 k5 z5 b5 W5;have HT:=NM b hb s2 c2 s3 c3 x H6 w3.drew _ hN<|hR.grow (afB _ w3).drew;go_wp2;refine ay (S:=Kp w3 w.heap.size B D) aO ⟨afK _,⟨J.lt,vd,Pq⟩,rfl,rfl,rfl⟩ λhS=>?_;refine aj 0 (bb #[ax .i64 b.now,ax .i64 b.shift,au s2 b.n c2,au s3 b.n c3]) 124 rfl pY hS ?_;refine aj 1 (au (some D) 1 kk) 125 rfl pY hS ?_;refine aj 2 (a5<|some D) 126 rfl pY hS ?_;refine aj 3 (ax .i64 x) 127 rfl pY hS ?_;simp only[aB,aa,ac,ai];refine f8 4 rfl λK hK=>?_;go_simp
     go_at_call 19
     refine HT.mono ?_;rintro e w4 ⟨⟨U,Z,p3,q3,rfl,aZ⟩,C⟩;obtain⟨b',dl⟩:∃b',eH x b ⟨#[]⟩=b':=⟨_,rfl⟩;rw[dl]at aZ⊢;replace dl:Hid _:=dl;have A:=A.drew.trans<|C.mono A.size;have u:=u.same<|C.block _ u.lt;refine hK.out _ _ (hS.below C) λhS=>?_
     clear hK K;refine aj 5 (bb #[ax .i64 b'.1.now,ax .i64 b'.1.shift,au U b'.1.n Z,au p3 b'.1.n q3]) 129 rfl gQ hS ?_;refine aj 6 (av b'.2) 130 rfl gQ hS ?_;simp only[aB,aa,ac,ai];refine f8 7 rfl λK hK=>?_;let⟨x0,x1,x2,x3,x4⟩:=u.cells;let⟨W7,e7,k7,b7,z7,o7⟩:=aJ u A (af2 hM) b'.1.now b'.1.shift U b'.1.n Z p3 b'.1.n q3;replace z7:Hid _:=z7;go_simp
     refine hK.out _ _ (hS.set o7 z7.out (af1 hM) Sf aF) λhS=>?_
     clear hK K;refine aj 8 (av b'.2) 5 rfl gQ hS ?_;refine a9 aO ?_ _;simp only[aB,aa,ac,ai];go_wp2;refine fQ k7 ?_;rw[<-p6.out,td hq hx,if_pos H6,dl.out];exact⟨⟨_,_,_,_,rfl,(aZ.set (λx hx=>o7 x λe=>hx<|bj<|bj e)<|a3 z7.out.symm).more λx hx=>bv<|bv hx⟩,b7⟩
    .have Uq:¬(x:Int)<=100:=by omega
     go_wp2;exact fQ k5<|fin ⟨#[98,97,100]⟩<|by rw[td hq hx,if_neg H6]
   .have Ue:i=0:=by omega
    subst Ue;go_wp2;exact fQ k5<|fin ⟨#[98,97,100]⟩<|Gc hq p8
  .exact H_
 have n5:Hid _:=hq;by_cases hq:g 0=⟨#[112,108,97,110]⟩
 .rw[hq]at t0;by_cases AW:k=0
  .subst AW;clear fin e5 o5 k5 z5 b5 W5;have HP:=QQ b hb s2 c2 s3 c3 w3.drew _<|hR.grow (afB _ w3).drew;go_wp2;refine ay (S:=Kp w3 w.heap.size B B) aO ⟨afK _,⟨J.lt,vd,vd⟩,rfl,rfl,rfl⟩ λhS=>?_;refine aj 0 (bb #[ax .i64 b.now,ax .i64 b.shift,au s2 b.n c2,au s3 b.n c3]) 141 rfl pY hS ?_;refine aj 1 (bb #[ax .i64 b.now,ax .i64 b.shift,au s2 b.n c2,au s3 b.n c3]) 142 rfl pY hS ?_;simp only[aB,aa,ac,ai];refine f8 2 rfl λK hK=>?_;go_simp
   go_at_call 20
   refine HP.mono ?_;rintro e w4 ⟨rfl,C⟩;have A:=A.drew.trans<|C.mono A.size;have u:=u.same<|C.block _ u.lt;refine hK.out _ _ (hS.below C) λhS=>?_
   clear hK K;refine f8 3 rfl λK hK=>?_;let⟨x0,x1,x2,x3,x4⟩:=u.cells;let⟨W7,e7,k7,b7,z7,o7⟩:=aJ u A (af2 hM) b.now b.shift s2 b.n c2 s3 b.n c3;replace z7:Hid _:=z7;go_simp
   refine hK.out _ _ (hS.set o7 z7.out (af1 hM) Sf Sf) λhS=>?_
   clear hK K;refine aj 4 (av<|kS b) 5 rfl gQ hS ?_;refine a9 aO ?_ _;simp only[aB,aa,ac,ai];go_wp2;refine fQ k7 ?_;rw[<-p6.out,show bG b 0 g=(b,kS b) by simp[bG,hq]];exact⟨⟨_,_,_,_,rfl,((hR.grow<|(afB _ w3).drew.trans C).set (λx hx=>o7 x λe=>hx<|bj<|bj e)<|a3 z7.out.symm).more λx hx=>bv<|bv hx⟩,b7⟩
  .exact XU
 have n6:Hid _:=hq;by_cases hq:g 0=⟨#[115,117,114,101]⟩
 .rw[hq]at t0;by_cases AW:k=0
  .subst AW;have HS:=(hR.bq hb).su;clear fin e5 o5 k5 z5 b5 W5;cases hs:fD b.now b.shift b.f b.n b.t b.n<;>
   .rw[hs]at HS;go_wp2_with(go_at_call 21;refine HS.mono ?_;clear HS;rintro e w4 ⟨rfl,C⟩;have J:=J.same<|C.block _ J.lt;have u:=u.same<|C.block _ u.lt;have A:=A.trans<|C.mono A.size;let⟨y0,y1,y2,y3,y4⟩:=J.cells;let⟨x0,x1,x2,x3,x4⟩:=u.cells;let⟨W7,e7,k7,b7,z7,o7⟩:=aJ u A (af2 hM) b.now b.shift s2 b.n c2 s3 b.n c3;replace z7:Hid _:=z7)
    refine fQ k7 ?_;rw[<-p6.out,show bG b 0 g=(b,_) by simp only[bG,hq];rw[if_neg (by simp),if_neg (by simp),if_neg (by simp),if_neg (by simp),if_neg (by simp),if_pos (by simp),hs]];exact⟨⟨_,_,_,_,rfl,((hR.grow C).set (λx hx=>o7 x λe=>hx<|bj<|bj e)<|a3 z7.out.symm).more λx hx=>bv<|bv hx⟩,b7⟩
  .exact XU
 replace n1:=n1.out;replace n2:=n2.out;replace n3:=n3.out;replace n4:=n4.out;replace n5:=n5.out;replace n6:=n6.out;have hF:bG b k g=(b,⟨#[98,97,100]⟩):=by simp[bG, *]
 replace n1:=jV n1;replace n2:=jV n2;replace n3:=jV n3;replace n4:=jV n4;replace n5:=jV n5;replace n6:=jV n6;replace hq:=jV hq;go_wp2;exact fQ k5<|fin ⟨#[98,97,100]⟩ hF
