import Derived.Test.YthppgbjejomdiaaGreatDoorj43
import Derived.Test.YthppgbjejomdiaaGreatDoorj20
import Derived.Lib.Atoi
set_option linter.all false
set_option maxHeartbeats 8000000
set_option maxRecDepth 20000
open ByteArray renaming append_assoc->bk,size_append->bv,ext->bA,size_extract->cc,size->ce,empty->cf,append_empty->ch
open Classical renaming epsilon_spec->bH,epsilon->ci
open Go renaming World->aP,Addr->aV,Calls->a6,wp_region_held_drew->a8,wpAnyH_done->bj,bodyPost_ret->bp,results->br,wpList_append_own->bB
open Go.Act renaming put->ay
open Go.Ending renaming returned->a3
open Go.Lib renaming decFrom->a2,digitVal->a7,countByte->a9,decDigits->bb,indexByte->bm,decDigits_one->bz
open Go.RowKit renaming Below->aI
open Go.Value renaming int->aa,slice->ac,string->aj,agg->az,pointer->a4,tuple->a5,bool->bt
open List renaming setIfInBounds_toArray->au,set_cons_zero->av,set_cons_succ->ax,range->bi,range_succ->bs,drop_eq_getElem_cons->bJ,take_of_length_le->bM,mem_of_mem_take->bN,length_cons->bO,length_take->bR,count_cons->bV
open Nat renaming le_of_eq->be,zero_add->bn,strongRecOn->bE,lt_irrefl->bX,le_succ->b0,not_le->cb
open Or renaming inr->aE,inl->aL
open UInt8 renaming ofNat->bF,toNat_inj->bS
namespace Go.Proofs.YthppgbjejomdiaaGreatDoor
open RowKit
variable {s:ByteArray}{a0 a1 x0 x1 z:Int}{l:List UInt8}{B D M N c2 c3 d fr i j k m n o x:Nat}{g:Nat->ByteArray}{T:Nat->Int}{F:Nat->Mv}{X:Nat->Prop}{s2 s3:Option aV}{p:Prop}{c:UInt8}{W W' w w' w3:aP}
section
structure Bk where
 now:Int
 shift:Int
 n:Nat
 f:Nat->Mv
 t:Nat->Int
def Bk.ok (b:Bk):Prop:=aY b.now b.shift b.f b.n b.t b.n=true
noncomputable def plB (b:Bk)(s:ByteArray):Int:=ci<|eD b.f b.n s
theorem qP {b k}(h:eD b.f b.n s k):plB b s=k:=eD.one (bH ⟨k,h⟩) h
def Ry (b s):eD b.f b.n s (plB b s):=bH (by
 by_cases e:∃j,j<b.n/\di (b.f j).name s=true
 .let⟨j,u⟩:=e;induction j using bE with
  |_ j v=>
   by_cases e:∃i,i<j/\di (b.f i).name s=true
   .let⟨i,t,hs⟩:=e;exact v i t ⟨f7,hs⟩
   .exact⟨j,aE ⟨j,rfl,u.1,u.2,λi t=>Bool.eq_false_iff.2 λh=>e ⟨i,t,h⟩⟩⟩
 .exact⟨-1,aL ⟨rfl,λi t=>Bool.eq_false_iff.2 λh=>e ⟨i,t,h⟩⟩⟩)
noncomputable def Iy (b:Bk)(q:Mv):Bk×Int:=match vG b.f b.n b.now b.shift q with
 |.no c=>(b,c)
 |.yes p T=>(⟨b.now,b.shift,b.n+1,er b.f p q,T⟩,0)
noncomputable def FY (b:Bk)(s:ByteArray):Bk×Int:=match oP b.f b.n b.t b.now b.shift (plB b s)with
 |.no c=>(b,c)
 |.yes p T=>(⟨b.now,b.shift,b.n-1,d6 b.f p,T⟩,0)
noncomputable def He (b:Bk)(s:ByteArray):Bk×Int:=match gH b.f b.n b.t b.now (plB b s)with
 |.inl c=>(b,c)
 |.inr (p,T)=>(⟨b.now,b.shift,(aw b.f b.t p b.n).length,jT<|aw b.f b.t p b.n,T⟩,0)
def Mp (b:Bk):Bk:=⟨b.now+1,b.shift,(stay b.now b.t b.n).length,tkF b.f b.t b.now b.n,tkT b.t b.now b.n⟩
section
variable {b:Bk}{q:Mv}{l:Nat}{cd:Int}{r:List Nat}
def Co.eq (hb:b.ok)(h:Co b.f b.n b.t b.n b.now b.shift q a0 a1 l F o T cd):Iy b q=(⟨a0,a1,l,F,T⟩,cd)/\o=l:=by unfold Iy;cases h with|bad h=>rw[hb]at h;grind|no _ h=>simp_all|yes _ h=>grind
def wN.eq (hb:b.ok)(h:wN b.f b.n b.t b.n b.now b.shift s a0 a1 l F o T cd):FY b s=(⟨a0,a1,l,F,T⟩,cd)/\o=l:=by unfold FY;cases h with|bad h=>rw[hb]at h;grind|no _ k h=>rw[qP k,h];grind|yes _ k h=>grind [qP]
def Cs.eq (hb:b.ok)(h:Cs b.f b.n b.t b.n b.now b.shift s a0 a1 l F o T cd):He b s=(⟨a0,a1,l,F,T⟩,cd)/\o=l:=by unfold He;cases h with|bad h=>rw[hb]at h;grind|no _ k h=>rw[qP k,h];grind|yes _ k h=>grind [qP]
def yS.eq (hb:b.ok)(h:yS b.f b.n b.t b.n b.now b.shift a0 a1 l F o T r cd):o=l/\(b.now=10000/\b=⟨a0,a1,l,F,T⟩/\r=[]/\cd=2\/b.now≠10000/\Mp b=⟨a0,a1,l,F,T⟩/\r=gone b.now b.t b.n/\cd=0):=by cases h with|bad h=>rw[hb]at h;grind|last _ h=>grind|yes _ h=>exact⟨rfl,aE ⟨h,rfl,rfl,rfl⟩⟩
def IU (hb:b.ok):(Iy b q).1.ok/\0<=(Iy b q).2/\(Iy b q).2<=6:=by unfold Iy;cases h:vG b.f b.n b.now b.shift q with|no c=>refine⟨hb,?_⟩;unfold vG Bt at h;split at h;rename_i t;cases h;split at t;grind;split at t<;>grind;grind|yes p T=>exact⟨(A1 (TM h).2).1,(by decide:(0:Int)<=0),(by decide:(0:Int)<=6)⟩
def Jh (hb:b.ok):(FY b s).1.ok/\0<=(FY b s).2/\(FY b s).2<=6:=by unfold FY;cases h:oP b.f b.n b.t b.now b.shift (plB b s)with|no c=>grind [oP]|yes p T=>obtain⟨u,rfl⟩:=ZC (Ry b s) h;refine⟨?_,(by decide:(0:Int)<=0),(by decide:(0:Int)<=6)⟩;rcases Uc b.f b.n b.t b.now b.shift p with e|⟨e,_⟩;rw[e];exact SD hb u;exact(A1 e).1
def Kf (hb:b.ok):(He b s).1.ok/\0<=(He b s).2/\(He b s).2<=6:=by unfold He;cases h:gH b.f b.n b.t b.now (plB b s)with|inl c=>grind [gH]|inr x=>let⟨p,T⟩:=x;let⟨u,_,v,y,_⟩:=aab (Ry b s) h;exact⟨Ki hb u v y,(by decide:(0:Int)<=0),(by decide:(0:Int)<=6)⟩
def KJ (a:b.ok)(h:b.now≠10000):(Mp b).ok:=Ov a h
end
def codeF (x:Bk×Int):Bk×ByteArray:=(x.1,⟨#[99,111,100,101,32]⟩++d7 x.2)
def lh (b:Bk)(l:List Nat)(o:ByteArray):ByteArray:=l.foldl (λo i=>o++((b.f i).name++⟨#[32]⟩)) o
def eM:Nat->Bk->ByteArray->Bk×ByteArray
 |0,b,o=>(b,o++⟨#[110,111,119,32]⟩++d7 b.now)
 |k+1,b,o=>if b.now=10000 then(b,o++(⟨#[99,111,100,101,32]⟩++d7 2))else eM k (Mp b) (lh b (gone b.now b.t b.n) o)
def jV (b:Bk)(i:Nat):ByteArray:=⟨#[32]⟩++(b.f i).name++⟨#[64]⟩++d7 (b.t i)++(if(b.f i).prom=-1 then⟨#[]⟩else⟨#[33]⟩)
def kg (b:Bk):List Nat:=(bi<|10001-b.now.toNat).flatMap λk:Nat=>(bi b.n).filter λi=>b.t i==b.now+(k:Nat)
def lg (b:Bk):ByteArray:=((kg b).foldl (λo i=>o++jV b i)<|d7 b.now)++(⟨#[32,108,97,116,101,32]⟩++d7 (bU b.f b.n b.t b.n).1++⟨#[32,109,111,115,116,32]⟩++d7 (bU b.f b.n b.t b.n).2)
def eV (s:ByteArray)(n:Nat):Prop:=n<100000/\s=d7 n
open Classical in
noncomputable def bG (b:Bk)(k:Nat)(w:Nat->ByteArray):Bk×ByteArray:=
 let u:Bk×ByteArray:=(b,⟨#[98,97,100]⟩)
 if(w 0=⟨#[108,97,110,100]⟩\/w 0=⟨#[108,101,97,118,101]⟩)/\k=4 then
  if h:∃x:Nat×Nat×Nat,eV (w 2) x.1/\eV (w 3) x.2.1/\eV (w 4) x.2.2 then codeF (Iy b ⟨w 1,decide (w 0=⟨#[108,97,110,100]⟩),h.choose.1,h.choose.2.1,h.choose.2.2,-1⟩)else u
 else if w 0=⟨#[100,114,111,112]⟩/\k=1 then codeF (FY b<|w 1)
 else if w 0=⟨#[114,111,117,110,100]⟩/\k=1 then codeF (He b<|w 1)
 else if w 0=⟨#[116,105,99,107]⟩/\k=1 then if h:∃n,eV (w 1) n/\n<=100 then eM h.choose b ⟨#[]⟩else u
 else if w 0=⟨#[112,108,97,110]⟩/\k=0 then(b,lg b)
 else if w 0=⟨#[115,117,114,101]⟩/\k=0 then(b,if fG b.now b.shift b.f b.n b.t b.n=true then⟨#[121,101,115]⟩else⟨#[110,111]⟩)
 else u
noncomputable def uL (b:Bk)(s:ByteArray):Bk×ByteArray:=bG b (a9 s.data.toList 32)<|eh 32 s
noncomputable def p8 (g:Nat->ByteArray):Nat->Bk×ByteArray
 |0=>(⟨0,2,0,λ_=>KY,λ_=>0⟩,⟨#[]⟩)
 |k+1=>((uL (p8 g k).1<|g k).1,(p8 g k).2++(uL (p8 g k).1<|g k).2++⟨#[10]⟩)
def tC (s:ByteArray):Nat:=let k:=a9 s.data.toList 10;if(eh 10 s k).size=0 then k else k+1
noncomputable def sE (s:ByteArray):ByteArray:=if 10000<s.size\/200<tC s then⟨#[116,111,111,32,108,111,110,103,10]⟩else(p8 (eh 10 s)<|tC s).2
end
section
def QF {c}:∀{l:List UInt8} {m:Nat},(∀k,k<m->l[k]?≠some c)->l[m]?=some c->bm l c=m
 |[],_,_,h=>by simp at h
 |x::l,0,_,h=>by simp at h;subst h;simp[bm]
 |x::l,m+1,h,f=>by
  have t:¬x=c:=λe=>h 0 (Nat.zero_lt_succ _)<|by simp[e]
  have u:=QF (l:=l) (m:=m) (λk hk=>by have:=h (k+1) (by omega);simpa using this) (by simpa using f);have e:((m:Int)==-1)=false:=by simp
  simp[bm,t,u,e]
def ur (h):s.data.toList[i]?=some s[i]:=by rw[agR zc];rfl
structure pM (c s)(i j fr:Nat):Prop where
 le:fr<=i
 is:gY c s j=s.extract fr s.size
 no:∀k,fr<=k->k<i->s.data.toList[k]?≠some c
 cnt:(s.data.toList.drop i).count c+j=a9 s.data.toList c
def pM.start (c s):pM c s 0 0 0:=⟨agw _,by simp[gY],λk _ h=>absurd h<|agA _,rfl⟩
def PQ (s:ByteArray)(a):(s.extract a s.size).data.toList=s.data.toList.drop a:=by rw[Lib.extract_data];exact bM cQ
def pM.pass (h:pM c s i j fr){x}(f:s.data.toList[i]?=some x)(hc:x≠c):pM c s (i+1) j fr:=by refine⟨Nat.le_succ_of_le h.le,h.is,λk t u=>?_,?_⟩;by_cases e:k=i;grind;exact h.no k t (by omega);have:=h.cnt;rw[bJ (agF.1 f).1,bV,(agF.1 f).2]at this;grind
def pM.cut (h:pM c s i j fr)(e:s.data.toList[i]?=some c):pM c s (i+1) (j+1) (i+1)/\eh c s j=s.extract fr i/\j<a9 s.data.toList c:=by have t:=(agF.1 e).1;have u:=h.le;(have f:bm (gY c s j).data.toList c=(i-fr:Nat):=by rw[h.is,PQ];refine QF (λk hk=>?_) ?_;rw[List.getElem?_drop];exact h.no _ (by omega) (by omega);grind);have hc:=h.cnt;rw[bJ t,bV,(agF.1 e).2]at hc;simp at hc;have v:i<s.size:=zc;refine⟨⟨agw _,?_,λk y A=>by omega,by omega⟩,?_,by omega⟩;show(gY c s j).extract ((bm (gY c s j).data.toList c).toNat+1) (gY c s j).size=_;rw[f,h.is];apply bA;simp[cc];grind;unfold eh;rw[if_pos (by omega),f,h.is];apply bA;simp;grind
def pM.last (h:pM c s s.size j fr):j=a9 s.data.toList c/\eh c s j=s.extract fr s.size:=by have hc:=h.cnt;rw[List.drop_eq_nil_of_le cQ]at hc;simp at hc;exact⟨hc,by unfold eh;rw[if_neg (by omega)];exact h.is⟩
def Yi (c:UInt8)(s:ByteArray)(j:Nat):List Value:=(bi j).map λi=>aj<|eh c s i
def G7 (c s j):Yi c s j++[aj (eh c s j)]=Yi c s (j+1):=by simp[Yi,bs]
def Lj (s:ByteArray)(c:UInt8)(hs:s.size<=1048576)(w:aP):a6 Tz.prog 20 #[aj s,aa .u8 c.toNat] w λe w'=>(∃B k,e=a3 (ac (some ⟨B,0,none⟩) (a9 s.data.toList c+1) k)/\w'.ownsRow w 9 1 (ac (some ⟨B,0,none⟩) (a9 s.data.toList c+1) k) (a9 s.data.toList c+1) (Yi c s<|a9 s.data.toList c+1))/\aI w w w':=by
 let⟨iS,A,Th,uC,yq⟩:=Gp;go_enter Tz.func20,Tryz.ntmps20
 go_wp2;go_loopw [5,6,7] (λv y x W=>∃(i j fr B k:Nat),i<=s.size/\j<=i/\x=aa .i64 i/\y=aa .i64 fr/\v=ac (some ⟨B,0,none⟩) j k/\pM c s i j fr/\W.ownsRow w 9 1 (ac (some ⟨B,0,none⟩) j k) j (Yi c s j)/\aI w w W) (λ_ _ x _=>s.size-(intOf x).toNat)
 .exact⟨0,0,0,w,0,agB _,agw _,rfl,rfl,rfl,pM.start c s,jU ab<|heap_alloc_new _ _,(agn _ _).alloc ab _⟩
 obtain⟨i,j,fr,B,k,hi,hj,rfl,rfl,rfl,hA,C,f⟩:=hrel;by_cases aG:i<s.size
 .have dQ:(i:Int)<s.size:=by omega
  have O:=ur aG;have R:=hA.le;by_cases hc:s[i]=c
  .rw[hc]at O;let⟨U,Z,ad⟩:=hA.cut O;have Fu:(((s[i]).toNat:Int)==c.toNat)=true:=cQ;have u:=(agn wr wr).alloc ab<|.cells #[aj<|s.extract fr i] 9;go_wp2_with(at_builtin;refine bB _ rfl (.tmp 20) (.tmp 25) 33 rfl w 9 iS _ 1 16 tq A Th uC yq rfl bc _ j _ bQ (iZ C u) wr 1 1 [aj (s.extract fr i)] bQ rfl (fC<|heap_alloc_new wr _) sU iR ab (agz f.size u.size) ?_;intro s5 w5 J CV _;obtain⟨B5,c5,rfl⟩:=iz J)
   go_roundw
   case rel=>exact⟨i+1,j+1,i+1,B5,c5,by omega,by omega,by go_num,by go_num,rfl,U,by rw[<-G7,Z];exact J,(f.trans<|u.mono f.size).grown CV (agz f.size u.size)<|dl C⟩
   exact cD
  have Fu:(((s[i]).toNat:Int)==c.toNat)=false:=by simpa usingλh=>hc<|bS.1<|by omega
  go_wp2;go_roundw
  .exact⟨i+1,j,fr,B,k,by omega,by omega,by go_num,rfl,rfl,hA.pass O hc,C,f⟩
  exact cD
 obtain rfl:i=s.size:=by omega
 obtain⟨rfl,Z⟩:=hA.last;have R:=hA.le;have u:=(agn wr wr).alloc ab<|.cells #[aj<|s.extract fr s.size] 9;go_wp2_with(at_builtin;refine bB _ rfl (.tmp 29) (.tmp 33) 33 rfl w 9 iS _ 1 16 tq A Th uC yq rfl bc _ _ _ bQ (iZ C u) wr 1 1 [aj (s.extract fr s.size)] bQ rfl (fC<|heap_alloc_new wr _) sU iR ab (agz f.size u.size) ?_;intro s5 w5 J CV _;obtain⟨B5,c5,rfl⟩:=iz J)
 go_ret;exact⟨⟨B5,c5,rfl,by rw[<-G7,Z];exact J⟩,(f.trans<|u.mono f.size).grown CV (agz f.size u.size)<|dl C⟩
def oO (b:UInt8):∀(l:List UInt8) (a:Nat),a2 a (l++[b])=(a2 a l).bind λm=>(a7 b).map λd=>m*10+d
 |[],a=>by simp only[List.nil_append,a2,Option.bind_some];cases a7 b<;>rfl
 |x::l,a=>by
  simp only[List.cons_append,a2];cases a7 x with
  |none=>rfl
  |some d=>exact oO b l _
def fig (h:d<10):a7 (bF<|48+d)=some d:=by
 have:(bF<|48+d).toNat=48+d:=by simp;omega
 unfold a7;grind
def FV (n:Nat):a2 0 (bb n)=some n:=by induction n using bE with|_ n a=>rw[bb];split;rename_i h;simp only[a2,fig h,Nat.zero_mul,bn];rw[oO,a (n/10) (by omega),fig (by omega)];grind
theorem F6 (r)(h:l≠[]):(l++r).head?=l.head?:=by cases l with|nil=>exact absurd rfl h|cons=>rfl
def FW (n:Nat):bb n≠[]/\(1<=n->(bb n).head?≠some 48):=by induction n using bE with|_ n e=>rw[bb];split;refine⟨cQ,λf a=>?_⟩;simp at a;have:=congrArg UInt8.toNat a;simp at this;omega;grind [F6]
def Mw {b:UInt8}(h:a7 b=some d):d<10/\b=bF (48+d):=by unfold a7 at h;split at h;obtain rfl:=agC h;refine⟨by omega,?_⟩;simp_all;grind
def PH:∀(k:Nat) (l:List UInt8) (n:Nat),l.length=k+1->a2 0 l=some n->(k=0\/l.head?≠some 48)->bb n=l
 |k,l,n,e,a,A=>by
  obtain⟨l,b,rfl⟩:∃C b,l=C++[b]:=⟨l.dropLast,l.getLast (by intro h;simp[h]at e),(List.dropLast_concat_getLast _).symm⟩;rw[oO]at a;let⟨m,v,a⟩:=agQ.1 a;obtain⟨d,E,rfl⟩:=agP.1 a;obtain⟨G,rfl⟩:=Mw E;cases k with
  |zero=>
   obtain rfl:l=[]:=by simpa using e
   obtain rfl:0=m:=by simpa[a2]using v
   rw[bz (by omega)];simp
  |succ k=>
   have y:l.length=k+1:=by simpa using e
   have f:l≠[]:=by intro h;simp[h]at y
   have t:l.head?≠some 48:=by have:=A.resolve_left (by omega);rwa [F6 _ f]at this
   have u:=PH k l m y v<|aE t;have J:m≠0:=by rintro rfl;rw[bz (by decide)]at u;rw[<-u]at t;exact t rfl
   rw[bb,dif_neg (by omega),show(m*10+d)/10=m by omega,show(m*10+d)%10=d by omega,u]
def decFrom_lt (h:a2 0 l=some m)(e:l.length<=5):m<100000:=by (have f:∀(l:List UInt8) (a m:Nat),a2 a l=some m->m<(a+1)*10^l.length:=by intro l;induction l with|nil=>grind [a2]|cons b l t=>intro a m h;simp[a2]at h;split at h;rename_i d u;have v:=t _ _ h;have y:=(Mw u).1;rw[bO,Nat.pow_succ,Nat.mul_comm (10^_) 10,<-Nat.mul_assoc];exact agx v (Nat.mul_le_mul_right _<|by omega);grind);have:=f _ _ _ h;rw[bn,Nat.one_mul]at this;exact agx this<|Nat.pow_le_pow_right ab e
def fB:eV s n<->s.size<=5/\1<=s.size/\(s.size=1\/s.data.toList.head?≠some 48)/\a2 0 s.data.toList=some n:=by
 constructor;rintro⟨a,rfl⟩;have e:(d7 n).data.toList=bb n:=by simp[d7]
 have t:(d7 n).size=(bb n).length:=by simp[d7,ce]
 have f:=FW n;refine⟨iv 4 n a,f7,?_,FV n⟩;grind [bz];rintro⟨u,v,f,a⟩;have t:s.data.toList.length=s.size:=cQ;have y:=PH (s.size-1) s.data.toList n (by omega) a<|f.imp (by omega) id;refine⟨?_,bA<|by grind [d7]⟩;exact decFrom_lt a<|by omega
def nZ (h:eV s n)(a:eV s m):n=m:=by have:=(fB.1 h).2.2.2;rw[(fB.1 a).2.2.2]at this;grind
def wT:∀{l:List UInt8} {a n i:Nat} {x:UInt8},a2 a l=some n->l[i]?=some x->48<=x.toNat/\x.toNat<=57
 |[],_,_,_,_,_,h=>by simp at h
 |b::l,a,n,i,x,h,f=>by
  simp only[a2]at h;split at h
  .rename_i d e;cases i with
   |zero=>
    obtain rfl:b=x:=by simpa using f
    unfold a7 at e;split at e
    .assumption
    .cases e
   |succ i=>exact wT h<|by simpa using f
  .cases h
def Qn (h):s.data.toList.head?=some s[0]:=by rw[List.head?_eq_getElem?];exact ur h
def aaU (s:ByteArray)(z:Int):Prop:=(∃n:Nat,eV s n/\z=n)\/(¬∃n,eV s n)/\z=-1
def Vq (s:ByteArray)(V:s.size<=1048576)(w:aP):a6 Tz.prog 54 #[aj s] w λe w'=>(∃z,e=a3 (aa .i64 z)/\aaU s z)/\aI w w w':=by
 by_cases y:1<=s.size/\s.size<=5
 .have L:jr s.size 1 5=true:=by unfold jr;grind
  have O:0<s.size:=by omega
  have Z:=Qn O;by_cases t:(1:Int)<s.size/\s[0]=48
  .let⟨t,h0⟩:=t;have Q:(((s[0]).toNat:Int)==48)=true:=cQ;go_enter Tz.func54,Tryz.ntmps54;(go_wp2_with(go_at_call 82;refine(gN _ _ _ _).mono ?_;rintro e w' ⟨rfl,rfl⟩));go_ret;refine⟨⟨-1,rfl,aE ⟨λ⟨n,h⟩=>?_,rfl⟩⟩,agn _ _⟩;have:=(fB.1 h).2.2.1;grind
  have A:s.size=1\/s.data.toList.head?≠some 48:=by grind
  have C:(¬(1:Int)<s.size)\/(1:Int)<s.size/\(((s[0]).toNat:Int)==48)=false:=by exact if e:(1:Int)<s.size then aE ⟨e,by simpa usingλh=>t ⟨e,bS.1<|by simpa using ab⟩⟩else aL e
  have A:Hid _:=A;clear t;rcases C with C|⟨C,h4⟩;all_goals go_enter Tz.func54,Tryz.ntmps54
  all_goals go_wp2_with(go_at_call 82;refine(gN _ _ _ _).mono ?_;rintro e w' ⟨rfl,rfl⟩)
  all_goals go_loopw [3,4] (λv x W=>∃i m:Nat,i<=s.size/\x=aa .i64 i/\v=aa .i64 m/\a2 0 (s.data.toList.take i)=some m/\aI w' w' W) (λ_ x _=>s.size-(intOf x).toNat)
  exact⟨0,0,agB _,rfl,rfl,rfl,agn _ _⟩;case atStart=>exact⟨0,0,agB _,rfl,rfl,rfl,agn _ _⟩
  all_goals obtain⟨i,m,hi,rfl,rfl,u,E⟩:=hrel
  all_goals have hl:=decFrom_lt u f7
  all_goals by_cases R:i<s.size
  all_goals first
   |(have J:=ur R
     have dQ:(i:Int)<s.size:=by omega
     have f:¬(48<=(s[i]).toNat/\(s[i]).toNat<=57)->aaU s (-1):=λh=>aE ⟨λ⟨n,S⟩=>h<|wT (fB.1 S).2.2.2 J,rfl⟩
     by_cases d1:((s[i]).toNat:Int)<48
     .go_wp2;go_ret;exact⟨⟨-1,rfl,f<|by omega⟩,E⟩
     .by_cases d2:(57:Int)<(s[i]).toNat
      .go_wp2;go_ret;exact⟨⟨-1,rfl,f<|by omega⟩,E⟩
      have U:a7 s[i]=some ((s[i]).toNat-48):=by unfold a7;grind
      have hn:=Lib.decFrom_take _ _ _ _ _ _ u J U;clear f;go_wp2;go_roundw
      .grind
      exact cD)
   |(obtain rfl:i=s.size:=by omega
     rw[bM zc]at u;go_wp2;go_ret;exact⟨⟨m,rfl,aL ⟨m,fB.2 ⟨y.2,y.1,A.out,u⟩,rfl⟩⟩,E⟩)
 have L:jr s.size 1 5=false:=by unfold jr;grind
 go_enter Tz.func54,Tryz.ntmps54;go_wp2_with(go_at_call 82;refine(gN _ _ _ _).mono ?_;rintro e w' ⟨rfl,rfl⟩)
 go_ret;exact⟨⟨-1,rfl,aE ⟨λ⟨n,h⟩=>y ⟨(fB.1 h).2.1,(fB.1 h).1⟩,rfl⟩⟩,agn _ _⟩
def IT (w:aP)(b off n:Nat)(g:Nat->ByteArray):Prop:=∀i,i<n->w.cell? ⟨b,off+i,none⟩=some (aj<|g i)
def IT.below {b off}(h:IT w b off n g)(a:aI w w w')(e:b<w):IT w' b off n g:=λi f=>(a.cell e).trans<|h i f
def P_ (L:List Nat):List Value:=L.map λ(x:Nat)=>aa .i64 x
def yQ (g:Nat->ByteArray)(L:List Nat):Prop:=∀i x,L[i]?=some x->eV (g i) x
def yQ.snoc {L}(h:yQ g L)(f:eV (g L.length) x):yQ g (L++[x]):=λi y a=>by
 by_cases e:i<L.length
 .rw[agH e]at a;exact h i y a
 .rw[agI (by omega)]at a;have:i-L.length=0:=by
   have:=(agF.1 a).1;simp at this;omega
  grind
def GV (B off n c:Nat)(g:Nat->ByteArray)(w:aP)(hn:n<=1048576)(hg:∀i,i<n->(g i).size<=1048576)(hB:B<w)(hr:IT w B off n g):
  a6 Tz.prog 32 #[ac (some ⟨B,off,none⟩) n c] w λe w'=>(∃D l k r,e=a3 (a5 #[ac (some ⟨D,0,none⟩) l k,bt r])/\(r=true/\(∃L,L.length=n/\l=n/\yQ g L/\w'.ownsRow w 3 1 (ac (some ⟨D,0,none⟩) l k) l (P_ L))\/r=false/\∃i,i<n/\¬∃x,eV (g i) x))/\aI w w w':=by
 let⟨i0,hI,gE,eI,f8⟩:=uH;go_enter Tz.func32,Tryz.ntmps32
 go_wp2;go_loopw [4,5] (λv x W=>∃(i D k:Nat) (L:List Nat),i<=n/\L.length=i/\x=aa .i64 i/\v=ac (some ⟨D,0,none⟩) i k/\yQ g L/\W.ownsRow w 3 1 (ac (some ⟨D,0,none⟩) i k) i (P_ L)/\aI w w W) (λ_ x _=>n-(intOf x).toNat)
 .exact⟨0,w,0,[],agB _,rfl,rfl,rfl,(λi x h=>cQ),jU ab<|heap_alloc_new _ _,(agn _ _).alloc ab _⟩
 obtain⟨i,D,k,L,hi,R,rfl,rfl,U,A,f⟩:=hrel;have C:Hid _:=R;clear R;by_cases J:i<n
 .have dQ:(i:Int)<n:=by omega
  have hc:=hr.below f hB i J;have H:=Vq (g i)<|hg i J;go_wp2_with(first
   |(go_at_call 54;refine(H _).mono ?_;clear H;rintro e u ⟨⟨z,rfl,hz⟩,t⟩;rcases hz with⟨x,O,rfl⟩|⟨O,rfl⟩)
   |(at_builtin;have y:=(agn u u).alloc ab<|.cells #[aa .i64 x] 3;refine bB _ rfl (.tmp 22) (.tmp 24) 40 rfl w 3 i0 _ 1 8 iL hI gE eI f8 rfl bc _ i _ bQ (iZ (iZ A t) y) u 1 1 [aa .i64 x] bQ rfl (fC<|heap_alloc_new u _) sU iR ab (agz f.size<|agz t.size y.size) ?_;intro s5 w5 Z CV _;obtain⟨B5,c5,rfl⟩:=iz Z))
  .go_roundw
   case rel=>exact⟨i+1,B5,c5,L++[x],by omega,by rw[List.length_append,C.out];rfl,by go_num,rfl,U.snoc (by rw[C.out];exact O),by rw[P_,List.map_append];exact Z,((f.trans<|t.mono f.size).trans<|y.mono<|agz f.size t.size).grown CV (agz f.size<|agz t.size y.size)<|dl A⟩
   exact cD
  exact bp (v:=a5 #[ac (some ⟨D,0,none⟩) i k,bt false]) (by simp[br,Tryz.f32,go_sem]) rfl ⟨⟨_,_,_,_,rfl,aE ⟨rfl,i,J,O⟩⟩,f.trans<|t.mono f.size⟩
 obtain rfl:i=n:=by omega
 go_wp2;exact bp (by simp[br,Tryz.f32,go_sem]) rfl ⟨⟨_,_,_,_,rfl,aL ⟨rfl,L,C.out,rfl,U,A⟩⟩,f⟩
def Ih (h:p:=by intro w' hSw;obtain⟨-,s0,s1,s2,s3,s4⟩:=hSw;go_simp):p:=h
def K0 (w:aP)(N:Nat)(x0 x1:Int)(v u:Value)(w':aP):Prop:=aI w w w'/\w'.cell? N=some (aa .i64 x0)/\w'.cell? ⟨N,1,none⟩=some (aa .i64 x1)/\w'.cell? ⟨N,2,none⟩=some v/\w'.cell? ⟨N,3,none⟩=some u/\∀j,w'.frozen? ⟨N,j,none⟩=false
def K0.of {v u}(a:aI w w w')(h:aR w' N x0 x1 v u):K0 w N x0 x1 v u w':=⟨a,h.cells⟩
def zl (now shift:Int)(ao:Option aV)(n cp:Nat)(bo:Option aV)(m t:Nat)(cd:Int)(h0:0<=cd)(h6:cd<=6)(w:aP): a6 Tz.prog 33 #[az #[aa .i64 now,aa .i64 shift,ac ao n cp,ac bo m t],aa .i64 cd] w λe w'=>e=a3 (a5 #[az #[aa .i64 now,aa .i64 shift,ac ao n cp,ac bo m t],aj<|⟨#[99,111,100,101,32]⟩++d7 cd])/\aI w w w':=by
 obtain⟨k,rfl⟩:∃k:Nat,cd=k:=⟨cd.toNat,by omega⟩;have H:=λw=>jZ k (by omega) w;have hz:¬9223372036854775807<5+(d7 k).size:=by have:=iv 5 k (by omega);omega
 let⟨Z,e1,k1,J,A⟩:=boxed w now shift ao n cp bo m t;let⟨W2,e2,u,O,z2⟩:=boxed Z 0 0 none 0 0 none 0 0;have f:=J.trans<|O.mono J.size;have k1:=k1.same<|O.block _ k1.lt;replace A:Hid _:=A;clear z2;go_enter Tz.func33,Tryz.ntmps33;go_wp2;refine a8 aO (K0.of f.drew k1) λhS=>ai 0 (az #[aa .i64 now,aa .i64 shift,ac ao n cp,ac bo m t]) 6 rfl Ih hS<|ai 1 (aa .i64 k) 7 rfl Ih hS ?_;simp[ay,au,av,ax];refine fH 2 rfl λK y=>?_;go_simp;go_at_call 12
 refine(H _).mono ?_;rintro e w3 ⟨rfl,C⟩;have f:=f.drew.trans<|C.mono f.size;have k1:=k1.same<|C.block _ k1.lt;have u:=u.same<|C.block _ u.lt;refine y.out _ _ (K0.of f k1) λhS=>?_;clear y K C;refine ai 3 (aj<|⟨#[99,111,100,101,32]⟩++d7 k) 9 rfl Ih hS ?_;simp only[ay,au,av,ax];refine fH 4 rfl λK y=>?_;let⟨y0,y1,y2,y3,y4⟩:=u.cells;let⟨W5,e5,k5,R,U,o5⟩:=aJ u f (agz (b0 _)<|be A.out.symm) now shift ao n cp bo m t;replace U:Hid _:=U;go_simp;refine y.out _ _ (K0.of R<|k1.same<|o5 _ (by have:=A.out;omega)) λhS=>?_;clear y K;refine ai 5 (aj<|⟨#[99,111,100,101,32]⟩++d7 k) 5 rfl Ih hS<|wpAnyH_done aO ?_ _;simp only[ay,au,av,ax];go_wp2;let⟨q0,q1,q2,q3,q4⟩:=k5.cells;exact bp (by simp[br,Tryz.f33,go_sem,q0,q1,q2,q3]) rfl ⟨rfl,R⟩
structure fx (X:Nat->Prop)(W:aP)(b:Bk)(s2:Option aV)(c2:Nat)(s3:Option aV)(c3:Nat):Prop where
 sm:ql W s2 b.n c2 b.f
 si:pX W s3 b.n c3 b.t
 rm:b.n<=c3
 ne:∀a,s2=some a\/s3=some a->¬X a.block
section
variable {Y:Nat->Prop}{b:Bk}
def Bk.ok.Oc (h:b.ok):b.n<=6:=by have:=(bL h).1;unfold aH at this;grind
def Bk.ok.name (h:b.ok)(t:i<b.n):(b.f i).name.size<=8:=by have:=LR<|bf (bL h).1 i t;omega
def fx.bq (h:fx X W b s2 c2 s3 c3)(u:b.ok):Bq W b.now b.shift s2 b.n c2 b.f s3 b.n c3 b.t:=by have r:=gi u;have v:s2=none\/s3=none->b.n=0:=λe=>e.elim (λe=>(h.sm.1 e).1) λe=>(h.si.1 e).1;exact⟨u.Oc,u.Oc,h.sm,h.si,λe=>⟨v e,v e,r.1,r.2.1⟩,λi y=>EW<|bf (bL u).1 i y⟩
def fx.set (h:fx X W b s2 c2 s3 c3)(e:∀k,¬X k->W'.heap[k]?=W.heap[k]?)(y:(W:Nat)<=W'):fx X W' b s2 c2 s3 c3:=
 ⟨⟨h.sm.1,λf a=>by let⟨x,t,u,v⟩:=h.sm.2 f a;exact⟨x,t,agx u y,dL v<|e x (by have:=h.ne f<|aL a;rwa [t]at this)⟩⟩,
  ⟨h.si.1,λf a=>by let⟨x,t,u,v⟩:=h.si.2 f a;exact⟨x,t,agx u y,mi v<|e x (by have:=h.ne f<|aE a;rwa [t]at this)⟩⟩,h.rm,h.ne⟩
def fx.grow (h:fx X W b s2 c2 s3 c3)(a:aI W W W'):fx X W' b s2 c2 s3 c3:=⟨h.sm.bl<|Bl.of a,h.si.bl<|Bl.of a,h.rm,h.ne⟩
def IP.rows {v l}(h:IP W v s2 l c2 F s3 o c3 T)(ho:o=l)(y:∀x,X x->x<v):fx X W ⟨a0,a1,l,F,T⟩ s2 c2 s3 c3:=by subst ho;rcases h with⟨rfl,rfl,rfl,rfl,-,rfl⟩|⟨x,A,rfl,rfl,f,C,t⟩;exact⟨⟨λ_=>⟨rfl,rfl⟩,λ_ h=>nomatch h⟩,⟨λ_=>⟨rfl,rfl⟩,λ_ h=>nomatch h⟩,agw _,λa h=>cQ⟩;exact⟨⟨(λh=>nomatch h),λE e=>by cases e;exact⟨x,rfl,(fJ f).2.1,eu f⟩⟩,⟨(λh=>nomatch h),λE e=>by cases e;exact⟨A,rfl,t.lt,t.2.2⟩⟩,C,λa h=>by rcases h with h|h<;>cases h;exact λu=>bX _<|agx (y _ u) (fJ f).1;exact λu=>bX _<|agx (y _ u) t.1⟩
def fx.more (h:fx X W b s2 c2 s3 c3)(u:∀x,Y x->X x\/(W:Nat)<=x):fx Y W b s2 c2 s3 c3:=
 ⟨h.sm,h.si,h.rm,λa e v=>by
  rcases u _ v with f|f
  .exact h.ne a e f
  .rcases e with e|e
   .obtain⟨x,rfl,t,_⟩:=h.sm.2 a e;exact absurd f (cb.2 t)
   .obtain⟨x,rfl,t,_⟩:=h.si.2 a e;exact absurd f<|cb.2 t⟩
end
def KL (b l i o):lh b (l++[i]) o=lh b l o++(b.f i).name++⟨#[32]⟩:=by simp[lh,bk]
def jX {b}(hb:b.ok):∀(l:List Nat) (o:ByteArray),(∀i∈l,i<b.n)->(lh b l o).size<=o.size+9*l.length
 |[],o,_=>agw _
 |i::l,o,h=>by
  have:=jX hb l (o++((b.f i).name++⟨#[32]⟩)) (λj t=>h j<|by simp[t]);have u:=hb.name (h i<|by simp);simp only[lh,List.foldl_cons,bO]at this⊢;simp only[bv,show(⟨#[32]⟩:ByteArray).size=1 from rfl]at this;omega
def qr (f:0<=z)(h:z<1000000)(w:aP):a6 Tz.prog 12 #[aa .i64 z] w λe w'=>e=a3 (aj<|d7 z)/\aI w w w':=by obtain⟨n,rfl⟩:∃n:Nat,z=n:=⟨z.toNat,by omega⟩;exact jZ n (by omega) w
def dA (h:z<1000000):(d7 z).size<=6:=by by_cases e:0<=z;obtain⟨n,rfl⟩:∃n:Nat,z=n:=⟨z.toNat,by omega⟩;exact iv 5 n (by omega);unfold d7;rw[show z.toNat=0 by omega];decide +kernel
def Df {t:Nat}{f:Nat->Mv}{u:Option aV}{v:Nat}{l:List Nat}(h:W.ownsRow t 9 1 (ac u l.length v) l.length (nX f l))(A:j<l.length):∃B,u=some ⟨B,0,none⟩/\W.cell? ⟨B,j,none⟩=some (aj (f l[j]).name):=by let⟨B,c,y⟩:=VA h ab;cases y;exact⟨B,rfl,(h.cellAt j<|by omega).trans<|by grind [nX]⟩
def Ow (b:Bk)(hb:b.ok)(s2:Option aV)(c2:Nat)(s3:Option aV)(c3:Nat)(n:Nat)(hn:n<=100)(w:aP)(X:Nat->Prop)(hX:∀x,X x->x<w)(hR:fx X w b s2 c2 s3 c3):
  a6 Tz.prog 37 #[az #[aa .i64 b.now,aa .i64 b.shift,ac s2 b.n c2,ac s3 b.n c3],aa .i64 n] w λe w'=>(∃s2 c2 s3 c3,e=a3 (a5 #[az #[aa .i64 (eM n b ⟨#[]⟩).1.now,aa .i64 (eM n b ⟨#[]⟩).1.shift,ac s2 (eM n b ⟨#[]⟩).1.n c2,ac s3 (eM n b ⟨#[]⟩).1.n c3],aj (eM n b ⟨#[]⟩).2])/\fx X w' (eM n b ⟨#[]⟩).1 s2 c2 s3 c3)/\aI w w w':=by
 let⟨W1,e1,k1,b1,z1⟩:=boxed w b.now b.shift s2 b.n c2 s3 b.n c3;let⟨W2,e2,y,b2,z2⟩:=boxed W1 0 0 none 0 0 none 0 0;have A:=b1.trans<|b2.mono b1.size;have k1:=k1.same<|b2.block _ k1.lt;have hR:=(hR.more (Y:=λx=>X x\/x=(w:Nat)\/x=(W1:Nat)) λx h=>h.imp id λh=>by omega).grow A;obtain⟨R,nG⟩:∃R,eM n b ⟨#[]⟩=R:=⟨_,rfl⟩;rw[nG];replace nG:Hid (eM n b ⟨#[]⟩=R):=nG;have hM:(w:Nat)<W1:=by omega
 clear z1 z2 b1 b2;go_enter Tz.func37,Tryz.ntmps37
 go_wp2;clear e1 e2;generalize (W1:Nat)=M at*;go_loopw [6,7] (λo x W=>∃(k:Nat) (u:Bk) (t2:Option aV) (d2:Nat) (t3:Option aV) (d3:Nat) (out:ByteArray),k<=n/\x=aa .i64 k/\o=aj out/\u.ok/\Hid (eM (n-k) u out=R)/\out.size<=54*k/\aR W w u.now u.shift (ac t2 u.n d2) (ac t3 u.n d3)/\fx (λx=>X x\/x=(w:Nat)\/x=M) W u t2 d2 t3 d3/\aR W M 0 0 (ac none 0 0) (ac none 0 0)/\aI w w W) (λ_ x _=>n-(intOf x).toNat)
 case atStart=>exact⟨0,b,s2,c2,s3,c3,_,agB _,rfl,rfl,hb,by rw[Nat.sub_zero];exact nG,agw _,k1,hR,y,A⟩
 clear nG hR k1 y A hb;obtain⟨k,u,t2,d2,t3,d3,out,hk,rfl,rfl,hb,hF,ho,k1,hR,y,A⟩:=hrel;let⟨y0,y1,y2,y3,y4⟩:=k1.cells;by_cases aG:k<n
 .have dQ:(k:Int)<n:=by omega
  have H:=aax u.now u.shift t2 u.n d2 u.f t3 u.n d3 u.t wr<|hR.bq hb;by_cases C:u.now=10000
  .have HX:Hid _:=C;clear C;go_wp2_with(go_at_call 64;refine H.mono ?_;clear H;rintro e w3 ⟨⟨a0,a1,p2,l,Z,F,p3,o,q3,T,sa,js,sc,r,cd,rfl,hO,hQ,bo,J⟩,b3⟩;let⟨U2,hq⟩:=hO.eq hb;obtain⟨-,-,-,rfl⟩:=hq.resolve_right λh=>h.1 HX.out;clear hq hO hQ bo J U2;let⟨W8,e8,k8,b8,z8⟩:=boxed w3 0 0 none 0 0 none 0 0;have bx:=A.trans<|b3.mono A.size;let⟨x0,x1,x2,x3,x4⟩:=k8.cells;let⟨W9,e9,k9,b9,z9,o9⟩:=aJ k8 b8 ab a0 a1 p2 l Z p3 o q3;replace z8:Hid _:=z8;replace z9:Hid _:=z9)
   have H:=λw=>jZ 2 (by decide) w
   have b9:=b3.trans<|b9.mono b3.size;have k1:=k1.same<|b9.block _ k1.lt;have y:=y.same<|b9.block _ y.lt;have hR:=hR.grow b9;have ad:=A.trans<|b9.mono A.size;have eI:¬9223372036854775807<out.size+5:=by omega
   have f8:¬9223372036854775807<out.size+5+(d7 2).size:=by have:(d7 2).size<=6:=iv 5 2 (by decide);omega
   refine a8 aO (K0.of ad.drew k1) λhS=>ai 0 (az #[aa .i64 u.now,aa .i64 u.shift,ac t2 u.n d2,ac t3 u.n d3]) 25 rfl Ih hS<|ai 1 (aj out) 26 rfl Ih hS<|ai 2 (aj<|out++⟨#[99,111,100,101,32]⟩) 27 rfl Ih hS<|ai 3 (aa .i64 2) 28 rfl Ih hS ?_;simp only[ay,au,av,ax];refine fH 4 rfl λK hK=>?_;go_simp
   go_at_call 12
   refine(H _).mono ?_;rintro e w4 ⟨rfl,O⟩;have A:=ad.drew.trans<|O.mono ad.size;have k1:=k1.same<|O.block _ k1.lt;have y:=y.same<|O.block _ y.lt;have hR:=hR.grow<|(agn _ W9).drew.trans O;refine hK.out _ _ (K0.of A k1) λhS=>?_
   clear hK K O;refine ai 5 (aj<|out++⟨#[99,111,100,101,32]⟩++d7 (2:Nat)) 30 rfl Ih hS ?_;simp only[ay,au,av,ax];refine fH 6 rfl λK hK=>?_;let⟨y0,y1,y2,y3,y4⟩:=y.cells;let⟨W5,e5,k5,b5,U,o5⟩:=aJ y A ab u.now u.shift t2 u.n d2 t3 u.n d3;replace U:Hid _:=U;go_simp
   refine hK.out _ _ (K0.of b5<|k1.same<|o5 _<|agN hM) λhS=>?_
   clear hK K;refine ai 7 (aj<|out++⟨#[99,111,100,101,32]⟩++d7 (2:Nat)) 5 rfl Ih hS ?_;refine bj aO ?_ _;simp only[ay,au,av,ax];go_wp2;let⟨q0,q1,Z,q3,q4⟩:=k5.cells;have hF:R=(u,out++⟨#[99,111,100,101,32]⟩++d7 (2:Nat)):=by
    rw[<-hF.out,show n-k=(n-k-1)+1 by omega,eM,if_pos HX.out,bk];rfl
   subst hF;exact bp (v:=a5 #[az #[aa .i64 u.now,aa .i64 u.shift,ac t2 u.n d2,ac t3 u.n d3],aj<|out++⟨#[99,111,100,101,32]⟩++d7 (2:Nat)]) (by simp[br,Tryz.f37,go_sem,q0,q1,Z,q3]) rfl ⟨⟨_,_,_,_,rfl,(hR.set (λx C=>o5 x λe=>C<|aE<|aE e)<|be U.out.symm).more λx C=>aL<|aL C⟩,b5⟩
  .have HX:Hid _:=C;clear C;have hN:∀x,X x\/x=(w:Nat)\/x=M->x<wr:=λx h=>h.elim (λh=>agx (hX x h) A.size) λh=>h.elim (λh=>h▸k1.lt) λh=>h▸y.lt
   replace hN:Hid _:=hN;have Td:Hid ((w:Nat)<wr):=k1.lt;go_wp2_with(go_at_call 64;refine H.mono ?_;clear H;rintro e w3 ⟨⟨a0,a1,p2,l,Z,F,p3,o,q3,T,sa,js,sc,r,cd,rfl,hO,hQ,rfl,J⟩,b3⟩;let⟨U2,hq⟩:=hO.eq hb;obtain⟨-,hT,Xr,rfl⟩:=hq.resolve_left λh=>HX.out h.1;subst U2;replace hQ:Hid _:=hQ.rows (a0:=a0) (a1:=a1) rfl hN.out;replace hT:Hid _:=hT;replace Xr:Hid _:=Xr;clear hq hO hN;let⟨W8,e8,k8,b8,z8⟩:=boxed w3 0 0 none 0 0 none 0 0;have bx:=A.trans<|b3.mono A.size;let⟨x0,x1,x2,x3,x4⟩:=k8.cells;let⟨W9,e9,k9,b9,z9,o9⟩:=aJ k8 b8 (agw _) a0 a1 p2 o Z p3 o q3;let⟨v0,v1,v2,v3,v4⟩:=k9.cells;have ao:=b3.trans<|b9.mono b3.size;have k1:=k1.same<|ao.block _ k1.lt;have y:=y.same<|ao.block _ y.lt;let⟨y0,y1,y2,y3,y4⟩:=k1.cells;let⟨W5,e5,k5,b5,U,o5⟩:=aJ k1 (A.trans<|ao.mono A.size) (agw _) a0 a1 p2 o Z p3 o q3;replace z8:Hid _:=z8;replace z9:Hid _:=z9;replace U:Hid _:=U)
   have hR:fx (λx=>X x\/x=(w:Nat)\/x=M) W5 ⟨a0,a1,o,F,T⟩ p2 Z p3 q3:=(hQ.out.grow b9).set (λx C=>o5 x λe=>C<|aE<|aL e)<|be U.out.symm;have y:=y.same<|o5 _<|agM hM;have bK:r.length<=6:=by rw[Xr.out];exact agz (qs _ _ _) hb.Oc
   have u_:∀i,i∈r->i<u.n:=λi hi=>by rw[Xr.out]at hi;exact(qt hi).1
   have XR:∀j (hj:j<r.length),∃B,sa=some ⟨B,0,none⟩/\W5.cell? ⟨B,j,none⟩=some (aj (u.f r[j]).name):=λj hj=>by
    obtain⟨B,rfl,hc⟩:=Df J hj;have hl:=kW J;have uy:=dl J B rfl;have e:W5.heap[B]?=w3.heap[B]?:=(o5 _<|agM<|agx Td.out uy).trans<|b9.block _ hl.1;exact⟨B,rfl,by rw[<-hc];unfold World.cell?;rw[e]⟩
   clear J e5 e9 e8 o5 o9 k9 k8 x0 x1 x2 x3 x4 v0 v1 v2 v3 v4 y0 y1 y2 y3 y4 hQ;go_loopw [6,11] (λo x W=>∃j:Nat,j<=r.length/\x=aa .i64 j/\o=aj (lh u (r.take j) out)/\W=W5) (λ_ x _=>r.length-(intOf x).toNat)
   case atStart=>exact⟨0,agB _,rfl,rfl,rfl⟩
   case round=>
    obtain⟨j,hj,rfl,rfl,rfl⟩:=hrel;by_cases aZ:j<r.length
    .have b6:(j:Int)<r.length:=by omega
     obtain⟨B,rfl,hc⟩:=XR j aZ;have hs:=jX hb (r.take j) out λi hi=>u_ i<|bN hi;rw[bR]at hs;have gE:=hb.name<|u_ _<|List.getElem_mem aZ;have eI:¬9223372036854775807<(lh u (r.take j) out).size+(u.f r[j]).name.size:=by omega
     have f8:¬9223372036854775807<(lh u (r.take j) out).size+(u.f r[j]).name.size+1:=by omega
     clear hs gE;go_wp2;go_roundw
     case rel=>exact⟨j+1,by omega,by go_num,by rw[List.take_succ_eq_append_getElem aZ,KL],trivial⟩
     exact cD
    obtain rfl:j=r.length:=by omega
    go_wp2;go_roundw
    case rel=>
     refine⟨k+1,⟨a0,a1,o,F,T⟩,p2,Z,p3,q3,_,by omega,by go_num,rfl,by rw[<-hT.out];exact KJ hb HX.out,?_,?_,k5,hR,y,b5⟩
     .rw[<-hF.out,show n-k=(n-(k+1))+1 by omega,eM,if_neg HX.out,hT.out,List.take_length,Xr.out];exact rfl
     have:=jX hb (r.take r.length) out λi hi=>u_ i<|bN hi;rw[bR,Nat.min_self]at this;omega
    case measure=>exact cD
 obtain rfl:k=n:=by omega
 have hr:=(gi hb).1;have H:=λw=>qr hr.1 (by omega) w
 have eI:¬9223372036854775807<out.size+4:=by omega
 have f8:¬9223372036854775807<out.size+4+(d7 u.now).size:=by have:=dA (z:=u.now) (by omega);omega
 clear hr;go_wp2;refine a8 aO (K0.of A.drew k1) λhS=>?_;refine ai 0 (az #[aa .i64 u.now,aa .i64 u.shift,ac t2 u.n d2,ac t3 u.n d3]) 45 rfl Ih hS ?_;refine ai 1 (aj out) 46 rfl Ih hS ?_;refine ai 2 (aj<|out++⟨#[110,111,119,32]⟩) 47 rfl Ih hS ?_;refine ai 3 (a4<|some w) 48 rfl Ih hS ?_;refine ai 4 (aa .i64 u.now) 49 rfl Ih hS ?_;simp only[ay,au,av,ax];refine fH 5 rfl λK hK=>?_;go_simp
 go_at_call 12
 refine(H _).mono ?_;rintro e w4 ⟨rfl,O⟩;have bl:=A.drew.trans<|O.mono A.size;have k1:=k1.same<|O.block _ k1.lt;have y:=y.same<|O.block _ y.lt;have hR:=hR.grow<|(agn _ wr).drew.trans O;refine hK.out _ _ (K0.of bl k1) λhS=>?_
 clear hK K O;refine ai 6 (aj<|out++⟨#[110,111,119,32]⟩++d7 u.now) 51 rfl Ih hS ?_;simp only[ay,au,av,ax];refine fH 7 rfl λK hK=>?_;let⟨y0,y1,y2,y3,y4⟩:=y.cells;let⟨W5,e5,k5,b5,U,o5⟩:=aJ y bl ab u.now u.shift t2 u.n d2 t3 u.n d3;replace U:Hid _:=U;go_simp
 refine hK.out _ _ (K0.of b5<|k1.same<|o5 _<|agN hM) λhS=>?_
 clear hK K;refine ai 8 (aj<|out++⟨#[110,111,119,32]⟩++d7 u.now) 5 rfl Ih hS<|wpAnyH_done aO ?_ _;simp only[ay,au,av,ax];go_wp2;let⟨q0,q1,Z,q3,q4⟩:=k5.cells;obtain rfl:R=(u,out++⟨#[110,111,119,32]⟩++d7 u.now):=by rw[<-hF.out,Nat.sub_self];rfl
 exact bp (by simp[br,Tryz.f37,go_sem,q0,q1,Z,q3]) rfl ⟨⟨_,_,_,_,rfl,(hR.set (λx C=>o5 x λe=>C<|aE<|aE e)<|be U.out.symm).more λx C=>aL<|aL C⟩,b5⟩
def plO (b:Bk)(L:List Nat):ByteArray:=L.foldl (λo i=>o++jV b i)<|d7 b.now
def G8 (b L i):plO b (L++[i])=plO b L++jV b i:=by simp[plO]
def fo (b:Bk)(k i:Nat):List Nat:=((bi k).flatMap λk:Nat=>(bi b.n).filter λi=>b.t i==b.now+(k:Nat))++(bi i).filter λi=>b.t i==b.now+(k:Nat)
def uY (b k):fo b k b.n=fo b (k+1) 0:=by simp[fo,bs]
def pA {b:Bk}(h:b.t i=b.now+(k:Nat)):fo b k (i+1)=fo b k i++[i]:=by simp[fo,bs,h]
def xA {b:Bk}(h:¬b.t i=b.now+(k:Nat)):fo b k (i+1)=fo b k i:=by simp[fo,bs,h]
def PE {ao bo:Option aV}{ca da:Nat}(w:aP):a6 Tz.prog 65 #[ac ao 0 ca,ac bo 0 da] w λe w'=>e=a3 (a5 #[(0:Int),(0:Int)])/\aI w w w':=by
 have h:∀w,a6 Tz.prog 88 #[ac ao 0 ca,ac bo 0 da] w λe w'=>e=a3 (a5 #[(0:Int),(0:Int)])/\w'=w:=λw=>by go_enter Tz.func88,Tryz.ntmps88;go_wp2;(go_loopw [6,7,8] (λa b x W=>a=aa .i64 0/\b=aa .i64 0/\x=aa .i64 0/\W=w) (λ_ _ _ _=>0));(case atStart=>grind);obtain⟨rfl,rfl,rfl,rfl⟩:=hrel;go_wp2;go_ret2;simp
 have f:=vk (ao:=ao) (ca:=ca) (bo:=bo) (da:=da) w;go_enter Tz.func65,Tryz.ntmps65;go_wp2_with(first|(go_at_call 83;refine f.mono ?_;clear f;rintro e t ⟨rfl,u⟩)|(go_at_call 88;refine(h _).mono ?_;rintro e v ⟨rfl,rfl⟩))
 go_ret2;simp_all
def Ea {b:Bk}(h:b.ok):(0<=(bU b.f b.n b.t b.n).1/\(bU b.f b.n b.t b.n).1<=60000)/\0<=(bU b.f b.n b.t b.n).2/\(bU b.f b.n b.t b.n).2<=10000:=by have hs:=(gh.fits (bL h).1 (bL h).2.2).sum b.n ab;have u:=h.Oc;unfold bU;grind
theorem fx.cost {b:Bk}(h:fx X W b s2 c2 s3 c3)(u:b.ok):a6 Tz.prog 65 #[ac s2 b.n c2,ac s3 b.n c3] W λe w'=>e=a3 (a5 #[aa .i64 (bU b.f b.n b.t b.n).1,aa .i64 (bU b.f b.n b.t b.n).2])/\aI W W w':=by have y:=u.Oc;refine(h.bq u).cases (λv _ _ _=>?_) λb R v A hb C J O=>?_;rw[v,show bU b.f 0 b.t 0=(0,0) by unfold bU;split<;>rfl];exact PE W;subst v A;exact E3 _ _ _ _ _ _ _ _ _ _ W (by omega) (agz y<|by decide) hb C (h.bq u).fit J O
def BxN (w:aP)(N:Nat)(x0 x1:Int)(v u:Value)(q:aV)(s:ByteArray)(w':aP):Prop:=K0 w N x0 x1 v u w'/\w'.cell? q=some (aj s)
def Ou (h:p:=by intro w' hSw;obtain⟨⟨-,s0,s1,s2,s3,s4⟩,s5⟩:=hSw;go_simp):p:=h
def Rz (b:Bk)(hb:b.ok)(s2:Option aV)(c2:Nat)(s3:Option aV)(c3:Nat)(w:aP)(X:Nat->Prop)(hR:fx X w b s2 c2 s3 c3):
  a6 Tz.prog 38 #[az #[aa .i64 b.now,aa .i64 b.shift,ac s2 b.n c2,ac s3 b.n c3]] w λe w'=>e=a3 (aj<|lg b)/\aI w w w':=by
 let⟨W1,e1,O,b1,z1⟩:=boxed w b.now b.shift s2 b.n c2 s3 b.n c3;have hR:=(hR.more λx h=>aE ab).grow b1;obtain⟨R,nG⟩:∃R,lg b=R:=⟨_,rfl⟩;rw[nG];replace nG:Hid (lg b=R):=nG;have hr:=(gi hb).1;have iV:=dA (z:=b.now) (by omega);have h6:=hb.Oc;have A:=λw=>qr (z:=b.now) hr.1 (by omega) w
 have hl:=O.lt;let⟨y0,y1,y2,y3,y4⟩:=O.cells;replace z1:Hid _:=z1;go_enter Tz.func38,Tryz.ntmps38
 go_wp2_with(go_at_call 12;refine(A _).mono ?_;clear A;rintro e w2 ⟨rfl,b2⟩;have k2:=O.same<|b2.block _ hl;let⟨v0,v1,v2,v3,v4⟩:=k2.cells)
 clear v0 v1 v2 v3 v4 y0 y1 y2 y3 y4 e1 k2;go_loopw [3,4] (λo x W=>∃(k:Nat) (out:ByteArray),b.now+k<=10001/\x=aa .i64 (b.now+k)/\o=aj out/\Hid (out=plO b (fo b k 0))/\out.size<=6+102*k/\aI W1 W1 W) (λ_ x _=>10001-(intOf x).toNat)
 case atStart=>exact⟨0,_,by omega,by go_num,rfl,rfl,iV,b2⟩
 clear iV b2;obtain⟨k,out,hk,rfl,rfl,hF,ho,u⟩:=hrel;by_cases aG:b.now+k<=10000
 .go_wp2;go_loopw [3,5] (λo x W=>∃(i:Nat) (out:ByteArray),i<=b.n/\x=aa .i64 i/\o=aj out/\Hid (out=plO b (fo b k i))/\out.size<=6+102*k+17*i/\aI W1 W1 W) (λ_ x _=>b.n-(intOf x).toNat)
  case atStart=>exact⟨0,out,agB _,rfl,rfl,hF,ho,u⟩
  clear ho hF u;obtain⟨i,out,hi,rfl,rfl,hF,ho,u⟩:=hrel;have J:=O.same<|u.block _ hl;let⟨y0,y1,y2,y3,y4⟩:=J.cells;by_cases y:i<b.n
  .have bx:(i:Int)<b.n:=by omega
   obtain⟨B,rfl,hB,ad⟩:=hR.sm.pos (by omega);obtain⟨B',rfl,P5,JD⟩:=hR.si.pos (by omega);have hc:=JD.below u P5 i y;rw[bn]at hc;by_cases U:b.t i=b.now+k
   .have Z:Hid _:=U;rw[U]at hc;clear U;let⟨c0,c1,ao,aZ,c4,c5⟩:=ad.below u hB i y;have XR:=hb.name y;have bl:=dA (z:=b.now+k) (by omega);have A:=λw=>qr (z:=b.now+k) (by omega) (by omega) w
    have eI:¬9223372036854775807<out.size+1:=by omega
    have f8:¬9223372036854775807<out.size+1+(b.f i).name.size:=by omega
    have ED:¬9223372036854775807<out.size+1+(b.f i).name.size+1:=by omega
    have bo:¬9223372036854775807<out.size+1+(b.f i).name.size+1+(d7<|b.now+k).size:=by omega
    have tY:¬9223372036854775807<out.size+1+(b.f i).name.size+1+(d7<|b.now+k).size+1:=by omega
    have HZ:Hid (out.size+1+(b.f i).name.size+1+(d7<|b.now+k).size+1<=6+102*k+17*(i+1)):=by show _<=_;omega
    simp only[bn]at c0 c5;clear XR bl ho c1 ao aZ c4;go_wp2;refine a8 (S:=BxN W1 w b.now b.shift (ac (some B) b.n c2) (ac (some B') b.n c3) ⟨B,i*6,none⟩ (b.f i).name) aO ⟨K0.of u.drew J,c0⟩ λhS=>?_;refine ai 0 (aj out) 31 rfl Ou hS ?_;refine ai 1 (aj<|out++⟨#[32]⟩) 32 rfl Ou hS ?_;refine ai 2 (a4<|some ⟨w,2,none⟩) 33 rfl Ou hS ?_;refine ai 3 (ac (some B) b.n c2) 34 rfl Ou hS ?_;refine ai 4 (aa .i64 i) 35 rfl Ou hS ?_;refine ai 5 (a4<|some ⟨B,i*6,none⟩) 36 rfl Ou hS ?_;refine ai 6 (a4<|some ⟨B,i*6,none⟩) 37 rfl Ou hS ?_;refine ai 7 (aj (b.f i).name) 38 rfl Ou hS ?_;refine ai 8 (aj<|out++⟨#[32]⟩++(b.f i).name) 39 rfl Ou hS ?_;refine ai 9 (aj<|out++⟨#[32]⟩++(b.f i).name++⟨#[64]⟩) 40 rfl Ou hS ?_;refine ai 10 (aa .i64<|b.now+k) 41 rfl Ou hS ?_;simp only[ay,au,av,ax];refine fH 11 rfl λK hK=>?_;go_simp
    go_at_call 12
    refine(A _).mono ?_;rintro e w4 ⟨rfl,b4⟩;have u:=u.drew.trans<|b4.mono u.size;have J:=O.same<|u.block _ hl;obtain⟨c0,-,-,-,-,c5⟩:=ad.below u hB i y;simp only[bn]at c0 c5;refine hK.out _ _ ⟨K0.of u J,c0⟩ λhS=>?_
    clear hK K b4;refine ai 12 (aj<|out++⟨#[32]⟩++(b.f i).name++⟨#[64]⟩++d7 (b.now+k)) 43 rfl Ou hS<|ai 13 (aj<|out++⟨#[32]⟩++(b.f i).name++⟨#[64]⟩++d7 (b.now+k)) 3 rfl Ou hS<|wpAnyH_done aO ?_ _;simp only[ay,au,av,ax];let⟨y0,y1,y2,y3,y4⟩:=J.cells;by_cases hp:0<=(b.f i).prom
    .have HP:Hid (¬(b.f i).prom=-1):=by show¬_;omega
     go_wp2;go_roundw
     case rel=>exact⟨i+1,_,by omega,by go_num,rfl,by show _=_;rw[pA Z.out,G8,<-hF.out,jV,if_neg HP.out,Z.out];simp[bk],by simp[bv];exact HZ.out,u⟩
     exact cD
    have HP:Hid ((b.f i).prom=-1):=by show _=_;have:=(Mv.gp<|bf (bL hb).1 i y);omega
    go_wp2;go_roundw
    case rel=>exact⟨i+1,_,by omega,by go_num,rfl,by show _=_;rw[pA Z.out,G8,<-hF.out,jV,if_pos HP.out,Z.out,show(⟨#[]⟩:ByteArray)=cf from rfl];simp[bk,ch],by simp[bv];exact agz (b0 _) HZ.out,u⟩
    case measure=>exact cD
   .have fe:(b.t i==b.now+k)=false:=by simpa using U
    have Z:Hid _:=U;clear U;go_wp2;go_roundw
    case rel=>exact⟨i+1,out,by omega,by go_num,rfl,by rw[xA Z.out];exact hF,by omega,u⟩
    case measure=>exact cD
  .obtain rfl:i=b.n:=by omega
   go_wp2;go_roundw
   case rel=>exact⟨k+1,out,by omega,by go_num,rfl,by rw[<-uY];exact hF,by omega,u⟩
   case measure=>exact cD
 .let⟨⟨q0,q1⟩,q2,q3⟩:=Ea hb;have J:=O.same<|u.block _ hl;let⟨y0,y1,y2,y3,y4⟩:=J.cells;have H:=(hR.grow u).cost hb;have A:=λw=>qr q0 (by omega) w
  have HE:=λw=>qr q2 (by omega) w
  have s1:=dA (z:=(bU b.f b.n b.t b.n).1) (by omega);have s2:=dA (z:=(bU b.f b.n b.t b.n).2) (by omega);have eI:¬9223372036854775807<out.size+6:=by omega
  have f8:¬9223372036854775807<out.size+6+(d7 (bU b.f b.n b.t b.n).1).size:=by omega
  have ED:¬9223372036854775807<out.size+6+(d7 (bU b.f b.n b.t b.n).1).size+6:=by omega
  have bo:¬9223372036854775807<out.size+6+(d7 (bU b.f b.n b.t b.n).1).size+6+(d7 (bU b.f b.n b.t b.n).2).size:=by omega
  have HF:Hid (R=out++⟨#[32,108,97,116,101,32]⟩++d7 (bU b.f b.n b.t b.n).1++⟨#[32,109,111,115,116,32]⟩++d7 (bU b.f b.n b.t b.n).2):=by
   show _=_;rw[<-nG.out,hF.out,show k=10001-b.now.toNat by omega];simp only[lg,kg,fo,List.range_zero,List.filter_nil,List.append_nil,bk];rfl
  clear q0 q1 q2 q3 s1 s2;generalize bU b.f b.n b.t b.n=C at*;go_wp2_with(first|(go_at_call 65;refine H.mono ?_;clear H;rintro e w1 ⟨rfl,bq⟩)|(go_at_call 12;first|(refine(A _).mono ?_;clear A;rintro e w3 ⟨rfl,b3⟩)|(refine(HE _).mono ?_;clear HE;rintro e w5 ⟨rfl,b5⟩)))
  go_ret;rw[HF.out];have u:=b1.trans<|u.mono b1.size;have u:=u.trans<|bq.mono u.size;have u:=u.trans<|b3.mono u.size;exact⟨rfl,u.trans<|b5.mono u.size⟩
def fV {Q a v2 v3 ans}(hk:aR W M x0 x1 v2 v3)(hQ:Q (.returned<|.tuple #[.agg #[.int .i64 x0,.int .i64 x1,v2,v3],.string ans]) W)(h4:a.tmps[4]?=some (.pointer<|some M):=by rfl)(h5:a.tmps[5]?=some (.string ans):=by rfl)(hd:a.defers=[]:=by rfl):bodyPost Tz.prog Tryz.f21 Q .ret a W:=by let⟨q0,q1,q2,q3,q4⟩:=hk.cells;let⟨t,d⟩:=a;exact bodyPost_ret (by simp at h4 h5;simp[results,go_sem,q0,q1,q2,q3,h4,h5]) hd hQ
structure Kp (w3:aP)(N B D:Nat)(w':aP):Prop where
 sz:(w3:Nat)<=w'
 lt:N<w3/\B<w3/\D<w3
 e1:w'.heap[N]?=w3.heap[N]?
 e2:w'.heap[B]?=w3.heap[B]?
 e3:w'.heap[D]?=w3.heap[D]?
def Kp.below (h:Kp w3 N B D W)(a:aI W W W'):Kp w3 N B D W':=
 have q:=λ{x:Nat} (e:x<w3)=>a.block x<|agx e h.sz
 ⟨agz h.sz a.size,h.lt,(q h.lt.1).trans h.e1,(q h.lt.2.1).trans h.e2,(q h.lt.2.2).trans h.e3⟩
def Kp.set (h:Kp w3 N B D W)(o:∀k,k≠M->W'.heap[k]?=W.heap[k]?)(e:(W':Nat)=(W:Nat))(f:N≠M)(t:B≠M)(u:D≠M):Kp w3 N B D W':=
 ⟨agz h.sz<|be e.symm,h.lt,(o _ f).trans h.e1,(o _ t).trans h.e2,(o _ u).trans h.e3⟩
def D7 (h:w'.heap[N]?=w.heap[N]?):(∀j,w'.cell? ⟨N,j,none⟩=w.cell? ⟨N,j,none⟩)/\∀j,w'.frozen? ⟨N,j,none⟩=w.frozen? ⟨N,j,none⟩:=⟨λj=>by unfold World.cell?;rw[h],λj=>by unfold World.frozen?;rw[h]⟩
def qb (h:p:=by intro w' hSw;obtain⟨-,-,h1,h2,h3⟩:=hSw;have s1:=D7 h1;have s2:=D7 h2;have s3:=D7 h3;clear h1 h2 h3;go_simp):p:=h
def ka {a:ByteArray}(h:¬a=⟨l.toArray⟩):¬a.toList=l:=λe=>h (by rw[ByteArray.toList_eq]at e;subst e;rfl)
def tB {b}(e:g 0=⟨#[116,105,99,107]⟩)(a:eV (g 1) x):bG b 1 g=if x<=100 then eM x b ⟨#[]⟩else(b,⟨#[98,97,100]⟩):=by simp only[bG,e];rw[if_neg ab,if_neg cQ,if_neg (by simp),if_pos (by simp)];by_cases h:x<=100;rw[dif_pos ⟨x,a,h⟩,if_pos h,nZ (Exists.choose_spec (⟨x,a,h⟩:∃n,eV (g 1) n/\n<=100)).1 a];rw[if_neg h,dif_neg λ⟨y,f,t⟩=>h<|nZ a f▸t]
def GG {b}(a:g 0=⟨#[116,105,99,107]⟩)(e:¬∃x,eV (g 1) x):bG b 1 g=(b,⟨#[98,97,100]⟩):=by grind [bG]
def C4 {b}(hq:g 0=⟨#[108,97,110,100]⟩\/g 0=⟨#[108,101,97,118,101]⟩){y z}(f:eV (g 2) x)(t:eV (g 3) y)(u:eV (g 4) z):bG b 4 g=codeF (Iy b ⟨g 1,decide (g 0=⟨#[108,97,110,100]⟩),x,y,z,-1⟩):=by have h:∃x:Nat×Nat×Nat,eV (g 2) x.1/\eV (g 3) x.2.1/\eV (g 4) x.2.2:=⟨(x,y,z),f,t,u⟩;have e:=h.choose_spec;unfold bG;simp only;rw[if_pos ⟨hq,trivial⟩,dif_pos h,nZ e.1 f,nZ e.2.1 t,nZ e.2.2 u]
def C5 {b}(a:g 0=⟨#[108,97,110,100]⟩\/g 0=⟨#[108,101,97,118,101]⟩)(e:∃i,i<3/\¬∃x,eV (g<|i+2) x):bG b 4 g=(b,⟨#[98,97,100]⟩):=by grind [bG]
def WC (x9:p:=by exact⟨⟨_,_,_,_,rfl,(hR.set (λx hx=>o7 x λe=>hx<|.inr<|.inr e)<|Nat.le_of_eq z7.out.symm).more λx hx=>.inl<|.inl hx⟩,b7⟩):p:=x9
def aaF (x9:p:=by (have hq1:¬(k:Int)+1=2:=by omega);go_wp2;exact fV k5<|fin ⟨#[98,97,100]⟩<|by simp[bG,hq,Bh]):p:=x9
def YL (x9:p:=by (have hq1:¬(k:Int)+1=5:=by omega);go_wp2;exact fV k5<|fin ⟨#[98,97,100]⟩<|by simp[bG,hq,Bh]):p:=x9
def YM (x9:p:=by (have hq1:¬(k:Int)+1=1:=by omega);go_wp2;exact fV k5<|fin ⟨#[98,97,100]⟩<|by simp[bG,hq,Bh]):p:=x9
def QY (b:Bk)(hb:b.ok)(s2:Option aV)(c2:Nat)(s3:Option aV)(c3:Nat)(w:aP)(X:Nat->Prop)(hX:∀x,X x->x<w)(hR:fx X w b s2 c2 s3 c3)(B k cp:Nat)(g:Nat->ByteArray)(hk:k<cp)(BH:k<=10000)(hg:∀i,(g i).size<=10000)(hB:B<w)(hT:IT w B 0 (k+1) g):
  a6 Tz.prog 21 #[az #[aa .i64 b.now,aa .i64 b.shift,ac s2 b.n c2,ac s3 b.n c3],ac (some B) (k+1:Nat) cp] w λe w'=>(∃s2 c2 s3 c3,e=a3 (a5 #[az #[aa .i64 (bG b k g).1.now,aa .i64 (bG b k g).1.shift,ac s2 (bG b k g).1.n c2,ac s3 (bG b k g).1.n c3],aj (bG b k g).2])/\fx X w' (bG b k g).1 s2 c2 s3 c3)/\aI w w w':=by
 let⟨W1,e1,J,b1,z1⟩:=boxed w b.now b.shift s2 b.n c2 s3 b.n c3;let⟨W2,e2,u,b2,z2⟩:=boxed W1 0 0 none 0 0 none 0 0;have A:=b1.trans<|b2.mono b1.size;have J:=J.same<|b2.block _ J.lt;have hR:=(hR.more (Y:=λx=>X x\/x=(w:Nat)\/x=(W1:Nat)) λx h=>h.imp id λh=>by omega).grow A;have hT:=hT.below A hB;have H1:=GV B (if cp=1 then 0 else 1) k (cp-1) (λi=>g<|i+1) W2 (by omega) (λi _=>agz (hg _)<|by decide) (agx hB A.size) (λi hi=>by rw[if_neg (by omega)];have:=hT (i+1) (by omega);rwa [show 0+(i+1)=1+i by omega]at this);obtain⟨sl,Ti⟩:∃x:Option aV,(if cp=1 then some ⟨B,0,none⟩else some ⟨B,1,none⟩)=x:=⟨_,rfl⟩;rw[show(some ⟨B,if cp=1 then 0 else 1,none⟩:Option aV)=if cp=1 then some ⟨B,0,none⟩else some ⟨B,1,none⟩ by split<;>rfl,Ti]at H1;have hM:(w:Nat)<W1:=by omega
 clear z1 z2 b1 b2;have Qa:=u.lt;obtain⟨R,nG⟩:∃R,bG b k g=R:=⟨_,rfl⟩;rw[nG];replace nG:Hid (bG b k g=R):=nG;go_enter Tz.func21,Tryz.ntmps21
 go_wp2_with(go_at_call 32;fail)
 refine H1.mono ?_;clear H1;rintro e w3 ⟨⟨D,l,kk,r,rfl,hr⟩,b3⟩;replace hr:Hid _:=hr;have J:=J.same<|b3.block _ J.lt;have u:=u.same<|b3.block _ u.lt;have hT:=hT.below b3<|agx hB A.size;have t0:=hT 0<|Nat.succ_pos _;have hR:=hR.grow b3;have A:=A.trans<|b3.mono A.size;let⟨y0,y1,y2,y3,y4⟩:=J.cells;let⟨x0,x1,x2,x3,x4⟩:=u.cells;let⟨W5,e5,k5,b5,z5,o5⟩:=aJ u A (agO hM) b.now b.shift s2 b.n c2 s3 b.n c3;replace z5:Hid _:=z5;have fin:=λ(ans:ByteArray) (h:bG b k g=(b,ans))=>(show(∃t2 d2 t3 d3,a3 (a5 #[az #[aa .i64 b.now,aa .i64 b.shift,ac s2 b.n c2,ac s3 b.n c3],aj ans])=a3 (a5 #[az #[aa .i64 R.1.now,aa .i64 R.1.shift,ac t2 R.1.n d2,ac t3 R.1.n d3],aj R.2])/\fx X W5 R.1 t2 d2 t3 d3)/\aI w w W5 from by
  rw[<-nG.out,h];exact⟨⟨_,_,_,_,rfl,(hR.set (λx hx=>o5 x λe=>hx<|aE<|aE e)<|be z5.out.symm).more λx hx=>aL<|aL hx⟩,b5⟩)
 have vz:B<w3:=agx hB A.size;have SX:B≠(W1:Nat):=agN<|Nat.lt_trans hB hM;have hN:∀x,X x\/x=(w:Nat)\/x=(W1:Nat)->x<w3:=λx h=>h.elim (λh=>agx (hX x h) A.size) λh=>h.elim (λh=>h▸J.lt) λh=>h▸u.lt
 by_cases hA:(g 0=⟨#[108,97,110,100]⟩\/g 0=⟨#[108,101,97,118,101]⟩)/\k=4
 .obtain⟨hA,rfl⟩:=hA;clear fin e5 o5 k5 z5 b5 W5;have e_:¬cp=2:=by omega
  have H2:=GV B 2 3 (cp-2) (λi=>g<|i+2) w3 (by omega) (λi _=>agz (hg _)<|by decide) vz (λi hi=>by have:=hT (i+2) (by omega);rwa [show 0+(i+2)=2+i by omega]at this);rcases hA with hq|hq<;>(rw[hq]at t0;go_wp2_with(go_at_call 32;fail))
  all_goals
   refine H2.mono ?_;clear H2;rintro e w4 ⟨⟨D2,l2,m2,r2,rfl,Tf⟩,C⟩;have S4:(W1:Nat)<w3:=u.lt;have J:=J.same<|C.block _ J.lt;have u:=u.same<|C.block _ u.lt;have hT:=hT.below C vz;have hR:=hR.grow C;have A:=A.trans<|C.mono A.size;have Jr:B<w4:=agx vz C.size;have t0:=hT 0 (by omega);rw[hq]at t0;have t1:=hT 1 (by omega);let⟨y0,y1,y2,y3,y4⟩:=J.cells;let⟨x0,x1,x2,x3,x4⟩:=u.cells;rcases Tf with⟨rfl,L,hL,rfl,ad,O⟩|⟨rfl,hx⟩
   .obtain⟨x,y,z,rfl⟩:∃x y z,L=[x,y,z]:=by match L,hL with|[x,y,z],_=>exact⟨x,y,z,rfl⟩
    have hx:=ad 0 x rfl;have hy:=ad 1 y rfl;have hz:=ad 2 z rfl;have d0:w4.cell? ⟨D2,0,none⟩=some (aa .i64 x):=O.cellAt 0 (by simp);have d1:w4.cell? ⟨D2,1,none⟩=some (aa .i64 y):=O.cellAt 1 (by simp);have d2:w4.cell? ⟨D2,2,none⟩=some (aa .i64 z):=O.cellAt 2 (by simp);have P7:=(kW O).1;have aG:D2≠(W1:Nat):=λe=>by have:=dl O D2 rfl;omega
    have hN:=λx h=>agx (hN x h) C.size
    have wx:(Lit.int .i64 (x:Nat)).wf=true:=A5 (by have:=hx.1;omega);have wy:(Lit.int .i64 (y:Nat)).wf=true:=A5 (by have:=hy.1;omega);have wz:(Lit.int .i64 (z:Nat)).wf=true:=A5 (by have:=hz.1;omega);obtain⟨ld,hl⟩:∃ld,ld=decide (g 0=⟨#[108,97,110,100]⟩):=⟨_,rfl⟩;have ao:=hl;rw[hq]at ao;simp at ao;replace hl:Hid _:=hl;have HD:=aa0 b.now b.shift s2 b.n c2 b.f s3 b.n c3 b.t ⟨g 1,ld,x,y,z,-1⟩ w4.drew ((hR.grow (agn _ w4).drew).bq hb) ⟨agz (hg 1)<|by decide,wx,wy,wz,rfl⟩;replace hx:Hid _:=hx;replace hy:Hid _:=hy;replace hz:Hid _:=hz;go_wp2;refine a8 (S:=Kp w4 w B D2) aO ⟨agw _,⟨J.lt,Jr,P7⟩,rfl,rfl,rfl⟩ λhS=>?_;refine ai 0 (az #[aa .i64 b.now,aa .i64 b.shift,ac s2 b.n c2,ac s3 b.n c3]) 41 rfl qb hS ?_;refine ai 1 (ac (some B) 5 cp) 42 rfl qb hS ?_;refine ai 2 (a4<|some ⟨B,1,none⟩) 43 rfl qb hS ?_;refine ai 3 (aj<|g 1) 44 rfl qb hS ?_;refine ai 4 (ac (some B) 5 cp) 45 rfl qb hS ?_;refine ai 5 (a4<|some B) 46 rfl qb hS ?_;refine ai 6 (aj<|g 0) 47 rfl qb hS ?_;refine ai 7 (bt ld) 48 rfl qb hS ?_;replace ao:Hid _:=ao;clear wx wy wz;refine ai 8 (ac (some D2) 3 m2) 49 rfl qb hS ?_;refine ai 9 (a4<|some D2) 50 rfl qb hS ?_;refine ai 10 (aa .i64 x) 51 rfl qb hS ?_;refine ai 11 (ac (some D2) 3 m2) 52 rfl qb hS ?_;refine ai 12 (a4<|some ⟨D2,1,none⟩) 53 rfl qb hS ?_;refine ai 13 (aa .i64 y) 54 rfl qb hS ?_;refine ai 14 (ac (some D2) 3 m2) 55 rfl qb hS ?_;refine ai 15 (a4<|some ⟨D2,2,none⟩) 56 rfl qb hS ?_;refine ai 16 (aa .i64 z) 57 rfl qb hS ?_;refine ai 17 (az #[aj<|g 1,bt ld,aa .i64 x,aa .i64 y,aa .i64 z,aa .i64 (-1)]) 58 rfl qb hS ?_;simp only[ay,au,av,ax];refine fH 18 rfl λK hK=>?_;go_simp
    go_at_call 34
    refine HD.mono ?_;rintro e w4 ⟨⟨a0,a1,U,l,Z,F,p3,o,q3,T,cd,rfl,O,hQ⟩,C⟩;let⟨he,U2⟩:=O.eq hb;subst U2;let⟨eK,Lp,Lq⟩:=IU (q:=⟨g 1,ld,x,y,z,-1⟩) hb;rw[he]at eK Lp Lq;have A:=A.drew.trans<|C.mono A.size;have u:=u.same<|C.block _ u.lt;have hR:=hQ.rows (a0:=a0) (a1:=a1) rfl hN;refine hK.out _ _ (hS.below C) λhS=>?_
    clear hK K C O hQ;refine ai 19 (az #[aa .i64 a0,aa .i64 a1,ac U o Z,ac p3 o q3]) 60 rfl gS hS ?_;refine ai 20 (aa .i64 cd) 61 rfl gS hS ?_;simp only[ay,au,av,ax];refine fH 21 rfl λK hK=>?_;go_simp
    go_at_call 33
    refine(zl a0 a1 U o Z p3 o q3 cd Lp Lq _).mono ?_;rintro e w6 ⟨rfl,b6⟩;have A:=A.trans<|b6.mono A.size;have u:=u.same<|b6.block _ u.lt;have hR:=hR.grow b6;refine hK.out _ _ (hS.below b6) λhS=>?_
    clear hK K b6;refine ai 22 (az #[aa .i64 a0,aa .i64 a1,ac U o Z,ac p3 o q3]) 63 rfl gS hS ?_;refine ai 23 (aj<|⟨#[99,111,100,101,32]⟩++d7 cd) 64 rfl gS hS ?_;simp only[ay,au,av,ax];refine fH 24 rfl λK hK=>?_;let⟨x0,x1,x2,x3,x4⟩:=u.cells;let⟨W7,e7,k7,b7,z7,o7⟩:=aJ u A (agO hM) a0 a1 U o Z p3 o q3;replace z7:Hid _:=z7;go_simp
    refine hK.out _ _ (hS.set o7 z7.out (agN hM) SX aG) λhS=>?_
    clear hK K;refine ai 25 (aj<|⟨#[99,111,100,101,32]⟩++d7 cd) 5 rfl gS hS ?_;refine bj aO ?_ _;simp only[ay,au,av,ax];go_wp2;refine fV k7 ?_;rw[<-nG.out,show bG b _ g=_ from(C4 (by simp[hq]) hx.out hy.out hz.out).trans (by rw[<-hl.out]),he];exact WC
   .let⟨W7,e7,k7,b7,z7,o7⟩:=aJ u A (agO hM) b.now b.shift s2 b.n c2 s3 b.n c3;replace z7:Hid _:=z7;go_wp2;refine fV (ans:=⟨#[98,97,100]⟩) k7 ?_;rw[<-nG.out,C5 (by simp[hq]) hx];exact WC
 by_cases hq:g 0=⟨#[108,97,110,100]⟩
 .rw[hq]at t0;have Bh:¬k=4:=λe=>hA ⟨aL hq,e⟩
  exact YL
 have n1:Hid _:=hq;by_cases hq:g 0=⟨#[108,101,97,118,101]⟩
 .rw[hq]at t0;have Bh:¬k=4:=λe=>hA ⟨aE hq,e⟩
  exact YL
 have n2:Hid _:=hq;by_cases hq:g 0=⟨#[100,114,111,112]⟩
 .rw[hq]at t0;by_cases Bh:k=1
  .subst Bh;have t1:=hT 1 (by omega);have HD:=ZD b.now b.shift s2 b.n c2 b.f s3 b.n c3 b.t (g 1) w3.drew ((hR.grow (agn _ w3).drew).bq hb) hR.rm;go_wp2;refine a8 (S:=Kp w3 w B B) aO ⟨agw _,⟨J.lt,vz,vz⟩,rfl,rfl,rfl⟩ λhS=>?_;refine ai 0 (az #[aa .i64 b.now,aa .i64 b.shift,ac s2 b.n c2,ac s3 b.n c3]) 75 rfl qb hS ?_;refine ai 1 (ac (some B) 2 cp) 76 rfl qb hS ?_;refine ai 2 (a4<|some ⟨B,1,none⟩) 77 rfl qb hS ?_;refine ai 3 (aj<|g 1) 78 rfl qb hS ?_;simp only[ay,au,av,ax];refine fH 4 rfl λK hK=>?_;go_simp
   go_at_call 35
   refine HD.mono ?_;rintro e w4 ⟨⟨a0,a1,U,l,Z,F,p3,o,q3,T,cd,rfl,O,hQ⟩,C⟩;let⟨he,U2⟩:=O.eq hb;subst U2;let⟨eK,Lp,Lq⟩:=Jh (s:=g 1) hb;rw[he]at eK Lp Lq;have A:=A.drew.trans<|C.mono A.size;have u:=u.same<|C.block _ u.lt;have hR:=hQ.rows (a0:=a0) (a1:=a1) rfl hN;refine hK.out _ _ (hS.below C) λhS=>?_
   clear hK K C e5 o5 k5 O hQ;refine ai 5 (az #[aa .i64 a0,aa .i64 a1,ac U o Z,ac p3 o q3]) 80 rfl gS hS ?_;refine ai 6 (aa .i64 cd) 81 rfl gS hS ?_;simp only[ay,au,av,ax];refine fH 7 rfl λK hK=>?_;go_simp
   go_at_call 33
   refine(zl a0 a1 U o Z p3 o q3 cd Lp Lq _).mono ?_;rintro e w6 ⟨rfl,b6⟩;have A:=A.trans<|b6.mono A.size;have u:=u.same<|b6.block _ u.lt;have hR:=hR.grow b6;refine hK.out _ _ (hS.below b6) λhS=>?_
   clear hK K b6;refine ai 8 (az #[aa .i64 a0,aa .i64 a1,ac U o Z,ac p3 o q3]) 83 rfl gS hS ?_;refine ai 9 (aj<|⟨#[99,111,100,101,32]⟩++d7 cd) 84 rfl gS hS ?_;simp only[ay,au,av,ax];refine fH 10 rfl λK hK=>?_;let⟨x0,x1,x2,x3,x4⟩:=u.cells;let⟨W7,e7,k7,b7,z7,o7⟩:=aJ u A (agO hM) a0 a1 U o Z p3 o q3;replace z7:Hid _:=z7;go_simp
   refine hK.out _ _ (hS.set o7 z7.out (agN hM) SX SX) λhS=>?_
   clear hK K;refine ai 11 (aj<|⟨#[99,111,100,101,32]⟩++d7 cd) 5 rfl gS hS ?_;refine bj aO ?_ _;simp only[ay,au,av,ax];go_wp2;refine fV k7 ?_;rw[<-nG.out,show bG b _ g=_ from show bG b 1 g=codeF (FY b<|g 1) by simp[bG,hq],he];exact WC
  .exact aaF
 have n3:Hid _:=hq;by_cases hq:g 0=⟨#[114,111,117,110,100]⟩
 .rw[hq]at t0;by_cases Bh:k=1
  .subst Bh;have t1:=hT 1 (by omega);have HD:=VM b.now b.shift s2 b.n c2 b.f s3 b.n c3 b.t (g 1) w3.drew<|(hR.grow (agn _ w3).drew).bq hb;go_wp2;refine a8 (S:=Kp w3 w B B) aO ⟨agw _,⟨J.lt,vz,vz⟩,rfl,rfl,rfl⟩ λhS=>?_;refine ai 0 (az #[aa .i64 b.now,aa .i64 b.shift,ac s2 b.n c2,ac s3 b.n c3]) 95 rfl qb hS ?_;refine ai 1 (ac (some B) 2 cp) 96 rfl qb hS ?_;refine ai 2 (a4<|some ⟨B,1,none⟩) 97 rfl qb hS ?_;refine ai 3 (aj<|g 1) 98 rfl qb hS ?_;simp only[ay,au,av,ax];refine fH 4 rfl λK hK=>?_;go_simp
   go_at_call 36
   refine HD.mono ?_;rintro e w4 ⟨⟨a0,a1,U,l,Z,F,p3,o,q3,T,cd,rfl,O,hQ⟩,C⟩;let⟨he,U2⟩:=O.eq hb;subst U2;let⟨eK,Lp,Lq⟩:=Kf (s:=g 1) hb;rw[he]at eK Lp Lq;have A:=A.drew.trans<|C.mono A.size;have u:=u.same<|C.block _ u.lt;have hR:=hQ.rows (a0:=a0) (a1:=a1) rfl hN;refine hK.out _ _ (hS.below C) λhS=>?_
   clear hK K C e5 o5 k5 O hQ;refine ai 5 (az #[aa .i64 a0,aa .i64 a1,ac U o Z,ac p3 o q3]) 100 rfl gS hS ?_;refine ai 6 (aa .i64 cd) 101 rfl gS hS ?_;simp only[ay,au,av,ax];refine fH 7 rfl λK hK=>?_;go_simp
   go_at_call 33
   refine(zl a0 a1 U o Z p3 o q3 cd Lp Lq _).mono ?_;rintro e w6 ⟨rfl,b6⟩;have A:=A.trans<|b6.mono A.size;have u:=u.same<|b6.block _ u.lt;have hR:=hR.grow b6;refine hK.out _ _ (hS.below b6) λhS=>?_
   clear hK K b6;refine ai 8 (az #[aa .i64 a0,aa .i64 a1,ac U o Z,ac p3 o q3]) 103 rfl gS hS ?_;refine ai 9 (aj<|⟨#[99,111,100,101,32]⟩++d7 cd) 104 rfl gS hS ?_;simp only[ay,au,av,ax];refine fH 10 rfl λK hK=>?_;let⟨x0,x1,x2,x3,x4⟩:=u.cells;let⟨W7,e7,k7,b7,z7,o7⟩:=aJ u A (agO hM) a0 a1 U o Z p3 o q3;replace z7:Hid _:=z7;go_simp
   refine hK.out _ _ (hS.set o7 z7.out (agN hM) SX SX) λhS=>?_
   clear hK K;refine ai 11 (aj<|⟨#[99,111,100,101,32]⟩++d7 cd) 5 rfl gS hS ?_;refine bj aO ?_ _;simp only[ay,au,av,ax];go_wp2;refine fV k7 ?_;rw[<-nG.out,show bG b _ g=_ from show bG b 1 g=codeF (He b<|g 1) by simp[bG,hq],he];exact WC
  .exact aaF
 have n4:Hid _:=hq;by_cases hq:g 0=⟨#[116,105,99,107]⟩
 .rw[hq]at t0;by_cases Bh:k=1
  .subst Bh;rcases hr.out with⟨rfl,L,hL,rfl,ad,O⟩|⟨rfl,i,hi,qe⟩
   .obtain⟨x,rfl⟩:∃x,L=[x]:=List.length_eq_one_iff.1 hL;have hx:eV (g 1) x:=ad 0 x rfl;have d0:w3.cell? ⟨D,0,none⟩=some (aa .i64 x):=O.cellAt 0 (by simp);by_cases Gj:x<=100
    .have U4:(x:Int)<=100:=by omega
     have P7:=(kW O).1;have aG:D≠(W1:Nat):=λe=>by have:=dl O D rfl;omega
     clear fin e5 o5 k5 z5 b5 W5;have HT:=Ow b hb s2 c2 s3 c3 x Gj w3.drew _ hN<|hR.grow (agn _ w3).drew;go_wp2;refine a8 (S:=Kp w3 w B D) aO ⟨agw _,⟨J.lt,vz,P7⟩,rfl,rfl,rfl⟩ λhS=>?_;refine ai 0 (az #[aa .i64 b.now,aa .i64 b.shift,ac s2 b.n c2,ac s3 b.n c3]) 124 rfl qb hS ?_;refine ai 1 (ac (some D) 1 kk) 125 rfl qb hS ?_;refine ai 2 (a4<|some D) 126 rfl qb hS ?_;refine ai 3 (aa .i64 x) 127 rfl qb hS ?_;simp only[ay,au,av,ax];refine fH 4 rfl λK hK=>?_;go_simp
     go_at_call 37
     refine HT.mono ?_;rintro e w4 ⟨⟨U,Z,p3,q3,rfl,aZ⟩,C⟩;obtain⟨b',dr⟩:∃b',eM x b ⟨#[]⟩=b':=⟨_,rfl⟩;rw[dr]at aZ⊢;replace dr:Hid _:=dr;have A:=A.drew.trans<|C.mono A.size;have u:=u.same<|C.block _ u.lt;refine hK.out _ _ (hS.below C) λhS=>?_
     clear hK K;refine ai 5 (az #[aa .i64 b'.1.now,aa .i64 b'.1.shift,ac U b'.1.n Z,ac p3 b'.1.n q3]) 129 rfl gS hS ?_;refine ai 6 (aj b'.2) 130 rfl gS hS ?_;simp only[ay,au,av,ax];refine fH 7 rfl λK hK=>?_;let⟨x0,x1,x2,x3,x4⟩:=u.cells;let⟨W7,e7,k7,b7,z7,o7⟩:=aJ u A (agO hM) b'.1.now b'.1.shift U b'.1.n Z p3 b'.1.n q3;replace z7:Hid _:=z7;go_simp
     refine hK.out _ _ (hS.set o7 z7.out (agN hM) SX aG) λhS=>?_
     clear hK K;refine ai 8 (aj b'.2) 5 rfl gS hS ?_;refine bj aO ?_ _;simp only[ay,au,av,ax];go_wp2;refine fV k7 ?_;rw[<-nG.out,tB hq hx,if_pos Gj,dr.out];exact⟨⟨_,_,_,_,rfl,(aZ.set (λx hx=>o7 x λe=>hx<|aE<|aE e)<|be z7.out.symm).more λx hx=>aL<|aL hx⟩,b7⟩
    .have U4:¬(x:Int)<=100:=by omega
     go_wp2;exact fV k5<|fin ⟨#[98,97,100]⟩<|by rw[tB hq hx,if_neg Gj]
   .have US:i=0:=by omega
    subst US;go_wp2;exact fV k5<|fin ⟨#[98,97,100]⟩<|GG hq qe
  .exact aaF
 have n5:Hid _:=hq;by_cases hq:g 0=⟨#[112,108,97,110]⟩
 .rw[hq]at t0;by_cases Bh:k=0
  .subst Bh;clear fin e5 o5 k5 z5 b5 W5;have HP:=Rz b hb s2 c2 s3 c3 w3.drew _<|hR.grow (agn _ w3).drew;go_wp2;refine a8 (S:=Kp w3 w B B) aO ⟨agw _,⟨J.lt,vz,vz⟩,rfl,rfl,rfl⟩ λhS=>?_;refine ai 0 (az #[aa .i64 b.now,aa .i64 b.shift,ac s2 b.n c2,ac s3 b.n c3]) 141 rfl qb hS ?_;refine ai 1 (az #[aa .i64 b.now,aa .i64 b.shift,ac s2 b.n c2,ac s3 b.n c3]) 142 rfl qb hS ?_;simp only[ay,au,av,ax];refine fH 2 rfl λK hK=>?_;go_simp
   go_at_call 38
   refine HP.mono ?_;rintro e w4 ⟨rfl,C⟩;have A:=A.drew.trans<|C.mono A.size;have u:=u.same<|C.block _ u.lt;refine hK.out _ _ (hS.below C) λhS=>?_
   clear hK K;refine fH 3 rfl λK hK=>?_;let⟨x0,x1,x2,x3,x4⟩:=u.cells;let⟨W7,e7,k7,b7,z7,o7⟩:=aJ u A (agO hM) b.now b.shift s2 b.n c2 s3 b.n c3;replace z7:Hid _:=z7;go_simp
   refine hK.out _ _ (hS.set o7 z7.out (agN hM) SX SX) λhS=>?_
   clear hK K;refine ai 4 (aj<|lg b) 5 rfl gS hS ?_;refine bj aO ?_ _;simp only[ay,au,av,ax];go_wp2;refine fV k7 ?_;rw[<-nG.out,show bG b 0 g=(b,lg b) by simp[bG,hq]];exact⟨⟨_,_,_,_,rfl,((hR.grow<|(agn _ w3).drew.trans C).set (λx hx=>o7 x λe=>hx<|aE<|aE e)<|be z7.out.symm).more λx hx=>aL<|aL hx⟩,b7⟩
  .exact YM
 have n6:Hid _:=hq;by_cases hq:g 0=⟨#[115,117,114,101]⟩
 .rw[hq]at t0;by_cases Bh:k=0
  .subst Bh;have HS:=(hR.bq hb).su;clear fin e5 o5 k5 z5 b5 W5;cases hs:fG b.now b.shift b.f b.n b.t b.n<;>
   .rw[hs]at HS;go_wp2_with(go_at_call 39;refine HS.mono ?_;clear HS;rintro e w4 ⟨rfl,C⟩;have J:=J.same<|C.block _ J.lt;have u:=u.same<|C.block _ u.lt;have A:=A.trans<|C.mono A.size;let⟨y0,y1,y2,y3,y4⟩:=J.cells;let⟨x0,x1,x2,x3,x4⟩:=u.cells;let⟨W7,e7,k7,b7,z7,o7⟩:=aJ u A (agO hM) b.now b.shift s2 b.n c2 s3 b.n c3;replace z7:Hid _:=z7)
    refine fV k7 ?_;rw[<-nG.out,show bG b 0 g=(b,_) by simp only[bG,hq];rw[if_neg (by simp),if_neg (by simp),if_neg (by simp),if_neg (by simp),if_neg (by simp),if_pos (by simp),hs]];exact⟨⟨_,_,_,_,rfl,((hR.grow C).set (λx hx=>o7 x λe=>hx<|aE<|aE e)<|be z7.out.symm).more λx hx=>aL<|aL hx⟩,b7⟩
  .exact YM
 replace n1:=n1.out;replace n2:=n2.out;replace n3:=n3.out;replace n4:=n4.out;replace n5:=n5.out;replace n6:=n6.out;have hF:bG b k g=(b,⟨#[98,97,100]⟩):=by simp[bG, *]
 replace n1:=ka n1;replace n2:=ka n2;replace n3:=ka n3;replace n4:=ka n4;replace n5:=ka n5;replace n6:=ka n6;replace hq:=ka hq;go_wp2;exact fV k5<|fin ⟨#[98,97,100]⟩ hF
