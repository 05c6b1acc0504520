import Derived.Test.YthppgbjejomdiaaGreatDoorj17
import Derived.Test.YthppgbjejomdiaaGreatDoorj12
import Derived.Lib.Bytealg
import Derived.Lib.Strings
import Derived.Laws.Externs
import Derived.Lib.ItoaMem
set_option linter.all false
set_option maxHeartbeats 2000000
set_option maxRecDepth 20000
open Go renaming World->aj,Calls->av,madeCells->ax,heap_alloc_new->aE,run_callFunc_extern->aL,cell_of_row->aV
open Go.Ending renaming returned->au
open Go.Lib renaming countByte->ac,indexByte->ao,decDigits->aP
open Go.Value renaming int->aa,string->ad,slice->ay
open Int renaming toNat_natCast->az
open UInt8 renaming ofNat->aI
namespace Go.Proofs.YthppgbjejomdiaaGreatDoor
open RowKit
variable {n:Nat}{p:Prop}
section
def Y3 (s:ByteArray) c (w:aj):(callFunc 150 #[s,aa .u8 c]).run Tz.prog w=.ok (.value<|ao s.data.toList c.toNat.toUInt8) w:=by rw[aL (Tz.aF Tryz.func150) (by kernel_rfl) (by kernel_rfl) (by kernel_rfl) (by kernel_rfl),Lib.run_indexByteString];rfl
def Y4 (s:ByteArray) c (w:aj):(callFunc 91 #[s,aa .u8 c]).run Tz.prog w=.ok (.value<|aa .i64<|ac s.data.toList c.toNat.toUInt8) w:=by rw[aL (Tz.aF Tryz.func91) (by kernel_rfl) (by kernel_rfl) (by kernel_rfl) (by kernel_rfl),Lib.run_countString];rfl
attribute [local go_sem] Y3 Y4
def QG (s:ByteArray) c (w:aj): av Tz.prog 117 #[s,aa .u8 c] w λe w'=>e=au (ao s.data.toList c.toNat.toUInt8)/\w'=w:=by go_enter Tz.func117,Tryz.ntmps117;go_wp2<;>go_ret;simp
def uK {q:Prop}(hq:q)(h:q->p:=by intro Bh;simp only[Tz.nj,List.map_toArray,List.map_cons,List.map_nil,Tz.nk,Op.operands,Call.operands,Option.toArray_none,Option.toArray_some,List.append_toArray,List.cons_append,List.nil_append,List.any_cons,List.any_nil,Tz.LI,Tz.Ya,List.contains_cons,List.contains_nil,Nat.reduceBEq,Bool.or_false,Bool.or_self,Bool.or_true,Bool.true_or,Bool.and_self,Bool.and_false,Bool.false_and,Bool.false_eq_true,if_false,if_true];exact Bh):p:=h hq
def QH (s:ByteArray)(c:UInt8)(w:aj): av Tz.prog 92 #[s,ad ⟨#[c]⟩] w λe w'=>e=au (ao s.data.toList c)/\w'=w:=by
 have H:=λw=>QG s c.toNat w;have r:(c.toNat:Int).toNat.toUInt8=c:=cQ;rw[r]at H;go_enter Tz.func92,Tryz.ntmps92;refine uK ?_;by_cases hs:[c]=s.toList
 .have t:([c]==s.toList)=true:=cQ;have f:ao s.data.toList c=0:=by grind [Lib.toList_data,ao]
  rw[f];clear hs f;go_wp2<;>go_ret<;>exact⟨rfl,rfl⟩
 have t:([c]==s.toList)=false:=cQ;clear hs;go_wp2_with(go_at_call 117;refine(H _).mono ?_;rintro e w' ⟨rfl,rfl⟩)
 all_goals go_ret
 simp_all
def U8 (s:ByteArray)(c:UInt8)(w:aj): av Tz.prog 68 #[s,ad ⟨#[c]⟩] w λe w'=>e=au (ao s.data.toList c)/\w'=w:=by have H:=λw=>QH s c w;go_enter Tz.func68,Tryz.ntmps68;(go_wp2_with(go_at_call 92;refine(H _).mono ?_;rintro e w' ⟨rfl,rfl⟩));go_ret;simp
def MO (s:ByteArray)(c:UInt8)(w:aj): av Tz.prog 67 #[s,ad ⟨#[c]⟩] w λe w'=>e=au (aa .i64<|ac s.data.toList c)/\w'=w:=by go_enter Tz.func67,Tryz.ntmps67;go_wp2<;>go_ret<;>exact⟨rfl,rfl⟩
end
section
def aaW (w:aj)(b n:Nat)(g:Nat->ByteArray):Prop:=∀i,i<n->w.cell? ⟨b,i,none⟩=some (ad<|g i)
def ky (w:aj)(b n:Nat)(g:Nat->ByteArray):Prop:=(∃a,w.heap[b]?=some (.cells a 9 (0,0))/\a.size=n)/\aaW w b n g
section
variable {w:aj}{b:Nat}{g:Nat->ByteArray}
def ky.frozen (h:ky w b n g) j:w.frozen? ⟨b,j,none⟩=false:=by exact ae1
def ky.set (h:ky w b n g) k (j:k<n)(x:ByteArray):ky (w.setCell ⟨b,k,none⟩ x) b n (λi=>if i=k then x else g i):=by let⟨⟨l,c,m⟩,d⟩:=h;have a:=heap_setCell_same _ _ k _ _ (ad x) c;refine⟨⟨_,a,cQ⟩,λi f=>?_⟩;by_cases e:i=k;rw[aV _ _ _ _ _ _ a];grind;rw[World.cell?_setCell_other _ _ _ _ DZ];simp[if_neg e];exact d i f
def ky.congr {g'}(h:ky w b n g)(e:∀i,i<n->g i=g' i):ky w b n g':=
 ⟨h.1,λi a=>by rw[<-e i a];exact h.2 i a⟩
def Q4 (w:aj) n:ky (w.alloc<|.cells (ax #[ad .empty] n) 9) w n (λ_=>.empty):=by refine⟨⟨_,(aE _ _),size_madeCells _ _⟩,λi a=>?_⟩;simp[ax,Nat.mod_one,a]
end
def U9:(Tz.prog.info? 9).map (λi=>(i.size,i.bytes,i.zero))=some (1,16,some<|ad .empty):=aO
def Q5 (n:Nat)(f:n<=1048577)(w:aj): (Instr.makeSlice 33 (n:Int) (n:Int)).run Tz.prog w=.ok (ay w n n) (w.alloc<|.cells (ax #[ad .empty] n) 9):=by have a:=U9;rcases c:Tz.prog.info? 9 with _|i;grind;rw[c]at a;simp at a;let⟨j,d,e⟩:=a;have:=run_make w 33 9 i _ (Tz.al Tryz.underlying33) c e .i64 .i64 n n ab ab f7 ab;grind [Value.cells]
def vW (c):∀l,(ao l c=-1/\l.count c=0)\/∃n:Nat,ao l c=n/\n<l.length/\(l.drop<|n+1).count c+1=l.count c
 |[]=>.inl ⟨rfl,rfl⟩
 |b::l=>by
  unfold ao;by_cases h:b=c
  .subst h;exact .inr ⟨0,by simp,by simp,by simp⟩
  .have hb:(b==c)=false:=by simpa using h
   rcases vW c l with⟨e,f⟩|⟨n,e,f,q⟩
   .exact .inl ⟨by simp[hb,e],by rw[List.count_cons,f];simp[h]⟩
   .refine .inr ⟨n+1,?_,by simpa using f,?_⟩
    .have:((n:Int)==-1)=false:=by simp
     simp[hb,e,this]
    .rw[List.count_cons];simp[h];omega
def gY (c:UInt8)(s:ByteArray):Nat->ByteArray
 |0=>s
 |k+1=>(gY c s k).extract ((ao (gY c s k).data.toList c).toNat+1) (gY c s k).size
def eh (c:UInt8)(s:ByteArray)(k:Nat):ByteArray:=if k<ac s.data.toList c then(gY c s k).extract 0 (ao (gY c s k).data.toList c).toNat else gY c s k
def CE (c:UInt8)(s:ByteArray):∀k,k<=ac s.data.toList c->ac (gY c s k).data.toList c+k=ac s.data.toList c
 |0,_=>rfl
 |k+1,h=>by
  have r:=CE c s k (by omega);unfold ac at*;rcases vW c (gY c s k).data.toList with⟨_,f⟩|⟨n,q,f,t⟩
  .omega
  .simp only[gY,q,az,Lib.extract_data];have e:((gY c s k).data.toList.drop<|n+1).take ((gY c s k).size-(n+1))=(gY c s k).data.toList.drop (n+1):=List.take_of_length_le (by rw[List.length_drop,Array.length_toList];exact agw _);rw[e];omega
def FT (c s):∀k,(gY c s k).size<=s.size
 |0=>agw _
 |k+1=>by have:=FT c s k;simp only[gY,ByteArray.size_extract];omega
def MW (s:ByteArray)(c:UInt8)(w:aj)(hs:s.size<=1048576): av Tz.prog 40 #[s,ad ⟨#[c]⟩,(0:Int),aa .i64 (-1)] w λe w'=>e=au (ay w (ac s.data.toList c+1)<|ac s.data.toList c+1)/\ky w' w (ac s.data.toList c+1) (eh c s)/\Below w w w':=by
 have z:=λw=>MO s c w;have A:ac s.data.toList c<=s.size:=List.count_le_length;obtain⟨K,hk⟩:∃K,ac s.data.toList c=K:=⟨_,rfl⟩;simp only[hk]at z A⊢;have u:Hid (ac s.data.toList c=K):=hk;clear hk;go_enter Tz.func40,Tryz.ntmps40;refine uK ?_;have N:∀w,(Instr.makeSlice 33 (aa .i64<|(K:Int)+1)<|aa .i64<|(K:Int)+1).run Tz.prog w=.ok (ay (some ⟨w,0,none⟩) (K+1)<|K+1) (w.alloc<|.cells (ax #[ad .empty]<|K+1) 9):=λw=>by have h:=Q5 (K+1) (by omega) w;assumption
 go_wp2_with(go_at_call 67;refine(z _).mono ?_;rintro e B ⟨rfl,O⟩;subst B)
 have f:=Q4 w<|K+1;have r:Below w w (w.alloc<|.cells (ax #[ad .empty]<|K+1) 9):=(agn _ _).alloc ab _;generalize w.alloc (.cells (ax #[ad .empty]<|K+1) 9)=W at f r⊢;clear N z;go_loopw [0,10] (λx y wr=>∃k:Nat,k<=K/\x=ad (gY c s k)/\y=aa .i64 k/\ky wr w (K+1) (λi=>if i<k then eh c s i else .empty)/\Below w w wr) (λ_ y _=>K-(intOf y).toNat)
 exact⟨0,agB _,rfl,rfl,f.congr λi _=>cQ,r⟩;obtain⟨k,hk,rfl,rfl,f,r⟩:=hrel;by_cases R:k<K
 .have J:ac (gY c s k).data.toList c+k=K:=by have:=CE c s k (by rw[u.out];omega);rw[u.out]at this;omega
  have T:=FT c s k;let⟨n,v,t,_⟩:=(vW c (gY c s k).data.toList).resolve_left (λh=>by unfold ac at J;omega);have t:n<(gY c s k).size:=zc;have C:=λw=>U8 (gY c s k) c w;simp only[v]at C;have U:=λj=>f.frozen j;have hc:=f.2 k (by omega);have hcut:(gY c s k).extract 0 n=eh c s k:=by unfold eh;rw[u.out,if_pos R,v];rfl
  have D:(gY c s k).extract (n+1) (gY c s k).size=gY c s (k+1):=by simp only[gY,v];rfl
  generalize gY c s k=S at J T v t C hcut D⊢;have Y:(k:Int)<K:=by omega
  go_wp2_with(go_at_call 68;refine(C _).mono ?_;rintro e B ⟨rfl,O⟩;subst B)
  refine⟨⟨k+1,by omega,rfl,by go_num,(f.set k (by omega) _).congr λi _=>?_,r.setCell (agw _) _⟩,by simp only[intOf];omega⟩;grind
 obtain rfl:k=K:=by omega
 have U:=λj=>f.frozen j;have hc:=f.2 k (by omega);go_wp2<;>go_ret;refine⟨rfl,(f.set k (by omega) _).congr λi Z=>?_,r.setCell (agw _) _⟩;by_cases e:i=k;subst e;rw[if_pos rfl];unfold eh;rw[u.out,if_neg ab];grind
def DC (s:ByteArray)(c:UInt8)(w:aj)(hs:s.size<=1048576): av Tz.prog 22 #[s,ad ⟨#[c]⟩] w λe w'=>e=au (ay w (ac s.data.toList c+1)<|ac s.data.toList c+1)/\ky w' w (ac s.data.toList c+1) (eh c s)/\Below w w w':=by have H:=λw=>MW s c w hs;go_enter Tz.func22,Tryz.ntmps22;(go_wp2_with(go_at_call 40;refine(H _).mono ?_;rintro e f ⟨rfl,q,r⟩));go_ret;simp_all
def d7 (n:Int):ByteArray:=⟨(aP n.toNat).toArray⟩
def gS (h:p:=by intro w' hSw;go_simp):p:=h
def uU {W:aj}{g d:Nat}(a:W.heap[g]?=some (.cells #[aa .u8<|48+(d:Int)] 5 (0,0)))(e:d<10):(convert 22 9 (ay (some ⟨g,0,none⟩) 1 1)).run Tz.prog W=.ok (ad ⟨#[48+aI d]⟩) W:=
 run_convert_bytes_back _ 22 9 5 ⟨g,0,none⟩ 1 [48+aI d] (Tz.al Tryz.underlying22) (Tz.al Tryz.underlying5) (Tz.al Tryz.underlying9) λj c=>by
  obtain rfl:j=0:=by simpa using c
  rw[show(⟨g,0,none⟩:Addr).add 0=⟨g,0,none⟩ from rfl,aV _ _ _ _ _ _ a];simp;omega
def Ll (h:n<10):d7 n=⟨#[48+aI n]⟩:=by unfold d7;rw[az,Lib.decDigits_one h,UInt8.ofNat_add];rfl
def FX (h:¬n<10):d7 n=d7 (n/10:Nat)++⟨#[48+aI (n%10)]⟩:=by unfold d7;rw[az,az,aP,dif_neg h];apply ByteArray.ext;simp
def iv:∀(j n:Nat),n<10^(j+1)->(d7 n).size<=j+1
 |j,n,h=>by
  by_cases a:n<10
  .rw[Ll a];exact Nat.le_add_left 1 j
  .cases j with
   |zero=>exact absurd h a
   |succ j=>
    have:=iv j (n/10) (by rw[Nat.pow_succ]at h;omega);rw[FX a,ByteArray.size_append];exact Nat.add_le_add_right this 1
def jZ:∀(n:Nat) (x:n<1000000) (w:aj),av Tz.prog 12 #[aa .i64 n] w λe w'=>e=au (ad<|d7 n)/\Below w w w':=by
 intro n;induction n using Nat.strongRecOn with
 |_ n t=>
  intro x w;by_cases h:n<10
  .have h':(n:Int)<10:=by omega
   have hc:=λw=>uU (aE w<|.cells #[aa .u8<|48+(n:Int)] 5) h
   rw[Ll h];go_enter Tz.func12,Tryz.ntmps12
   go_wp2;go_ret;exact⟨rfl,(agn _ _).alloc ab _⟩
  have h':¬(n:Int)<10:=by omega
  have r:=λw=>t (n/10) (by omega) (by omega) w
  have y:(n:Int).tdiv 10=((n/10:Nat):Int):=rfl;have z:(n:Int).tmod 10=((n%10:Nat):Int):=rfl;have A:n/10<100000:=by omega
  have s:n%10<10:=by omega
  rw[FX h];clear t;generalize n/10=k at*;generalize n%10=d at*;have hc:=λw=>uU (aE w<|.cells #[aa .u8<|48+(d:Int)] 5) s
  have B:¬9223372036854775807<(d7 k).size+1:=by have:=iv 5 k (by omega);omega
  have C:IntKind.i64.wrap (k:Int)=k:=by rw[IntKind.wrap_i64];omega
  have D:IntKind.i64.wrap (48+(d:Int))=48+d:=by rw[IntKind.wrap_i64];omega
  have J:IntKind.u8.wrap (48+(d:Int))=48+d:=by rw[IntKind.wrap_u8];omega
  go_enter Tz.func12,Tryz.ntmps12
  go_wp2;refine wp_region_held_drew (S:=Below w w) aO (agn _ _).drew λhS=>?_;refine ai 0 (aa .i64 n) 16 rfl gS hS ?_;refine ai 1 (aa .i64 k) 17 rfl gS hS ?_;refine ai 3 (aa .i64 n) 19 rfl gS hS ?_;refine ai 4 (aa .i64 d) 20 rfl gS hS ?_;refine ai 5 (aa .i64<|48+d) 21 rfl gS hS ?_;refine ai 6 (aa .u8<|48+d) 22 rfl gS hS ?_;simp only[Act.put,List.setIfInBounds_toArray,List.set_cons_zero,List.set_cons_succ];refine L9 2 7 rfl rfl (λK f=>?_) λK f=>?_;focus
   go_simp
   go_at_call 12
   refine(r _).mono ?_;rintro e u ⟨rfl,q⟩;refine f.out _ _ (hS.trans<|q.mono hS.size) λhS=>?_
   clear f K q;refine fH 7 rfl λK f=>?_;go_simp
   refine f.out _ _ (hS.alloc hS.size _) λhS=>?_
   clear f K;refine fH 8 rfl λK f=>?_;go_simp
   refine f.out _ _ hS λhS=>?_
   clear f K
  rotate_left;focus
   go_simp
   refine f.out _ _ (hS.alloc hS.size _) λhS=>?_
   clear f K;refine L9 2 8 rfl rfl (λK f=>?_) λK f=>?_;focus
    go_simp
    go_at_call 12
    refine(r _).mono ?_;rintro e u ⟨rfl,q⟩;have hc:=uU ((q.block _<|by simp[World.drew]).trans<|heap_alloc_new w<|.cells #[aa .u8<|48+(d:Int)] 5) s;refine f.out _ _ (hS.trans<|q.mono hS.size) λhS=>?_
    clear f K q;refine fH 8 rfl λK f=>?_;go_simp
    refine f.out _ _ hS λhS=>?_
    clear f K
   rotate_left;focus
    have hc:=uU (W:=(w.alloc<|.cells #[aa .u8<|48+(d:Int)] 5).drew) (aE w<|.cells #[aa .u8<|48+(d:Int)] 5) s;go_simp
    refine f.out _ _ hS λhS=>?_
    clear f K;refine fH 2 rfl λK f=>?_;go_simp
    go_at_call 12
    refine(r _).mono ?_;rintro e u ⟨rfl,q⟩;refine f.out _ _ (hS.trans<|q.mono hS.size) λhS=>?_
    clear f K q
  all_goals refine fH 9 rfl λK f=>?_
  all_goals go_simp
  all_goals refine f.out _ _ hS λhS=>?_
  all_goals clear f K
  all_goals refine fH 10 rfl λK f=>?_
  all_goals go_simp
  all_goals refine f.out _ _ hS λhS=>?_
  all_goals clear f K
  all_goals refine wpAnyH_done aO ?_ _
  all_goals go_wp2
  all_goals go_ret
  all_goals exact⟨rfl,hS⟩
