import Derived.Test.YtjoalkgmgmmedaaGreatDoorj13
import Derived.Lib.Bytealg
import Derived.Lib.Strings
import Derived.Laws.Externs
set_option linter.unusedVariables false
set_option linter.defProp false
set_option maxHeartbeats 2000000
set_option maxRecDepth 20000
open Go renaming World->ai,madeCells->au,run_callFunc_extern->ax,Calls->ay
open Go.Ending renaming returned->ao
open Go.Lib renaming countByte->aa,indexByte->ac
open Go.Value renaming string->ad,int->av,slice->aB
namespace Go.Proofs.YtjoalkgmgmmedaaGreatDoor
open Go Go.RowKit RowKit
section
def Yb (s:ByteArray) c (w:ai):(callFunc 143 #[s,av .u8 c]).run Tz.prog w=.ok (.value<|ac s.data.toList c.toNat.toUInt8) w:=by
 rw[ax (Tz.aH Tryz.func143) (by kernel_rfl) (by kernel_rfl) (by kernel_rfl) (by kernel_rfl),Lib.run_indexByteString];rfl
def Yc (s:ByteArray) c (w:ai):(callFunc 92 #[s,av .u8 c]).run Tz.prog w=.ok (.value<|av .i64<|aa s.data.toList c.toNat.toUInt8) w:=by
 rw[ax (Tz.aH Tryz.func92) (by kernel_rfl) (by kernel_rfl) (by kernel_rfl) (by kernel_rfl),Lib.run_countString];rfl
attribute [local go_sem] Yb Yc
def P6 (s:ByteArray) c (w:ai):
  ay Tz.prog 113 #[s,av .u8 c] w λe w'=>e=ao (ac s.data.toList c.toNat.toUInt8)/\w'=w:=by
 go_enter Tz.func113,Tryz.ntmps113
 go_wp2<;>go_ret
 simp
def uv {p q:Prop}(hq:q)(h:q->p:=by intro AW;simp only[Tz.mQ,List.map_toArray,List.map_cons,List.map_nil,Tz.mU,Op.operands,Call.operands,Option.toArray_none,Option.toArray_some,List.append_toArray,List.cons_append,List.nil_append,List.any_cons,List.any_nil,Tz.K3,Tz.Xj,List.contains_cons,List.contains_nil,Nat.reduceBEq,Bool.or_false,Bool.or_self,Bool.or_true,Bool.true_or,Bool.and_self,Bool.and_false,Bool.false_and,Bool.false_eq_true,if_false,if_true];exact AW):p:=h hq
def P7 (s:ByteArray)(c:UInt8)(w:ai):
  ay Tz.prog 93 #[s,ad ⟨#[c]⟩] w λe w'=>e=ao (ac s.data.toList c)/\w'=w:=by
 have H:=λw=>P6 s c.toNat w
 have r:(c.toNat:Int).toNat.toUInt8=c:=cO;rw[r]at H;go_enter Tz.func93,Tryz.ntmps93
 refine uv ?_;by_cases hs:[c]=s.toList
 .have t:([c]==s.toList)=true:=cO;have f:ac s.data.toList c=0:=by
   grind [Lib.toList_data,ac]
  rw[f];clear hs f;go_wp2<;>go_ret<;>exact⟨rfl,rfl⟩
 have t:([c]==s.toList)=false:=cO;clear hs;go_wp2_with(go_at_call 113;refine(H _).mono ?_;rintro e w' ⟨rfl,rfl⟩)
 all_goals go_ret
 simp_all
def Uu (s:ByteArray)(c:UInt8)(w:ai):
  ay Tz.prog 68 #[s,ad ⟨#[c]⟩] w λe w'=>e=ao (ac s.data.toList c)/\w'=w:=by
 have H:=λw=>P7 s c w
 go_enter Tz.func68,Tryz.ntmps68
 go_wp2_with(go_at_call 93;refine(H _).mono ?_;rintro e w' ⟨rfl,rfl⟩)
 go_ret;simp
def L6 (s:ByteArray)(c:UInt8)(w:ai):
  ay Tz.prog 67 #[s,ad ⟨#[c]⟩] w λe w'=>e=ao (av .i64<|aa s.data.toList c)/\w'=w:=by
 go_enter Tz.func67,Tryz.ntmps67
 go_wp2<;>go_ret<;>exact⟨rfl,rfl⟩
end
section
def aag (w:ai)(b n:Nat)(g:Nat->ByteArray):Prop:=∀i,i<n->w.cell? ⟨b,i,none⟩=some (ad<|g i)
def kg (w:ai)(b n:Nat)(g:Nat->ByteArray):Prop:=(∃a,w.heap[b]?=some (.cells a 9 (0,0))/\a.size=n)/\aag w b n g
section
variable {w:ai}{b n:Nat}{g:Nat->ByteArray}
def kg.frozen (h:kg w b n g) j:w.frozen? ⟨b,j,none⟩=false:=by
 exact aef
def kg.set (h:kg w b n g) k (j:k<n)(x:ByteArray):kg (w.setCell ⟨b,k,none⟩ x) b n (λi=>if i=k then x else g i):=by
 let⟨⟨l,c,m⟩,d⟩:=h;have a:=heap_setCell_same _ _ k _ _ (ad x) c;refine⟨⟨_,a,cO⟩,λi f=>?_⟩;by_cases e:i=k
 .rw[cell_of_row _ _ _ _ _ _ a];grind
 rw[World.cell?_setCell_other _ _ _ _ LZ];simp[if_neg e];exact d i f
def kg.congr {g'}(h:kg w b n g)(e:∀i,i<n->g i=g' i):kg w b n g':=
 ⟨h.1,λi a=>by rw[<-e i a];exact h.2 i a⟩
def Qt (w:ai) n:kg (w.alloc<|.cells (au #[ad .empty] n) 9) w n (λ_=>.empty):=by
 refine⟨⟨_,(heap_alloc_new _ _),size_madeCells _ _⟩,λi a=>?_⟩;simp[au,Nat.mod_one,a]
end
def Uv:(Tz.prog.info? 9).map (λi=>(i.size,i.bytes,i.zero))=some (1,16,some<|ad .empty):=aO
def Qu (n:Nat)(f:n<=1048577)(w:ai):
  (Instr.makeSlice 24 (n:Int) (n:Int)).run Tz.prog w=.ok (aB w n n) (w.alloc<|.cells (au #[ad .empty] n) 9):=by
 have a:=Uv;cases c:Tz.prog.info? 9 with
 |none=>grind
 |some i=>
  rw[c]at a;simp at a;let⟨j,d,e⟩:=a;have:=run_make w 24 9 i _ (Tz.al Tryz.underlying24) c e .i64 .i64 n n ab ab gC ab;grind [Value.cells]
def vA (c):∀l,(ac l c=-1/\l.count c=0)\/∃n:Nat,ac l c=n/\n<l.length/\(l.drop<|n+1).count c+1=l.count c
 |[]=>.inl ⟨rfl,rfl⟩
 |b::l=>by
  unfold ac;by_cases h:b=c
  .subst h;exact .inr ⟨0,by simp,by simp,by simp⟩
  .have hb:(b==c)=false:=by simpa using h
   rcases vA c l with⟨e,f⟩|⟨n,e,f,p⟩
   .exact .inl ⟨by simp[hb,e],by rw[List.count_cons,f];simp[h]⟩
   .refine .inr ⟨n+1,?_,by simpa using f,?_⟩
    .have:((n:Int)==-1)=false:=by simp
     simp[hb,e,this]
    .rw[List.count_cons];simp[h];omega
def gU (c:UInt8)(s:ByteArray):Nat->ByteArray
 |0=>s
 |k+1=>(gU c s k).extract ((ac (gU c s k).data.toList c).toNat+1) (gU c s k).size
def d9 (c:UInt8)(s:ByteArray)(k:Nat):ByteArray:=if k<aa s.data.toList c then(gU c s k).extract 0 (ac (gU c s k).data.toList c).toNat else gU c s k
def Ch (c s):∀k,k<=aa s.data.toList c->aa (gU c s k).data.toList c+k=aa s.data.toList c
 |0,_=>rfl
 |k+1,h=>by
  have q:=Ch c s k (by omega);unfold aa at*;rcases vA c (gU c s k).data.toList with⟨_,f⟩|⟨n,p,f,r⟩
  .omega
  .simp only[gU,p,Int.toNat_natCast,Lib.extract_data];have e:((gU c s k).data.toList.drop<|n+1).take ((gU c s k).size-(n+1))=(gU c s k).data.toList.drop (n+1):=List.take_of_length_le (by rw[List.length_drop,Array.length_toList];exact afK _);rw[e];omega
def Fs (c s):∀k,(gU c s k).size<=s.size
 |0=>afK _
 |k+1=>by have:=Fs c s k;simp only[gU,ByteArray.size_extract];omega
def Me (s:ByteArray)(c:UInt8)(w:ai)(hs:s.size<=1048576):
  ay Tz.prog 45 #[s,ad ⟨#[c]⟩,(0:Int),av .i64 (-1)] w λe w'=>e=ao (aB w (aa s.data.toList c+1)<|aa s.data.toList c+1)/\
   kg w' w (aa s.data.toList c+1) (d9 c s)/\Below w w w':=by
 have z:=λw=>L6 s c w
 have A:aa s.data.toList c<=s.size:=List.count_le_length;obtain⟨K,hk⟩:∃K,aa s.data.toList c=K:=⟨_,rfl⟩;simp only[hk]at z A⊢;have u:Hid (aa s.data.toList c=K):=hk;clear hk;go_enter Tz.func45,Tryz.ntmps45
 refine uv ?_;have N:∀w,(Instr.makeSlice 24 (av .i64<|(K:Int)+1)<|av .i64<|(K:Int)+1).run Tz.prog w=.ok (aB (some ⟨w.heap.size,0,none⟩) (K+1)<|K+1) (w.alloc<|.cells (au #[ad .empty]<|K+1) 9):=λw=>by
  have h:=Qu (K+1) (by omega) w;assumption
 go_wp2_with(go_at_call 67;refine(z _).mono ?_;rintro e B ⟨rfl,O⟩;subst B)
 have f:=Qt w<|K+1;have r:Below w w (w.alloc<|.cells (au #[ad .empty]<|K+1) 9):=(afB _ _).alloc ab _;generalize w.alloc (.cells (au #[ad .empty]<|K+1) 9)=W at f r⊢;clear N z;go_loopw [0,10] (λx y wr=>∃k:Nat,k<=K/\x=ad (gU c s k)/\y=av .i64 k/\kg wr w.heap.size (K+1) (λi=>if i<k then d9 c s i else .empty)/\Below w w wr) (λ_ y _=>K-(intOf y).toNat)
 .exact⟨0,afP _,rfl,rfl,f.congr λi _=>cO,r⟩
 obtain⟨k,hk,rfl,rfl,f,r⟩:=hrel;by_cases R:k<K
 .have J:aa (gU c s k).data.toList c+k=K:=by have:=Ch c s k (by rw[u.out];omega);rw[u.out]at this;omega
  have T:=Fs c s k;let⟨n,v,t,_⟩:=(vA c (gU c s k).data.toList).resolve_left (λh=>by unfold aa at J;omega);have t:n<(gU c s k).size:=yO;have C:=λw=>Uu (gU c s k) c w
  simp only[v]at C;have U:=λj=>f.frozen j
  have hc:=f.2 k (by omega);have hcut:(gU c s k).extract 0 n=d9 c s k:=by unfold d9;rw[u.out,if_pos R,v];rfl
  have D:(gU c s k).extract (n+1) (gU c s k).size=gU c s (k+1):=by simp only[gU,v];rfl
  generalize gU c s k=S at J T v t C hcut D⊢;have Y:(k:Int)<K:=by omega
  go_wp2_with(go_at_call 68;refine(C _).mono ?_;rintro e B ⟨rfl,O⟩;subst B)
  refine⟨⟨k+1,by omega,rfl,by go_num,(f.set k (by omega) _).congr λi _=>?_,r.setCell (afK _) _⟩,by simp only[intOf];omega⟩;grind
 obtain rfl:k=K:=by omega
 have U:=λj=>f.frozen j
 have hc:=f.2 k (by omega);go_wp2<;>go_ret
 refine⟨rfl,(f.set k (by omega) _).congr λi Z=>?_,r.setCell (afK _) _⟩;by_cases e:i=k
 .subst e;rw[if_pos rfl];unfold d9;rw[u.out,if_neg ab]
 grind
def Da (s:ByteArray)(c:UInt8)(w:ai)(hs:s.size<=1048576):
  ay Tz.prog 22 #[s,ad ⟨#[c]⟩] w λe w'=>e=ao (aB w (aa s.data.toList c+1)<|aa s.data.toList c+1)/\kg w' w (aa s.data.toList c+1) (d9 c s)/\Below w w w':=by
 have H:=λw=>Me s c w hs
 go_enter Tz.func22,Tryz.ntmps22
 go_wp2_with(go_at_call 45;refine(H _).mono ?_;rintro e f ⟨rfl,p,q⟩)
 go_ret;simp_all
