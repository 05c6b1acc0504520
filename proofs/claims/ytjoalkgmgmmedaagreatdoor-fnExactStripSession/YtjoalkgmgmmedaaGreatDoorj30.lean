import Derived.Test.YtjoalkgmgmmedaaGreatDoorj24
import Derived.Test.YtjoalkgmgmmedaaGreatDoorj29
set_option linter.defProp false
set_option linter.unusedVariables false
set_option maxHeartbeats 2000000
set_option maxRecDepth 10000
open Go renaming cell_of_row->aa,wpList_append_own->ai,World->ay,frozen_of_row->aE,Calls->aL,info_parts->aN,Addr->a0,heap_alloc_new->a1
open Go.RowKit renaming Below->ad
open Go.Value renaming slice->ac,ownBlock->ao,string->a2,int->a3
namespace Go.Proofs.YtjoalkgmgmmedaaGreatDoor
open RowKit
def ew (f:Nat->Mv)(n:Nat)(name:ByteArray)(k:Int):Prop:=k=-1/\(∀i,i<n->de (f i).name name=false)\/∃j:Nat,k=j/\j<n/\de (f j).name name/\∀i,i<j->de (f i).name name=false
def Az (m:Mv)(B:Nat)(name:ByteArray)(w:ay)(a:B<w)(c:w.cell? B=some (a2 name)):
  aL Tz.prog 252 #[.agg #[m.name,m.ax,m.aI,m.cE,m.late,m.prom],.pointer B] w λe w'=>e=.returned (de m.name name)/\ad w w w':=by
 go_enter Tz.func252,Tryz.ntmps252
 go_wp2;go_ret;exact⟨rfl,(afB _ w).alloc ab _⟩
def MG (b off n cap:Nat)(f:Nat->Mv)(B:Nat)(name:ByteArray)(w:ay)(T:n<=1048576)(J:b<w)(N:aK w b off n f)(s:B<w)(hc:w.cell? B=some (a2 name)):
  aL Tz.prog 251 #[ac (some ⟨b,off,none⟩) n cap,.func (.func 252) #[] #[.pointer B]] w λe w'=>(∃k,e=.returned (a3 .i64 k)/\ew f n name k)/\ad w w w':=by
 go_enter Tz.func251,Tryz.ntmps251
 go_wp2;go_loopw [8] (λx W=>∃k:Nat,x=a3 .i64 k/\k<=n/\ad w w W/\∀i,i<k->de (f i).name name=false) (λx _=>n-(intOf x).toNat)
 .exact⟨0,rfl,afP _,afB _ _,λi u=>absurd u ab⟩
 obtain⟨k,rfl,hk,hb,y⟩:=hrel;by_cases D:k<n
 .have O:(k:Int)<n:=by omega
  have R:=N.below hb J k D;let⟨U,Y,Z,c3,c4,c5⟩:=R;have H1:=λ(A:ay)=>Az (f k) B name A
  cases he:de (f k).name name with
  |true=>
   go_wp2_with(go_at_call 252;refine(Az (f k) B name wr (afL s hb.size)<|(hb.cell (p:=⟨B,0,none⟩) s).trans hc).mono ?_;rintro e A ⟨rfl,C⟩;rw[he])
   all_goals try omega
   go_ret;exact⟨⟨k,rfl,.inr ⟨k,rfl,D,he,y⟩⟩,hb.trans<|C.mono hb.size⟩
  |false=>
   go_wp2_with(go_at_call 252;refine(Az (f k) B name wr (afL s hb.size)<|(hb.cell (p:=⟨B,0,none⟩) s).trans hc).mono ?_;rintro e A ⟨rfl,C⟩;rw[he])
   all_goals try omega
   go_roundw
   case rel=>exact⟨k+1,by go_num,ab,hb.trans<|C.mono hb.size,λi u=>by
    by_cases e:i=k
    .subst e;exact he
    .exact y i ab⟩
   exact cD
 have O:¬(k:Int)<n:=by omega
 go_wp2<;>try omega
 go_ret;exact⟨⟨-1,rfl,.inl ⟨rfl,λi u=>y i ab⟩⟩,hb⟩
def GI (b off n cap:Nat)(f:Nat->Mv)(name:ByteArray)(w:ay)(u:n<=1048576)(x:b<w)(y:aK w b off n f):
  aL Tz.prog 247 #[ac (some ⟨b,off,none⟩) n cap,name] w λe w'=>(∃k,e=.returned (a3 .i64 k)/\ew f n name k)/\ad w w w':=by
 have s:ad w w (w.alloc<|.cells #[name] 9):=(afB _ w).alloc ab _;go_enter Tz.func247,Tryz.ntmps247
 go_wp2_with(go_at_call 251;refine(MG b off n cap f w.heap.size name (w.alloc<|.cells #[name] 9) u dj (y.below s x) aP aP).mono ?_;rintro e B ⟨⟨k,rfl,hk⟩,A⟩)
 go_ret;exact⟨⟨k,rfl,hk⟩,s.trans<|A.mono s.size⟩
section
variable {w:ay}{b off n base:Nat}{f:Nat->Mv}{v:Value}{xs:List Value}
def Ju (f) n:∀u∈fR f n,u.oneCell':=λu s=>by
 unfold fR at s;rw[List.mem_flatMap]at s;let⟨j,_,x⟩:=s;exact QG (f j) u x
def Jg {T:Nat->Int}(h:aD w b off n T):∀j u,(eG T n)[j]?=some u->w.cell? ((⟨b,off,none⟩:a0).add j)=some u:=λj u a=>by
 have c:j<n:=by rcases afS j n with h|h;exact h;rw[afU (by rw[eZ];exact h)]at a;cases a
 rw[dW c]at a;rw[addr_add,h j c];exact a
def Jv (h:aK w b off n f):∀j u,(fR f n)[j]?=some u->w.cell? ((⟨b,off,none⟩:a0).add j)=some u:=λj u x=>by
 have Y:j<n*6:=by rcases afS j (n*6)with h|h;exact h;rw[afU (by rw[jN];exact h)]at x;cases x
 have B:j/6<n:=ab;have C:j%6<6:=Nat.mod_lt _ ab;have D:j=j/6*6+j%6:=ab;rw[D,tf f n _ _ B C]at x;rw[addr_add];let⟨J,N,O,R,T,U⟩:=h (j/6) B;have y:∀r,r=j%6->(f<|j/6).cells.toList[r]?=some u->w.cell? ⟨b,off+j/6*6+r,none⟩=some u:=λr Z s=>by
  have A:r<6:=ab;match r,A with
  |0,_=>rw[Nat.add_zero,J];exact s
  |1,_=>rw[N];exact s
  |2,_=>rw[O];exact s
  |3,_=>rw[R];exact s
  |4,_=>rw[T];exact s
  |5,_=>rw[U];exact s
 have:=y (j%6) rfl x;rw[show off+j=off+j/6*6+j%6 by omega];exact this
def Qc:(Tz.prog.info? 9).map (λi=>(i.zero,i.size,i.bytes))=some (some<|a2 ByteArray.empty,1,16):=aO
def Qb:(Tz.prog.info? 3).map (λi=>(i.zero,i.size,i.bytes))=some (some<|a3 .i64 0,1,8):=aO
def yX (now shift:Int)(b off n cap:Nat)(f:Nat->Mv)(b' bH m cap':Nat)(t:Nat->Int)(w:ay)(hn:n<=1048576)(hm:m<=1048576)(bN:b<w)(aB:aK w b off n f)(bz:b'<w)(aV:aD w b' bH m t):
  aL Tz.prog 96 #[Ta now shift (ac (some ⟨b,off,none⟩) n cap)<|ac (some ⟨b',bH,none⟩) m cap'] w λe w'=>(∃v u,e=.returned (Ta now shift v u)/\w'.ownsRow w 55 6 v n (fR f n)/\w'.ownsRow w 3 1 u m (eG t m))/\ad w w w':=by
 let⟨iM,hI,gK,eO,fZ⟩:=aN Ek;let⟨i0,KN,MD,I8,I9⟩:=aN Qb;have qn:∀N O,ad w w ((w.alloc N).alloc O):=λN O=>((afB _ w).alloc ab _).alloc aP _
 have ax:∀x y o3,((w.alloc<|.cells x y).alloc o3).heap[w.heap.size]?=some (.cells x y (0,0)):=λx y o3=>(afC _ _ _ aP).trans<|heap_alloc_new w<|.cells x y
 have Pv:∀N x y,((w.alloc N).alloc<|.cells x y).heap[w.heap.size+1]?=some (.cells x y (0,0)):=λN x y=>by have:=a1 (w.alloc N)<|.cells x y;simp_all
 go_enter Tz.func96,Tryz.ntmps96
 go_wp2_with(first
  |(at_builtin;refine ai _ rfl (.const<|ac none 0 0) (.tmp 4) 26 rfl (w.heap.size+1+1) 55 iM _ 6 56 (Tz.al Tryz.underlying26) hI gK eO fZ rfl bh (ac none 0 0) 0 [] bQ ⟨rfl,.inl ⟨rfl,rfl⟩⟩ ⟨b,off,none⟩ n cap (fR f n) bQ (by rw[jN]) (Jv<|aB.below (qn _ _) bN) (Ju f n) iN ab aP ?_;intro v1 C AU nO _;simp at AU;obtain⟨R,T,rfl⟩:=mh AU;have g0:=(nO.block w.heap.size dj Ix).trans<|ax _ _ _;have g1:=(nO.block (w.heap.size+1) aP Ix).trans<|Pv _ _ _;have B1:=(qn _ _).grown nO (qn _ _).size (λq hq=>by grind [ao]);have s1:=nO.size;simp at s1;have k2:=aa C _ 2 _ _ _ g0;have k3:=aa C _ 3 _ _ _ g0;have kf:=λj=>aE C _ j _ _ g0;simp at k2 k3;have U:=heap_setCell_same C _ 2 _ _ (ac R n T) g0;simp at U;have Y:=eK (w':=C.setCell ⟨w.heap.size,2,none⟩<|ac R n T) AU λB A=>afD C _ _ B (by have:=(AU.lt B A).1;simp;omega);have Wj:=(afD C ⟨w.heap.size,2,none⟩ (ac R n T) (w.heap.size+1) aP).trans g1;have D:=B1.setCell (p:=⟨w.heap.size,2,none⟩) aP<|ac R n T)
  |(at_builtin;refine ai _ rfl (.const<|ac none 0 0) (.tmp 8) 27 rfl (w.heap.size+1+1) 3 i0 _ 1 8 (Tz.al Tryz.underlying27) KN MD I8 I9 rfl bh (ac none 0 0) 0 [] bQ ⟨rfl,.inl ⟨rfl,rfl⟩⟩ ⟨b',bH,none⟩ m cap' (eG t m) bQ AZ (Jg<|aV.below D bz) (jM t m) iN ab dj ?_;intro u2 s Z jC _;simp at Z;obtain⟨au,cu,rfl⟩:=mh Z;have h0:=(jC.block w.heap.size dj Ix).trans U;have J:=(jC.block (w.heap.size+1) dj Ix).trans Wj;have B2:=D.grown jC D.size (λq hq=>by simp[ao]at hq);have s2:=jC.size;simp at s2;have O:=eK (w':=s) Y λB A=>jC.block B (Y.lt B A).2 Ix;have p0:=aa s _ 0 _ _ _ h0;have p1:=aa s _ 1 _ _ _ h0;have p2:=aa s _ 2 _ _ _ h0;have p3:=aa s _ 3 _ _ _ h0;have pf:=λj=>aE s _ j _ _ h0;have r0:=aa s _ 0 _ _ _ J;have r1:=aa s _ 1 _ _ _ J;have r2:=aa s _ 2 _ _ _ J;have r3:=aa s _ 3 _ _ _ J;have rf:=λj=>aE s _ j _ _ J;simp at p0 p1 p2 p3 r0 r1 r2 r3))
 have eW:∀q,q≠w.heap.size->q≠w.heap.size+1->(((((s.setCell ⟨w.heap.size,3,none⟩<|ac au m cu).setCell ⟨w.heap.size+1,0,none⟩ now).setCell ⟨w.heap.size+1,1,none⟩ shift).setCell ⟨w.heap.size+1,2,none⟩<|ac R n T).setCell ⟨w.heap.size+1,3,none⟩<|ac au m cu).heap[q]?=s.heap[q]?:=λq J h2=>by
  rw[afD _ _ _ _ ab,afD _ _ _ _ (by simpa using h2),afD _ _ _ _ (by simpa using h2),afD _ _ _ _ (by simpa using h2),afD _ _ _ _ (by simpa using J)]
 exact bodyPost_ret (by simp[results,Tryz.results96,go_sem,r0,r1,r2,r3]) rfl ⟨⟨_,_,rfl,mg (eK O λB A=>eW B (by have:=(O.lt B A).1;omega) (by have:=(O.lt B A).1;omega)) ab,mg (eK Z λB A=>eW B (by have:=(Z.lt B A).1;omega) (by have:=(Z.lt B A).1;omega)) ab⟩,((((B2.setCell aP _).setCell aP _).setCell aP _).setCell aP _).setCell aP _⟩
def Gk (now shift tick:Int)(b off n cap:Nat)(f:Nat->Mv)(b' bH cap':Nat)(t:Nat->Int)(w:ay)(hn:n<=6)(bN:b<w)(aB:aK w b off n f)(bz:b'<w)(aV:aD w b' bH n t):
  aL Tz.prog 72 #[Ta now shift (.slice (some ⟨b,off,none⟩) n cap)<|.slice (some ⟨b',bH,none⟩) n cap',tick] w λe w'=>(∃s,e=.returned s/\w'.ownsRow w 9 1 s (gone tick t n).length (nL f<|gone tick t n))/\ad w w w':=by
 let⟨iS,hI,gK,eO,fZ⟩:=aN Qc;have bA:=kv w now shift (some ⟨b,off,none⟩) n cap (some ⟨b',bH,none⟩) n cap';have hA:=qh w now shift (some ⟨b,off,none⟩) n cap (some ⟨b',bH,none⟩) n cap';go_enter Tz.func72,Tryz.ntmps72
 go_wp2;go_loopw [5,11] (λs x W=>∃k:Nat,k<=n/\x=.int .i64 k/\sF W w.heap.size now shift (some ⟨b,off,none⟩) n cap (some ⟨b',bH,none⟩) n cap'/\W.ownsRow (w.heap.size+1) 9 1 s (gone tick t k).length (nL f<|gone tick t k)/\w.heap.size+1<=W.heap.size/\ad w w W) (λ_ x _=>n-(intOf x).toNat)
 case atStart=>exact⟨0,afP _,rfl,hA,⟨rfl,.inl ⟨rfl,rfl⟩⟩,aP,bA⟩
 obtain⟨k,hk,rfl,hb,ho,hs,hB⟩:=hrel;by_cases aF:k<n
 .have dV:(k:Int)<n:=by omega
  let⟨c0,c1,c2,c3,c4,c5⟩:=aB.below hB bN k aF;have gh:=aV.below hB bz k aF;have Ug:=ql tick t k;have bM:=gG wr<|f k;let⟨m0,m1,m2,m3,m4,m5⟩:=lP wr<|f k;simp[Nat.zero_add]at m0 m1 m2 m3 m4 m5;have hbm:=hb.below bM ab;have hrm:(dL wr<|f k).cell? ⟨b',bH+k,none⟩=some (.int .i64<|t k):=(bM.cell<|afL bz hB.size).trans gh;have hom:=eK ho λB Po=>bM.block B (ho.lt B Po).2;let⟨g0,g1,g2,g3⟩:=hbm;by_cases vg:t k=tick
  .have D:(t k==tick)=true:=cO;have Yi:Hid (gone tick t (k+1)=gone tick t k++[k]):=by
    have h:gone tick t (k+1)=gone tick t k++[k]:=by simp only[gone];grind
    exact h
   have bO:ad (dL wr<|f k).heap.size (dL wr<|f k) ((dL wr<|f k).alloc<|.cells #[.string (f k).name] 9):=(afB _ _).alloc ab _;have PP:=eK hom λB Po=>bO.block B (hom.lt B Po).2;have Zg:((dL wr<|f k).alloc<|.cells #[.string (f k).name] 9).heap[wr.heap.size+1]?=some (.cells #[.string (f k).name] 9 (0,0)):=by have:=a1 (dL wr<|f k)<|.cells #[.string (f k).name] 9;simp_all
   clear vg;go_wp2_with(at_builtin;refine ai _ rfl (.tmp 23) (.tmp 26) 24 rfl (w.heap.size+1) 9 iS _ 1 16 (Tz.al Tryz.underlying24) hI gK eO fZ rfl bh _ (gone tick t k).length (nL f<|gone tick t k) bQ PP _ 1 1 [.string (f k).name] bQ rfl (fx Zg) sJ iN ab dj ?_;intro s5 w5 xI Cx _)
   have Xa:∀B,ao _=some B->w.heap.size+1<=B:=λB Po=>(ho.lt B Po).1
   have BO:ad w w ((dL wr<|f k).alloc<|.cells #[.string (f k).name] 9):=(hB.trans<|bM.mono hB.size).trans<|bO.mono (by have:=hB.size;simp;omega);have iZ:=(((sF.mk g0 g1 g2 g3).below bO dj).same<|Cx.block w.heap.size dj (λe=>by have:=Xa w.heap.size e.symm;omega));refine⟨⟨k+1,ab,aP,iZ,by rw[Yi.out,List.length_append,IQ];exact xI,by have:=Cx.size;simp at this;omega,BO.grown Cx BO.size (λq hq=>by have:=Xa q hq;omega)⟩,cD⟩
  .have D:(t k==tick)=false:=cO;have Yi:Hid (gone tick t (k+1)=gone tick t k):=by
    have h:gone tick t (k+1)=gone tick t k:=by simp only[gone];grind
    exact h
   clear vg;go_wp2;refine⟨⟨k+1,ab,aP,⟨g0,g1,g2,g3⟩,by rw[Yi.out];exact hom,dj,hB.trans<|bM.mono hB.size⟩,cD⟩
 .have tM:k=n:=by omega
  subst tM;go_wp2;go_ret;exact⟨⟨_,rfl,mg ho ab⟩,hB⟩
end
section
variable {t r:Nat->Int}{n:Nat}
def pa (t r:Nat->Int)(n:Nat):Bool:=(List.range n).any λi=>decide (r i<t i)
def sY {k}(a:k<n)(h:r k<t k):pa t r n:=by
 unfold pa;grind
def MQ (h:∀i,i<n->t i<=r i):pa t r n=false:=by
 unfold pa;grind
def SV (w:ay)(a:Option a0)(n:Nat)(t:Nat->Int):Prop:=n=0\/∃b,a=some ⟨b,0,none⟩/\b<w/\aD w b 0 n t
def acr {p:Prop}(x9:p:=by
  have dV:¬(k:Int)<n:=by omega
  go_wp2;all_goals try omega
  go_ret;exact⟨by rw[MQ λi hi=>dw i ab];rfl,hB⟩):p:=x9
def BE (a:Option a0)(n c:Nat)(t:Nat->Int)(a':Option a0) c' (r:Nat->Int)(w:ay)(hn:n<=1048576)(hr:SV w a n t)(gh:SV w a' n r):
  aL Tz.prog 250 #[.slice a n c,.slice a' n c'] w λe w'=>e=.returned (pa t r n)/\ad w w w':=by
 go_enter Tz.func250,Tryz.ntmps250
 go_wp2;go_loopw [9] (λx W=>∃k:Nat,x=.int .i64 k/\k<=n/\ad w w W/\∀i,i<k->t i<=r i) (λx _=>n-(intOf x).toNat)
 case atStart=>exact⟨0,rfl,afP _,afB _ _,λi hi=>absurd hi<|afO _⟩
 case round=>
  obtain⟨k,rfl,hk,hB,dw⟩:=hrel;by_cases aF:k<n
  .have dV:(k:Int)<n:=by omega
   obtain⟨b,rfl,bN,h1⟩:=hr.resolve_left ab;obtain⟨b',rfl,bz,h2⟩:=gh.resolve_left ab;have c0:=h1.below hB bN k aF;have c1:=h2.below hB bz k aF;simp only[Nat.zero_add]at c0 c1;rcases Int.lt_or_le (r k) (t k)with hle|hle
   .go_wp2;all_goals try omega
    go_ret;exact⟨by rw[sY aF hle];rfl,hB⟩
   .go_wp2;all_goals try omega
    go_roundw
    case rel=>exact⟨k+1,cO,ab,hB,λi hi=>by
     by_cases e:i=k
     .grind
     .exact dw i ab⟩
    case measure=>exact cD
  .exact acr
def Be (a:Option a0)(n c:Nat)(t:Nat->Int)(a':Option a0) c' (r:Nat->Int)(w:ay)(R:n<=1048576)(B:SV w a n t)(C:SV w a' n r):
  aL Tz.prog 41 #[ac a n c,ac a' n c'] w λe w'=>e=.returned (!pa t r n)/\ad w w w':=by
 go_enter Tz.func41,Tryz.ntmps41
 go_wp2;go_loopw [5] (λx W=>∃k:Nat,x=a3 .i64 k/\k<=n/\ad w w W/\∀i,i<k->t i<=r i) (λx _=>n-(intOf x).toNat)
 .exact⟨0,rfl,afP _,afB _ _,λi hi=>absurd hi ab⟩
 obtain⟨k,rfl,hk,hB,dw⟩:=hrel;by_cases s:k<n
 .have dV:(k:Int)<n:=by omega
  obtain⟨b,rfl,u,D⟩:=B.resolve_left ab;obtain⟨T,rfl,y,J⟩:=C.resolve_left ab;have U:=afL u hB.size;have N:=afL y hB.size;have z:=D.below hB u k s;have A:=J.below hB y k s;simp[Nat.zero_add]at z A;have O:=aM wr;have Y:=λx:an wr=>x.cell z
  have Z:=λx:an wr=>x.cell A
  go_wp2;refine nl ?_;intro w2 dg;rcases Int.lt_or_le (r k) (t k)with hle|hle
  .go_wp2<;>try omega
   go_ret;exact⟨by rw[sY s hle];rfl,hB.trans<|dg.mono hB.size⟩
  go_wp2<;>try omega
  go_roundw
  case rel=>exact⟨k+1,by go_num,ab,hB.trans<|dg.mono hB.size,λi hi=>by
   by_cases e:i=k
   .subst e;omega
   .exact dw i ab⟩
  exact cD
 exact acr
end
