import Derived.Test.YtlmcblcijndipabGreatDoorAd43
set_option linter.unusedVariables false
set_option maxHeartbeats 1000000
namespace Go.Proofs.YtlmcblcijndipabGreatDoor
open Go Go.RowKit
theorem BY.pos {w:World}{ao:Option Addr}{n c:Nat}{f:Nat->Mv}(h:BY w ao n c f)(hn:0<n):∃b,ao=some ⟨b,0,none⟩/\b<w.heap.size/\ak w b 0 n f:=by
 cases ao with
 |none=>have:=(h.1 rfl).1;omega
 |some ad=>obtain⟨b,e,h1,h2⟩:=h.2 ad rfl;exact⟨b,by rw[e],h1,h2⟩
def f7 (f:Nat->Mv)(n:Nat)(name:ByteArray)(k:Int):Prop:=k=-1/\(∀i,i<n->aX (f i).name name=false)\/∃j:Nat,k=(j:Int)/\j<n/\aX (f j).name name=true/\∀i,i<j->aX (f i).name name=false
theorem Aq (now shift:Int)(ao:Option Addr)(n c:Nat)(f:Nat->Mv)(bo:Option Addr)(m d:Nat)(name:ByteArray)(w:World)(hn:n<=6)(hv:BY w ao n c f):
  Calls Tz.prog 33 #[.agg #[.int .i64 now,.int .i64 shift,.slice ao n c,.slice bo m d],.string name] w λe w'=>(∃k:Int,e=.returned (.int .i64 k)/\f7 f n name k)/\Below w.heap.size w w':=by
 have hbB:Below w.heap.size w (w.alloc (.cells #[.int .i64 now,.int .i64 shift,.slice ao n c,.slice bo m d] 32)):=(Gb _ w).alloc (Gm _) _;have hbk:ar (w.alloc (.cells #[.int .i64 now,.int .i64 shift,.slice ao n c,.slice bo m d] 32)) w.heap.size now shift (.slice ao n c) (.slice bo m d):=heap_alloc_new _ _;go_enter Tz.func33,Tryz.ntmps33
 go_wp2;go_loopw [5] (λx W=>∃k:Nat,x=.int .i64 k/\k<=n/\Below w.heap.size w W/\ar W w.heap.size now shift (.slice ao n c) (.slice bo m d)/\∀i,i<k->aX (f i).name name=false) (λx _=>n-(intOf x).toNat)
 case atStart=>exact⟨0,rfl,Gs _,hbB,hbk,λi hi=>absurd hi (Gr _)⟩
 case round=>
  clear hbB hbk;obtain⟨k,rfl,hk,hB,bk,hall⟩:=hrel;obtain⟨y0,y1,y2,y3,y4⟩:=bk.cells;by_cases hlt:k<n
  .obtain⟨b,rfl,hbs,hrow⟩:=hv.pos (by omega);have lb:=Gn hbs hB.size;have hlt':(k:Int)<n:=by omega
   have c0:=(hrow.below hB hbs k hlt).c0;simp only[Nat.zero_add]at c0;cases he:aX (f k).name name with
   |true=>
    have he':((f k).name.toList==name.toList)=true:=he;go_wp2;all_goals first|(exfalso;omega)|skip
    go_ret;exact⟨⟨k,rfl,.inr ⟨k,rfl,hlt,he,hall⟩⟩,hB⟩
   |false=>
    have he':((f k).name.toList==name.toList)=false:=he;go_wp2;all_goals first|(exfalso;omega)|skip
    go_roundw
    case rel=>exact⟨k+1,by go_num,by omega,hB,bk,λi hi=>by
     by_cases e:i=k
     .subst e;exact he
     .exact hall i (by omega)⟩
    case measure=>simp[intOf];omega
  .have hlt':¬(k:Int)<n:=by omega
   go_wp2;all_goals first|(exfalso;omega)|skip
   go_ret;exact⟨⟨-1,rfl,.inl ⟨rfl,λi hi=>hall i (by omega)⟩⟩,hB⟩
def EY (e:Ending):Prop:=∃x:Bool,e=.returned (.bool x)
theorem pg (f:Nat->Mv)(k n:Nat)(m:Mv)(hk:k<=n):(aG f k++m.cells.toList)++aG (λj=>f (k+j)) (n-k)=aG (bz f k m) (n+1):=by
 have h1:aG f k=aG (bz f k m) k:=ka λj hj=>by unfold bz;rw[if_pos hj]
 have h2:aG f k++m.cells.toList=aG (bz f k m) (k+1):=by
  rw[eJ,h1,show bz f k m k=m by unfold bz;rw[if_neg (Nat.lt_irrefl _),if_pos rfl]]
 rw[h2];have h3:∀r,aG (bz f k m) (k+1)++aG (λj=>f (k+j)) r=aG (bz f k m) (k+1+r):=by
  intro r;induction r with
  |zero=>simp[aG]
  |succ r ih=>
   rw[eJ (λj=>f (k+j)) r,<-List.append_assoc,ih,show k+1+(r+1)=k+1+r+1 by omega,eJ _ (k+1+r)];congr 3;unfold bz;rw[if_neg (by omega),if_neg (by omega)];congr 1;omega
 rw[h3,show k+1+(n-k)=n+1 by omega]
def kJ (w:World)(B n:Nat)(t:Nat->Int):Prop:=(∃cs,w.heap[B]?=some (.cells cs 3 (0,0))/\n<=cs.size)/\al w B 0 n t
theorem eQ {w w':World}{B n:Nat}{t:Nat->Int}(h:kJ w B n t)(e:w'.heap[B]?=w.heap[B]?):kJ w' B n t:=by
 obtain⟨⟨cs,h1,h2⟩,h3⟩:=h;exact⟨⟨cs,e.trans h1,h2⟩,λi hi=>(Gi (a:=⟨B,0+i,none⟩) e).trans (h3 i hi)⟩
theorem kJ.lt {w:World}{B n:Nat}{t:Nat->Int}(h:kJ w B n t):B<w.heap.size:=by
 obtain⟨⟨cs,h1,h2⟩,h3⟩:=h;exact(Gp.1 h1).1
theorem As {w:World}{B n:Nat}{t:Nat->Int}(h:an w B n t):kJ w B n t:=by
 obtain⟨⟨cs,h1,h2⟩,h3⟩:=h;exact⟨⟨cs,h1,by omega⟩,h3⟩
theorem yr {w:World}{base B n c:Nat}{t:Nat->Int}(h:w.ownsRow base 3 1 (.slice (some ⟨B,0,none⟩) n c) n (dR t n)):kJ w B n t:=by
 obtain⟨cur,hg,hnc,hcm,hcs,hNB,hcell⟩:=cr h;exact⟨⟨cur,hg,by omega⟩,λi hi=>by rw[Nat.zero_add];exact hcell i _ (gG hi)⟩
theorem ga {w w':World}{base B n c s:Nat}{T:TypeId}{xs:List Value}(h:w.ownsRow base T s (.slice (some ⟨B,0,none⟩) n c) n xs)(e:w'.heap[B]?=w.heap[B]?):w'.ownsRow base T s (.slice (some ⟨B,0,none⟩) n c) n xs:=by
 obtain⟨h1,h2|⟨g,cap,cur,h2,h3,h4,h5⟩⟩:=h
 .exact⟨h1,.inl h2⟩
 .cases h2;exact⟨h1,.inr ⟨_,_,cur,rfl,h3,e.trans h4,h5⟩⟩
def EX (w:World)(lo b n:Nat)(t:Nat->Int):Prop:=lo<=b/\(∃cs,w.heap[b]?=some (.cells cs 3 (0,0)))/\al w b 0 n t
theorem mm {w:World}{base:Nat}{e:TypeId}{size b m cap:Nat}{xs:List Value}(h:w.ownsRow base e size (.slice (some ⟨b,0,none⟩) m cap) m xs):base<=b/\b<w.heap.size/\m<=cap:=by
 obtain⟨h1,h2|⟨g,cap',cur,h2,h3,h4,h5⟩⟩:=h
 .exact absurd h2.1 (by simp)
 .simp at h2;obtain⟨rfl,rfl⟩:=h2;exact⟨h3,(Gp.1 h4).1,h5.1⟩
theorem CI (w:World)(x0 x1:Int)(x2:Option Addr)(l2 c2:Nat)(x3:Option Addr)(l3 c3:Nat):∃W,w.alloc (.cells #[.int .i64 x0,.int .i64 x1,.slice x2 l2 c2,.slice x3 l3 c3] 32)=W/\ar W w.heap.size x0 x1 (.slice x2 l2 c2) (.slice x3 l3 c3)/\Below w.heap.size w W/\W.heap.size=w.heap.size+1:=
 ⟨_,rfl,heap_alloc_new w _,(Gb _ w).alloc (Gm _) _,by simp⟩
theorem sj {w W:World}{N R:Nat}{y0 y1:Int}{y2 y3:Value}(hr:ar W R y0 y1 y2 y3)(hb:Below N w W)(hR:N<=R)(x0 x1:Int)(x2:Option Addr)(l2 c2:Nat)(x3:Option Addr)(l3 c3:Nat):∃W',((((W.setCell ⟨R,0,none⟩ (.int .i64 x0)).setCell ⟨R,1,none⟩ (.int .i64 x1)).setCell ⟨R,2,none⟩ (.slice x2 l2 c2)).setCell ⟨R,3,none⟩ (.slice x3 l3 c3))=W'/\ar W' R x0 x1 (.slice x2 l2 c2) (.slice x3 l3 c3)/\Below N w W'/\W'.heap.size=W.heap.size/\∀k,k≠R->W'.heap[k]?=W.heap[k]?:=by
 refine⟨_,rfl,?_,(((hb.setCell hR _).setCell hR _).setCell hR _).setCell hR _,by simp,λk hk=>?_⟩
 .rw[dO hr];exact setRow_heap _ _ _ _ _ _ hr
 .rw[Gd _ _ _ _ (by simpa using hk),Gd _ _ _ _ (by simpa using hk),Gd _ _ _ _ (by simpa using hk),Gd _ _ _ _ (by simpa using hk)]
theorem mn (P:Nat->Bool):∀n,∃k,k<=n/\(∀j,j<k->P j=true)/\(k<n->P k=false)
 |0=>⟨0,Gm _,λj hj=>absurd hj (Gr _),λh=>absurd h (Gr _)⟩
 |n+1=>by
  obtain⟨k,h1,h2,h3⟩:=mn P n;by_cases hk:k<n
  .exact⟨k,by omega,h2,λ_=>h3 hk⟩
  .have hkn:k=n:=by omega
   subst hkn;cases hp:P k with
   |false=>exact⟨k,by omega,h2,λ_=>hp⟩
   |true=>exact⟨k+1,by omega,λj hj=>by
     by_cases e:j=k
     .subst e;exact hp
     .exact h2 j (by omega),λh=>absurd h (Nat.lt_irrefl _)⟩
theorem wV {P:Nat->Bool}{n k k':Nat}(h1:k<=n)(h2:∀j,j<k->P j=true)(h3:k<n->P k=false)(g1:k'<=n)(g2:∀j,j<k'->P j=true)(g3:k'<n->P k'=false):k=k':=by
 rcases Nat.lt_trichotomy k k' with h|h|h
 .have a:=g2 k h;have b:=h3 (by omega);rw[a]at b;cases b
 .exact h
 .have a:=h2 k' h;have b:=g3 (by omega);rw[a]at b;cases b
theorem f7.no {f:Nat->Mv}{n:Nat}{name:ByteArray}{k:Int}(h:∀j,j<n->aX (f j).name name=false)(hk:f7 f n name k):k=-1:=by
 rcases hk with⟨h1,_⟩|⟨j,h1,h2,h3,_⟩
 .exact h1
 .rw[h j h2]at h3;cases h3
theorem f7.yes {f:Nat->Mv}{n:Nat}{name:ByteArray}{k:Int}{J:Nat}(hJ:J<n)(h1:aX (f J).name name=true)(h2:∀j,j<J->aX (f j).name name=false)(hk:f7 f n name k):k=J:=by
 rcases hk with⟨_,h⟩|⟨j,rfl,h3,h4,h5⟩
 .rw[h J hJ]at h1;cases h1
 .rcases Nat.lt_trichotomy j J with h|h|h
  .rw[h2 j h]at h4;cases h4
  .rw[h]
  .rw[h5 J h]at h1;cases h1
theorem CJ (f:Nat->Mv)(n:Nat)(name:ByteArray):(∃J,J<n/\aX (f J).name name=true/\∀j,j<J->aX (f j).name name=false)\/∀j,j<n->aX (f j).name name=false:=by
 obtain⟨k,h1,h2,h3⟩:=mn (λj=>!aX (f j).name name) n;simp only[Bool.not_eq_true',Bool.not_eq_false']at h2 h3;by_cases h:k<n
 .exact .inl ⟨k,h,h3 h,h2⟩
 .exact .inr λj hj=>h2 j (by omega)
theorem so {W:World}{base:Nat}{e:TypeId}{size:Nat}{v:Value}{n:Nat}{xs:List Value}{Y:Nat}{x0 x1:Int}{y u:Value}(h:W.ownsRow base e size v n xs)(hy:ar W Y x0 x1 y u)(hne:e≠32){B:Nat}(hB:v.ownBlock=some B):B≠Y:=λq=>by
 obtain⟨cs,h1⟩:=se h hB;subst q;unfold ar at hy;rw[h1]at hy;simp at hy;exact hne hy.2
theorem DB {w W:World}{N Y:Nat}{x0 x1:Int}{v u:Value}(h:ar W Y x0 x1 v u)(hb:Below N w W)(hY:N<=Y)(v':Value):∃W',W.setCell ⟨Y,2,none⟩ v'=W'/\ar W' Y x0 x1 v' u/\Below N w W'/\W'.heap.size=W.heap.size/\∀k,k≠Y->W'.heap[k]?=W.heap[k]?:=by
 refine⟨_,rfl,?_,hb.setCell hY _,by simp,λk hk=>Gd _ _ _ _ (by simpa using hk)⟩;have:=heap_setCell_same W Y 2 _ _ v' h;simpa[ar]using this
theorem Ca {w W:World}{N Y:Nat}{x0 x1:Int}{v u:Value}(h:ar W Y x0 x1 v u)(hb:Below N w W)(hY:N<=Y)(v':Value):∃W',W.setCell ⟨Y,3,none⟩ v'=W'/\ar W' Y x0 x1 v v'/\Below N w W'/\W'.heap.size=W.heap.size/\∀k,k≠Y->W'.heap[k]?=W.heap[k]?:=by
 refine⟨_,rfl,?_,hb.setCell hY _,by simp,λk hk=>Gd _ _ _ _ (by simpa using hk)⟩;have:=heap_setCell_same W Y 3 _ _ v' h;simpa[ar]using this
structure Ad (w:World)(now shift:Int)(ao:Option Addr)(n c:Nat)(bo:Option Addr)(d R X Bx cx Bi ci:Nat)(f:Nat->Mv)(t:Nat->Int)(W:World):Prop where
 below:Below w.heap.size w W
 bk:ar W w.heap.size now shift (.slice ao n c) (.slice bo n d)
 rs:ar W R 0 0 (.slice none 0 0) (.slice none 0 0)
 hR:w.heap.size<R
 x:ar W X now shift (.slice (some ⟨Bx,0,none⟩) n cx) (.slice (some ⟨Bi,0,none⟩) n ci)
 hX:R<X
 om:W.ownsRow (R+1) 36 6 (.slice (some ⟨Bx,0,none⟩) n cx) n (aG f n)
 oi:W.ownsRow (R+1) 3 1 (.slice (some ⟨Bi,0,none⟩) n ci) n (dR t n)
section
variable {w:World}{now shift:Int}{ao:Option Addr}{n c:Nat}{bo:Option Addr}{d R X Bx cx Bi ci:Nat}{f:Nat->Mv}{t:Nat->Int}{W W':World}
theorem Ad.grow (h:Ad w now shift ao n c bo d R X Bx cx Bi ci f t W)(b:Below W.heap.size W W'):Ad w now shift ao n c bo d R X Bx cx Bi ci f t W':=
 ⟨h.below.trans (b.mono h.below.size),h.bk.same (b.block _ h.bk.lt),h.rs.same (b.block _ h.rs.lt),h.hR,h.x.same (b.block _ h.x.lt),h.hX,bf h.om (λB hB=>b.block B (h.om.lt B hB).2),bf h.oi (λB hB=>b.block B (h.oi.lt B hB).2)⟩
theorem Ad.set (h:Ad w now shift ao n c bo d R X Bx cx Bi ci f t W){Y:Nat}{x0 x1:Int}{y u:Value}(hy:ar W Y x0 x1 y u)(hY:X<Y)(hb:Below w.heap.size w W')(e:∀k,k≠Y->W'.heap[k]?=W.heap[k]?):Ad w now shift ao n c bo d R X Bx cx Bi ci f t W':=by
 have h1:=h.hR;have h2:=h.hX;exact⟨hb,h.bk.same (e _ (by omega)),h.rs.same (e _ (by omega)),h.hR,h.x.same (e _ (by omega)),h.hX,bf h.om (λB hB=>e B (so h.om hy (by decide) hB)),bf h.oi (λB hB=>e B (so h.oi hy (by decide) hB))⟩
end
theorem Cb {m:Mv}(h:m.ok=true):m.Fits:=by
 have b:=Mv.ok_bd h;exact⟨by have:=BZ h;unfold maxLen;omega,wS (by omega),wS (by omega),wS (by omega),wS (by omega)⟩
theorem pm {now shift:Int}{f:Nat->Mv}{n m:Nat}{t:Nat->Int}(h:aV now shift f n t m=true):0<=now/\now<=10000:=by
 cases hb:dN now 0 10000 with
 |false=>rw[mg hb]at h;cases h
 |true=>unfold dN at hb;simpa using hb
theorem vG {now shift:Int}{f:Nat->Mv}{n m:Nat}{t:Nat->Int}(h:aV now shift f n t m=true):0<=shift/\shift<=6:=by
 cases hb:dN shift 0 6 with
 |false=>rw[jy hb]at h;cases h
 |true=>unfold dN at hb;simpa using hb
theorem mo {w:World}{b n k:Nat}{f:Nat->Mv}(h:ak w b 0 n f)(hk:k<=n):ak w b 0 k f:=λi hi=>h i (by omega)
end Go.Proofs.YtlmcblcijndipabGreatDoor
namespace Go.Proofs.YtlmcblcijndipabGreatDoor
open Go Go.RowKit
set_option linter.unusedVariables false
inductive Ap
 |no (c:Int)
 |yes (p:Nat) (T:Nat->Int)
noncomputable def mq (f:Nat->Mv)(n:Nat)(q:Mv):Nat:=Classical.choose (mn (λj=>aO (f j).name q.name) n)
theorem sw {f:Nat->Mv}{n k:Nat}{q:Mv}(h1:k<=n)(h2:∀j,j<k->aO (f j).name q.name=true)(h3:k<n->aO (f k).name q.name=false):mq f n q=k:=by
 obtain⟨g1,g2,g3⟩:=Classical.choose_spec (mn (λj=>aO (f j).name q.name) n);exact wV g1 g2 g3 h1 h2 h3
open Classical in
noncomputable def sx (f:Nat->Mv)(n:Nat)(now shift:Int)(q:Mv):Ap:=
 if q.ok=false\/¬q.prom<0 then .no 2 else if∃j,j<n/\aX (f j).name q.name=true then .no 3 else if¬n<6 then .no 4 else
  match eA (bz f (mq f n q) q) (n+1) now shift with
  |none=>.no 5
  |some T=>.yes (mq f n q) T
noncomputable def nj (f:Nat->Mv)(n:Nat)(now shift:Int)(q:Mv):Ap:=
 match sx f n now shift q with
 |.no c=>.no c
 |.yes p T=>if dz now shift (bz f p q) (n+1) T (n+1)=true then .yes p T else .no 6
section
variable {f:Nat->Mv}{n:Nat}{now shift:Int}{q:Mv}
theorem wX (h:q.ok=false\/¬q.prom<0):sx f n now shift q=.no 2:=by unfold sx;rw[if_pos h]
theorem CK (h1:q.ok=true)(h2:q.prom<0)(h3:∃j,j<n/\aX (f j).name q.name=true):sx f n now shift q=.no 3:=by unfold sx;rw[if_neg (by simp[h1];omega),if_pos h3]
theorem CL (h1:q.ok=true)(h2:q.prom<0)(h3:∀j,j<n->aX (f j).name q.name=false)(h4:¬n<6):sx f n now shift q=.no 4:=by unfold sx;rw[if_neg (by simp[h1];omega),if_neg (λ⟨j,hj,e⟩=>by rw[h3 j hj]at e;cases e),if_pos h4]
theorem Aw (h1:q.ok=true)(h2:q.prom<0)(h3:∀j,j<n->aX (f j).name q.name=false)(h4:n<6){K:Nat}(hK:mq f n q=K):sx f n now shift q=match eA (bz f K q) (n+1) now shift with|none=>.no 5|some T=>.yes K T:=by
 unfold sx;rw[if_neg (by simp[h1];omega),if_neg (λ⟨j,hj,e⟩=>by rw[h3 j hj]at e;cases e),if_neg (by omega),hK]
theorem mt {c:Int}(h:sx f n now shift q=.no c):nj f n now shift q=.no c:=by unfold nj;rw[h]
theorem CN {p:Nat}{T:Nat->Int}(h:sx f n now shift q=.yes p T)(hs:dz now shift (bz f p q) (n+1) T (n+1)=false):nj f n now shift q=.no 6:=by unfold nj;rw[h];simp[hs]
theorem CO {p:Nat}{T:Nat->Int}(h:sx f n now shift q=.yes p T)(hs:dz now shift (bz f p q) (n+1) T (n+1)=true):nj f n now shift q=.yes p T:=by unfold nj;rw[h];simp[hs]
theorem Ck {c:Int}(h:sx f n now shift q=.no c):1<c:=by
 unfold sx at h;split at h
 .cases h;decide
 split at h
 .cases h;decide
 split at h
 .cases h;decide
 split at h
 .cases h;decide
 .cases h
theorem El {c:Int}(h:nj f n now shift q=.no c):1<c:=by
 unfold nj at h;split at h
 .next e=>cases h;exact Ck e
 .split at h
  .cases h
  .cases h;decide
end
