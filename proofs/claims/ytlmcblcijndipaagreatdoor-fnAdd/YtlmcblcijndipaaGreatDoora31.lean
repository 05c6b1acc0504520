import Derived.Test.YtlmcblcijndipaaGreatDoora30
import Derived.Test.YtlmcblcijndipaaGreatDoora24
set_option linter.defProp false
set_option linter.unusedVariables false
namespace Go.Proofs.YtlmcblcijndipaaGreatDoor
open RowKit
variable {B BB NX b hi k lo m n:Nat}{g:Nat->ByteArray}{t:Nat->Int}{f:Nat->Mv}{T:TypeId}{u v v':Value}{W W' w w':World}
section
variable {Cw oH:Nat}{s:Value}
structure abV (T:TypeId)(lo hi:Nat)(w w':World):Prop where
 size:w.heap.size<=w'
 block:∀k,k<w.heap.size->(k<lo\/hi<=k\/∃cs T',T'≠T/\w.heap[k]?=some (.cells cs T' (0,0)))->w'.heap[k]?=w.heap[k]?
 below:Below lo w w'
structure Mid (lo hi:Nat)(w w':World):Prop where
 size:w.heap.size<=w'
 block:∀k,k<w.heap.size->(k<lo\/hi<=k)->w'.heap[k]?=w.heap[k]?
 below:Below lo w w'
def To (w:World)(b n:Nat)(g:Nat->ByteArray):Prop:=∀i,i<n->w.cell? ⟨b,i,none⟩=some (.string<|g i)
def aaj (w:World)(lo hi:Nat)(v:Value)(n:Nat)(f:Nat->Mv):Prop:=
 (n=0/\∃a c,v=.slice a 0 c)\/∃B c cs,v=.slice (some ⟨B,0,none⟩) n c/\lo<=B/\B<hi/\hi<=w/\w.heap[B]?=some (.cells cs 31 (0,0))/\n*6<=cs.size/\aI w B 0 n f
def aai (w:World)(lo hi:Nat)(v:Value)(n:Nat)(g:Nat->Int):Prop:=
 (n=0/\∃a c,v=.slice a 0 c)\/∃B c cs,v=.slice (some ⟨B,0,none⟩) n c/\lo<=B/\B<hi/\hi<=w/\w.heap[B]?=some (.cells cs 3 (0,0))/\n<=cs.size/\aA w B 0 n g
def aal (w:World)(lo hi:Nat)(v:Value)(n:Nat)(g:Nat->ByteArray):Prop:=
 (n=0/\∃a c,v=.slice a 0 c)\/∃B c cs,v=.slice (some ⟨B,0,none⟩) n c/\lo<=B/\B<hi/\hi<=w/\w.heap[B]?=some (.cells cs 9 (0,0))/\n<=cs.size/\To w B n g
structure Bks (w:World)(lo hi:Nat)(v:Value)(n:Nat)(f:Nat->Mv)(u:Value)(m:Nat)(t:Nat->Int)(s:Value)(k:Nat)(g:Nat->ByteArray):Prop where
 mv:aaj w lo hi v n f
 tk:aai w lo hi u m t
 nm:aal w lo hi s k g
end
def abn (k:Int)(i:Nat):Mv:=⟨ZF<|k+i*6,(k+i*6+1)%3==0,k+i*6+1+1,k+i*6+1+1+1,k+i*6+1+1+1+1,k+i*6+1+1+1+1+1⟩
section
variable {N:Nat}
abbrev VZ (now shift:Int)(v u:Value):Value:=.agg #[now,shift,v,u]
end
section
variable {m:Mv}
def gH (f:Nat->Mv)(n:Nat):List Value:=(List.range n).flatMap λj=>(f j).cells.toList
def ju (f:Nat->Mv):∀n,(gH f n).length=n*6
 |0=>rfl
 |n+1=>by
  have:=ju f n;unfold gH at this⊢;rw[List.range_succ,List.flatMap_append,List.length_append,this];simp[Nat.add_mul]
def Ei (f:Nat->Mv)(n:Nat):gH f (n+1)=gH f n++(f n).cells.toList:=by
 unfold gH;rw[List.range_succ,List.flatMap_append];simp
def rO (f:Nat->Mv):∀n i k,i<n->k<6->(gH f n)[i*6+k]?=(f i).cells.toList[k]?
 |0,i,k,hi,_=>absurd hi (ac9 _)
 |n+1,i,k,hi,hk=>by
  rw[Ei];by_cases e:i=n
  .subst e;rw[adi (by rw[ju];omega),ju];congr 1;omega
  .rw[adh (by rw[ju];omega)];exact rO f n i k aa hk
def QU {base c:Nat}(h:w.ownsRow base T 6 (.slice B n c) n (gH f n)):aI w B 0 n f:=by
 intro i hi;have q:∀k,k<6->w.cell? ⟨B,0+i*6+k,none⟩=(f i).cells.toList[k]?:=λk hk=>by
  rw[Nat.zero_add,h.cellAt (i*6+k) aa];exact rO f n i k hi hk
 exact⟨q 0 aa,q 1 aa,q 2 aa,q 3 aa,q 4 aa,q 5 aa⟩
def bf (w:World)(b:Nat)(m:Mv):Prop:=w.heap[b]?=some (.cells #[m.name,m.aj,m.ap,m.aW,m.late,m.prom] 31 (0,0))
def bf.at_ (h:bf w b m):tH w b 0 m:=by
 constructor<;>(rw[cell_of_row _ _ _ _ _ _ h];rfl)
def bf.frozen (h:bf w b m)(j:Nat):w.frozen? ⟨b,j,none⟩=false:=frozen_of_row w _ j _ _ h
def IV:(Tz.prog.info? 31).map (λi=>(i.zero,i.size,i.bytes))=some (some<|.agg #[ByteArray.empty,false,(0:Int),(0:Int),(0:Int),(0:Int)],6,56):=bD
def Vk (m:Mv):∀u∈m.cells.toList,u.oneCell'=true:=λu hu=>by
 simp at hu;rcases hu with rfl|rfl|rfl|rfl|rfl|rfl<;>rfl
def stay (now:Int)(t:Nat->Int):Nat->List Nat
 |0=>[]
 |k+1=>if t k=now then stay now t k else stay now t k++[k]
def gone (now:Int)(t:Nat->Int):Nat->List Nat
 |0=>[]
 |k+1=>if t k=now then gone now t k++[k]else gone now t k
def E3 (now:Int)(t:Nat->Int):∀k,(stay now t k).length<=k
 |0=>ac5 _
 |k+1=>by have:=E3 now t k;simp only[stay];split<;>simp<;>omega
def S0 (f:Nat->Mv)(t:Nat->Int)(now:Int)(l:List Nat):List Value:=l.flatMap λi=>(de (f i) (t i)<|now+1).cells.toList
def S1 (t:Nat->Int)(l:List Nat):List Value:=l.map λi=>.int .i64<|t i
def IA (f:Nat->Mv)(l:List Nat):List Value:=l.map λi=>.string (f i).name
def nth (l:List Nat)(j:Nat):Nat:=l.getD j 0
end
section
variable {base size cap cap' RS:Nat}{e:TypeId}{xs:List Value}{now shift:Int}{a a':Option Addr}{l l2:List Nat}
def qp (h:w.ownsRow base e size v n xs)(hs:∀B,v.ownBlock=some B->w'.heap[B]?=w.heap[B]?):w'.ownsRow base e size v n xs:=by
 obtain⟨h1,h2|⟨g,c,cur,rfl,h3,h4,h5⟩⟩:=h
 .exact⟨h1,.inl h2⟩
 .exact⟨h1,.inr ⟨g,c,cur,rfl,h3,(hs g rfl).trans h4,h5⟩⟩
structure Nx (w:World)(BB RS NX base:Nat)(now shift:Int)(a:Option Addr)(n cap:Nat)(a':Option Addr)(m cap':Nat)(v u:Value)(f:Nat->Mv)(t:Nat->Int)(l l2:List Nat)(W:World):Prop where
 bb:FK W BB now shift a n cap a' m cap'
 nx:W.heap[NX]?=some (.cells #[.int .i64<|now+1,shift,v,u] 29 (0,0))
 rs:W.heap[RS]?=some (.cells #[(0:Int),(0:Int),(),()] 29 (0,0))
 ov:W.ownsRow base 31 6 v l.length (S0 f t now l)
 ou:W.ownsRow base 3 1 u l2.length (S1 t l2)
 size:base<=W
 below:Below w w W
 ord:w.heap.size<=BB/\w.heap.size<=RS/\w.heap.size<=NX/\BB<base/\RS<base/\NX<base/\BB≠NX/\RS≠NX
def ua (h:w.ownsRow base e size v n xs):∃a c,v=.slice a n c:=by
 obtain⟨h1,⟨rfl,rfl⟩|⟨g,c,cur,rfl,_⟩⟩:=h
 .exact⟨_,_,rfl⟩
 .exact⟨_,_,rfl⟩
end
section
variable {M b' o:Nat}{mm:Mv}{sl:Value}{tk nw:Int}
structure S8 (M:Nat)(mm:Mv)(BB:Nat)(sl:Value)(b' o:Nat)(tk:Int)(NX:Nat)(nw:Int)(W:World):Prop where
 c0:W.cell? M=some (.string mm.name)
 c1:W.cell? ⟨M,1,none⟩=some (.bool mm.aj)
 c2:W.cell? ⟨M,2,none⟩=some (.int .i64 mm.ap)
 c3:W.cell? ⟨M,3,none⟩=some (.int .i64 mm.aW)
 c4:W.cell? ⟨M,4,none⟩=some (.int .i64 mm.late)
 c5:W.cell? ⟨M,5,none⟩=some (.int .i64 mm.prom)
 s3:W.cell? ⟨BB,3,none⟩=some sl
 tk:W.cell? ⟨b',o,none⟩=some (.int .i64 tk)
 nw:W.cell? NX=some (.int .i64 nw)
end
