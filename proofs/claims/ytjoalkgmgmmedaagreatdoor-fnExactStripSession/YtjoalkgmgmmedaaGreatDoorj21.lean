import Derived.Test.YtjoalkgmgmmedaaGreatDoorj13
set_option linter.unusedVariables false
set_option linter.defProp false
open Array renaming mem_append->ai
open Go renaming Value->ao,World->av,bytes->ay,cell_of_row->aB,TypeId->aI,maxLen->a0
open Go.Builtin renaming append_->ac,zeroCells->ax,lenOf->aL,firstCells->aN,append->aV
open Go.Result.ok renaming injEq->aa
open Go.Value renaming ownBlock->au,slice->aE
namespace Go.Proofs.YtjoalkgmgmmedaaGreatDoor
open RowKit
variable {B b n:Nat}{P:Program}{v:ao}{w w':av}
def cm (w:av)(b:Nat):Prop:=∃c e,w.heap[b]?=some (.cells c e (0,0))/\∀v∈c,(∃x,v=.bool x)\/(∃k x,v=.int k x)\/∃s,v=.string s
def mZ (v:ao):Prop:=(∃x,v=.bool x)\/(∃k x,v=.int k x)\/∃s,v=.string s
def yu (w:av)(v:ao):Prop:=∀B,v.ownBlock=some B->cm w B
def cm.same (h:cm w b)(e:w'.heap[b]?=w.heap[b]?):cm w' b:=by let⟨c,t,d,f⟩:=h;exact⟨c,t,e.trans d,f⟩
def cm.lt (h:cm w b):b<w:=by let⟨d,t,c,f⟩:=h;exact(afM.1 c).1
def cm.set {j}(h:cm w b)(c:mZ v):cm (w.setCell ⟨b,j,none⟩ v) b:=by
 let⟨d,t,f,k⟩:=h;refine⟨d.setIfInBounds j v,t,heap_setCell_same _ _ j _ _ v f,λu i=>?_⟩;rcases Array.mem_or_eq_of_mem_setIfInBounds i with h|h
 .grind
 rw[h];exact c
def Hx {z u}(h:u∈ax z n):u∈z:=by
 grind [ax,Nat.eq_zero_or_pos,Nat.mod_lt,Array.getElem_mem]
def sj base (t ty e:aI)(i:TypeInfo) z (size ay:Nat)(ht:P.underlying t=some (.slice e))(hi:P.info? e=some i)(hz:i.zero=some z)(KX:i.size=size)(hby:i.bytes=ay)(H7:z.cells.size=size)
  v n (xs:List ao)(bj:w.ownsRow base e size v n xs)(p9:yu w v)
  (a:Addr)(m c:Nat)(news:List ao)(hl:news.length=m*size)(gJ:∀j u,news[j]?=some u->w.cell? (a.add j)=some u)(h1:∀u∈news,u.oneCell')(hnp:∀u∈news,mZ u)(hzp:∀u∈z.cells,mZ u)
  (h63:n+m<=a0)(zl:(n+m)*ay<=140737488355328){v':ao}(hr:(ac #[t,t] ty #[v,.slice (some a) m c]).run P w=.ok v' w'):yu w' v':=by
 subst KX hby;have adJ:n+m<=9223372036854775807:=by simp only[a0]at h63;omega
 have fresh:∀(cs:Array ao) (k l:Nat),(∀u∈cs,mZ u)->yu (w.drew.alloc<|.cells cs e) (.slice w.heap.size k l):=λcs k l h B hB=>by
  simp only[au,Option.some.injEq]at hB;subst hB;exact⟨cs,e,heap_alloc_new w.drew _,h⟩
 rcases bj.2 with⟨rfl,rfl⟩|⟨g,cap,cur,rfl,Wy,hg,Uk,zn,hcs,Xe⟩
 .by_cases hm:m=0
  .subst hm;have hn:news=[]:=List.eq_nil_of_length_eq_zero ab;subst hn;have gh:(ac #[t,t] ty #[(),.slice (some a) 0 c]).run P w=.ok () w:=by
    simp[ac,run_underlying ht,sizeOf,typeInfo,hi,aL,aN,loadCells,loadCellsFrom]
   rw[gh]at hr;simp only[aa]at hr;obtain⟨rfl,rfl⟩:=hr;exact λB hB=>by cases hB
  .rw[run_append_nil (P:=P) w t ty e i z ht hi hz a m c news hl gJ ab ab (by have hb:=zl;simp only[Nat.zero_add]at hb;omega)]at hr;simp only[aa]at hr;obtain⟨rfl,rfl⟩:=hr;exact fresh _ _ _ λu hu=>(ai.1 hu).elim (λh=>hnp u Iv) λh=>hzp u<|Hx h
 let⟨cs0,e0,k1,k2⟩:=p9 g rfl;have PE:∀u∈cur,mZ u:=by
  rw[hg]at k1;simp at k1;obtain⟨rfl,_⟩:=k1;exact k2
 by_cases wG:n+m<=cap
 .have ju:n*i.size+news.length<=cur.size:=by rw[hl,hcs,<-Nat.add_mul];exact Nat.mul_le_mul_right _ wG
  rw[run_append_room (P:=P) w t ty e i ht hi g n cap cur hg a m c news hl gJ h1 wG ju]at hr;simp only[aa]at hr;obtain⟨rfl,rfl⟩:=hr;intro B hB;simp only[au,Option.some.injEq]at hB;subst hB;refine⟨_,e,setRow_heap w g cur _ e _ hg,λu hu=>?_⟩;have hu:u∈cur.toList.take (n*i.size)++news++cur.toList.drop (n*i.size+news.length):=by simpa using hu
  rcases agb.1 hu with hu|hu
  .exact(agb.1 hu).elim (λhu=>PE u<|by simpa using List.mem_of_mem_take hu) λhu=>hnp u hu
  .exact PE u (by simpa using List.mem_of_mem_drop hu)
 rw[run_append_grow (P:=P) w t ty e i z ht hi hz g n cap xs bj.1 (bj.cells (g:=g) rfl) a m c news hl gJ ab ab (growslice_fits ab zl)]at hr;simp only[aa]at hr;obtain⟨rfl,rfl⟩:=hr;refine fresh _ _ _ λu hu=>?_
 rcases ai.1 hu with h|h
 .rcases ai.1 h with h|h
  .have h:u∈xs:=by simpa using h
   rw[<-Xe]at h;exact PE u<|by simpa using List.mem_of_mem_take h
  .exact hnp u Iv
 .exact hzp u (Hx h)
section
variable {a:av}
structure ox B (w w':av):Prop where
 size:w.heap.size<=w'
 block:∀k,k<w.heap.size->k≠B->w'.heap[k]?=w.heap[k]?
def ox.refl B (w):ox B w w:=⟨afK _,λ_ _ _=>rfl⟩
def ox.trans {b c}(h:ox B a b)(k:ox B b c):ox B a c:=
 ⟨afN h.size k.size,λi f p=>(k.block i (afL f h.size) p).trans<|h.block i f p⟩
def ox.of (h:Below w w w'):ox B w w':=⟨h.size,λk c _=>h.block k c⟩
theorem ox.setCell (h:ox B a w) o v:ox B a (w.setCell ⟨B,o,none⟩ v):=
 ⟨by simpa using h.size,λk hk c=>(afD w _ v k gC).trans<|h.block k hk c⟩
def aC.but {g}(h:aC w b n g)(f:ox B w w')(j:b≠B):aC w' b n g:=by
 have k:=h.lt;let⟨⟨l,c,m⟩,o⟩:=h;have d:=(f.block b k j).trans c;refine⟨⟨l,d,m⟩,λi p=>?_⟩;rw[aB _ _ _ _ _ _ d,<-aB w _ _ _ _ _ c];exact o i p
end
section
variable {base size g cap:Nat}{e:aI}{xs:List ao}
def iT (h:w.ownsRow base e size (aE g n cap) n xs)(k:Below w w w'):w'.ownsRow base e size (aE g n cap) n xs:=by
 obtain⟨l,f|⟨i,c,d,f,m,j,o⟩⟩:=h
 .grind
 exact⟨l,.inr ⟨i,c,d,f,m,(k.block i (afM.1 j).1).trans j,o⟩⟩
def jP (c:base<=g)(h:w.heap[g]?=some (.cells #[] e (0,0))):w.ownsRow base e 1 (aE g 0 0) 0 []:=
 ⟨rfl,.inr ⟨g,0,#[],rfl,c,h,afK _,afP _,rfl,rfl⟩⟩
def kO (h:w.ownsRow base e size (aE g n cap) n xs):g<w/\n<=cap:=by
 obtain⟨i,d|⟨j,c,f,d,k,l,m⟩⟩:=h;all_goals grind
def addr_add (B o j):(⟨B,o,none⟩:Addr).add j=⟨B,o+j,none⟩:=by unfold Addr.add;split<;>simp_all
def fx {W:av}{c:Nat}{T}(h:W.heap[c]?=some (.cells #[v] T (0,0))):∀j u,[v][j]?=some u->W.cell? ((c:Addr).add j)=some u:=λj u d=>by
 match j,d with
 |0,d=>rw[addr_add,aB _ _ _ _ _ _ h];simpa using d
def mg {f}(h:w.ownsRow base e size v n xs)(j:f<=base):w.ownsRow f e size v n xs:=by
 obtain⟨i,c|⟨g,cap,d,c,k,l⟩⟩:=h
 .exact⟨i,.inl c⟩
 exact⟨i,.inr ⟨g,cap,d,c,afN j k,l⟩⟩
def dh (h:w.ownsRow base e size v n xs) r (f:v.ownBlock=some r):base<=r:=by
 obtain⟨i,c|⟨g,cap,d,c,j,k⟩⟩:=h;all_goals grind [au]
def iv (h:w.ownsRow base e size v (n+1) xs):∃B c,v=aE (some ⟨B,0,none⟩) (n+1) c:=by
 obtain⟨q,f|⟨g,cap,p,f,r,s⟩⟩:=h
 .omega
 grind
def dK {ops:Array Oper}{o:Oper}{a:Act}{K:Act->av->Prop}{Q:Exit->Act->av->Prop}{E:Prop}
  (hg:o.guard=none)(s x:Operand)(t:aI)(bF:o.op=Op.call {callee:=Callee.builtin aV,args:=#[s,x],argTypes:=#[t,t]})
  (e:aI)(i:TypeInfo) z (size ay:Nat)(h1:P.underlying t=some (.slice e))(h2:P.info? e=some i)(h3:i.zero=some z)(h4:i.size=size)(h5:i.bytes=ay)(h6:z.cells.size=size)(h7:0<size)
  base v n (Gz:List ao)(hs:a.eval s=v)(bj:w.ownsRow base e size v n Gz)
  (ad:Addr)(m c:Nat)(news:List ao)(hx:a.eval x=.slice (some ad) m c)(hn:news.length=m*size)(hc:∀j u,news[j]?=some u->w.cell? (ad.add j)=some u)(h1c:∀u∈news,u.oneCell')
  (b1:n+m<=a0)(b2:(n+m)*ay<=140737488355328)(hb:base<=w)
  (hK:∀v' w',w'.ownsRow base e size v' (n+m) (Gz++news)->w.grownBy w' v.ownBlock->K (a.put o.dst v') w'):
  if Region.wanted o (yielded ops a.tmps)then Oper.wp P o a w K Q else E:=by
 have hw:Region.wanted o (yielded ops a.tmps)=true:=lQ;rw[if_pos hw];let⟨v',w',fO,r1,r2,_⟩:=run_append_own (P:=P) w base t o.type e i z size ay h1 h2 h3 h4 h5 h6 h7 v n Gz bj ad m c news hn hc h1c b1 b2 hb;unfold Oper.wp;simp[execOp,bF,resolve,invoke,builtin,hs,hx,fO];exact hK v' w' r1 r2
end
def aap:Nat->Int->ByteArray->ByteArray
 |0,_,out=>out
 |n+1,k,out=>if 0<k then aap n (k/10) (strOfNums [48+k%10]++out)else out
def abt (k:Int):ByteArray:=if k<=0 then⟨#[109,48]⟩else⟨#[109]⟩++aap k.toNat k ⟨#[]⟩
