import Derived.Test.YtlmcblcijndipaaGreatDoorj21
import Derived.Test.YtlmcblcijndipaaGreatDoorj18
import Derived.Test.YtlmcblcijndipaaGreatDoorRows
import Derived.OpenShut
import Derived.ShutString
import Derived.ChangeOld
set_option linter.unusedVariables false
namespace Go.Proofs.YtlmcblcijndipaaGreatDoor
section
open RowKit
end
section
open ChangeShapes Deep RowKit WideShapes
section
variable {H:Type}{enc:TypeId×Value->H}{w:World}{base:Nat}{spare:Nat->Bool}{held:Bool}
end
end
section
open ChangeAt ChangeShapes RowKit WideShapes
variable {w:World}{a:Option Addr}{n cap:Nat}{H:Type}{p:List MemPlace}
theorem own:ownKnob Tryz.prog.godebug=none:=bR
theorem Gj:laidOutB Tryz.prog=true:=bR
def aa2 (w:World)(a:Option Addr)(n cap:Nat)(f:Nat->Mv):Prop:=
 n<=maxLen/\(n=0\/∃b off,a=some ⟨b,off,none⟩/\b<w.heap.size/\aM w b off n f)/\∀i,i<n->(f i).Fits
end
section
open RowKit
variable {w w':World}{b n:Nat}
end
section
open RowKit
variable {T:TypeId}{lo hi n m k AF ox:Nat}{w w':World}{g:Nat->ByteArray}{v u s v':Value}{f:Nat->Mv}{t:Nat->Int}
structure abf (T:TypeId)(lo hi:Nat)(w w':World):Prop where
 size:w.heap.size<=w'
 block:∀k,k<w.heap.size->(k<lo\/hi<=k\/∃cs T',T'≠T/\w.heap[k]?=some (.cells cs T' (0,0)))->w'.heap[k]?=w.heap[k]?
 below:Below lo w w'
structure Mid (lo hi:Nat)(w w':World):Prop where
 size:w.heap.size<=w'
 block:∀k,k<w.heap.size->(k<lo\/hi<=k)->w'.heap[k]?=w.heap[k]?
 below:Below lo w w'
def Ry (w:World)(b n:Nat)(g:Nat->ByteArray):Prop:=∀i,i<n->w.cell? ⟨b,i,none⟩=some (.string (g i))
def ZY (w:World)(lo hi:Nat)(v:Value)(n:Nat)(f:Nat->Mv):Prop:=
 (n=0/\∃a c,v=.slice a 0 c)\/∃B c cs,v=.slice (some ⟨B,0,none⟩) n c/\lo<=B/\B<hi/\hi<=w/\w.heap[B]?=some (.cells cs 31 (0,0))/\n*6<=cs.size/\aM w B 0 n f
def ZX (w:World)(lo hi:Nat)(v:Value)(n:Nat)(g:Nat->Int):Prop:=
 (n=0/\∃a c,v=.slice a 0 c)\/∃B c cs,v=.slice (some ⟨B,0,none⟩) n c/\lo<=B/\B<hi/\hi<=w/\w.heap[B]?=some (.cells cs 3 (0,0))/\n<=cs.size/\aB w B 0 n g
def Z0 (w:World)(lo hi:Nat)(v:Value)(n:Nat)(g:Nat->ByteArray):Prop:=
 (n=0/\∃a c,v=.slice a 0 c)\/∃B c cs,v=.slice (some ⟨B,0,none⟩) n c/\lo<=B/\B<hi/\hi<=w/\w.heap[B]?=some (.cells cs 9 (0,0))/\n<=cs.size/\Ry w B n g
structure Bks (w:World)(lo hi:Nat)(v:Value)(n:Nat)(f:Nat->Mv)(u:Value)(m:Nat)(t:Nat->Int)(s:Value)(k:Nat)(g:Nat->ByteArray):Prop where
 mv:ZY w lo hi v n f
 tk:ZX w lo hi u m t
 nm:Z0 w lo hi s k g
end
section
open RowKit
variable {w:World}{B n lo hi:Nat}{f:Nat->Mv}{T:TypeId}
def aaJ (k:Int)(i:Nat):Mv:=⟨XL (k+i*6),(k+i*6+1)%3==0,k+i*6+1+1,k+i*6+1+1+1,k+i*6+1+1+1+1,k+i*6+1+1+1+1+1⟩
end
section
open RowKit
variable {w:World}{b n k lo hi:Nat}{g:Nat->ByteArray}{v:Value}
end
section
open RowKit
variable {w:World}{lo hi n:Nat}{v:Value}
end
section
open RowKit
variable {w w':World}{lo hi n N m:Nat}{v u:Value}{f:Nat->Mv}{T:TypeId}{t:Nat->Int}
abbrev N6 (now shift:Int)(v u:Value):Value:=.agg #[now,shift,v,u]
end
section
open ChangeAt ChangeShapes RowKit WideShapes
end
