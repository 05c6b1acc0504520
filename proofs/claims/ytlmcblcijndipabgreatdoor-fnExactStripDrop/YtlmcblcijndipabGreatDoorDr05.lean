import Derived.Below
namespace Go.Proofs.YtlmcblcijndipabGreatDoor
open Go.RowKit
def ag (w:World)(b off n:Nat)(g:Nat->Int):Prop:=∀i,i<n->w.cell? ⟨b,off+i,none⟩=some (.int .i64 (g i))
def bI (w:World)(a:Option Addr)(n:Nat)(g:Nat->Int):Prop:=n=0\/∃b off,a=some ⟨b,off,none⟩/\ag w b off n g
structure TryV where
 ok:Bool
 sum:Int
 most:Int
 a:Option Addr
 n:Nat
 cap:Nat
 g:Nat->Int
def TryV.val (x:TryV):Value:=.agg #[.bool x.ok,.int .i64 x.sum,.int .i64 x.most,.slice x.a x.n x.cap]
def noTry:TryV:=⟨false,0,0,none,0,0,λ_=>0⟩
def TryV.cells (x:TryV):List Value:=[.bool x.ok,.int .i64 x.sum,.int .i64 x.most,.slice x.a x.n x.cap]
end Go.Proofs.YtlmcblcijndipabGreatDoor
