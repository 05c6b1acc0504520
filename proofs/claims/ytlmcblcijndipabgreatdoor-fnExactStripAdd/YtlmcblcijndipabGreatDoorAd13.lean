import Derived.Test.YtlmcblcijndipabGreatDoorAd00
import Derived.Test.YtlmcblcijndipabGreatDoorChecked
import Derived.Conc.WgGenN3
namespace Go.Proofs.YtlmcblcijndipabGreatDoor
section
open Go.RowKit
def al (w:World)(b off n:Nat)(g:Nat->Int):Prop:=∀i,i<n->w.cell? ⟨b,off+i,none⟩=some (.int .i64 (g i))
def bH (w:World)(a:Option Addr)(n:Nat)(g:Nat->Int):Prop:=n=0\/∃b off,a=some ⟨b,off,none⟩/\al w b off n g
structure TryV where
 ok:Bool
 sum:Int
 most:Int
 a:Option Addr
 n:Nat
 cap:Nat
 g:Nat->Int
def TryV.val (x:TryV):Value:=.agg #[.bool x.ok,.int .i64 x.sum,.int .i64 x.most,.slice x.a x.n x.cap]
def noTry:TryV:=⟨false,0,0,none,0,0,λ_=>0⟩
def TryV.cells (x:TryV):List Value:=[.bool x.ok,.int .i64 x.sum,.int .i64 x.most,.slice x.a x.n x.cap]
end
section
open Go Go.Conc.Lib
abbrev link:WgLink:={add:=198,done:=200,wait:=202,relMerge:=213,disable:=214,enable:=215,inBubble:=216,associate:=217,fatal:=218,uOr:=219,uAdd:=220,raceRead:=221,uLoad:=222,uStore:=223,disassociate:=224,semrelease:=225,acquire:=228,isAssociated:=229,uCas:=230,raceWrite:=231,semacquire:=232,orU64:=240,addU64:=241,loadU64:=242,storeU64:=243,casU64:=246,tWgP:=272,tUP:=145,tAssoc:=274,tWg:=255,tAU:=253,tU64:=206,tUint:=194,tU32:=220,tPU32:=278,tPAU:=294,tPU64:=296,tNoCopy:=251,tANoCopy:=247,tAlign64:=248}
theorem qe:WgLib Tryz.prog link:=
 ⟨Tryz.func198,Tryz.func200,Tryz.func202,Tryz.func213,Tryz.func214,Tryz.func215,Tryz.func216,Tryz.func217,Tryz.func218,Tryz.func219,Tryz.func220,Tryz.func221,Tryz.func222,Tryz.func223,Tryz.func224,Tryz.func225,Tryz.func228,Tryz.func229,Tryz.func230,Tryz.func231,Tryz.func232,Tryz.func240,Tryz.func241,Tryz.func242,Tryz.func243,Tryz.func246,Tryz.underlying272,Tryz.runUnderlying272,Tryz.sizeOf272,Tryz.isAgg272,Tryz.zeroValue272,Tryz.underlying145,Tryz.runUnderlying145,Tryz.sizeOf145,Tryz.isAgg145,Tryz.zeroValue145,Tryz.underlying274,Tryz.runUnderlying274,Tryz.sizeOf274,Tryz.isAgg274,Tryz.zeroValue274,Tryz.underlying255,Tryz.runUnderlying255,Tryz.sizeOf255,Tryz.isAgg255,Tryz.zeroValue255,Tryz.underlying253,Tryz.runUnderlying253,Tryz.sizeOf253,Tryz.isAgg253,Tryz.zeroValue253,Tryz.underlying206,Tryz.runUnderlying206,Tryz.sizeOf206,Tryz.isAgg206,Tryz.zeroValue206,Tryz.underlying194,Tryz.runUnderlying194,Tryz.sizeOf194,Tryz.isAgg194,Tryz.zeroValue194,Tryz.underlying220,Tryz.runUnderlying220,Tryz.sizeOf220,Tryz.isAgg220,Tryz.zeroValue220,Tryz.underlying278,Tryz.runUnderlying278,Tryz.sizeOf278,Tryz.isAgg278,Tryz.zeroValue278,Tryz.underlying294,Tryz.runUnderlying294,Tryz.sizeOf294,Tryz.isAgg294,Tryz.zeroValue294,Tryz.underlying296,Tryz.runUnderlying296,Tryz.sizeOf296,Tryz.isAgg296,Tryz.zeroValue296,Tryz.underlying0,Tryz.runUnderlying0,Tryz.sizeOf0,Tryz.isAgg0,Tryz.zeroValue0,Tryz.underlying3,Tryz.runUnderlying3,Tryz.sizeOf3,Tryz.isAgg3,Tryz.zeroValue3,Tryz.underlying4,Tryz.runUnderlying4,Tryz.sizeOf4,Tryz.isAgg4,Tryz.zeroValue4,Tryz.underlying9,Tryz.runUnderlying9,Tryz.sizeOf9,Tryz.isAgg9,Tryz.zeroValue9,Tryz.underlying20,Tryz.runUnderlying20,Tryz.sizeOf20,Tryz.isAgg20,Tryz.zeroValue20,Tryz.underlying21,Tryz.runUnderlying21,Tryz.sizeOf21,Tryz.isAgg21,Tryz.zeroValue21,(by kernel_rfl),(by kernel_rfl)⟩
end
