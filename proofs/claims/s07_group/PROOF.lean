import PyProof.Rows.All
import Wide.All
import OpenK.AllK
import Wide.FinOn
import PyProof.EqAt
import PyProof.EqKinds
import PyProof.TupleCall
import KE.BitLaws
import Open.SpecLaws
import KE.OsHead
import KE.OsGo
import KE.KDictList
import Open.Line
import Open.Tree
import Open.Boot
import PySem.Challenge.RW_brickrooms_s07_group
set_option Elab.async false
set_option linter.all false
set_option maxRecDepth 1000000
set_option maxHeartbeats 8000000
namespace L2
open PySem PySem.Spec PyProof.Rows
def eM (s:Stmt) (j:Nat):Stmt:=match s with
 |.ClassDef _ _ _ body _ _ _ _ _ _ _=>body.getD j (.Pass ⟨0,0,0,0⟩)
 |_=>.Pass ⟨0,0,0,0⟩
def eN (s:Stmt):Arguments:=match s with
 |.FunctionDef _ a _ _ _ _ _ _ _ _=>a
 |_=>{posonlyargs:=[],args:=[],vararg:=none,kwonlyargs:=[],kw_defaults:=[],kwarg:=none,defaults:=[]}
def dO (s:Stmt):List Stmt:=match s with
 |.FunctionDef _ _ b _ _ _ _ _ _ _=>b
 |_=>[]
def aH (s:Stmt):Scope:=match s with
 |.FunctionDef _ _ _ _ _ _ sc _ _ _=>sc
 |_=>{kind:=.function,names:=[],isGenerator:=false,isCoroutine:=false}
abbrev Av:List Value:=[.type "Exception",.type "BaseException",.type "object"]
end L2
namespace Br1
open PySem PySem.Spec PyProof.Rows L2
def gX (i:Nat):Stmt:=PySem.Challenge.pw_brickrooms_s07_group.main.body.getD i (.Pass ⟨0,0,0,0⟩)
abbrev nW:Stmt:=gX 3
abbrev pP:Stmt:=gX 4
abbrev pF:Stmt:=eM (gX 2) 0
abbrev Tu:Stmt:=eM (gX 5) 0
abbrev Aq:Stmt:=eM (gX 5) 1
abbrev Jg:Stmt:=eM (gX 5) 2
abbrev Kk:Stmt:=eM (gX 5) 3
abbrev Ai:Stmt:=eM (gX 5) 4
abbrev Ja:Stmt:=eM (gX 5) 5
abbrev Iu:Stmt:=eM (gX 5) 6
abbrev uH:Stmt:=eM (gX 5) 7
abbrev Vj:Stmt:=eM (gX 5) 8
abbrev Ar:Stmt:=eM (gX 18) 0
abbrev qL:Stmt:=gX 19
abbrev pL:Stmt:=gX 20
abbrev Bk:Stmt:=gX 21
abbrev Bv:Stmt:=gX 22
abbrev qY:Stmt:=gX 23
abbrev mY:Stmt:=gX 24
abbrev lL:Stmt:=gX 25
def cG:List Int:=[46,35,115,116,98]
abbrev kH:Stmt:=gX 26
abbrev lA:Stmt:=gX 27
abbrev Aj:Stmt:=gX 28
abbrev Ad:Stmt:=gX 29
abbrev uM:Stmt:=gX 30
abbrev Ac:Stmt:=gX 31
abbrev Ae:Stmt:=gX 32
abbrev Iv:Stmt:=gX 33
abbrev kR:Stmt:=gX 51
abbrev nJ:Stmt:=gX 52
abbrev uA:Stmt:=gX 53
abbrev qA:Stmt:=gX 54
abbrev uK:Stmt:=eM (gX 49) 0
abbrev uD:Stmt:=eM (gX 64) 0
abbrev iP:Stmt:=gX 65
abbrev mS:Stmt:=gX 66
abbrev Df:=Arguments×List Stmt×Scope
def Vz (st:Stmt):Df:=(eN st,dO st,aH st)
def fnD (K:PySem.W.Frag) (f:Addr) (x qual:Str):Option Df:=match K.lookup f with
 |some ⟨_,_,.func ⟨nm,q,pa,.stmts b,sc,gl,[],.none,_,_,_,_,cd,_,bl⟩,_⟩=>if (nm==x && (q==qual && (gl==mainGlobals && (bl==builtinsNs && (PySem.W.codeIn K cd qual && PySem.W.keepIn K (.ref f))))))=true then some (pa,b,sc) else none
 |_=>none
def dN (K:PySem.W.Frag) (x:Str):Addr:=match PySem.W.nsIn K mainGlobals x with
 |some (some (.ref a))=>a
 |_=>0
inductive Ft
 |no (x:Str)
 |int (x:Str) (n:Int)
 |fn (x:Str) (st:Stmt)
 |cl (x:Str)
 |at (c f:Str)
 |mt (c m q:Str) (st:Stmt)
 |ints (x:Str) (l:List Int)
 |exc (x q:Str) (st:Stmt)
def Xa:Value->Option Int
 |.int n _=>some n
 |_=>none
def Zc (K:PySem.W.Frag) (C:Addr):Option Addr:=match K.lookup C with
 |some ⟨c,_,.cls ⟨_,_,mro,N,_,hd,_,_,_,_,hdel⟩,sl⟩=>(match sl.toList with
  |[_,_,_,_,some (.builtin b),_]=>if (c==.type "type" && (mro==.ref C::Av && (hd && (!hdel && (b=="Exception.__new__" && (PySem.W.nsOkIn K N && (PySem.W.nsIn K N "fault"==some none && (PySem.W.nsIn K N "__setattr__"==some none && (PySem.W.nsIn K N "__getattribute__"==some none && (PySem.W.nsIn K N "__getattr__"==some none && PySem.W.keepIn K (.ref C)))))))))))=true then
    (match PySem.W.nsIn K N "__init__" with
    |some (some (.ref f))=>if PySem.W.isFn K (.ref f)=true then some f else none
    |_=>none) else none
  |_=>none)
 |_=>none
def Ft.D (K:PySem.W.Frag):Ft->Bool×Option Df
 |.no x=>(PySem.W.nsIn K mainGlobals x==some none,none)
 |.int x n=>(match PySem.W.nsIn K mainGlobals x with
  |some (some (.int m _))=>m==n
  |_=>false,none)
 |.fn x _=>match PySem.W.nsIn K mainGlobals x with
  |some (some (.ref f))=>(true,fnD K f x x)
  |_=>(false,none)
 |.cl x=>(PySem.W.nsIn K mainGlobals x==some (some (.ref (dN K x))) && (PySem.W.plainGet K (dN K x) Str.empty && (PySem.W.hasDictIn K (dN K x) && (PySem.W.plainOver K (dN K x) && (PySem.W.findIn K (.ref (dN K x)) "__setattr__"==some (some (.builtin "object.__setattr__")) &&
   (PySem.W.makesIn K (dN K x) && PySem.W.keepIn K (.ref (dN K x))))))),none)
 |.at c f=>(PySem.W.findIn K (.ref (dN K c)) f==some none,none)
 |.mt c m q _=>match PySem.W.findIn K (.ref (dN K c)) m with
  |some (some (.ref f))=>(PySem.W.isFn K (.ref f),fnD K f m q)
  |_=>(false,none)
 |.ints x l=>(match PySem.W.nsIn K mainGlobals x with
  |some (some (.ref a))=>(match K.lookup a with
   |some ⟨c,_,.seq its _,_⟩=>c==.type "tuple" && (its.toList.map Xa==l.map some && decide (l.length<=100))
   |_=>false)
  |_=>false,none)
 |.exc x q _=>match Zc K (dN K x) with
  |some f=>(PySem.W.nsIn K mainGlobals x==some (some (.ref (dN K x))),fnD K f "__init__" q)
  |none=>(false,none)
def Ft.X:Ft->Bool×Option Df
 |.fn _ st=>(true,some (Vz st))
 |.mt _ _ _ st=>(true,some (Vz st))
 |.exc _ _ st=>(true,some (Vz st))
 |_=>(true,none)
def frH (as:List Addr) (h:Heap):PySem.W.Frag:=as.filterMap fun a=>(h.get? a).map fun o=>(a,o)
def ftC:List Ft:=[.cl "Reader",.at "Reader" "text",.at "Reader" "position",.cl "Part",.at "Part" "name",.at "Part" "width",.at "Part" "depth",.at "Part" "height",.at "Part" "weight",.at "Part" "cells",.cl "Build",.at "Build" "name",.at "Build" "lines",.cl "Given",.at "Given" "refusal",.at "Given" "fault",.at "Given" "parts",.at "Given" "build",.at "Given" "room",.ints "SIGNS" cG,.exc "Stuck" "Stuck.__init__" pF,.fn "is_letter" nW,.no "ord",.fn "is_digit" pP,.mt "Reader" "__init__" "Reader.__init__" Tu,.mt "Reader" "ended" "Reader.ended" Aq,.no "len",.int "NO_BYTE" 256,.mt "Reader" "here" "Reader.here" Jg,.mt "Reader" "take" "Reader.take" Kk,.mt "Reader" "read_one_of" "Reader.read_one_of" Ai,.mt "Reader" "read_word" "Reader.read_word" Ja,.mt "Reader" "read_name" "Reader.read_name" Iu,.no "tuple",.mt "Reader" "read_number" "Reader.read_number" uH,.mt "Reader" "read_end" "Reader.read_end" Vj,.mt "Part" "__init__" "Part.__init__" Ar,.mt "Build" "__init__" "Build.__init__" uK,.mt "Given" "__init__" "Given.__init__" uD,.fn "has_stud" qL,.int "STUD" 115,.int "BOTH" 98,.fn "has_tube" pL,.int "TUBE" 116,.fn "above" Bk,.fn "below" Bv,.fn "read_cells" lL,.no "range",.int "NO_CELL" 46,.fn "read_part" mY,.int "LONGEST_PART_NAME" 8,.int "MOST_WIDTH" 16,.int "MOST_DEPTH" 16,.int "MOST_HEIGHT" 18,.int "MOST_WEIGHT" 9999,.fn "read_catalogue" qY,.int "MOST_PARTS" 64,.fn "studs_clear" Aj,.fn "tubes_clear" Ad,.fn "fills_its_box" uM,.no "enumerate",.fn "neighbours" Ae,.fn "hangs_together" Ac,.no "list",.fn "names_grow" Iv,.fn "part_right" lA,.fn "catalogue_right" kH,.no "all",.fn "some_begins" qA,.no "any",.fn "read_part_number" uA,.fn "read_line" nJ,.int "MOST_COLOUR" 255,.int "ROOM_WIDTH" 64,.int "ROOM_DEPTH" 64,.int "ROOM_HEIGHT" 96,.int "MOST_TURNS" 3,.fn "read_build" kR,.int "LONGEST_BUILD_NAME" 16,.int "MOST_LINES" 256,.fn "names_of" mS,.fn "read_given" iP,.int "MOST_CATALOGUE_BYTES" 1048576,.int "MOST_BUILD_BYTES" 16384]
abbrev uC:Stmt:=gX 35
abbrev Jk:Stmt:=gX 36
abbrev uJ:Stmt:=gX 34
abbrev tZ:Stmt:=gX 58
abbrev uE:Stmt:=gX 57
abbrev Ju:Stmt:=gX 59
abbrev Bi:Stmt:=eM (gX 50) 0
abbrev qC:Stmt:=gX 60
abbrev pJ:Stmt:=gX 56
abbrev Js:Stmt:=gX 55
abbrev lG:Stmt:=gX 67
def ftR:List Ft:=[.cl "Room",.at "Room" "signs",.at "Room" "owners",.at "Room" "wrong",.mt "Room" "__init__" "Room.__init__" Bi,.fn "turned_once" Jk,.fn "turned_part" uC,.no "range",.fn "turned_sizes" uJ,.fn "beyond_room" tZ,.int "ROOM_WIDTH" 64,.int "ROOM_DEPTH" 64,.int "ROOM_HEIGHT" 96,.fn "leaves_room" uE,.fn "cells_in_room" Ju,.fn "blocked_lines" qC,.fn "wrong_with" pJ,.no "len",.no "min",.fn "fill_room" Js,.no "enumerate",.fn "read_right" lG]
abbrev jS:Stmt:=gX 38
abbrev wB:Stmt:=gX 40
abbrev nO:Stmt:=gX 39
abbrev kX:Stmt:=gX 68
end Br1
namespace Br1
open PySem PySem.W
def tY (tb:String->Option Builtin) (p:Program) (w:World) (n₀:Nat) (ann:Option Value):Nat->SharedT->Thread->Option SharedT
 |0,_,_=>none
 |n+1,s,t=>match through t with
  |true=>some s
  |false=>match stepOk n₀ ann t with
   |false=>none
   |true=>match stepT (denote tb) p w s t with
    |some (s',t')=>tY tb p w n₀ ann n s' t'
    |none=>none
theorem sZ {tb:String->Option Builtin} {p:Program} {w:World} {n₀:Nat} {ann:Option Value}:∀ {n:Nat} {s s':SharedT} {t:Thread},tY tb p w n₀ ann n s t=some s'->topRun tb p w n₀ ann n s.abs t=some s'.abs
 |0,_,_,_,h=>by cases h
 |n+1,s,s',t,h=>by
  unfold tY at h
  unfold topRun
  cases he:through t with
  |true=>
   rw [he] at h
   cases h
   rfl
  |false=>
   rw [he] at h
   cases hk:stepOk n₀ ann t with
   |false=>
    rw [hk] at h
    cases h
   |true=>
    rw [hk] at h
    cases hs:stepT (denote tb) p w s t with
    |none=>
     rw [hs] at h
     cases h
    |some r=>
     obtain ⟨s₂,t₂⟩:=r
     rw [hs] at h
     dsimp only
     rw [stepT_spec hs]
     exact sZ h
def Ci:Nat->List Obj->BT->BT
 |_,[],t=>t
 |n,o::r,t=>Ci (n+1) r (t.ins n o)
noncomputable def aB0 (P:Params):BT:=Ci 0 (boot_heap P).objs.toList .nil
noncomputable def Wn (P:Params) (os:OsState):SharedT:=⟨aB0 P,11,(boot_heap P).life,Array.mk [],boot_drawn,boot_toks,os⟩
theorem Qq (P:Params) (os:OsState):(Wn P os).abs=⟨boot_heap P,Array.mk [],boot_drawn,boot_toks,os⟩:=by kernel_rfl
theorem Me {p q:Program} {loose:List Str} {Xt:Shared->Bool} {α:Type} {Yf:Shared->α} {Ya:World->α} {N:Nat} {g0:Bool} (e:opening p=plainProg p.main.scope.names) (hN:Nat.ble 600 N=true) (f:∀ s,fenceModules? p s=some s)
  (h1:∀ w:World,((boot_heap w.params).isNs mainGlobals && (Array.mk ([]:List GenState)).size==0)=true)
  (h:∀ (w:World) (os:OsState),(tY treeTable p w (boot_heap w.params).objs.size ((boot_heap w.params).nsMap mainGlobals "__annotations__") N (Wn w.params os) (topStub p)).map (fun s=>
   (staticsOk (importedModules p.main.body) (boot_heap w.params) s.abs.heap && namesBound p s.abs.heap && gensDone s.abs && laidKept (boot_heap w.params) s.abs.heap,openSeen q loose (importedModules p.main.body) Xt g0 s.abs,Yf s.abs))=some (true,openGood q loose,Ya w)):LeftO p q loose Xt Yf Ya N g0:=fun w=>by
 obtain ⟨⟨h0,gs,d,k,os⟩,e0,e'⟩:=Option.map_eq_some_iff.mp (boot_open e hN f w)
 obtain ⟨rfl,rfl,rfl,rfl⟩:h0=boot_heap w.params/\gs=Array.mk []/\d=boot_drawn/\k=boot_toks:=by simpa using e'
 obtain ⟨s',e1,e2⟩:=Option.map_eq_some_iff.mp (h w os)
 have e3:=sZ e1
 rw [Qq] at e3
 obtain ⟨a1,a2⟩:=Prod.mk.inj e2
 unfold openEnds
 rw [e0]
 show (topFrom treeTable p w N _).map _=_
 have e4:topFrom treeTable p w N ⟨boot_heap w.params,Array.mk [],boot_drawn,boot_toks,os⟩=some s'.abs:=by
  unfold topFrom
  rw [show ((⟨boot_heap w.params,Array.mk [],boot_drawn,boot_toks,os⟩:Shared).heap.isNs mainGlobals && (⟨boot_heap w.params,Array.mk [],boot_drawn,boot_toks,os⟩:Shared).gens.size==0)=true from h1 w]
  dsimp only
  rw [e3]
  dsimp only [Option.bind]
  rw [a1]
 rw [e4]
 exact congrArg some a2
end Br1
namespace Br1
open PySem PySem.Spec PyProof.Rows L2
def ftZ:List Ft:=ftC++(ftR++([.no "len",.no "range",.fn "clutches" jS,.fn "mark_group" wB,.fn "least_of_groups" nO,.fn "group" kX]))
def asC:List Addr:=[3,31,30,28,27,41,40,48,47,121,120,62,61,69,68,76,75,83,82,90,89,97,96,104,103,111,110,118,117,126,143,142,140,139,154,153,161,160,168,167,175,174,182,181,189,188,196,195,201,200,208,207,215,214,222,221,227,226,234,233,241,240,248,247,255,254,262,261,269,268,276,275,281,280,288,287,305,304,302,301,326,325,323,322,337,336,344,343,351,350,356,355,363,362,368,367,375,374,382,381,389,388,396,395,413,412,410,409,424,423,429,428,436,435,443,442]
def Qb:List Str:=[.ofString "NO_BYTE",.ofString "Stuck",.ofString "is_letter",.ofString "is_digit",.ofString "Reader",.ofString "MOST_PARTS",.ofString "LONGEST_PART_NAME",.ofString "MOST_WIDTH",.ofString "MOST_DEPTH",.ofString "MOST_HEIGHT",.ofString "MOST_WEIGHT",.ofString "NO_CELL",.ofString "STUD",.ofString "TUBE",.ofString "BOTH",.ofString "SIGNS",.ofString "Part",.ofString "has_stud",.ofString "has_tube",.ofString "above",.ofString "below",.ofString "read_catalogue",.ofString "read_part",.ofString "read_cells",.ofString "catalogue_right",.ofString "part_right",.ofString "studs_clear",.ofString "tubes_clear",.ofString "fills_its_box",.ofString "hangs_together",.ofString "neighbours",.ofString "names_grow",.ofString "turned_sizes",.ofString "turned_part",.ofString "turned_once",.ofString "clutches",.ofString "least_of_groups",.ofString "mark_group",.ofString "ROOM_WIDTH",.ofString "ROOM_DEPTH",.ofString "ROOM_HEIGHT",.ofString "LONGEST_BUILD_NAME",.ofString "MOST_LINES",.ofString "MOST_COLOUR",.ofString "MOST_TURNS",.ofString "Build",.ofString "Room",.ofString "read_build",.ofString "read_line",.ofString "read_part_number",.ofString "some_begins",.ofString "fill_room",.ofString "wrong_with",.ofString "leaves_room",.ofString "beyond_room",.ofString "cells_in_room",.ofString "blocked_lines",.ofString "MOST_CATALOGUE_BYTES",.ofString "MOST_BUILD_BYTES",.ofString "Given",.ofString "read_given",.ofString "names_of",.ofString "read_right"]
def vwC:Program:=PySem.W.view PySem.Challenge.pw_brickrooms_s07_group [68]
theorem aBw:PySem.W.LeftO PySem.Challenge.pw_brickrooms_s07_group vwC Qb (fun _=>true) (fun s=>ftZ.map (Ft.D (frH asC s.heap))) (fun _=>ftZ.map Ft.X) 6114:=by
 refine Me ?a ?b ?c ?d ?e
 case a=>kernel_rfl
 case b=>decide
 case c=>intro s;kernel_rfl
 case d=>intro w;kernel_rfl
 case e=>intro w os;kernel_rfl
end Br1
namespace L2
open PySem PySem.Spec PyProof.Rows
abbrev dR:=Sum Int Str
def sO:dR->Value->Bool
 |.inl k,v=>Value.isInt k v
 |.inr x,v=>Value.isStrOf x v
def aDa (w:World):dR->Int
 |.inl k=>hashInt k
 |.inr x=>hashStr w x
theorem dF:∀ {k:dR} {v:Value},sO k v=true->(∃ i t,k=Sum.inl i/\v=Value.int i t)\/(∃ x t,k=Sum.inr x/\v=Value.str x t)
 |.inl i,v,h=>by
  obtain ⟨t,e⟩:=Value.isInt_shape (k:=i) (v:=v) h
  exact .inl ⟨i,t,rfl,e⟩
 |.inr x,v,h=>by
  obtain ⟨t,e⟩:=Value.isStrOf_shape (x:=x) (v:=v) h
  exact .inr ⟨x,t,rfl,e⟩
theorem Le (i:Int) (t:Tok):sO (.inl i) (.int i t)=true:=by simp [sO,Value.isInt]
theorem Mb (x:Str) (t:Tok):sO (.inr x) (.str x t)=true:=by simp [sO,Value.isStrOf]
theorem Zx (a b:Int):decide ((Sum.inl a:dR)=Sum.inl b)=(a==b):=by
 by_cases e:a=b
 ·subst e;simp
 ·have h:¬(Sum.inl a:dR)=Sum.inl b:=fun q=>e (Sum.inl.inj q)
  rw [decide_eq_false h]
  exact (beq_eq_false_iff_ne.mpr e).symm
theorem Yd (a b:Str):decide ((Sum.inr a:dR)=Sum.inr b)=decide (a=b):=by
 by_cases e:a=b
 ·subst e;simp
 ·have h:¬(Sum.inr a:dR)=Sum.inr b:=fun q=>e (Sum.inr.inj q)
  rw [decide_eq_false h,decide_eq_false e]
theorem Xf (a:Int) (b:Str):decide ((Sum.inl a:dR)=Sum.inr b)=false:=decide_eq_false (fun q=>nomatch q)
theorem Zh (a:Str) (b:Int):decide ((Sum.inr a:dR)=Sum.inl b)=false:=decide_eq_false (fun q=>nomatch q)
def dU (prog:Program) (w:World):PySem.KeyKind prog w dR where
 is:=sO
 hash:=aDa w
 inj:=fun v a b ha hb=>by
  rcases dF ha with ⟨i,t,rfl,rfl⟩|⟨x,t,rfl,rfl⟩
  ·rcases dF hb with ⟨j,u,rfl,e⟩|⟨y,u,rfl,e⟩
   ·injection e with e1 _;rw [e1]
   ·exact nomatch e
  ·rcases dF hb with ⟨j,u,rfl,e⟩|⟨y,u,rfl,e⟩
   ·exact nomatch e
   ·injection e with e1 _;rw [e1]
 byValue:=fun k v h=>by
  rcases dF h with ⟨i,t,rfl,rfl⟩|⟨x,t,rfl,rfl⟩<;>rfl
 pyHash:=fun hv h=>by
  rcases dF hv with ⟨i,t,rfl,rfl⟩|⟨x,t,rfl,rfl⟩
  ·exact wpAny_pyHash_int h
  ·exact wpAny_pyHash_str h
 eqBool:=fun hu hv h=>by
  rcases dF hu with ⟨i,t,rfl,rfl⟩|⟨x,t,rfl,rfl⟩
  ·rcases dF hv with ⟨j,u,rfl,rfl⟩|⟨y,u,rfl,rfl⟩
   ·rw [Zx] at h;exact wpAny_eqBool_int h
   ·rw [Xf] at h;exact SeqAt.EqAt.int_str i t y u _ _ _ _ h
  ·rcases dF hv with ⟨j,u,rfl,rfl⟩|⟨y,u,rfl,rfl⟩
   ·rw [Zh] at h;exact SeqAt.EqAt.str_int x t j u _ _ _ _ h
   ·rw [Yd] at h;exact wpAny_eqBool_str h
 «strs»:=fun k x t v h=>by
  rcases dF h with ⟨i,u,rfl,e⟩|⟨y,u,rfl,e⟩
  ·exact nomatch e
  ·injection e with e1 _
   subst e1
   cases v<;>rfl
theorem Db (prog:Program) (w:World) (i:Int) (t:Tok):(dU prog w).is (.inl i) (.int i t)=true:=Le i t
theorem Fg (prog:Program) (w:World) (x:Str) (t:Tok):(dU prog w).is (.inr x) (.str x t)=true:=Mb x t
inductive V where
 |non|bl (b:Bool)|int (i:Int)|str (x:Str)|byt (b:Array UInt8)|flt (b:UInt64)|ref (a:Addr)|ty (n:String)
 deriving DecidableEq
def bQ:V->Value->Prop
 |.non,u=>u=Value.none
 |.bl b,u=>u=Value.bool b
 |.int i,u=>∃ t,u=Value.int i t
 |.str x,u=>∃ t,u=Value.str x t
 |.byt b,u=>∃ t,u=Value.bytes b t
 |.flt b,u=>∃ t,u=Value.float b t
 |.ref a,u=>u=Value.ref a
 |.ty n,u=>u=Value.type n
abbrev aZ:List V->List Value->Prop:=Paired bQ
theorem aZ.length {xs:List V} {us:List Value} (r:aZ xs us):xs.length=us.length:=Paired.length r
theorem aZ.get:∀ {xs:List V} {us:List Value} {i:Nat} {x:V},aZ xs us->xs[i]?=some x->∃ u,us[i]?=some u/\bQ x u
 |_,_,_,_,.nil,e=>by simp at e
 |_,_,0,_,.cons r _,e=>by simp at e;subst e;exact ⟨_,rfl,r⟩
 |_,_,i+1,x,.cons _ t,e=>by
  obtain ⟨u,h1,h2⟩:=aZ.get (i:=i) (x:=x) t (by simpa using e)
  exact ⟨u,by simpa using h1,h2⟩
theorem aZ.set {x:V} {u:Value} (r:bQ x u):∀ {xs:List V} {us:List Value} (i:Nat),aZ xs us->aZ (xs.set i x) (us.set i u)
 |_,_,_,.nil=>.nil
 |_,_,0,.cons _ t=>.cons r t
 |_,_,i+1,.cons q t=>.cons q (aZ.set r i t)
theorem aZ.append:∀ {xs ys:List V} {us ws:List Value},aZ xs us->aZ ys ws->aZ (xs++ys) (us++ws)
 |_,_,_,_,.nil,s=>s
 |_,_,_,_,.cons r t,s=>.cons r (aZ.append t s)
theorem aZ.take:∀ {xs:List V} {us:List Value} (n:Nat),aZ xs us->aZ (xs.take n) (us.take n)
 |_,_,0,_=>.nil
 |_,_,_+1,.nil=>.nil
 |_,_,n+1,.cons r t=>.cons r (aZ.take n t)
theorem aZ.drop:∀ {xs:List V} {us:List Value} (n:Nat),aZ xs us->aZ (xs.drop n) (us.drop n)
 |_,_,0,r=>r
 |_,_,_+1,.nil=>.nil
 |_,_,n+1,.cons _ t=>aZ.drop n t
def jK:Option V->Option Value->Prop
 |some v,some u=>bQ v u
 |none,none=>True
 |_,_=>False
def KV {κ:Type}:List (κ×V)->List (κ×Value)->Prop:=Paired fun (p:κ×V) (q:κ×Value)=>p.1=q.1/\bQ p.2 q.2
def kV:dR->V
 |.inl i=>.int i
 |.inr x=>.str x
inductive HO where
  |lst (xs:List V)
  |tup (xs:List V)
  |dK (aI:List (dR×V))|dT (aI:List (List dR×V))
  |set (S:Int->Bool) (n:Nat)
  |ins (C dx:Addr) (fs:List (Str×V))
  |own (x:Addr)
  |xd (fs:List (Str×V))
  |met (f x:Addr)
  |rng (lo hi:Int)
  |frz (o:Obj) (u:HO)
  |tbl (ps:Array Value)
  |ext (φ:Heap->Prop)
abbrev Hp:=Addr->Option HO
def upd (H:Hp) (a:Addr) (o:HO):Hp:=fun b=>if b=a then some o else H b
theorem aC {H:Hp} {a:Addr} {o:HO}:upd H a o a=some o:=by unfold upd;rw [if_pos rfl]
theorem aB {H:Hp} {a b:Addr} {o:HO} (h:b≠a):upd H a o b=H b:=by unfold upd;rw [if_neg h]
theorem Wg {H:Hp} {a b:Addr} {o u:HO} (h:H a=some o) (h':H b=some u) (d:o≠u):a≠b:=by
 intro e;subst e;rw [h] at h';exact d (Option.some.inj h')
theorem aD {H:Hp} {a b:Addr} {o:HO} (h:H a=some o) (h':H b=none):a≠b:=by
 intro e;subst e;rw [h] at h';cases h'
section
variable (P:Program) (w:World)
def cE (H:Hp) (h:Heap) (a:Addr):HO->Prop
 |.lst xs=>xs.length<=sizeLine/\∃ (its:List Value) (n:Nat),aZ xs its/\h.get? a=some {cls:=.type "list",data:=.seq its.toArray n}
 |.tup xs=>xs.length<=sizeLine/\∃ its:List Value,aZ xs its/\IsTup h a its.toArray
 |.dK aI=>aI.length<=sizeLine/\(a==sysModules)=false/\∃ vs,KV aI vs/\h.DictOf (dU P w) a vs
 |.dT aI=>aI.length<=sizeLine/\(a==sysModules)=false/\∃ xs:List (List dR×Addr×Value),
   Paired (fun (p:List dR×V) (q:List dR×Addr×Value)=>p.1=q.1/\H q.2.1=some (.tup (p.1.map kV))/\bQ p.2 q.2.2) aI xs/\
   ∃ o es ep,h.get? a=some o/\o.ExactDict/\o.data=.dict es ep/\es.toList=xs.map (entryOfKey (tupleKind (dU P w)))/\(xs.map (·.1)).Nodup
 |.set S n=>h.SetOf (intKind P w) a S n
 |.ins C dx fs=>H dx=some (.own a)/\fs.length<=1000/\dx≠a/\h.get? a=some (PySem.W.instObj C dx)/\
   ∃ mA,h.Ns1 dx mA/\(∀ f,jK (fs.lookup f) (mA f))/\PySem.Within mA (fs.map (·.1))
 |.own _=>∃ o,h.get? a=some o
 |.xd fs=>∃ mA,h.Ns1 a mA/\∀ f,jK (fs.lookup f) (mA f)
 |.rng lo hi=>∃ t u v,h.get? a=some {cls:=.type "range",data:=.fields #[.int lo t,.int hi u,.int 1 v]}
 |.frz o u=>h.get? a=some o/\cE H h a u
 |.tbl ps=>h.get? a=some {cls:=.none,data:=.fields ps}
 |.met f x=>h.get? a=some (PySem.W.methodObj (.ref f) (.ref x))
 |.ext φ=>φ h/\(∃ o,h.get? a=some o)/\∀ h1 h2:Heap,φ h1->(∀ o,h1.get? a=some o->h2.get? a=some o)->φ h2
def kK (H:Hp) (h:Heap):Prop:=∀ a o,H a=some o->cE P w H h a o
end
section
variable {P:Program} {w:World} {H H':Hp} {h h':Heap} {a:Addr} {o:HO}
theorem cE.lt (x:cE P w H h a o):a<h.objs.size:=by
 cases o with
 |lst xs=>obtain ⟨_,_,_,_,e⟩:=x;exact Heap.lt_size e
 |tup xs=>obtain ⟨_,_,_,p⟩:=x;exact p.lt
 |dK aI=>obtain ⟨_,_,_,_,o,_,_,e,_⟩:=x;exact Heap.lt_size e
 |dT aI=>obtain ⟨_,_,_,_,o,_,_,e,_⟩:=x;exact Heap.lt_size e
 |set S n=>obtain ⟨o,_,_,_,e,_⟩:=x;exact Heap.lt_size e
 |ins C dx fs=>obtain ⟨_,_,_,e,_⟩:=x;exact Heap.lt_size e
 |own y=>obtain ⟨_,e⟩:=x;exact Heap.lt_size e
 |xd fs=>obtain ⟨_,⟨_,_,_,e,_⟩,_⟩:=x;exact Heap.lt_size e
 |rng lo hi=>obtain ⟨_,_,_,e⟩:=x;exact Heap.lt_size e
 |frz ob u=>obtain ⟨e,_⟩:=x;exact Heap.lt_size e
 |tbl ps=>exact Heap.lt_size (show h.get? a=some _ from x)
 |met f y=>exact Heap.lt_size (show h.get? a=some _ from x)
 |ext φ=>obtain ⟨_,⟨_,e⟩,_⟩:=x;exact Heap.lt_size e
theorem Paired.mapP {α β:Type} {F G:α->β->Prop}:∀ {l₁:List α} {l₂:List β},Paired F l₁ l₂->(∀ a b,F a b->G a b)->Paired G l₁ l₂
 |_,_,.nil,_=>.nil
 |_,_,.cons r t,f=>.cons (f _ _ r) (Paired.mapP t f)
theorem cE.stay (x:cE P w H h a o) (k:∀ b u,(b=a\/H b=some (.own a))->h.get? b=some u->h'.get? b=some u)
  (ho:∀ b,H b=some (.own a)->H' b=some (.own a)) (ht:∀ b xs,H b=some (.tup xs)->H' b=some (.tup xs)):cE P w H' h' a o:=by
 induction o with
 |lst xs=>obtain ⟨z,its,n,r,e⟩:=x;exact ⟨z,its,n,r,k _ _ (.inl rfl) e⟩
 |tup xs=>obtain ⟨z,its,r,ob,e,c⟩:=x;exact ⟨z,its,r,ob,k _ _ (.inl rfl) e,c⟩
 |dK aI=>obtain ⟨z,y,vs,r,ob,es,ep,e,c⟩:=x;exact ⟨z,y,vs,r,ob,es,ep,k _ _ (.inl rfl) e,c⟩
 |dT aI=>
  obtain ⟨z,y,xs,r,ob,es,ep,e,c⟩:=x
  exact ⟨z,y,xs,Paired.mapP r fun p q z=>⟨z.1,ht _ _ z.2.1,z.2.2⟩,ob,es,ep,k _ _ (.inl rfl) e,c⟩
 |set S n=>obtain ⟨ob,es,ep,t,e,c⟩:=x;exact ⟨ob,es,ep,t,k _ _ (.inl rfl) e,c⟩
 |ins C dx fs=>
  obtain ⟨d,z,ne,e,mA,⟨od,es,ep,e2,c⟩,r⟩:=x
  exact ⟨ho _ d,z,ne,k _ _ (.inl rfl) e,mA,⟨od,es,ep,k _ _ (.inr d) e2,c⟩,r⟩
 |own y=>obtain ⟨ob,e⟩:=x;exact ⟨ob,k _ _ (.inl rfl) e⟩
 |xd fs=>obtain ⟨mA,⟨od,es,ep,e,c⟩,r⟩:=x;exact ⟨mA,⟨od,es,ep,k _ _ (.inl rfl) e,c⟩,r⟩
 |rng lo hi=>obtain ⟨t,u,v,e⟩:=x;exact ⟨t,u,v,k _ _ (.inl rfl) e⟩
 |frz ob u ih=>obtain ⟨e,q⟩:=x;exact ⟨k _ _ (.inl rfl) e,ih q⟩
 |tbl ps=>
  have e:h.get? a=some {cls:=.none,data:=.fields ps}:=x
  show h'.get? a=some {cls:=.none,data:=.fields ps}
  exact k a _ (.inl rfl) e
 |met f y=>
  have e:h.get? a=some (PySem.W.methodObj (.ref f) (.ref y)):=x
  show h'.get? a=some (PySem.W.methodObj (.ref f) (.ref y))
  exact k a _ (.inl rfl) e
 |ext φ=>obtain ⟨p,⟨o,e⟩,st⟩:=x;exact ⟨st _ _ p fun o q=>k _ _ (.inl rfl) q,⟨o,k _ _ (.inl rfl) e⟩,st⟩
theorem kK.lt (x:kK P w H h) (e:H a=some o):a<h.objs.size:=(x a o e).lt
theorem kK.fresh (x:kK P w H h) (e:h.objs.size<=a):H a=none:=by
 cases q:H a with
 |none=>rfl
 |some u=>exact absurd (Nat.lt_of_lt_of_le (x.lt q) e) (Nat.lt_irrefl _)
theorem kK.kept (x:kK P w H h) (k:∀ b u,h.get? b=some u->h'.get? b=some u):kK P w H h':=fun a o e=>
 (x a o e).stay (fun b u _ q=>k b u q) (fun _ q=>q) fun _ _ q=>q
theorem kK.laid (x:kK P w H h) (k:∀ b u,h.get? b=some u->h'.get? b=some u) (hp:h.objs.size<=a) (new:cE P w (upd H a o) h' a o):kK P w (upd H a o) h':=fun b u e=>by
 have hn:=x.fresh hp
 by_cases hb:b=a
 ·subst hb;rw [aC] at e;cases e;exact new
 ·rw [aB hb] at e
  exact (x b u e).stay (fun c v _ q=>k c v q) (fun c q=>by rw [aB (aD q hn)];exact q) fun c xs q=>by rw [aB (aD q hn)];exact q
end
def Rd (H:Hp) (a:Addr) (u:HO):Prop:=H a=some u\/∃ o,H a=some (.frz o u)
theorem Rd.ok {P:Program} {w:World} {H:Hp} {h:Heap} {a:Addr} {u:HO} (r:Rd H a u) (x:kK P w H h):cE P w H h a u:=by
 rcases r with r|⟨o,r⟩
 ·exact x a u r
 ·obtain ⟨_,q⟩:=x a _ r
  exact q
def Wq:Option HO->Prop
 |some (.lst _)=>True
 |some (.dK _)=>True
 |some (.dT _)=>True
 |some (.set _ _)=>True
 |some (.ins _ _ _)=>True
 |some (.ext _)=>True
 |_=>False
section
variable {P:Program} {w:World} {H:Hp} {h h':Heap} {x e:Addr} {o':HO}
theorem kK.write (ok:kK P w H h) (mu:Wq (H x)) (he:e=x\/H e=some (.own x)) (k:∀ b u,b≠e->h.get? b=some u->h'.get? b=some u) (heo:∃ u,h'.get? e=some u)
  (new:cE P w (upd H x o') h' x o'):kK P w (upd H x o') h':=fun b u q=>by
 have nown:∀ c y,H c=some (.own y)->c≠x:=fun c y r z=>by subst z;rw [r] at mu;exact mu
 have ntup:∀ c xs,H c=some (.tup xs)->c≠x:=fun c xs r z=>by subst z;rw [r] at mu;exact mu
 by_cases hb:b=x
 ·subst hb;rw [aC] at q;cases q;exact new
 ·rw [aB hb] at q
  by_cases hbe:b=e
  ·have q':H b=some (.own x):=by
    rcases he with z|z
    ·exact absurd (hbe.trans z) hb
    ·rw [hbe];exact z
   rw [q] at q';cases q'
   obtain ⟨v,hv⟩:=heo
   exact ⟨v,by rw [hbe];exact hv⟩
  ·refine (ok b u q).stay (fun c v hc r=>k c v ?_ r) (fun c r=>by rw [aB (nown c b r)];exact r) fun c xs r=>by rw [aB (ntup c xs r)];exact r
   rcases hc with rfl|hc
   ·exact hbe
   ·rintro rfl
    rcases he with z|z
    ·exact nown c b hc z
    ·rw [hc] at z;cases z;exact hb rfl
end
structure Un (fs ex:List Addr) (H H':Hp) (h h':Heap):Prop where
 keep:∀ b o,h.get? b=some o->H b=none->b∉fs->b∉ex->h'.get? b=some o
 slot:∀ b o,h.get? b=some o->H b=none->b∈fs->b∉ex->∃ sl,h'.get? b=some {o with slots:=sl}
 free:∀ b o,h.get? b=some o->H b=none->b∉ex->H' b=none
 there:∀ b o,h.get? b=some o->b∉ex->∃ o',h'.get? b=some o'
 tups:∀ b xs,H b=some (.tup xs)->H' b=some (.tup xs)
 frzs:∀ b o u,H b=some (.frz o u)->H' b=some (.frz o u)
 tbls:∀ b ps,H b=some (.tbl ps)->∃ more,H' b=some (.tbl (ps++more))
section
variable {fs fs' ex ex':List Addr} {H H1 H2:Hp} {h h1 h2 h':Heap} {a x e:Addr} {o:HO}
theorem Un.any (u:Un fs ex H H1 h h1) {b:Addr} {ob:Obj} (q:h.get? b=some ob) (n:H b=none) (hx:b∉ex):∃ sl,h1.get? b=some {ob with slots:=sl}:=by
 by_cases hb:b∈fs
 ·exact u.slot b ob q n hb hx
 ·exact ⟨ob.slots,u.keep b ob q n hb hx⟩
theorem Un.kept (k:∀ b u,h.get? b=some u->h'.get? b=some u):Un fs ex H H h h':=
 ⟨fun b ob q _ _ _=>k b ob q,fun b ob q _ _ _=>⟨ob.slots,k b ob q⟩,fun _ _ _ n _=>n,fun b ob q _=>⟨ob,k b ob q⟩,fun _ _ q=>q,fun _ _ _ q=>q,fun _ ps q=>⟨#[],by rw [q];simp⟩⟩
theorem Un.refl:Un fs ex H H h h:=Un.kept fun _ _ q=>q
theorem Un.laid (k:∀ b u,h.get? b=some u->h'.get? b=some u) (hp:h.objs.size<=a) (hn:H a=none):Un fs ex H (upd H a o) h h' where
 keep:=fun b u q _ _ _=>k b u q
 slot:=fun b u q _ _ _=>⟨u.slots,k b u q⟩
 free:=fun b u q n _=>by rw [aB (Nat.ne_of_lt (Nat.lt_of_lt_of_le (Heap.lt_size q) hp))];exact n
 there:=fun b u q _=>⟨u,k b u q⟩
 tups:=fun b xs q=>by rw [aB (aD q hn)];exact q
 frzs:=fun b u xs q=>by rw [aB (aD q hn)];exact q
 tbls:=fun b ps q=>⟨#[],by rw [aB (aD q hn),q];simp⟩
theorem Un.write (mu:Wq (H x)) (he:e=x\/H e=some (.own x)) (k:∀ b u,b≠e->h.get? b=some u->h'.get? b=some u) (heo:∃ u,h'.get? e=some u):Un fs ex H (upd H x o) h h':=by
 have hx:∀ b,H b=none->b≠x:=fun b n z=>by subst z;rw [n] at mu;exact mu
 have hb:∀ b,H b=none->b≠e:=fun b n z=>by
  subst z
  rcases he with r|r
  ·exact hx b n r
  ·rw [n] at r;cases r
 have hm:∀ b u,H b=some u->¬Wq (some u)->b≠x:=fun b u q nm z=>by subst z;rw [q] at mu;exact nm mu
 refine ⟨fun b u q n _ _=>k b u (hb b n) q,fun b u q n _ _=>⟨u.slots,k b u (hb b n) q⟩,fun b u q n _=>by rw [aB (hx b n)];exact n,fun b u q _=>?_,
  fun b xs q=>by rw [aB (hm b _ q fun z=>z)];exact q,fun b u xs q=>by rw [aB (hm b _ q fun z=>z)];exact q,fun b ps q=>⟨#[],by rw [aB (hm b _ q fun z=>z),q];simp⟩⟩
 by_cases hbe:b=e
 ·subst hbe;exact heo
 ·exact ⟨u,k b u hbe q⟩
end
def trk (h:Heap) (H:Hp):List Addr:=(List.range h.objs.size).filter fun a=>(H a).isSome
def Bg (h:Heap) (H:Hp):Heap:=PySem.W.hideAll h (trk h H)
theorem Ms (h:Heap) (H:Hp):(Bg h H).objs.size=h.objs.size:=PySem.W.hideAll_size _ _
theorem Rl {h:Heap} {H:Hp} {b:Addr} {o:Obj} (e:h.get? b=some o) (n:H b=none):(Bg h H).get? b=some o:=
 PySem.W.hideAll_get _ e fun hm=>by
  have q:(H b).isSome=true:=(List.mem_filter.mp hm).2
  rw [n] at q;simp at q
theorem Ur {h:Heap} {H:Hp} {b:Addr} {o:Obj} (e:(Bg h H).get? b=some o):h.get? b=some o/\H b=none:=by
 have e':h.get? b=some o:=PySem.W.of_hideAll (trk h H) e
 refine ⟨e',?_⟩
 cases q:H b with
 |none=>rfl
 |some x=>
  have hm:b∈trk h H:=List.mem_filter.mpr ⟨List.mem_range.mpr (Heap.lt_size e'),by simp [q]⟩
  have z:(Bg h H).get? b=none:=PySem.W.hideAll_none (trk h H) hm
  rw [z] at e;cases e
structure Mod (K:PySem.W.Frag) (mg:Str->Option Value) (base:Heap):Prop where
 kin:K.In base
 glob:base.Ns mainGlobals mg
 blt:∃ mb,base.Ns builtinsNs mb/\∀ x:Str,x≠"__name__"->mb x=bootBuiltins x
 nolimit:base.NoLimit
structure Cx where
 prog:Program
 w:World
 K:PySem.W.Frag
 mg:Str->Option Value
 base:Heap
 A:Around
 N:List Str
 s_0:Shared
 H_0:Hp
 env:Env
 outer:List Env
 stack:List Env
 ex:List Addr
 fn:Str->Bool
 calm:Bool
 pn:List (Addr×Obj)
 xe:Value->Shared->Prop
def yA (l:List Env):List Addr:=l.filterMap (·.frame)
abbrev Cx.fs (X:Cx):List Addr:=yA X.outer
def Vis (sc:Scope) (x:Str):Prop:=sc.names.lookup x=some .local\/sc.names.lookup x=some .cell\/sc.names.lookup x=some .free
def Loc (sc:Scope) (x:Str):Prop:=sc.names.lookup x=some .local\/sc.names.lookup x=some .cell
def aCu (env:Env) (h:Heap) (m:Str->Option Value) (x:Str) (u:Value):Prop:=
 (env.kindOf x=some .local/\m x=some u)\/((env.kindOf x=some .cell\/env.kindOf x=some .free)/\∃ c,env.cells.lookup x=some c/\h.IsCell c (some u))
structure Cx.Ok (X:Cx):Prop where
 mod:Mod X.K X.mg X.base
 kind:X.env.scope.kind=.function
 glob:X.env.globals=mainGlobals
 blt:X.env.builtins=builtinsNs
 above:X.s_0.heap.objs.size<=X.env.locals
 inj:∀ x y c,X.env.cells.lookup x=some c->X.env.cells.lookup y=some c->x=y
 has:∀ x,(X.env.kindOf x=some .cell\/X.env.kindOf x=some .free)->∃ c,X.env.cells.lookup x=some c
 cab:∀ x c,X.fn x=true->X.env.cells.lookup x=some c->X.s_0.heap.objs.size<=c
 hd:X.calm=true->X.A.handled=none
 frames:X.A.frames=some X.stack
 stk:X.stack=X.outer\/(X.stack=X.env::X.outer/\X.env.frame=some X.env.locals)
 exf:∀ b∈X.ex,b≠X.env.locals/\∀ x c,X.env.cells.lookup x=some c->c≠b
 bs:∀ b o,X.base.get? b=some o->X.s_0.heap.get? b=some o/\X.H_0 b=none
 bsz:X.base.objs.size<=X.s_0.heap.objs.size
 noex:∀ b o,X.base.get? b=some o->b∉X.ex
 exfs:∀ b∈X.ex,b∉X.fs
 funs:X.s_0.heap.FunFrames X.base X.outer
 frf:∀ b∈X.fs,X.H_0 b=none
structure aO (X:Cx) (pins:List (Addr×Obj)) (σ:List (Option V)) (H:Hp) (s:Shared):Prop where
 ok:X.Ok
 os:s.os=X.s_0.os
 bare:AllBare s.gens
 base:Un X.fs X.ex X.H_0 H X.s_0.heap s.heap
 loc:∃ m,s.heap.Ns X.env.locals m/\∀ (i:Nat) (x:Str) (v:V),X.N[i]?=some x->σ[i]?=some (some v)->Vis X.env.scope x->∃ u,bQ v u/\aCu X.env s.heap m x u
 cell:∀ x c,X.env.cells.lookup x=some c->∃ v,s.heap.IsCell c v
 free:H X.env.locals=none
 freeC:∀ x c,X.env.cells.lookup x=some c->H c=none
 pin:∀ p∈X.pn++pins,s.heap.get? p.1=some p.2/\H p.1=none/\p.1≠X.env.locals/\p.1∉X.fs/\∀ v,p.2.data≠.cell v
 hok:kK X.prog X.w H s.heap
 len:σ.length=X.N.length
section
variable {X:Cx} {pins:List (Addr×Obj)} {σ:List (Option V)} {H H':Hp} {s:Shared} {h':Heap}
theorem Cx.Ok.nofr (ok:X.Ok) {b:Addr} {o:Obj} (e:X.base.get? b=some o):b∉X.fs:=fun hb=>by
 have:=(ok.funs.mem hb).1
 rw [e] at this;cases this
theorem aO.bs (I:aO X pins σ H s):∀ b o,X.base.get? b=some o->s.heap.get? b=some o/\H b=none:=fun b o e=>
 ⟨I.base.keep b o (I.ok.bs b o e).1 (I.ok.bs b o e).2 (I.ok.nofr e) (I.ok.noex b o e),I.base.free b o (I.ok.bs b o e).1 (I.ok.bs b o e).2 (I.ok.noex b o e)⟩
theorem aO.bk (I:aO X pins σ H s):∀ b o,X.base.get? b=some o->s.heap.get? b=some o:=fun b o e=>(I.bs b o e).1
theorem aO.mod (I:aO X pins σ H s):Mod X.K X.mg X.base:=I.ok.mod
theorem aO.kIn (I:aO X pins σ H s):X.K.In s.heap:=I.ok.mod.kin.keeps I.bk
theorem aO.lt (I:aO X pins σ H s):X.env.locals<s.heap.objs.size:=let ⟨_,hn,_⟩:=I.loc;hn.lt
theorem aO.sz (I:aO X pins σ H s):X.s_0.heap.objs.size<=s.heap.objs.size:=Nat.le_trans I.ok.above (Nat.le_of_lt I.lt)
theorem aO.nofs (I:aO X pins σ H s) {a:Addr} (h:s.heap.objs.size<=a):a∉X.fs:=fun hb=>by
 obtain ⟨_,o,ho,_⟩:=I.ok.funs.mem hb
 exact absurd (Nat.lt_of_lt_of_le (Heap.lt_size ho) (Nat.le_trans I.sz h)) (Nat.lt_irrefl _)
theorem aO.cne (I:aO X pins σ H s):∀ x c,X.env.cells.lookup x=some c->c≠X.env.locals:=fun x c e z=>by
 obtain ⟨v,o,ho,hd⟩:=I.cell x c e
 obtain ⟨m,⟨o',es,ep,ho',hd',_⟩,_⟩:=I.loc
 rw [z,ho'] at ho;cases ho;rw [hd'] at hd;cases hd
theorem aO.funs (I:aO X pins σ H s):s.heap.FunFrames X.base X.outer:=by
 have all:∀ (l:List Env),(∀ b∈yA l,b∈X.fs)->X.s_0.heap.FunFrames X.base l->s.heap.FunFrames X.base l:=by
  intro l
  induction l with
  |nil=>intro _ _;trivial
  |cons env r ih=>
   intro hs hl
   obtain ⟨hk,⟨L,o,hf,hn,ho,hd⟩,hr⟩:=hl
   have hL:L∈X.fs:=hs L (by unfold yA;rw [List.filterMap_cons,hf];exact List.mem_cons_self)
   obtain ⟨sl,e⟩:=I.base.slot L o ho (I.ok.frf L hL) hL fun z=>I.ok.exfs L z hL
   exact ⟨hk,⟨L,_,hf,hn,e,hd⟩,ih (fun b hb=>hs b (by unfold yA;rw [List.filterMap_cons,hf];exact List.mem_cons_of_mem _ hb)) hr⟩
 exact all X.outer (fun _ hb=>hb) I.ok.funs
theorem aO.stack (I:aO X pins σ H s):s.heap.FunFrames X.base X.stack:=by
 rcases I.ok.stk with e|⟨e,hf⟩
 ·rw [e];exact I.funs
 ·rw [e]
  obtain ⟨m,hn,_⟩:=I.loc
  refine .cons (by rw [I.ok.kind];decide) hf hn ?_ I.funs
  exact Heap.get?_none_of_le (Nat.le_trans I.ok.bsz I.ok.above)
theorem aO.stkSub (I:aO X pins σ H s):∀ b∈yA X.stack,b∈X.env.locals::X.fs:=fun b hb=>by
 rcases I.ok.stk with e|⟨e,hf⟩
 ·rw [e] at hb;exact List.mem_cons_of_mem _ hb
 ·rw [e] at hb
  unfold yA at hb
  rw [List.filterMap_cons,hf] at hb
  exact hb
theorem aO.stkFree (I:aO X pins σ H s):∀ b∈yA X.stack,H b=none:=fun b hb=>by
 rcases List.mem_cons.mp (I.stkSub b hb) with e|hb
 ·rw [e];exact I.free
 ·obtain ⟨_,o,ho,_⟩:=I.ok.funs.mem hb
  exact I.base.free b o ho (I.ok.frf b hb) fun z=>I.ok.exfs b z hb
theorem aO.step {g':Array GenState} {t':Nat} {d':Drawn} {ch:List Addr} (I:aO X pins σ H s)
  (hch:∀ b∈ch,(b∈X.ex\/X.s_0.heap.objs.size<=b)/\b≠X.env.locals/\(∀ x c,X.env.cells.lookup x=some c->c≠b)/\∀ p∈X.pn++pins,p.1≠b)
  (keep:∀ b o,b≠X.env.locals->b∉X.fs->b∉ch->s.heap.get? b=some o->H b=none->h'.get? b=some o)
  (slot:∀ b o,b≠X.env.locals->b∈X.fs->b∉ch->s.heap.get? b=some o->H b=none->∃ sl,h'.get? b=some {o with slots:=sl}) (free:∀ b o,b∉ch->s.heap.get? b=some o->H b=none->H' b=none)
  (there:∀ b o,b∉ch->s.heap.get? b=some o->∃ o',h'.get? b=some o')
  (tups:∀ b xs,H b=some (.tup xs)->H' b=some (.tup xs)) (frzs:∀ b o u,H b=some (.frz o u)->H' b=some (.frz o u)) (tbls:∀ b ps,H b=some (.tbl ps)->∃ more,H' b=some (.tbl (ps++more)))
  (ns:∀ m,s.heap.Ns X.env.locals m->h'.Ns X.env.locals m) (hok:kK X.prog X.w H' h') (hg:AllBare g'):
  aO X pins σ H' {s with heap:=h',gens:=g',drawn:=d',toks:=t'}:=by
 have neL:∀ b o,X.s_0.heap.get? b=some o->b≠X.env.locals:=fun b o e=>Nat.ne_of_lt (Nat.lt_of_lt_of_le (Heap.lt_size e) I.ok.above)
 have neC:∀ b o,X.s_0.heap.get? b=some o->b∉X.ex->b∉ch:=fun b o e hx hb=>by
  rcases (hch b hb).1 with z|z
  ·exact hx z
  ·exact absurd (Nat.lt_of_lt_of_le (Heap.lt_size e) z) (Nat.lt_irrefl _)
 have cellK:∀ x c,X.env.cells.lookup x=some c->∀ v,s.heap.IsCell c v->h'.IsCell c v:=fun x c e v ⟨o,ho,hd⟩=>by
  have nch:c∉ch:=fun z=>(hch c z).2.2.1 x c e rfl
  by_cases hc:c∈X.fs
  ·obtain ⟨sl,q⟩:=slot c o (I.cne x c e) hc nch ho (I.freeC x c e)
   exact ⟨_,q,hd⟩
  ·exact ⟨o,keep c o (I.cne x c e) hc nch ho (I.freeC x c e),hd⟩
 refine ⟨I.ok,I.os,hg,⟨fun b o e n hb hx=>?_,fun b o e n hb hx=>?_,fun b o e n hx=>?_,fun b o e hx=>?_,fun b xs e=>tups b xs (I.base.tups b xs e),fun b o xs e=>frzs b o xs (I.base.frzs b o xs e),fun b ps e=>?_⟩,?_,fun x c e=>?_,?_,fun x c e=>?_,fun p hp=>?_,hok,I.len⟩
 ·exact keep b o (neL b o e) hb (neC b o e hx) (I.base.keep b o e n hb hx) (I.base.free b o e n hx)
 ·obtain ⟨sl,e1⟩:=I.base.slot b o e n hb hx
  obtain ⟨sl',e2⟩:=slot b _ (neL b o e) hb (neC b o e hx) e1 (I.base.free b o e n hx)
  exact ⟨sl',e2⟩
 ·obtain ⟨o',e1⟩:=I.base.there b o e hx
  exact free b o' (neC b o e hx) e1 (I.base.free b o e n hx)
 ·obtain ⟨o',e1⟩:=I.base.there b o e hx
  exact there b o' (neC b o e hx) e1
 ·obtain ⟨m1,e1⟩:=I.base.tbls b ps e
  obtain ⟨m2,e2⟩:=tbls b _ e1
  exact ⟨m1++m2,by rw [e2,Array.append_assoc]⟩
 ·obtain ⟨m,hn,hl⟩:=I.loc
  refine ⟨m,ns m hn,fun i x v e1 e2 e3=>?_⟩
  obtain ⟨u,r,l⟩:=hl i x v e1 e2 e3
  refine ⟨u,r,?_⟩
  rcases l with l|⟨k,c,e,z⟩
  ·exact .inl l
  ·exact .inr ⟨k,c,e,cellK x c e _ z⟩
 ·obtain ⟨v,z⟩:=I.cell x c e
  exact ⟨v,cellK x c e v z⟩
 ·obtain ⟨m,⟨o,_,_,ho,_⟩,_⟩:=I.loc
  exact free _ o (fun z=>(hch _ z).2.1 rfl) ho I.free
 ·obtain ⟨v,o,ho,hd⟩:=I.cell x c e
  exact free c o (fun z=>(hch c z).2.2.1 x c e rfl) ho (I.freeC x c e)
 ·obtain ⟨e,n,ne,nf,d⟩:=I.pin p hp
  have nch:p.1∉ch:=fun z=>(hch p.1 z).2.2.2 p hp rfl
  exact ⟨keep p.1 p.2 ne nf nch e n,free p.1 p.2 nch e n,ne,nf,d⟩
theorem aO.un {t':Nat} (I:aO X pins σ H s) (u:Un X.fs [] H H' s.heap h') (hok:kK X.prog X.w H' h'):aO X pins σ H' {s with heap:=h',toks:=t'}:=by
 obtain ⟨m,⟨o,es,ep,ho,r⟩,_⟩:=id I.loc
 obtain ⟨sl,hL⟩:=u.any ho I.free (by simp)
 exact I.step (g':=s.gens) (d':=s.drawn) (ch:=[]) (fun _ z=>nomatch z) (fun b o _ hb _ e n=>u.keep b o e n hb (by simp)) (fun b o _ hb _ e n=>u.slot b o e n hb (by simp)) (fun b o _ e n=>u.free b o e n (by simp)) (fun b o _ e=>u.there b o e (by simp)) u.tups u.frzs u.tbls (fun m' hm=>by
  obtain ⟨o',es',ep',ho',r'⟩:=hm
  rw [ho] at ho';cases ho'
  exact ⟨_,es',ep',hL,r'⟩) hok I.bare
theorem aO.call {g':Array GenState} {t':Nat} {d':Drawn} {ch:List Addr} (I:aO X pins σ H s) (u:Un (yA X.stack) ch H H' s.heap h') (hok:kK X.prog X.w H' h') (hg:AllBare g')
  (hch:∀ b∈ch,(b∈X.ex\/X.s_0.heap.objs.size<=b)/\b≠X.env.locals/\(∀ x c,X.env.cells.lookup x=some c->c≠b)/\∀ p∈X.pn++pins,p.1≠b):
  aO X pins σ H' {s with heap:=h',gens:=g',drawn:=d',toks:=t'}:=by
 obtain ⟨m,⟨o,es,ep,ho,r⟩,_⟩:=id I.loc
 obtain ⟨sl,hL⟩:=u.any ho I.free fun z=>(hch _ z).2.1 rfl
 exact I.step (ch:=ch) hch (fun b o hL hb hc e n=>u.keep b o e n (fun z=>(List.mem_cons.mp (I.stkSub b z)).elim hL hb) hc) (fun b o _ _ hc e n=>u.any e n hc) (fun b o hc e n=>u.free b o e n hc) (fun b o hc e=>u.there b o e hc) u.tups u.frzs u.tbls (fun m' hm=>by
  obtain ⟨o',es',ep',ho',r'⟩:=hm
  rw [ho] at ho';cases ho'
  exact ⟨_,es',ep',hL,r'⟩) hok hg
theorem aO.turned {t':Nat} {it:Addr} (I:aO X pins σ H s) (k:∀ b o,b≠it->s.heap.get? b=some o->h'.get? b=some o) (hn:H it=none) (hL:it≠X.env.locals)
  (h1:it∈X.ex\/X.s_0.heap.objs.size<=it) (h2:∀ x c,X.env.cells.lookup x=some c->c≠it) (h3:∀ p∈X.pn++pins,p.1≠it):aO X pins σ H {s with heap:=h',toks:=t'}:=by
 have nit:∀ b u,H b=some u->b≠it:=fun b u e z=>by rw [z,hn] at e;cases e
 refine I.step (g':=s.gens) (d':=s.drawn) (ch:=[it]) (fun b hb=>?_) (fun b o _ _ hc e _=>k b o (fun z=>hc (by simp [z])) e) (fun b o _ _ hc e _=>⟨o.slots,k b o (fun z=>hc (by simp [z])) e⟩) (fun _ _ _ _ n=>n)
  (fun b o hc e=>⟨o,k b o (fun z=>hc (by simp [z])) e⟩) (fun _ _ e=>e) (fun _ _ _ e=>e) (fun b ps e=>⟨#[],by rw [e];simp⟩) (fun m hm=>?_) (fun b u e=>?_) I.bare
 ·have e:b=it:=by simpa using hb
  subst e
  exact ⟨h1,hL,h2,h3⟩
 ·obtain ⟨o,es,ep,ho,r⟩:=hm
  exact ⟨o,es,ep,k _ o (Ne.symm hL) ho,r⟩
 ·refine (I.hok b u e).stay (fun c v hc q=>k c v ?_ q) (fun _ q=>q) fun _ _ q=>q
  rcases hc with z|z
  ·rw [z];exact nit b u e
  ·exact nit c _ z
theorem aO.tok (I:aO X pins σ H s) (t:Nat):aO X pins σ H {s with toks:=t}:=I.un (h':=s.heap) (t':=t) Un.refl I.hok
theorem aO.kept {t':Nat} (I:aO X pins σ H s) (k:∀ b u,s.heap.get? b=some u->h'.get? b=some u):aO X pins σ H {s with heap:=h',toks:=t'}:=I.un (Un.kept k) (I.hok.kept k)
theorem aO.laid {a:Addr} {o:HO} {t':Nat} (I:aO X pins σ H s) (k:∀ b u,s.heap.get? b=some u->h'.get? b=some u) (hp:s.heap.objs.size<=a) (new:cE X.prog X.w (upd H a o) h' a o):
  aO X pins σ (upd H a o) {s with heap:=h',toks:=t'}:=I.un (Un.laid k hp (I.hok.fresh hp)) (I.hok.laid k hp new)
theorem aO.write {x e:Addr} {o:HO} {t':Nat} (I:aO X pins σ H s) (mu:Wq (H x)) (he:e=x\/H e=some (.own x)) (k:∀ b u,b≠e->s.heap.get? b=some u->h'.get? b=some u) (heo:∃ u,h'.get? e=some u)
  (new:cE X.prog X.w (upd H x o) h' x o):aO X pins σ (upd H x o) {s with heap:=h',toks:=t'}:=I.un (Un.write mu he k heo) (I.hok.write mu he k heo new)
theorem aO.weak {σ':List (Option V)} (I:aO X pins σ H s) (hl:σ'.length=σ.length) (w:∀ (i:Nat) v,σ'[i]?=some (some v)->σ[i]?=some (some v)):aO X pins σ' H s:=
 ⟨I.ok,I.os,I.bare,I.base,let ⟨m,hn,hl'⟩:=I.loc;⟨m,hn,fun i x v e1 e2 e3=>hl' i x v e1 (w i v e2) e3⟩,I.cell,I.free,I.freeC,I.pin,I.hok,hl.trans I.len⟩
theorem aO.pins_of {pins':List (Addr×Obj)} (I:aO X pins σ H s) (h:∀ p∈pins',s.heap.get? p.1=some p.2/\H p.1=none/\p.1≠X.env.locals/\p.1∉X.fs/\∀ v,p.2.data≠.cell v):aO X pins' σ H s:=
 ⟨I.ok,I.os,I.bare,I.base,I.loc,I.cell,I.free,I.freeC,fun p hp=>(List.mem_append.mp hp).elim (fun z=>I.pin p (List.mem_append_left _ z)) (h p),I.hok,I.len⟩
theorem wX {N:List Str} (hN:N.Nodup) {i j:Nat} {x:Str} (a:N[i]?=some x) (b:N[j]?=some x):i=j:=by
 obtain ⟨h1,e1⟩:=List.getElem?_eq_some_iff.mp a
 obtain ⟨h2,e2⟩:=List.getElem?_eq_some_iff.mp b
 exact (List.getElem_inj hN).mp (e1.trans e2.symm)
theorem yO {M:Model} {A:Around} {E:Value->Shared->Prop} {i:Nat} {x:Str} {v:V} {u:Value} {Q:Unit->Shared->Prop} (I:aO X pins σ H s) (hN:X.N.Nodup) (hi:X.N[i]?=some x) (hx:Loc X.env.scope x) (r:bQ v u)
  (h:∀ s',aO X pins (σ.set i (some v)) H s'->(∃ a,Heap.SameBut a s.heap s'.heap/\(a=X.env.locals\/X.env.cells.lookup x=some a))->Q () s') (hf:X.fn x=true\/X.env.scope.names.lookup x=some .local:=by first|exact .inl rfl|exact .inr rfl|assumption):wpAny M A (storeName X.env x u) Q E s:=by
 obtain ⟨m,hn,hl⟩:=id I.loc
 have hcls:(X.env.scope.kind==.class||(X.env.scope.kind==.module && X.env.locals !=X.env.globals))=false:=by rw [I.ok.kind];rfl
 have hiσ:i<σ.length:=by rw [I.len];exact (List.getElem?_eq_some_iff.mp hi).1
 have cne:=I.cne
 have tracked:∀ {a:Addr} {h':Heap},(∃ o,s.heap.get? a=some o/\H a=none)->Heap.SameBut a s.heap h'->kK X.prog X.w H h':=fun {a h'} ha hs b ob e=>by
  obtain ⟨_,_,hfree⟩:=ha
  refine (I.hok b ob e).stay (fun c w' hc q=>(hs.2 c ?_).trans q) (fun _ q=>q) fun _ _ q=>q
  rintro rfl
  rcases hc with rfl|hc
  ·rw [hfree] at e;cases e
  ·rw [hfree] at hc;cases hc
 rcases hx with hk|hk
 ·refine wpAny_storeName_local hk hn (fun h' hn' hs=>?_) hcls
  obtain ⟨oL,_,_,hoL,_⟩:=id hn
  refine h _ ⟨I.ok,I.os,I.bare,⟨fun b o e n hb hx=>?_,fun b o e n hb hx=>?_,I.base.free,fun b o e hx=>?_,I.base.tups,I.base.frzs,I.base.tbls⟩,⟨_,hn',fun j y v' e1 e2 e3=>?_⟩,fun y c e=>?_,I.free,I.freeC,fun p hp=>?_,tracked ⟨oL,hoL,I.free⟩ hs,by simpa using I.len⟩ ⟨_,hs,.inl rfl⟩
  ·exact (hs.2 b (Nat.ne_of_lt (Nat.lt_of_lt_of_le (Heap.lt_size e) I.ok.above))).trans (I.base.keep b o e n hb hx)
  ·obtain ⟨sl,e1⟩:=I.base.slot b o e n hb hx
   exact ⟨sl,(hs.2 b (Nat.ne_of_lt (Nat.lt_of_lt_of_le (Heap.lt_size e) I.ok.above))).trans e1⟩
  ·obtain ⟨o',e1⟩:=I.base.there b o e hx
   exact ⟨o',(hs.2 b (Nat.ne_of_lt (Nat.lt_of_lt_of_le (Heap.lt_size e) I.ok.above))).trans e1⟩
  ·by_cases hj:j=i
   ·subst hj
    rw [hi] at e1;cases e1
    rw [List.getElem?_set_self hiσ] at e2
    cases e2
    exact ⟨u,r,.inl ⟨hk,by simp⟩⟩
   ·rw [List.getElem?_set_ne (Ne.symm hj)] at e2
    obtain ⟨u',r',q⟩:=hl j y v' e1 e2 e3
    refine ⟨u',r',?_⟩
    rcases q with ⟨k,e⟩|⟨k,c,e,z⟩
    ·refine .inl ⟨k,?_⟩
     have:y≠x:=fun e=>hj (wX hN e1 (e▸hi))
     simp [this,e]
    ·exact .inr ⟨k,c,e,z.sameBut hs (cne y c e)⟩
  ·obtain ⟨w',z⟩:=I.cell y c e
   exact ⟨w',z.sameBut hs (cne y c e)⟩
  ·obtain ⟨e,n,ne,nf,d⟩:=I.pin p hp
   exact ⟨(hs.2 p.1 ne).trans e,n,ne,nf,d⟩
 ·have hfn:X.fn x=true:=by
   rcases hf with z|z
   ·exact z
   ·rw [z] at hk;cases hk
  obtain ⟨c,hc⟩:=I.ok.has x (.inl hk)
  obtain ⟨w',z⟩:=I.cell x c hc
  refine wpAny_storeName_cell I.ok.kind hk hc z (fun h' hc' hs=>?_)
  obtain ⟨oc,hoc,hocd⟩:=id z
  refine h {s with heap:=h'} ⟨I.ok,I.os,I.bare,⟨fun b o e n hb hx=>?_,fun b o e n hb hx=>?_,I.base.free,fun b o e hx=>?_,I.base.tups,I.base.frzs,I.base.tbls⟩,⟨m,hn.sameBut hs (Ne.symm (cne x c hc)),fun j y v' e1 e2 e3=>?_⟩,fun y c' e=>?_,I.free,I.freeC,fun p hp=>?_,tracked ⟨oc,hoc,I.freeC x c hc⟩ hs,by simpa using I.len⟩ ⟨c,hs,.inr hc⟩
  ·exact (hs.2 b (Nat.ne_of_lt (Nat.lt_of_lt_of_le (Heap.lt_size e) (I.ok.cab x c hfn hc)))).trans (I.base.keep b o e n hb hx)
  ·obtain ⟨sl,e1⟩:=I.base.slot b o e n hb hx
   exact ⟨sl,(hs.2 b (Nat.ne_of_lt (Nat.lt_of_lt_of_le (Heap.lt_size e) (I.ok.cab x c hfn hc)))).trans e1⟩
  ·obtain ⟨o',e1⟩:=I.base.there b o e hx
   exact ⟨o',(hs.2 b (Nat.ne_of_lt (Nat.lt_of_lt_of_le (Heap.lt_size e) (I.ok.cab x c hfn hc)))).trans e1⟩
  ·by_cases hj:j=i
   ·subst hj
    rw [hi] at e1;cases e1
    rw [List.getElem?_set_self hiσ] at e2
    cases e2
    exact ⟨u,r,.inr ⟨.inl hk,c,hc,hc'⟩⟩
   ·rw [List.getElem?_set_ne (Ne.symm hj)] at e2
    obtain ⟨u',r',q⟩:=hl j y v' e1 e2 e3
    refine ⟨u',r',?_⟩
    rcases q with q|⟨k,c',e,z'⟩
    ·exact .inl q
    ·refine .inr ⟨k,c',e,z'.sameBut hs ?_⟩
     rintro rfl
     exact hj (wX hN e1 (I.ok.inj _ _ _ e hc▸hi))
  ·by_cases hcc:c'=c
   ·subst hcc;exact ⟨_,hc'⟩
   ·obtain ⟨w2,z2⟩:=I.cell y c' e
    exact ⟨w2,z2.sameBut hs hcc⟩
  ·obtain ⟨e,n,ne,nf,d⟩:=I.pin p hp
   refine ⟨(hs.2 p.1 ?_).trans e,n,ne,nf,d⟩
   intro q
   rw [q,hoc] at e
   have q':oc=p.2:=Option.some.inj e
   exact d w' (by rw [<-q'];exact hocd)
theorem wE {M:Model} {A:Around} {E:Value->Shared->Prop} {i:Nat} {x:Str} {v:V} {u:Value} {Q:Unit->Shared->Prop} (I:aO X pins σ H s) (hN:X.N.Nodup) (hi:X.N[i]?=some x) (hx:Loc X.env.scope x) (r:bQ v u)
  (h:∀ s',aO X pins (σ.set i (some v)) H s'->Q () s') (hf:X.fn x=true\/X.env.scope.names.lookup x=some .local:=by first|exact .inl rfl|exact .inr rfl|assumption):wpAny M A (storeName X.env x u) Q E s:=
 yO I hN hi hx r (fun s' I' _=>h s' I') hf
theorem aO.call' {s':Shared} {ch:List Addr} (I:aO X pins σ H s) (ho:s'.os=s.os) (u:Un (yA X.stack) ch H H' s.heap s'.heap) (hok:kK X.prog X.w H' s'.heap) (hg:AllBare s'.gens)
  (hch:∀ b∈ch,(b∈X.ex\/X.s_0.heap.objs.size<=b)/\b≠X.env.locals/\(∀ x c,X.env.cells.lookup x=some c->c≠b)/\∀ p∈X.pn++pins,p.1≠b):aO X pins σ H' s':=by
 obtain ⟨h',g',d',t',o'⟩:=s'
 have e:o'=s.os:=ho
 subst e
 exact I.call (g':=g') (t':=t') (d':=d') u hok hg hch
end
abbrev XK:=Value->Option Addr->Hp->Prop
abbrev St:=List (Option V)
abbrev VK:=V->Hp->Prop
abbrev TE:=St->Hp->VK->Prop
abbrev TT:=St->Hp->(Bool->Hp->Prop)->Prop
abbrev TA:=St->Hp->(List V->Hp->Prop)->Prop
structure fT where
 nx:St->Hp->Prop
 rt:VK
 bk:St->Hp->Prop:=fun _ _=>False
 ct:St->Hp->Prop:=fun _ _=>False
abbrev TS:=fT->St->Hp->Prop
def EP (X:Cx) (pins:List (Addr×Obj)) (σ:St) (Q:VK) (u:Value) (s':Shared):Prop:=∃ v H',aO X pins σ H' s'/\bQ v u/\Q v H'
def TP (X:Cx) (pins:List (Addr×Obj)) (σ:St) (Q:Bool->Hp->Prop) (b:Bool) (s':Shared):Prop:=∃ H',aO X pins σ H' s'/\Q b H'
def AP (X:Cx) (pins:List (Addr×Obj)) (σ:St) (Q:List V->Hp->Prop) (us:List Value) (s':Shared):Prop:=∃ vs H',aO X pins σ H' s'/\aZ vs us/\Q vs H'
def SP (X:Cx) (pins:List (Addr×Obj)) (D:fT) (f:Flow) (s':Shared):Prop:=
 match f with
 |.next=>∃ σ' H',aO X pins σ' H' s'/\D.nx σ' H'
 |.brk=>∃ σ' H',aO X pins σ' H' s'/\D.bk σ' H'
 |.cont=>∃ σ' H',aO X pins σ' H' s'/\D.ct σ' H'
 |.ret u=>∃ v σ' H',aO X pins σ' H' s'/\bQ v u/\D.rt v H'
def PE (X:Cx) (e:Expr) (t:TE):Prop:=
 ∀ (pins:List (Addr×Obj)) (s:Shared) (σ:St) (H:Hp) (Q:VK),aO X pins σ H s->t σ H Q->wpAny (model X.prog X.w) X.A (eval e X.env) (EP X pins σ Q) X.xe s
def PT (X:Cx) (e:Expr) (t:TT):Prop:=
 ∀ (pins:List (Addr×Obj)) (s:Shared) (σ:St) (H:Hp) (Q:Bool->Hp->Prop),aO X pins σ H s->t σ H Q->wpAny (model X.prog X.w) X.A (isTrue e X.env (eval e X.env)) (TP X pins σ Q) X.xe s
def PW (X:Cx) (e:Expr) (t:TT):Prop:=
 ∀ (whole:Sem Value) (pins:List (Addr×Obj)) (s:Shared) (σ:St) (H:Hp) (Q:Bool->Hp->Prop),aO X pins σ H s->t σ H Q->wpAny (model X.prog X.w) X.A (isTrue e X.env whole) (TP X pins σ Q) X.xe s
theorem PW.pt {X:Cx} {e:Expr} {t:TT} (h:PW X e t):PT X e t:=h _
def PA (X:Cx) (es:List Expr) (t:TA):Prop:=
 ∀ (pos:Pos) (pins:List (Addr×Obj)) (s:Shared) (σ:St) (H:Hp) (Q:List V->Hp->Prop),aO X pins σ H s->t σ H Q->wpAny (model X.prog X.w) X.A (spliced (backTo pos (starEach es X.env))) (AP X pins σ Q) X.xe s
def PS (X:Cx) (st:Stmt) (t:TS):Prop:=
 ∀ (pins:List (Addr×Obj)) (s:Shared) (σ:St) (H:Hp) (D:fT),aO X pins σ H s->t D σ H->wpAny (model X.prog X.w) X.A (exec st X.env) (SP X pins D) X.xe s
def zF (X:Cx) (st:List Stmt) (t:TS):Prop:=
 ∀ (pins:List (Addr×Obj)) (s:Shared) (σ:St) (H:Hp) (D:fT),aO X pins σ H s->t D σ H->wpAny (model X.prog X.w) X.A (execs st X.env) (SP X pins D) X.xe s
theorem cF {α:Type} {t:Sem α} {Q Q':α->Shared->Prop} {M:Model} {A:Around} {E:Value->Shared->Prop} {s:Shared} (h:wpAny M A t Q E s) (hQ:∀ a s,Q a s->Q' a s):wpAny M A t Q' E s:=wpAny_mono h hQ fun _ _ x=>x
section
variable {X:Cx}
theorem bin {a b:Expr} {ta tb:TE} (ha:PE X a ta) (hb:PE X b tb) {pins:List (Addr×Obj)} {s:Shared} {σ:St} {H:Hp} {R:V->V->Hp->Prop} (I:aO X pins σ H s) (h:ta σ H fun x H1=>tb σ H1 fun y H2=>R x y H2)
  {α:Type} {Q:α->Shared->Prop} {f:Value->Value->Sem α}
  (hf:∀ v u s2 x y H2,aO X pins σ H2 s2->bQ x v->bQ y u->R x y H2->wpAny (model X.prog X.w) X.A (f v u) Q X.xe s2):
  wpAny (model X.prog X.w) X.A (eval a X.env) (fun v s₁=>wpAny (model X.prog X.w) X.A (eval b X.env) (fun u s₂=>wpAny (model X.prog X.w) X.A (f v u) Q X.xe s₂) X.xe s₁) X.xe s:=by
 refine cF (ha pins s σ H _ I h) fun v s1 ⟨x,H1,I1,r1,q1⟩=>?_
 refine cF (hb pins s1 σ H1 _ I1 q1) fun u s2 ⟨y,H2,I2,r2,q2⟩=>?_
 exact hf v u s2 x y H2 I2 r1 r2 q2
def eO (i:Nat):TE:=fun σ H Q=>∃ v,σ[i]?=some (some v)/\Q v H
def tC (v:V):TE:=fun _ H Q=>Q v H
theorem Yn {i:Nat} {x:Str} {pos:Pos} (hN:X.N[i]?=some x) (hv:Vis X.env.scope x) (hd:(x==("__debug__":Str))=false:=by decide) (hcd:(x==("__classdict__":Str))=false:=by decide):PE X (.Name x pos) (eO i):=by
 intro pins s σ H Q I h
 obtain ⟨v,e,h⟩:=h
 obtain ⟨m,hn,hl⟩:=I.loc
 obtain ⟨u,r,l⟩:=hl i x v hN e hv
 have fin:EP X pins σ Q u s:=⟨v,H,I,r,h⟩
 rcases l with ⟨hk,hm⟩|⟨hk,c,hc,hcell⟩
 ·exact wpAny_Name (wpAny_loadName_local I.ok.kind hk hn hm fin) hd
 ·rcases hk with hk|hk
  ·exact wpAny_Name (wpAny_loadName_cell I.ok.kind hk hc hcell fin) hd
  ·exact wpAny_Name (wpAny_loadName_free I.ok.kind hk hc hcell fin hcd) hd
theorem aJ {i j pos}:PE X (.Constant (.int i) j pos) (tC (.int i)):=fun _ _ _ H _ I h=>wpAny_Constant_int ⟨.int i,H,I.tok _,⟨_,rfl⟩,h⟩
theorem mG {b j pos}:PE X (.Constant (.bool b) j pos) (tC (.bl b)):=fun _ _ _ H _ I h=>Constant_bool ⟨.bl b,H,I,rfl,h⟩
theorem vH {j pos}:PE X (.Constant .none j pos) (tC .non):=fun _ _ _ H _ I h=>Constant_none ⟨.non,H,I,rfl,h⟩
theorem gE {x j pos}:PE X (.Constant (.str x) j pos) (tC (.str x)):=fun _ _ _ H _ I h=>Calls.Constant_str ⟨.str x,H,I.tok _,⟨_,rfl⟩,h⟩
def Gl (X:Cx) (x:Str):Prop:=X.env.kindOf x=some .globalImplicit
theorem jA {E:Value->Shared->Prop} {pins:List (Addr×Obj)} {s:Shared} {σ:St} {H:Hp} {x:Str} {u:Value} {pos:Pos} {Q:Value->Shared->Prop} (I:aO X pins σ H s) (hg:Gl X x) (hm:X.mg x=some u) (h:Q u s)
  (hd:(x==("__debug__":Str))=false:=by decide):wpAny (model X.prog X.w) X.A (eval (.Name x pos) X.env) Q E s:=
 Calls.Name_function_global I.ok.kind hg (Calls.loadGlobal_global (by rw [I.ok.glob];exact I.mod.glob.keeps I.bk) hm h) hd
theorem rY {E:Value->Shared->Prop} {pins:List (Addr×Obj)} {s:Shared} {σ:St} {H:Hp} {x:Str} {u:Value} {pos:Pos} {Q:Value->Shared->Prop} (I:aO X pins σ H s) (hg:Gl X x) (hm:X.mg x=none) (hv:bootBuiltins x=some u) (h:Q u s)
  (hn:x≠"__name__":=by decide) (hd:(x==("__debug__":Str))=false:=by decide):wpAny (model X.prog X.w) X.A (eval (.Name x pos) X.env) Q E s:=by
 obtain ⟨mb,h1,h2⟩:=I.mod.blt
 exact Calls.Name_function_global I.ok.kind hg (Calls.loadGlobal_builtin (by rw [I.ok.glob];exact I.mod.glob.keeps I.bk) hm (by rw [I.ok.blt];exact h1.keeps I.bk) ((h2 x hn).trans hv) h) hd
theorem Ab {x:Str} {v:V} {u:Value} {pos:Pos} (hg:Gl X x) (hm:X.mg x=some u) (r:bQ v u) (hd:(x==("__debug__":Str))=false:=by decide):PE X (.Name x pos) (tC v):=
 fun _ _ _ H _ I h=>jA I hg hm ⟨v,H,I,r,h⟩ hd
def t2I (ta tb:TE) (k:Int->Int->Hp->Prop):St->Hp->Prop:=fun σ H=>ta σ H fun x H1=>tb σ H1 fun y H2=>∃ i j,x=.int i/\y=.int j/\k i j H2
variable {a b:Expr} {ta tb:TE} {pos:Pos}
def PC (X:Cx) (op:CmpOp) (a b:Expr) (t:TE):Prop:=
 ∀ (pins:List (Addr×Obj)) (s:Shared) (σ:St) (H:Hp) (Q:VK),aO X pins σ H s->t σ H Q->
  wpAny (model X.prog X.w) X.A (eval a X.env) (fun v s₁=>wpAny (model X.prog X.w) X.A (eval b X.env) (fun u s₂=>wpAny (model X.prog X.w) X.A (compareOp op v u) (EP X pins σ Q) X.xe s₂) X.xe s₁) X.xe s
theorem Rv (b:Expr) {op:CmpOp} (h:op≠.In) (h2:op≠.NotIn):behindInMarks op b=false:=by
 have e1:(op==CmpOp.In)=false:=by cases op<;>first|rfl|exact absurd rfl h
 have e2:(op==CmpOp.NotIn)=false:=by cases op<;>first|rfl|exact absurd rfl h2
 cases b<;>simp [behindInMarks,e1,e2]
def Hl (p:Int->Int->Bool) (ta tb:TE):TE:=fun σ H Q=>t2I ta tb (fun i j H2=>Q (.bl (p i j)) H2) σ H
abbrev tLt:TE->TE->TE:=Hl fun i j=>decide (i<j)
abbrev tLe:TE->TE->TE:=Hl fun i j=>decide (i<=j)
abbrev tGt:TE->TE->TE:=Hl fun i j=>decide (j<i)
abbrev tGe:TE->TE->TE:=Hl fun i j=>decide (j<=i)
abbrev aDo:TE->TE->TE:=Hl fun i j=>decide (i=j)
abbrev aCn:TE->TE->TE:=Hl fun i j=> !decide (i=j)
theorem sF {op:CmpOp} {p:Int->Int->Bool} (ha:PE X a ta) (hb:PE X b tb)
  (rule:∀ (i j:Int) (t u:Tok) (Q:Value->Shared->Prop) (s:Shared),Q (.bool (p i j)) s->wpAny (model X.prog X.w) X.A (compareOp op (.int i t) (.int j u)) Q X.xe s):PC X op a b (Hl p ta tb):=by
 intro pins s σ H Q I h
 refine bin ha hb I h fun v u s2 x y H2 I2 rx ry q=>?_
 obtain ⟨i,j,rfl,rfl,q⟩:=q
 obtain ⟨t,rfl⟩:=rx
 obtain ⟨t',rfl⟩:=ry
 exact rule i j t t' _ s2 ⟨.bl _,H2,I2,rfl,q⟩
theorem Je (ha:PE X a ta) (hb:PE X b tb):PC X .Lt a b (tLt ta tb):=sF ha hb fun _ _ _ _ _ _ h=>lt_int h
theorem aAp (ha:PE X a ta) (hb:PE X b tb):PC X .LtE a b (tLe ta tb):=sF ha hb fun _ _ _ _ _ _ h=>le_int h
theorem qT (ha:PE X a ta) (hb:PE X b tb):PC X .Gt a b (tGt ta tb):=sF ha hb fun _ _ _ _ _ _ h=>gt_int h
theorem aBb (ha:PE X a ta) (hb:PE X b tb):PC X .GtE a b (tGe ta tb):=sF ha hb fun _ _ _ _ _ _ h=>ge_int h
theorem Xp (ha:PE X a ta) (hb:PE X b tb):PC X .Eq a b (aDo ta tb):=sF ha hb fun _ _ _ _ _ _ h=>eq_int (by rw [Bool.beq_eq_decide_eq];exact h)
theorem Yl (ha:PE X a ta) (hb:PE X b tb):PC X .NotEq a b (aCn ta tb):=sF ha hb fun _ _ _ _ _ _ h=>ne_int (by rw [bne,Bool.beq_eq_decide_eq];exact h)
def tB (t:TE):TT:=fun σ H Q=>t σ H fun x H1=>∃ c,x=.bl c/\Q c H1
theorem dA {op:CmpOp} {t:TE} (h:PC X op a b t) (h1:behindInMarks op b=false:=by first|exact Rv _ (by decide) (by decide)|rfl):PT X (.Compare a [op] [b] pos) (tB t):=by
 intro pins s σ H Q I hw
 refine wpAny_isTrue_Compare1 (cF (h pins s σ H _ I hw) fun v s1 h1=>cF h1 fun u s2 h2=>cF h2 fun c s3 ⟨x,H1,I1,r1,q1⟩=>?_) h1
 obtain ⟨d,rfl,q⟩:=q1
 cases r1
 exact wpAny_truthy_bool ⟨H1,I1,q⟩
theorem dW {e:Expr} {t:TE} (h:PE X e t) (he:∀ whole,isTrue e X.env whole=(do let v <-whole;standAt e.pos;holding [v] (truthy v)):=by intro _;rfl):PT X e (tB t):=by
 intro pins s σ H Q I hw
 refine isTrue_plain (cF (h pins s σ H _ I hw) fun v s1 ⟨x,H1,I1,r1,q1⟩=>?_) (he _)
 obtain ⟨d,rfl,q⟩:=q1
 cases r1
 exact wpAny_truthy_bool ⟨H1,I1,q⟩
variable {tA tB':TT} {rest:List Expr}
def aDd (t u:TT):TT:=fun σ H Q=>t σ H fun c H1=>if c=true then u σ H1 Q else Q false H1
def tOr (t u:TT):TT:=fun σ H Q=>t σ H fun c H1=>if c=true then Q true H1 else u σ H1 Q
def aDj (t:TT):TT:=fun σ H Q=>t σ H fun c H1=>Q (!c) H1
theorem gK (ha:PT X a tA):PW X (.BoolOp .And [a] pos) tA:=by
 intro wh pins s σ H Q I h
 refine isTrue_and (cF (ha pins s σ H Q I h) fun c s1 e=>?_)
 cases c with
 |true=>exact isTrue_and_nil e
 |false=>exact e
theorem zW (ha:PT X a tA):PW X (.BoolOp .Or [a] pos) tA:=by
 intro wh pins s σ H Q I h
 refine isTrue_or (cF (ha pins s σ H Q I h) fun c s1 e=>?_)
 cases c with
 |false=>exact isTrue_or_nil e
 |true=>exact e
theorem fY (ha:PT X a tA) (hb:PW X (.BoolOp .And (b::rest) pos) tB'):PW X (.BoolOp .And (a::b::rest) pos) (aDd tA tB'):=by
 intro wh pins s σ H Q I h
 refine isTrue_and (cF (ha pins s σ H _ I h) fun c s1 ⟨H1,I1,q1⟩=>?_)
 cases c with
 |true=>exact hb wh pins s1 σ H1 Q I1 q1
 |false=>exact ⟨H1,I1,q1⟩
theorem Ig (ha:PT X a tA) (hb:PW X (.BoolOp .Or (b::rest) pos) tB'):PW X (.BoolOp .Or (a::b::rest) pos) (tOr tA tB'):=by
 intro wh pins s σ H Q I h
 refine isTrue_or (cF (ha pins s σ H _ I h) fun c s1 ⟨H1,I1,q1⟩=>?_)
 cases c with
 |true=>exact ⟨H1,I1,q1⟩
 |false=>exact hb wh pins s1 σ H1 Q I1 q1
theorem lD (ha:PT X a tA):PT X (.UnaryOp .Not a pos) (aDj tA):=by
 intro pins s σ H Q I h
 exact isTrue_not (ha pins s σ H (fun c H1=>Q (!c) H1) I h)
def aAo (ta tb:TE):TE:=fun σ H Q=>ta σ H fun x H1=>∃ c,x=.bl c/\if c=true then tb σ H1 Q else Q (.bl false) H1
def aDi (ta tb:TE):TE:=fun σ H Q=>ta σ H fun x H1=>∃ c,x=.bl c/\if c=true then Q (.bl true) H1 else tb σ H1 Q
def aBf (ta:TE):TE:=fun σ H Q=>ta σ H fun x H1=>∃ c,x=.bl c/\Q (.bl (!c)) H1
theorem sD {op} {t:TE} (h:PE X a t):PE X (.BoolOp op [a] pos) t:=fun pins s σ H Q I hw=>BoolOp_one (h pins s σ H Q I hw)
theorem rD (ha:PE X a ta) (hb:PE X (.BoolOp .And (b::rest) pos) tb):PE X (.BoolOp .And (a::b::rest) pos) (aAo ta tb):=by
 intro pins s σ H Q I h
 refine BoolOp_and (cF (ha pins s σ H _ I h) fun v s1 ⟨x,H1,I1,r1,q1⟩=>?_)
 obtain ⟨c,rfl,q1⟩:=q1
 cases r1
 refine wpAny_truthy_bool ?_
 cases c with
 |true=>exact hb pins s1 σ H1 Q I1 q1
 |false=>exact ⟨.bl false,H1,I1,rfl,q1⟩
theorem Sa (ha:PE X a ta) (hb:PE X (.BoolOp .Or (b::rest) pos) tb):PE X (.BoolOp .Or (a::b::rest) pos) (aDi ta tb):=by
 intro pins s σ H Q I h
 refine BoolOp_or (cF (ha pins s σ H _ I h) fun v s1 ⟨x,H1,I1,r1,q1⟩=>?_)
 obtain ⟨c,rfl,q1⟩:=q1
 cases r1
 refine wpAny_truthy_bool ?_
 cases c with
 |false=>exact hb pins s1 σ H1 Q I1 q1
 |true=>exact ⟨.bl true,H1,I1,rfl,q1⟩
theorem Xl (ha:PE X a ta):PE X (.UnaryOp .Not a pos) (aBf ta):=by
 intro pins s σ H Q I h
 refine UnaryOp_ (cF (ha pins s σ H _ I h) fun v s1 ⟨x,H1,I1,r1,q1⟩=>?_)
 obtain ⟨c,rfl,q1⟩:=q1
 cases r1
 exact not_of (wpAny_truthy_bool ⟨.bl (!c),H1,I1,rfl,q1⟩)
def tIf (t:TT) (ta tb:TE):TE:=fun σ H Q=>t σ H fun c H1=>if c=true then ta σ H1 Q else tb σ H1 Q
theorem Rf {c:Expr} (hc:PT X c tA) (ha:PE X a ta) (hb:PE X b tb):PE X (.IfExp c a b pos) (tIf tA ta tb):=by
 intro pins s σ H Q I h
 refine wpAny_IfExp (cF (hc pins s σ H _ I h) fun d s1 ⟨H1,I1,q1⟩=>?_)
 cases d with
 |true=>exact ha pins s1 σ H1 Q I1 q1
 |false=>exact hb pins s1 σ H1 Q I1 q1
end
def dB (K:PySem.W.Frag) (H:Hp) (a:Addr) (xs:List V):Prop:=
 Rd H a (.lst xs)\/
  ∃ (o:Obj) (its:Array Value) (n:Nat),K.lookup a=some o/\o.cls=.type "list"/\o.dict=none/\o.data=.seq its n/\its.size<=sizeLine/\aZ xs its.toList
def cN (K:PySem.W.Frag) (H:Hp) (a:Addr) (xs:List V):Prop:=
 Rd H a (.tup xs)\/
  ∃ (o:Obj) (its:Array Value) (n:Nat),K.lookup a=some o/\o.cls=.type "tuple"/\o.data=.seq its n/\its.size<=sizeLine/\aZ xs its.toList
def aCw:Value->Option V
 |.none=>some .non
 |.bool b=>some (.bl b)
 |.int i _=>some (.int i)
 |.str x _=>some (.str x)
 |.bytes b _=>some (.byt b)
 |.float b _=>some (.flt b)
 |.ref a=>some (.ref a)
 |.type n=>some (.ty n)
 |_=>none
theorem bQ.abs {x:V} {u:Value} (r:bQ x u):aCw u=some x:=by
 cases x with
 |non=>cases r;rfl
 |bl _=>cases r;rfl
 |int _=>obtain ⟨t,rfl⟩:=r;rfl
 |str _=>obtain ⟨t,rfl⟩:=r;rfl
 |byt _=>obtain ⟨t,rfl⟩:=r;rfl
 |flt _=>obtain ⟨t,rfl⟩:=r;rfl
 |ref _=>cases r;rfl
 |ty _=>cases r;rfl
theorem bQ.inj {x y:V} {u:Value} (r:bQ x u) (q:bQ y u):x=y:=Option.some.inj (r.abs.symm.trans q.abs)
theorem aZ.inj:∀ {xs ys:List V} {us:List Value},aZ xs us->aZ ys us->xs=ys
 |_,_,_,.nil,.nil=>rfl
 |_,_,_,.cons r t,.cons r' t'=>by rw [r.inj r',aZ.inj t t']
section
variable {X:Cx} {pins:List (Addr×Obj)} {σ:St} {H:Hp} {s:Shared} {a:Addr} {xs ys:List V}
theorem dB.of {K:PySem.W.Frag} (h:H a=some (.lst xs)):dB K H a xs:=.inl (.inl h)
theorem cN.of {K:PySem.W.Frag} (h:H a=some (.tup xs)):cN K H a xs:=.inl (.inl h)
theorem aO.list (I:aO X pins σ H s) (h:dB X.K H a xs):∃ its:List Value,aZ xs its/\PlainL s.heap a its.toArray/\xs.length<=sizeLine:=by
 rcases h with h|⟨o,its,n,hk,hc,hd,hs,hz,r⟩
 ·obtain ⟨z,its,n,r,e⟩:=h.ok I.hok
  exact ⟨its,r,⟨_,n,e,rfl,rfl,rfl⟩,z⟩
 ·refine ⟨its.toList,r,⟨o,n,I.kIn a o hk,hc,hd,by simpa using hs⟩,?_⟩
  have e:=r.length
  simp only [Array.length_toList] at e
  omega
theorem aO.tuple (I:aO X pins σ H s) (h:cN X.K H a xs):∃ its:List Value,aZ xs its/\IsTup s.heap a its.toArray/\xs.length<=sizeLine:=by
 rcases h with h|⟨o,its,n,hk,hc,hs,hz,r⟩
 ·obtain ⟨z,its,r,p⟩:=h.ok I.hok
  exact ⟨its,r,p,z⟩
 ·refine ⟨its.toList,r,⟨o,I.kIn a o hk,hc,n,by simpa using hs⟩,?_⟩
  have e:=r.length
  simp only [Array.length_toList] at e
  omega
theorem aO.list_inj (I:aO X pins σ H s) (h:dB X.K H a xs) (h':dB X.K H a ys):xs=ys:=by
 obtain ⟨its,r,⟨o,n,e,_,_,d⟩,_⟩:=I.list h
 obtain ⟨its',r',⟨o',n',e',_,_,d'⟩,_⟩:=I.list h'
 rw [e] at e';cases e'
 rw [d] at d'
 injection d' with d1 _
 have:its=its':=by simpa using congrArg Array.toList d1
 subst this
 exact r.inj r'
theorem aO.tuple_inj (I:aO X pins σ H s) (h:cN X.K H a xs) (h':cN X.K H a ys):xs=ys:=by
 obtain ⟨its,r,⟨o,e,_,n,d⟩,_⟩:=I.tuple h
 obtain ⟨its',r',⟨o',e',_,n',d'⟩,_⟩:=I.tuple h'
 rw [e] at e';cases e'
 rw [d] at d'
 injection d' with d1 _
 have:its=its':=by simpa using congrArg Array.toList d1
 subst this
 exact r.inj r'
end
abbrev Cx.wish (X:Cx) (E:Value->Shared->Prop):Cx:={X with xe:=E}
abbrev Cx.nox (X:Cx):Cx:=X.wish fun _ _=>False
theorem Cx.Ok.wish {X:Cx} (ok:X.Ok) (E:Value->Shared->Prop):(X.wish E).Ok:=
 ⟨ok.mod,ok.kind,ok.glob,ok.blt,ok.above,ok.inj,ok.has,ok.cab,ok.hd,ok.frames,ok.stk,ok.exf,ok.bs,ok.bsz,ok.noex,ok.exfs,ok.funs,ok.frf⟩
theorem Cx.Ok.unwish {X:Cx} {E:Value->Shared->Prop} (ok:(X.wish E).Ok):X.Ok:=
 ⟨ok.mod,ok.kind,ok.glob,ok.blt,ok.above,ok.inj,ok.has,ok.cab,ok.hd,ok.frames,ok.stk,ok.exf,ok.bs,ok.bsz,ok.noex,ok.exfs,ok.funs,ok.frf⟩
section
variable {X:Cx} {pins:List (Addr×Obj)} {σ:St} {H:Hp} {s:Shared} {E:Value->Shared->Prop}
theorem aO.wish (I:aO X pins σ H s) (E:Value->Shared->Prop):aO (X.wish E) pins σ H s:=⟨I.ok.wish E,I.os,I.bare,I.base,I.loc,I.cell,I.free,I.freeC,I.pin,I.hok,I.len⟩
theorem aO.unwish (I:aO (X.wish E) pins σ H s):aO X pins σ H s:=⟨I.ok.unwish,I.os,I.bare,I.base,I.loc,I.cell,I.free,I.freeC,I.pin,I.hok,I.len⟩
theorem SP.unwish {D:fT} {f:Flow} {s':Shared} (h:SP (X.wish E) pins D f s'):SP X pins D f s':=by
 cases f with
 |next=>obtain ⟨σ',H',I,q⟩:=h;exact ⟨σ',H',I.unwish,q⟩
 |brk=>obtain ⟨σ',H',I,q⟩:=h;exact ⟨σ',H',I.unwish,q⟩
 |cont=>obtain ⟨σ',H',I,q⟩:=h;exact ⟨σ',H',I.unwish,q⟩
 |ret u=>obtain ⟨v,σ',H',I,r,q⟩:=h;exact ⟨v,σ',H',I.unwish,r,q⟩
theorem zF.nox {st:List Stmt} {t:TS} (h:zF X.nox st t):zF X st t:=fun pins s σ H D I hw=>
 wpAny_mono (h pins s σ H D (I.wish _) hw) (fun _ _ q=>q.unwish) fun _ _ z=>False.elim z
end
section
variable {X:Cx} {st:Stmt} {rest:List Stmt} {t u:TS} {e:Expr} {te:TE} {pos:Pos}
def Wp:TS:=fun D σ H=>D.nx σ H
def Fh (t u:TS):TS:=fun D σ H=>t {D with nx:=u D} σ H
theorem bW:zF X [] Wp:=fun _ _ σ H _ I h=>wpAny_execs_nil ⟨σ,H,I,h⟩
theorem aE (h1:PS X st t) (h2:zF X rest u):zF X (st::rest) (Fh t u):=by
 intro pins s σ H D I h
 refine wpAny_execs_cons (cF (h1 pins s σ H {D with nx:=u D} I h) fun f s1 q=>?_)
 cases f with
 |next=>
  obtain ⟨σ',H',I',q⟩:=q
  exact h2 pins s1 σ' H' D I' q
 |ret v=>exact q
 |brk=>exact q
 |cont=>exact q
theorem aG (h1:PS X st t):zF X [st] t:=by
 intro pins s σ H D I h
 refine wpAny_execs_cons (cF (h1 pins s σ H D I h) fun f s1 q=>?_)
 cases f with
 |next=>exact wpAny_execs_nil q
 |ret v=>exact q
 |brk=>exact q
 |cont=>exact q
theorem aO.quiet {pins:List (Addr×Obj)} {σ:St} {H:Hp} {s:Shared} (I:aO X pins σ H s):interactive X.env=false:=by simp [interactive,I.ok.kind]
def yE (te:TE):TS:=fun D σ H=>te σ H fun _ H1=>D.nx σ H1
theorem bZ (he:PE X e te) (hs:swapsWith e none pos.line X.env=pure false:=by rfl):PS X (.Expr e pos) (yE te):=by
 intro pins s σ H D I h
 exact wpAny_Expr_any (cF (he pins s σ H _ I h) fun v s1 ⟨x,H1,I1,r1,q1⟩=>⟨σ,H1,I1,q1⟩) I.quiet hs
def Yb (te:TE):TS:=fun D σ H=>te σ H D.rt
theorem aW (he:PE X e te):PS X (.Return (some e) pos) (Yb te):=by
 intro pins s σ H D I h
 exact wpAny_Return_some (cF (he pins s σ H _ I h) fun v s1 ⟨x,H1,I1,r1,q1⟩=>⟨x,σ,H1,I1,r1,q1⟩)
def Xd (c:TT) (t u:TS):TS:=fun D σ H=>c σ H fun b H1=>if b=true then t D σ H1 else u D σ H1
theorem dS {c:Expr} {a b:List Stmt} {tc:TT} (hc:PT X c tc) (ha:zF X a t) (hb:zF X b u):PS X (.If c a b pos) (Xd tc t u):=by
 intro pins s σ H D I h
 refine wpAny_If (cF (hc pins s σ H _ I h) fun d s1 ⟨H1,I1,q1⟩=>?_)
 cases d with
 |true=>exact ha pins s1 σ H1 D I1 q1
 |false=>exact hb pins s1 σ H1 D I1 q1
end
abbrev TG:=V->St->Hp->(St->Hp->Prop)->Prop
abbrev Yz:=List V->St->Hp->(St->Hp->Prop)->Prop
def PG (X:Cx) (target:Expr) (t:TG):Prop:=
 ∀ (pins:List (Addr×Obj)) (s:Shared) (σ:St) (H:Hp) (v:V) (u:Value) (Q:St->Hp->Prop),aO X pins σ H s->bQ v u->t v σ H Q->
  wpAny (model X.prog X.w) X.A (assign target X.env u) (fun _ s'=>∃ σ' H',aO X pins σ' H' s'/\Q σ' H') X.xe s
def PGs (X:Cx) (ts:List Expr) (t:Yz):Prop:=
 ∀ (pins:List (Addr×Obj)) (s:Shared) (σ:St) (H:Hp) (vs:List V) (us:List Value) (Q:St->Hp->Prop),aO X pins σ H s->aZ vs us->t vs σ H Q->
  wpAny (model X.prog X.w) X.A (assignInOrder ((assignEach ts X.env).map (·.2)) us) (fun _ s'=>∃ σ' H',aO X pins σ' H' s'/\Q σ' H') X.xe s
abbrev Zy:=V->V->V->Hp->(Hp->Prop)->Prop
def aA4 (X:Cx) (t:Zy):Prop:=
 ∀ (pins:List (Addr×Obj)) (s:Shared) (σ:St) (H:Hp) (o i v:V) (ov iv u:Value) (Q:Hp->Prop),aO X pins σ H s->bQ o ov->bQ i iv->bQ v u->t o i v H Q->
  wpAny (model X.prog X.w) X.A (setItem ov iv u) (fun _ s'=>∃ H',aO X pins σ H' s'/\Q H') X.xe s
section
variable {X:Cx} {pos:Pos}
def mF (i:Nat):TG:=fun v σ H Q=>Q (σ.set i (some v)) H
theorem bH {i:Nat} {x:Str} (hN:X.N.Nodup) (hi:X.N[i]?=some x) (hx:Loc X.env.scope x) (hf:X.fn x=true\/X.env.scope.names.lookup x=some .local:=by first|exact .inl rfl|exact .inr rfl|assumption):PG X (.Name x pos) (mF i):=by
 intro pins s σ H v u Q I r h
 exact wpAny_assign_Name (wE I hN hi hx r (fun s' I'=>⟨_,H,I',h⟩) hf)
def aCv:Yz:=fun vs σ H Q=>vs=[]/\Q σ H
def aBn (t:TG) (u:Yz):Yz:=fun vs σ H Q=>∃ v r,vs=v::r/\t v σ H fun σ' H'=>u r σ' H' Q
theorem hX:PGs X [] aCv:=by
 intro pins s σ H vs us Q I r h
 obtain ⟨e,h⟩:=h
 subst e
 cases r
 exact assignInOrder_nil ⟨σ,H,I,h⟩
theorem cI {e:Expr} {es:List Expr} {t:TG} {u:Yz} (h1:PG X e t) (h2:PGs X es u)
  (hs:(assignEach (e::es) X.env).map (·.2)=assign e X.env::(assignEach es X.env).map (·.2):=by rfl):PGs X (e::es) (aBn t u):=by
 intro pins s σ H vs us Q I r h
 obtain ⟨v,vr,e1,h⟩:=h
 subst e1
 cases r with
 |cons r rr=>
  rw [hs]
  refine assignInOrder_cons (cF (h1 pins s σ H _ _ _ I r h) fun _ s1 ⟨σ1,H1,I1,q1⟩=>?_)
  exact h2 pins s1 σ1 H1 _ _ Q I1 rr q1
def aCf (K:PySem.W.Frag) (n:Nat) (t:Yz):TG:=fun v σ H Q=>∃ a xs,v=.ref a/\cN K H a xs/\xs.length=n/\t xs σ H Q
theorem lB {es:List Expr} {k:Nat} {t:Yz} {n:Nat} (hc:X.calm=true) (h:PGs X es t)
  (hn:(assignEach es X.env).length=n:=by rfl) (hst:(assignEach es X.env).findIdx? (·.1)=none:=by rfl):PG X (.Tuple es k pos) (aCf X.K n t):=by
 intro pins s σ H v u Q I r hw
 obtain ⟨a,xs,e1,hq,hl,hw⟩:=hw
 subst e1
 cases r
 obtain ⟨its,rv,ht,hz⟩:=I.tuple hq
 refine assign_Tuple_tuple (I.ok.hd hc) ht (by simp [hn,<-hl,rv.length]) hst fun h' hx=>?_
 have I1:aO X pins σ H {s with heap:=h'}:=I.kept (t':=s.toks) fun b o e=>hx b o (Nat.ne_of_lt (Heap.lt_size e)) e
 exact h pins _ σ H xs _ Q I1 (by simpa using rv) hw
def aCl (to ti:TE) (t:Zy):TG:=fun v σ H Q=>to σ H fun o H1=>ti σ H1 fun i H2=>t o i v H2 fun H3=>Q σ H3
theorem Qe {o i:Expr} {to ti:TE} {t:Zy} (ho:PE X o to) (hi:PE X i ti) (hs:aA4 X t)
  (ha:∀ v,assign (.Subscript o i pos) X.env v=(do
   let ov <-holding [v] (eval o X.env)
   let iv <-holding [v,ov] (eval i X.env)
   standAt pos
   holding [v,ov,iv] (setItem ov iv v)
   release [v,ov,iv] []):=by intro _;rfl):PG X (.Subscript o i pos) (aCl to ti t):=by
 intro pins s σ H v u Q I r h
 rw [ha]
 refine wpAny_bind (wpAny_holding (cF (ho pins s σ H _ I h) fun ov s1 ⟨x,H1,I1,r1,q1⟩=>?_))
 refine wpAny_bind (wpAny_holding (cF (hi pins s1 σ H1 _ I1 q1) fun iv s2 ⟨y,H2,I2,r2,q2⟩=>?_))
 refine wpAny_bind (wpAny_standAt (wpAny_bind (wpAny_holding (cF (hs pins s2 σ H2 x y v ov iv u _ I2 r1 r2 r q2) fun _ s3 ⟨H3,I3,q3⟩=>?_))))
 exact wpAny_release ⟨σ,H3,I3,q3⟩
def Bs (te:TE) (g:TG):TS:=fun D σ H=>te σ H fun x H1=>g x σ H1 D.nx
theorem Ow {tg e:Expr} {te:TE} {g:TG} (he:PE X e te) (hg:PG X tg g) (hs:swapsWithSole [tg] e pos.line X.env=pure false:=by rfl) (hw:swappedStores [tg] e X.env=pure none:=by rfl)
  (h1:(assignEach [tg] X.env).map (·.2)=[assign tg X.env]:=by rfl):PS X (.Assign [tg] e pos) (Bs te g):=by
 intro pins s σ H D I h
 refine wpAny_Assign_stores (cF (he pins s σ H _ I h) fun v s1 ⟨x,H1,I1,r1,q1⟩=>?_) hs hw
 rw [h1]
 exact cF (hg pins s1 σ H1 x v _ I1 r1 q1) fun _ s2 q=>q
theorem bA {i:Nat} {x:Str} {e:Expr} {te:TE} {pos':Pos} (hN:X.N.Nodup) (hi:X.N[i]?=some x) (hx:Loc X.env.scope x) (he:PE X e te) (hs:swapsWith e (some (.Name x pos')) pos.line X.env=pure false:=by rfl) (hf:X.fn x=true\/X.env.scope.names.lookup x=some .local:=by first|exact .inl rfl|exact .inr rfl|assumption):
  PS X (.Assign [.Name x pos'] e pos) (Bs te (mF i)):=by
 intro pins s σ H D I h
 refine wpAny_Assign_Name (cF (he pins s σ H _ I h) fun v s1 ⟨y,H1,I1,r1,q1⟩=>?_) hs
 exact wE I1 hN hi hx r1 (fun s2 I2=>⟨_,H1,I2,q1⟩) hf
end
section
variable {X:Cx} {pos:Pos}
def Yx (c:TT) (tb:TS):TS:=fun D σ H=>∃ W:Nat->St->Hp->Prop,(∃ m,W m σ H)/\∀ m σ H,W m σ H->
 c σ H fun b H1=>if b=true then ∃ N:St->Hp->Prop,(∀ σ' H',N σ' H'->∃ m',m'<m/\W m' σ' H')/\tb {D with nx:=N,ct:=N,bk:=D.nx} σ H1 else D.nx σ H1
theorem iQ {c:Expr} {body:List Stmt} {tc:TT} {tb:TS} (hp:PassesOwn (model X.prog X.w) X.A X.env X.xe) (hc:PT X c tc) (hb:zF X body tb):PS X (.While c body [] pos) (Yx tc tb):=by
 intro pins s σ H D I h
 obtain ⟨W,⟨m0,w0⟩,turn⟩:=h
 refine wpAny_While (codeAny_whileLoop (fun n s'=>∃ σ' H',aO X pins σ' H' s'/\W n σ' H') ?_ m0 ⟨σ,H,I,w0⟩)
 rintro n s1 ⟨σ1,H1,I1,w1⟩
 refine wpAny_passesOwn hp (cF (hc pins s1 σ1 H1 _ I1 (turn n σ1 H1 w1)) fun b s2 ⟨H2,I2,q2⟩=>?_)
 cases b with
 |true=>
  obtain ⟨N,hN,q2⟩:=q2
  rw [if_pos rfl]
  refine wpAny_passesOwn hp (cF (hb pins s2 σ1 H2 _ I2 q2) fun f s3 q3=>?_)
  cases f with
  |next=>
   obtain ⟨σ3,H3,I3,n3⟩:=q3
   obtain ⟨m',hm,w3⟩:=hN σ3 H3 n3
   exact ⟨m',hm,σ3,H3,I3,w3⟩
  |cont=>
   obtain ⟨σ3,H3,I3,n3⟩:=q3
   obtain ⟨m',hm,w3⟩:=hN σ3 H3 n3
   exact ⟨m',hm,σ3,H3,I3,w3⟩
  |brk=>exact q3
  |ret v=>exact q3
 |false=>
  rw [if_neg Bool.false_ne_true]
  exact wpAny_execs_nil ⟨σ1,H2,I2,q2⟩
end
structure It where
 go:Nat->Hp->Prop
 yld:Nat->Hp->V->Hp->Prop
 stop:Nat->Hp->Prop
def tS (X:Cx) (pins:List (Addr×Obj)) (H:Hp) (b:Addr):Prop:=
 H b=none/\b≠X.env.locals/\b∉X.fs/\(b∈X.ex\/X.s_0.heap.objs.size<=b)/\(∀ x c,X.env.cells.lookup x=some c->c≠b)/\∀ p∈X.pn++pins,p.1≠b
theorem aO.fpOk {X:Cx} {pins:List (Addr×Obj)} {σ:St} {H H':Hp} {s:Shared} {b:Addr} (I:aO X pins σ H s) (hb:s.heap.objs.size<=b) (hn:H' b=none):tS X pins H' b:=by
 refine ⟨hn,Nat.ne_of_gt (Nat.lt_of_lt_of_le I.lt hb),I.nofs hb,.inr (Nat.le_trans I.sz hb),fun x c e z=>?_,fun p hp z=>?_⟩
 ·obtain ⟨v,q⟩:=I.cell x c e
  exact absurd (Nat.lt_of_lt_of_le q.lt (by rw [z];exact hb)) (Nat.lt_irrefl _)
 ·exact absurd (Nat.lt_of_lt_of_le (Heap.lt_size (I.pin p hp).1) (by rw [z];exact hb)) (Nat.lt_irrefl _)
structure uR (P:Program) (w:World) (K:PySem.W.Frag) (tg:Expr) (J:It) (fp:List Addr) (it:Addr) (tn:Nat->Heap->Prop):Prop where
 mem:it∈fp
 obj:∀ i h,tn i h->∀ b∈fp,∃ o,h.get? b=some o/\∀ v,o.data≠.cell v
 keep:∀ i h h',tn i h->(∀ b∈fp,∀ o,h.get? b=some o->h'.get? b=some o)->tn i h'
 item:∀ (X:Cx),X.prog=P->X.w=w->X.K=K->X.calm=true->∀ (i:Nat) (pins:List (Addr×Obj)) (s:Shared) (σ:St) (H:Hp) (E:Value->Shared->Prop),aO X pins σ H s->(∀ b∈fp,tS X pins H b)->tn i s.heap->J.go i H->
  wpAny (model P w) X.A (pyNext (.ref it)) (fun r s1=>∃ u,r=some u/\
   wpAny (model P w) X.A (letOwnedTupleGo tg (.ref it) u) (fun _ s2=>∃ x H',aO X pins σ H' s2/\bQ x u/\J.yld i H x H'/\tn (i+1) s2.heap/\∀ b∈fp,H' b=none) E s1) E s
 done:∀ (X:Cx),X.prog=P->X.w=w->X.K=K->X.calm=true->∀ (i:Nat) (pins:List (Addr×Obj)) (s:Shared) (σ:St) (H:Hp) (E:Value->Shared->Prop),aO X pins σ H s->(∀ b∈fp,tS X pins H b)->tn i s.heap->J.stop i H->
  wpAny (model P w) X.A (pyNext (.ref it)) (fun r s1=>r=none/\aO X pins σ H s1) E s
 self:∀ (A:Around) (i:Nat) (s:Shared) (Q:Value->Shared->Prop) (E:Value->Shared->Prop),tn i s.heap->Q (.ref it) s->wpAny (model P w) A (pyIter (.ref it)) Q E s
abbrev TI:=St->Hp->(It->Hp->Prop)->Prop
def PIE (X:Cx) (pins:List (Addr×Obj)) (σ:St) (tg:Expr) (R:It->Hp->Prop) (itv:Value) (s2:Shared):Prop:=
 ∃ (it:Addr) (fp:List Addr) (tn:Nat->Heap->Prop) (J:It) (H':Hp),itv=.ref it/\aO X pins σ H' s2/\uR X.prog X.w X.K tg J fp it tn/\tn 0 s2.heap/\(∀ b∈fp,tS X pins H' b)/\R J H'
def PI (X:Cx) (tg iter:Expr) (wi:TI):Prop:=
 ∀ (pins:List (Addr×Obj)) (s:Shared) (σ:St) (H:Hp) (R:It->Hp->Prop),aO X pins σ H s->wi σ H R->
  wpAny (model X.prog X.w) X.A (eval iter X.env) (fun v s1=>wpAny (model X.prog X.w) X.A (pyIter v) (PIE X pins σ tg R) X.xe s1) X.xe s
theorem yY {M:Model} {A:Around} {E:Value->Shared->Prop} {s:Shared} {tg:Expr} {it:Addr} {u:Value} {o:Obj} {n:String} {vs:Array Value} {Q:Unit->Shared->Prop} (ho:s.heap.get? it=some o) (hc:o.cls=.type n) (hd:o.data=.fields vs)
  (hn:["enumerate","zip","dict_itemiterator","dict_reverseitemiterator","odict_iterator","itertools.zip_longest","itertools.pairwise"].contains n=false) (hQ:Q () s):wpAny M A (letOwnedTupleGo tg (.ref it) u) Q E s:=by
 unfold letOwnedTupleGo
 cases tg<;>first
  |exact wpAny_pure hQ
  |(cases u<;>first
    |exact wpAny_pure hQ
    |(refine wpAny_bind (wpAny_load ho ?_)
      rw [hc,hd]
      show wpAny M A (if (["enumerate","zip","dict_itemiterator","dict_reverseitemiterator","odict_iterator","itertools.zip_longest","itertools.pairwise"].contains n && vs[0]?==some (rawInt _))=true then _ else _) Q E s
      rw [if_neg (by intro h;rw [hn,Bool.false_and] at h;cases h)]
      exact wpAny_pure hQ))
def Wu (K:PySem.W.Frag) (a:Addr):It:=
 ⟨fun i H=>∃ xs x,dB K H a xs/\xs[i]?=some x,fun i H x H'=>H'=H/\∀ xs,dB K H a xs->xs[i]?=some x,fun i H=>∃ xs,dB K H a xs/\xs.length<=i⟩
def Itt (K:PySem.W.Frag) (a:Addr):It:=
 ⟨fun i H=>∃ xs x,cN K H a xs/\xs[i]?=some x,fun i H x H'=>H'=H/\∀ xs,cN K H a xs->xs[i]?=some x,fun i H=>∃ xs,cN K H a xs/\xs.length<=i⟩
def Mh (lo:Int) (n:Nat):It:=⟨fun i _=>i<n,fun i H x H'=>H'=H/\x=.int (lo+i),fun i _=>n<=i⟩
theorem Nd {P:Program} {w:World} {K:PySem.W.Frag} {tg:Expr} (a it:Addr):uR P w K tg (Wu K a) [it] it (fun i h=>h.IsListIter it a i) where
 mem:=by simp
 obj:=fun i h st b hb=>by
  have e:b=it:=by simpa using hb
  subst e
  obtain ⟨o,e,c,d⟩:=st
  exact ⟨o,e,fun v z=>by rw [d] at z;cases z⟩
 keep:=fun i h h' st k=>st.at fun o e=>k it (by simp) o e
 item:=by
  intro X hP hw hK hc i pins s σ H E I hf st hg
  subst hP hw hK
  obtain ⟨xs,x,hq,hx⟩:=hg
  obtain ⟨its,rv,p,hz⟩:=I.list hq
  obtain ⟨u,hu,ru⟩:=rv.get hx
  obtain ⟨f0,f1,f2,f3,f4,f5⟩:=hf it (by simp)
  refine wpAny_pyNext_list_item st p.isList (x:=u) (by simpa using hu) fun h' st' sb=>?_
  have I1:aO X pins σ H {s with heap:=h'}:=I.turned (t':=s.toks) (fun b o hb e=>(sb.2 b hb).trans e) f0 f1 f3 f4 f5
  obtain ⟨o,e,c,d⟩:=id st'
  exact ⟨u,rfl,yY (s:={s with heap:=h'}) e c d (by decide) ⟨x,H,I1,ru,⟨rfl,fun ys hy=>by rw [I.list_inj hy hq];exact hx⟩,st',fun b hb=>(hf b hb).1⟩⟩
 done:=by
  intro X hP hw hK hc i pins s σ H E I hf st hg
  subst hP hw hK
  obtain ⟨xs,hq,hx⟩:=hg
  obtain ⟨its,rv,p,hz⟩:=I.list hq
  obtain ⟨f0,f1,f2,f3,f4,f5⟩:=hf it (by simp)
  have hl:=rv.length
  exact wpAny_pyNext_list_end (I.ok.hd hc) st p.isList (by simp;omega) fun h' eb=>⟨rfl,I.turned (t':=s.toks) (fun b o hb e=>eb b o hb e) f0 f1 f3 f4 f5⟩
 self:=fun _ _ _ _ _ st h=>wpAny_pyIter_listiter st h
theorem Hg {P:Program} {w:World} {K:PySem.W.Frag} {tg:Expr} (a it:Addr):uR P w K tg (Itt K a) [it] it (fun i h=>h.IsTupleIter it a i) where
 mem:=by simp
 obj:=fun i h st b hb=>by
  have e:b=it:=by simpa using hb
  subst e
  obtain ⟨o,e,c,d⟩:=st
  exact ⟨o,e,fun v z=>by rw [d] at z;cases z⟩
 keep:=fun i h h' st k=>st.at fun o e=>k it (by simp) o e
 item:=by
  intro X hP hw hK hc i pins s σ H E I hf st hg
  subst hP hw hK
  obtain ⟨xs,x,hq,hx⟩:=hg
  obtain ⟨its,rv,p,hz⟩:=I.tuple hq
  obtain ⟨u,hu,ru⟩:=rv.get hx
  obtain ⟨f0,f1,f2,f3,f4,f5⟩:=hf it (by simp)
  refine wpAny_pyNext_tuple_item st (show s.heap.IsTuple a its.toArray from p) (x:=u) (by simpa using hu) fun h' st' sb=>?_
  have I1:aO X pins σ H {s with heap:=h'}:=I.turned (t':=s.toks) (fun b o hb e=>(sb.2 b hb).trans e) f0 f1 f3 f4 f5
  obtain ⟨o,e,c,d⟩:=id st'
  exact ⟨u,rfl,yY (s:={s with heap:=h'}) e c d (by decide) ⟨x,H,I1,ru,⟨rfl,fun ys hy=>by rw [I.tuple_inj hy hq];exact hx⟩,st',fun b hb=>(hf b hb).1⟩⟩
 done:=by
  intro X hP hw hK hc i pins s σ H E I hf st hg
  subst hP hw hK
  obtain ⟨xs,hq,hx⟩:=hg
  obtain ⟨its,rv,p,hz⟩:=I.tuple hq
  obtain ⟨f0,f1,f2,f3,f4,f5⟩:=hf it (by simp)
  have hl:=rv.length
  exact wpAny_pyNext_tuple_end (I.ok.hd hc) st (show s.heap.IsTuple a its.toArray from p) (by simp;omega) fun h' eb=>⟨rfl,I.turned (t':=s.toks) (fun b o hb e=>eb b o hb e) f0 f1 f3 f4 f5⟩
 self:=fun _ _ _ _ _ st h=>wpAny_pyIter_tupleiter st h
theorem Go {P:Program} {w:World} {K:PySem.W.Frag} {tg:Expr} (it:Addr) (lo:Int) (n:Nat):uR P w K tg (Mh lo n) [it] it (fun i h=>IsRangeIter h it (lo+(i:Nat) * 1) ((n:Int) - (i:Nat)) 1) where
 mem:=by simp
 obj:=fun i h st b hb=>by
  have e:b=it:=by simpa using hb
  subst e
  exact ⟨_,st,fun v z=>by
   have z':Data.fields _=Data.cell v:=z
   cases z'⟩
 keep:=fun i h h' st k=>k it (by simp) _ st
 item:=by
  intro X hP hw hK hc i pins s σ H E I hf st hg
  subst hP hw hK
  obtain ⟨f0,f1,f2,f3,f4,f5⟩:=hf it (by simp)
  have W:=Walks.range (prog:=X.prog) (w:=X.w) (I.ok.hd hc) it lo 1 n
  refine W.item i s _ _ hg st fun v h' tk hv st' kk=>?_
  obtain ⟨t,rfl⟩:=hv
  have I1:aO X pins σ H {s with heap:=h',toks:=tk}:=I.turned (fun b o hb e=>kk b o (by simpa using hb) e) f0 f1 f3 f4 f5
  refine ⟨_,rfl,yY (s:={s with heap:=h',toks:=tk}) (n:="range_iterator") st' rfl rfl (by decide) ⟨.int (lo+i),H,I1,⟨t,?_⟩,⟨rfl,rfl⟩,st',fun b hb=>(hf b hb).1⟩⟩
  rw [Int.mul_one]
 done:=by
  intro X hP hw hK hc i pins s σ H E I hf st hg
  subst hP hw hK
  obtain ⟨f0,f1,f2,f3,f4,f5⟩:=hf it (by simp)
  exact wpAny_pyNext_range_end (I.ok.hd hc) st (by have:n<=i:=hg;omega) fun h' eb=>⟨rfl,I.turned (t':=s.toks) (fun b o hb e=>eb b o hb e) f0 f1 f3 f4 f5⟩
 self:=fun _ _ _ _ _ st h=>wpAny_pyIter_rangeiter st h
section
variable {X:Cx} {tg:Expr}
def aBe (K:PySem.W.Frag) (tl:TE):TI:=fun σ H R=>tl σ H fun x H1=>∃ a,x=.ref a/\(∃ xs,dB K H1 a xs)/\R (Wu K a) H1
def aC3 (K:PySem.W.Frag) (tl:TE):TI:=fun σ H R=>tl σ H fun x H1=>∃ a,x=.ref a/\(∃ xs,cN K H1 a xs)/\R (Itt K a) H1
theorem qN {l:Expr} {tl:TE} (hl:PE X l tl):PI X tg l (aBe X.K tl):=by
 intro pins s σ H R I h
 refine cF (hl pins s σ H _ I h) fun v s1 ⟨x,H1,I1,r1,q1⟩=>?_
 obtain ⟨a,e,⟨xs,hq⟩,q⟩:=q1
 subst e
 cases r1
 obtain ⟨its,rv,p,hz⟩:=I1.list hq
 refine wpAny_pyIter_list p.isList ?_
 refine ⟨s1.heap.objs.size,[s1.heap.objs.size],_,_,H1,rfl,I1.kept (t':=s1.toks) fun b o e=>Heap.get?_push_of_some _ e,Nd a _,⟨_,Heap.get?_push_size _ rfl,rfl,rfl⟩,fun b hb=>?_,q⟩
 have e:b=s1.heap.objs.size:=by simpa using hb
 subst e
 exact I1.fpOk (Nat.le_refl _) (I1.hok.fresh (Nat.le_refl _))
theorem Zj {l:Expr} {tl:TE} (hl:PE X l tl):PI X tg l (aC3 X.K tl):=by
 intro pins s σ H R I h
 refine cF (hl pins s σ H _ I h) fun v s1 ⟨x,H1,I1,r1,q1⟩=>?_
 obtain ⟨a,e,⟨xs,hq⟩,q⟩:=q1
 subst e
 cases r1
 obtain ⟨its,rv,p,hz⟩:=I1.tuple hq
 refine wpAny_pyIter_tuple (show s1.heap.IsTuple a its.toArray from p) ?_
 refine ⟨s1.heap.objs.size,[s1.heap.objs.size],_,_,H1,rfl,I1.kept (t':=s1.toks) fun b o e=>Heap.get?_push_of_some _ e,Hg a _,⟨_,Heap.get?_push_size _ rfl,rfl,rfl⟩,fun b hb=>?_,q⟩
 have e:b=s1.heap.objs.size:=by simpa using hb
 subst e
 exact I1.fpOk (Nat.le_refl _) (I1.hok.fresh (Nat.le_refl _))
theorem Eg {pins:List (Addr×Obj)} {σ:St} {H:Hp} {s:Shared} {R:It->Hp->Prop} {E:Value->Shared->Prop} {lo hi:Int} {t u v:Tok} {tk:Nat} (I:aO X pins σ H s) (h1: -(2 ^ 62)<=lo) (h2:lo<2 ^ 62) (h3: -(2 ^ 62)<=hi) (h4:hi<2 ^ 62)
  (q:R (Mh lo (hi - lo).toNat) H):wpAny (model X.prog X.w) X.A (pyIter (.ref s.heap.objs.size)) (PIE X pins σ tg R) E {s with heap:=s.heap.push {cls:=.type "range",data:=.fields #[.int lo t,.int hi u,.int 1 v]},toks:=tk}:=by
 refine wpAny_pyIter_range (IsRange.new ..) (small_one h1 h2 h3 h4) ?_
 have I1:aO X pins σ H {s with heap:=s.heap.push {cls:=.type "range",data:=.fields #[.int lo t,.int hi u,.int 1 v]},toks:=tk}:=I.kept fun b o e=>Heap.get?_push_of_some _ e
 refine ⟨(s.heap.push {cls:=.type "range",data:=.fields #[.int lo t,.int hi u,.int 1 v]}).objs.size,[(s.heap.push {cls:=.type "range",data:=.fields #[.int lo t,.int hi u,.int 1 v]}).objs.size],_,_,H,rfl,
  I1.kept (t':=tk) fun b o e=>Heap.get?_push_of_some _ e,Go _ lo (hi - lo).toNat,?_,fun b hb=>?_,q⟩
 ·have e1:lo+((0:Nat):Int) * 1=lo:=by simp
  have e2:(((hi - lo).toNat:Nat):Int) - ((0:Nat):Int)=Builtin.Range.rangeSize lo hi 1:=by rw [rangeSize_one];split<;>omega
  show IsRangeIter _ _ (lo+((0:Nat):Int) * 1) ((((hi - lo).toNat:Nat):Int) - ((0:Nat):Int)) 1
  rw [e1,e2]
  exact Heap.get?_push_size _ rfl
 ·have e:b=(s.heap.push {cls:=.type "range",data:=.fields #[.int lo t,.int hi u,.int 1 v]}).objs.size:=by simpa using hb
  subst e
  exact I1.fpOk (Nat.le_refl _) (I1.hok.fresh (Nat.le_refl _))
def aAq (ta:TA):TI:=fun σ H R=>ta σ H fun vs H1=>∃ j:Int,vs=[.int j]/\ -(2 ^ 62)<=j/\j<2 ^ 62/\R (Mh 0 j.toNat) H1
def aAl (ta:TA):TI:=fun σ H R=>ta σ H fun vs H1=>∃ i j:Int,vs=[.int i,.int j]/\(-(2 ^ 62)<=i/\i<2 ^ 62/\ -(2 ^ 62)<=j/\j<2 ^ 62)/\R (Mh i (j - i).toNat) H1
theorem iI {a:Expr} {ta:TA} {p pos:Pos} (hg:Gl X "range") (hm:X.mg "range"=none) (ha:PA X [a] ta) (hs:starEach [a] X.env=[(false,eval a X.env)]:=by rfl):PI X tg (.Call (.Name "range" p) [a] [] pos) (aAq ta):=by
 intro pins s σ H R I h
 refine Call_ (rY I hg hm boot_range (PyProof.Rows.callWith_type1 (cF (ha pos pins s σ H _ I h) fun us s1 ⟨vs,H1,I1,r1,q1⟩=>?_) hs rfl))
 obtain ⟨j,e,q1,q2,q⟩:=q1
 subst e
 cases r1 with
 |cons r rr=>
  cases rr
  obtain ⟨t,rfl⟩:=r
  exact call_range_1 (Eg I1 (by omega) (by omega) q1 q2 (by simpa using q))
theorem Kw {a b:Expr} {ta:TA} {p pos:Pos} (hg:Gl X "range") (hm:X.mg "range"=none) (ha:PA X [a,b] ta) (hs:starEach [a,b] X.env=[(false,eval a X.env),(false,eval b X.env)]:=by rfl) (hs2:starEach [b] X.env=[(false,eval b X.env)]:=by rfl):
  PI X tg (.Call (.Name "range" p) [a,b] [] pos) (aAl ta):=by
 intro pins s σ H R I h
 refine Call_ (rY I hg hm boot_range (PyProof.Rows.callWith_type1 (cF (ha pos pins s σ H _ I h) fun us s1 ⟨vs,H1,I1,r1,q1⟩=>?_) (by rw [hs,hs2]) (by rw [hs2];rfl)))
 obtain ⟨i,j,e,⟨q1,q2,q3,q4⟩,q⟩:=q1
 subst e
 cases r1 with
 |cons r rr=>
  cases rr with
  |cons r' rr=>
   cases rr
   obtain ⟨t,rfl⟩:=r
   obtain ⟨t',rfl⟩:=r'
   exact call_range_2 (Eg I1 q1 q2 q3 q4 q)
def aDf (wi:TI) (g:TG) (tb:TS):TS:=fun D σ H=>wi σ H fun J H1=>∃ W:Nat->Nat->St->Hp->Prop,(∃ m,W 0 m σ H1)/\∀ i m σ H,W i m σ H->
 (J.stop i H/\D.nx σ H)\/(J.go i H/\∃ N:St->Hp->Prop,(∀ σ' H',N σ' H'->∃ m',m'<m/\W (i+1) m' σ' H')/\∀ x H',J.yld i H x H'->g x σ H' fun σ2 H2=>tb {D with nx:=N,ct:=N,bk:=D.nx} σ2 H2)
def rG (fp:List Addr) (h:Heap):List (Addr×Obj):=fp.filterMap fun b=>(h.get? b).map fun o=>(b,o)
theorem iJ {fp:List Addr} {h:Heap} {b:Addr} {o:Obj} (hb:b∈fp) (e:h.get? b=some o):(b,o)∈rG fp h:=List.mem_filterMap.mpr ⟨b,hb,by rw [e];rfl⟩
theorem Kv {fp:List Addr} {h:Heap} {p:Addr×Obj} (hp:p∈rG fp h):p.1∈fp/\h.get? p.1=some p.2:=by
 obtain ⟨b,hb,e⟩:=List.mem_filterMap.mp hp
 cases q:h.get? b with
 |none=>rw [q] at e;cases e
 |some o=>
  rw [q] at e
  have e':(b,o)=p:=Option.some.inj e
  subst e'
  exact ⟨hb,q⟩
theorem aO.pinned {pins:List (Addr×Obj)} {σ:St} {H:Hp} {s:Shared} {fp:List Addr} (I:aO X pins σ H s) (hf:∀ b∈fp,tS X pins H b) (ho:∀ b∈fp,∃ o,s.heap.get? b=some o/\∀ v,o.data≠.cell v):aO X (pins++rG fp s.heap) σ H s:=
 I.pins_of fun p hp=>(List.mem_append.mp hp).elim (fun z=>I.pin p (List.mem_append_right _ z)) fun z=>by
  obtain ⟨hb,e⟩:=Kv z
  obtain ⟨f0,f1,f2,_⟩:=hf p.1 hb
  obtain ⟨o,e',d⟩:=ho p.1 hb
  rw [e] at e';cases e'
  exact ⟨e,f0,f1,f2,d⟩
theorem aO.unpinned {pins pl:List (Addr×Obj)} {σ:St} {H:Hp} {s:Shared} (I:aO X (pins++pl) σ H s):aO X pins σ H s:=I.pins_of fun p hp=>I.pin p (List.mem_append_right _ (List.mem_append_left _ hp))
theorem eA {iter:Expr} {body:List Stmt} {wi:TI} {g:TG} {tb:TS} {pos:Pos} (hp:PassesOwn (model X.prog X.w) X.A X.env X.xe) (hc:X.calm=true) (hi:PI X tg iter wi) (hg:PG X tg g) (hb:zF X body tb)
  (hs:∀ x,foldedSetIterable iter X.env x=pure x:=by intro _;rfl):PS X (.For tg iter body [] pos) (aDf wi g tb):=by
 intro pins s σ H D I h
 refine wpAny_For (cF (hi pins s σ H _ I h) fun v s1 h1=>cF h1 fun itv s2 h2=>?_) hs
 obtain ⟨it,fp,tn,J,H2,e,I2,T,st2,f2,W,⟨m0,w0⟩,turn⟩:=h2
 subst e
 have stat:∀ {H':Hp},(∀ b∈fp,H' b=none)->∀ b∈fp,tS X pins H' b:=fun hn b hb=>⟨hn b hb,(f2 b hb).2⟩
 refine codeAny_forLoop_any (fun n s'=>∃ i σ' H',aO X pins σ' H' s'/\tn i s'.heap/\(∀ b∈fp,H' b=none)/\W i n σ' H') ?_ m0 ⟨0,σ,H2,I2,st2,fun b hb=>(f2 b hb).1,w0⟩
 rintro n s3 ⟨i,σ3,H3,I3,st3,fr3,w3⟩
 rcases turn i n σ3 H3 w3 with ⟨stop,qn⟩|⟨go,N,hN,step⟩
 ·refine wpAny_passesOwn hp (cF (T.done X rfl rfl rfl hc i pins s3 σ3 H3 X.xe I3 (stat fr3) st3 stop) fun r s4 ⟨hr,I4⟩=>?_)
  subst hr
  exact wpAny_execs_nil ⟨σ3,H3,I4,qn⟩
 ·refine wpAny_passesOwn hp (cF (T.item X rfl rfl rfl hc i pins s3 σ3 H3 X.xe I3 (stat fr3) st3 go) fun r s4 ⟨u,hr,h4⟩=>?_)
  subst hr
  refine wpAny_passesOwn hp (cF h4 fun _ s5 ⟨x,H5,I5,r5,y5,st5,fr5⟩=>?_)
  have I5':=I5.pinned (stat fr5) (T.obj _ _ st5)
  refine wpAny_passesOwn hp (cF (hg _ s5 σ3 H5 x u _ I5' r5 (step x H5 y5)) fun _ s6 ⟨σ6,H6,I6,q6⟩=>?_)
  refine wpAny_passesOwn hp (cF (hb _ s6 σ6 H6 _ I6 q6) fun f s7 q7=>?_)
  have again:∀ {σ7:St} {H7:Hp},aO X (pins++rG fp s5.heap) σ7 H7 s7->N σ7 H7->∃ m,m<n/\∃ i σ' H',aO X pins σ' H' s7/\tn i s7.heap/\(∀ b∈fp,H' b=none)/\W i m σ' H':=fun {σ7 H7} I7 n7=>by
   obtain ⟨m',hm,w7⟩:=hN σ7 H7 n7
   refine ⟨m',hm,i+1,σ7,H7,I7.unpinned,T.keep _ _ _ st5 fun b hb o e=>(I7.pin (b,o) (List.mem_append_right _ (List.mem_append_right _ (iJ hb e)))).1,fun b hb=>?_,w7⟩
   obtain ⟨o,e,d⟩:=T.obj _ _ st5 b hb
   exact (I7.pin (b,o) (List.mem_append_right _ (List.mem_append_right _ (iJ hb e)))).2.1
  cases f with
  |next=>obtain ⟨σ7,H7,I7,n7⟩:=q7;exact again I7 n7
  |cont=>obtain ⟨σ7,H7,I7,n7⟩:=q7;exact again I7 n7
  |brk=>obtain ⟨σ7,H7,I7,q7⟩:=q7;exact ⟨σ7,H7,I7.unpinned,q7⟩
  |ret v=>obtain ⟨x7,σ7,H7,I7,r7,q7⟩:=q7;exact ⟨x7,σ7,H7,I7.unpinned,r7,q7⟩
end
theorem Dh {K:PySem.W.Frag} {a:Addr} {xs:List V} {g:TG} {tb:TS} {D:fT} {σ:St} {H:Hp} (Pv:Nat->St->Hp->Prop) (h0:Pv 0 σ H) (hl:∀ i σ H,i<=xs.length->Pv i σ H->dB K H a xs)
  (hs:∀ i x σ H,xs[i]?=some x->Pv i σ H->g x σ H fun σ2 H2=>tb {D with nx:=Pv (i+1),ct:=Pv (i+1),bk:=D.nx} σ2 H2) (hd:∀ σ H,Pv xs.length σ H->D.nx σ H):
  ∃ W:Nat->Nat->St->Hp->Prop,(∃ m,W 0 m σ H)/\∀ i m σ H,W i m σ H->
   ((Wu K a).stop i H/\D.nx σ H)\/((Wu K a).go i H/\∃ N:St->Hp->Prop,(∀ σ' H',N σ' H'->∃ m',m'<m/\W (i+1) m' σ' H')/\∀ x H',(Wu K a).yld i H x H'->g x σ H' fun σ2 H2=>tb {D with nx:=N,ct:=N,bk:=D.nx} σ2 H2):=by
 refine ⟨fun i m σ H=>m=xs.length - i/\i<=xs.length/\Pv i σ H,⟨xs.length,by simp,Nat.zero_le _,h0⟩,?_⟩
 rintro i m σ H ⟨rfl,hi,p⟩
 have q:=hl i σ H hi p
 by_cases hlt:i<xs.length
 ·refine .inr ⟨⟨xs,xs[i],q,by simp [hlt]⟩,Pv (i+1),fun σ' H' p'=>⟨xs.length - (i+1),by omega,rfl,hlt,p'⟩,fun x H' y=>?_⟩
  obtain ⟨e,y⟩:=y
  subst e
  exact hs i x σ _ (y xs q) p
 ·have e:i=xs.length:=by omega
  subst e
  exact .inl ⟨⟨xs,q,Nat.le_refl _⟩,hd σ H p⟩
theorem Us {K:PySem.W.Frag} {a:Addr} {xs:List V} {g:TG} {tb:TS} {D:fT} {σ:St} {H:Hp} (Pv:Nat->St->Hp->Prop) (h0:Pv 0 σ H) (hl:∀ i σ H,i<=xs.length->Pv i σ H->cN K H a xs)
  (hs:∀ i x σ H,xs[i]?=some x->Pv i σ H->g x σ H fun σ2 H2=>tb {D with nx:=Pv (i+1),ct:=Pv (i+1),bk:=D.nx} σ2 H2) (hd:∀ σ H,Pv xs.length σ H->D.nx σ H):
  ∃ W:Nat->Nat->St->Hp->Prop,(∃ m,W 0 m σ H)/\∀ i m σ H,W i m σ H->
   ((Itt K a).stop i H/\D.nx σ H)\/((Itt K a).go i H/\∃ N:St->Hp->Prop,(∀ σ' H',N σ' H'->∃ m',m'<m/\W (i+1) m' σ' H')/\∀ x H',(Itt K a).yld i H x H'->g x σ H' fun σ2 H2=>tb {D with nx:=N,ct:=N,bk:=D.nx} σ2 H2):=by
 refine ⟨fun i m σ H=>m=xs.length - i/\i<=xs.length/\Pv i σ H,⟨xs.length,by simp,Nat.zero_le _,h0⟩,?_⟩
 rintro i m σ H ⟨rfl,hi,p⟩
 have q:=hl i σ H hi p
 by_cases hlt:i<xs.length
 ·refine .inr ⟨⟨xs,xs[i],q,by simp [hlt]⟩,Pv (i+1),fun σ' H' p'=>⟨xs.length - (i+1),by omega,rfl,hlt,p'⟩,fun x H' y=>?_⟩
  obtain ⟨e,y⟩:=y
  subst e
  exact hs i x σ _ (y xs q) p
 ·have e:i=xs.length:=by omega
  subst e
  exact .inl ⟨⟨xs,q,Nat.le_refl _⟩,hd σ H p⟩
theorem sB {lo:Int} {n:Nat} {g:TG} {tb:TS} {D:fT} {σ:St} {H:Hp} (Pv:Nat->St->Hp->Prop) (h0:Pv 0 σ H)
  (hs:∀ i σ H,i<n->Pv i σ H->g (.int (lo+i)) σ H fun σ2 H2=>tb {D with nx:=Pv (i+1),ct:=Pv (i+1),bk:=D.nx} σ2 H2) (hd:∀ σ H,Pv n σ H->D.nx σ H):
  ∃ W:Nat->Nat->St->Hp->Prop,(∃ m,W 0 m σ H)/\∀ i m σ H,W i m σ H->
   ((Mh lo n).stop i H/\D.nx σ H)\/((Mh lo n).go i H/\∃ N:St->Hp->Prop,(∀ σ' H',N σ' H'->∃ m',m'<m/\W (i+1) m' σ' H')/\∀ x H',(Mh lo n).yld i H x H'->g x σ H' fun σ2 H2=>tb {D with nx:=N,ct:=N,bk:=D.nx} σ2 H2):=by
 refine ⟨fun i m σ H=>m=n - i/\i<=n/\Pv i σ H,⟨n,by simp,Nat.zero_le _,h0⟩,?_⟩
 rintro i m σ H ⟨rfl,hi,p⟩
 by_cases hlt:i<n
 ·refine .inr ⟨hlt,Pv (i+1),fun σ' H' p'=>⟨n - (i+1),by omega,rfl,hlt,p'⟩,fun x H' y=>?_⟩
  obtain ⟨e,y⟩:=y
  subst e y
  exact hs i σ _ hlt p
 ·have e:i=n:=by omega
  subst e
  exact .inl ⟨Nat.le_refl _,hd σ H p⟩
abbrev R2:=V->V->Hp->VK->Prop
def tN (X:Cx) (f:Value->Value->Sem Value) (r:R2):Prop:=
 ∀ (pins:List (Addr×Obj)) (s:Shared) (σ:St) (H:Hp) (x y:V) (v u:Value) (Q:VK),aO X pins σ H s->bQ x v->bQ y u->r x y H Q->
  wpAny (model X.prog X.w) X.A (f v u) (EP X pins σ Q) X.xe s
def UnR (X:Cx) (f:Value->Sem Value) (r:V->Hp->VK->Prop):Prop:=
 ∀ (pins:List (Addr×Obj)) (s:Shared) (σ:St) (H:Hp) (x:V) (v:Value) (Q:VK),aO X pins σ H s->bQ x v->r x H Q->
  wpAny (model X.prog X.w) X.A (f v) (EP X pins σ Q) X.xe s
def oG (X:Cx) (f:Value) (r:List V->Hp->VK->Prop):Prop:=
 ∀ (pins:List (Addr×Obj)) (s:Shared) (σ:St) (H:Hp) (xs:List V) (us:List Value) (Q:VK),aO X pins σ H s->aZ xs us->r xs H Q->
  wpAny (model X.prog X.w) X.A (call f us) (EP X pins σ Q) X.xe s
def Yi (r:R2) (ta tb:TE):TE:=fun σ H Q=>ta σ H fun x H1=>tb σ H1 fun y H2=>r x y H2 Q
def tUn (r:V->Hp->VK->Prop) (ta:TE):TE:=fun σ H Q=>ta σ H fun x H1=>r x H1 Q
def rI (C:Int->Int->Prop) (g:Int->Int->V):R2:=fun x y H Q=>∃ i j,x=.int i/\y=.int j/\C i j/\Q (g i j) H
def Wf (g:Int->Int->V):R2:=fun x y H Q=>∃ i j,x=.int i/\y=.int j/\Q (g i j) H
def rU (g:Int->V):V->Hp->VK->Prop:=fun x H Q=>∃ i,x=.int i/\Q (g i) H
section
variable {X:Cx} {a b c:Expr} {ta tb tc:TE} {pos:Pos}
theorem Xo (ha:PE X a ta) (hb:PE X b tb) {pins:List (Addr×Obj)} {s:Shared} {σ:St} {H:Hp} {R:V->V->Hp->Prop} (I:aO X pins σ H s)
  (h:ta σ H fun x H1=>tb σ H1 fun y H2=>R x y H2) {Q:Value->Shared->Prop} {f:Value->Value->Sem Value}
  (hf:∀ v u s2 x y H2,aO X pins σ H2 s2->bQ x v->bQ y u->R x y H2->wpAny (model X.prog X.w) X.A (f v u) Q X.xe s2):
  wpAny (model X.prog X.w) X.A (eval a X.env) (fun v s₁=>wpAny (model X.prog X.w) X.A (eval b X.env) (fun u s₂=>wpAny (model X.prog X.w) X.A (f v u) Q X.xe s₂) X.xe s₁) X.xe s:=by
 refine cF (ha pins s σ H _ I h) fun v s1 ⟨x,H1,I1,r1,q1⟩=>?_
 refine cF (hb pins s1 σ H1 _ I1 q1) fun u s2 ⟨y,H2,I2,r2,q2⟩=>?_
 exact hf v u s2 x y H2 I2 r1 r2 q2
theorem cU {op:Operator} {r:R2} (ho:tN X (binaryOp op) r) (ha:PE X a ta) (hb:PE X b tb):PE X (.BinOp a op b pos) (Yi r ta tb):=by
 intro pins s σ H Q I h
 exact wpAny_BinOp (Xo ha hb I h fun v u s2 x y H2 I2 rx ry q=>ho pins s2 σ H2 x y v u Q I2 rx ry q)
theorem zQ {op:UnaryOp} {r:V->Hp->VK->Prop} (ho:UnR X (unaryOp op) r) (ha:PE X a ta):PE X (.UnaryOp op a pos) (tUn r ta):=by
 intro pins s σ H Q I h
 exact UnaryOp_ (cF (ha pins s σ H _ I h) fun v s1 ⟨x,H1,I1,r1,q1⟩=>ho pins s1 σ H1 x v Q I1 r1 q1)
theorem opI {f:Value->Value->Sem Value} {C:Int->Int->Prop} {g:Int->Int->Int}
  (rule:∀ (i j:Int) (t u:Tok) (s:Shared) (Q:Value->Shared->Prop) (E:Value->Shared->Prop),C i j->Q (.int (g i j) s.toks) {s with toks:=s.toks+1}->wpAny (model X.prog X.w) X.A (f (.int i t) (.int j u)) Q E s):
  tN X f (rI C fun i j=>.int (g i j)):=by
 intro pins s σ H x y v u Q I rx ry h
 obtain ⟨i,j,rfl,rfl,hc,q⟩:=h
 obtain ⟨t,rfl⟩:=rx
 obtain ⟨t',rfl⟩:=ry
 exact rule i j t t' s _ _ hc ⟨.int (g i j),H,I.tok _,⟨_,rfl⟩,q⟩
theorem aB5 {f:Value->Value->Sem Value} {g:Int->Int->Int}
  (rule:∀ (i j:Int) (t u:Tok) (s:Shared) (Q:Value->Shared->Prop) (E:Value->Shared->Prop),Q (.int (g i j) s.toks) {s with toks:=s.toks+1}->wpAny (model X.prog X.w) X.A (f (.int i t) (.int j u)) Q E s):
  tN X f (Wf fun i j=>.int (g i j)):=by
 intro pins s σ H x y v u Q I rx ry h
 obtain ⟨i,j,rfl,rfl,q⟩:=h
 obtain ⟨t,rfl⟩:=rx
 obtain ⟨t',rfl⟩:=ry
 exact rule i j t t' s _ _ ⟨.int (g i j),H,I.tok _,⟨_,rfl⟩,q⟩
theorem aBp {f:Value->Value->Sem Value} {g:Int->Int->Bool}
  (rule:∀ (i j:Int) (t u:Tok) (s:Shared) (Q:Value->Shared->Prop) (E:Value->Shared->Prop),Q (.bool (g i j)) s->wpAny (model X.prog X.w) X.A (f (.int i t) (.int j u)) Q E s):
  tN X f (Wf fun i j=>.bl (g i j)):=by
 intro pins s σ H x y v u Q I rx ry h
 obtain ⟨i,j,rfl,rfl,q⟩:=h
 obtain ⟨t,rfl⟩:=rx
 obtain ⟨t',rfl⟩:=ry
 exact rule i j t t' s _ _ ⟨.bl (g i j),H,I,rfl,q⟩
def Yq (i j:Int):Prop:=(-(2 ^ 64)<i/\i<2 ^ 64)\/(-(2 ^ 64)<j/\j<2 ^ 64)
theorem Yq.ok {i j:Int} (h:Yq i j):IntMulOk i j:=by
 rcases h with ⟨h1,h2⟩|⟨h1,h2⟩
 ·exact .of_left (intBits_le_64 h1 h2)
 ·exact .of_right (intBits_le_64 h1 h2)
theorem gQ:tN X (binaryOp .Add) (Wf fun i j=>.int (i+j)):=aB5 fun _ _ _ _ _ _ _ q=>add_int q
theorem eR:tN X (binaryOp .Sub) (Wf fun i j=>.int (i - j)):=aB5 fun _ _ _ _ _ _ _ q=>sub_int q
theorem Qv:tN X (binaryOp .Mult) (rI Yq fun i j=>.int (i * j)):=opI fun _ _ _ _ _ _ _ hc q=>mul_int q hc.ok
theorem Xe:tN X (binaryOp .Mod) (rI (fun _ j=>0<j) fun i j=>.int (i % j)):=opI fun i j _ _ _ _ _ hc q=>by
 have h1:(0:Int)<j:=hc
 exact mod_int' (by omega) (by rw [Int.fmod_eq_emod_of_nonneg i (by omega)];exact q)
theorem unI {f:Value->Sem Value} {g:Int->Int}
  (rule:∀ (i:Int) (t:Tok) (s:Shared) (Q:Value->Shared->Prop) (E:Value->Shared->Prop),Q (.int (g i) s.toks) {s with toks:=s.toks+1}->wpAny (model X.prog X.w) X.A (f (.int i t)) Q E s):
  UnR X f (rU fun i=>.int (g i)):=by
 intro pins s σ H x v Q I rx h
 obtain ⟨i,rfl,q⟩:=h
 obtain ⟨t,rfl⟩:=rx
 exact rule i t s _ _ ⟨.int (g i),H,I.tok _,⟨_,rfl⟩,q⟩
theorem rZ:UnR X (unaryOp .USub) (rU fun i=>.int (-i)):=unI fun _ _ _ _ _ q=>neg_int q
end
def aBz:V->V->Bool
 |.non,.non=>true|.non,.int _=>true|.int _,.non=>true|.non,.bl _=>true|.bl _,.non=>true|.non,.str _=>true|.str _,.non=>true
 |.int _,.int _=>true|.bl _,.bl _=>true|.str _,.str _=>true|.byt _,.byt _=>true
 |.int _,.str _=>true|.str _,.int _=>true|.bl _,.str _=>true|.str _,.bl _=>true
 |_,_=>false
def rEq:R2:=fun x y H Q=>aBz x y=true/\Q (.bl (decide (x=y))) H
def rNe:R2:=fun x y H Q=>aBz x y=true/\Q (.bl (!decide (x=y))) H
theorem tV {i j:Int}:decide (V.int i=V.int j)=(i==j):=by
 rw [Bool.eq_iff_iff]
 simp
theorem Ra {i j:Bool}:decide (V.bl i=V.bl j)=(i==j):=by
 rw [Bool.eq_iff_iff]
 simp
theorem Jr {i j:Str}:decide (V.str i=V.str j)=(i==j):=by
 rw [Bool.eq_iff_iff]
 simp
theorem Ke {i j:Array UInt8}:decide (V.byt i=V.byt j)=(i.toList==j.toList):=by
 rw [Bool.eq_iff_iff]
 cases i
 cases j
 simp
section
variable {X:Cx} {a b c:Expr} {ta tb tc:TE} {pos:Pos}
theorem cC {pins:List (Addr×Obj)} {σ:St} {H:Hp} {s:Shared} {Q:VK} {k k':Bool} (I:aO X pins σ H s) (q:Q (.bl k) H) (e:k=k'):EP X pins σ Q (.bool k') s:=by
 subst e
 exact ⟨.bl k,H,I,rfl,q⟩
theorem qR:tN X (compareOp .Eq) rEq:=by
 intro pins s σ H x y v u Q I rx ry h
 obtain ⟨hs,q⟩:=h
 cases x with
 |non=>
  cases rx
  cases y with
  |non=>cases ry;exact PySem.EqNone.eq_none_none (cC I q (by simp))
  |bl j=>cases ry;exact PySem.EqNone.eq_none_bool (cC I q (by simp))
  |int j=>obtain ⟨t',rfl⟩:=ry;exact PySem.EqNone.eq_none_int (cC I q (by simp))
  |str j=>obtain ⟨t',rfl⟩:=ry;exact PySem.EqNone.eq_none_str (cC I q (by simp))
  |_=>exact absurd (show false=true from hs) Bool.false_ne_true
 |bl i=>
  cases rx
  cases y with
  |non=>cases ry;exact PySem.EqNone.eq_bool_none (cC I q (by simp))
  |bl j=>cases ry;exact eq_bool (cC I q Ra)
  |str j=>obtain ⟨t',rfl⟩:=ry;exact PySem.EqMixed.eq_bool_str (cC I q (by simp))
  |_=>exact absurd (show false=true from hs) Bool.false_ne_true
 |int i=>
  obtain ⟨t,rfl⟩:=rx
  cases y with
  |non=>cases ry;exact PySem.EqNone.eq_int_none (cC I q (by simp))
  |int j=>obtain ⟨t',rfl⟩:=ry;exact eq_int (cC I q tV)
  |str j=>obtain ⟨t',rfl⟩:=ry;exact PySem.EqMixed.eq_int_str (cC I q (by simp))
  |_=>exact absurd (show false=true from hs) Bool.false_ne_true
 |str i=>
  obtain ⟨t,rfl⟩:=rx
  cases y with
  |non=>cases ry;exact PySem.EqNone.eq_str_none (cC I q (by simp))
  |bl j=>cases ry;exact PySem.EqMixed.eq_str_bool (cC I q (by simp))
  |int j=>obtain ⟨t',rfl⟩:=ry;exact PySem.EqMixed.eq_str_int (cC I q (by simp))
  |str j=>obtain ⟨t',rfl⟩:=ry;exact eq_str (cC I q Jr)
  |_=>exact absurd (show false=true from hs) Bool.false_ne_true
 |byt i=>
  obtain ⟨t,rfl⟩:=rx
  cases y with
  |byt j=>obtain ⟨t',rfl⟩:=ry;exact PySem.W.eq_bytes (cC I q Ke)
  |_=>exact absurd (show false=true from hs) Bool.false_ne_true
 |_=>cases y<;>exact absurd (show false=true from hs) Bool.false_ne_true
theorem aB4:tN X (compareOp .NotEq) rNe:=by
 intro pins s σ H x y v u Q I rx ry h
 obtain ⟨hs,q⟩:=h
 cases x with
 |non=>
  cases rx
  cases y with
  |non=>cases ry;exact PySem.EqNone.ne_none_none (cC I q (by simp))
  |bl j=>cases ry;exact PySem.EqNone.ne_none_bool (cC I q (by simp))
  |int j=>obtain ⟨t',rfl⟩:=ry;exact PySem.EqNone.ne_none_int (cC I q (by simp))
  |str j=>obtain ⟨t',rfl⟩:=ry;exact PySem.EqNone.ne_none_str (cC I q (by simp))
  |_=>exact absurd (show false=true from hs) Bool.false_ne_true
 |bl i=>
  cases rx
  cases y with
  |non=>cases ry;exact PySem.EqNone.ne_bool_none (cC I q (by simp))
  |bl j=>cases ry;exact ne_bool (cC I q (congrArg not Ra))
  |str j=>obtain ⟨t',rfl⟩:=ry;exact PySem.EqMixed.ne_bool_str (cC I q (by simp))
  |_=>exact absurd (show false=true from hs) Bool.false_ne_true
 |int i=>
  obtain ⟨t,rfl⟩:=rx
  cases y with
  |non=>cases ry;exact PySem.EqNone.ne_int_none (cC I q (by simp))
  |int j=>obtain ⟨t',rfl⟩:=ry;exact ne_int (cC I q (congrArg not tV))
  |str j=>obtain ⟨t',rfl⟩:=ry;exact PySem.EqMixed.ne_int_str (cC I q (by simp))
  |_=>exact absurd (show false=true from hs) Bool.false_ne_true
 |str i=>
  obtain ⟨t,rfl⟩:=rx
  cases y with
  |non=>cases ry;exact PySem.EqNone.ne_str_none (cC I q (by simp))
  |bl j=>cases ry;exact PySem.EqMixed.ne_str_bool (cC I q (by simp))
  |int j=>obtain ⟨t',rfl⟩:=ry;exact PySem.EqMixed.ne_str_int (cC I q (by simp))
  |str j=>obtain ⟨t',rfl⟩:=ry;exact ne_str (cC I q (congrArg not Jr))
  |_=>exact absurd (show false=true from hs) Bool.false_ne_true
 |byt i=>
  obtain ⟨t,rfl⟩:=rx
  cases y with
  |byt j=>obtain ⟨t',rfl⟩:=ry;exact PySem.W.ne_bytes (cC I q (congrArg not Ke))
  |_=>exact absurd (show false=true from hs) Bool.false_ne_true
 |_=>cases y<;>exact absurd (show false=true from hs) Bool.false_ne_true
theorem Oo:tN X (compareOp .Lt) (Wf fun i j=>.bl (decide (i<j))):=aBp fun _ _ _ _ _ _ _ q=>lt_int q
theorem pU:tN X (compareOp .LtE) (Wf fun i j=>.bl (decide (i<=j))):=aBp fun _ _ _ _ _ _ _ q=>le_int q
theorem gR (b:Expr) {op:CmpOp} (h:op≠.In:=by decide) (h2:op≠.NotIn:=by decide):behindInMarks op b=false:=by
 have e1:(op==CmpOp.In)=false:=by cases op<;>first|rfl|exact absurd rfl h
 have e2:(op==CmpOp.NotIn)=false:=by cases op<;>first|rfl|exact absurd rfl h2
 cases b<;>simp [behindInMarks,e1,e2]
theorem kT {op:CmpOp} {r:R2} (ho:tN X (compareOp op) r) (ha:PE X a ta) (hb:PE X b tb) (hm:behindInMarks op b=false):PE X (.Compare a [op] [b] pos) (Yi r ta tb):=by
 intro pins s σ H Q I h
 exact wpAny_Compare1 (Xo ha hb I h fun v u s2 x y H2 I2 rx ry q=>ho pins s2 σ H2 x y v u Q I2 rx ry q) hm
def Rg (t:TE):TT:=fun σ H Q=>t σ H fun x H'=>∃ k,x=.bl k/\Q k H'
theorem hJ {op:CmpOp} {r:R2} (ho:tN X (compareOp op) r) (ha:PE X a ta) (hb:PE X b tb) (hm:behindInMarks op b=false):PT X (.Compare a [op] [b] pos) (Rg (Yi r ta tb)):=by
 intro pins s σ H Q I h
 refine wpAny_isTrue_Compare1 (cF (ha pins s σ H _ I h) fun v s1 ⟨x,H1,I1,r1,q1⟩=>cF (hb pins s1 σ H1 _ I1 q1) fun u s2 ⟨y,H2,I2,r2,q2⟩=>
  cF (ho pins s2 σ H2 x y v u _ I2 r1 r2 q2) fun c s3 ⟨z,H3,I3,r3,k,e,q3⟩=>?_) hm
 subst e
 cases r3
 exact wpAny_truthy_bool ⟨H3,I3,q3⟩
def Ia (r r':R2) (ta tb tc:TE):TE:=fun σ H Q=>ta σ H fun x H1=>tb σ H1 fun y H2=>r x y H2 fun z H3=>∃ k,z=.bl k/\
 (if k=true then tc σ H3 fun w' H4=>r' y w' H4 Q else Q (.bl false) H3)
theorem mV {op op':CmpOp} {r r':R2} (ho:tN X (compareOp op) r) (ho':tN X (compareOp op') r') (ha:PE X a ta) (hb:PE X b tb) (hc:PE X c tc)
  (hm:lastMarks [op,op'] [b,c]=false:=by with_unfolding_all rfl):PE X (.Compare a [op,op'] [b,c] pos) (Ia r r' ta tb tc):=by
 intro pins s σ H Q I h
 refine Compare_chain (cF (ha pins s σ H _ I h) fun v s1 ⟨x,H1,I1,r1,q1⟩=>chain_link (cF (hb pins s1 σ H1 _ I1 q1) fun u s2 ⟨y,H2,I2,r2,q2⟩=>
  cF (ho pins s2 σ H2 x y v u _ I2 r1 r2 q2) fun d s3 ⟨z,H3,I3,r3,k,e,q3⟩=>?_)) hm
 subst e
 cases r3
 refine wpAny_truthy_bool ?_
 cases k with
 |false=>exact ite_ff ⟨.bl false,H3,I3,rfl,q3⟩
 |true=>exact ite_tt (chain_last (cF (hc pins s3 σ H3 _ I3 q3) fun w' s4 ⟨z',H4,I4,r4,q4⟩=>ho' pins s4 σ H4 y z' u w' Q I4 r2 r4 q4))
theorem Oh {op op':CmpOp} {r r':R2} (ho:tN X (compareOp op) r) (ho':tN X (compareOp op') r') (ha:PE X a ta) (hb:PE X b tb) (hc:PE X c tc)
  (hm:lastMarks [op,op'] [b,c]=false:=by with_unfolding_all rfl):PT X (.Compare a [op,op'] [b,c] pos) (Rg (Ia r r' ta tb tc)):=by
 intro pins s σ H Q I h
 refine isTrue_chain (cF (ha pins s σ H _ I h) fun v s1 ⟨x,H1,I1,r1,q1⟩=>test_link (cF (hb pins s1 σ H1 _ I1 q1) fun u s2 ⟨y,H2,I2,r2,q2⟩=>
  cF (ho pins s2 σ H2 x y v u _ I2 r1 r2 q2) fun d s3 ⟨z,H3,I3,r3,k,e,q3⟩=>?_)) hm
 subst e
 cases r3
 refine wpAny_truthy_bool ?_
 cases k with
 |false=>
  obtain ⟨k',e',q'⟩:=q3
  cases e'
  exact ite_ff ⟨H3,I3,q'⟩
 |true=>
  refine ite_tt (test_last (cF (hc pins s3 σ H3 _ I3 q3) fun w' s4 ⟨z',H4,I4,r4,q4⟩=>cF (ho' pins s4 σ H4 y z' u w' _ I4 r2 r4 q4) fun d' s5 ⟨z2,H5,I5,r5,k2,e2,q5⟩=>?_))
  subst e2
  cases r5
  exact wpAny_truthy_bool ⟨H5,I5,q5⟩
theorem Ak:(sizeLine:Nat)<2 ^ 63:=by rw [sizeLine_eq];decide
theorem zK {x:V} {us:List Value} (r:aZ [x] us):∃ u,us=[u]/\bQ x u:=by
 cases r with
 |cons r1 r2=>cases r2;exact ⟨_,rfl,r1⟩
theorem Cd:oG X (.builtin "ord") (fun xs H Q=>∃ x,xs=[.str x]/\x.length=1/\Q (.int (x.cps.getD 0 0:Nat)) H):=by
 intro pins s σ H xs us Q I r h
 obtain ⟨x,rfl,hz,q⟩:=h
 obtain ⟨u,rfl,t,rfl⟩:=zK r
 exact ord_of_one hz ⟨.int _,H,I.tok _,⟨_,rfl⟩,q⟩
end
structure Fz (h:Heap) (x dx C:Addr) (mA:Str->Option Value):Prop where
 obj:h.get? x=some (PySem.W.instObj C dx)
 ns:h.Ns1 dx mA
 ne:dx≠x
theorem Mo {h:Heap} {dx:Addr} {mA:Str->Option Value} (n:h.Ns1 dx mA):∃ od,h.get? dx=some od/\∀ name,PySem.W.lookIn name od=some (mA name):=by
 obtain ⟨o,es,ep,ho,hd,hk,_,hm⟩:=n
 refine ⟨o,ho,fun name=>?_⟩
 have e:=hm name
 unfold nsFind findBy at e
 rw [<-Array.find?_toList] at e
 unfold PySem.W.lookIn
 rw [hd]
 dsimp only
 split
 ·rename_i y q
  rw [q] at e
  exact congrArg some e
 ·rename_i q
  rw [q] at e
  have a:es.toList.any (·.refKey)=false:=by
   rw [List.any_eq_false]
   intro y hy
   obtain ⟨z,t,hkey⟩:=hk y (Array.mem_toList_iff.mp hy)
   simp [DictEntry.refKey,hkey]
  have a':¬es.toList.any (·.refKey)=true:=by rw [a];exact Bool.false_ne_true
  rw [if_neg a']
  exact congrArg some e
theorem Fz.look {h:Heap} {x dx C:Addr} {mA:Str->Option Value} (I:Fz h x dx C mA):∃ od,PySem.W.InstAt h x (PySem.W.instObj C dx) C (some od)/\∀ name,PySem.W.lookIn name od=some (mA name):=
 let ⟨od,ho,hl⟩:=Mo I.ns
 ⟨od,⟨I.obj,rfl,rfl,ho⟩,hl⟩
section
variable {prog:Program} {w:World} {A:Around} {E:Value->Shared->Prop} {s:Shared} {K:PySem.W.Frag} {x dx C f:Addr} {mA:Str->Option Value} {name:Str} {v:Value}
theorem Sx {expr:Bool} {Q:Value->Shared->Prop} (X:K.In s.heap) (I:Fz s.heap x dx C mA) (hg:PySem.W.plainGet K C name=true) (hh:PySem.W.hasDictIn K C=true)
  (ha:PySem.W.findIn K (.ref C) name=some none) (hv:mA name=some v) (hv':PySem.W.handedIn v=true) (h:Q v {s with toks:=s.toks+1}):
  wpAny (model prog w) A (getAttr (.ref x) name expr) Q E s:=by
 obtain ⟨od,J,hl⟩:=I.look
 exact PySem.W.get_value X J (PySem.W.plainGet_of hg).1 (PySem.W.findObj_own hh ha rfl (by rw [hl,hv])) hv' h
theorem Rt {pl:Sem Bool} {Q:Value×List Value->Shared->Prop} (X:K.In s.heap) (I:Fz s.heap x dx C mA) (hg:PySem.W.plainGet K C name=true)
  (hf:PySem.W.findIn K (.ref C) name=some (some (.ref f))) (ht:PySem.W.isFn K (.ref f)=true) (hv:mA name=none) (h:Q (.ref f,[.ref x]) s):
  wpAny (model prog w) A (getMethod (.ref x) name pl) Q E s:=by
 obtain ⟨od,J,hl⟩:=I.look
 exact PySem.W.method_fn X J (PySem.W.plainGet_of hg).1 (PySem.W.plainGet_of hg).2 hf (beq_iff_eq.mp ht) (by show (PySem.W.lookIn name od).map (·.isSome)=some false;rw [hl,hv];rfl) h
theorem Sq {ns:List Str} {Q:Unit->Shared->Prop} (X:K.In s.heap) (I:Fz s.heap x dx C mA)
  (hs:PySem.W.findIn K (.ref C) "__setattr__"=some (some (.builtin "object.__setattr__"))) (hp:PySem.W.plainOver K C=true) (ht:PySem.W.takerIn K C name=some none) (hh:PySem.W.hasDictIn K C=true)
  (hw:PySem.Within mA ns) (hsz:ns.length<=sizeLine)
  (h:∀ h',Fz h' x dx C (fun y=>if y=name then some v else mA y)->Heap.SameBut dx s.heap h'->Q () {s with heap:=h',toks:=s.toks+2}):
  wpAny (model prog w) A (setAttr (.ref x) name v) Q E s:=by
 obtain ⟨od,J,hl⟩:=I.look
 refine PySem.W.set_plain X J hs (PySem.W.osa_open (s:={s with toks:=s.toks+1}) (r:=none) X J hp ht fun b=>?_)
 obtain ⟨cd,hc,hd'⟩:=PySem.W.any_some hh
 have hx:s.heap.get? x=some ⟨.ref C,some dx,.plain,#[]⟩:=I.obj
 refine wpAny_bind (wpAny_pure (wpAny_bind (wpAny_bind (wpAny_loadPart hx (wpAny_bind (PySem.W.Looks.here (s:={s with toks:=s.toks+1}) (PySem.W.looks_clsIn X hc) ?_))))))
 rw [hd']
 refine wpAny_pure (a:=some dx) (wpAny_bind (wpAny_pure (wpAny_bind ?_)))
 refine wpAny_nsSet1 (s:={s with toks:=s.toks+1}) I.ns fun h' hn2 hs2=>?_
 obtain ⟨oD,esD,epD,hoD,hdD,hcD⟩:=hn2.count (PySem.Within.cons name v hw)
 refine wpAny_bind (wpAny_lookBehind hoD (by rw [hdD];exact pastItsLine_dict (Nat.le_trans hcD (by rw [List.length_cons];omega))) ?_)
 exact wpAny_pure (h _ ⟨(hs2.2 _ (Ne.symm I.ne)).trans I.obj,hn2,I.ne⟩ hs2)
theorem Cs {R:Result->Shared->Prop} {vs:List Value} {kw:List (Str×Value)} (X:K.In s.heap) (hm:PySem.W.makesIn K C=true)
  (hi:PySem.W.findIn K (.ref C) "__init__"=some (some (.ref f))) (hf:PySem.W.typeIn K (.ref f)=some (.type "function"))
  (h:codeAny (model prog w) (A.under (.builtin "type.__call__" ⟨.ref C::vs,kw⟩)) (.call (.ref f) ⟨.ref (s.heap.objs.size+1)::vs,kw⟩) (PySem.W.InitBack (s.heap.objs.size+1) R)
   {s with heap:=(s.heap.push PySem.W.emptyDict).push (PySem.W.instObj C s.heap.objs.size)}):
  codeAny (model prog w) A (.call (.ref C) ⟨vs,kw⟩) R s:=by
 obtain ⟨hh,g,d,t,os⟩:=s
 exact PySem.W.make_core (PySem.W.makes_of X hm) (PySem.W.looks_findIn X hi) (fun self=>PySem.W.bind_fn X self hf) (.inl rfl) h
end
def lW (f:Str) (v:V):List (Str×V)->List (Str×V)
 |[]=>[(f,v)]
 |(g,x)::r=>if g=f then (g,v)::r else (g,x)::lW f v r
theorem mC (f g:Str) (v:V):∀ fs:List (Str×V),(lW f v fs).lookup g=if g=f then some v else fs.lookup g
 |[]=>by
  show List.lookup g [(f,v)]=_
  by_cases h:g=f
  ·have hb:(g==f)=true:=beq_iff_eq.mpr h
   simp only [List.lookup,hb,if_pos h]
  ·have hb:(g==f)=false:=beq_eq_false_iff_ne.mpr h
   simp only [List.lookup,hb,if_neg h]
 |(k,x)::r=>by
  have ih:=mC f g v r
  rw [show lW f v ((k,x)::r)=(if k=f then (k,v)::r else (k,x)::lW f v r) from rfl]
  by_cases hk:k=f
  ·rw [if_pos hk]
   by_cases h:g=k
   ·have hb:(g==k)=true:=beq_iff_eq.mpr h
    simp only [List.lookup,hb,if_pos (h.trans hk)]
   ·have hb:(g==k)=false:=beq_eq_false_iff_ne.mpr h
    simp only [List.lookup,hb,if_neg (fun e:g=f=>h (e.trans hk.symm))]
  ·rw [if_neg hk]
   by_cases h:g=k
   ·have hb:(g==k)=true:=beq_iff_eq.mpr h
    simp only [List.lookup,hb,if_neg (fun e:g=f=>hk (h.symm.trans e))]
   ·have hb:(g==k)=false:=beq_eq_false_iff_ne.mpr h
    simp only [List.lookup,hb]
    exact ih
theorem rW (f:Str) (v:V):∀ fs:List (Str×V),f∈(lW f v fs).map (·.1)/\∀ g,g∈fs.map (·.1)->g∈(lW f v fs).map (·.1)
 |[]=>⟨by simp [lW],fun g h=>by simp at h⟩
 |(k,x)::r=>by
  obtain ⟨i1,i2⟩:=rW f v r
  rw [show lW f v ((k,x)::r)=(if k=f then (k,v)::r else (k,x)::lW f v r) from rfl]
  by_cases hk:k=f
  ·rw [if_pos hk]
   subst hk
   exact ⟨by simp,fun g h=>by simpa using h⟩
  ·rw [if_neg hk]
   refine ⟨?_,fun g h=>?_⟩
   ·rw [List.map_cons]
    exact List.mem_cons_of_mem _ i1
   ·rw [List.map_cons] at h ⊢
    rcases List.mem_cons.mp h with e|e
    ·exact List.mem_cons.mpr (.inl e)
    ·exact List.mem_cons_of_mem _ (i2 g e)
theorem sU (f:Str) (v:V):∀ fs:List (Str×V),(lW f v fs).length<=fs.length+1
 |[]=>by simp [lW]
 |(k,x)::r=>by
  have ih:=sU f v r
  rw [show lW f v ((k,x)::r)=(if k=f then (k,v)::r else (k,x)::lW f v r) from rfl]
  by_cases hk:k=f
  ·rw [if_pos hk,List.length_cons,List.length_cons];omega
  ·rw [if_neg hk,List.length_cons,List.length_cons];omega
theorem jK.some_of {v:V} {o:Option Value} (r:jK (some v) o):∃ u,o=some u/\bQ v u:=by
 cases o with
 |none=>exact (show False from r).elim
 |some u=>exact ⟨u,rfl,r⟩
theorem jK.none_of {o:Option Value} (r:jK none o):o=none:=by
 cases o with
 |none=>rfl
 |some u=>exact (show False from r).elim
theorem Mt {v:V} {u:Value} (r:bQ v u):PySem.W.handedIn u=true:=by
 cases v with
 |non=>cases (show u=Value.none from r);rfl
 |bl b=>cases (show u=Value.bool b from r);rfl
 |int i=>obtain ⟨t,e⟩:=(show ∃ t,u=Value.int i t from r);cases e;rfl
 |str x=>obtain ⟨t,e⟩:=(show ∃ t,u=Value.str x t from r);cases e;rfl
 |byt b=>obtain ⟨t,e⟩:=(show ∃ t,u=Value.bytes b t from r);cases e;rfl
 |flt b=>obtain ⟨t,e⟩:=(show ∃ t,u=Value.float b t from r);cases e;rfl
 |ref a=>cases (show u=Value.ref a from r);rfl
 |ty n=>cases (show u=Value.type n from r);rfl
section
variable {P:Program} {w:World} {H H':Hp} {h h':Heap} {a C dx:Addr} {fs fs':List (Str×V)}
theorem zT (hok:kK P w H h) (e:H a=some (.ins C dx fs)):∃ mA,Fz h a dx C mA/\(∀ f,jK (fs.lookup f) (mA f))/\PySem.Within mA (fs.map (·.1))/\fs.length<=1000/\H dx=some (.own a):=by
 obtain ⟨d,z,ne,ob,mA,n,r,q⟩:=(show cE P w H h a (.ins C dx fs) from hok a _ e)
 exact ⟨mA,⟨ob,n,ne⟩,r,q,z,d⟩
end
structure Fr (K:PySem.W.Frag) (C:Addr):Prop where
 pg:PySem.W.plainGet K C Str.empty=true
 hd:PySem.W.hasDictIn K C=true
 po:PySem.W.plainOver K C=true
 sa:PySem.W.findIn K (.ref C) "__setattr__"=some (some (.builtin "object.__setattr__"))
theorem Fr.get {K:PySem.W.Frag} {C:Addr} (c:Fr K C) (f:Str):PySem.W.plainGet K C f=true:=c.pg
def cZ (K:PySem.W.Frag) (C:Addr) (f:Str):Prop:=PySem.W.findIn K (.ref C) f=some none
theorem cZ.taker {K:PySem.W.Frag} {C:Addr} {f:Str} (n:cZ K C f):PySem.W.takerIn K C f=some none:=by
 unfold PySem.W.takerIn
 rw [show PySem.W.findIn K (.ref C) f=some none from n]
 rfl
structure Ua (K:PySem.W.Frag) (C:Addr) (m:Str) (f:Addr):Prop where
 at_:PySem.W.findIn K (.ref C) m=some (some (.ref f))
 fn:PySem.W.isFn K (.ref f)=true
 kp:PySem.W.keepIn K (.ref f)=true
section
variable {X:Cx} {pins:List (Addr×Obj)} {σ:St} {H:Hp} {s:Shared} {a C dx:Addr} {fs:List (Str×V)} {f:Str} {v:V} {A:Around} {E:Value->Shared->Prop}
theorem xD {b:Bool} {Q:Value->Shared->Prop} (I:aO X pins σ H s) (e:H a=some (.ins C dx fs)) (c:Fr X.K C) (n:cZ X.K C f) (l:fs.lookup f=some v)
  (h:∀ u s',aO X pins σ H s'->bQ v u->Q u s'):wpAny (model X.prog X.w) A (getAttr (.ref a) f b) Q E s:=by
 obtain ⟨mA,O,r,_,_,_⟩:=zT I.hok e
 obtain ⟨u,hu,ru⟩:=jK.some_of (v:=v) (o:=mA f) (by rw [<-l];exact r f)
 exact Sx I.kIn O (c.get f) c.hd n hu (Mt ru) (h u _ (I.tok _) ru)
theorem xF {m:Str} {g:Addr} {pl:Sem Bool} {Q:Value×List Value->Shared->Prop} (I:aO X pins σ H s) (e:H a=some (.ins C dx fs)) (c:Fr X.K C) (k:Ua X.K C m g) (l:fs.lookup m=none)
  (h:Q (.ref g,[.ref a]) s):wpAny (model X.prog X.w) A (getMethod (.ref a) m pl) Q E s:=by
 obtain ⟨mA,O,r,_,_,_⟩:=zT I.hok e
 have hn:mA m=none:=jK.none_of (by rw [<-l];exact r m)
 exact Rt I.kIn O (c.get m) k.at_ k.fn hn h
theorem wK {y:V} {u:Value} {Q:Unit->Shared->Prop} (I:aO X pins σ H s) (e:H a=some (.ins C dx fs)) (c:Fr X.K C) (n:cZ X.K C f) (hl:fs.length<1000) (ry:bQ y u)
  (h:∀ s',aO X pins σ (upd H a (.ins C dx (lW f y fs))) s'->Q () s'):wpAny (model X.prog X.w) A (setAttr (.ref a) f u) Q E s:=by
 obtain ⟨mA,O,r,wi,_,ho⟩:=zT I.hok e
 have hz:(fs.map (·.1)).length<=sizeLine:=by rw [List.length_map,sizeLine_eq];omega
 refine Sq I.kIn O c.sa c.po n.taker c.hd wi hz fun h' O' sb=>h _ ?_
 have hd:∃ o,h'.get? dx=some o:=let ⟨o,_,_,e',_⟩:=O'.ns;⟨o,e'⟩
 refine I.write (x:=a) (e:=dx) (by rw [e];exact True.intro) (.inr ho) (fun b q hb z=>(sb.2 b hb).trans z) hd ?_
 refine ⟨by rw [aB O.ne];exact ho,?_,O.ne,O'.obj,_,O'.ns,fun g=>?_,fun g hg=>?_⟩
 ·have:=sU f y fs;omega
 ·show jK ((lW f y fs).lookup g) (if g=f then some u else mA g)
  rw [mC]
  by_cases q:g=f
  ·rw [if_pos q,if_pos q];exact ry
  ·rw [if_neg q,if_neg q];exact r g
 ·by_cases q:g=f
  ·rw [q];exact (rW f y fs).1
  ·refine (rW f y fs).2 g (wi g fun z=>hg ?_)
   show (if g=f then some u else mA g)=none
   rw [if_neg q];exact z
theorem aO.made (I:aO X pins σ H s):aO X pins σ (upd (upd H s.heap.objs.size (.own (s.heap.objs.size+1))) (s.heap.objs.size+1) (.ins C s.heap.objs.size []))
  {s with heap:=(s.heap.push PySem.W.emptyDict).push (PySem.W.instObj C s.heap.objs.size)}:=by
 have e1:(s.heap.push PySem.W.emptyDict).get? s.heap.objs.size=some PySem.W.emptyDict:=Heap.get?_push_size s.heap rfl
 have e2:((s.heap.push PySem.W.emptyDict).push (PySem.W.instObj C s.heap.objs.size)).get? (s.heap.objs.size+1)=some (PySem.W.instObj C s.heap.objs.size):=by
  have:=Heap.get?_push_size (s.heap.push PySem.W.emptyDict) (o:=PySem.W.instObj C s.heap.objs.size) rfl
  rwa [Heap.size_push] at this
 have e3:(s.heap.push PySem.W.emptyDict).Ns s.heap.objs.size (fun _=>none):=⟨PySem.W.emptyDict,#[],_,e1,rfl,(fun e he=>absurd he (by simp)),fun _=>rfl⟩
 have I1:=I.laid (a:=s.heap.objs.size) (o:=.own (s.heap.objs.size+1)) (h':=s.heap.push PySem.W.emptyDict) (t':=s.toks) (fun b u q=>Heap.get?_push_of_some _ q) (Nat.le_refl _) ⟨_,e1⟩
 refine I1.laid (a:=s.heap.objs.size+1) (o:=.ins C s.heap.objs.size []) (t':=s.toks) (fun b u q=>Heap.get?_push_of_some _ q) (Nat.le_of_eq (Heap.size_push _ _)) ?_
 have ne:s.heap.objs.size≠s.heap.objs.size+1:=Nat.ne_of_lt (Nat.lt_succ_self _)
 refine ⟨by rw [aB ne,aC],Nat.zero_le _,ne,e2,fun _=>none,(Heap.Ns1.of_empty e3).at fun o q=>Heap.get?_push_of_some _ q,fun _=>True.intro,fun y hy=>absurd rfl hy⟩
theorem Kl {prog:Program} {w:World} {env:Env} {e:Expr} {f:Str} {pos:Pos} {s:Shared} {Q:Value->Shared->Prop} (hb:attributeBase e f env (eval e env)=eval e env)
  (h:wpAny (model prog w) A (eval e env) (fun o s₁=>wpAny (model prog w) A (getAttr o f true) Q E s₁) E s):wpAny (model prog w) A (eval (.Attribute e f pos) env) Q E s:=
 Attribute_any_ h (by rw [arm_eval_Attribute,hb])
end
def Tm (K:PySem.W.Frag) (ta:TE) (f:Str):TE:=fun σ H Q=>ta σ H fun x H1=>∃ a C dx fs v,x=.ref a/\H1 a=some (.ins C dx fs)/\Fr K C/\cZ K C f/\fs.lookup f=some v/\Q v H1
def Zu (K:PySem.W.Frag) (ta tv:TE) (f:Str):TS:=fun D σ H=>tv σ H fun y H1=>ta σ H1 fun x H2=>∃ a C dx fs,x=.ref a/\H2 a=some (.ins C dx fs)/\Fr K C/\cZ K C f/\fs.length<1000/\
 D.nx σ (upd H2 a (.ins C dx (lW f y fs)))
def aA6 (X:Cx) (op:Operator) (rd:V->V->Hp->VK->Prop):Prop:=
 ∀ (pins:List (Addr×Obj)) (s:Shared) (σ:St) (H:Hp) (x y:V) (u v:Value) (Q:VK),aO X pins σ H s->bQ x u->bQ y v->rd x y H Q->wpAny (model X.prog X.w) X.A (inplaceOp op u v) (EP X pins σ Q) X.xe s
def Wd (K:PySem.W.Frag) (ta tv:TE) (rd:V->V->Hp->VK->Prop) (f:Str):TS:=fun D σ H=>ta σ H fun x H1=>∃ a C dx fs v,x=.ref a/\H1 a=some (.ins C dx fs)/\Fr K C/\cZ K C f/\fs.lookup f=some v/\
 tv σ H1 fun y H2=>rd v y H2 fun z H3=>∃ dx' fs',H3 a=some (.ins C dx' fs')/\fs'.length<1000/\D.nx σ (upd H3 a (.ins C dx' (lW f z fs')))
section
variable {X:Cx} {o e value:Expr} {f:Str} {pos pos' tpos:Pos} {ta tv:TE}
theorem aR (he:PE X e ta) (hb:attributeBase e f X.env (eval e X.env)=eval e X.env):PE X (.Attribute e f pos) (Tm X.K ta f):=by
 intro pins s σ H Q I h
 refine Kl hb (cF (he pins s σ H _ I h) fun u s1 ⟨x,H1,I1,rx,a,C,dx,fs,v,ex,ea,c,n,l,q⟩=>?_)
 subst ex
 obtain rfl:u=Value.ref a:=rx
 exact xD I1 ea c n l fun u' s2 I2 ru=>⟨v,H1,I2,ru,q⟩
theorem dQ (ha:PE X o ta) (hv:PE X value tv) (hs:swapsWith value (some (.Attribute o f pos')) pos.line X.env=pure false):PS X (.Assign [.Attribute o f pos'] value pos) (Zu X.K ta tv f):=by
 intro pins s σ H D I h
 refine plainObj_wpAny_Assign_Attribute (cF (hv pins s σ H _ I h) fun u s1 ⟨y,H1,I1,ry,q⟩=>cF (ha pins s1 σ H1 _ I1 q) fun ov s2 ⟨x,H2,I2,rx,a,C,dx,fs,ex,ea,c,n,l,q2⟩=>?_) hs
 subst ex
 obtain rfl:ov=Value.ref a:=rx
 exact wK I2 ea c n l ry fun s3 I3=>⟨σ,_,I3,q2⟩
theorem Ml {op:Operator} {rd:V->V->Hp->VK->Prop} (ha:PE X o ta) (hv:PE X value tv) (hop:aA6 X op rd):PS X (.AugAssign (.Attribute o f tpos) op value pos) (Wd X.K ta tv rd f):=by
 intro pins s σ H D I h
 refine wpAny_AugAssign_AttributeAny (cF (ha pins s σ H _ I h) fun ov s1 ⟨x,H1,I1,rx,a,C,dx,fs,v,ex,ea,c,n,l,q⟩=>?_)
 subst ex
 obtain rfl:ov=Value.ref a:=rx
 refine xD I1 ea c n l fun u s2 I2 ru=>cF (hv pins s2 σ H1 _ I2 q) fun w3 s3 ⟨y,H2,I3,ry,q3⟩=>cF (hop pins s3 σ H2 v y u w3 _ I3 ru ry q3) fun w4 s4 ⟨z,H3,I4,rz,dx',fs',ea',l',q4⟩=>?_
 exact wK I4 ea' c n l' rz fun s5 I5=>⟨σ,_,I5,q4⟩
def aC8:V->V->Hp->VK->Prop:=fun x y H Q=>∃ i j,x=.int i/\y=.int j/\Q (.int (i+j)) H
theorem Xb:aA6 X .Add aC8:=by
 rintro pins s σ H x y u v Q I rx ry ⟨i,j,rfl,rfl,q⟩
 obtain ⟨t,rfl⟩:=(show ∃ t,u=Value.int i t from rx)
 obtain ⟨t',rfl⟩:=(show ∃ t',v=Value.int j t' from ry)
 exact PyProof.Rows.iadd_int ⟨.int (i+j),H,I.tok _,⟨_,rfl⟩,q⟩
end
section
variable {X:Cx} {pins:List (Addr×Obj)} {σ:St} {H:Hp} {s:Shared} {A:Around} {E:Value->Shared->Prop} {Q:Value->Shared->Prop} {c:Value} {b:Bool}
end
structure fU (k:Nat) (A:Around):Prop where
 hd:A.handled=none
 dp:A.depth+3 * k+5<recursionLimit
 un:A.units+16 * k+200<cLine
theorem fU.mono {j k:Nat} {A:Around} (r:fU k A) (h:j<=k):fU j A:=⟨r.hd,by have:=r.dp;omega,by have:=r.un;omega⟩
theorem fU.deeper {k:Nat} {A:Around} (r:fU (k+1) A) (env:Env):fU k (A.deeper env):=
 ⟨r.hd,by have:=r.dp;show A.depth+1+3 * k+5<_;omega,by have:=r.un;show A.units+3+16 * k+200<_;omega⟩
theorem vS {A:Around} {C:Addr} {us:List Value} {kw:List (Str×Value)}:(A.under (.builtin "type.__call__" ⟨.ref C::us,kw⟩)).depth=A.depth+1:=by
 first|rfl|simp [Around.under,Code.weight,Code.isCreation,Code.isGuard,Code.isCaller,Code.frames,Code.isFrame,guardIds]
theorem uS {A:Around} {C:Addr} {us:List Value} {kw:List (Str×Value)}:(A.under (.builtin "type.__call__" ⟨.ref C::us,kw⟩)).units=A.units+1:=by
 first|rfl|simp [Around.under,Code.cUnits,Code.frames,Code.isFrame]
theorem fU.make {k:Nat} {A:Around} (r:fU (k+1) A) (C:Addr) (us:List Value) (kw:List (Str×Value)):fU k (A.under (.builtin "type.__call__" ⟨.ref C::us,kw⟩)):=
 ⟨r.hd,by have:=r.dp;rw [vS];omega,by have:=r.un;rw [uS];omega⟩
theorem fU.depth {k:Nat} {A:Around} (r:fU k A):A.depth<recursionLimit:=by have:=r.dp;omega
theorem fU.units {k:Nat} {A:Around} (r:fU k A):A.units+64<cLine:=by have:=r.un;omega
def hZ:TA:=fun _ H Q=>Q [] H
def eU (ta:TE) (tr:TA):TA:=fun σ H Q=>ta σ H fun x H1=>tr σ H1 fun xs H2=>Q (x::xs) H2
section
variable {X:Cx} {e:Expr} {es:List Expr} {te:TE} {t:TA} {pos:Pos}
theorem aF:PA X [] hZ:=fun _ _ _ _ H Q I h=>Calls.spliced_nil ⟨[],H,I,.nil,h⟩
theorem aA (ha:PE X e te) (hr:PA X es t) (hs:starEach (e::es) X.env=(false,eval e X.env)::starEach es X.env:=by rfl):PA X (e::es) (eU te t):=by
 intro pos pins s σ H Q I h
 rw [hs]
 show wpAny _ _ (spliced ((false,eval e X.env)::backTo pos (starEach es X.env))) _ _ s
 refine Calls.spliced_cons (cF (ha pins s σ H _ I h) fun u s1 ⟨x,H1,I1,r1,q1⟩=>?_)
 exact cF (hr pos pins s1 σ H1 _ I1 q1) fun us s2 ⟨xs,H2,I2,r2,q2⟩=>⟨x::xs,H2,I2,.cons r1 r2,q2⟩
def aBd (t:TA):TE:=fun σ H Q=>t σ H fun xs H1=>xs.length<=sizeLine/\∀ p,H1 p=none->Q (.ref p) (upd H1 p (.tup xs))
def aAj (t:TA):TE:=fun σ H Q=>t σ H fun xs H1=>xs.length<=sizeLine/\∀ p,H1 p=none->Q (.ref p) (upd H1 p (.lst xs))
theorem eK {x1} (h:PA X es t):PE X (.Tuple es x1 pos) (aBd t):=by
 intro pins s σ H Q I hq
 refine wpAny_Tuple_spliced (cF (h pos pins s σ H _ I hq) fun us s1 ⟨xs,H1,I1,r,z,q⟩=>⟨by rw [<-r.length];exact z,?_⟩)
 have hf:H1 s1.heap.objs.size=none:=I1.hok.fresh (Nat.le_refl _)
 refine ⟨.ref s1.heap.objs.size,upd H1 s1.heap.objs.size (.tup xs),I1.laid (t':=s1.toks) (fun b u e=>Heap.get?_push_of_some _ e) (Nat.le_refl _) ?_,rfl,q _ hf⟩
 exact ⟨z,us,r,⟨_,Heap.get?_push_size _ rfl,rfl,_,rfl⟩⟩
theorem dL (h:PA X es t):PE X (.List es pos) (aAj t):=by
 intro pins s σ H Q I hq
 refine wpAny_List_spliced (cF (h pos pins s σ H _ I hq) fun us s1 ⟨xs,H1,I1,r,z,q⟩=>⟨by rw [<-r.length];exact z,?_⟩)
 have hf:H1 s1.heap.objs.size=none:=I1.hok.fresh (Nat.le_refl _)
 refine ⟨.ref s1.heap.objs.size,upd H1 s1.heap.objs.size (.lst xs),I1.laid (t':=s1.toks) (fun b u e=>Heap.get?_push_of_some _ e) (Nat.le_refl _) ?_,rfl,q _ hf⟩
 exact ⟨z,us,0,r,Heap.get?_push_size _ rfl⟩
end
abbrev Sp:=List V->Hp->VK->XK->Prop
abbrev Fp:=List Env->Hp->Shared->XK->Value->Shared->Prop
structure Ex (P:Program) (w:World) (K:PySem.W.Frag) (mg:Str->Option Value) (base:Heap) (A:Around) (outer:List Env) (s:Shared) (H:Hp):Prop where
 frames:A.frames=some outer
 mod:Mod K mg base
 bs:∀ b o,base.get? b=some o->s.heap.get? b=some o/\H b=none
 bsz:base.objs.size<=s.heap.objs.size
 funs:s.heap.FunFrames base outer
 frf:∀ b∈yA outer,H b=none
 hok:kK P w H s.heap
 bare:AllBare s.gens
def CE (outer:List Env) (P:Program) (w:World) (H:Hp) (s:Shared) (Q:VK) (u:Value) (s':Shared):Prop:=
 ∃ v H',s'.os=s.os/\AllBare s'.gens/\Un (yA outer) [] H H' s.heap s'.heap/\kK P w H' s'.heap/\bQ v u/\Q v H'
def CR (CX:Fp) (outer:List Env) (P:Program) (w:World) (H:Hp) (s:Shared) (Q:VK) (E:XK) (r:Result) (s':Shared):Prop:=
 match r with
 |.ok (.ret u)=>CE outer P w H s Q u s'
 |.ok _=>False
 |.error e=>CX outer H s E e s'
structure bO (P:Program) (w:World) (K:PySem.W.Frag) (mg:Str->Option Value) (base:Heap) (CX:Fp) (k:Nat) (f:Addr) (fd:FuncData) (ps:List Str) (sp:Sp):Prop where
 len:∀ vs H Q E,sp vs H Q E->vs.length=ps.length
 run:∀ (A:Around) (outer:List Env) (s:Shared) (H:Hp) (args:Args) (us:List Value) (vs:List V) (Q:VK) (E:XK),fU k A->Ex P w K mg base A outer s H->BindsTo s fd args (ps.zip us)->aZ vs us->sp vs H Q E->
  codeAny (model P w) A (.call (.ref f) args) (CR CX outer P w H s Q E) s
theorem Ex.make {P:Program} {w:World} {K:PySem.W.Frag} {mg:Str->Option Value} {base:Heap} {A:Around} {outer:List Env} {s:Shared} {H:Hp} (e:Ex P w K mg base A outer s H) (C:Addr) (us:List Value) (kw:List (Str×Value)):
  Ex P w K mg base (A.under (.builtin "type.__call__" ⟨.ref C::us,kw⟩)) outer s H:=⟨by first|exact e.frames|(simpa [Around.under,Code.envs,Code.isFrame,pushEnvs] using e.frames),e.mod,e.bs,e.bsz,e.funs,e.frf,e.hok,e.bare⟩
section
variable {X:Cx} {pins:List (Addr×Obj)} {σ:St} {H:Hp} {s s':Shared}
theorem aO.env0 (I:aO X pins σ H s):Ex X.prog X.w X.K X.mg X.base X.A X.stack s H:=
 ⟨I.ok.frames,I.ok.mod,I.bs,Nat.le_trans I.ok.bsz I.sz,I.stack,I.stkFree,I.hok,I.bare⟩
theorem aO.after {Q:VK} {u:Value} (I:aO X pins σ H s) (h:CE X.stack X.prog X.w H s Q u s'):EP X pins σ Q u s':=by
 obtain ⟨v,H',os,bare,un,hok,r,q⟩:=h
 obtain ⟨hh,g,d,t,os'⟩:=s'
 obtain rfl:os'=s.os:=os
 exact ⟨v,H',I.call (h':=hh) (g':=g) (d':=d) (t':=t) (ch:=[]) un hok bare (fun b z=>absurd z (by simp)),r,q⟩
end
def Cm (sp:Sp) (dvs:List V) (E:XK) (t:TA):TE:=fun σ H Q=>t σ H fun vs H1=>sp (vs++dvs) H1 Q E
def lZ (C:Addr) (m:Str) (sp:Sp) (dvs:List V) (E:XK) (ta:TE) (t:TA):TE:=fun σ H Q=>ta σ H fun x H1=>∃ a dx fs,x=.ref a/\H1 a=some (.ins C dx fs)/\fs.lookup m=none/\
 t σ H1 fun vs H2=>sp (x::(vs++dvs)) H2 Q E
def Jo (C:Addr) (sp:Sp) (dvs:List V) (E:XK) (t:TA):TE:=fun σ H Q=>t σ H fun vs H1=>∀ x dx,H1 x=none->H1 dx=none->dx≠x->
 sp (.ref x::(vs++dvs)) (upd (upd H1 dx (.own x)) x (.ins C dx [])) (fun v H2=>v=.non/\Q (.ref x) H2) E
def eV (K:PySem.W.Frag) (fd:FuncData) (ps:List Str) (ds:List Value):Prop:=
 ∀ (s:Shared) (us:List Value),K.In s.heap->(us++ds).length=ps.length->BindsTo s fd ⟨us,[]⟩ (ps.zip (us++ds))
theorem eV.all {K:PySem.W.Frag} {fd:FuncData} {ps:List Str} (h:∀ us:List Value,us.length=ps.length->bindArgs fd ⟨us,[]⟩=pure (ps.zip us)):eV K fd ps []:=fun s us _ hl=>by
 rw [List.append_nil] at hl ⊢
 exact .of_eq (h us hl)
def iO (CX:Fp) (X:Cx) (E:XK):Prop:=∀ (pins:List (Addr×Obj)) (σ:St) (H:Hp) (s:Shared) (e:Value) (s':Shared),aO X pins σ H s->CX X.stack H s E e s'->X.xe e s'
section
variable {X:Cx} {CX:Fp} {k:Nat} {f C:Addr} {fd:FuncData} {ps:List Str} {sp:Sp} {dvs:List V} {ds:List Value} {E:XK} {x m:Str} {p pos apos:Pos} {e o:Expr} {es:List Expr} {ta:TE} {t:TA}
theorem Gv {pins:List (Addr×Obj)} {σ:St} {H:Hp} {s:Shared} {Q:VK} {us:List Value} {vs:List V} (F:bO X.prog X.w X.K X.mg X.base CX k f fd ps sp) (hr:fU k X.A) (hb:eV X.K fd ps ds) (hd:aZ dvs ds) (hx:iO CX X E)
  (I:aO X pins σ H s) (r:aZ vs us) (h:sp (vs++dvs) H Q E):wpAny (model X.prog X.w) X.A (call (.ref f) us) (EP X pins σ Q) X.xe s:=by
 have r2:aZ (vs++dvs) (us++ds):=r.append hd
 have hl:(us++ds).length=ps.length:=by rw [<-r2.length];exact F.len _ _ _ _ h
 refine wpAny_call (codeAny_mono (F.run X.A X.stack s H ⟨us,[]⟩ (us++ds) (vs++dvs) Q E hr I.env0 (hb s us I.kIn hl) r2 h) fun r s' hq=>?_)
 cases r with
 |error e=>exact hx pins σ H s e s' I hq
 |ok fl=>
  cases fl with
  |ret u=>exact I.after hq
  |next=>exact False.elim hq
  |brk=>exact False.elim hq
  |cont=>exact False.elim hq
theorem aT (F:bO X.prog X.w X.K X.mg X.base CX k f fd ps sp) (hr:fU k X.A) (hg:Gl X x) (hm:X.mg x=some (.ref f)) (hk:PySem.W.keepIn X.K (.ref f)=true) (hb:eV X.K fd ps ds) (hd:aZ dvs ds) (hx:iO CX X E)
  (ha:PA X (e::es) t) (hdb:(x==("__debug__":Str))=false:=by decide) (he:starEach (e::es) X.env=(false,eval e X.env)::starEach es X.env:=by rfl) (hpl:(backTo pos (starEach es X.env)).any (·.1)=false:=by rfl):
  PE X (.Call (.Name x p) (e::es) [] pos) (Cm sp dvs E t):=by
 intro pins s σ H Q I h
 refine wpAny_Call_Name_kw (jA I hg hm ?_ hdb)
 refine PySem.W.callWith_K (h₀:=X.base) I.ok.mod.kin hk (cF (ha pos pins s σ H _ I h) fun us s1 ⟨vs,H1,I1,r,q⟩=>⟨I1.kIn,?_⟩) he hpl
 exact Gv F hr hb hd hx I1 r q
theorem cR {pl:Sem Bool} (he:PE X o ta) (c:Fr X.K C) (hm:Ua X.K C m f) (F:bO X.prog X.w X.K X.mg X.base CX k f fd ps sp) (hr:fU k X.A) (hb:eV X.K fd ps ds) (hd:aZ dvs ds) (hx:iO CX X E) (ha:PA X (e::es) t)
  (hst:starEach (e::es) X.env=(false,eval e X.env)::starEach es X.env:=by rfl) (hpl:(backTo pos (starEach es X.env)).any (·.1)=false:=by rfl)
  (ht:eval (.Call (.Attribute o m apos) (e::es) [] pos) X.env=(do
   let ov <-eval o X.env
   standAt apos.atName
   let (f,first) <-holding [ov] (getMethod ov m pl)
   callWith pos f first (backTo pos (starEach (e::es) X.env)) (backToKw pos (keywordEach [] X.env))):=by rfl):
  PE X (.Call (.Attribute o m apos) (e::es) [] pos) (lZ C m sp dvs E ta t):=by
 intro pins s σ H Q I h
 refine PySem.W.methodCall_KW (pl:=pl) (cF (he pins s σ H _ I h) fun u s1 ⟨x,H1,I1,rx,a,dx,fs,ex,ea,l,q⟩=>?_) ht
 subst ex
 obtain rfl:u=Value.ref a:=rx
 refine xF I1 ea c hm l ?_
 refine PySem.W.callWith_K (first:=[.ref a]) (h₀:=X.base) I.ok.mod.kin hm.kp (cF (ha pos pins s1 σ H1 _ I1 q) fun us s2 ⟨vs,H2,I2,r,q2⟩=>⟨I2.kIn,?_⟩) hst hpl
 exact Gv (us:=.ref a::us) (vs:=.ref a::vs) F hr hb hd hx I2 (.cons rfl r) q2
theorem cA {pl:Sem Bool} (he:PE X o ta) (c:Fr X.K C) (hm:Ua X.K C m f) (F:bO X.prog X.w X.K X.mg X.base CX k f fd ps sp) (hr:fU k X.A) (hb:eV X.K fd ps ds) (hd:aZ dvs ds) (hx:iO CX X E)
  (ht:eval (.Call (.Attribute o m apos) [] [] pos) X.env=(do
   let ov <-eval o X.env
   standAt apos.atName
   let (f,first) <-holding [ov] (getMethod ov m pl)
   callWith pos f first (backTo pos (starEach [] X.env)) (backToKw pos (keywordEach [] X.env))):=by rfl):
  PE X (.Call (.Attribute o m apos) [] [] pos) (lZ C m sp dvs E ta hZ):=by
 intro pins s σ H Q I h
 refine PySem.W.methodCall_KW (pl:=pl) (cF (he pins s σ H _ I h) fun u s1 ⟨x,H1,I1,rx,a,dx,fs,ex,ea,l,q⟩=>?_) ht
 subst ex
 obtain rfl:u=Value.ref a:=rx
 refine xF I1 ea c hm l ?_
 exact PySem.W.callWith_K0 (first:=[.ref a]) I1.kIn hm.kp (Gv (us:=[.ref a]) (vs:=[.ref a]) F hr hb hd hx I1 (.cons rfl .nil) q)
structure Mk (K:PySem.W.Frag) (C f:Addr):Prop where
 makes:PySem.W.makesIn K C=true
 init:PySem.W.findIn K (.ref C) "__init__"=some (some (.ref f))
 fn:PySem.W.isFn K (.ref f)=true
 kp:PySem.W.keepIn K (.ref C)=true
theorem Di {pins:List (Addr×Obj)} {σ:St} {H:Hp} {s:Shared} {Q:VK} {us:List Value} {vs:List V} (M:Mk X.K C f) (F:bO X.prog X.w X.K X.mg X.base CX k f fd ps sp) (hr:fU (k+1) X.A) (hb:eV X.K fd ps ds) (hd:aZ dvs ds)
  (hx:iO CX X E) (I:aO X pins σ H s) (r:aZ vs us)
  (h:∀ x dx,H x=none->H dx=none->dx≠x->sp (.ref x::(vs++dvs)) (upd (upd H dx (.own x)) x (.ins C dx [])) (fun v H2=>v=.non/\Q (.ref x) H2) E):
  wpAny (model X.prog X.w) X.A (call (.ref C) us) (EP X pins σ Q) X.xe s:=by
 have hq:=h (s.heap.objs.size+1) s.heap.objs.size (I.hok.fresh (Nat.le_succ _)) (I.hok.fresh (Nat.le_refl _)) (Nat.ne_of_lt (Nat.lt_succ_self _))
 have I2:=aO.made (C:=C) I
 have r2:aZ (V.ref (s.heap.objs.size+1)::(vs++dvs)) (Value.ref (s.heap.objs.size+1)::(us++ds)):=.cons rfl (r.append hd)
 have hl:(Value.ref (s.heap.objs.size+1)::us++ds).length=ps.length:=by
  have e:=r2.length
  rw [F.len _ _ _ _ hq] at e
  exact e.symm
 refine wpAny_call (Cs (f:=f) I.kIn M.makes M.init (beq_iff_eq.mp M.fn) (codeAny_mono (F.run _ X.stack _ _ ⟨Value.ref (s.heap.objs.size+1)::us,[]⟩ (Value.ref (s.heap.objs.size+1)::(us++ds)) _ _ E (hr.make C us [])
  (I2.env0.make C us []) (hb _ (Value.ref (s.heap.objs.size+1)::us) I2.kIn hl) r2 hq) fun r s' hq'=>?_))
 cases r with
 |error e=>exact hx pins σ _ _ e s' I2 hq'
 |ok fl=>
  cases fl with
  |ret u=>
   obtain ⟨v,H',I3,rv,ev,q3⟩:=I2.after hq'
   subst ev
   exact ⟨rv,⟨V.ref (s.heap.objs.size+1),H',I3,rfl,q3⟩⟩
  |next=>exact False.elim hq'
  |brk=>exact False.elim hq'
  |cont=>exact False.elim hq'
theorem qB (M:Mk X.K C f) (F:bO X.prog X.w X.K X.mg X.base CX k f fd ps sp) (hr:fU (k+1) X.A) (hg:Gl X x) (hm:X.mg x=some (.ref C)) (hb:eV X.K fd ps ds) (hd:aZ dvs ds) (hx:iO CX X E)
  (ha:PA X (e::es) t) (hdb:(x==("__debug__":Str))=false:=by decide) (he:starEach (e::es) X.env=(false,eval e X.env)::starEach es X.env:=by rfl) (hpl:(backTo pos (starEach es X.env)).any (·.1)=false:=by rfl):
  PE X (.Call (.Name x p) (e::es) [] pos) (Jo C sp dvs E t):=by
 intro pins s σ H Q I h
 refine wpAny_Call_Name_kw (jA I hg hm ?_ hdb)
 refine PySem.W.callWith_K (h₀:=X.base) I.ok.mod.kin M.kp (cF (ha pos pins s σ H _ I h) fun us s1 ⟨vs,H1,I1,r,q⟩=>⟨I1.kIn,?_⟩) he hpl
 exact Di M F hr hb hd hx I1 r q
theorem Qk (M:Mk X.K C f) (F:bO X.prog X.w X.K X.mg X.base CX k f fd ps sp) (hr:fU (k+1) X.A) (hg:Gl X x) (hm:X.mg x=some (.ref C)) (hb:eV X.K fd ps ds) (hd:aZ dvs ds) (hx:iO CX X E)
  (hdb:(x==("__debug__":Str))=false:=by decide):PE X (.Call (.Name x p) [] [] pos) (Jo C sp dvs E hZ):=by
 intro pins s σ H Q I h
 refine wpAny_Call_Name_kw (jA I hg hm ?_ hdb)
 exact PySem.W.callWith_K0 I.kIn M.kp (Di (us:=[]) M F hr hb hd hx I .nil h)
end
section
variable {X:Cx} {CX:Fp} {k:Nat} {f C:Addr} {fd:FuncData} {ps ks:List Str} {sp:Sp} {E:XK} {x m:Str} {p pos apos kpos:Pos} {e o:Expr} {es:List Expr} {kws:List Keyword} {te ta:TE} {t tk:TA} {nm:Option Str}
variable {g:List Value->List Value->List Value} {gV:List V->List V->List V}
end
structure aP (N P:List Str) (sc:Scope):Prop where
 kind:sc.kind=.function
 co:sc.isCoroutine=false
 gen:sc.isGenerator=false
 nd:N.Nodup
 pre:N.take P.length=P
 par:∀ x∈P,sc.names.lookup x=some .local\/sc.names.lookup x=some .cell
 nofree:∀ y∈sc.names,y.2≠.free
theorem zN {kindOf:Str->Option NameKind} {x:Str}:∀ {binds:List (Str×Value)} {m:Str->Option Value},(∀ v,(x,v)∉binds)->bindL kindOf binds m x=m x
 |[],_,_=>rfl
 |(n,v)::r,m,h=>by
  unfold bindL
  rw [zN fun w hw=>h w (List.mem_cons_of_mem _ hw)]
  split
  ·have:x≠n:=by rintro rfl;exact h v List.mem_cons_self
   simp [this]
  ·rfl
theorem yL {kindOf:Str->Option NameKind} {x:Str}:∀ {binds:List (Str×Value)} {m:Str->Option Value},(∀ v,(x,v)∉binds)->bindC kindOf binds m x=m x
 |[],_,_=>rfl
 |(n,v)::r,m,h=>by
  unfold bindC
  rw [yL fun w hw=>h w (List.mem_cons_of_mem _ hw)]
  split
  ·rfl
  ·have:x≠n:=by rintro rfl;exact h v List.mem_cons_self
   simp [this]
theorem yH {kindOf:Str->Option NameKind} {x:Str} {v:Value}:∀ {P:List Str} {vs:List Value} {i:Nat} {m:Str->Option Value},P.Nodup->P[i]?=some x->vs[i]?=some v->kindOf x=some .local->
  bindL kindOf (P.zip vs) m x=some v
 |[],_,_,_,_,h,_,_=>by simp at h
 |_::_,[],_,_,_,_,h,_=>by simp at h
 |p::P,w::vs,0,m,nd,h1,h2,hk=>by
  simp at h1 h2;subst h1;subst h2
  show bindL kindOf ((p,w)::P.zip vs) m p=_
  unfold bindL
  rw [zN fun v hv=>(List.nodup_cons.mp nd).1 (List.of_mem_zip hv).1,if_pos hk]
  simp
 |p::P,w::vs,i+1,m,nd,h1,h2,hk=>by
  show bindL kindOf ((p,w)::P.zip vs) m x=_
  unfold bindL
  exact yH (i:=i) (List.nodup_cons.mp nd).2 (by simpa using h1) (by simpa using h2) hk
theorem yJ {kindOf:Str->Option NameKind} {x:Str} {v:Value}:∀ {P:List Str} {vs:List Value} {i:Nat} {m:Str->Option Value},P.Nodup->P[i]?=some x->vs[i]?=some v->kindOf x≠some .local->
  bindC kindOf (P.zip vs) m x=some v
 |[],_,_,_,_,h,_,_=>by simp at h
 |_::_,[],_,_,_,_,h,_=>by simp at h
 |p::P,w::vs,0,m,nd,h1,h2,hk=>by
  simp at h1 h2;subst h1;subst h2
  show bindC kindOf ((p,w)::P.zip vs) m p=_
  unfold bindC
  rw [yL fun v hv=>(List.nodup_cons.mp nd).1 (List.of_mem_zip hv).1,if_neg hk]
  simp
 |p::P,w::vs,i+1,m,nd,h1,h2,hk=>by
  show bindC kindOf ((p,w)::P.zip vs) m x=_
  unfold bindC
  exact yJ (i:=i) (List.nodup_cons.mp nd).2 (by simpa using h1) (by simpa using h2) hk
def lR (N:List Str) (vs:List V):St:=vs.map some++List.replicate (N.length - vs.length) none
def Bl (CX:Fp) (P:Program) (w:World) (K:PySem.W.Frag) (mg:Str->Option Value) (base:Heap) (N:List Str) (qual:Str) (scope:Scope) (f:Addr) (cd:Value) (A:Around) (outer:List Env) (s:Shared) (H:Hp) (E:XK):Cx where
 prog:=P
 w:=w
 K:=K
 mg:=mg
 base:=base
 A:=A.deeper (envOfC qual scope s.heap.objs.size f cd)
 N:=N
 s_0:=s
 H_0:=H
 env:=envOfC qual scope s.heap.objs.size f cd
 outer:=outer
 stack:=envOfC qual scope s.heap.objs.size f cd::outer
 ex:=[]
 calm:=true
 fn:=fun _=>true
 pn:=[]
 xe:=fun e s'=>wpAny (model P w) (A.deeper (envOfC qual scope s.heap.objs.size f cd)) (leaving (envOfC qual scope s.heap.objs.size f cd) e) (fun _ s''=>CX outer H s E e s'') (fun e' s''=>CX outer H s E e' s'') s'
theorem Cp {sc:Scope} {n:Nat} {x:Str} (h:sc.names.lookup x=some .cell):∃ c,(cellsFrom n sc.names []).lookup x=some c:=by
 have q:=PySem.W.cellsFrom_some sc.names n [] (.inl h)
 exact Option.isSome_iff_exists.mp q
theorem xX {CX:Fp} {P:Program} {w:World} {K:PySem.W.Frag} {mg:Str->Option Value} {base:Heap} {N ps:List Str} {qual:Str} {scope:Scope} {f:Addr} {cd:Value} {A:Around} {outer:List Env} {s s1:Shared} {H:Hp} {E:XK} {us:List Value} {vs:List V}
  (S:aP N ps scope) (hd:A.handled=none) (e0:Ex P w K mg base A outer s H) (hl:vs.length=ps.length) (r:aZ vs us)
  (x:InCallC s s.heap.objs.size (bindL (envOfC qual scope s.heap.objs.size f cd).kindOf (ps.zip us) fun _=>none) (cellsFrom (s.heap.objs.size+1) scope.names []) (bindC (envOfC qual scope s.heap.objs.size f cd).kindOf (ps.zip us) fun _=>none) s1):
  aO (Bl CX P w K mg base N qual scope f cd A outer s H E) [] (lR N vs) H s1:=by
 have hpl:ps.length<=N.length:=by have:=congrArg List.length S.pre;rw [List.length_take] at this;omega
 obtain ⟨h1,tk,rfl,hk⟩:=x.done
 have noA:∀ b:Addr,b∉(Bl CX P w K mg base N qual scope f cd A outer s H E).ex:=fun b z=>absurd (show b∈([]:List Addr) from z) (by simp)
 refine ⟨⟨e0.mod,S.kind,rfl,rfl,Nat.le_refl _,fun y z c h1 h2=>?_,fun y hy=>?_,fun y c _ h=>?_,fun _=>hd,Around.frames_deeper e0.frames,.inr ⟨rfl,rfl⟩,fun b z=>absurd z (noA b),e0.bs,e0.bsz,fun b _ _=>noA b,fun b z=>absurd z (noA b),e0.funs,e0.frf⟩,
  rfl,e0.bare,Un.kept hk,⟨_,x.toInCall.ns,fun i y v h1 h2 h3=>?_⟩,fun y c h=>⟨_,x.cell y c h⟩,e0.hok.fresh (Nat.le_refl _),fun y c h=>?_,fun p hp=>absurd (show p∈([]:List (Addr×Obj)) from hp) (by simp),e0.hok.kept hk,?_⟩
 ·exact name_of_addr x.apart (PySem.mem_of_lookup h1) (PySem.mem_of_lookup h2)
 ·have hy:scope.names.lookup y=some .cell\/scope.names.lookup y=some .free:=hy
  rcases hy with hy|hy
  ·exact Cp hy
  ·exact absurd rfl (S.nofree _ (PySem.mem_of_lookup hy))
 ·exact Nat.le_of_lt (x.above y c (PySem.mem_of_lookup h))
 ·have hi:i<vs.length:=by
   unfold lR at h2
   by_cases hi:i<vs.length
   ·exact hi
   ·rw [List.getElem?_append_right (by simpa using hi)] at h2
    rw [List.getElem?_replicate] at h2
    split at h2<;>cases h2
  have ha:vs[i]?=some v:=by
   unfold lR at h2
   rw [List.getElem?_append_left (by simpa using hi),List.getElem?_map] at h2
   cases e:vs[i]? with
   |none=>rw [e] at h2;cases h2
   |some a=>rw [e] at h2;cases h2;rfl
  obtain ⟨u,hu,rv⟩:=r.get ha
  have hp:ps[i]?=some y:=by
   rw [<-S.pre,List.getElem?_take_of_lt (by omega)];exact h1
  have ndP:ps.Nodup:=by rw [<-S.pre];exact S.nd.sublist (List.take_sublist _ _)
  refine ⟨u,rv,?_⟩
  rcases S.par y (List.mem_of_getElem? hp) with k|k
  ·exact .inl ⟨k,yH ndP hp hu k⟩
  ·obtain ⟨c,e⟩:=Cp (n:=s.heap.objs.size+1) k
   refine .inr ⟨.inl k,c,e,?_⟩
   have q:=x.cell y c e
   rw [yJ ndP hp hu (by show scope.names.lookup y≠_;rw [k];decide)] at q
   exact q
 ·exact e0.hok.fresh (Nat.le_of_lt (x.above y c (PySem.mem_of_lookup h)))
 ·unfold lR
  show _=N.length
  rw [List.length_append,List.length_map,List.length_replicate]
  omega
theorem Wl {CX:Fp} {P:Program} {w:World} {K:PySem.W.Frag} {mg:Str->Option Value} {base:Heap} {k:Nat} {f:Addr} {name qual:Str} {params:Arguments} {body:List Stmt} {scope:Scope} {dV kV doc pm cdv ct oc:Value} {an od:Option Addr}
  {osl:Array (Option Value)} {N ps:List Str} {sp:Sp} (lk:K.lookup f=some ⟨oc,od,.func (PySem.W.fnOf name qual params body scope dV kV doc pm an cdv ct),osl⟩) (hcd:PySem.W.codeIn K cdv qual=true) (S:aP N ps scope)
  (len:∀ vs H Q E,sp vs H Q E->vs.length=ps.length)
  (hbody:∀ (A:Around) (outer:List Env) (s:Shared) (H:Hp) (vs:List V) (Q:VK) (E:XK),fU k (A.deeper (envOfC qual scope s.heap.objs.size f cdv))->sp vs H Q E->
   ∃ t,zF (Bl CX P w K mg base N qual scope f cdv A outer s H E) body t/\t {nx:=fun _ H'=>Q .non H',rt:=Q} (lR N vs) H):
  bO P w K mg base CX (k+1) f (PySem.W.fnOf name qual params body scope dV kV doc pm an cdv ct) ps sp:=by
 refine ⟨len,fun A outer s H args us vs Q E hr e0 hb r hsp=>?_⟩
 have hl:=len _ _ _ _ hsp
 have KX:K.In s.heap:=e0.mod.kin.keeps fun b o e=>(e0.bs b o e).1
 have lim:s.heap.NoLimit:=e0.mod.nolimit.keeps fun b o e=>(e0.bs b o e).1
 have hkind:∀ y∈ps.zip us,scope.names.lookup y.1=some .local\/(scope.names.lookup y.1=some .cell/\((cellsFrom (s.heap.objs.size+1) scope.names []).lookup y.1).isSome=true):=fun ⟨n,v⟩ hy=>by
  rcases S.par n (List.of_mem_zip hy).1 with q|q
  ·exact .inl q
  ·exact .inr ⟨q,PySem.W.cellsFrom_some _ _ _ (.inl q)⟩
 refine codeAny_call_function hr.depth (KX _ _ lk) rfl S.co S.gen rfl (PySem.W.codeRec_of KX hcd) (hb _ _ _ _ ?_)
 refine wpAny_newFunctionEnv_cells S.kind hkind fun env he s1 x=>?_
 subst he
 refine ⟨lim.keeps x.toInCall.keep,codeAny_func ?_⟩
 obtain ⟨t,ht,hq⟩:=hbody A outer s H vs Q E (hr.deeper _) hsp
 have I:aO (Bl CX P w K mg base N qual scope f cdv A outer s H E) [] (lR N vs) H s1:=xX S hr.hd e0 hl r x
 refine wpAny_mono (ht [] s1 (lR N vs) H _ I hq) (fun fl s' hs=>?_) fun e s' hs=>hs
 have fin:∀ {σ':St} {H':Hp} {v:V} {u:Value},aO (Bl CX P w K mg base N qual scope f cdv A outer s H E) [] σ' H' s'->bQ v u->Q v H'->CE outer P w H s Q u s':=
  fun {σ' H' v u} J rv q=>⟨v,H',J.os,J.bare,J.base,J.hok,rv,q⟩
 cases fl with
 |ret u=>
  obtain ⟨v,σ',H',J,rv,q⟩:=hs
  exact fin J rv q
 |next=>
  obtain ⟨σ',H',J,q⟩:=hs
  exact fin (v:=V.non) (u:=Value.none) J rfl q
 |brk=>
  obtain ⟨_,_,_,q⟩:=hs
  exact False.elim q
 |cont=>
  obtain ⟨_,_,_,q⟩:=hs
  exact False.elim q
section
variable {X:Cx} {x:Str} {p pos:Pos} {e:Expr} {es:List Expr} {t:TA} {id T:String} {r:List V->Hp->VK->Prop}
def tCB (r:List V->Hp->VK->Prop) (t:TA):TE:=fun σ H Q=>t σ H fun vs H1=>r vs H1 Q
theorem bN (hc:oG X (.builtin id) r) (hg:Gl X x) (hm:X.mg x=none) (hv:bootBuiltins x=some (.builtin id)) (ha:PA X (e::es) t) (hn:x≠"__name__":=by decide) (hdb:(x==("__debug__":Str))=false:=by decide)
  (he:starEach (e::es) X.env=(false,eval e X.env)::starEach es X.env:=by rfl) (hpl:(backTo pos (starEach es X.env)).any (·.1)=false:=by rfl):PE X (.Call (.Name x p) (e::es) [] pos) (tCB r t):=by
 intro pins s σ H Q I h
 refine wpAny_Call_Name_kw (rY I hg hm hv ?_ hn hdb)
 exact PyProof.Rows.callWith_builtin1 (cF (ha pos pins s σ H _ I h) fun us s1 ⟨vs,H1,I1,r1,q1⟩=>hc pins s1 σ H1 vs us Q I1 r1 q1) he hpl
theorem rE (hc:oG X (.type T) r) (hg:Gl X x) (hm:X.mg x=none) (hv:bootBuiltins x=some (.type T)) (ha:PA X (e::es) t) (hn:x≠"__name__":=by decide) (hdb:(x==("__debug__":Str))=false:=by decide)
  (he:starEach (e::es) X.env=(false,eval e X.env)::starEach es X.env:=by rfl) (hpl:(backTo pos (starEach es X.env)).any (·.1)=false:=by rfl):PE X (.Call (.Name x p) (e::es) [] pos) (tCB r t):=by
 intro pins s σ H Q I h
 refine wpAny_Call_Name_kw (rY I hg hm hv ?_ hn hdb)
 exact PyProof.Rows.callWith_type1 (cF (ha pos pins s σ H _ I h) fun us s1 ⟨vs,H1,I1,r1,q1⟩=>hc pins s1 σ H1 vs us Q I1 r1 q1) he hpl
end
end L2
namespace HT
open PySem PyProof.Rows
theorem Qt (A:Around) (s:Shared) (a:Int) (t:Tok) (c:Int) (u:Tok):∃ e,SeqAt.EqAt A s (.int a t) (.int c u) e/\(e=true↔a=c):=
 ⟨(a==c),SeqAt.EqAt.int_int a t c u,by simp⟩
section
open PySem.SeqAt
open PySem.AutoSeq1 (wpAny_loadPart')
open PySem.MeetsSeq PySem.MeetsSeq2 PySem.MeetsSeq3
end
section
variable {prog:Program} {w:World} {A:Around} {E:Value->Shared->Prop} {s:Shared}
theorem Tz {t b:Addr} {vs ws:List Value} {Q:Value->Shared->Prop} (ht:IsTup s.heap t vs.toArray) (hb:IsTup s.heap b ws.toArray) (hv:vs≠[])
  (h1:ws=[]->Q (.ref t) s) (h2:ws≠[]->Q (.ref s.heap.objs.size) {s with heap:=s.heap.push {cls:=.type "tuple",data:=.seq (vs++ws).toArray}})
  (hsz:vs.length+ws.length<=sizeLine):wpAny (model prog w) A (binaryOp .Add (.ref t) (.ref b)) Q E s:=by
 obtain ⟨⟨cls,dd,data,sl⟩,ho,hc,n,hd⟩:=id ht
 obtain ⟨⟨cls2,dd2,data2,sl2⟩,ho2,hc2,n2,hd2⟩:=id hb
 simp only at hc hd hc2 hd2
 subst hc hd hc2 hd2
 have e:vs.toArray++ws.toArray=(vs++ws).toArray:=by simp
 by_cases hw:ws=[]
 ·exact concat_meets ⟨_,ho,rfl⟩ ⟨_,ho2,rfl⟩ noFill_tuple_add seq_tuple_add PySem.F.slot_tuple_add PySem.F.entry_tuple_add (PySem.F.args_tuple_add_2 _ _)
   (tuple_addW1 t b vs.toArray ws.toArray n n2 dd dd2 sl sl2 (by simpa using hv) (by simp [hw])) ⟨ho,ho2,h1 hw⟩
 ·refine concat_meets ⟨_,ho,rfl⟩ ⟨_,ho2,rfl⟩ noFill_tuple_add seq_tuple_add PySem.F.slot_tuple_add PySem.F.entry_tuple_add (PySem.F.args_tuple_add_2 _ _)
   (tuple_addW2 t b vs.toArray ws.toArray n n2 dd dd2 sl sl2 (by simpa using hv) (by simpa using hw) (by rw [List.size_toArray,List.size_toArray];exact hsz)) ⟨ho,ho2,?_⟩
  rw [e]
  exact h2 hw
def gU (n d:Nat):Option Int->Nat
 |none=>d
 |some v=>if v<0 then (v+(n:Int)).toNat else min v.toNat n
theorem Pp (n d:Nat):gU n d none=d:=rfl
theorem Tw (n d k:Nat):gU n d (some (k:Int))=min k n:=by
 show (if (k:Int)<0 then ((k:Int)+(n:Int)).toNat else min (k:Int).toNat n)=min k n
 rw [if_neg (by omega),Int.toNat_natCast]
theorem Xw (n d:Nat) (hd:d<=n) (o:Option Int):gU n d o<=n:=by
 cases o with
 |none=>exact hd
 |some v=>
  show (if v<0 then (v+(n:Int)).toNat else min v.toNat n)<=n
  by_cases hv:v<0
  ·rw [if_pos hv];omega
  ·rw [if_neg hv];exact Nat.min_le_right _ _
theorem Kf (v:Int) (n d:Nat):(if v<0 then max (v+(n:Int)) 0 else min v (n:Int))=((gU n d (some v):Nat):Int):=by
 show (if v<0 then max (v+(n:Int)) 0 else min v (n:Int))=(((if v<0 then (v+(n:Int)).toNat else min v.toNat n):Nat):Int)
 by_cases hv:v<0
 ·simp only [if_pos hv];omega
 ·simp only [if_neg hv];omega
theorem Ib (lo hi:Option Int) (n:Nat):Builtin.Slice.sliceAdjust lo hi 1 (n:Int)=(((gU n 0 lo:Nat):Int),((gU n n hi:Nat):Int)):=by
 have h1:¬((1:Int)<0):=by omega
 unfold Builtin.Slice.sliceAdjust
 simp only [h1,if_false]
 refine Prod.ext ?_ ?_
 ·cases lo with
  |none=>rfl
  |some v=>exact Kf v n 0
 ·cases hi with
  |none=>rfl
  |some v=>exact Kf v n n
theorem Gb (i j:Nat):Builtin.Slice.slicePlaces (i:Int) (j:Int) 1=j - i:=by
 unfold Builtin.Slice.slicePlaces
 have h1:(1:Int)>0:=by omega
 simp only [h1,if_true,Int.ediv_one]
 split<;>omega
theorem vF {v:Value} {o:Option Int} {Q:Option Int->Shared->Prop} (p:IsPart v o) (h:Q o s):wpAny (model prog w) A (Builtin.Slice.slicePartIndex v) Q E s:=by
 cases p with
 |none=>exact slicePart_none h
 |int i t=>exact slicePart_int h
theorem kF {sl:Addr} {vl vu:Value} {lo hi:Option Int} {n:Nat} {Q:Int×Int×Nat->Shared->Prop} (hs:s.heap.IsSliceOf sl vl vu .none) (pl:IsPart vl lo) (pu:IsPart vu hi)
  (h:Q (((gU n 0 lo:Nat):Int),1,gU n n hi - gU n 0 lo) s):wpAny (model prog w) A (Builtin.Slice.sliceApplied (.ref sl) (pure (n:Int))) Q E s:=by
 obtain ⟨os,hos,hcs,hds⟩:=id hs
 unfold Builtin.Slice.sliceApplied Builtin.Slice.sliceFields
 refine wpAny_bind (wpAny_bind (wpAny_field hos hds (x:=vl) rfl (wpAny_bind (wpAny_field hos hds (x:=vu) rfl (wpAny_bind (wpAny_field hos hds (x:=.none) rfl (wpAny_pure ?_)))))))
 refine wpAny_bind (slicePart_none ?_)
 show wpAny _ _ (if ((1:Int)==0)=true then _ else _) _ _ s
 rw [if_neg (by decide)]
 refine wpAny_bind (vF pl (wpAny_bind (vF pu (wpAny_bind (wpAny_pure ?_)))))
 show wpAny _ _ (match Builtin.Slice.sliceAdjust lo hi 1 (n:Int) with|(lo,hi)=>pure (lo,(1:Int),Builtin.Slice.slicePlaces lo hi 1)) _ _ s
 rw [Ib lo hi n]
 show wpAny _ _ (pure (((gU n 0 lo:Nat):Int),(1:Int),Builtin.Slice.slicePlaces ((gU n 0 lo:Nat):Int) ((gU n n hi:Nat):Int) 1)) _ _ s
 rw [Gb]
 exact wpAny_pure h
theorem Oy (xs:Array Value) (i k:Nat):((List.range k).filterMap fun (m:Nat)=>xs[((i:Int)+(m:Int) * 1).toNat]?).toArray=((xs.toList.drop i).take k).toArray:=by
 have e:(fun (m:Nat)=>xs[((i:Int)+(m:Int) * 1).toNat]?)=fun m=>xs[i+m]?:=by
  funext m
  have:((i:Int)+(m:Int) * 1).toNat=i+m:=by omega
  rw [this]
 rw [e]
 have:=pick_run xs i k
 rw [List.filterMap_map] at this
 have e2:((fun x=>xs[x]?)∘fun x=>i+x)=fun m=>xs[i+m]?:=rfl
 rw [e2] at this
 rw [this]
theorem pW {t sl:Addr} {items:Array Value} {vl vu:Value} {lo hi:Option Int} {Q:Value->Shared->Prop} (ht:IsTup s.heap t items) (hs:s.heap.IsSliceOf sl vl vu .none) (pl:IsPart vl lo) (pu:IsPart vu hi)
  (hw:¬(gU items.size 0 lo=0/\gU items.size items.size hi=items.size))
  (h:Q (.ref s.heap.objs.size) {s with heap:=s.heap.push {cls:=.type "tuple",data:=.seq ((items.toList.drop (gU items.size 0 lo)).take (gU items.size items.size hi - gU items.size 0 lo)).toArray}})
  (hsz:items.size<=sizeLine):wpAny (model prog w) A (getItem (.ref t) (.ref sl)) Q E s:=by
 have htake:sizeOk (.seq ((items.toList.drop (gU items.size 0 lo)).take (gU items.size items.size hi - gU items.size 0 lo)).toArray):=by
  show ((items.toList.drop (gU items.size 0 lo)).take (gU items.size items.size hi - gU items.size 0 lo)).toArray.size<=sizeLine
  rw [List.size_toArray,List.length_take,List.length_drop,Array.length_toList]
  omega
 have hj:gU items.size items.size hi<=items.size:=Xw _ _ (Nat.le_refl _) hi
 obtain ⟨os,hos,hcs,hds⟩:=id hs
 have hTs:s.TypeIs (.ref sl) "slice":=⟨os,hos,hcs⟩
 unfold getItem
 try with_reducible refine wpAny_holding ?_
 first|refine wpAny_bind (wpAny_pure ?_)|skip
 refine wpAny_bind (wpAny_sequenceKey ht.typeIs (by decide) ?_)
 refine wpAny_bind (wpAny_callSpecial?_slot (name:=Str.ofString "__getitem__") ht.typeIs PyProof.Rows.slot_tuple_getitem
  (wpAny_call_entry PyProof.Rows.slot_tuple_getitem ht.typeIs entry_tuple_getitem ?_ (args_tuple_getitem _ _)))
 show wpAny _ _ (Builtin.Tuple.tupleItemsOf (.ref t)>>=_) _ _ s
 refine wpAny_bind (tupleItemsOf_ ht ?_)
 refine wpAny_bind (wpAny_typeOf hTs ?_)
 rw [if_pos (by decide)]
 refine wpAny_bind (kF hs pl pu ?_)
 have hno:¬((((gU items.size 0 lo:Nat):Int)==0 && (1:Int)==1 && (gU items.size items.size hi - gU items.size 0 lo)==items.size)=true):=by
  intro q
  rw [Bool.and_eq_true,Bool.and_eq_true] at q
  have q1:((gU items.size 0 lo:Nat):Int)=0:=eq_of_beq q.1.1
  have q2:gU items.size items.size hi - gU items.size 0 lo=items.size:=eq_of_beq q.2
  exact hw ⟨by omega,by omega⟩
 show wpAny _ _ (if (((gU items.size 0 lo:Nat):Int)==0 && (1:Int)==1 && (gU items.size items.size hi - gU items.size 0 lo)==items.size)=true then _ else _) _ _ s
 rw [if_neg hno,Oy]
 first
  |exact wpAny_bind (m:=Builtin.Tuple.tupleExact _) (wpAny_newObj_type (wpAny_pure ⟨_,rfl,wpAny_pure h⟩) htake)
  |exact wpAny_bind (m:=Builtin.Tuple.tupleExact _) (wpAny_newObj_type (wpAny_bind (wpAny_pure (wpAny_pure ⟨_,rfl,wpAny_pure h⟩))) htake)
  |exact wpAny_bind (wpAny_bind (m:=Builtin.Tuple.tupleExact _) (wpAny_newObj_type (wpAny_pure (wpAny_pure ⟨_,rfl,wpAny_pure h⟩)) htake))
  |exact wpAny_bind (wpAny_bind (m:=Builtin.Tuple.tupleExact _) (wpAny_newObj_type (wpAny_pure ⟨_,rfl,wpAny_pure h⟩) htake))
end
end HT
namespace L2
open PySem PySem.Spec PyProof.Rows
abbrev TO:=St->Hp->(Option Int->Hp->Prop)->Prop
def PO (X:Cx) (e:Option Expr) (t:TO):Prop:=
 ∀ (pins:List (Addr×Obj)) (s:Shared) (σ:St) (H:Hp) (Q:Option Int->Hp->Prop),aO X pins σ H s->t σ H Q->
  wpAny (model X.prog X.w) X.A (evalPart e X.env) (fun u s'=>∃ o H',aO X pins σ H' s'/\IsPart u o/\Q o H') X.xe s
def Il:TO:=fun _ H Q=>Q none H
def Wh (t:TE):TO:=fun σ H Q=>t σ H fun x H1=>∃ i,x=.int i/\Q (some i) H1
theorem fH {ns:List Int}:∀ {us:List Value},aZ (ns.map V.int) us->IntsAre us ns:=by
 induction ns with
 |nil=>intro us r;rw [List.map_nil] at r;cases r;exact .nil
 |cons n ns ih=>
  intro us r
  rw [List.map_cons] at r
  cases r with
  |cons r1 r2=>
   obtain ⟨t,e⟩:=r1
   subst e
   exact .cons n t (ih r2)
section
variable {X:Cx} {e:Expr} {te:TE} {lo hi:Option Expr} {tl th:TO} {pos p2:Pos}
theorem Um:PO X none Il:=by
 intro pins s σ H Q I h
 rw [evalPart_none]
 exact wpAny_pure ⟨none,H,I,.none,h⟩
theorem Tb (h:PE X e te):PO X (some e) (Wh te):=by
 intro pins s σ H Q I hw
 rw [evalPart_some]
 refine cF (h pins s σ H _ I hw) fun u s1 ⟨x,H1,I1,r1,q1⟩=>?_
 obtain ⟨i,rfl,q⟩:=q1
 obtain ⟨t,rfl⟩:=r1
 exact ⟨some i,H1,I1,.int i t,q⟩
def SlR (X:Cx) (r:V->Option Int->Option Int->Hp->VK->Prop):Prop:=
 ∀ (pins:List (Addr×Obj)) (s:Shared) (σ:St) (H:Hp) (x:V) (v vl vu:Value) (lo hi:Option Int) (sl:Addr) (Q:VK),aO X pins σ H s->bQ x v->s.heap.IsSliceOf sl vl vu .none->IsPart vl lo->IsPart vu hi->r x lo hi H Q->
  ∃ T id,typeLookup (.type T) "__getitem__"=pure (some (.builtin id))/\s.TypeIs v T/\wpAny (model X.prog X.w) X.A (getItem v (.ref sl)) (EP X pins σ Q) X.xe s
def tSl (r:V->Option Int->Option Int->Hp->VK->Prop) (te:TE) (tl th:TO):TE:=fun σ H Q=>te σ H fun x H1=>tl σ H1 fun l H2=>th σ H2 fun u H3=>r x l u H3 Q
theorem Qc {r:V->Option Int->Option Int->Hp->VK->Prop} (hr:SlR X r) (he:PE X e te) (hl:PO X lo tl) (hu:PO X hi th):PE X (.Subscript e (.Slice lo hi none p2) pos) (tSl r te tl th):=by
 intro pins s σ H Q I h
 refine Subscript_ (cF (he pins s σ H _ I h) fun v s1 ⟨x,H1,I1,r1,q1⟩=>?_)
 refine wpAny_Slice (cF (hl pins s1 σ H1 _ I1 q1) fun vl s2 ⟨l,H2,I2,pl,q2⟩=>cF (hu pins s2 σ H2 _ I2 q2) fun vu s3 ⟨u,H3,I3,pu,q3⟩=>?_)
 rw [evalPart_none]
 refine wpAny_pure ?_
 have I4:aO X pins σ H3 {s3 with heap:=s3.heap.push {cls:=.type "slice",data:=.fields #[vl,vu,.none]}}:=I3.kept (t':=s3.toks) fun b ob q=>Heap.get?_push_of_some _ q
 obtain ⟨T,id,hT,ht,hg⟩:=hr pins {s3 with heap:=s3.heap.push {cls:=.type "slice",data:=.fields #[vl,vu,.none]}} σ H3 x v vl vu l u s3.heap.objs.size Q I4 r1 (Heap.IsSliceOf.new ..) pl pu q3
 show wpAny (model X.prog X.w) X.A (subscriptTail e (.Slice lo hi none p2) v (.ref s3.heap.objs.size)) (EP X pins σ Q) X.xe {s3 with heap:=s3.heap.push {cls:=.type "slice",data:=.fields #[vl,vu,.none]}}
 exact tail_any (ops:=[.ref s3.heap.objs.size,v]) ht hT hg (by with_unfolding_all rfl)
def zY (xs:List V) (lo hi:Option Int):List V:=(xs.drop (HT.gU xs.length 0 lo)).take (HT.gU xs.length xs.length hi - HT.gU xs.length 0 lo)
theorem Cz (xs:List V) (lo hi:Option Int):(zY xs lo hi).length<=xs.length:=by
 unfold zY
 rw [List.length_take,List.length_drop]
 omega
def aCt (K:PySem.W.Frag):V->Option Int->Option Int->Hp->VK->Prop:=fun x lo hi H Q=>∃ a xs,x=.ref a/\cN K H a xs/\
 ¬(HT.gU xs.length 0 lo=0/\HT.gU xs.length xs.length hi=xs.length)/\∀ p,H p=none->Q (.ref p) (upd H p (.tup (zY xs lo hi)))
theorem Zv:SlR X (aCt X.K):=by
 intro pins s σ H x v vl vu lo hi sl Q I rx hs pl pu h
 obtain ⟨a,xs,rfl,hx,hw,q⟩:=h
 cases rx
 obtain ⟨its,r,ht,hz⟩:=I.tuple hx
 have hlen:its.toArray.size=xs.length:=by rw [List.size_toArray];exact r.length.symm
 refine ⟨"tuple",_,PyProof.Rows.slot_tuple_getitem.lookup,ht.typeIs,?_⟩
 refine HT.pW ht hs pl pu (by rw [hlen];exact hw) ?_ (by rw [hlen];exact hz)
 rw [hlen]
 refine ⟨.ref s.heap.objs.size,_,I.laid (t':=s.toks) (o:=.tup (zY xs lo hi)) (fun b ob q=>Heap.get?_push_of_some _ q) (Nat.le_refl _) ?_,rfl,q _ (I.hok.fresh (Nat.le_refl _))⟩
 exact ⟨Nat.le_trans (Cz xs lo hi) hz,_,(r.drop (HT.gU xs.length 0 lo)).take (HT.gU xs.length xs.length hi - HT.gU xs.length 0 lo),IsTup.new _ _⟩
def aAv (K:PySem.W.Frag):R2:=fun x y H Q=>∃ a b xs ys,x=.ref a/\y=.ref b/\cN K H a xs/\cN K H b ys/\xs≠[]/\xs.length+ys.length<=sizeLine/\
 (ys=[]->Q (.ref a) H)/\(ys≠[]->∀ p,H p=none->Q (.ref p) (upd H p (.tup (xs++ys))))
theorem aZ.nil_iff {xs:List V} {us:List Value} (r:aZ xs us):us=[]↔xs=[]:=by
 cases r with
 |nil=>simp
 |cons _ _=>simp
theorem Uv:tN X (binaryOp .Add) (aAv X.K):=by
 intro pins s σ H x y v u Q I rx ry h
 obtain ⟨a,b,xs,ys,rfl,rfl,ha,hb,hx,hz,q1,q2⟩:=h
 cases rx
 cases ry
 obtain ⟨its,r1,p1,_⟩:=I.tuple ha
 obtain ⟨its2,r2,p2,_⟩:=I.tuple hb
 refine HT.Tz p1 p2 (fun z=>hx (r1.nil_iff.mp z)) (fun z=>⟨.ref a,H,I,rfl,q1 (r2.nil_iff.mp z)⟩) (fun z=>?_) (by rw [<-r1.length,<-r2.length];exact hz)
 refine ⟨.ref s.heap.objs.size,_,I.laid (t':=s.toks) (o:=.tup (xs++ys)) (fun b ob q=>Heap.get?_push_of_some _ q) (Nat.le_refl _) ?_,rfl,q2 (fun w=>z (r2.nil_iff.mpr w)) _ (I.hok.fresh (Nat.le_refl _))⟩
 exact ⟨by rw [List.length_append];exact hz,_,r1.append r2,IsTup.new _ _⟩
end
def Sv (n:Nat) (i:Int):Option Nat:=if 0<=i then (if i<n then some i.toNat else none) else if -(n:Int)<=i then some (i+n).toNat else none
def Sn {α:Type} (xs:List α) (i:Int):Option α:=(Sv xs.length i).bind fun j=>xs[j]?
theorem Ik {n:Nat} {i:Int} {j:Nat} (h:Sv n i=some j):seqIndex? i n=some j/\j<n/\ -(n:Int)<=i/\i<n:=by
 unfold Sv at h
 by_cases h0:0<=i
 ·rw [if_pos h0] at h
  by_cases h1:i<n
  ·rw [if_pos h1] at h
   have e:i.toNat=j:=Option.some.inj h
   exact ⟨by rw [seqIndex_of h0 h1,e],by omega,by omega,h1⟩
  ·rw [if_neg h1] at h;cases h
 ·rw [if_neg h0] at h
  by_cases h1: -(n:Int)<=i
  ·rw [if_pos h1] at h
   have e:(i+n).toNat=j:=Option.some.inj h
   exact ⟨by rw [seqIndex_neg (by omega) h1,e],by omega,h1,by omega⟩
  ·rw [if_neg h1] at h;cases h
theorem Ij {α:Type} {xs:List α} {i:Int} {v:α} (h:Sn xs i=some v):∃ j,seqIndex? i xs.length=some j/\xs[j]?=some v/\j<xs.length/\ -(xs.length:Int)<=i/\i<xs.length:=by
 unfold Sn at h
 cases e:Sv xs.length i with
 |none=>rw [e] at h;cases h
 |some j=>
  rw [e] at h
  obtain ⟨h1,h2,h3,h4⟩:=Ik e
  exact ⟨j,h1,h,h2,h3,h4⟩
theorem hU {α:Type} {xs:List α} {j:Nat} {v:α} (h:xs[j]?=some v):Sn xs (j:Int)=some v:=by
 have hj:j<xs.length:=(List.getElem?_eq_some_iff.mp h).1
 have e:Sv xs.length (j:Int)=some j:=by
  unfold Sv
  rw [if_pos (by omega),if_pos (by omega)];simp
 unfold Sn;rw [e];exact h
def Tl (b:Expr):Prop:=∀ o i,subscripted b false o i=operate [o,i] (getItem o i)
def IxR (X:Cx) (r:R2):Prop:=
 ∀ (value slice:Expr) (pins:List (Addr×Obj)) (s:Shared) (σ:St) (H:Hp) (x y:V) (v u:Value) (Q:VK),aO X pins σ H s->bQ x v->bQ y u->r x y H Q->
  subscripted slice false v u=operate [v,u] (getItem v u)->wpAny (model X.prog X.w) X.A (subscriptTail value slice v u) (EP X pins σ Q) X.xe s
def MtR (X:Cx) (id:String) (r:V->List V->Hp->VK->Prop):Prop:=
 ∀ (pins:List (Addr×Obj)) (s:Shared) (σ:St) (H:Hp) (x:V) (xs:List V) (v:Value) (us:List Value) (Q:VK),aO X pins σ H s->bQ x v->aZ xs us->r x xs H Q->
  wpAny (model X.prog X.w) X.A (call (.builtin id) (v::us)) (EP X pins σ Q) X.xe s
section
variable {X:Cx} {a b:Expr} {ta tb:TE} {pos:Pos}
theorem bV {r:R2} (hr:IxR X r) (ha:PE X a ta) (hb:PE X b tb) (hs:Tl b):PE X (.Subscript a b pos) (Yi r ta tb):=by
 intro pins s σ H Q I h
 exact Subscript_ (Xo ha hb I h fun v u s2 x y H2 I2 rx ry q=>hr a b pins s2 σ H2 x y v u Q I2 rx ry q (hs _ _))
def aCs (K:PySem.W.Frag):R2:=fun x y H Q=>∃ p xs i v,x=.ref p/\y=.int i/\dB K H p xs/\Sn xs i=some v/\Q v H
def Yp (K:PySem.W.Frag):R2:=fun x y H Q=>∃ p xs i v,x=.ref p/\y=.int i/\cN K H p xs/\Sn xs i=some v/\Q v H
theorem fF:IxR X (aCs X.K):=by
 intro value slice pins s σ H x y v u Q I rx ry h hs
 obtain ⟨p,xs,i,z,rfl,rfl,hq,he,q⟩:=h
 cases rx
 obtain ⟨t,rfl⟩:=ry
 obtain ⟨its,r,pl,hz⟩:=I.list hq
 obtain ⟨j,h1,h2,h3,h4,h5⟩:=Ij he
 obtain ⟨w,ew,rw'⟩:=r.get h2
 have hl:=r.length
 have hn:=Ak
 have fin:EP X pins σ Q w s:=⟨z,H,I,rw',q⟩
 by_cases h0:0<=i
 ·have hj:i.toNat=j:=by
   rw [seqIndex_of h0 h5] at h1
   exact Option.some.inj h1
  exact item_listR pl.isList h0 (by omega) (by rw [hj];simpa using ew) fin hs
 ·have hj:(i+(its.toArray.size:Int)).toNat=j:=by
   rw [seqIndex_neg (by omega) h4] at h1
   rw [List.size_toArray,<-hl]
   exact Option.some.inj h1
  exact subscriptTail_builtinR (x:=w) pl.isList.typeIs slot_list_getitem.lookup
   (wpAny_getItem_list_neg (Q:=fun r s'=>r=w/\EP X pins σ Q r s') pl.isList (by omega) (by rw [List.size_toArray]<;>omega) (by omega) (by rw [hj];simpa using ew) ⟨rfl,fin⟩) hs
theorem bU:IxR X (Yp X.K):=by
 intro value slice pins s σ H x y v u Q I rx ry h hs
 obtain ⟨p,xs,i,z,rfl,rfl,hq,he,q⟩:=h
 cases rx
 obtain ⟨t,rfl⟩:=ry
 obtain ⟨its,r,pl,hz⟩:=I.tuple hq
 obtain ⟨j,h1,h2,h3,h4,h5⟩:=Ij he
 obtain ⟨w,ew,rw'⟩:=r.get h2
 have hl:=r.length
 have hn:=Ak
 have fin:EP X pins σ Q w s:=⟨z,H,I,rw',q⟩
 exact subscriptTail_builtinR (x:=w) pl.typeIs slot_tuple_getitem.lookup
  (getItem_tuple (j:=j) (Q:=fun r s'=>r=w/\EP X pins σ Q r s') pl (by omega) (by omega) (by rw [List.size_toArray,<-hl];exact h1) (by simpa using ew) ⟨rfl,fin⟩) hs
theorem Gg (its:List Value) (n j:Nat) (u:Value):Obj.mapSeq (·.setIfInBounds j u) {cls:=.type "list",data:=.seq its.toArray n}={cls:=.type "list",data:=.seq (its.set j u).toArray n}:=by
 simp [Obj.mapSeq]
theorem aO.lst {pins:List (Addr×Obj)} {σ:St} {H:Hp} {s:Shared} {p:Addr} {xs:List V} (I:aO X pins σ H s) (h:H p=some (.lst xs)):
  ∃ (its:List Value) (n:Nat),aZ xs its/\s.heap.get? p=some {cls:=.type "list",data:=.seq its.toArray n}/\xs.length<=sizeLine:=by
 obtain ⟨z,its,n,r,e⟩:=I.hok p _ h
 exact ⟨its,n,r,e,z⟩
theorem aO.lstUpd {pins:List (Addr×Obj)} {σ:St} {H:Hp} {s:Shared} {p:Addr} {xs ys:List V} {its its':List Value} {n n':Nat} {f:Obj->Obj} (I:aO X pins σ H s) (h:H p=some (.lst xs))
  (ho:s.heap.get? p=some {cls:=.type "list",data:=.seq its.toArray n}) (hf:f {cls:=.type "list",data:=.seq its.toArray n}={cls:=.type "list",data:=.seq its'.toArray n'}) (r:aZ ys its') (hz:ys.length<=sizeLine) (t:Nat):
  aO X pins σ (upd H p (.lst ys)) {s with heap:=s.heap.update p f,toks:=t}:=by
 have e:(s.heap.update p f).get? p=some {cls:=.type "list",data:=.seq its'.toArray n'}:=by
  rw [Heap.get?_update_self f ho (by rw [hf]<;>rfl),hf]
 refine I.write (x:=p) (e:=p) (by rw [h];trivial) (.inl rfl) (fun b u hb q=>(Heap.get?_update_other _ _ (Ne.symm hb)).trans q) ⟨_,e⟩ ?_
 exact ⟨hz,its',n',r,e⟩
def aA1:V->V->V->Hp->(Hp->Prop)->Prop:=fun o i v H Q=>∃ p xs k j,o=.ref p/\i=.int k/\H p=some (.lst xs)/\Sv xs.length k=some j/\Q (upd H p (.lst (xs.set j v)))
theorem Ei:aA4 X aA1:=by
 intro pins s σ H o i v ov iv u Q I ro ri rv h
 obtain ⟨p,xs,k,j,rfl,rfl,hp,hj,q⟩:=h
 cases ro
 obtain ⟨t,rfl⟩:=ri
 obtain ⟨its,n,r,ho,hz⟩:=I.lst hp
 obtain ⟨h1,h2,h3,h4⟩:=Ik hj
 have hl:=r.length
 have hn:=Ak
 have I':aO X pins σ (upd H p (.lst (xs.set j v))) {s with heap:=s.heap.update p (Obj.mapSeq (·.setIfInBounds j u))}:=
  I.lstUpd hp ho (Gg its n j u) (r.set rv j) (by rw [List.length_set];exact hz) s.toks
 by_cases h0:0<=k
 ·have hk:k.toNat=j:=by
   rw [seqIndex_of h0 h4] at h1
   exact Option.some.inj h1
  exact PySem.W.ki_setAt ho h0 (by omega) (by rw [List.size_toArray,<-hl];exact h4) (by rw [hk];exact ⟨_,I',q⟩)
 ·have hk:(k+(its.toArray.size:Int)).toNat=j:=by
   rw [seqIndex_neg (by omega) h3] at h1
   rw [List.size_toArray,<-hl]
   exact Option.some.inj h1
  exact PySem.W.ki_setBack ho (by omega) (by rw [List.size_toArray,<-hl];exact h3) (by omega) (by rw [hk];exact ⟨_,I',q⟩)
def oJ:V->Bool
 |.non=>true
 |.bl _=>true
 |.int _=>true
 |.str _=>true
 |_=>false
def Wr:V->V->Bool
 |.non,.non=>true
 |.bl a,.bl b=>a==b
 |.bl a,.int b=>(if a then 1 else 0)==b
 |.int a,.bl b=>a==(if b then 1 else 0)
 |.int a,.int b=>a==b
 |.str a,.str b=>a==b
 |_,_=>false
theorem Xj {A:Around} {s:Shared} {y x:V} {u v:Value} (ry:bQ y u) (rx:bQ x v) (fy:oJ y=true) (fx:oJ x=true):SeqAt.EqAt A s u v (Wr y x):=by
 cases y with
 |non=>
  cases ry
  cases x with
  |non=>cases rx;exact SeqAt.EqAt.same _
  |bl b=>cases rx;exact SeqAt.EqAt.none_bool b
  |int b=>obtain ⟨t,rfl⟩:=rx;exact SeqAt.EqAt.none_int b t
  |str b=>obtain ⟨t,rfl⟩:=rx;exact SeqAt.EqAt.none_str b t
  |_=>exact absurd (show false=true from fx) Bool.false_ne_true
 |bl a=>
  cases ry
  cases x with
  |non=>cases rx;exact SeqAt.EqAt.bool_none a
  |bl b=>cases rx;exact SeqAt.EqAt.bool_bool a b
  |int b=>obtain ⟨t,rfl⟩:=rx;exact SeqAt.EqAt.bool_int a b t
  |str b=>obtain ⟨t,rfl⟩:=rx;exact SeqAt.EqAt.bool_str a b t
  |_=>exact absurd (show false=true from fx) Bool.false_ne_true
 |int a=>
  obtain ⟨t',rfl⟩:=ry
  cases x with
  |non=>cases rx;exact SeqAt.EqAt.int_none a t'
  |bl b=>cases rx;exact SeqAt.EqAt.int_bool a t' b
  |int b=>obtain ⟨t,rfl⟩:=rx;exact SeqAt.EqAt.int_int a t' b t
  |str b=>obtain ⟨t,rfl⟩:=rx;exact SeqAt.EqAt.int_str a t' b t
  |_=>exact absurd (show false=true from fx) Bool.false_ne_true
 |str a=>
  obtain ⟨t',rfl⟩:=ry
  cases x with
  |non=>cases rx;exact SeqAt.EqAt.str_none a t'
  |bl b=>cases rx;exact SeqAt.EqAt.str_bool a t' b
  |int b=>obtain ⟨t,rfl⟩:=rx;exact SeqAt.EqAt.str_int a t' b t
  |str b=>obtain ⟨t,rfl⟩:=rx;exact SeqAt.EqAt.str_str a t' b t
  |_=>exact absurd (show false=true from fx) Bool.false_ne_true
 |_=>exact absurd (show false=true from fy) Bool.false_ne_true
def Vu (x:V) (u:Value):Bool:=match u with
 |.none=>Wr .non x
 |.bool b=>Wr (.bl b) x
 |.int i _=>Wr (.int i) x
 |.str z _=>Wr (.str z) x
 |_=>false
theorem Rb {x y:V} {u:Value} (r:bQ y u) (f:oJ y=true):Vu x u=Wr y x:=by
 cases y with
 |non=>cases r;rfl
 |bl b=>cases r;rfl
 |int i=>obtain ⟨t,rfl⟩:=r;rfl
 |str z=>obtain ⟨t,rfl⟩:=r;rfl
 |_=>exact absurd (show false=true from f) Bool.false_ne_true
theorem Af {x:V}:∀ {xs:List V} {us:List Value},aZ xs us->xs.all oJ=true->us.any (Vu x)=xs.any fun y=>Wr y x
 |_,_,.nil,_=>rfl
 |y::xs,u::us,.cons r t,f=>by
  rw [List.all_cons,Bool.and_eq_true] at f
  rw [List.any_cons,List.any_cons,Rb r f.1,Af t f.2]
theorem vU {A:Around} {s:Shared} {x:V} {v:Value} (rx:bQ x v) (fx:oJ x=true):∀ {xs:List V} {us:List Value},aZ xs us->xs.all oJ=true->∀ u∈us,SeqAt.EqAt A s u v (Vu x u)
 |_,_,.nil,_=>fun u hu=>by cases hu
 |y::xs,u::us,.cons r t,f=>fun u' hu=>by
  rw [List.all_cons,Bool.and_eq_true] at f
  rcases List.mem_cons.mp hu with rfl|hu
  ·rw [Rb r f.1];exact Xj r rx f.1 fx
  ·exact vU rx fx t f.2 u' hu
def Qm (x:V) (xs:List V):Bool:=xs.any fun y=>Wr y x
def rIn (K:PySem.W.Frag) (neg:Bool):R2:=fun x y H Q=>∃ p xs,y=.ref p/\(dB K H p xs\/cN K H p xs)/\oJ x=true/\xs.all oJ=true/\Q (.bl (if neg then !Qm x xs else Qm x xs)) H
theorem kW:tN X (compareOp .NotIn) (rIn X.K true):=by
 intro pins s σ H x y v u Q I rx ry h
 obtain ⟨p,xs,rfl,hq,fx,fs,q⟩:=h
 cases ry
 rcases hq with hq|hq
 ·obtain ⟨its,r,pl,hz⟩:=I.list hq
  refine SeqAt.notIn_listAt (Vu x) pl.isList (fun w hw=>vU rx fx r fs w (by simpa using hw)) ⟨.bl _,H,I,rfl,?_⟩
  rw [show its.toArray.any (Vu x)=its.any (Vu x) by simp,Af r fs]
  exact q
 ·obtain ⟨its,r,pl,hz⟩:=I.tuple hq
  refine SeqAt.notIn_tupleAt (Vu x) pl (fun w hw=>vU rx fx r fs w (by simpa using hw)) ⟨.bl _,H,I,rfl,?_⟩
  rw [show its.toArray.any (Vu x)=its.any (Vu x) by simp,Af r fs]
  exact q
theorem bJ:oG X (.builtin "len") (fun xs H Q=>∃ p ys,xs=[.ref p]/\(dB X.K H p ys\/cN X.K H p ys)/\Q (.int ys.length) H):=by
 intro pins s σ H xs us Q I r h
 obtain ⟨p,ys,rfl,hq,q⟩:=h
 obtain ⟨u,rfl,rx⟩:=zK r
 cases rx
 have hn:=Ak
 rcases hq with hq|hq
 ·obtain ⟨its,r',pl,hz⟩:=I.list hq
  have hlen:=r'.length
  exact Calls.call_len_list pl.isList (by simp only [List.size_toArray]<;>omega) ⟨.int ys.length,H,I.tok _,⟨s.toks+1,by rw [List.size_toArray,hlen]⟩,q⟩
 ·obtain ⟨its,r',pl,hz⟩:=I.tuple hq
  have hlen:=r'.length
  exact len_tuple pl (by simp only [List.size_toArray]<;>omega) ⟨.int ys.length,H,I.tok _,⟨s.toks+1,by rw [List.size_toArray,hlen]⟩,q⟩
theorem oE:oG X (.type "tuple") (fun xs H Q=>∃ p ys,xs=[.ref p]/\((dB X.K H p ys/\∀ l,H l=none->Q (.ref l) (upd H l (.tup ys)))\/(cN X.K H p ys/\Q (.ref p) H))):=by
 intro pins s σ H xs us Q I r h
 obtain ⟨p,ys,rfl,h⟩:=h
 obtain ⟨u,rfl,rx⟩:=zK r
 cases rx
 rcases h with ⟨hq,q⟩|⟨hq,q⟩
 ·obtain ⟨its,r',pl,hz⟩:=I.list hq
  have hlen:=r'.length
  refine call_tuple_list pl.isList (fun h' kp=>?_) (by simp only [List.size_toArray]<;>omega)
  have I1:aO X pins σ H {s with heap:=h'}:=I.kept (t':=s.toks) kp
  have I2:aO X pins σ (upd H h'.objs.size (.tup ys)) {s with heap:=h'.push {cls:=.type "tuple",data:=.seq its.toArray}}:=
   I1.laid (t':=s.toks) (fun b o e=>Heap.get?_push_of_some _ e) (Nat.le_refl _) (show cE X.prog X.w _ _ _ (.tup ys) from ⟨hz,its,r',IsTup.new _ _⟩)
  exact ⟨.ref h'.objs.size,_,I2,rfl,q _ (I1.hok.fresh (Nat.le_refl _))⟩
 ·obtain ⟨its,r',pl,hz⟩:=I.tuple hq
  exact call_tuple_same pl ⟨.ref p,H,I,rfl,q⟩
def tyV (K:PySem.W.Frag) (T:String) (x:V) (H:Hp):Prop:=match x with
 |.str _=>T="str"
 |.int _=>T="int"
 |.ref p=>(T="list"/\∃ xs,dB K H p xs)\/(T="tuple"/\∃ o,K.lookup p=some o/\o.cls=.type "tuple"/\o.dict=none)\/
   (T="dict"/\((∃ aI,H p=some (.dK aI))\/∃ aI,H p=some (.dT aI)))\/(T="set"/\∃ S n,H p=some (.set S n))
 |_=>False
theorem Sg {pins:List (Addr×Obj)} {σ:St} {H:Hp} {s:Shared} {T:String} {x:V} {v:Value} (I:aO X pins σ H s) (r:bQ x v) (ty:tyV X.K T x H):
  s.TypeIs v T/\∀ a,v=.ref a->∃ ob,s.heap.get? a=some ob/\ob.dict=none:=by
 cases x with
 |str z=>
  obtain ⟨t,rfl⟩:=r
  cases (show T="str" from ty)
  exact ⟨typeIs_str s z t,fun _ e=>nomatch e⟩
 |int i=>
  obtain ⟨t,rfl⟩:=r
  cases (show T="int" from ty)
  exact ⟨typeIs_int s i t,fun _ e=>nomatch e⟩
 |ref p=>
  cases r
  rcases ty with ⟨rfl,xs,hq⟩|⟨rfl,o,hk,hc,hd⟩|⟨rfl,hk⟩|⟨rfl,S,n,hk⟩
  ·obtain ⟨its,_,pl,_⟩:=I.list hq
   refine ⟨pl.isList.typeIs,fun a e=>?_⟩
   cases e
   obtain ⟨o,n,e,c,hd,_⟩:=pl
   exact ⟨o,e,hd⟩
  ·refine ⟨⟨o,I.kIn p o hk,hc⟩,fun a e=>?_⟩
   cases e
   exact ⟨o,I.kIn _ o hk,hd⟩
  ·have z:∃ o,s.heap.get? p=some o/\o.ExactDict:=by
    rcases hk with ⟨aI,hk⟩|⟨aI,hk⟩
    ·obtain ⟨_,_,_,_,o,_,_,e,ex,_⟩:=I.hok p _ hk
     exact ⟨o,e,ex⟩
    ·obtain ⟨_,_,_,_,o,_,_,e,ex,_⟩:=I.hok p _ hk
     exact ⟨o,e,ex⟩
   obtain ⟨o,e,ex⟩:=z
   refine ⟨⟨o,e,ex.1⟩,fun a e2=>?_⟩
   cases e2
   exact ⟨o,e,ex.2.1⟩
  ·obtain ⟨o,_,_,_,e,ex,_⟩:=I.hok p _ hk
   refine ⟨⟨o,e,ex.1⟩,fun a e2=>?_⟩
   cases e2
   exact ⟨o,e,ex.2.1⟩
 |_=>exact False.elim ty
def aCg (K:PySem.W.Frag) (T:String) (r:V->List V->Hp->VK->Prop) (to:TE):TE:=fun σ H Q=>to σ H fun x H1=>tyV K T x H1/\r x [] H1 Q
def tBM (K:PySem.W.Frag) (T:String) (r:V->List V->Hp->VK->Prop) (to:TE) (t:TA):TE:=fun σ H Q=>to σ H fun x H1=>tyV K T x H1/\t σ H1 fun xs H2=>r x xs H2 Q
variable {o e:Expr} {es:List Expr} {to:TE} {t:TA} {name:Str} {apos cpos:Pos} {T id:String} {r:V->List V->Hp->VK->Prop}
theorem Qh (pa:PlainAttrs T) (slot:Slot T name id) (hty:typeOf (.builtin id)=pure (.type "method_descriptor")) (hm:MtR X id r) (ho:PE X o to)
  (hbase:attributeBase o name X.env (eval o X.env)=eval o X.env:=by rfl) (hline:(apos.endLine==cpos.line)=true:=by rfl):PE X (.Call (.Attribute o name apos) [] [] cpos) (aCg X.K T r to):=by
 intro pins s σ H Q I h
 refine wpAny_Call_method0_late hbase hline (cF (ho pins s σ H _ I h) fun v s1 ⟨x,H1,I1,r1,ty,q1⟩=>?_)
 obtain ⟨h1,h2⟩:=Sg I1 r1 ty
 exact ⟨T,id,pa,slot,hty,h1,h2,Calls.callWith_builtin rfl (PySem.evalArgs_none (hm pins s1 σ H1 x [] v [] Q I1 r1 .nil q1))⟩
theorem mH (pa:PlainAttrs T) (slot:Slot T name id) (hty:typeOf (.builtin id)=pure (.type "method_descriptor")) (hm:MtR X id r) (ho:PE X o to) (ha:PA X (e::es) t)
  (hbase:attributeBase o name X.env (eval o X.env)=eval o X.env:=by rfl)
  (hfew:((backTo cpos (starEach (e::es) X.env)).all (fun x=> !x.1) && (backToKw cpos (keywordEach [] X.env)).all (fun x=>x.1.isSome)
   && decide ((e::es).length+([]:List Keyword).length+(if ([]:List Keyword).isEmpty then 0 else 1)<30))=true:=by rfl)
  (hline:(apos.endLine==cpos.line)=true:=by rfl) (hs:starEach (e::es) X.env=(false,eval e X.env)::starEach es X.env:=by rfl) (hplain:(backTo cpos (starEach es X.env)).any (·.1)=false:=by rfl):
  PE X (.Call (.Attribute o name apos) (e::es) [] cpos) (tBM X.K T r to t):=by
 intro pins s σ H Q I h
 refine wpAny_Call_method_late hbase hfew hline rfl (cF (ho pins s σ H _ I h) fun v s1 ⟨x,H1,I1,r1,ty,q1⟩=>?_)
 obtain ⟨h1,h2⟩:=Sg I1 r1 ty
 refine ⟨T,id,pa,slot,hty,h1,h2,?_⟩
 have hA:=ha cpos pins s1 σ H1 _ I1 q1
 rw [hs] at hA ⊢
 refine Calls.callWith_builtin (by show (false||(backTo cpos (starEach es X.env)).any (·.1))=false;rw [hplain]<;>rfl) (Calls.evalArgs_plain ?_)
 exact cF hA fun us s2 ⟨vs,H2,I2,r2,q2⟩=>hm pins s2 σ H2 x vs v us Q I2 r1 r2 q2
end
def MtM (X:Cx) (id:String) (r:V->List V->Hp->VK->Prop):Prop:=
 ∀ (pins:List (Addr×Obj)) (s:Shared) (σ:St) (H:Hp) (x:V) (xs:List V) (v:Value) (us:List Value) (Q:VK),aO X pins σ H s->bQ x v->aZ xs us->r x xs H Q->
  wpAny (model X.prog X.w) X.A (call (.builtin id) (v::us)) (EP X pins σ Q) X.xe s
theorem aZ.one:∀ {x:V} {us:List Value},aZ [x] us->∃ u,us=[u]/\bQ x u
 |_,_,.cons r .nil=>⟨_,rfl,r⟩
theorem aZ.zero:∀ {us:List Value},aZ [] us->us=[]
 |_,.nil=>rfl
theorem aZ.dropLast {xs:List V} {us:List Value} (h:aZ xs us):aZ xs.dropLast us.dropLast:=by
 induction h with
 |nil=>exact .nil
 |cons r t ih=>
  cases t with
  |nil=>exact .nil
  |cons q t'=>exact .cons r ih
theorem aZ.rep {xs:List V} {us:List Value} (h:aZ xs us):∀ k:Nat,aZ (List.replicate k xs).flatten (List.replicate k us).flatten
 |0=>.nil
 |k+1=>by
  rw [List.replicate_succ,List.replicate_succ,List.flatten_cons,List.flatten_cons]
  exact aZ.append h (aZ.rep h k)
theorem Gi {α:Type} (l:List α):l.eraseIdx (l.length - 1)=l.dropLast:=by
 induction l with
 |nil=>rfl
 |cons a r ih=>
  cases r with
  |nil=>rfl
  |cons b r=>
   have e:(a::b::r).length - 1=((b::r).length - 1)+1:=by
    have h1:(a::b::r).length=r.length+2:=rfl
    have h2:(b::r).length=r.length+1:=rfl
    omega
   rw [e,List.eraseIdx_cons_succ,ih]
   all_goals rfl
theorem yR (its:List Value):∀ (k:Nat) (acc:List Value),
  List.foldl (fun x1 x2=>x1++x2) acc.toArray (List.replicate k its.toArray)=(acc++(List.replicate k its).flatten).toArray
 |0,acc=>by simp
 |k+1,acc=>by
  have e:acc.toArray++its.toArray=(acc++its).toArray:=by simp
  have e2:(acc++its)++(List.replicate k its).flatten=acc++(List.replicate (k+1) its).flatten:=by
   rw [List.replicate_succ,List.flatten_cons,List.append_assoc]
  rw [<-e2,<-yR its k (acc++its),<-e,List.replicate_succ,List.foldl_cons]
section
variable {X:Cx} {pins:List (Addr×Obj)} {σ:St} {H:Hp} {s:Shared} {l b:Addr} {xs ys zs:List V}
theorem aO.lset {its its':List Value} {n:Nat} {f:Array Value->Array Value} {t':Nat} (I:aO X pins σ H s) (hH:H l=some (.lst xs))
  (e:s.heap.get? l=some {cls:=.type "list",data:=.seq its.toArray n}) (hf:f its.toArray=its'.toArray) (hv:aZ ys its') (hz:ys.length<=sizeLine):
  aO X pins σ (upd H l (.lst ys)) {s with heap:=s.heap.update l (Obj.mapSeq f),toks:=t'}:=by
 have q:=PySem.IsL.update e f
 rw [hf] at q
 refine I.write (x:=l) (e:=l) (by rw [hH];exact trivial) (.inl rfl) (fun b' u hb hu=>(Heap.get?_update_other s.heap (Obj.mapSeq f) (Ne.symm hb)).trans hu) ⟨_,q⟩ ?_
 exact ⟨hz,its',_,hv,q⟩
theorem aO.lnew {its:List Value} {t':Nat} (I:aO X pins σ H s) (hv:aZ ys its) (hz:ys.length<=sizeLine):
  aO X pins σ (upd H s.heap.objs.size (.lst ys)) {s with heap:=s.heap.push {cls:=.type "list",data:=.seq its.toArray},toks:=t'}:=
 I.laid (fun _ _ q=>Heap.get?_push_of_some _ q) (Nat.le_refl _) ⟨hz,its,0,hv,Heap.get?_push_size _ rfl⟩
theorem aO.fresh (I:aO X pins σ H s):H s.heap.objs.size=none:=I.hok.fresh (Nat.le_refl _)
theorem aO.lstM (I:aO X pins σ H s) (hH:H l=some (.lst xs)):xs.length<=sizeLine/\∃ (its:List Value) (n:Nat),aZ xs its/\xs.length=its.length/\s.heap.get? l=some {cls:=.type "list",data:=.seq its.toArray n}:=by
 obtain ⟨z,its,n,r,e⟩:=I.hok l _ hH
 exact ⟨z,its,n,r,r.length,e⟩
theorem Qa {n:Nat} (h:n<=sizeLine):Builtin.List.listTooLong n=false:=by
 unfold Builtin.List.listTooLong
 exact decide_eq_false (by omega)
end
section
variable {X:Cx}
def Is:V->List V->Hp->VK->Prop:=fun x vs H Q=>∃ l xs y,x=.ref l/\vs=[y]/\H l=some (.lst xs)/\xs.length<sizeLine/\Q .non (upd H l (.lst (xs++[y])))
theorem eI:MtM X "list.append" Is:=by
 intro pins s σ H x vs v us Q I rx rv h
 obtain ⟨l,xs,y,rfl,rfl,hH,hz,q⟩:=h
 cases rx
 obtain ⟨u,rfl,ru⟩:=rv.one
 obtain ⟨z,its,n,r,hl,e⟩:=I.lstM hH
 refine call_meets F.slot_list_append ⟨_,e,rfl⟩ F.entry_list_append (F.args_list_append_2 _ _) (PySem.list_append l its.toArray n u (by rw [List.size_toArray];omega)) ⟨e,?_⟩
 refine ⟨.non,_,I.lset (its':=its++[u]) hH e (by simp) (r.append (.cons ru .nil)) ?_,rfl,q⟩
 rw [List.length_append,List.length_singleton]
 omega
def aC0:V->List V->Hp->VK->Prop:=fun x vs H Q=>∃ l xs y,x=.ref l/\vs=[]/\H l=some (.lst xs)/\xs[xs.length - 1]?=some y/\Q y (upd H l (.lst xs.dropLast))
theorem Pn:MtM X "list.pop" aC0:=by
 intro pins s σ H x vs v us Q I rx rv h
 obtain ⟨l,xs,y,rfl,rfl,hH,hy,q⟩:=h
 cases rx
 have hus:=rv.zero
 subst hus
 obtain ⟨z,its,n,r,hl,e⟩:=I.lstM hH
 obtain ⟨u,hu,ru⟩:=r.get hy
 have hy':its.toArray[its.toArray.size - 1]?=some u:=by
  show its.toArray[its.length - 1]?=some u
  rw [<-Array.getElem?_toList,<-hl]
  exact hu
 refine call_meets F.slot_list_pop ⟨_,e,rfl⟩ F.entry_list_pop (F.args_list_pop_1 _) (MeetsSeq.list_pop_last l its.toArray n u hy' (by rw [List.size_toArray];omega)) ⟨e,?_⟩
 refine ⟨y,_,I.lset (its':=its.dropLast) hH e ?_ r.dropLast ?_,ru,q⟩
 ·show its.toArray.eraseIdxIfInBounds (its.toArray.size - 1)=its.dropLast.toArray
  rw [List.size_toArray,List.eraseIdxIfInBounds_toArray,Gi]
 ·rw [List.length_dropLast]
  omega
def aCh:R2:=fun x y H Q=>∃ l k xs,x=.ref l/\y=.int k/\H l=some (.lst xs)/\ -(2 ^ 63)<=k/\k<2 ^ 63/\xs.length * k.toNat<=sizeLine/\
 ∀ p,H p=none->Q (.ref p) (upd H p (.lst (List.replicate k.toNat xs).flatten))
theorem Sy {α:Type} (xs:List α) (k:Nat):(List.replicate k xs).flatten.length=k * xs.length:=by
 induction k with
 |zero=>simp
 |succ k ih=>rw [List.replicate_succ,List.flatten_cons,List.length_append,ih,Nat.succ_mul,Nat.add_comm]
theorem aAe:tN X (binaryOp .Mult) aCh:=by
 intro pins s σ H x y v u Q I rx ry h
 obtain ⟨l,k,xs,rfl,rfl,hH,h1,h2,hz,q⟩:=h
 cases rx
 obtain ⟨t,rfl⟩:=ry
 obtain ⟨z,its,n,r,hl,e⟩:=I.lstM hH
 have hlen:its.toArray.size * k.toNat<=sizeLine:=by rw [List.size_toArray,<-hl];exact hz
 have hcap:¬its.toArray.size * k.toNat>(2 ^ 63 - 1) / 8:=by
  have:(sizeLine:Nat)<=(2 ^ 63 - 1) / 8:=by decide
  omega
 have hfit:¬(!Builtin.List.listFitsIndex k)=true:=by
  rw [fitsIndex_both h1 h2]
  exact Bool.false_ne_true
 have hlong:¬Builtin.List.listTooLong (its.toArray.size * k.toNat)=true:=by
  rw [Qa hlen]
  exact Bool.false_ne_true
 have hnew:List.foldl (fun x1 x2=>x1++x2) #[] (List.replicate (if its.toArray.isEmpty=true then 0 else k.toNat) its.toArray)=(List.replicate k.toNat its).flatten.toArray:=by
  have f0:∀ m:Nat,List.foldl (fun x1 x2=>x1++x2) #[] (List.replicate m its.toArray)=(List.replicate m its).flatten.toArray:=fun m=>by
   have:=yR its m []
   rw [List.nil_append] at this
   exact this
  rw [f0]
  cases its with
  |nil=>simp
  |cons a r'=>rw [if_neg (by simp)]
 refine wpAny_binaryOp_repeat_ref (T:="list") (U:="int") (by decide) ⟨_,e,rfl⟩ (fun s'=>typeIs_int s' k t) noFill_list_mul F.fills_int_mul F.slot_int_rmul repeat_list F.slot_int_index.lookup
  (call_meets F.slot_int_rmul (typeIs_int s k t) F.entry_int_rmul (F.args_int_rmul_2 _ _) (int___rmul___int_list k t l its.toArray n)
   ⟨e,rfl,⟨_,e,rfl⟩,call_meets F.slot_list_mul ⟨_,e,rfl⟩ F.entry_list_mul (F.args_list_mul_2 _ _) (AutoListH.list___mul___list_int_3 l its.toArray n k t hfit hcap hlong) ⟨e,?_⟩⟩)
 rw [hnew]
 exact ⟨.ref _,_,I.lnew (t':=s.toks) (r.rep k.toNat) (by rw [Sy,Nat.mul_comm];exact hz),rfl,q _ I.fresh⟩
end
section
variable {prog:Program} {w:World} {A:Around} {E:Value->Shared->Prop} {s:Shared}
end
section
variable {X:Cx}
end
theorem aZ.ints:∀ {ns:List Int} {us:List Value},aZ (ns.map V.int) us->IntsAre us ns
 |[],us,h=>by
  rw [List.map_nil] at h
  cases h
  exact IntsAre.nil
 |n::ns,us,h=>by
  rw [List.map_cons] at h
  cases h with
  |cons r t=>
   obtain ⟨k,rfl⟩:=r
   exact IntsAre.cons n k (aZ.ints t)
theorem aZ.bls:∀ {bs:List Bool} {us:List Value},aZ (bs.map V.bl) us->us=bs.map Value.bool
 |[],us,h=>by
  rw [List.map_nil] at h
  cases h
  rfl
 |b::bs,us,h=>by
  rw [List.map_cons] at h
  cases h with
  |cons r t=>
   cases r
   rw [aZ.bls t,List.map_cons]
theorem aZ.ref1 {a:Addr} {us:List Value} (r:aZ [V.ref a] us):us=[Value.ref a]:=by
 cases r with
 |cons r t=>
  cases t
  cases r
  rfl
section
variable {prog:Program} {w:World} {A:Around} {E:Value->Shared->Prop} {s:Shared} {l:Addr} {its:List Value} {ns:List Int} {Q:Value->Shared->Prop}
theorem We (hh:A.handled=none) (hl:s.heap.IsList l its.toArray) (hi:IntsAre its ns) (hne:0<ns.length)
  (h:∀ h' tk M t',(∀ b o,s.heap.get? b=some o->h'.get? b=some o)->M∈ns->(∀ a,a∈ns->M<=a)->Q (.int M t') {s with heap:=h',toks:=tk}):wpAny (model prog w) A (call (.builtin "min") [.ref l]) Q E s:=by
 obtain ⟨xs,e⟩:=hi.allInts.items
 have hn:numsOf (intItems xs).toList=ns:=by rw [<-e];exact hi.numsOf
 rw [nums_intItems] at hn
 subst hn
 rw [e] at hl
 have hsz:0<xs.size:=by simpa using hne
 refine PySem.min_intList hh hl hsz fun v h' tk hv hk=>?_
 obtain ⟨t,rfl⟩:=intItems_at hv
 obtain ⟨h1,h2⟩:=argBest_lt (numAt xs) (xs.size - 1)
 refine h h' tk _ t hk ?_ fun a ha=>?_
 ·rw [numAt_eq];exact PySem.getD_mem (by rw [List.length_map,Array.length_toList];omega)
 ·obtain ⟨j,hj,rfl⟩:=mem_getD ha
  rw [List.length_map,Array.length_toList] at hj
  rw [<-numAt_eq];exact h2 j (by omega)
end
section
variable {X:Cx}
def aCm (K:PySem.W.Frag):List V->Hp->VK->Prop:=fun vs H Q=>∃ (a:Addr) (ns:List Int),vs=[V.ref a]/\dB K H a (ns.map V.int)/\0<ns.length/\∀ m,m∈ns->(∀ y,y∈ns->m<=y)->Q (.int m) H
theorem Ro (hc:X.calm=true):oG X (.builtin "min") (aCm X.K):=by
 intro pins s σ H vs us Q I r h
 obtain ⟨a,ns,rfl,hs,hne,q⟩:=h
 obtain ⟨its,rv,hl,_⟩:=I.list hs
 rw [aZ.ref1 r]
 exact We (I.ok.hd hc) hl.isList rv.ints hne fun h' tk m t' hk h1 h2=>⟨.int _,H,I.kept hk,⟨_,rfl⟩,q m h1 h2⟩
end
section
variable {X:Cx}
end
section
variable {X:Cx}
end
theorem Ce {prog:Program} {w:World} {A:Around} {E:Value->Shared->Prop} {s:Shared} {l:Addr} {items:Array Value} {Q:Value->Shared->Prop} (hl:s.heap.IsList l items)
  (h:∀ s₂:Shared,s₂={s with heap:=s.heap.push {cls:=.type "list_iterator",data:=.fields #[.ref l,.int 0 0]}}->
   (s₂.heap.IsListIter s.heap.objs.size l 0/\s₂.heap.IsList l items)->l≠s.heap.objs.size->Q (.ref s.heap.objs.size) s₂):wpAny (model prog w) A (pyIter (.ref l)) Q E s:=by
 have hlt:l<s.heap.objs.size:=by obtain ⟨_,e,_⟩:=hl;exact Heap.lt_size e
 exact wpAny_pyIter_list hl (h _ rfl ⟨⟨_,Heap.get?_push_size _ rfl,rfl,rfl⟩,hl.push _⟩ (Nat.ne_of_lt hlt))
theorem tD {prog:Program} {w:World} {A:Around} {bs:List Bool} {its:List Value} (e:its=bs.map Value.bool):
  TruthOf prog w A (fun i v=>its.toArray[i]?=some v) (fun i=>bs.getD i false):=fun i v s Q E hv hq=>by
 have hv':its[i]?=some v:=by simpa using hv
 rw [e,List.getElem?_map] at hv'
 obtain ⟨b,hb,rfl⟩:=Option.map_eq_some_iff.mp hv'
 have hg:bs.getD i false=b:=by rw [List.getD_eq_getElem?_getD,hb]<;>rfl
 have hq':Q (bs.getD i false) s:=hq
 rw [hg] at hq'
 exact wpAny_truthy_bool hq'
theorem zC:∀ bs:List Bool,(List.range bs.length).any (fun i=>bs.getD i false)=bs.any id
 |[]=>rfl
 |b::bs=>by
  rw [List.length_cons,List.range_succ_eq_map,List.any_cons,List.any_map,List.any_cons,<-zC bs]
  all_goals rfl
theorem yG:∀ bs:List Bool,(List.range bs.length).all (fun i=>bs.getD i false)=bs.all id
 |[]=>rfl
 |b::bs=>by
  rw [List.length_cons,List.range_succ_eq_map,List.all_cons,List.all_map,List.all_cons,<-yG bs]
  all_goals rfl
section
variable {X:Cx}
def aCy (K:PySem.W.Frag):List V->Hp->VK->Prop:=fun vs H Q=>∃ (a:Addr) (bs:List Bool),vs=[V.ref a]/\dB K H a (bs.map V.bl)/\Q (.bl (bs.any id)) H
def aCp (K:PySem.W.Frag):List V->Hp->VK->Prop:=fun vs H Q=>∃ (a:Addr) (bs:List Bool),vs=[V.ref a]/\dB K H a (bs.map V.bl)/\Q (.bl (bs.all id)) H
theorem Zl (hc:X.calm=true):oG X (.builtin "any") (aCy X.K):=by
 intro pins s σ H vs us Q I r h
 obtain ⟨a,bs,rfl,hs,q⟩:=h
 obtain ⟨its,rv,hl,_⟩:=I.list hs
 rw [aZ.ref1 r]
 have hb:=rv.bls
 refine call_any_walk (Ce hl.isList fun s₂ e2 st hne=>?_)
 subst e2
 refine ⟨_,_,_,_,_,_,_,rfl,Walks.list (A:=X.A.in1) (I.ok.hd hc) _ a hne its.toArray,st,tD hb,fun h' tk hk=>?_⟩
 refine ⟨.bl _,H,I.kept fun b o eo=>hk b o (fun hmem=>?_) (Heap.get?_push_of_some _ eo),?_,q⟩
 ·rcases List.mem_cons.mp hmem with e1|hmem
  ·exact absurd (e1▸Heap.lt_size eo) (Nat.lt_irrefl _)
  ·cases hmem
 ·show Value.bool _=Value.bool _
  rw [<-zC,hb,List.size_toArray,List.length_map]
theorem Yg (hc:X.calm=true):oG X (.builtin "all") (aCp X.K):=by
 intro pins s σ H vs us Q I r h
 obtain ⟨a,bs,rfl,hs,q⟩:=h
 obtain ⟨its,rv,hl,_⟩:=I.list hs
 rw [aZ.ref1 r]
 have hb:=rv.bls
 refine call_all_walk (Ce hl.isList fun s₂ e2 st hne=>?_)
 subst e2
 refine ⟨_,_,_,_,_,_,_,rfl,Walks.list (A:=X.A.in1) (I.ok.hd hc) _ a hne its.toArray,st,tD hb,fun h' tk hk=>?_⟩
 refine ⟨.bl _,H,I.kept fun b o eo=>hk b o (fun hmem=>?_) (Heap.get?_push_of_some _ eo),?_,q⟩
 ·rcases List.mem_cons.mp hmem with e1|hmem
  ·exact absurd (e1▸Heap.lt_size eo) (Nat.lt_irrefl _)
  ·cases hmem
 ·show Value.bool _=Value.bool _
  rw [<-yG,hb,List.size_toArray,List.length_map]
end
mutual
inductive Dp (K:PySem.W.Frag) (H:Hp):V->PyData->Prop
 |non:Dp K H .non .none
 |bl (b:Bool):Dp K H (.bl b) (.bool b)
 |int (i:Int):Dp K H (.int i) (.int i)
 |str (x:Str):Dp K H (.str x) (.str x)
 |lst {a:Addr} {xs:List V} {ds:List PyData}:dB K H a xs->xY K H xs ds->Dp K H (.ref a) (.list ds)
 |tup {a:Addr} {xs:List V} {ds:List PyData}:cN K H a xs->xY K H xs ds->Dp K H (.ref a) (.tuple ds)
inductive xY (K:PySem.W.Frag) (H:Hp):List V->List PyData->Prop
 |nil:xY K H [] []
 |cons {v:V} {vs:List V} {d:PyData} {ds:List PyData}:Dp K H v d->xY K H vs ds->xY K H (v::vs) (d::ds)
end
section
variable {X:Cx} {pins:List (Addr×Obj)} {σ:St} {H:Hp} {s:Shared}
mutual
theorem Dp.reads (I:aO X pins σ H s):∀ (d:PyData) (v:V) (u:Value),Dp X.K H v d->bQ v u->∃ as,Reads s.heap u d as
 |.none,_,_,h,r=>by
  cases h
  cases r
  exact ⟨_,Reads.none⟩
 |.bool b,_,_,h,r=>by
  cases h
  cases r
  exact ⟨_,Reads.bool b⟩
 |.int i,_,_,h,r=>by
  cases h
  obtain ⟨t,rfl⟩:=r
  exact ⟨_,Reads.int i t⟩
 |.str x,_,_,h,r=>by
  cases h
  obtain ⟨t,rfl⟩:=r
  exact ⟨_,Reads.str x t⟩
 |.list ds,_,_,h,r=>by
  cases h with
  |lst hs ha=>
   cases r
   obtain ⟨its,rv,⟨o,n,ho,hc,_,hd⟩,_⟩:=I.list hs
   obtain ⟨as,hr⟩:=Dp.readsAll I ds _ its ha rv
   exact ⟨_,Reads.list ho hc hd hr⟩
 |.tuple ds,_,_,h,r=>by
  cases h with
  |tup hs ha=>
   cases r
   obtain ⟨its,rv,⟨o,ho,hc,n,hd⟩,_⟩:=I.tuple hs
   obtain ⟨as,hr⟩:=Dp.readsAll I ds _ its ha rv
   exact ⟨_,Reads.tuple ho hc hd hr⟩
 |.dict _,_,_,h,_=>by cases h
theorem Dp.readsAll (I:aO X pins σ H s):∀ (ds:List PyData) (vs:List V) (us:List Value),xY X.K H vs ds->aZ vs us->∃ as,ReadsAll s.heap us ds as
 |[],_,_,h,r=>by
  cases h
  cases r
  exact ⟨_,ReadsAll.nil⟩
 |d::ds,_,_,h,r=>by
  cases h with
  |cons h1 h2=>
   cases r with
   |cons r1 r2=>
    obtain ⟨as,q1⟩:=Dp.reads I d _ _ h1 r1
    obtain ⟨bs,q2⟩:=Dp.readsAll I ds _ _ h2 r2
    exact ⟨_,ReadsAll.cons q1 q2⟩
end
end
section
variable {X:Cx}
end
abbrev Ny (h:Heap) (c:Addr) (v:Option Value):Prop:=h.IsCell c v
def aDn (scope sc:Scope):Scope:=
 {scope with names:=scope.names.map fun (n,k)=>if (k==.free && sc.kind==.function && sc.names.lookup n==some .cell) then (n,.cell) else (n,k)}
def cT (cells:List (Str×Addr)):List (Str×NameKind)->List (Str×Addr)->List (Str×Addr)
 |[],acc=>acc
 |(n,k)::r,acc=>if k==.free then cT cells r ((n,(cells.lookup n).getD 0)::acc) else cT cells r acc
theorem qH (env:Env) (f:Str×NameKind->List (Str×Addr)->Sem (ForInStep (List (Str×Addr))))
  (hf:∀ n k c,f (n,k) c=if k==.free then (do let a <-cellOf env n;pure (.yield ((n,a)::c))) else pure (.yield c)):
  ∀ (names:List (Str×NameKind)) (acc:List (Str×Addr)),(∀ y∈names,y.2=.free->∃ c,env.cells.lookup y.1=some c)->forIn names acc f=pure (cT env.cells names acc)
 |[],acc,_=>by rw [List.forIn_nil];rfl
 |(n,k)::r,acc,h=>by
  rw [List.forIn_cons,hf]
  have ih:=fun acc=>qH env f hf r acc fun y hy=>h y (List.mem_cons_of_mem _ hy)
  unfold cT
  by_cases hk:(k==NameKind.free)=true
  ·rw [if_pos hk,if_pos hk]
   obtain ⟨c,hc⟩:=h (n,k) List.mem_cons_self (by simpa using hk)
   have e:cellOf env n=pure c:=by unfold cellOf;rw [hc]
   rw [e]
   have e2:(env.cells.lookup n).getD 0=c:=by rw [hc];rfl
   rw [e2]
   exact ih _
  ·rw [if_neg hk,if_neg hk]
   exact ih _
theorem Gw {scope:Scope} {env:Env} (h:∀ y∈scope.names,y.2=.free->∃ c,env.cells.lookup y.1=some c):closureFor scope env=pure (cT env.cells scope.names []):=by
 simp only [closureFor]
 rw [qH env _ (fun n k c=>rfl) scope.names [] h]
 rfl
theorem oS {α:Type}:∀ {l:List (Str×α)} {n:Str} {c:α},(n,c)∈l->∃ c',l.lookup n=some c'
 |(k,v)::r,n,c,h=>by
  rw [List.lookup_cons]
  cases hb:n==k with
  |true=>exact ⟨_,rfl⟩
  |false=>
   rcases List.mem_cons.mp h with e|h
   ·cases e;simp at hb
   ·exact oS h
theorem iW {cells:List (Str×Addr)}:∀ {names:List (Str×NameKind)} {acc:List (Str×Addr)} {n:Str} {c:Addr},(n,c)∈cT cells names acc->(n,c)∈acc\/((n,.free)∈names/\c=(cells.lookup n).getD 0)
 |[],_,_,_,h=>.inl h
 |(m,k)::r,acc,n,c,h=>by
  unfold cT at h
  split at h
  ·rename_i hk
   have hk:k=.free:=by simpa using hk
   rcases iW h with h|⟨h1,h2⟩
   ·rcases List.mem_cons.mp h with e|h
    ·cases e;exact .inr ⟨hk▸List.mem_cons_self,rfl⟩
    ·exact .inl h
   ·exact .inr ⟨List.mem_cons_of_mem _ h1,h2⟩
  ·rcases iW h with h|⟨h1,h2⟩
   ·exact .inl h
   ·exact .inr ⟨List.mem_cons_of_mem _ h1,h2⟩
theorem mU {cells:List (Str×Addr)}:∀ {names:List (Str×NameKind)} {acc:List (Str×Addr)} {p:Str×Addr},p∈acc->p∈cT cells names acc
 |[],_,_,h=>h
 |(m,k)::r,acc,p,h=>by
  unfold cT
  split
  ·exact mU (List.mem_cons_of_mem _ h)
  ·exact mU h
theorem mX {cells:List (Str×Addr)}:∀ {names:List (Str×NameKind)} {acc:List (Str×Addr)} {n:Str},(n,.free)∈names->(n,(cells.lookup n).getD 0)∈cT cells names acc
 |(m,k)::r,acc,n,h=>by
  unfold cT
  rcases List.mem_cons.mp h with e|h
  ·cases e
   exact mU List.mem_cons_self
  ·split
   ·exact mX h
   ·exact mX h
theorem jT:∀ {names:List (Str×NameKind)} {h:Heap} {acc:List (Str×Addr)} {x:Str} {c:Addr},(x,c)∈cellsFrom h.objs.size names acc->
  (x,c)∈acc\/((x,.cell)∈names/\h.objs.size<=c/\Ny (pushCells h names) c none)
 |[],_,_,_,_,h=>.inl h
 |(n,k)::r,h,acc,x,c,hm=>by
  unfold cellsFrom at hm
  unfold pushCells
  split at hm
  ·rename_i hk
   rw [if_pos hk]
   have hk:k=.cell:=by simpa using hk
   rw [<-Heap.size_push h {cls:=.type "cell",data:=.cell none}] at hm
   rcases jT hm with hm|⟨h1,h2,h3⟩
   ·rcases List.mem_cons.mp hm with e|hm
    ·cases e
     exact .inr ⟨hk▸List.mem_cons_self,Nat.le_refl _,_,pushCells_keeps r _ _ _ (Heap.get?_push_size _ rfl),rfl⟩
    ·exact .inl hm
   ·rw [Heap.size_push] at h2
    exact .inr ⟨List.mem_cons_of_mem _ h1,Nat.le_of_succ_le h2,h3⟩
  ·rename_i hk
   rw [if_neg hk]
   rcases jT hm with hm|⟨h1,h2,h3⟩
   ·exact .inl hm
   ·exact .inr ⟨List.mem_cons_of_mem _ h1,h2,h3⟩
theorem nF:∀ {names:List (Str×NameKind)} {n:Nat} {acc:List (Str×Addr)} {p:Str×Addr},p∈acc->p∈cellsFrom n names acc
 |[],_,_,_,h=>h
 |(m,k)::r,n,acc,p,h=>by
  unfold cellsFrom
  split
  ·exact nF (List.mem_cons_of_mem _ h)
  ·exact nF h
theorem sK:∀ {names:List (Str×NameKind)} {n:Nat} {acc:List (Str×Addr)} {x:Str},(x,.cell)∈names->∃ c,(x,c)∈cellsFrom n names acc
 |(m,k)::r,n,acc,x,h=>by
  unfold cellsFrom
  rcases List.mem_cons.mp h with e|h
  ·cases e
   exact ⟨n,nF List.mem_cons_self⟩
  ·split
   ·exact sK h
   ·exact sK h
theorem sG:∀ {names:List (Str×NameKind)} {h:Heap} {acc:List (Str×Addr)} {x y:Str} {c:Addr},(∀ p∈acc,p.2<h.objs.size)->(∀ x y c,(x,c)∈acc->(y,c)∈acc->x=y)->
  (x,c)∈cellsFrom h.objs.size names acc->(y,c)∈cellsFrom h.objs.size names acc->x=y
 |[],_,_,_,_,_,_,hi,h1,h2=>hi _ _ _ h1 h2
 |(n,k)::r,h,acc,x,y,c,hl,hi,h1,h2=>by
  unfold cellsFrom at h1 h2
  split at h1
  ·rename_i hk
   rw [if_pos hk] at h2
   rw [<-Heap.size_push h {cls:=.type "cell",data:=.cell none}] at h1 h2
   refine sG (h:=h.push _) (fun p hp=>?_) (fun x y c a b=>?_) h1 h2
   ·rw [Heap.size_push]
    rcases List.mem_cons.mp hp with rfl|hp
    ·exact Nat.lt_succ_self _
    ·exact Nat.lt_succ_of_lt (hl p hp)
   ·rcases List.mem_cons.mp a with e|a<;>rcases List.mem_cons.mp b with e'|b
    ·cases e;cases e';rfl
    ·cases e;exact absurd (hl _ b) (Nat.lt_irrefl _)
    ·cases e';exact absurd (hl _ a) (Nat.lt_irrefl _)
    ·exact hi _ _ _ a b
  ·rename_i hk
   rw [if_neg hk] at h2
   exact sG hl hi h1 h2
theorem Fn {M:Model} {A:Around} {E:Value->Shared->Prop} {s:Shared} {scope:Scope} {globals:Addr} {closure:List (Str×Addr)} {qual:Str} {func:Option Addr} {code:Value} {around:Env} {builtins:Addr} {Q:Env->Shared->Prop}
  (h:Q (newEnv scope s.heap.objs.size globals (cellsFrom (s.heap.objs.size+1) scope.names closure) qual func code (some around) builtins)
   {s with heap:=pushCells (s.heap.push {cls:=.type "dict",data:=.dict #[]}) scope.names}):
  wpAny M A (newFunctionEnv scope globals closure [] qual func code (some around) builtins) Q E s:=by
 simp only [newFunctionEnv,Option.isSome_some,if_true]
 refine wpAny_bind (wpAny_alloc ?_)
 refine wpAny_bind (wpAny_layCells _ (fun n k c=>rfl) scope.names closure _ _ ?_)
 rw [show ({s with heap:=s.heap.push {cls:=.type "dict",data:=.dict #[]}}:Shared).heap.objs.size=s.heap.objs.size+1 from Heap.size_push ..]
 rw [List.forIn_nil]
 exact wpAny_bind (wpAny_pure (wpAny_pure h))
theorem mW {sc:Scope}:∀ {names:List (Str×NameKind)} {x:Str} {k:NameKind},
  (names.map fun (n,k)=>if (k==NameKind.free && sc.kind==.function && sc.names.lookup n==some .cell) then (n,NameKind.cell) else (n,k)).lookup x=some k->
  ∃ k',names.lookup x=some k'/\(k=k'\/(k'=.free/\k=.cell))
 |[],_,_,h=>by simp at h
 |(n,k₀)::r,x,k,h=>by
  have ih:= @mW sc r x k
  have h':List.lookup x ((if (k₀==NameKind.free && sc.kind==.function && sc.names.lookup n==some .cell)=true then (n,NameKind.cell) else (n,k₀))::(r.map _))=some k:=h
  cases hx:x==n with
  |true=>
   simp only [List.lookup_cons,hx]
   by_cases hc:(k₀==NameKind.free && sc.kind==.function && sc.names.lookup n==some .cell)=true
   ·rw [if_pos hc] at h'
    simp only [List.lookup_cons,hx] at h'
    cases h'
    simp only [Bool.and_eq_true,beq_iff_eq] at hc
    exact ⟨k₀,rfl,.inr ⟨hc.1.1,rfl⟩⟩
   ·rw [if_neg hc] at h'
    simp only [List.lookup_cons,hx] at h'
    cases h'
    exact ⟨_,rfl,.inl rfl⟩
  |false=>
   simp only [List.lookup_cons,hx]
   by_cases hc:(k₀==NameKind.free && sc.kind==.function && sc.names.lookup n==some .cell)=true
   ·rw [if_pos hc] at h'
    simp only [List.lookup_cons,hx] at h'
    exact ih h'
   ·rw [if_neg hc] at h'
    simp only [List.lookup_cons,hx] at h'
    exact ih h'
structure Co (N:List Str) (sc scope:Scope) (own:List (Str×Nat)):Prop where
 kind:scope.kind=.function
 uniq:∀ y∈scope.names,scope.names.lookup y.1=some y.2
 ix:∀ p∈own,N[p.2]?=some p.1
 free:∀ y∈scope.names,y.2=.free->sc.names.lookup y.1=some .cell\/sc.names.lookup y.1=some .free
 own:∀ y∈scope.names,y.2=.local\/y.2=.cell->y.1∈own.map (·.1)\/y.1∉N
def fG (σ:St):List Nat->St
 |[]=>σ
 |v::vs=>(fG σ vs).set v none
theorem mR (σ:St):∀ vs:List Nat,(fG σ vs).length=σ.length
 |[]=>rfl
 |v::vs=>by unfold fG;rw [List.length_set,mR σ vs]
theorem rR {σ:St} {i:Nat} {x:V}:∀ {vs:List Nat},(fG σ vs)[i]?=some (some x)->σ[i]?=some (some x)/\i∉vs
 |[],h=>⟨h,by simp⟩
 |v::vs,h=>by
  unfold fG at h
  by_cases hi:v=i
  ·subst hi
   by_cases hv:v<(fG σ vs).length
   ·rw [List.getElem?_set_self hv] at h;cases h
   ·rw [List.getElem?_eq_none (by simpa using hv)] at h;cases h
  ·rw [List.getElem?_set_ne hi] at h
   obtain ⟨h1,h2⟩:=rR h
   exact ⟨h1,by simp only [List.mem_cons,not_or];exact ⟨fun e=>hi e.symm,h2⟩⟩
abbrev Cx.blk (X:Cx) (s:Shared) (H:Hp) (scope:Scope) (cenv:Env) (fp:List Addr):Cx:={X with s_0:=s,H_0:=H,env:=cenv,outer:=X.stack,ex:=fp,fn:=fun x=>scope.names.lookup x==some .cell,pn:=[],xe:=fun _ _=>False}
section
variable {X:Cx} {pins:List (Addr×Obj)} {σ:St} {H:Hp} {s:Shared}
theorem Eb {scope:Scope} {own:List (Str×Nat)} {fp:List Addr} (I:aO X pins σ H s) (ok:Co X.N X.env.scope scope own) (hN:X.N.Nodup) (hfp:∀ b∈fp,tS X pins H b/\b<s.heap.objs.size):
  aO (X.blk s H scope (compEnvC scope (cellsFrom (s.heap.objs.size+1) scope.names (cT X.env.cells scope.names [])) s.heap.objs.size X.env) fp) [] (fG σ (own.map (·.2))) H {s with heap:=pushCells (s.heap.push {cls:=.type "dict",data:=.dict #[]}) scope.names}:=by
 have hfree:∀ y∈scope.names,y.2=.free->∃ c,X.env.cells.lookup y.1=some c:=fun y hy e=>by
  rcases ok.free y hy e with k|k
  ·exact I.ok.has _ (.inl k)
  ·exact I.ok.has _ (.inr k)
 generalize hcenv:compEnvC scope (cellsFrom (s.heap.objs.size+1) scope.names (cT X.env.cells scope.names [])) s.heap.objs.size X.env=cenv
 have kp:∀ b o,s.heap.get? b=some o->(pushCells (s.heap.push {cls:=.type "dict",data:=.dict #[]}) scope.names).get? b=some o:=fun b o e=>pushCells_keeps _ _ _ _ (Heap.get?_push_of_some _ e)
 have hL:cenv.locals=s.heap.objs.size:=by rw [<-hcenv];rfl
 have hcl:cenv.cells=cellsFrom (s.heap.objs.size+1) scope.names (cT X.env.cells scope.names []):=by rw [<-hcenv];rfl
 have hsc:cenv.scope=aDn scope X.env.scope:=by rw [<-hcenv];rfl
 rw [<-Heap.size_push s.heap {cls:=.type "dict",data:=.dict #[]}] at hcl
 have cm:∀ {y c},(y,c)∈cT X.env.cells scope.names []->X.env.cells.lookup y=some c/\c<s.heap.objs.size:=fun {y c} hm=>by
  rcases iW hm with hm|⟨h1,rfl⟩
  ·cases hm
  ·obtain ⟨c,hc⟩:=hfree _ h1 rfl
   rw [hc]
   obtain ⟨w,z⟩:=I.cell _ _ hc
   exact ⟨rfl,z.lt⟩
 have mem:∀ {y c},cenv.cells.lookup y=some c->(X.env.cells.lookup y=some c/\c<s.heap.objs.size)\/(s.heap.objs.size+1<=c/\Ny (pushCells (s.heap.push {cls:=.type "dict",data:=.dict #[]}) scope.names) c none):=fun {y c} e=>by
  rw [hcl] at e
  rcases jT (PySem.mem_of_lookup e) with hm|⟨_,h2,h3⟩
  ·exact .inl (cm hm)
  ·rw [Heap.size_push] at h2;exact .inr ⟨h2,h3⟩
 have look:∀ {y},scope.names.lookup y=some .free->∃ c,cenv.cells.lookup y=some c/\X.env.cells.lookup y=some c:=fun {y} hl=>by
  have hy:(y,NameKind.free)∈scope.names:=PySem.mem_of_lookup hl
  obtain ⟨c',e'⟩:=oS (nF (names:=scope.names) (n:=(s.heap.push {cls:=.type "dict",data:=.dict #[]}).objs.size) (mX (cells:=X.env.cells) (acc:=[]) hy))
  rw [<-hcl] at e'
  refine ⟨c',e',?_⟩
  rw [hcl] at e'
  rcases jT (PySem.mem_of_lookup e') with hm|⟨h1,_,_⟩
  ·exact (cm hm).1
  ·have:=ok.uniq _ h1
   rw [hl] at this;cases this
 have Pf:(X.blk s H scope cenv fp).Ok:=by
  refine ⟨I.ok.mod,by show cenv.scope.kind=_;rw [hsc];exact ok.kind,by show cenv.globals=_;rw [<-hcenv];exact I.ok.glob,by show cenv.builtins=_;rw [<-hcenv];exact I.ok.blt,by show s.heap.objs.size<=cenv.locals;rw [hL];exact Nat.le_refl _,
   fun y z c e1 e2=>?_,fun y hy=>?_,fun y c z e=>?_,I.ok.hd,I.ok.frames,.inl rfl,fun b hb=>⟨?_,fun y c e z=>?_⟩,I.bs,Nat.le_trans I.ok.bsz I.sz,fun b o e hb=>?_,fun b hb z=>?_,I.stack,I.stkFree⟩
  ·have e1:cenv.cells.lookup y=some c:=e1
   have e2:cenv.cells.lookup z=some c:=e2
   rw [hcl] at e1 e2
   refine sG (fun p hp=>?_) (fun y z c a b=>I.ok.inj y z c (cm a).1 (cm b).1) (PySem.mem_of_lookup e1) (PySem.mem_of_lookup e2)
   rw [Heap.size_push]
   exact Nat.lt_succ_of_lt (cm (y:=p.1) (c:=p.2) hp).2
  ·show ∃ c,cenv.cells.lookup y=some c
   have key:∀ k,cenv.kindOf y=some k->(k=.cell\/k=.free)->∃ c,cenv.cells.lookup y=some c:=fun k hk hk'=>by
    unfold Env.kindOf at hk
    rw [hsc] at hk
    obtain ⟨k',e,r⟩:=mW hk
    have:k'=.cell\/k'=.free:=by
     rcases r with rfl|⟨rfl,_⟩
     ·exact hk'
     ·exact .inr rfl
    rcases this with rfl|rfl
    ·obtain ⟨c,hm⟩:=sK (n:=(s.heap.push {cls:=.type "dict",data:=.dict #[]}).objs.size) (acc:=cT X.env.cells scope.names []) (PySem.mem_of_lookup e)
     obtain ⟨c',e'⟩:=oS hm
     exact ⟨c',by rw [hcl];exact e'⟩
    ·obtain ⟨c,h1,_⟩:=look e
     exact ⟨c,h1⟩
   rcases hy with hy|hy
   ·exact key _ hy (.inl rfl)
   ·exact key _ hy (.inr rfl)
  ·have z:(scope.names.lookup y==some NameKind.cell)=true:=z
   have z:scope.names.lookup y=some .cell:=by simpa using z
   have e:cenv.cells.lookup y=some c:=e
   rw [hcl] at e
   rcases jT (PySem.mem_of_lookup e) with hm|⟨_,h2,_⟩
   ·rcases iW hm with hm|⟨h1,_⟩
    ·cases hm
    ·have q:=ok.uniq _ h1
     rw [z] at q;cases q
   ·rw [Heap.size_push] at h2
    exact Nat.le_of_succ_le h2
  ·show b≠cenv.locals
   rw [hL];exact Nat.ne_of_lt (hfp b hb).2
  ·have e:cenv.cells.lookup y=some c:=e
   rcases mem e with ⟨h1,_⟩|⟨h1,_⟩
   ·exact (hfp b hb).1.2.2.2.2.1 y c h1 z
   ·have h2:s.heap.objs.size+1<=b:=by rw [<-z];exact h1
    exact absurd (Nat.lt_of_lt_of_le (hfp b hb).2 (Nat.le_of_succ_le h2)) (Nat.lt_irrefl _)
  ·rcases (hfp b hb).1.2.2.2.1 with z|z
   ·exact I.ok.noex b o e z
   ·exact absurd (Nat.lt_of_lt_of_le (Heap.lt_size e) (Nat.le_trans I.ok.bsz z)) (Nat.lt_irrefl _)
  ·rcases List.mem_cons.mp (I.stkSub b z) with z|z
   ·exact (hfp b hb).1.2.1 z
   ·exact (hfp b hb).1.2.2.1 z
 refine ⟨Pf,rfl,I.bare,Un.kept kp,⟨fun _=>none,?_,fun i y av e1 e2 e3=>?_⟩,fun y c e=>?_,?_,fun y c e=>?_,fun p hp=>?_,I.hok.kept kp,by rw [mR];exact I.len⟩
 ·show Heap.Ns _ cenv.locals _
  rw [hL]
  exact Heap.Ns.keeps (Heap.Ns.new ..) fun b o e=>pushCells_keeps _ _ _ _ e
 ·obtain ⟨e2,hne⟩:=rR e2
  have hfr:scope.names.lookup y=some .free/\(cenv.kindOf y=some .cell\/cenv.kindOf y=some .free):=by
   have key:∀ k,cenv.scope.names.lookup y=some k->k=.local\/k=.cell\/k=.free->scope.names.lookup y=some .free/\(cenv.kindOf y=some .cell\/cenv.kindOf y=some .free):=fun k hk hk'=>by
    have hk0:=hk
    rw [hsc] at hk
    obtain ⟨k',e,r⟩:=mW hk
    have no:¬(k'=.local\/k'=.cell):=fun hh=>by
     rcases ok.own _ (PySem.mem_of_lookup e) hh with e'|e'
     ·obtain ⟨p,hp,hpy⟩:=List.mem_map.mp e'
      have e3:=ok.ix p hp
      have:p.1=y:=hpy
      rw [this] at e3
      exact hne (List.mem_map.mpr ⟨p,hp,wX hN e3 e1⟩)
     ·exact e' (List.mem_of_getElem? e1)
    rcases r with rfl|⟨rfl,rfl⟩
    ·rcases hk' with rfl|rfl|rfl
     ·exact absurd (.inl rfl) no
     ·exact absurd (.inr rfl) no
     ·exact ⟨e,.inr hk0⟩
    ·exact ⟨e,.inl hk0⟩
   have e3:Vis cenv.scope y:=e3
   rcases e3 with e3|e3|e3
   ·exact key _ e3 (.inl rfl)
   ·exact key _ e3 (.inr (.inl rfl))
   ·exact key _ e3 (.inr (.inr rfl))
  obtain ⟨m,hn,hl⟩:=I.loc
  have hvis:Vis X.env.scope y:=(ok.free _ (PySem.mem_of_lookup hfr.1) rfl).elim (fun k=>.inr (.inl k)) (fun k=>.inr (.inr k))
  obtain ⟨w,r,q⟩:=hl i y av e1 e2 hvis
  refine ⟨w,r,.inr ⟨hfr.2,?_⟩⟩
  obtain ⟨c,h1,h2⟩:=look hfr.1
  rcases q with ⟨k,_⟩|⟨_,c',e',z⟩
  ·have k:X.env.scope.names.lookup y=some .local:=k
   rcases ok.free _ (PySem.mem_of_lookup hfr.1) rfl with k'|k'<;>rw [show X.env.scope.names.lookup y=_ from k'] at k<;>cases k
  ·rw [h2] at e';cases e'
   exact ⟨c,h1,z.keeps kp⟩
 ·have e:cenv.cells.lookup y=some c:=e
  rcases mem e with ⟨h1,_⟩|⟨_,z⟩
  ·obtain ⟨w,z⟩:=I.cell y c h1
   exact ⟨w,z.keeps kp⟩
  ·exact ⟨_,z⟩
 ·show H cenv.locals=none
  rw [hL];exact I.hok.fresh (Nat.le_refl _)
 ·have e:cenv.cells.lookup y=some c:=e
  rcases mem e with ⟨h1,_⟩|⟨h1,_⟩
  ·exact I.freeC y c h1
  ·exact I.hok.fresh (Nat.le_of_succ_le h1)
 ·exact absurd (show p∈([]:List (Addr×Obj))++[] from hp) (by simp)
theorem Xs {E:Value->Shared->Prop} {D:Addr} {xs:List V} {y:V} {v:Value} {Q:Value->Shared->Prop} (I:aO X pins σ H s) (hD:H D=some (.lst xs)) (hz:xs.length<sizeLine) (r:bQ y v)
  (h:∀ s',aO X pins σ (upd H D (.lst (xs++[y]))) s'->Q .none s'):wpAny (model X.prog X.w) X.A (call (.builtin "list.append") [.ref D,v]) Q E s:=by
 obtain ⟨hz',its,n,ri,e⟩:=I.hok D _ hD
 have hl:=ri.length
 refine append_at (hsz:=by rw [List.size_toArray];omega) e fun h' sb ho'=>?_
 refine h {s with heap:=h'} (I.write (t':=s.toks) (by rw [hD];trivial) (.inl rfl) (fun b u hb q=>(sb.2 b hb).trans q) ⟨_,ho'⟩ ⟨by rw [List.length_append];exact hz,its++[v],n+1,ri.append (.cons r .nil),?_⟩)
 rw [ho']
 simp
def PTs (X:Cx) (ifs:List Expr) (t:TT):Prop:=
 ∀ (pins:List (Addr×Obj)) (s:Shared) (σ:St) (H:Hp) (Q:Bool->Hp->Prop),aO X pins σ H s->t σ H Q->
  wpAny (model X.prog X.w) X.A (forIn ifs true fun c r=>if r=true then do let ok <-isTrue c X.env (eval c X.env);pure (ForInStep.yield ok) else pure (ForInStep.yield r)) (TP X pins σ Q) X.xe s
def aC1:TT:=fun _ H Q=>Q true H
theorem pK:PTs X [] aC1:=fun _ _ _ H _ I h=>wpAny_tests_nil ⟨H,I,h⟩
theorem Ts {c:Expr} {t:TT} (h:PT X c t):PTs X [c] t:=fun pins s σ H Q I hw=>wpAny_tests_one (h pins s σ H Q I hw)
end
theorem Li {α:Type} {t:Sem α} {Q Q':α->Shared->Prop} {M:Model} {A:Around} {E:Value->Shared->Prop} {s:Shared} (h:wpAny M A t Q (fun _ _=>False) s) (hQ:∀ a s,Q a s->Q' a s):wpAny M A t Q' E s:=wpAny_mono h hQ fun _ _ z=>False.elim z
theorem Bw {prog:Program} {w:World} {A:Around} {R:Result->Shared->Prop} {s:Shared} {elt target iter:Expr} {ifs:List Expr} {scope:Scope} {pos:Pos} {it acc:Value} {env:Env} (I:Nat->Shared->Prop)
  (turn:∀ n s,I n s->wpAny (model prog w) A (pyNext it) (fun r s₁=>match r with
   |none=>R (.ok .next) s₁
   |some v=>wpAny (model prog w) A (letOwnedTupleGo target it v) (fun _ s₁'=>wpAny (model prog w) A (assign target env v) (fun _ s₂=>
     wpAny (model prog w) A (forIn ifs true fun c r=>if r=true then do let ok <-isTrue c env (eval c env);pure (ForInStep.yield ok) else pure (ForInStep.yield r)) (fun ok s₃=>
      if ok=true then wpAny (model prog w) A (eval elt env) (fun x s₄=>
       wpAny (model prog w) A (call (.builtin "list.append") [acc,x]) (fun _ s₅=>∃ m,m<n/\I m s₅) (notedBy (model prog w) A env fun e s'=>R (.error e) s') s₄) (notedBy (model prog w) A env fun e s'=>R (.error e) s') s₃
      else ∃ m,m<n/\I m s₃) (notedBy (model prog w) A env fun e s'=>R (.error e) s') s₂) (notedBy (model prog w) A env fun e s'=>R (.error e) s') s₁') (notedBy (model prog w) A env fun e s'=>R (.error e) s') s₁) (notedBy (model prog w) A env fun e s'=>R (.error e) s') s)
  (n:Nat) (h:I n s):
  codeAny (model prog w) A (.compLoop (.ListComp elt [⟨target,iter,ifs,0⟩] scope pos) 0 it acc env) R s:=by
 refine codeAny_loop rfl I (fun n s hI=>?_) n h
 show wpAny _ A ((compTurn (.ListComp elt [⟨target,iter,ifs,0⟩] scope pos) 0 it acc env).onRaise (fun x=>do noteFrame x env;theTreesLotGoes x)) _ _ s
 refine wpAny_noted ?_
 rw [compTurn_list]
 refine wpAny_bind (wpAny_standAt (wpAny_bind (wpAny_mono (turn n s hI) (fun r s₁ h₁=>?_) fun _ _ h'=>h')))
 cases r with
 |none=>exact wpAny_pure h₁
 |some v=>
  refine wpAny_bind (wpAny_mono h₁ (fun _ s₁' h₁'=>?_) fun _ _ h'=>h')
  refine wpAny_bind (wpAny_mono h₁' (fun _ s₂ h₂=>wpAny_bind (wpAny_mono h₂ (fun ok s₃ h₃=>?_) fun _ _ h'=>h')) fun _ _ h'=>h')
  cases ok with
  |false=>exact wpAny_pure ⟨rfl,h₃⟩
  |true=>
   exact wpAny_bind (wpAny_bind (wpAny_mono h₃ (fun x s₄ h₄=>wpAny_bind (wpAny_mono h₄ (fun _ s₅ h₅=>wpAny_pure (wpAny_pure ⟨rfl,h₅⟩)) fun _ _ h'=>h')) fun _ _ h'=>h'))
section
variable {X:Cx}
def tLc (wi:TI) (g:TG) (tt:TT) (te:TE) (vs:List Nat):TE:=fun σ H Q=>wi σ H fun J H1=>∀ D,H1 D=none->∃ W:Nat->Nat->Hp->Prop,(∃ m,W 0 m (upd H1 D (.lst [])))/\∀ i m H,W i m H->
 (J.stop i H/\Q (.ref D) H)\/(J.go i H/\∃ Nx:Hp->Prop,(∀ H',Nx H'->∃ m',m'<m/\W (i+1) m' H')/\∀ x H',J.yld i H x H'->g x (fG σ vs) H' fun σ2 H2=>fG σ2 vs=fG σ vs/\tt σ2 H2 fun b H3=>
  if b=true then te σ2 H3 fun y H4=>∃ acc,H4 D=some (.lst acc)/\acc.length<sizeLine/\Nx (upd H4 D (.lst (acc++[y]))) else Nx H3)
theorem Im {pins:List (Addr×Obj)} {s:Shared} {σ:St} {H:Hp} {Q:VK} {elt tg iter:Expr} {ifs:List Expr} {scope:Scope} {own:List (Str×Nat)} {pos pos':Pos} {wi:TI} {g:TG} {tt:TT} {te:TE} {use:Option (Value->Sem Unit)} {Qf:Value->Shared->Prop}
  (hc:X.calm=true) (hN:X.N.Nodup) (I:aO X pins σ H s) (hi:PI X tg iter wi) (ok:Co X.N X.env.scope scope own)
  (hg:∀ (s:Shared) (H:Hp) (C:Addr) (cl:List (Str×Addr)) (fp:List Addr),PG (X.blk s H scope (compEnvC scope cl C X.env) fp) tg g) (ht:∀ (s:Shared) (H:Hp) (C:Addr) (cl:List (Str×Addr)) (fp:List Addr),PTs (X.blk s H scope (compEnvC scope cl C X.env) fp) ifs tt)
  (he:∀ (s:Shared) (H:Hp) (C:Addr) (cl:List (Str×Addr)) (fp:List Addr),PE (X.blk s H scope (compEnvC scope cl C X.env) fp) elt te) (hs:∀ x,foldedSetIterable iter X.env x=pure x)
  (h:tLc wi g tt te (own.map (·.2)) σ H Q)
  (hRR:∀ D C s' m H',aO X pins σ H' s'->Q (.ref D) H'->s'.heap.Ns C m->tS X pins H' C->compPost (model X.prog X.w) X.A X.xe use Qf (.ref D) C (.ok .next) s'):
  wpAny (model X.prog X.w) X.A (comprehension (.ListComp elt [⟨tg,iter,ifs,0⟩] scope pos) scope X.env pos' (newList []) false (eval iter X.env) use) Qf X.xe s:=by
 have hfree:∀ y∈scope.names,y.2=.free->∃ c,X.env.cells.lookup y.1=some c:=fun y hy e=>by
  rcases ok.free y hy e with k|k
  ·exact I.ok.has _ (.inl k)
  ·exact I.ok.has _ (.inr k)
 refine wpAny_comprehension_free (use:=use) rfl hs (Gw hfree) ok.kind (fun y hy e=>by rw [ok.uniq y hy,e])
  (cF (hi pins s σ H _ I h) fun xv s1 hx=>cF hx fun itv s2 h2=>?_)
 obtain ⟨it,fp,tn,J,H2,e,I2,T,st2,f2,q⟩:=h2
 subst e
 refine wpAny_newObj_type (Fn ?_) (by show 0<=sizeLine;decide)
 generalize hD:s2.heap.objs.size=D
 have hDn:H2 D=none:=I2.hok.fresh (Nat.le_of_eq hD)
 obtain ⟨W,⟨m0,w0⟩,turn⟩:=q D hDn
 generalize hs3:({s2 with heap:=s2.heap.push {cls:=.type "list",data:=.seq ([]:List Value).toArray}}:Shared)=s3
 have I3:aO X pins σ (upd H2 D (.lst [])) s3:=by
  rw [<-hs3]
  refine I2.laid (t':=s2.toks) (fun b o e=>Heap.get?_push_of_some _ e) (Nat.le_of_eq hD) ⟨Nat.zero_le _,[],0,.nil,?_⟩
  rw [<-hD]
  exact Heap.get?_push_size _ rfl
 have h3:s3.heap=s2.heap.push {cls:=.type "list",data:=.seq ([]:List Value).toArray}:=by rw [<-hs3]
 have sz:∀ b∈fp,b<s2.heap.objs.size:=fun b hb=>by
  obtain ⟨o,e,_⟩:=T.obj _ _ st2 b hb
  exact Heap.lt_size e
 have f3:∀ b∈fp,tS X pins (upd H2 D (.lst [])) b/\b<s3.heap.objs.size:=fun b hb=>by
  have hlt:=sz b hb
  refine ⟨⟨?_,(f2 b hb).2⟩,by rw [h3,Heap.size_push];exact Nat.lt_succ_of_lt hlt⟩
  rw [aB (by rw [<-hD];exact Nat.ne_of_lt hlt)]
  exact (f2 b hb).1
 have st3:tn 0 s3.heap:=T.keep _ _ _ st2 fun b _ o e=>by rw [h3];exact Heap.get?_push_of_some _ e
 have I4:=Eb I3 ok hN f3
 have pg:=hg s3 (upd H2 D (.lst [])) s3.heap.objs.size (cellsFrom (s3.heap.objs.size+1) scope.names (cT X.env.cells scope.names [])) fp
 have pt:=ht s3 (upd H2 D (.lst [])) s3.heap.objs.size (cellsFrom (s3.heap.objs.size+1) scope.names (cT X.env.cells scope.names [])) fp
 have pe:=he s3 (upd H2 D (.lst [])) s3.heap.objs.size (cellsFrom (s3.heap.objs.size+1) scope.names (cT X.env.cells scope.names [])) fp
 show codeAny _ _ (.compStart (.ListComp elt [⟨tg,iter,ifs,0⟩] scope pos) 0 (.ref it) (.ref D) (compEnvC scope (cellsFrom (s3.heap.objs.size+1) scope.names (cT X.env.cells scope.names [])) s3.heap.objs.size X.env)) (compPost (model X.prog X.w) X.A X.xe use Qf (.ref D) s3.heap.objs.size) {s3 with heap:=pushCells (s3.heap.push {cls:=.type "dict",data:=.dict #[]}) scope.names}
 have nfp:∀ b∈fp,(upd H2 D (.lst [])) b=none:=fun b hb=>(f3 b hb).1.1
 generalize hce:compEnvC scope (cellsFrom (s3.heap.objs.size+1) scope.names (cT X.env.cells scope.names [])) s3.heap.objs.size X.env=ce at I4 pg pt pe ⊢
 have cL:ce.locals=s3.heap.objs.size:=by subst hce;rfl
 generalize hH3:upd H2 D (.lst [])=H3 at I3 I4 pg pt pe w0 nfp f3
 generalize hs4:({s3 with heap:=pushCells (s3.heap.push {cls:=.type "dict",data:=.dict #[]}) scope.names}:Shared)=s4 at I4 ⊢
 have st4:tn 0 s4.heap:=T.keep _ _ _ st3 fun b _ o e=>by rw [<-hs4];exact pushCells_keeps _ _ _ _ (Heap.get?_push_of_some _ e)
 have stat:∀ {σ':St} {H':Hp} {s':Shared},aO (X.blk s3 H3 scope ce fp) [] σ' H' s'->(∀ b∈fp,H' b=none)->∀ b∈fp,tS (X.blk s3 H3 scope ce fp) [] H' b:=fun {σ' H' s'} I' hn b hb=>
  ⟨hn b hb,(I'.ok.exf b hb).1,I'.ok.exfs b hb,.inl hb,fun x c e=>(I'.ok.exf b hb).2 x c e,fun p hp=>absurd (show p∈([]:List (Addr×Obj))++[] from hp) (by simp)⟩
 have loop:codeAny (model X.prog X.w) X.A (.compLoop (.ListComp elt [⟨tg,iter,ifs,0⟩] scope pos) 0 (.ref it) (.ref D) ce) (compPost (model X.prog X.w) X.A X.xe use Qf (.ref D) s3.heap.objs.size) s4:=by
  refine Bw (fun n s'=>∃ i H',aO (X.blk s3 H3 scope ce fp) [] (fG σ (own.map (·.2))) H' s'/\tn i s'.heap/\(∀ b∈fp,H' b=none)/\W i n H') ?_ m0 ⟨0,H3,I4,st4,nfp,w0⟩
  rintro n s5 ⟨i,H5,I5,st5,n5,w5⟩
  rcases turn i n H5 w5 with ⟨stop,qq⟩|⟨go,Nx,hNx,step⟩
  ·have td:=T.done (X.blk s3 H3 scope ce fp) rfl rfl rfl hc i [] s5 _ H5 (fun _ _=>False) I5 (stat I5 n5) st5 stop
   refine Li td fun r s6 ⟨hr,I6⟩=>?_
   subst hr
   have I7:aO X pins σ H5 s6:=I3.call' (ch:=fp) I6.os I6.base I6.hok I6.bare fun b hb=>⟨(f3 b hb).1.2.2.2.1,(f3 b hb).1.2.1,(f3 b hb).1.2.2.2.2.1,(f3 b hb).1.2.2.2.2.2⟩
   have nC:H5 s3.heap.objs.size=none:=by
    have z:H5 ce.locals=none:=I6.free
    rw [cL] at z
    exact z
   obtain ⟨m,hn,_⟩:=I6.loc
   have hn:s6.heap.Ns ce.locals m:=hn
   rw [cL] at hn
   exact hRR D s3.heap.objs.size s6 m H5 I7 qq hn (I3.fpOk (Nat.le_refl _) nC)
  ·have ti:=T.item (X.blk s3 H3 scope ce fp) rfl rfl rfl hc i [] s5 _ H5 (fun _ _=>False) I5 (stat I5 n5) st5 go
   refine Li ti fun r s6 ⟨u,hr,h6⟩=>?_
   subst hr
   refine Li h6 fun _ s7 ⟨x,H7,I7,r7,y7,st7,n7⟩=>?_
   have I7':=I7.pinned (stat I7 n7) (T.obj _ _ st7)
   refine Li (pg _ s7 _ H7 x u _ I7' r7 (step x H7 y7)) fun _ s8 ⟨σ8,H8,I8,hw8,q8⟩=>?_
   refine Li (pt _ s8 σ8 H8 _ I8 q8) fun b s9 ⟨H9,I9,q9⟩=>?_
   have fin:∀ {s':Shared} {H':Hp},aO (X.blk s3 H3 scope ce fp) ([]++rG fp s7.heap) σ8 H' s'->Nx H'->∃ m,m<n/\∃ i H',aO (X.blk s3 H3 scope ce fp) [] (fG σ (own.map (·.2))) H' s'/\tn i s'.heap/\(∀ b∈fp,H' b=none)/\W i m H':=fun {s' H'} I' nx=>by
    obtain ⟨m',hm,w'⟩:=hNx H' nx
    have pin':∀ b∈fp,∀ o,s7.heap.get? b=some o->s'.heap.get? b=some o/\H' b=none:=fun b hb o e=>
     let z:=I'.pin (b,o) (List.mem_append_right _ (List.mem_append_right _ (iJ hb e)))
     ⟨z.1,z.2.1⟩
    have hl:(fG σ (own.map (·.2))).length=σ8.length:=by rw [<-hw8,mR]
    refine ⟨m',hm,i+1,H',(I'.unpinned (pins:=[])).weak hl (fun j v e=>?_),T.keep _ _ _ st7 fun b hb o e=>(pin' b hb o e).1,fun b hb=>?_,w'⟩
    ·rw [<-hw8] at e
     exact (rR e).1
    ·obtain ⟨o,e,_⟩:=T.obj _ _ st7 b hb
     exact (pin' b hb o e).2
   cases b with
   |false=>
    simp only [Bool.false_eq_true,if_false] at q9 ⊢
    exact fin I9 q9
   |true=>
    simp only [if_true] at q9 ⊢
    refine Li (pe _ s9 σ8 H9 _ I9 q9) fun z s10 ⟨yv,H10,I10,r10,acc,hD10,hz10,nx⟩=>?_
    exact Xs (X:=X.blk s3 H3 scope ce fp) I10 hD10 hz10 r10 fun s11 I11=>fin I11 nx
 exact codeAny_compStart_list loop (T.self X.A 0 _ _ _ st4 loop)
theorem Sb {elt tg iter:Expr} {ifs:List Expr} {scope:Scope} {own:List (Str×Nat)} {pos:Pos} {wi:TI} {g:TG} {tt:TT} {te:TE} (hc:X.calm=true) (hN:X.N.Nodup) (hi:PI X tg iter wi) (ok:Co X.N X.env.scope scope own)
  (hg:∀ (s:Shared) (H:Hp) (C:Addr) (cl:List (Str×Addr)) (fp:List Addr),PG (X.blk s H scope (compEnvC scope cl C X.env) fp) tg g) (ht:∀ (s:Shared) (H:Hp) (C:Addr) (cl:List (Str×Addr)) (fp:List Addr),PTs (X.blk s H scope (compEnvC scope cl C X.env) fp) ifs tt)
  (he:∀ (s:Shared) (H:Hp) (C:Addr) (cl:List (Str×Addr)) (fp:List Addr),PE (X.blk s H scope (compEnvC scope cl C X.env) fp) elt te) (hs:∀ x,foldedSetIterable iter X.env x=pure x:=by intro _;rfl):
  PE X (.ListComp elt [⟨tg,iter,ifs,0⟩] scope pos) (tLc wi g tt te (own.map (·.2))):=by
 intro pins s σ H Q I h
 rw [eval_ListComp]
 refine Im hc hN I hi ok hg ht he hs h fun D C s' m H' I' q hn f=>⟨m,hn,fun h'' sb=>?_⟩
 obtain ⟨f0,f1,f2,f3,f4,f5⟩:=f
 exact ⟨.ref D,H',I'.turned (t':=s'.toks) (fun b o hb e=>(sb.2 b hb).trans e) f0 f1 f3 f4 f5,rfl,q⟩
theorem wC {i:Nat} {y:Str} {py:Pos} {elt tg iter:Expr} {ifs:List Expr} {scope:Scope} {own:List (Str×Nat)} {pos spos:Pos} {wi:TI} {g:TG} {tt:TT} {te:TE} (hc:X.calm=true) (hN:X.N.Nodup) (hy:X.N[i]?=some y) (hyl:X.env.scope.names.lookup y=some .local)
  (hsw:swapsWith (.ListComp elt [⟨tg,iter,ifs,0⟩] scope pos) (some (.Name y py)) spos.line X.env=pure true) (hi:PI X tg iter wi) (ok:Co X.N X.env.scope scope own)
  (hg:∀ (s:Shared) (H:Hp) (C:Addr) (cl:List (Str×Addr)) (fp:List Addr),PG (X.blk s H scope (compEnvC scope cl C X.env) fp) tg g) (ht:∀ (s:Shared) (H:Hp) (C:Addr) (cl:List (Str×Addr)) (fp:List Addr),PTs (X.blk s H scope (compEnvC scope cl C X.env) fp) ifs tt)
  (he:∀ (s:Shared) (H:Hp) (C:Addr) (cl:List (Str×Addr)) (fp:List Addr),PE (X.blk s H scope (compEnvC scope cl C X.env) fp) elt te) (hs:∀ x,foldedSetIterable iter X.env x=pure x:=by intro _;rfl):
  PS X (.Assign [.Name y py] (.ListComp elt [⟨tg,iter,ifs,0⟩] scope pos) spos) (Bs (tLc wi g tt te (own.map (·.2))) (mF i)):=by
 intro pins s σ H D I h
 rw [exec_Assign_Name_used _ _ _ _ hsw]
 refine wpAny_bind (wpAny_standAt (wpAny_bind ?_))
 show wpAny _ X.A (do let _ <-comprehension (.ListComp elt [⟨tg,iter,ifs,0⟩] scope pos) scope X.env (firstIterPos [⟨tg,iter,ifs,0⟩] pos) (newList []) false (eval iter X.env) (some (assign (.Name y py) X.env))) _ _ s
 have h:tLc wi g tt te (own.map (·.2)) σ H (fun x H1=>mF i x σ H1 D.nx):=h
 refine wpAny_bind (cF (Im (Qf:=fun _ s'=>SP X pins D .next s') hc hN I hi ok hg ht he hs h fun L C s' m H' I' q hn f=>?_) fun _ s' hq=>wpAny_pure (wpAny_pure hq))
 show wpAny _ _ (assign (.Name y py) X.env (.ref L)) _ _ _
 refine wpAny_assign_Name (yO (v:=V.ref L) I' hN hy (.inl hyl) rfl (fun s2 I2 ⟨a,sb,ha⟩=>?_) (.inr hyl))
 obtain ⟨f0,f1,f2,f3,f4,f5⟩:=f
 have haC:C≠a:=by
  rcases ha with z|z
  ·rw [z];exact f1
  ·exact fun e=>f4 y a z e.symm
 refine ⟨m,hn.sameBut sb haC,fun h3 sb3=>?_⟩
 exact ⟨_,H',I2.turned (t':=s2.toks) (fun b o hb e=>(sb3.2 b hb).trans e) f0 f1 f3 f4 f5,q⟩
end
theorem Ry {lo:Int} {n:Nat} {g:TG} {tt:TT} {te:TE} {vs:List Nat} {σ:St} {H1:Hp} {D:Addr} {Qd:Hp->Prop} (Pv:Nat->Hp->Prop) (h0:Pv 0 (upd H1 D (.lst [])))
  (hs:∀ i H,i<n->Pv i H->g (.int (lo+i)) (fG σ vs) H fun σ2 H2=>fG σ2 vs=fG σ vs/\tt σ2 H2 fun b H3=>
   if b=true then te σ2 H3 fun y H4=>∃ acc,H4 D=some (.lst acc)/\acc.length<sizeLine/\Pv (i+1) (upd H4 D (.lst (acc++[y]))) else Pv (i+1) H3) (hd:∀ H,Pv n H->Qd H):
  ∃ W:Nat->Nat->Hp->Prop,(∃ m,W 0 m (upd H1 D (.lst [])))/\∀ i m H,W i m H->
   ((Mh lo n).stop i H/\Qd H)\/((Mh lo n).go i H/\∃ Nx:Hp->Prop,(∀ H',Nx H'->∃ m',m'<m/\W (i+1) m' H')/\∀ x H',(Mh lo n).yld i H x H'->g x (fG σ vs) H' fun σ2 H2=>fG σ2 vs=fG σ vs/\tt σ2 H2 fun b H3=>
    if b=true then te σ2 H3 fun y H4=>∃ acc,H4 D=some (.lst acc)/\acc.length<sizeLine/\Nx (upd H4 D (.lst (acc++[y]))) else Nx H3):=by
 refine ⟨fun i m H=>m=n - i/\i<=n/\Pv i H,⟨n,by simp,Nat.zero_le _,h0⟩,?_⟩
 rintro i m H ⟨rfl,hi,p⟩
 by_cases hlt:i<n
 ·refine .inr ⟨hlt,Pv (i+1),fun H' p'=>⟨n - (i+1),by omega,rfl,hlt,p'⟩,fun x H' y=>?_⟩
  obtain ⟨e,y⟩:=y
  subst e y
  exact hs i _ hlt p
 ·have e:i=n:=by omega
  subst e
  exact .inl ⟨Nat.le_refl _,hd H p⟩
theorem zV {K:PySem.W.Frag} {a:Addr} {xs:List V} {g:TG} {tt:TT} {te:TE} {vs:List Nat} {σ:St} {H1:Hp} {D:Addr} {Qd:Hp->Prop} (Pv:Nat->Hp->Prop) (h0:Pv 0 (upd H1 D (.lst []))) (hl:∀ i H,i<=xs.length->Pv i H->dB K H a xs)
  (hs:∀ i x H,xs[i]?=some x->Pv i H->g x (fG σ vs) H fun σ2 H2=>fG σ2 vs=fG σ vs/\tt σ2 H2 fun b H3=>
   if b=true then te σ2 H3 fun y H4=>∃ acc,H4 D=some (.lst acc)/\acc.length<sizeLine/\Pv (i+1) (upd H4 D (.lst (acc++[y]))) else Pv (i+1) H3) (hd:∀ H,Pv xs.length H->Qd H):
  ∃ W:Nat->Nat->Hp->Prop,(∃ m,W 0 m (upd H1 D (.lst [])))/\∀ i m H,W i m H->
   ((Wu K a).stop i H/\Qd H)\/((Wu K a).go i H/\∃ Nx:Hp->Prop,(∀ H',Nx H'->∃ m',m'<m/\W (i+1) m' H')/\∀ x H',(Wu K a).yld i H x H'->g x (fG σ vs) H' fun σ2 H2=>fG σ2 vs=fG σ vs/\tt σ2 H2 fun b H3=>
    if b=true then te σ2 H3 fun y H4=>∃ acc,H4 D=some (.lst acc)/\acc.length<sizeLine/\Nx (upd H4 D (.lst (acc++[y]))) else Nx H3):=by
 refine ⟨fun i m H=>m=xs.length - i/\i<=xs.length/\Pv i H,⟨xs.length,by simp,Nat.zero_le _,h0⟩,?_⟩
 rintro i m H ⟨rfl,hi,p⟩
 have q:=hl i H hi p
 by_cases hlt:i<xs.length
 ·refine .inr ⟨⟨xs,xs[i],q,by simp [hlt]⟩,Pv (i+1),fun H' p'=>⟨xs.length - (i+1),by omega,rfl,hlt,p'⟩,fun x H' y=>?_⟩
  obtain ⟨e,y⟩:=y
  subst e
  exact hs i x _ (y xs q) p
 ·have e:i=xs.length:=by omega
  subst e
  exact .inl ⟨⟨xs,q,Nat.le_refl _⟩,hd H p⟩
def aAm (N:List Str) (sc scope:Scope) (own:List (Str×Nat)):Bool:=
 (match scope.kind with|.function=>true|_=>false) && (scope.names.all fun y=>decide (scope.names.lookup y.1=some y.2)) && (own.all fun p=>decide (N[p.2]?=some p.1)) &&
  (scope.names.all fun y=>match y.2 with
   |.free=>(match sc.names.lookup y.1 with|some .cell=>true|some .free=>true|_=>false)
   |.local=>decide (y.1∈own.map (·.1))||decide (y.1∉N)
   |.cell=>decide (y.1∈own.map (·.1))||decide (y.1∉N)
   |_=>true)
theorem jO {N:List Str} {sc scope:Scope} {own:List (Str×Nat)} (h:aAm N sc scope own=true):Co N sc scope own:=by
 unfold aAm at h
 simp only [Bool.and_eq_true,List.all_eq_true,decide_eq_true_eq] at h
 obtain ⟨⟨⟨h1,h2⟩,h3⟩,h4⟩:=h
 refine ⟨?_,h2,h3,fun y hy e=>?_,fun y hy e=>?_⟩
 ·split at h1
  ·assumption
  ·cases h1
 ·have q:=h4 y hy
  simp only [e] at q
  split at q<;>first|exact .inl (by assumption)|exact .inr (by assumption)|cases q
 ·have q:=h4 y hy
  rcases e with e|e<;>(simp only [e,Bool.or_eq_true,decide_eq_true_eq] at q;exact q)
section
variable {prog:Program} {w:World} {A:Around} {R:Result->Shared->Prop} {s:Shared} {elt t0 i0 t1 i1:Expr} {ifs0 ifs1:List Expr} {scope:Scope} {pos:Pos} {it acc:Value} {env:Env}
end
section
variable {X:Cx}
end
section
variable {κ:Type} [DecidableEq κ]
def iT (aI:List (κ×V)) (k:κ):Option V:=(aI.find? fun kv=>decide (kv.1=k)).map (·.2)
def jJ (aI:List (κ×V)) (k:κ) (v:V):List (κ×V):=
 if (aI.any fun kv=>decide (kv.1=k))=true then aI.map (fun kv=>if kv.1=k then (kv.1,v) else kv) else aI++[(k,v)]
theorem qF {p:κ×V} {r:List (κ×V)} {k:κ} (e:p.1=k):iT (p::r) k=some p.2:=by simp [iT,List.find?_cons,e]
theorem pM {p:κ×V} {r:List (κ×V)} {k:κ} (e:¬p.1=k):iT (p::r) k=iT r k:=by simp [iT,List.find?_cons,e]
theorem qJ (k:κ):∀ aI:List (κ×V),(aI.any fun kv=>decide (kv.1=k))=(iT aI k).isSome
 |[]=>rfl
 |p::r=>by
  rw [List.any_cons]
  by_cases e:p.1=k
  ·simp only [qF e,decide_eq_true e,Bool.true_or,Option.isSome_some]
  ·rw [pM e,decide_eq_false e,Bool.false_or];exact qJ k r
theorem sT (aI:List (κ×V)) (k:κ) (v:V):(jJ aI k v).length<=aI.length+1:=by
 unfold jJ
 split
 ·rw [List.length_map];omega
 ·rw [List.length_append,List.length_cons,List.length_nil];omega
theorem pG {aI:List (κ×V)} {k:κ} (v:V) (h:iT aI k=none):jJ aI k v=aI++[(k,v)]:=by
 unfold jJ
 rw [qJ,h]
 exact if_neg (by decide)
theorem jK.isSome_eq {o:Option V} {u:Option Value} (r:jK o u):o.isSome=u.isSome:=by
 cases o with
 |none=>cases u with
  |none=>rfl
  |some _=>exact (show False from r).elim
 |some _=>cases u with
  |none=>exact (show False from r).elim
  |some _=>rfl
theorem jK.getD {o:Option V} {u:Option Value} {d:V} {d':Value} (r:jK o u) (rd:bQ d d'):bQ (o.getD d) (u.getD d'):=by
 cases o with
 |none=>cases u with
  |none=>exact rd
  |some _=>exact (show False from r).elim
 |some _=>cases u with
  |none=>exact (show False from r).elim
  |some _=>exact r
theorem KV.val {aI:List (κ×V)} {vs:List (κ×Value)} (r:KV aI vs) (k:κ):jK (iT aI k) (valueAt vs k):=by
 unfold KV at r
 induction r with
 |nil=>exact True.intro
 | @cons p q ps qs h t ih=>
  obtain ⟨h1,h2⟩:=h
  by_cases e:p.1=k
  ·have e':q.1=k:=h1.symm.trans e
   have b:valueAt (q::qs) k=some q.2:=by simp [valueAt,List.find?_cons,e']
   rw [qF e,b];exact h2
  ·have e':¬q.1=k:=fun z=>e (h1.trans z)
   have b:valueAt (q::qs) k=valueAt qs k:=by simp [valueAt,List.find?_cons,e']
   rw [pM e,b];exact ih
theorem KV.any {aI:List (κ×V)} {vs:List (κ×Value)} (r:KV aI vs) (k:κ):(aI.any fun kv=>decide (kv.1=k))=vs.any fun kv=>decide (kv.1=k):=by
 unfold KV at r
 induction r with
 |nil=>rfl
 |cons h t ih=>rw [List.any_cons,List.any_cons,ih,h.1]
theorem KV.repl {aI:List (κ×V)} {vs:List (κ×Value)} (r:KV aI vs) (k:κ) {y:V} {u:Value} (ry:bQ y u):
  KV (aI.map fun kv=>if kv.1=k then (kv.1,y) else kv) (vs.map fun kv=>if kv.1=k then (kv.1,u) else kv):=by
 unfold KV at r ⊢
 induction r with
 |nil=>exact .nil
 | @cons p q ps qs h t ih=>
  rw [List.map_cons,List.map_cons]
  refine .cons ?_ ih
  obtain ⟨h1,h2⟩:=h
  by_cases e:p.1=k
  ·rw [if_pos e,if_pos (h1.symm.trans e)];exact ⟨h1,ry⟩
  ·rw [if_neg e,if_neg (fun z=>e (h1.trans z))];exact ⟨h1,h2⟩
theorem KV.put {aI:List (κ×V)} {vs:List (κ×Value)} (r:KV aI vs) (k:κ) {y:V} {u:Value} (ry:bQ y u):KV (jJ aI k y) (stored vs k u):=by
 unfold jJ stored
 rw [r.any k]
 by_cases e:(vs.any fun kv=>decide (kv.1=k))=true
 ·rw [if_pos e,if_pos e];exact r.repl k ry
 ·rw [if_neg e,if_neg e];exact Paired.snoc r ⟨rfl,ry⟩
theorem KV.length {aI:List (κ×V)} {vs:List (κ×Value)} (r:KV aI vs):aI.length=vs.length:=Paired.length r
end
theorem zI {P:Program} {w:World} {k:dR} {u:Value} (r:bQ (kV k) u):(dU P w).is k u=true:=by
 cases k with
 |inl i=>obtain ⟨t,e⟩:=(show ∃ t,u=Value.int i t from r);subst e;exact Db P w i t
 |inr x=>obtain ⟨t,e⟩:=(show ∃ t,u=Value.str x t from r);subst e;exact Fg P w x t
theorem zO {P:Program} {w:World}:∀ {ks:List dR} {us:List Value},aZ (ks.map kV) us->ItemsAre (dU P w) ks us
 |[],_,r=>by rw [List.map_nil] at r;cases r;exact .nil
 |k::ks,_,r=>by
  rw [List.map_cons] at r
  cases r with
  |cons h t=>exact .cons (zI h) (zO t)
abbrev KT (H:Hp):List (List dR×V)->List (List dR×Addr×Value)->Prop:=Paired fun p q=>p.1=q.1/\H q.2.1=some (.tup (p.1.map kV))/\bQ p.2 q.2.2
theorem KT.val {H:Hp} {aI:List (List dR×V)} {xs:List (List dR×Addr×Value)} (r:KT H aI xs) (k:List dR):jK (iT aI k) ((atKey xs k).map (·.2)):=by
 induction r with
 |nil=>exact True.intro
 | @cons p q ps qs h t ih=>
  obtain ⟨h1,_,h2⟩:=h
  by_cases e:p.1=k
  ·have e':q.1=k:=h1.symm.trans e
   have b:atKey (q::qs) k=some q.2:=by simp [atKey,List.find?_cons,e']
   rw [qF e,b];exact h2
  ·have e':¬q.1=k:=fun z=>e (h1.trans z)
   have b:atKey (q::qs) k=atKey qs k:=by simp [atKey,List.find?_cons,e']
   rw [pM e,b];exact ih
theorem KT.repl {H:Hp} {aI:List (List dR×V)} {xs:List (List dR×Addr×Value)} (r:KT H aI xs) (k:List dR) {y:V} {u:Value} (ry:bQ y u):
  KT H (aI.map fun kv=>if kv.1=k then (kv.1,y) else kv) (xs.map (putAt k u)):=by
 induction r with
 |nil=>exact .nil
 | @cons p q ps qs h t ih=>
  rw [List.map_cons,List.map_cons]
  refine .cons ?_ ih
  obtain ⟨h1,h2,h3⟩:=h
  unfold putAt
  by_cases e:p.1=k
  ·rw [if_pos e,if_pos (h1.symm.trans e)];exact ⟨h1,h2,ry⟩
  ·rw [if_neg e,if_neg (fun z=>e (h1.trans z))];exact ⟨h1,h2,h3⟩
theorem KT.put {H:Hp} {aI:List (List dR×V)} {xs:List (List dR×Addr×Value)} (r:KT H aI xs) (k:List dR) {b:Addr} {y:V} {u:Value} (hb:H b=some (.tup (k.map kV))) (ry:bQ y u):
  KT H (jJ aI k y) (storedH xs k b u):=by
 have e:(aI.any fun kv=>decide (kv.1=k))=(atKey xs k).isSome:=by
  rw [qJ,(r.val k).isSome_eq,Option.isSome_map]
 unfold jJ storedH
 rw [e]
 by_cases q:(atKey xs k).isSome=true
 ·rw [if_pos q,if_pos q];exact r.repl k ry
 ·rw [if_neg q,if_neg q];exact Paired.snoc r ⟨rfl,hb,ry⟩
theorem KT.keeps {H H':Hp} {aI:List (List dR×V)} {xs:List (List dR×Addr×Value)} (r:KT H aI xs) (ht:∀ b ys,H b=some (.tup ys)->H' b=some (.tup ys)):KT H' aI xs:=
 Paired.mapP r fun _ _ z=>⟨z.1,ht _ _ z.2.1,z.2.2⟩
section
variable {P:Program} {w:World} {H:Hp} {h:Heap} {a:Addr}
theorem Qi {u:HO} (ok:kK P w H h) (e:Rd H a u):cE P w H h a u:=e.ok ok
theorem vW {aI:List (dR×V)} (ok:kK P w H h) (e:Rd H a (.dK aI)):aI.length<=sizeLine/\(a==sysModules)=false/\∃ vs,KV aI vs/\h.DictOf (dU P w) a vs:=
 show cE P w H h a (.dK aI) from Qi ok e
theorem aBj {aI:List (dR×V)} (ok:kK P w H h) (e:H a=some (.dK aI)):aI.length<=sizeLine/\(a==sysModules)=false/\∃ vs,KV aI vs/\h.DictOf (dU P w) a vs:=vW ok (.inl e)
theorem pA {ks:List dR} (ok:kK P w H h) (e:H a=some (.tup (ks.map kV))):(tupleKind (dU P w)).is h ks a:=by
 obtain ⟨_,its,r,o,h1,h2,n,h3⟩:=(show cE P w H h a (.tup (ks.map kV)) from ok a _ e)
 exact ⟨o,its.toArray,n,h1,h2,h3,by simpa using zO r⟩
theorem vA {aI:List (List dR×V)} (ok:kK P w H h) (e:Rd H a (.dT aI)):aI.length<=sizeLine/\(a==sysModules)=false/\
  ∃ xs,KT H aI xs/\h.DictOfH (tupleKind (dU P w)) a xs:=by
 obtain ⟨z,y,xs,r,o,es,ep,h1,h2,h3,h4,h5⟩:=(show cE P w H h a (.dT aI) from Qi ok e)
 refine ⟨z,y,xs,r,o,es,ep,h1,h2,h3,h4,fun x hx=>?_,h5⟩
 have all:∀ {l:List (List dR×V)} {m:List (List dR×Addr×Value)},KT H l m->∀ x∈m,(tupleKind (dU P w)).is h x.1 x.2.1:=by
  intro l m q
  induction q with
  |nil=>intro x hx;exact nomatch hx
  | @cons p q ps qs hq t ih=>
   intro x hx
   rcases List.mem_cons.mp hx with e|hx
   ·subst e
    exact pA ok (by rw [<-hq.1];exact hq.2.1)
   ·exact ih x hx
 exact all r x hx
theorem Wj {aI:List (List dR×V)} (ok:kK P w H h) (e:H a=some (.dT aI)):aI.length<=sizeLine/\(a==sysModules)=false/\
  ∃ xs,KT H aI xs/\h.DictOfH (tupleKind (dU P w)) a xs:=vA ok (.inl e)
end
def mT (H:Hp) (a:Addr) (y:V) (r:Option V):Prop:=
 (∃ aI k,Rd H a (.dK aI)/\y=kV k/\r=iT aI k)\/∃ aI k b,Rd H a (.dT aI)/\y=.ref b/\H b=some (.tup (k.map kV))/\r=iT aI k
def xG (H:Hp) (a:Addr) (y v:V) (H':Hp):Prop:=
 (∃ aI k,H a=some (.dK aI)/\y=kV k/\aI.length<sizeLine/\H'=upd H a (.dK (jJ aI k v)))\/
 ∃ aI k b,H a=some (.dT aI)/\y=.ref b/\H b=some (.tup (k.map kV))/\aI.length<sizeLine/\H'=upd H a (.dT (jJ aI k v))
theorem mT.t {H:Hp} {a b:Addr} {aI:List (List dR×V)} {k:List dR} (e:H a=some (.dT aI)) (eb:H b=some (.tup (k.map kV))):mT H a (.ref b) (iT aI k):=.inr ⟨aI,k,b,.inl e,rfl,eb,rfl⟩
theorem xG.t {H:Hp} {a b:Addr} {aI:List (List dR×V)} {k:List dR} {v:V} (e:H a=some (.dT aI)) (eb:H b=some (.tup (k.map kV))) (hl:aI.length<sizeLine):
  xG H a (.ref b) v (upd H a (.dT (jJ aI k v))):=.inr ⟨aI,k,b,e,rfl,eb,hl,rfl⟩
section
variable {X:Cx} {pins:List (Addr×Obj)} {σ:St} {H:Hp} {s:Shared} {a:Addr} {y v:V} {u r:Value} {o:Option V} {A:Around} {E:Value->Shared->Prop}
theorem aO.big (I:aO X pins σ H s):sysModules<s.heap.objs.size:=by
 have h:mainGlobals<s.heap.objs.size:=(I.mod.glob.keeps I.bk).lt
 exact Nat.lt_trans (by decide) h
theorem La {Q:Value->Shared->Prop} (hu:A.units+1<cLine) (I:aO X pins σ H s) (g:mT H a y (some v)) (ry:bQ y u) (h:∀ w' s',aO X pins σ H s'->bQ v w'->Q w' s'):
  wpAny (model X.prog X.w) A (getItem (.ref a) u) Q E s:=by
 rcases g with ⟨aI,k,e,ey,l⟩|⟨aI,k,b,e,ey,eb,l⟩
 ·subst ey
  obtain ⟨z,hd,vs,rel,dd⟩:=vW I.hok e
  obtain ⟨w',hw,rw'⟩:=jK.some_of (v:=v) (o:=valueAt vs k) (by rw [l];exact rel.val k)
  exact wpAny_getItem_of (zI ry) dd.mapOf hw (h w' _ (I.tok _) rw')
 ·subst ey
  cases (show u=Value.ref b from ry)
  obtain ⟨z,hd,xs,rel,dd⟩:=vA I.hok e
  obtain ⟨w',hw,rw'⟩:=jK.some_of (v:=v) (o:=(atKey xs k).map (·.2)) (by rw [l];exact rel.val k)
  obtain ⟨p,hp,hp2⟩:=Option.map_eq_some_iff.mp hw
  refine wpAny_getItem_heap (tupleKind_room_in1 hu) (pA I.hok eb) dd hp ?_
  rw [hp2]
  exact h w' _ (I.tok _) rw'
theorem aC5 {Q:Value->Shared->Prop} (hu:A.units+1<cLine) (I:aO X pins σ H s) (g:mT H a y o) (ry:bQ y u) (h:∀ s',aO X pins σ H s'->Q (.bool o.isSome) s'):
  wpAny (model X.prog X.w) A (compareOp .In u (.ref a)) Q E s:=by
 rcases g with ⟨aI,k,e,ey,l⟩|⟨aI,k,b,e,ey,eb,l⟩
 ·subst ey
  obtain ⟨z,hd,vs,rel,dd⟩:=vW I.hok e
  refine wpAny_in_of (zI ry) hd dd.mapOf ?_
  rw [<-(rel.val k).isSome_eq,<-l]
  exact h _ (I.tok _)
 ·subst ey
  cases (show u=Value.ref b from ry)
  obtain ⟨z,hd,xs,rel,dd⟩:=vA I.hok e
  refine wpAny_in_heap (tupleKind_room_in1 hu) (pA I.hok eb) hd dd ?_
  have q:=(rel.val k).isSome_eq
  rw [Option.isSome_map] at q
  rw [<-q,<-l]
  exact h _ (I.tok _)
theorem Vd {Q:Value->Shared->Prop} (hu:A.units+1<cLine) (I:aO X pins σ H s) (g:mT H a y o) (ry:bQ y u) (h:∀ s',aO X pins σ H s'->Q (.bool (!o.isSome)) s'):
  wpAny (model X.prog X.w) A (compareOp .NotIn u (.ref a)) Q E s:=by
 rcases g with ⟨aI,k,e,ey,l⟩|⟨aI,k,b,e,ey,eb,l⟩
 ·subst ey
  obtain ⟨z,hd,vs,rel,dd⟩:=vW I.hok e
  refine wpAny_notIn_of (zI ry) hd dd.mapOf ?_
  rw [<-(rel.val k).isSome_eq,<-l]
  exact h _ (I.tok _)
 ·subst ey
  cases (show u=Value.ref b from ry)
  obtain ⟨z,hd,xs,rel,dd⟩:=vA I.hok e
  refine wpAny_notIn_heap (tupleKind_room_in1 hu) (pA I.hok eb) hd dd ?_
  have q:=(rel.val k).isSome_eq
  rw [Option.isSome_map] at q
  rw [<-q,<-l]
  exact h _ (I.tok _)
theorem Aw {h':Heap} {t':Nat} {ob:HO} (I:aO X pins σ H s) (mu:Wq (H a)) (hs:Heap.SameBut a s.heap h') (he:∃ q,h'.get? a=some q) (new:cE X.prog X.w (upd H a ob) h' a ob):
  aO X pins σ (upd H a ob) {s with heap:=h',toks:=t'}:=
 I.write (x:=a) (e:=a) mu (.inl rfl) (fun b q hb z=>(hs.2 b hb).trans z) he new
theorem Xk {P:Program} {w:World} {H':Hp} {h':Heap} {aI:List (dR×V)} {vs:List (dR×Value)} (z:aI.length<=sizeLine) (hd:(a==sysModules)=false) (rel:KV aI vs) (dd:h'.DictOf (dU P w) a vs):
  cE P w H' h' a (.dK aI):=⟨z,hd,vs,rel,dd⟩
theorem Mc {H':Hp} {Q:Unit->Shared->Prop} (hu:A.units+1<cLine) (I:aO X pins σ H s) (g:xG H a y v H') (ry:bQ y u) (rv:bQ v r) (h:∀ s',aO X pins σ H' s'->Q () s'):
  wpAny (model X.prog X.w) A (setItem (.ref a) u r) Q E s:=by
 rcases g with ⟨aI,k,e,ey,l,eH⟩|⟨aI,k,b,e,ey,eb,l,eH⟩
 ·subst ey eH
  obtain ⟨z,hd,vs,rel,dd⟩:=aBj I.hok e
  have hz:vs.length<=sizeLine:=by rw [<-rel.length];exact z
  have hl:(jJ aI k v).length<=sizeLine:=by have:=sT aI k v;omega
  refine wpAny_setItem_pairs (hsz:=hz) (zI ry) dd fun h' dd' hs=>h _ ?_
  have he:∃ q,h'.get? a=some q:=let ⟨q,_,_,hq,_⟩:=dd';⟨q,hq⟩
  exact Aw I (by rw [e];exact True.intro) hs he (Xk hl hd (rel.put k rv) dd')
 ·subst ey eH
  cases (show u=Value.ref b from ry)
  obtain ⟨z,hd,xs,rel,dd⟩:=Wj I.hok e
  have hz:xs.length<=sizeLine:=by rw [<-Paired.length rel];exact z
  have hl:(jJ aI k v).length<=sizeLine:=by have:=sT aI k v;omega
  refine wpAny_setItem_heap (hsz:=hz) (tupleKind_room_in1 hu) (pA I.hok eb) dd fun h' dd' hs=>h _ ?_
  obtain ⟨q,es,ep,hq,h2,h3,h4,_,h5⟩:=dd'
  refine Aw I (by rw [e];exact True.intro) hs ⟨q,hq⟩ ⟨hl,hd,_,(rel.put k eb rv).keeps fun c ys ec=>?_,q,es,ep,hq,h2,h3,h4,h5⟩
  rw [aB (Wg ec e (fun z=>nomatch z))]
  exact ec
end
section
variable {X:Cx} {pins:List (Addr×Obj)} {σ:St} {H:Hp} {s:Shared} {a:Addr} {aI:List (dR×V)} {k:dR} {u:Value} {A:Around} {E:Value->Shared->Prop}
end
def aBl (i:Expr):Prop:=∀ ov iv,subscripted i false ov iv=operate [ov,iv] (getItem ov iv)
theorem Tq {prog:Program} {w:World} {A:Around} {E:Value->Shared->Prop} {s:Shared} {env:Env} {value slice:Expr} {pos:Pos} {T id:String} {Q:Value->Shared->Prop}
  (hl:typeLookup (.type T) "__getitem__"=pure (some (.builtin id))) (hs:aBl slice)
  (h:wpAny (model prog w) A (eval value env) (fun o s₁=>wpAny (model prog w) A (eval slice env) (fun i s₂=>s₂.TypeIs o T/\wpAny (model prog w) A (getItem o i) Q E s₂) E s₁) E s):
  wpAny (model prog w) A (eval (.Subscript value slice pos) env) Q E s:=by
 refine Subscript_ (wpAny_mono h (fun o s₁ h₁=>wpAny_mono h₁ (fun i s₂ h₂=>?_) fun _ _ x=>x) fun _ _ x=>x)
 obtain ⟨hT,h₂⟩:=h₂
 unfold subscriptTail
 refine wpAny_bind ?_
 rw [getitemInPython_of_ne hT.not_modules]
 refine wpAny_bind (wpAny_specialOf hT hl ?_)
 have fin:wpAny (model prog w) A (subscripted slice false o i) (fun r s₃=>wpAny (model prog w) A (letTemporaryGo value o r>>=fun _=>pure r) Q E s₃) E s₂:=by
  rw [hs o i]
  exact wpAny_operating (wpAny_mono h₂ (fun r s₃ h₃=>wpAny_bind (wpAny_letTemporaryGo (wpAny_pure h₃))) fun _ _ x=>x)
 first
  |exact wpAny_pure (wpAny_bind fin)
  |exact wpAny_bind (wpAny_pure (wpAny_bind fin))
  |exact wpAny_bind fin
theorem Cy {X:Cx} {pins:List (Addr×Obj)} {σ:St} {H:Hp} {s:Shared} {a:Addr} {y:V} {o:Option V} (I:aO X pins σ H s) (g:mT H a y o):s.TypeIs (.ref a) "dict":=by
 rcases g with ⟨aI,k,e,_,_⟩|⟨aI,k,b,e,_,_,_⟩
 ·obtain ⟨_,_,vs,_,dd⟩:=vW I.hok e
  exact dd.typeIs
 ·obtain ⟨_,_,xs,_,dd⟩:=vA I.hok e
  exact dd.typeIs
def Wi (td ty:TE):TE:=fun σ H Q=>td σ H fun x H1=>ty σ H1 fun y H2=>∃ a v,x=.ref a/\mT H2 a y (some v)/\Q v H2
def aAk (ty td:TE):TE:=fun σ H Q=>ty σ H fun y H1=>td σ H1 fun x H2=>∃ a o,x=.ref a/\mT H2 a y o/\Q (.bl o.isSome) H2
def Vr (ty td:TE):TE:=fun σ H Q=>ty σ H fun y H1=>td σ H1 fun x H2=>∃ a o,x=.ref a/\mT H2 a y o/\Q (.bl (!o.isSome)) H2
def Ww (td ty tv:TE):TS:=fun D σ H=>tv σ H fun v H1=>td σ H1 fun x H2=>ty σ H2 fun y H3=>∃ a H4,x=.ref a/\xG H3 a y v H4/\D.nx σ H4
section
variable {X:Cx} {o i e value:Expr} {pos pos' tpos:Pos} {td ty tv:TE}
theorem iZ (hu:X.A.units+1<cLine) (ho:PE X o td) (hi:PE X i ty) (hs:aBl i):PE X (.Subscript o i pos) (Wi td ty):=by
 intro pins s σ H Q I h
 refine Tq PySem.F.slot_dict_getitem.lookup hs (cF (ho pins s σ H _ I h) fun u s1 ⟨x,H1,I1,rx,q1⟩=>cF (hi pins s1 σ H1 _ I1 q1) fun iv s2 ⟨y,H2,I2,ry,a,v,ex,g,q2⟩=>?_)
 subst ex
 obtain rfl:u=Value.ref a:=rx
 exact ⟨Cy I2 g,La hu I2 g ry fun w' s3 I3 rw'=>⟨v,H2,I3,rw',q2⟩⟩
theorem pC (hu:X.A.units+1<cLine) (hi:PE X i ty) (ho:PE X o td):PC X .In i o (aAk ty td):=by
 intro pins s σ H Q I h
 refine cF (hi pins s σ H _ I h) fun iv s1 ⟨y,H1,I1,ry,q1⟩=>cF (ho pins s1 σ H1 _ I1 q1) fun u s2 ⟨x,H2,I2,rx,a,ov,ex,g,q2⟩=>?_
 subst ex
 obtain rfl:u=Value.ref a:=rx
 exact aC5 hu I2 g ry fun s3 I3=>⟨.bl ov.isSome,H2,I3,rfl,q2⟩
theorem Lv (hu:X.A.units+1<cLine) (hi:PE X i ty) (ho:PE X o td):PC X .NotIn i o (Vr ty td):=by
 intro pins s σ H Q I h
 refine cF (hi pins s σ H _ I h) fun iv s1 ⟨y,H1,I1,ry,q1⟩=>cF (ho pins s1 σ H1 _ I1 q1) fun u s2 ⟨x,H2,I2,rx,a,ov,ex,g,q2⟩=>?_
 subst ex
 obtain rfl:u=Value.ref a:=rx
 exact Vd hu I2 g ry fun s3 I3=>⟨.bl (!ov.isSome),H2,I3,rfl,q2⟩
theorem lI (hu:X.A.units+1<cLine) (ho:PE X o td) (hi:PE X i ty) (hv:PE X value tv) (hs:swapsWith value (some (.Subscript o i pos')) pos.line X.env=pure false):
  PS X (.Assign [.Subscript o i pos'] value pos) (Ww td ty tv):=by
 intro pins s σ H D I h
 refine wpAny_Assign_Subscript (cF (hv pins s σ H _ I h) fun r s1 ⟨v,H1,I1,rv,q1⟩=>cF (ho pins s1 σ H1 _ I1 q1) fun u s2 ⟨x,H2,I2,rx,q2⟩=>cF (hi pins s2 σ H2 _ I2 q2) fun iv s3 ⟨y,H3,I3,ry,a,H4,ex,g,q3⟩=>?_) hs
 subst ex
 obtain rfl:u=Value.ref a:=rx
 exact Mc hu I3 g ry rv fun s4 I4=>⟨σ,H4,I4,q3⟩
end
theorem Cq {P:Program} {w:World} {H:Hp} (h:Heap) (hb:sysModules<h.objs.size):cE P w H (h.push {cls:=.type "dict",data:=.dict #[]}) h.objs.size (.dT []):=
 ⟨Nat.zero_le _,beq_eq_false_iff_ne.mpr (Ne.symm (Nat.ne_of_lt hb)),[],.nil,_,#[],0,Heap.get?_push_size _ rfl,⟨rfl,rfl,rfl⟩,rfl,rfl,List.nodup_nil⟩
def Zs:TE:=fun _ H Q=>∀ p,H p=none->Q (.ref p) (upd H p (.dT []))
section
variable {X:Cx} {pos:Pos}
theorem jR:PE X (.Dict [] [] pos) Zs:=fun pins s σ H Q I h=>
 wpAny_Dict_empty ⟨.ref s.heap.objs.size,_,I.laid (a:=s.heap.objs.size) (o:=.dT []) (t':=s.toks) (fun _ _ q=>Heap.get?_push_of_some _ q) (Nat.le_refl _) (Cq s.heap I.big),rfl,h _ (I.hok.fresh (Nat.le_refl _))⟩
end
structure M2 (X:Cx) (o:Expr) (m:Str) (apos:Pos) (e f:Expr) (cpos:Pos):Prop where
 base:attributeBase o m X.env (eval o X.env)=eval o X.env
 few:((backTo cpos (starEach [e,f] X.env)).all (fun x=> !x.1) && (backToKw cpos (keywordEach [] X.env)).all (fun x=>x.1.isSome)
  && decide (([e,f]:List Expr).length+([]:List Keyword).length+(if ([]:List Keyword).isEmpty then 0 else 1)<30))=true
 line:(apos.endLine==cpos.line)=true
 trees:backTo cpos (starEach [e,f] X.env)=[(false,eval e X.env),(false,eval f X.env)]
def IsD (H:Hp) (a:Addr):Prop:=(∃ aI,Rd H a (.dK aI))\/∃ aI,Rd H a (.dT aI)
theorem Xz {X:Cx} {pins:List (Addr×Obj)} {σ:St} {H:Hp} {s:Shared} {a:Addr} (I:aO X pins σ H s) (d:IsD H a):
  s.TypeIs (.ref a) "dict"/\(∀ b,Value.ref a=.ref b->∃ ob,s.heap.get? b=some ob/\ob.dict=none)/\(a==sysModules)=false:=by
 rcases d with ⟨aI,e⟩|⟨aI,e⟩
 ·obtain ⟨_,hd,vs,_,dd⟩:=vW I.hok e
  refine ⟨dd.typeIs,fun b q=>?_,hd⟩
  cases q
  obtain ⟨ob,_,_,h1,h2,_⟩:=dd
  exact ⟨ob,h1,h2.2.1⟩
 ·obtain ⟨_,hd,xs,_,dd⟩:=vA I.hok e
  refine ⟨dd.typeIs,fun b q=>?_,hd⟩
  cases q
  obtain ⟨ob,_,_,h1,h2,_⟩:=dd
  exact ⟨ob,h1,h2.2.1⟩
section
variable {X:Cx} {pins:List (Addr×Obj)} {σ:St} {H:Hp} {s:Shared} {a:Addr} {y d:V} {u r:Value} {o:Option V} {A:Around} {E:Value->Shared->Prop}
theorem Zm {Q:Value->Shared->Prop} (hu:A.units+1<cLine) (I:aO X pins σ H s) (g:mT H a y o) (ry:bQ y u) (rd:bQ d r) (h:∀ w' s',aO X pins σ H s'->bQ (o.getD d) w'->Q w' s'):
  wpAny (model X.prog X.w) A (call (.builtin "dict.get") [.ref a,u,r]) Q E s:=by
 rcases g with ⟨aI,k,e,ey,l⟩|⟨aI,k,b,e,ey,eb,l⟩
 ·subst ey
  obtain ⟨z,hd,vs,rel,dd⟩:=vW I.hok e
  refine call_meetsIn PySem.F.slot_dict_get dd.typeIs PySem.F.entry_dict_get (PySem.F.args_dict_get_3 _ _ _) (meets_dict_get_default (dU X.prog X.w) a (zI ry) hd r) ⟨_,dd.mapOf,h _ _ (I.tok _) ?_⟩
  rw [l]
  exact (rel.val k).getD rd
 ·subst ey
  cases (show u=Value.ref b from ry)
  obtain ⟨z,hd,xs,rel,dd⟩:=vA I.hok e
  refine call_meetsIn PySem.F.slot_dict_get dd.typeIs PySem.F.entry_dict_get (PySem.F.args_dict_get_3 _ _ _) (meetsH_dict_get_default (tupleKind (dU X.prog X.w)) a b hd r) ⟨tupleKind_room_in1 hu,k,xs,pA I.hok eb,dd,h _ _ (I.tok _) ?_⟩
  rw [l]
  exact (rel.val k).getD rd
end
def Zt (td ty tx:TE):TE:=fun σ H Q=>td σ H fun x H1=>∃ a,x=.ref a/\IsD H1 a/\ty σ H1 fun y H2=>tx σ H2 fun z H3=>∃ o,mT H3 a y o/\Q (o.getD z) H3
section
variable {X:Cx} {o e f:Expr} {apos cpos:Pos} {td ty tx:TE}
theorem Sm (hu:X.A.units+1<cLine) (ho:PE X o td) (he:PE X e ty) (hf:PE X f tx) (m:M2 X o "get" apos e f cpos):PE X (.Call (.Attribute o "get" apos) [e,f] [] cpos) (Zt td ty tx):=by
 intro pins s σ H Q I h
 refine wpAny_Call_method m.base m.few m.line PySem.F.plainAttrs_dict PySem.F.slot_dict_get PySem.F.type_dict_get (cF (ho pins s σ H _ I h) fun u s1 ⟨x,H1,I1,rx,a,ex,d,q1⟩=>?_)
 subst ex
 obtain rfl:u=Value.ref a:=rx
 obtain ⟨t1,t2,_⟩:=Xz I1 d
 refine ⟨t1,t2,?_⟩
 rw [m.trees]
 refine Calls.callWith_builtin rfl (Calls.evalArgs_plain (Calls.spliced_cons (cF (he pins s1 σ H1 _ I1 q1) fun iv s2 ⟨y,H2,I2,ry,q2⟩=>
  Calls.spliced_cons (cF (hf pins s2 σ H2 _ I2 q2) fun fv s3 ⟨z,H3,I3,rz,ov,g,q3⟩=>Calls.spliced_nil ?_))))
 exact Zm hu I3 g ry rz fun w' s4 I4 rw'=>⟨_,H3,I4,rw',q3⟩
end
section
variable {X:Cx} {pins:List (Addr×Obj)} {σ:St} {H:Hp} {s:Shared} {a:Addr} {aI:List (dR×V)} {A:Around} {E:Value->Shared->Prop}
end
section
variable {X:Cx} {pins:List (Addr×Obj)} {σ:St} {H:Hp} {s:Shared} {a:Addr} {y:V} {u:Value} {A:Around} {E:Value->Shared->Prop}
end
section
variable {prog:Program} {w:World} {A:Around} {E:Value->Shared->Prop}
end
section
variable {X:Cx}
end
section
variable {X:Cx} {pins:List (Addr×Obj)} {σ:St} {H:Hp} {s:Shared} {h':Heap}
theorem aO.turnedNew {t':Nat} {ch:List Addr} {T:Addr} {ob:HO} (I:aO X pins σ H s) (k:∀ b o,b∉ch->s.heap.get? b=some o->h'.get? b=some o) (hf:∀ b∈ch,tS X pins H b) (hT:s.heap.objs.size<=T)
  (new:cE X.prog X.w (upd H T ob) h' T ob):aO X pins σ (upd H T ob) {s with heap:=h',toks:=t'}:=by
 have hn:H T=none:=I.hok.fresh hT
 have nit:∀ b u,H b=some u->b∉ch:=fun b u e z=>by
  have q:=(hf b z).1
  rw [q] at e;cases e
 refine I.step (g':=s.gens) (d':=s.drawn) (ch:=ch) (fun b hb=>⟨(hf b hb).2.2.2.1,(hf b hb).2.1,(hf b hb).2.2.2.2.1,(hf b hb).2.2.2.2.2⟩) (fun b o _ _ hc e _=>k b o hc e) (fun b o _ _ hc e _=>⟨o.slots,k b o hc e⟩)
  (fun b o _ e n=>?_) (fun b o hc e=>⟨o,k b o hc e⟩) (fun b xs e=>?_) (fun b o u e=>?_) (fun b ps e=>⟨#[],?_⟩) (fun m hm=>?_) (fun b u e=>?_) I.bare
 ·rw [aB (Nat.ne_of_lt (Nat.lt_of_lt_of_le (Heap.lt_size e) hT))];exact n
 ·rw [aB (aD e hn)];exact e
 ·rw [aB (aD e hn)];exact e
 ·rw [aB (aD e hn),e];simp
 ·obtain ⟨o,es,ep,ho,r⟩:=hm
  exact ⟨o,es,ep,k _ o (fun z=>(hf _ z).2.1 rfl) ho,r⟩
 ·by_cases hb:b=T
  ·subst hb
   rw [aC] at e
   cases e
   exact new
  ·rw [aB hb] at e
   refine (I.hok b u e).stay (fun c v hc q=>k c v ?_ q) (fun c q=>by rw [aB (aD q hn)];exact q) fun c xs q=>by rw [aB (aD q hn)];exact q
   rcases hc with z|z
   ·rw [z];exact nit b u e
   ·exact nit c _ z
theorem aO.lock {d:Addr} {u:HO} (I:aO X pins σ H s) (h:H d=some u) (mu:Wq (some u)):∃ od,aO X pins σ (upd H d (.frz od u)) s:=by
 have x:=I.hok d u h
 have ex:∃ od,s.heap.get? d=some od:=by
  cases u with
  |lst xs=>obtain ⟨_,_,_,_,e⟩:=x;exact ⟨_,e⟩
  |dK aI=>obtain ⟨_,_,_,_,o,_,_,e,_⟩:=x;exact ⟨o,e⟩
  |dT aI=>obtain ⟨_,_,_,_,o,_,_,e,_⟩:=x;exact ⟨o,e⟩
  |set S n=>obtain ⟨o,_,_,_,e,_⟩:=x;exact ⟨o,e⟩
  |ins C dx fs=>obtain ⟨_,_,_,e,_⟩:=x;exact ⟨_,e⟩
  |ext φ=>obtain ⟨_,⟨_,e⟩,_⟩:=x;exact ⟨_,e⟩
  |_=>exact False.elim mu
 obtain ⟨od,e⟩:=ex
 have new:cE X.prog X.w (upd H d (.frz od u)) s.heap d (.frz od u):=by
  refine ⟨e,x.stay (fun b v _ q=>q) (fun b q=>?_) fun b xs q=>?_⟩
  ·rw [aB (fun z=>by rw [z,h] at q;cases q;exact mu)];exact q
  ·rw [aB (fun z=>by rw [z,h] at q;cases q;exact mu)];exact q
 exact ⟨od,I.write (x:=d) (e:=d) (t':=s.toks) (h':=s.heap) (by rw [h];exact mu) (.inl rfl) (fun b v _ q=>q) ⟨od,e⟩ new⟩
theorem aO.nofrz {d:Addr} {u:HO} (I:aO X pins σ H s) (h:H d=some u) (mu:Wq (some u)):∀ o' u',X.H_0 d≠some (.frz o' u'):=fun o' u' e=>by
 have q:=I.base.frzs d o' u' e
 rw [h] at q
 cases q
 exact mu
theorem aO.unlock {d:Addr} {od:Obj} {u:HO} (I:aO X pins σ H s) (h:H d=some (.frz od u)) (hn:∀ o' u',X.H_0 d≠some (.frz o' u')):aO X pins σ (upd H d u) s:=by
 have neH:∀ b o,H b=some o->(∀ o' u',o≠.frz o' u')->b≠d:=fun b o e hne z=>by
  rw [z,h] at e
  cases e
  exact hne _ _ rfl
 have neN:∀ b,H b=none->b≠d:=fun b e z=>by rw [z,h] at e;cases e
 refine ⟨I.ok,I.os,I.bare,⟨I.base.keep,I.base.slot,fun b o e n hx=>?_,I.base.there,fun b xs e=>?_,fun b o x e=>?_,fun b ps e=>?_⟩,I.loc,I.cell,?_,fun x c e=>?_,fun p hp=>?_,fun b o e=>?_,I.len⟩
 ·rw [aB (neN b (I.base.free b o e n hx))];exact I.base.free b o e n hx
 ·have q:=I.base.tups b xs e
  rw [aB (neH b _ q (fun _ _ z=>nomatch z))];exact q
 ·have q:=I.base.frzs b o x e
  rw [aB (fun z=>by rw [z] at e;exact hn _ _ e)];exact q
 ·obtain ⟨m,q⟩:=I.base.tbls b ps e
  exact ⟨m,by rw [aB (neH b _ q (fun _ _ z=>nomatch z))];exact q⟩
 ·rw [aB (neN _ I.free)];exact I.free
 ·rw [aB (neN c (I.freeC x c e))];exact I.freeC x c e
 ·obtain ⟨e,n,r⟩:=I.pin p hp
  exact ⟨e,by rw [aB (neN _ n)];exact n,r⟩
 ·by_cases hb:b=d
  ·rw [hb,aC] at e
   cases e
   rw [hb]
   obtain ⟨_,x⟩:=I.hok d _ h
   exact x.stay (fun c v _ q=>q) (fun c q=>by rw [aB (neH c _ q (fun _ _ z=>nomatch z))];exact q) fun c xs q=>by rw [aB (neH c _ q (fun _ _ z=>nomatch z))];exact q
  ·rw [aB hb] at e
   exact (I.hok b o e).stay (fun c v _ q=>q) (fun c q=>by rw [aB (neH c _ q (fun _ _ z=>nomatch z))];exact q) fun c xs q=>by rw [aB (neH c _ q (fun _ _ z=>nomatch z))];exact q
end
def aBx (t:TS):TS:=fun D σ H=>∃ d u,H d=some u/\Wq (some u)/\∀ od,t ⟨fun σ' H'=>H' d=some (.frz od u)/\D.nx σ' (upd H' d u),fun v H'=>H' d=some (.frz od u)/\D.rt v (upd H' d u),fun σ' H'=>H' d=some (.frz od u)/\D.bk σ' (upd H' d u),fun σ' H'=>H' d=some (.frz od u)/\D.ct σ' (upd H' d u)⟩ σ (upd H d (.frz od u))
section
variable {X:Cx}
theorem hG {st:Stmt} {t:TS} (h:PS X st t):PS X st (aBx t):=by
 intro pins s σ H D I hw
 obtain ⟨d,u,hd,mu,hw⟩:=hw
 obtain ⟨od,I1⟩:=I.lock hd mu
 refine cF (h pins s σ _ _ I1 (hw od)) fun f s1 q=>?_
 cases f with
 |next=>obtain ⟨σ',H',I2,e,q⟩:=q;exact ⟨σ',_,I2.unlock e (I.nofrz hd mu),q⟩
 |brk=>obtain ⟨σ',H',I2,e,q⟩:=q;exact ⟨σ',_,I2.unlock e (I.nofrz hd mu),q⟩
 |cont=>obtain ⟨σ',H',I2,e,q⟩:=q;exact ⟨σ',_,I2.unlock e (I.nofrz hd mu),q⟩
 |ret v=>obtain ⟨x,σ',H',I2,r,e,q⟩:=q;exact ⟨x,σ',_,I2.unlock e (I.nofrz hd mu),r,q⟩
theorem rH {tg:Expr} {pins:List (Addr×Obj)} {σ:St} {H:Hp} {s:Shared} {R:It->Hp->Prop} {J:It} {tn:Nat->Heap->Prop} {tk:Nat} (I:aO X pins σ H s) (o:Obj)
  (T:uR X.prog X.w X.K tg J [s.heap.objs.size] s.heap.objs.size tn) (st:tn 0 (s.heap.push o)) (q:R J H):PIE X pins σ tg R (.ref s.heap.objs.size) {s with heap:=s.heap.push o,toks:=tk}:=by
 refine ⟨s.heap.objs.size,[s.heap.objs.size],tn,J,H,rfl,I.kept fun b ob e=>Heap.get?_push_of_some _ e,T,st,fun b hb=>?_,q⟩
 have e:b=s.heap.objs.size:=by simpa using hb
 subst e
 exact I.fpOk (Nat.le_refl _) (I.hok.fresh (Nat.le_refl _))
end
section
variable {X:Cx} {tg:Expr}
end
section
variable {X:Cx} {tg:Expr}
end
def Its (x:Str):It:=⟨fun i _=>i<x.cps.size,fun i H v H'=>H'=H/\∃ c,x.cps[i]?=some c/\v=.str ⟨#[c]⟩,fun i _=>x.cps.size<=i⟩
theorem Ez {P:Program} {w:World} {K:PySem.W.Frag} {tg:Expr} (it:Addr) (x:Str) (t:Tok) (ty:String) (hty:ty="str_ascii_iterator"\/ty="str_iterator"):
  uR P w K tg (Its x) [it] it (fun i h=>h.IsStrIter it ty x t i) where
 mem:=by simp
 obj:=fun i h st b hb=>by
  have e:b=it:=by simpa using hb
  subst e
  obtain ⟨o,e,c,d⟩:=st
  exact ⟨o,e,fun v z=>by rw [d] at z;cases z⟩
 keep:=fun i h h' st k=>let ⟨o,ho,r⟩:=st;⟨o,k it (by simp) o ho,r⟩
 item:=by
  intro X hP hw hK hc i pins s σ H E I hf st hg
  subst hP hw hK
  obtain ⟨f0,f1,f2,f3,f4,f5⟩:=hf it (by simp)
  have W:Walks X.prog X.w X.A it [it] [it] x.cps.size (SignAt x) (fun i h=>h.IsStrIter it ty x t i):=by
   rcases hty with e|e
   ·rw [e];exact Walks.strAscii (I.ok.hd hc) it x t
   ·rw [e];exact Walks.strWide (I.ok.hd hc) it x t
  have hno:["enumerate","zip","dict_itemiterator","dict_reverseitemiterator","odict_iterator","itertools.zip_longest","itertools.pairwise"].contains ty=false:=by
   rcases hty with e|e
   ·rw [e];decide
   ·rw [e];decide
  refine W.item i s _ _ hg st fun v h' tk hv st' kk=>?_
  obtain ⟨c,u,hcx,rfl⟩:=hv
  have I1:aO X pins σ H {s with heap:=h',toks:=tk}:=I.turned (fun b o hb e=>kk b o (by simpa using hb) e) f0 f1 f3 f4 f5
  obtain ⟨oi,e,cc,dd⟩:=id st'
  exact ⟨_,rfl,yY (s:={s with heap:=h',toks:=tk}) e cc dd hno ⟨.str ⟨#[c]⟩,H,I1,⟨u,rfl⟩,⟨rfl,c,hcx,rfl⟩,st',fun b hb=>(hf b hb).1⟩⟩
 done:=by
  intro X hP hw hK hc i pins s σ H E I hf st hg
  subst hP hw hK
  obtain ⟨f0,f1,f2,f3,f4,f5⟩:=hf it (by simp)
  have hx:x.cps[i]?=none:=Array.getElem?_eq_none hg
  rcases hty with e|e
  ·rw [e] at st
   exact wpAny_pyNext_ascii_end (I.ok.hd hc) st hx fun h' eb=>⟨rfl,I.turned (t':=s.toks) (fun b o hb e=>eb b o hb e) f0 f1 f3 f4 f5⟩
  ·rw [e] at st
   exact wpAny_pyNext_wide_end (I.ok.hd hc) st hx fun h' eb=>⟨rfl,I.turned (t':=s.toks) (fun b o hb e=>eb b o hb e) f0 f1 f3 f4 f5⟩
 self:=fun A i s Q E st h=>by
  rcases hty with e|e
  ·rw [e] at st;exact wpAny_pyIter_striter_ascii st h
  ·rw [e] at st;exact wpAny_pyIter_striter_wide st h
def aCz (te:TE):TI:=fun σ H R=>te σ H fun v H1=>∃ x,v=.str x/\R (Its x) H1
theorem Zd {X:Cx} {tg e:Expr} {te:TE} (he:PE X e te):PI X tg e (aCz te):=by
 intro pins s σ H R I h
 refine cF (he pins s σ H _ I h) fun v s1 ⟨y,H1,I1,r1,x,ex,q⟩=>?_
 subst ex
 obtain ⟨t,rfl⟩:=r1
 cases ha:x.cps.all (· <128)
 ·exact wpAny_pyIter_wide ha (rH (tk:=s1.toks) I1 _ (Ez _ x t "str_iterator" (.inr rfl)) ⟨_,Heap.get?_push_size _ rfl,rfl,rfl⟩ q)
 ·exact wpAny_pyIter_ascii ha (rH (tk:=s1.toks) I1 _ (Ez _ x t "str_ascii_iterator" (.inl rfl)) ⟨_,Heap.get?_push_size _ rfl,rfl,rfl⟩ q)
section
variable {prog:Program} {w:World} {A:Around} {E:Value->Shared->Prop} {s:Shared}
theorem sL {d:Addr} {o:Obj} {es:Array DictEntry} {ep:Nat} {Q:Value->Shared->Prop} (hd:(d==sysModules)=false) (ho:s.heap.get? d=some o) (hc:o.ExactDict) (hdat:o.data=.dict es ep)
  (hQ:Q (.ref s.heap.objs.size) {s with heap:=s.heap.push {cls:=.type "dict_keyiterator",data:=.fields #[.ref d,.int 0 0,.int es.size 0,.int ep 0]}}):
  wpAny (model prog w) A (pyIter (.ref d)) Q E s:=by
 have hT:s.TypeIs (.ref d) "dict":=⟨o,ho,hc.1⟩
 refine wpAny_pyIter_slot hT F.slot_dict_iter (wpAny_call_entry F.slot_dict_iter hT F.entry_dict_iter ?_ (F.args_dict_iter_1 _))
 unfold Builtin.«dict.__iter__»
 refine wpAny_bind ?_
 unfold Builtin.Dict.dictSlotNone
 refine wpAny_bind (wpAny_notOrdered_dict hT ?_)
 show wpAny _ _ (pure (Value.ref d)) _ _ s
 refine wpAny_pure ?_
 show wpAny _ _ (Builtin.Dict.showsAll d>>=_) _ _ s
 unfold Builtin.Dict.showsAll
 rw [if_neg (by rw [hd];exact Bool.false_ne_true)]
 refine wpAny_bind (wpAny_pure ?_)
 refine wpAny_bind (wpAny_dictEntries ho hdat ?_)
 refine wpAny_bind (wpAny_dictEpoch ho hdat ?_)
 refine wpAny_bind (wpAny_newObj_type (wpAny_pure ⟨_,rfl,"dict_keyiterator",_,⟨_,Heap.get?_push_size _ rfl,rfl⟩,F.slot_dict_keyiterator_next.lookup,?_⟩))
 simpa [rawInt] using hQ
theorem oF {it d:Addr} {i n ep:Nat} {od:Obj} {es:Array DictEntry} {en:DictEntry} {Q:Option Value->Shared->Prop} (hit:s.heap.IsKeyIter it d i n ep) (hod:s.heap.get? d=some od) (hdd:od.data=.dict es ep)
  (hsz:es.size=n) (hx:es[i]?=some en) (hQ:∀ h',h'.IsKeyIter it d (i+1) n ep->Heap.SameBut it s.heap h'->Q (some en.key) {s with heap:=h'}):wpAny (model prog w) A (pyNext (.ref it)) Q E s:=by
 obtain ⟨o,ho,hc,hd⟩:=id hit
 unfold pyNext
 refine wpAny_bind (wpAny_attempt (wpAny_callSpecial?_slot (name:=Str.ofString "__next__") hit.typeIs F.slot_dict_keyiterator_next
  (wpAny_call_entry F.slot_dict_keyiterator_next hit.typeIs F.entry_dict_keyiterator_next ?_ (F.args_dict_keyiterator_next_1 _))))
 refine wpAny_bind (wpAny_pure ?_)
 refine wpAny_bind ?_
 refine wpAny_bind ?_
 first|refine wpAny_bind (wpAny_typeNameOfWhole_keyiter hit.typeIs (wpAny_pure ?_))|refine wpAny_bind (wpAny_typeNameOf_keyiter hit.typeIs (wpAny_pure ?_))
 refine wpAny_bind (wpAny_fieldsOf ho hd ?_)
 have hown:Builtin.Dict_items.ownsTuple "dict_keyiterator"=false:=by decide
 simp only [hown,Bool.false_eq_true,if_false]
 show wpAny _ _ (if (Value.ref d==Value.none)=true then _ else _) _ _ s
 rw [if_neg (show ¬((Value.ref d==Value.none)=true) from Bool.false_ne_true)]
 refine wpAny_bind (wpAny_pure ?_)
 refine wpAny_bind (wpAny_dictEntries hod hdd ?_)
 rw [if_neg (by rw [hsz];simp)]
 refine wpAny_bind (wpAny_pure ?_)
 refine wpAny_bind (wpAny_dictEpoch hod hdd ?_)
 rw [if_neg (by simp)]
 refine wpAny_pure ?_
 obtain ⟨hlt',hen⟩:=Array.getElem?_eq_some_iff.mp hx
 simp only [show ¬((i:Int)<0) from by omega,if_false,Int.toNat_natCast,Array.getElem?_eq_getElem hlt']
 refine wpAny_bind ?_
 first|refine wpAny_bind (wpAny_typeNameOfWhole_keyiter hit.typeIs (wpAny_pure ?_))|refine wpAny_bind (wpAny_typeNameOf_keyiter hit.typeIs (wpAny_pure ?_))
 refine wpAny_bind (wpAny_isOneOf_keyiter hit.typeIs ?_)
 show wpAny _ _ (setField (.ref it) 1 (rawInt ((i:Int)+1))>>=_) _ _ s
 refine wpAny_bind (wpAny_setField ho hd (by simp) ?_)
 have hit':(s.heap.update it (Obj.mapFields (·.setIfInBounds 1 (rawInt ((i:Int)+1))))).IsKeyIter it d (i+1) n ep:=
  ⟨_,Heap.get?_update_self _ ho (Obj.isFreed_of_fields (Obj.data_mapFields hd _)),(Obj.cls_mapFields ..).trans hc,by rw [Obj.data_mapFields hd];simp [rawInt]⟩
 refine wpAny_bind (wpAny_holding ?_)
 refine wpAny_bind (wpAny_isOneOf_keyiter (s:={s with heap:=s.heap.update it (Obj.mapFields (·.setIfInBounds 1 (rawInt ((i:Int)+1))))}) hit'.typeIs ?_)
 show wpAny _ _ (pure es[i].key) _ _ _
 rw [hen]
 exact wpAny_pure (wpAny_pure ⟨_,rfl,wpAny_pure (hQ _ hit' (Heap.SameBut.update ..))⟩)
theorem kZ {it d:Addr} {i n ep:Nat} {od:Obj} {es:Array DictEntry} {Q:Option Value->Shared->Prop} (hh:A.handled=none) (hit:s.heap.IsKeyIter it d i n ep) (hod:s.heap.get? d=some od) (hdd:od.data=.dict es ep)
  (hsz:es.size=n) (hge:n<=i) (hQ:∀ h',Heap.ExtBut it s.heap h'->Q none {s with heap:=h'}):wpAny (model prog w) A (pyNext (.ref it)) Q E s:=by
 obtain ⟨o,ho,hc,hd⟩:=id hit
 unfold pyNext
 refine wpAny_bind (wpAny_attempt (wpAny_callSpecial?_slot (name:=Str.ofString "__next__") hit.typeIs F.slot_dict_keyiterator_next
  (wpAny_call_entry F.slot_dict_keyiterator_next hit.typeIs F.entry_dict_keyiterator_next ?_ (F.args_dict_keyiterator_next_1 _))))
 refine wpAny_bind (wpAny_pure ?_)
 refine wpAny_bind ?_
 refine wpAny_bind ?_
 first|refine wpAny_bind (wpAny_typeNameOfWhole_keyiter hit.typeIs (wpAny_pure ?_))|refine wpAny_bind (wpAny_typeNameOf_keyiter hit.typeIs (wpAny_pure ?_))
 refine wpAny_bind (wpAny_fieldsOf ho hd ?_)
 have hown:Builtin.Dict_items.ownsTuple "dict_keyiterator"=false:=by decide
 simp only [hown,Bool.false_eq_true,if_false]
 show wpAny _ _ (if (Value.ref d==Value.none)=true then _ else _) _ _ s
 rw [if_neg (show ¬((Value.ref d==Value.none)=true) from Bool.false_ne_true)]
 refine wpAny_bind (wpAny_pure ?_)
 refine wpAny_bind (wpAny_dictEntries hod hdd ?_)
 rw [if_neg (by rw [hsz];simp)]
 refine wpAny_bind (wpAny_pure ?_)
 refine wpAny_bind (wpAny_dictEpoch hod hdd ?_)
 rw [if_neg (by simp)]
 refine wpAny_pure ?_
 have hge':es.size<=i:=by rw [hsz];exact hge
 simp only [show ¬((i:Int)<0) from by omega,if_false,Int.toNat_natCast,Array.getElem?_eq_none hge']
 refine wpAny_bind ?_
 first|refine wpAny_bind (wpAny_typeNameOfWhole_keyiter hit.typeIs (wpAny_pure ?_))|refine wpAny_bind (wpAny_typeNameOf_keyiter hit.typeIs (wpAny_pure ?_))
 show wpAny _ _ (setField (.ref it) 0 .none>>=_) _ _ s
 refine wpAny_bind (wpAny_setField ho hd (by simp) ?_)
 show wpAny _ _ (newExc (.type "StopIteration") []>>=_) _ _ _
 refine wpAny_bind ?_
 simp only [newExc,newTuple]
 refine wpAny_bind (wpAny_newObj_type ?_ (by size_fits))
 refine wpAny_bind (m:=firstArgMember _ _) (wpAny_of_eq (a:=Value.none) (by first|rfl|(simp only [firstArgMember];rfl)) ?_)
 refine wpAny_newObj_type ?_ (by size_fits)
 simp only [raiseNew]
 refine wpAny_bind (wpAny_handled ?_)
 rw [show A.in1.handled=none from hh]
 refine wpAny_bind (wpAny_pure (wpAny_throw ?_))
 refine wpAny_bind (wpAny_isInstance (T:="StopIteration") (b:=true) ⟨_,Heap.get?_push_size _ rfl,rfl⟩ isSubtype_stop ?_)
 exact wpAny_pure (hQ _ (((Heap.SameBut.update ..).extBut.push _).push _))
end
theorem Xm {κ:Type} {aI:List (κ×V)} {vs:List (κ×Value)} (h:KV aI vs):∀ {i:Nat} {k:κ} {v:V},aI[i]?=some (k,v)->∃ u,vs[i]?=some (k,u)/\bQ v u:=by
 unfold KV at h
 induction h with
 |nil=>intro i k v e;simp at e
 | @cons a b l₁ l₂ r t ih=>
  intro i k v e
  cases i with
  |zero=>
   simp only [List.getElem?_cons_zero,Option.some.injEq] at e
   subst e
   refine ⟨b.2,?_,r.2⟩
   simp only [List.getElem?_cons_zero]
   exact congrArg some (Prod.ext r.1.symm rfl)
  |succ j=>
   simp only [List.getElem?_cons_succ] at e ⊢
   exact ih e
theorem oW {α β:Type} {G:α->β->Prop} {l₁:List α} {l₂:List β} (h:Paired G l₁ l₂):∀ {i:Nat} {a:α},l₁[i]?=some a->∃ b,l₂[i]?=some b/\G a b:=by
 induction h with
 |nil=>intro i a e;simp at e
 | @cons a b l₁ l₂ r t ih=>
  intro i a' e
  cases i with
  |zero=>
   simp only [List.getElem?_cons_zero,Option.some.injEq] at e
   subst e
   exact ⟨b,rfl,r⟩
  |succ j=>
   simp only [List.getElem?_cons_succ] at e ⊢
   exact ih e
theorem Rm {k:dR} {u:Value} (h:sO k u=true):bQ (kV k) u:=by
 rcases dF h with ⟨i,t,rfl,rfl⟩|⟨x,t,rfl,rfl⟩
 ·exact ⟨t,rfl⟩
 ·exact ⟨t,rfl⟩
section
variable {X:Cx} {pins:List (Addr×Obj)} {σ:St} {H:Hp} {s:Shared} {d:Addr} {o:Obj}
theorem aO.frzK {aI:List (dR×V)} (I:aO X pins σ H s) (h:H d=some (.frz o (.dK aI))):
  (d==sysModules)=false/\s.heap.get? d=some o/\o.ExactDict/\∃ (es:Array DictEntry) (ep:Nat) (vs:List (dR×Value)),o.data=.dict es ep/\es.size=aI.length/\KV aI vs/\s.heap.DictAt (dU X.prog X.w) d vs ep:=by
 obtain ⟨hd,z,hs,vs,kv,o',es,ep,ho,hx,hdt,r⟩:=I.hok d _ h
 rw [hd] at ho
 cases ho
 refine ⟨hs,hd,hx,es,ep,vs,hdt,?_,kv,o,es,hd,hx,hdt,r⟩
 have l1:=r.2.1.length
 have l2:aI.length=vs.length:=Paired.length kv
 rw [Array.length_toList] at l1
 omega
theorem aO.frzT {aI:List (List dR×V)} (I:aO X pins σ H s) (h:H d=some (.frz o (.dT aI))):
  (d==sysModules)=false/\s.heap.get? d=some o/\o.ExactDict/\∃ (es:Array DictEntry) (ep:Nat),o.data=.dict es ep/\es.size=aI.length/\
   ∀ (i:Nat) (k:List dR) (v:V),aI[i]?=some (k,v)->∃ (en:DictEntry) (q:Addr),es[i]?=some en/\en.key=.ref q/\H q=some (.tup (k.map kV)):=by
 obtain ⟨hd,z,hs,xs,pr,o',es,ep,ho,hx,hdt,he,_⟩:=I.hok d _ h
 rw [hd] at ho
 cases ho
 refine ⟨hs,hd,hx,es,ep,hdt,?_,fun i k v e=>?_⟩
 ·have l1:es.size=xs.length:=size_of_entries he
  have l2:aI.length=xs.length:=Paired.length pr
  omega
 ·obtain ⟨b,hb,e1,e2,_⟩:=oW pr e
  have q:=entry_at he i
  rw [hb] at q
  exact ⟨_,b.2.1,q,rfl,e2⟩
end
def Itk (d:Addr) (o:Obj) (aI:List (dR×V)):It:=
 ⟨fun i H=>H d=some (.frz o (.dK aI))/\i<aI.length,fun i H x H'=>H'=H/\∃ k v,aI[i]?=some (k,v)/\x=kV k,fun i H=>H d=some (.frz o (.dK aI))/\aI.length<=i⟩
def El (d:Addr) (o:Obj) (aI:List (List dR×V)):It:=
 ⟨fun i H=>H d=some (.frz o (.dT aI))/\i<aI.length,fun i H x H'=>H'=H/\∃ (k:List dR) (v:V) (q:Addr),aI[i]?=some (k,v)/\x=.ref q/\H q=some (.tup (k.map kV)),fun i H=>H d=some (.frz o (.dT aI))/\aI.length<=i⟩
theorem nN {o:Obj} {es es':Array DictEntry} {ep ep':Nat} (h:o.data=.dict es ep) (h':o.data=.dict es' ep'):es'=es/\ep'=ep:=by
 rw [h] at h'
 cases h'
 exact ⟨rfl,rfl⟩
section
variable {P:Program} {w:World} {K:PySem.W.Frag} {tg:Expr} {d:Addr} {o:Obj} {es:Array DictEntry} {ep:Nat}
theorem Lr {aI:List (dR×V)} (it:Addr) (hod:o.data=.dict es ep):uR P w K tg (Itk d o aI) [it] it (fun i h=>h.IsKeyIter it d i aI.length ep) where
 mem:=by simp
 obj:=fun i h st b hb=>by
  have e:b=it:=by simpa using hb
  subst e
  obtain ⟨oi,e,c,dd⟩:=st
  exact ⟨oi,e,fun v z=>by rw [dd] at z;cases z⟩
 keep:=fun i h h' st k=>st.at fun oi e=>k it (by simp) oi e
 item:=by
  intro X hP hw hK hc i pins s σ H E I hf st hg
  subst hP hw hK
  obtain ⟨hd,hi⟩:=hg
  obtain ⟨f0,f1,f2,f3,f4,f5⟩:=hf it (by simp)
  obtain ⟨hs,hgd,hx,es',ep',vs,hdt,hsz,kv,hm⟩:=I.frzK hd
  obtain ⟨rfl,rfl⟩:=nN hod hdt
  obtain ⟨⟨k,v⟩,hkv⟩:∃ p,aI[i]?=some p:=⟨aI[i],List.getElem?_eq_getElem hi⟩
  obtain ⟨u,hu,ru⟩:=Xm kv hkv
  have hl:aI.length=vs.length:=Paired.length kv
  rw [hl] at st
  refine wpAny_pyNext_dict_item st hm hu fun key h' hkey st' sb=>?_
  have I1:aO X pins σ H {s with heap:=h'}:=I.turned (t':=s.toks) (fun b ob hb e=>(sb.2 b hb).trans e) f0 f1 f3 f4 f5
  obtain ⟨oi,e,c,dd⟩:=id st'
  refine ⟨key,rfl,yY (s:={s with heap:=h'}) e c dd (by decide) ⟨kV k,H,I1,Rm (show sO k key=true from hkey),⟨rfl,k,v,hkv,rfl⟩,?_,fun b hb=>(hf b hb).1⟩⟩
  show h'.IsKeyIter it d (i+1) aI.length _
  rw [hl]
  exact st'
 done:=by
  intro X hP hw hK hc i pins s σ H E I hf st hg
  subst hP hw hK
  obtain ⟨hd,hi⟩:=hg
  obtain ⟨f0,f1,f2,f3,f4,f5⟩:=hf it (by simp)
  obtain ⟨hs,hgd,hx,es',ep',vs,hdt,hsz,kv,hm⟩:=I.frzK hd
  obtain ⟨rfl,rfl⟩:=nN hod hdt
  exact kZ (I.ok.hd hc) st hgd hdt hsz hi fun h' eb=>⟨rfl,I.turned (t':=s.toks) (fun b ob hb e=>eb b ob hb e) f0 f1 f3 f4 f5⟩
 self:=fun A i s Q E st h=>wpAny_pyIter_keyiter st h
theorem Gu {aI:List (List dR×V)} (it:Addr) (hod:o.data=.dict es ep):uR P w K tg (El d o aI) [it] it (fun i h=>h.IsKeyIter it d i aI.length ep) where
 mem:=by simp
 obj:=fun i h st b hb=>by
  have e:b=it:=by simpa using hb
  subst e
  obtain ⟨oi,e,c,dd⟩:=st
  exact ⟨oi,e,fun v z=>by rw [dd] at z;cases z⟩
 keep:=fun i h h' st k=>st.at fun oi e=>k it (by simp) oi e
 item:=by
  intro X hP hw hK hc i pins s σ H E I hf st hg
  subst hP hw hK
  obtain ⟨hd,hi⟩:=hg
  obtain ⟨f0,f1,f2,f3,f4,f5⟩:=hf it (by simp)
  obtain ⟨hs,hgd,hx,es',ep',hdt,hsz,ent⟩:=I.frzT hd
  obtain ⟨rfl,rfl⟩:=nN hod hdt
  obtain ⟨⟨k,v⟩,hkv⟩:∃ p,aI[i]?=some p:=⟨aI[i],List.getElem?_eq_getElem hi⟩
  obtain ⟨en,q,hen,hkey,hq⟩:=ent i k v hkv
  refine oF st hgd hdt hsz hen fun h' st' sb=>?_
  have I1:aO X pins σ H {s with heap:=h'}:=I.turned (t':=s.toks) (fun b ob hb e=>(sb.2 b hb).trans e) f0 f1 f3 f4 f5
  obtain ⟨oi,e,c,dd⟩:=id st'
  exact ⟨en.key,rfl,yY (s:={s with heap:=h'}) e c dd (by decide) ⟨.ref q,H,I1,hkey,⟨rfl,k,v,q,hkv,rfl,hq⟩,st',fun b hb=>(hf b hb).1⟩⟩
 done:=by
  intro X hP hw hK hc i pins s σ H E I hf st hg
  subst hP hw hK
  obtain ⟨hd,hi⟩:=hg
  obtain ⟨f0,f1,f2,f3,f4,f5⟩:=hf it (by simp)
  obtain ⟨hs,hgd,hx,es',ep',hdt,hsz,ent⟩:=I.frzT hd
  obtain ⟨rfl,rfl⟩:=nN hod hdt
  exact kZ (I.ok.hd hc) st hgd hdt hsz hi fun h' eb=>⟨rfl,I.turned (t':=s.toks) (fun b ob hb e=>eb b ob hb e) f0 f1 f3 f4 f5⟩
 self:=fun A i s Q E st h=>by
  refine wpAny_pyIter_slot st.typeIs F.slot_dict_keyiterator_iter (wpAny_call_entry F.slot_dict_keyiterator_iter st.typeIs F.entry_dict_keyiterator_iter ?_ (F.args_dict_keyiterator_iter_1 _))
  show wpAny _ _ (ret (.ref it)) _ _ s
  exact wpAny_pure ⟨_,rfl,"dict_keyiterator",_,st.typeIs,F.slot_dict_keyiterator_next.lookup,h⟩
end
def aBu (td:TE):TI:=fun σ H R=>td σ H fun x H1=>∃ d o,x=.ref d/\((∃ aI,H1 d=some (.frz o (.dK aI))/\R (Itk d o aI) H1)\/∃ aI,H1 d=some (.frz o (.dT aI))/\R (El d o aI) H1)
section
variable {X:Cx} {tg e:Expr} {td:TE} {apos cpos:Pos}
theorem zX (he:PE X e td):PI X tg e (aBu td):=by
 intro pins s σ H R I h
 refine cF (he pins s σ H _ I h) fun u s1 ⟨x,H1,I1,rx,d,o,ex,q⟩=>?_
 subst ex
 obtain rfl:u=Value.ref d:=rx
 rcases q with ⟨aI,hd,q⟩|⟨aI,hd,q⟩
 ·obtain ⟨hs,hgd,hx,es,ep,vs,hdt,hsz,kv,hm⟩:=I1.frzK hd
  refine sL hs hgd hx hdt (rH (tk:=s1.toks) I1 _ (Lr _ hdt) ⟨_,Heap.get?_push_size _ rfl,rfl,?_⟩ q)
  rw [hsz]<;>rfl
 ·obtain ⟨hs,hgd,hx,es,ep,hdt,hsz,ent⟩:=I1.frzT hd
  refine sL hs hgd hx hdt (rH (tk:=s1.toks) I1 _ (Gu _ hdt) ⟨_,Heap.get?_push_size _ rfl,rfl,?_⟩ q)
  rw [hsz]<;>rfl
end
def Ite (K:PySem.W.Frag) (a:Addr):It:=
 ⟨fun i H=>∃ (xs:List V) (x:V),dB K H a xs/\xs[i]?=some x,fun i H v H'=>∃ T x,v=.ref T/\H T=none/\H'=upd H T (.tup [.int (i:Nat),x])/\∀ xs,dB K H a xs->xs[i]?=some x,fun i H=>∃ xs:List V,dB K H a xs/\xs.length<=i⟩
theorem Ly {P:Program} {w:World} {K:PySem.W.Frag} {elts:List Expr} {kk:Nat} {tpos:Pos} (a e it:Addr):
  uR P w K (.Tuple elts kk tpos) (Ite K a) [e,it] e (fun i h=>(∃ old,IsEnum h e it ((i:Nat):Int) old)/\h.IsListIter it a i/\e≠it) where
 mem:=by simp
 obj:=fun i h st b hb=>by
  obtain ⟨⟨old,he⟩,⟨o,ho,hc,hd⟩,_⟩:=st
  have e':b=e\/b=it:=by simpa using hb
  rcases e' with z|z
  ·rw [z];exact ⟨_,he,fun v q=>nomatch q⟩
  ·rw [z];exact ⟨o,ho,fun v q=>by rw [hd] at q;cases q⟩
 keep:=fun i h h' st k=>let ⟨⟨old,he⟩,hi,hne⟩:=st;⟨⟨old,k e (by simp) _ he⟩,hi.at fun o q=>k it (by simp) o q,hne⟩
 item:=by
  intro X hP hw hK hc i pins s σ H E I hf st hg
  subst hP hw hK
  obtain ⟨⟨old,he⟩,hit,hne⟩:=st
  obtain ⟨xs,x,hq,hx⟩:=hg
  obtain ⟨its,rv,p,hz⟩:=I.list hq
  obtain ⟨u,hu,ru⟩:=rv.get hx
  have hel:e<s.heap.objs.size:=Heap.lt_size he
  have hil:it<s.heap.objs.size:=by obtain ⟨_,q,_⟩:=hit;exact Heap.lt_size q
  refine wpAny_pyNext_enum_item he hit p.isList (x:=u) (by simpa using hu) hne fun h' ho hit' hT hsz hk=>?_
  refine ⟨_,rfl,wpAny_letOwnedTupleGo_enum (s:={s with heap:=h',toks:=s.toks+1}) ho fun h'' he' sb=>?_⟩
  have hT2:h''.get? s.heap.objs.size=some {cls:=.type "tuple",data:=.seq #[.int i s.toks,u]}:=(sb.2 _ (Nat.ne_of_gt hel)).trans hT
  have new:cE X.prog X.w (upd H s.heap.objs.size (.tup [.int (i:Nat),x])) h'' s.heap.objs.size (.tup [.int (i:Nat),x]):=
   ⟨by show 2<=sizeLine;decide,[.int i s.toks,u],.cons ⟨_,rfl⟩ (.cons ru .nil),⟨_,hT2,rfl,_,rfl⟩⟩
  have I1:aO X pins σ (upd H s.heap.objs.size (.tup [.int (i:Nat),x])) {s with heap:=h'',toks:=s.toks+1}:=
   I.turnedNew (ch:=[e,it]) (fun b ob hb q=>(sb.2 b (fun z=>hb (by simp [z]))).trans (hk b ob (fun z=>hb (by simp [z])) (fun z=>hb (by simp [z])) q)) hf (Nat.le_refl _) new
  refine ⟨.ref s.heap.objs.size,_,I1,rfl,⟨_,x,rfl,I.hok.fresh (Nat.le_refl _),rfl,fun ys hy=>by rw [I.list_inj hy hq];exact hx⟩,⟨⟨u,?_⟩,hit'.at fun o q=>(sb.2 it (Ne.symm hne)).trans q,hne⟩,fun b hb=>?_⟩
  ·have e1:((i+1:Nat):Int)=(i:Int)+1:=by omega
   rw [e1];exact he'
  ·have hb':b<s.heap.objs.size:=by
    have e':b=e\/b=it:=by simpa using hb
    rcases e' with z|z
    ·rw [z];exact hel
    ·rw [z];exact hil
   rw [aB (Nat.ne_of_lt hb')]
   exact (hf b hb).1
 done:=by
  intro X hP hw hK hc i pins s σ H E I hf st hg
  subst hP hw hK
  obtain ⟨⟨old,he⟩,hit,hne⟩:=st
  obtain ⟨xs,hq,hx⟩:=hg
  obtain ⟨its,rv,p,hz⟩:=I.list hq
  obtain ⟨f0,f1,f2,f3,f4,f5⟩:=hf it (by simp)
  have hl:=rv.length
  exact wpAny_pyNext_enum_end (I.ok.hd hc) he hit p.isList (by simp;omega) fun h' eb=>⟨rfl,I.turned (t':=s.toks) (fun b o hb q=>eb b o hb q) f0 f1 f3 f4 f5⟩
 self:=fun A i s Q E st h=>let ⟨⟨_,he⟩,_⟩:=st;wpAny_pyIter_enum he h
def aAn (K:PySem.W.Frag) (ta:TA):TI:=fun σ H R=>ta σ H fun vs H1=>∃ a xs,vs=[.ref a]/\dB K H1 a xs/\R (Ite K a) H1
theorem Ut {X:Cx} {e:Expr} {ta:TA} {p pos tpos:Pos} {elts:List Expr} {kk:Nat} (hg:Gl X "enumerate") (hm:X.mg "enumerate"=none) (ha:PA X [e] ta) (hs:starEach [e] X.env=[(false,eval e X.env)]:=by rfl):
  PI X (.Tuple elts kk tpos) (.Call (.Name "enumerate" p) [e] [] pos) (aAn X.K ta):=by
 intro pins s σ H R I h
 refine Call_ (rY I hg hm boot_enumerate (PyProof.Rows.callWith_type1 (cF (ha pos pins s σ H _ I h) fun us s1 ⟨vs,H1,I1,r1,q1⟩=>?_) hs rfl))
 obtain ⟨a,xs,ex,hq,q⟩:=q1
 subst ex
 cases r1 with
 |cons r rr=>
  cases rr
  cases r
  obtain ⟨its,rv,p',hz⟩:=I1.list hq
  refine call_enumerate_list p'.isList fun h' he hit hsz hk=>wpAny_pyIter_enum he ?_
  have I2:aO X pins σ H1 {s1 with heap:=h'}:=I1.kept (t':=s1.toks) hk
  refine ⟨s1.heap.objs.size+1,[s1.heap.objs.size+1,s1.heap.objs.size],_,_,H1,rfl,I2,Ly a (s1.heap.objs.size+1) s1.heap.objs.size,⟨⟨.none,he⟩,hit,Nat.succ_ne_self _⟩,fun b hb=>?_,q⟩
  have e':b=s1.heap.objs.size+1\/b=s1.heap.objs.size:=by simpa using hb
  have hle:s1.heap.objs.size<=b:=by
   rcases e' with z|z
   ·rw [z];exact Nat.le_add_right _ _
   ·rw [z];exact Nat.le_refl _
  exact I1.fpOk hle (I1.hok.fresh hle)
end L2
section
namespace Bits
open PySem PyProof.Rows
end Bits
end
section
namespace TL
open PySem PySem.Builtin PySem.Builtin.Str PySem.StrLaws
end TL
end
namespace L2
open PySem PySem.Spec PyProof.Rows
section
variable {X:Cx} {pins:List (Addr×Obj)} {σ:St} {H:Hp} {s:Shared} {Q:VK}
end
section
variable {X:Cx}
end
section
variable {X:Cx} {o e:Expr} {to te:TE}
end
section
variable {X:Cx}
end
end L2
namespace Att
open PySem PySem.W PySem.Calls PyProof.Rows
section
variable {prog:Program} {w:World} {A:Around} {E:Value->Shared->Prop} {s:Shared} {K:Frag}
end
end Att
namespace L2
open PySem PySem.Spec PyProof.Rows
abbrev bS:Fp:=fun _ _ _ _ _ _=>False
abbrev E0:XK:=fun _ _ _=>False
theorem aY {X:Cx}:iO bS X E0:=fun _ _ _ _ _ _ _ h=>h.elim
structure fD (K:PySem.W.Frag) (x qual:Str) (st:Stmt) (f:Addr) (fd:FuncData):Prop where
 ex:∃ (oc:Value) (od:Option Addr) (kV doc pm:Value) (an:Option Addr) (cdv ct:Value) (osl:Array (Option Value)),
  fd=PySem.W.fnOf x qual (eN st) (dO st) (aH st) .none kV doc pm an cdv ct/\K.lookup f=some ⟨oc,od,.func fd,osl⟩/\PySem.W.codeIn K cdv qual=true
 kp:PySem.W.keepIn K (.ref f)=true
section
variable {P:Program} {w:World} {K:PySem.W.Frag} {mg:Str->Option Value} {base:Heap}
theorem fD.ok {x qual:Str} {st:Stmt} {f:Addr} {fd:FuncData} {N ps:List Str} {k:Nat} {sp:Sp} (F:fD K x qual st f fd) (S:aP N ps (aH st)) (len:∀ vs H Q E,sp vs H Q E->vs.length=ps.length)
  (hbody:∀ (cdv:Value) (A:Around) (outer:List Env) (s:Shared) (H:Hp) (vs:List V) (Q:VK) (E:XK),fU k (A.deeper (envOfC qual (aH st) s.heap.objs.size f cdv))->sp vs H Q E->
   ∃ t,zF (Bl bS P w K mg base N qual (aH st) f cdv A outer s H E).nox (dO st) t/\t {nx:=fun _ H'=>Q .non H',rt:=Q} (lR N vs) H):bO P w K mg base bS (k+1) f fd ps sp:=by
 obtain ⟨oc,od,kV,doc,pm,an,cdv,ct,osl,rfl,lk,hcd⟩:=F.ex
 refine Wl lk hcd S len fun A outer s H vs Q E hr hsp=>?_
 obtain ⟨t,h,q⟩:=hbody cdv A outer s H vs Q E hr hsp
 exact ⟨t,h.nox,q⟩
theorem fD.binds {x qual:Str} {st:Stmt} {f:Addr} {fd:FuncData} {ps:List Str} (F:fD K x qual st f fd)
  (h:∀ (kV doc pm:Value) (an:Option Addr) (cdv ct:Value) (us:List Value),us.length=ps.length->bindArgs (PySem.W.fnOf x qual (eN st) (dO st) (aH st) .none kV doc pm an cdv ct) ⟨us,[]⟩=pure (ps.zip us)):eV K fd ps []:=by
 obtain ⟨oc,od,kV,doc,pm,an,cdv,ct,osl,rfl,lk,hcd⟩:=F.ex
 exact .all (h kV doc pm an cdv ct)
theorem rC {x qual:Str} {st:Stmt} {f:Addr} {oc:Value} {od an:Option Addr} {osl:Array (Option Value)} {kV doc pm cdv ct:Value} (l:K.lookup f=some ⟨oc,od,.func (PySem.W.fnOf x qual (eN st) (dO st) (aH st) .none kV doc pm an cdv ct),osl⟩)
  (c:PySem.W.codeIn K cdv qual=true) (k:PySem.W.keepIn K (.ref f)=true):fD K x qual st f (PySem.W.fnOf x qual (eN st) (dO st) (aH st) .none kV doc pm an cdv ct):=⟨⟨oc,od,kV,doc,pm,an,cdv,ct,osl,rfl,l,c⟩,k⟩
end
theorem jW {A:Around} {k:Nat} (hr:fU k A):A.units+1<cLine:=Nat.lt_of_le_of_lt (Nat.add_le_add_left (by decide:1<=64) _) hr.units
section
variable {X:Cx}
theorem pv (i:Nat) {x:Str} {pos:Pos} (hN:X.N[i]?=some x:=by rfl) (hv:Vis X.env.scope x:=by first|exact Or.inl rfl|exact Or.inr (Or.inl rfl)|exact Or.inr (Or.inr rfl)) (hd:(x==("__debug__":Str))=false:=by decide)
  (hcd:(x==("__classdict__":Str))=false:=by decide):PE X (.Name x pos) (eO i):=Yn hN hv hd hcd
end
theorem pX {A B:Prop} (h:B):if false=true then A else B:=by
 rw [if_neg Bool.false_ne_true]
 exact h
theorem Qj {A B:Prop} (h:A):if true=true then A else B:=by
 rw [if_pos rfl]
 exact h
theorem bX {c A B:Prop} [Decidable c] (h1:c->A) (h2:¬c->B):if c then A else B:=by
 by_cases h:c
 ·rw [if_pos h]
  exact h1 h
 ·rw [if_neg h]
  exact h2 h
def aK (H H':Hp):Prop:=∀ b o,H b=some o->H' b=some o
theorem aK.trans {H H1 H2:Hp} (a:aK H H1) (b:aK H1 H2):aK H H2:=fun c o h=>b c o (a c o h)
theorem aK.free {H H':Hp} (e:aK H H') {l:Addr} (h:H' l=Option.none):H l=Option.none:=by
 cases q:H l with
 |none=>rfl
 |some o=>
  rw [e l o q] at h
  cases h
theorem aK.seq {K:PySem.W.Frag} {H H':Hp} {a:Addr} {xs:List V} (e:aK H H') (h:dB K H a xs):dB K H' a xs:=by
 rcases h with (h|⟨o,h⟩)|h
 ·exact .inl (.inl (e _ _ h))
 ·exact .inl (.inr ⟨o,e _ _ h⟩)
 ·exact .inr h
section
variable {κ:Type} [DecidableEq κ]
end
end L2
section
namespace L2
open PySem PySem.Spec PyProof.Rows
open PySem.W (WData Codec OpenSpec Well WellAll ReadsW ReadsAllW)
mutual
inductive Dw (K:PySem.W.Frag) (H:Hp):V->WData->Prop
 |non:Dw K H .non .none
 |bl (b:Bool):Dw K H (.bl b) (.bool b)
 |int (i:Int):Dw K H (.int i) (.int i)
 |str (x:Str):Dw K H (.str x) (.str x)
 |byt (b:Array UInt8):Dw K H (.byt b) (.bytes b.toList)
 |lst {a:Addr} {xs:List V} {ds:List WData}:dB K H a xs->mD K H xs ds->Dw K H (.ref a) (.list ds)
 |tup {a:Addr} {xs:List V} {ds:List WData}:cN K H a xs->mD K H xs ds->Dw K H (.ref a) (.tuple ds)
inductive mD (K:PySem.W.Frag) (H:Hp):List V->List WData->Prop
 |nil:mD K H [] []
 |cons {v:V} {vs:List V} {d:WData} {ds:List WData}:Dw K H v d->mD K H vs ds->mD K H (v::vs) (d::ds)
end
theorem Jm {K:PySem.W.Frag} {H:Hp}:∀ ns:List Int,mD K H (ns.map V.int) (ns.map WData.int)
 |[]=>.nil
 |n::r=>.cons (.int n) (Jm r)
theorem Ay {K:PySem.W.Frag} {H:Hp}:∀ (ns:List Int) (xs:List V),mD K H xs (ns.map WData.int)->xs=ns.map V.int
 |[],xs,h=>by
  cases h
  rfl
 |n::r,xs,h=>by
  cases h with
  |cons h1 h2=>
   cases h1
   rw [Ay r _ h2]<;>rfl
section
variable {P:Program} {w:World} {K:PySem.W.Frag} {H:Hp} {h:Heap} {R:PySem.W.WRecords} {cl:Str->Option Addr}
theorem Ze {a:Addr} {xs:List V} (hok:kK P w H h) (KX:K.In h) (q:dB K H a xs):∃ (its:List Value) (o:Obj) (n:Nat),aZ xs its/\h.get? a=some o/\o.cls=.type "list"/\o.data=.seq its.toArray n:=by
 rcases q with q|⟨o,its,n,e,hc,_,hd,_,hv⟩
 ·obtain ⟨_,its,n,hv,e⟩:=(show cE P w H h a (.lst xs) from q.ok hok)
  exact ⟨its,_,n,hv,e,rfl,rfl⟩
 ·exact ⟨its.toList,o,n,hv,KX _ _ e,hc,by simp [hd]⟩
theorem Zq {a:Addr} {xs:List V} (hok:kK P w H h) (KX:K.In h) (q:cN K H a xs):∃ (its:List Value) (o:Obj) (n:Nat),aZ xs its/\h.get? a=some o/\o.cls=.type "tuple"/\o.data=.seq its.toArray n:=by
 rcases q with q|⟨o,its,n,e,hc,hd,_,hv⟩
 ·obtain ⟨_,its,hv,o,e,hc,n,hd⟩:=(show cE P w H h a (.tup xs) from q.ok hok)
  exact ⟨its,o,n,hv,e,hc,hd⟩
 ·exact ⟨its.toList,o,n,hv,KX _ _ e,hc,by simp [hd]⟩
mutual
theorem Dw.reads (hok:kK P w H h) (KX:K.In h):∀ (d:WData) (v:V) (u:Value),Dw K H v d->bQ v u->∃ as,ReadsW R cl h u d as
 |.none,_,_,x,r=>by
  cases x
  cases r
  exact ⟨_,ReadsW.none⟩
 |.bool b,_,_,x,r=>by
  cases x
  cases r
  exact ⟨_,ReadsW.bool b⟩
 |.int i,_,_,x,r=>by
  cases x
  obtain ⟨t,rfl⟩:=r
  exact ⟨_,ReadsW.int i t⟩
 |.str s,_,_,x,r=>by
  cases x
  obtain ⟨t,rfl⟩:=r
  exact ⟨_,ReadsW.str s t⟩
 |.bytes b,_,_,x,r=>by
  cases x
  obtain ⟨t,rfl⟩:=r
  exact ⟨_,ReadsW.bytes _ t⟩
 |.list ds,_,_,x,r=>by
  cases x with
  |lst hs ha=>
   cases r
   obtain ⟨its,o,n,rv,ho,hc,hd⟩:=Ze hok KX hs
   obtain ⟨as,hr⟩:=Dw.readsAll hok KX ds _ its ha rv
   exact ⟨_,ReadsW.list ho hc hd hr⟩
 |.tuple ds,_,_,x,r=>by
  cases x with
  |tup hs ha=>
   cases r
   obtain ⟨its,o,n,rv,ho,hc,hd⟩:=Zq hok KX hs
   obtain ⟨as,hr⟩:=Dw.readsAll hok KX ds _ its ha rv
   exact ⟨_,ReadsW.tuple ho hc hd hr⟩
 |.float _,_,_,x,_=>by cases x
 |.dict _,_,_,x,_=>by cases x
 |.bytearray _,_,_,x,_=>by cases x
 |.set _,_,_,x,_=>by cases x
 |.frozenset _,_,_,x,_=>by cases x
 |.obj _ _,_,_,x,_=>by cases x
theorem Dw.readsAll (hok:kK P w H h) (KX:K.In h):∀ (ds:List WData) (vs:List V) (us:List Value),mD K H vs ds->aZ vs us->∃ as,ReadsAllW R cl h us ds as
 |[],_,_,x,r=>by
  cases x
  cases r
  exact ⟨_,ReadsAllW.nil⟩
 |d::ds,_,_,x,r=>by
  cases x with
  |cons h1 h2=>
   cases r with
   |cons r1 r2=>
    obtain ⟨as,q1⟩:=Dw.reads hok KX d _ _ h1 r1
    obtain ⟨bs,q2⟩:=Dw.readsAll hok KX ds _ _ h2 r2
    exact ⟨_,ReadsAllW.cons q1 q2⟩
end
end
mutual
def Ic:WData->Bool
 |.none=>true
 |.bool _=>true
 |.int _=>true
 |.str _=>true
 |.bytes _=>true
 |.list xs=>tP xs
 |.tuple xs=>tP xs
 |_=>false
def tP:List WData->Bool
 |[]=>true
 |x::r=>Ic x && tP r
end
theorem En {α:Type} {f:α->WData} (h:∀ a,Ic (f a)=true):∀ l:List α,tP (l.map f)=true
 |[]=>rfl
 |x::r=>by
  show (Ic (f x) && tP (r.map f))=true
  rw [h x,En h r]<;>rfl
theorem mP:∀ (c:Codec) (a:c.denote),Ic (c.enc a)=true
 |.unit,_=>rfl
 |.bool,_=>rfl
 |.int _ _,_=>rfl
 |.nat _ _,_=>rfl
 |.u8,_=>rfl
 |.bytes _ _,_=>rfl
 |.text _ _ _ _,_=>rfl
 |.list _ _ c,a=>En (fun x=>mP c x) a
 |.pair c d,a=>by
  show (Ic (c.enc a.1) && (Ic (d.enc a.2) && true))=true
  rw [mP c a.1,mP d a.2]<;>rfl
 |.triple c d e,a=>by
  show (Ic (c.enc a.1) && (Ic (d.enc a.2.1) && (Ic (e.enc a.2.2) && true)))=true
  rw [mP c a.1,mP d a.2.1,mP e a.2.2]<;>rfl
 |.option c,none=>rfl
 |.option c,some x=>mP c x
theorem zL:∀ (cs:List Codec) (a:Codec.denoteAll cs),tP (Codec.encAll cs a)=true
 |[],_=>rfl
 |c::cs,a=>by
  show (Ic (c.enc a.1) && tP (Codec.encAll cs a.2))=true
  rw [mP c a.1,zL cs a.2]<;>rfl
theorem oY:∀ {xs:List WData} {d:WData},d∈xs->d.weight<=WData.weightAll xs
 |[],d,h=>absurd h (by simp)
 |x::r,d,h=>by
  show d.weight<=x.weight+1+WData.weightAll r
  rcases List.mem_cons.mp h with e|m
  ·rw [e]
   omega
  ·have z:=oY m
   omega
def Ca:Value->V
 |.none=>.non
 |.bool b=>.bl b
 |.int i _=>.int i
 |.str x _=>.str x
 |.bytes b _=>.byt b
 |.ref a=>.ref a
 |_=>.non
def Lg (A:List Addr):Value->Prop
 |.none=>True
 |.bool _=>True
 |.int _ _=>True
 |.str _ _=>True
 |.bytes _ _=>True
 |.ref a=>a∈A
 |_=>False
theorem Lg.mono {A B:List Addr} (h:∀ a∈A,a∈B):∀ {u:Value},Lg A u->Lg B u:=fun {u} x=>by
 cases u with
 |ref a=>exact h a x
 |none=>trivial
 |bool b=>trivial
 |int i t=>trivial
 |str s t=>trivial
 |bytes b t=>trivial
 |_=>exact False.elim x
theorem Rw {A:List Addr} {u:Value} (x:Lg A u):bQ (Ca u) u:=by
 cases u with
 |ref a=>rfl
 |none=>rfl
 |bool b=>rfl
 |int i t=>exact ⟨t,rfl⟩
 |str s t=>exact ⟨t,rfl⟩
 |bytes b t=>exact ⟨t,rfl⟩
 |_=>exact False.elim x
theorem jP {A:List Addr}:∀ {vs:List Value},(∀ u∈vs,Lg A u)->aZ (vs.map Ca) vs
 |[],_=>.nil
 |u::r,h=>.cons (Rw (h u (List.mem_cons_self ..))) (jP fun x hx=>h x (List.mem_cons_of_mem _ hx))
def lQ (h:Heap) (A:List Addr) (a:Addr):Prop:=∃ vs:List Value,vs.length<=sizeLine/\(∀ u∈vs,Lg A u)/\
 (h.get? a=some {cls:=.type "list",data:=.seq vs.toArray}\/h.get? a=some {cls:=.type "tuple",data:=.seq vs.toArray})
theorem lQ.mono {h:Heap} {A B:List Addr} {a:Addr} (k:∀ a∈A,a∈B) (x:lQ h A a):lQ h B a:=by
 obtain ⟨vs,h1,h2,h3⟩:=x
 exact ⟨vs,h1,fun u hu=>(h2 u hu).mono k,h3⟩
theorem iV {P:Params} {h:Heap}:∀ {vs:List Value} {ds:List WData},WellAll P h vs ds->vs.length=ds.length
 |_,_,.nil=>rfl
 |_,_,.cons _ b=>by
  show _+1=_+1
  rw [iV b]
theorem yU {P:Params} {h:Heap} {v:Value} {ds:List WData} (x:Well P h v (.list ds)):∃ (a:Addr) (vs:List Value),v=.ref a/\h.get? a=some {cls:=.type "list",data:=.seq vs.toArray}/\WellAll P h vs ds:=by
 cases x with
 |list ho hall=>exact ⟨_,_,rfl,ho,hall⟩
theorem vP {P:Params} {h:Heap} {v:Value} {ds:List WData} (x:Well P h v (.tuple ds)):∃ (a:Addr) (vs:List Value),v=.ref a/\h.get? a=some {cls:=.type "tuple",data:=.seq vs.toArray}/\WellAll P h vs ds:=by
 cases x with
 |tuple ho hall=>exact ⟨_,_,rfl,ho,hall⟩
theorem xQ {P:Params} {h:Heap} {us:List Value} {d:WData} {ds:List WData} (x:WellAll P h us (d::ds)):∃ (v:Value) (vs:List Value),us=v::vs/\Well P h v d/\WellAll P h vs ds:=by
 cases x with
 |cons a b=>exact ⟨_,_,rfl,a,b⟩
theorem Jp {n:Nat} (h:n<=1048576):n<=sizeLine:=Nat.le_trans h (by decide)
section
variable {P:Params} {h:Heap}
mutual
theorem Ov:∀ (d:WData) (v:Value),Well P h v d->Ic d=true->d.weight<=1048576->∃ A:List Addr,Lg A v/\∀ a∈A,lQ h A a
 |.none,_,x,_,_=>by
  cases x
  exact ⟨[],trivial,fun a m=>absurd m (by simp)⟩
 |.bool b,_,x,_,_=>by
  cases x
  exact ⟨[],trivial,fun a m=>absurd m (by simp)⟩
 |.int i,_,x,_,_=>by
  cases x
  exact ⟨[],trivial,fun a m=>absurd m (by simp)⟩
 |.str s,_,x,_,_=>by
  cases x
  exact ⟨[],trivial,fun a m=>absurd m (by simp)⟩
 |.bytes b,_,x,_,_=>by
  cases x
  exact ⟨[],trivial,fun a m=>absurd m (by simp)⟩
 |.list ds,_,x,p,z=>by
  obtain ⟨a,vs,rfl,ho,hall⟩:=yU x
  have z2:WData.weightAll ds<=1048576:=z
  obtain ⟨A,h1,h2⟩:=pZ ds _ hall p fun d hd=>Nat.le_trans (oY hd) z2
  have k:∀ b∈A,b∈a::A:=fun b hb=>List.mem_cons_of_mem _ hb
  refine ⟨a::A,List.mem_cons_self ..,fun b hb=>?_⟩
  rcases List.mem_cons.mp hb with e|m
  ·rw [e]
   exact ⟨vs,Jp (by rw [iV hall];exact Nat.le_trans (PySem.W.length_le_weightAllW ds) z2),fun u hu=>(h1 u hu).mono k,.inl ho⟩
  ·exact (h2 b m).mono k
 |.tuple ds,_,x,p,z=>by
  obtain ⟨a,vs,rfl,ho,hall⟩:=vP x
  have z2:WData.weightAll ds<=1048576:=z
  obtain ⟨A,h1,h2⟩:=pZ ds _ hall p fun d hd=>Nat.le_trans (oY hd) z2
  have k:∀ b∈A,b∈a::A:=fun b hb=>List.mem_cons_of_mem _ hb
  refine ⟨a::A,List.mem_cons_self ..,fun b hb=>?_⟩
  rcases List.mem_cons.mp hb with e|m
  ·rw [e]
   exact ⟨vs,Jp (by rw [iV hall];exact Nat.le_trans (PySem.W.length_le_weightAllW ds) z2),fun u hu=>(h1 u hu).mono k,.inr ho⟩
  ·exact (h2 b m).mono k
 |.float _,_,_,p,_=>Bool.noConfusion (show false=true from p)
 |.dict _,_,_,p,_=>Bool.noConfusion (show false=true from p)
 |.bytearray _,_,_,p,_=>Bool.noConfusion (show false=true from p)
 |.set _,_,_,p,_=>Bool.noConfusion (show false=true from p)
 |.frozenset _,_,_,p,_=>Bool.noConfusion (show false=true from p)
 |.obj _ _,_,_,p,_=>Bool.noConfusion (show false=true from p)
theorem pZ:∀ (ds:List WData) (vs:List Value),WellAll P h vs ds->tP ds=true->(∀ d∈ds,d.weight<=1048576)->∃ A:List Addr,(∀ u∈vs,Lg A u)/\∀ a∈A,lQ h A a
 |[],_,x,_,_=>by
  cases x
  exact ⟨[],fun u m=>absurd m (by simp),fun a m=>absurd m (by simp)⟩
 |d::ds,_,x,p,z=>by
  obtain ⟨v,vs,rfl,x1,x2⟩:=xQ x
  have q:Ic d=true/\tP ds=true:=Bool.and_eq_true_iff.mp p
  obtain ⟨A,a1,a2⟩:=Ov d v x1 q.1 (z d (List.mem_cons_self ..))
  obtain ⟨B,b1,b2⟩:=pZ ds vs x2 q.2 fun e he=>z e (List.mem_cons_of_mem _ he)
  have kA:∀ b∈A,b∈A++B:=fun b hb=>List.mem_append.mpr (.inl hb)
  have kB:∀ b∈B,b∈A++B:=fun b hb=>List.mem_append.mpr (.inr hb)
  refine ⟨A++B,fun u hu=>?_,fun b hb=>?_⟩
  ·rcases List.mem_cons.mp hu with e|m
   ·rw [e]
    exact a1.mono kA
   ·exact (b1 u m).mono kB
  ·rcases List.mem_append.mp hb with m|m
   ·exact (a2 b m).mono kA
   ·exact (b2 b m).mono kB
end
end
def Sw (o:Obj):Option HO:=match o.data with
 |.seq vs _=>if (o.cls==Value.type "list")=true then some (.frz o (.lst (vs.toList.map Ca))) else some (.frz o (.tup (vs.toList.map Ca)))
 |_=>none
def lO (K:PySem.W.Frag) (h:Heap) (A:List Addr):Hp:=fun b=>if b∈A then (if (K.lookup b).isNone=true then (h.get? b).bind Sw else none) else none
def Ki (H:Hp):Prop:=∀ b,H b=none\/∃ o u,H b=some (.frz o u)
theorem Cj (vs:List Value):Sw {cls:=.type "list",data:=.seq vs.toArray}=some (.frz {cls:=.type "list",data:=.seq vs.toArray} (.lst (vs.map Ca))):=by
 show (if (Value.type "list"==Value.type "list")=true then some (HO.frz {cls:=.type "list",data:=.seq vs.toArray} (.lst (vs.toArray.toList.map Ca))) else some (HO.frz {cls:=.type "list",data:=.seq vs.toArray} (.tup (vs.toArray.toList.map Ca))))=_
 rw [if_pos (beq_self_eq_true _)]
theorem Ej (vs:List Value):Sw {cls:=.type "tuple",data:=.seq vs.toArray}=some (.frz {cls:=.type "tuple",data:=.seq vs.toArray} (.tup (vs.map Ca))):=by
 show (if (Value.type "tuple"==Value.type "list")=true then some (HO.frz {cls:=.type "tuple",data:=.seq vs.toArray} (.lst (vs.toArray.toList.map Ca))) else some (HO.frz {cls:=.type "tuple",data:=.seq vs.toArray} (.tup (vs.toArray.toList.map Ca))))=_
 rw [if_neg (by decide)]
section
variable {P:Program} {w:World} {K:PySem.W.Frag} {h:Heap} {A:List Addr}
theorem uF {b:Addr} {o:Obj} (hb:b∈A) (hk:K.lookup b=none) (e:h.get? b=some o):lO K h A b=Sw o:=by
 unfold lO
 rw [if_pos hb,hk,if_pos (show (none:Option Obj).isNone=true from rfl),e]<;>rfl
theorem Tk {b:Addr} {u:HO} (q:lO K h A b=some u):b∈A/\K.lookup b=none:=by
 unfold lO at q
 by_cases hb:b∈A
 ·rw [if_pos hb] at q
  cases hk:K.lookup b with
  |none=>exact ⟨hb,rfl⟩
  |some o=>
   rw [hk,if_neg (by simp)] at q
   cases q
 ·rw [if_neg hb] at q
  cases q
theorem uB (ar:∀ a∈A,lQ h A a) {b:Addr} {u:HO} (q:lO K h A b=some u):K.lookup b=none/\∃ vs:List Value,vs.length<=sizeLine/\(∀ u∈vs,Lg A u)/\
  ((h.get? b=some {cls:=.type "list",data:=.seq vs.toArray}/\u=.frz {cls:=.type "list",data:=.seq vs.toArray} (.lst (vs.map Ca)))\/
   (h.get? b=some {cls:=.type "tuple",data:=.seq vs.toArray}/\u=.frz {cls:=.type "tuple",data:=.seq vs.toArray} (.tup (vs.map Ca)))):=by
 obtain ⟨hb,hk⟩:=Tk q
 obtain ⟨vs,h1,h2,h3⟩:=ar b hb
 refine ⟨hk,vs,h1,h2,?_⟩
 rcases h3 with e|e
 ·rw [uF hb hk e,Cj] at q
  exact .inl ⟨e,(Option.some.inj q).symm⟩
 ·rw [uF hb hk e,Ej] at q
  exact .inr ⟨e,(Option.some.inj q).symm⟩
theorem Kq (ar:∀ a∈A,lQ h A a):Ki (lO K h A):=fun b=>by
 cases q:lO K h A b with
 |none=>exact .inl rfl
 |some u=>
  obtain ⟨_,vs,_,_,⟨_,e⟩|⟨_,e⟩⟩:=uB ar q
  ·exact .inr ⟨_,_,by rw [e]⟩
  ·exact .inr ⟨_,_,by rw [e]⟩
theorem Ty (ar:∀ a∈A,lQ h A a):kK P w (lO K h A) h:=fun b u q=>by
 obtain ⟨_,vs,h1,h2,⟨e,rfl⟩|⟨e,rfl⟩⟩:=uB ar q
 ·exact ⟨e,by rw [List.length_map];exact h1,vs,_,jP h2,e⟩
 ·exact ⟨e,by rw [List.length_map];exact h1,vs,jP h2,_,e,rfl,_,rfl⟩
theorem uG {c c':Value} {vs us:List Value} (e:(some {cls:=c,data:=.seq vs.toArray}:Option Obj)=some {cls:=c',data:=.seq us.toArray}):c=c'/\vs=us:=by
 have e1:=Option.some.inj e
 have e2:c=c':=congrArg Obj.cls e1
 have e3:Data.seq vs.toArray=Data.seq us.toArray:=congrArg Obj.data e1
 injection e3 with e4
 refine ⟨e2,?_⟩
 have e5:=congrArg Array.toList e4
 simpa using e5
theorem aCi (KX:K.In h) (ar:∀ a∈A,lQ h A a) {a:Addr} {vs:List Value} (ha:a∈A) (e:h.get? a=some {cls:=.type "list",data:=.seq vs.toArray}):(∀ u∈vs,Lg A u)/\dB K (lO K h A) a (vs.map Ca):=by
 obtain ⟨us,h1,h2,h3⟩:=ar a ha
 have hu:us=vs:=by
  rcases h3 with q|q
  ·rw [e] at q
   exact (uG q).2.symm
  ·rw [e] at q
   exact absurd (Value.type.inj (uG q).1) (by decide)
 subst hu
 refine ⟨h2,?_⟩
 cases hk:K.lookup a with
 |none=>exact .inl (.inr ⟨_,by rw [uF ha hk e,Cj]⟩)
 |some o=>
  have e2:=KX a o hk
  rw [e] at e2
  obtain rfl:=Option.some.inj e2
  exact .inr ⟨_,us.toArray,_,hk,rfl,rfl,rfl,by rw [List.size_toArray];exact h1,by simpa using jP h2⟩
theorem aCk (KX:K.In h) (ar:∀ a∈A,lQ h A a) {a:Addr} {vs:List Value} (ha:a∈A) (e:h.get? a=some {cls:=.type "tuple",data:=.seq vs.toArray}):(∀ u∈vs,Lg A u)/\cN K (lO K h A) a (vs.map Ca):=by
 obtain ⟨us,h1,h2,h3⟩:=ar a ha
 have hu:us=vs:=by
  rcases h3 with q|q
  ·rw [e] at q
   exact absurd (Value.type.inj (uG q).1) (by decide)
  ·rw [e] at q
   exact (uG q).2.symm
 subst hu
 refine ⟨h2,?_⟩
 cases hk:K.lookup a with
 |none=>exact .inl (.inr ⟨_,by rw [uF ha hk e,Ej]⟩)
 |some o=>
  have e2:=KX a o hk
  rw [e] at e2
  obtain rfl:=Option.some.inj e2
  exact .inr ⟨_,us.toArray,_,hk,rfl,rfl,by rw [List.size_toArray];exact h1,by simpa using jP h2⟩
mutual
theorem Zp {Pm:Params} (KX:K.In h) (ar:∀ a∈A,lQ h A a):∀ (d:WData) (v:Value),Well Pm h v d->Ic d=true->Lg A v->Dw K (lO K h A) (Ca v) d
 |.none,_,x,_,_=>by
  cases x
  exact .non
 |.bool b,_,x,_,_=>by
  cases x
  exact .bl b
 |.int i,_,x,_,_=>by
  cases x
  exact .int i
 |.str s,_,x,_,_=>by
  cases x
  exact .str s
 |.bytes b,_,x,_,_=>by
  cases x
  have z:=Dw.byt (K:=K) (H:=lO K h A) b.toArray
  exact z
 |.list ds,_,x,p,hu=>by
  obtain ⟨a,vs,rfl,ho,hall⟩:=yU x
  obtain ⟨h2,hs⟩:=aCi KX ar hu ho
  exact .lst hs (Am KX ar ds _ hall p h2)
 |.tuple ds,_,x,p,hu=>by
  obtain ⟨a,vs,rfl,ho,hall⟩:=vP x
  obtain ⟨h2,hs⟩:=aCk KX ar hu ho
  exact .tup hs (Am KX ar ds _ hall p h2)
 |.float _,_,_,p,_=>Bool.noConfusion (show false=true from p)
 |.dict _,_,_,p,_=>Bool.noConfusion (show false=true from p)
 |.bytearray _,_,_,p,_=>Bool.noConfusion (show false=true from p)
 |.set _,_,_,p,_=>Bool.noConfusion (show false=true from p)
 |.frozenset _,_,_,p,_=>Bool.noConfusion (show false=true from p)
 |.obj _ _,_,_,p,_=>Bool.noConfusion (show false=true from p)
theorem Am {Pm:Params} (KX:K.In h) (ar:∀ a∈A,lQ h A a):∀ (ds:List WData) (vs:List Value),WellAll Pm h vs ds->tP ds=true->(∀ u∈vs,Lg A u)->mD K (lO K h A) (vs.map Ca) ds
 |[],_,x,_,_=>by
  cases x
  exact .nil
 |d::ds,_,x,p,hu=>by
  obtain ⟨v,vs,rfl,x1,x2⟩:=xQ x
  have q:Ic d=true/\tP ds=true:=Bool.and_eq_true_iff.mp p
  exact .cons (Zp KX ar d v x1 q.1 (hu _ (List.mem_cons_self ..))) (Am KX ar ds vs x2 q.2 fun u m=>hu u (List.mem_cons_of_mem _ m))
end
end
theorem Mq {P:Program} {w:World} {K:PySem.W.Frag} {mg mb:Str->Option Value} {CX:Fp} {k:Nat} {fa:Addr} {fd:FuncData} {ps:List Str} {sp:Sp} {s₁:Shared} {vals:List Value} {ds:List WData} {R:PySem.W.WRecords} {cl:Str->Option Addr} {d0:WData}
  (KX:K.In s₁.heap) (hns:s₁.heap.Ns mainGlobals mg) (hb:s₁.heap.Ns builtinsNs mb) (hbb:∀ x:Str,x≠"__name__"->mb x=bootBuiltins x) (hlim:s₁.heap.NoLimit) (hg:s₁.gens=#[])
  (hwl:WellAll w.params s₁.heap vals ds) (hpl:tP ds=true) (hwt:∀ d∈ds,d.weight<=1048576) (hr:fU k callerA)
  (F:∀ base:Heap,K.In base->base.Ns mainGlobals mg->bO P w K mg base CX k fa fd ps sp) (hbind:∀ (s:Shared) (us:List Value),us.length=ps.length->BindsTo s fd ⟨us,[]⟩ (ps.zip us)) (hlen:ds.length=ps.length)
  (hsp:∀ (H:Hp) (xs:List V),Ki H->mD K H xs ds->sp xs H (fun v H'=>Dw K H' v d0) fun _ _ _=>False)
  (hCX:∀ H e s',CX [] H s₁ (fun _ _ _=>False) e s'->False):
  codeAny (model P w) callerA (.call (.ref fa) ⟨vals,[]⟩) (fun r s'=>∃ u as,r=.ok (.ret u)/\ReadsW R cl s'.heap u d0 as/\OldK s₁.heap s'.heap/\s'.os=s₁.os/\AllBare s'.gens) s₁:=by
 obtain ⟨A,ho,ar⟩:=pZ ds vals hwl hpl hwt
 have hO:Ki (lO K s₁.heap A):=Kq ar
 have hok:kK P w (lO K s₁.heap A) s₁.heap:=Ty ar
 have hS:=Am KX ar ds vals hwl hpl ho
 have hV:=jP ho
 have hK:∀ b u,lO K s₁.heap A b=some u->K.lookup b=none:=fun b u q=>(uB ar q).1
 have noA:∀ {b:Addr} {o:Obj} {es:Array DictEntry} {ep:Nat},s₁.heap.get? b=some o->o.data=.dict es ep->lO K s₁.heap A b=none:=fun {b o es ep} e d=>by
  cases q:lO K s₁.heap A b with
  |none=>rfl
  |some u=>
   obtain ⟨_,vs,_,_,⟨e2,_⟩|⟨e2,_⟩⟩:=uB ar q
   ·rw [e2] at e
    cases e
    have d':Data.seq vs.toArray _=Data.dict es ep:=d
    cases d'
   ·rw [e2] at e
    cases e
    have d':Data.seq vs.toArray _=Data.dict es ep:=d
    cases d'
 generalize lO K s₁.heap A=H at hO hok hS hK noA
 have base_of:∀ {b:Addr} {o:Obj},s₁.heap.get? b=some o->H b=none->(Bg s₁.heap H).get? b=some o:=fun e n=>Rl e n
 have nsK:∀ {b:Addr} {m:Str->Option Value},s₁.heap.Ns b m->(Bg s₁.heap H).Ns b m:=fun {b m} ⟨o,es,ep,e,d,r⟩=>⟨o,es,ep,base_of e (noA e d),d,r⟩
 have nK:∀ b o,K.lookup b=some o->H b=none:=fun b o e=>by
  cases q:H b with
  |none=>rfl
  |some u=>
   rw [hK b u q] at e
   cases e
 have hKb:K.In (Bg s₁.heap H):=fun b o e=>base_of (KX b o e) (nK b o e)
 have hM:Mod K mg (Bg s₁.heap H):=⟨hKb,nsK hns,⟨mb,nsK hb,hbb⟩,let ⟨mc,h1,h2⟩:=hlim;⟨mc,nsK h1,h2⟩⟩
 have e0:Ex P w K mg (Bg s₁.heap H) callerA [] s₁ H:=⟨rfl,hM,fun b o e=>Ur e,Nat.le_of_eq (Ms _ _),trivial,fun b hb=>absurd (show b∈([]:List Addr) from hb) (by simp),hok,.of_eq hg⟩
 have hl:vals.length=ps.length:=by rw [iV hwl];exact hlen
 refine codeAny_mono ((F _ hKb (nsK hns)).run callerA [] s₁ H ⟨vals,[]⟩ vals (vals.map Ca) _ _ hr e0 (hbind s₁ vals hl) hV (hsp H _ hO hS)) fun r s' x=>?_
 cases r with
 |error e=>exact (hCX H e s' x).elim
 |ok fl=>
  cases fl with
  |next=>exact False.elim x
  |brk=>exact False.elim x
  |cont=>exact False.elim x
  |ret u=>
   obtain ⟨v,H',os,bare,un,hok',r',q⟩:=x
   have kept:∀ b o,s₁.heap.get? b=some o->s'.heap.get? b=some o:=fun b o e=>by
    cases q2:H b with
    |none=>exact un.keep b o e q2 (by intro z;exact absurd (show b∈([]:List Addr) from z) (by simp)) (by simp)
    |some u2=>
     rcases hO b with z|⟨ob,u3,z⟩
     ·rw [q2] at z
      cases z
     ·have z2:=un.frzs b ob _ z
      obtain ⟨e1,_⟩:=hok b _ z
      obtain ⟨e2,_⟩:=hok' b _ z2
      rw [e] at e1
      cases e1
      exact e2
   have KX':K.In s'.heap:=fun b o e=>kept b o (KX b o e)
   obtain ⟨as,hrd⟩:=Dw.reads (R:=R) (cl:=cl) hok' KX' d0 v u q r'
   exact ⟨u,as,rfl,hrd,OldK.of_keep kept,os,bare⟩
theorem wW {ds:List WData} (h:WData.layableAll ds=true):∀ d∈ds,d.weight<=1048576:=fun d hd=>
 (PySem.W.layableW_iff.mp (List.all_eq_true.mp h d hd)).2.2
theorem wO:∀ (cs:List Codec) (a:Codec.denoteAll cs),(Codec.encAll cs a).length=cs.length
 |[],_=>rfl
 |c::cs,a=>by
  show (Codec.encAll cs a.2).length+1=cs.length+1
  rw [wO cs a.2]
end L2
end
namespace L2
open PySem PySem.Spec PyProof.Rows
structure Ew (fr:List Addr) (e T0 T:Addr) (h h':Heap):Prop where
 keep:∀ b o,b∉fr->b≠e->b≠T0->h.get? b=some o->h'.get? b=some o
 slot:∀ b o,b∈fr->h.get? b=some o->∃ sl,h'.get? b=some {o with slots:=sl}
 big:h.objs.size<=T
 self:∀ oe vs,h.get? e=some oe->oe.data=.fields vs->1<vs.size->∃ oe' vs',h'.get? e=some oe'/\oe'.cls=oe.cls/\oe'.dict=oe.dict/\oe'.data=.fields vs'/\vs'.size=vs.size/\vs'[1]?=some (.ref T)
 head:∃ oT ts,h'.get? T=some oT/\oT.data=.fields ts/\ts[3]?=some .none
 old:∀ o,h.get? T0=some o->∃ o',h'.get? T0=some o'
theorem lU (o:Obj) (f:Array Value->Array Value):(o.mapFields f).cls=o.cls/\(o.mapFields f).dict=o.dict:=by
 obtain ⟨c,d,dt,sl⟩:=o
 cases dt<;>exact ⟨rfl,rfl⟩
section
variable {M:Model} {A:Around} {E:Value->Shared->Prop} {s:Shared}
theorem vE {base:Heap} {env:Env} {outer:List Env} {L e:Addr} {oe:Obj} {vs:Array Value} {head:Value} {hadNext:Bool} {Q:Unit->Shared->Prop}
  (hfr:A.frames=some (env::outer)) (hl:s.heap.FunFrames base (env::outer)) (hf:env.frame=some L)
  (he:s.heap.get? e=some oe) (hd:oe.data=.fields vs) (hsz:1<vs.size)
  (h:∀ h' T,Ew ((env::outer).filterMap (·.frame)) e e T s.heap h'->Q () {s with heap:=h'}):
  wpAny M A (do let a <-frameOf env;let pl <-entryPlaceOf L hadNext;let b <-EntryCells.newEntry head a .none (rawInt L) .none pl;setField (.ref e) 1 b) (fun _ s'=>wpAny M A (setFlight (.ref e) none) Q E s') E s:=by
 have hene:e∉(env::outer).filterMap (·.frame):=fun hm=>by
  obtain ⟨_,o,ho,hnf⟩:=hl.mem hm
  rw [he] at ho;injection ho with ho;subst ho;exact hnf vs hd
 refine wpAny_bind (wpAny_frameOf_fun hfr hl hf fun h₁ hs₁=>?_)
 refine wpAny_bind (wpAny_entryPlaceOf fun pl hpl=>?_)
 unfold EntryCells.newEntry newFields
 refine wpAny_bind (wpAny_newObj_type ?_ (hpl.sizeOk5 _ _ _ _ _))
 have he₁:h₁.get? e=some oe:=(hs₁.2.1 e hene).trans he
 have he₂:=Heap.get?_push_of_some (h:=h₁) {cls:=.type "traceback",dict:=none,data:=.fields ([head,.ref L,.none,rawInt L,.none]++(if pl.isEmpty then List.replicate 6 Value.none else pl)).toArray} he₁
 refine wpAny_setField he₂ hd hsz ?_
 have hTe:h₁.objs.size≠e:=Nat.ne_of_gt (Heap.lt_size he₁)
 have hd₃:=Obj.data_mapFields hd (·.setIfInBounds 1 (Value.ref h₁.objs.size))
 have he₃:=Heap.get?_update_self (Obj.mapFields (·.setIfInBounds 1 (Value.ref h₁.objs.size))) he₂ (Obj.isFreed_of_fields hd₃)
 have hT₃:=(Heap.get?_update_other (h₁.push {cls:=.type "traceback",dict:=none,data:=.fields ([head,.ref L,.none,rawInt L,.none]++(if pl.isEmpty then List.replicate 6 Value.none else pl)).toArray})
  (Obj.mapFields (·.setIfInBounds 1 (Value.ref h₁.objs.size))) (Ne.symm hTe)).trans (Heap.get?_push_size h₁ rfl)
 unfold setFlight
 refine wpAny_bind (wpAny_field he₃ hd₃ (x:=.ref h₁.objs.size) (by simp [hsz]) ?_)
 rw [if_pos (show (Value.ref h₁.objs.size !=Value.none)=true from by simp)]
 refine wpAny_setField hT₃ rfl (by simp only [List.size_toArray,List.length_append,List.length_cons,List.length_nil]<;>(clear hTe hene hsz;omega)) (h _ h₁.objs.size ?_)
 have keep:∀ b o,b≠e->h₁.get? b=some o->
   (((h₁.push {cls:=.type "traceback",dict:=none,data:=.fields ([head,.ref L,.none,rawInt L,.none]++(if pl.isEmpty then List.replicate 6 Value.none else pl)).toArray}).update e (Obj.mapFields (·.setIfInBounds 1 (Value.ref h₁.objs.size)))).update h₁.objs.size
    (Obj.mapFields (·.setIfInBounds 3 ((none:Option Addr).elim Value.none fun f=>rawInt f)))).get? b=some o:=fun b o hbe hb=>by
  have hbT:h₁.objs.size≠b:=Nat.ne_of_gt (Heap.lt_size hb)
  rw [Heap.get?_update_other _ _ hbT,Heap.get?_update_other _ _ (Ne.symm hbe)]
  exact Heap.get?_push_of_some _ hb
 have he₄:=(Heap.get?_update_other ((h₁.push {cls:=.type "traceback",dict:=none,data:=.fields ([head,.ref L,.none,rawInt L,.none]++(if pl.isEmpty then List.replicate 6 Value.none else pl)).toArray}).update e (Obj.mapFields (·.setIfInBounds 1 (Value.ref h₁.objs.size))))
  (Obj.mapFields (·.setIfInBounds 3 ((none:Option Addr).elim Value.none fun f=>rawInt f))) hTe).trans he₃
 refine ⟨fun b o hb hbe _ hbo=>keep b o hbe ((hs₁.2.1 b hb).trans hbo),fun b o hb hbo=>?_,Nat.le_of_eq hs₁.1.symm,fun oe' vs' h1 h2 _=>?_,?_,fun o ho=>⟨_,he₄⟩⟩
 ·obtain ⟨sl,hs⟩:=hs₁.2.2 b o hbo
  exact ⟨sl,keep b _ (fun q=>hene (q▸hb)) hs⟩
 ·rw [he] at h1;cases h1
  rw [hd] at h2;cases h2
  exact ⟨_,_,he₄,(lU _ _).1,(lU _ _).2,hd₃,by simp,by simp [hsz]⟩
 ·exact ⟨_,_,Heap.get?_update_self _ hT₃ (Obj.isFreed_of_fields (Obj.data_mapFields rfl _)),Obj.data_mapFields rfl _,by first|(simp;done)|(rcases hpl with rfl|⟨_,_,_,_,_,_,_,rfl⟩<;>simp)⟩
theorem Fu {base:Heap} {env:Env} {outer:List Env} {L e:Addr} {oe:Obj} {vs:Array Value} {Q:Unit->Shared->Prop}
  (hfr:A.frames=some (env::outer)) (hl:s.heap.FunFrames base (env::outer)) (hf:env.frame=some L)
  (he:s.heap.get? e=some oe) (hd:oe.data=.fields vs) (h1:vs[1]?=some .none)
  (h:∀ h' T,Ew ((env::outer).filterMap (·.frame)) e e T s.heap h'->Q () {s with heap:=h'}):
  wpAny M A (noteFrame (.ref e) env) (fun _ s'=>wpAny M A (setFlight (.ref e) none) Q E s') E s:=by
 unfold noteFrame
 simp only [hf]
 refine wpAny_bind (wpAny_field he hd h1 ?_)
 rw [if_neg (by decide)]
 exact vE hfr hl hf he hd (Array.getElem?_eq_some_iff.mp h1).1 h
theorem yB {base:Heap} {env:Env} {outer:List Env} {L e T oeT:Addr} {oe oT:Obj} {vs ts:Array Value} {Q:Unit->Shared->Prop}
  (hfr:A.frames=some (env::outer)) (hl:s.heap.FunFrames base (env::outer)) (hf:env.frame=some L)
  (he:s.heap.get? e=some oe) (hd:oe.data=.fields vs) (h1:vs[1]?=some (.ref T)) (hTe:T≠e) (hT:s.heap.get? T=some oT) (hdT:oT.data=.fields ts) (h3:ts[3]?=some .none)
  (h:∀ h' T',Ew ((env::outer).filterMap (·.frame)) e T T' s.heap h'->Q () {s with heap:=h'}):
  wpAny M A (noteFrame (.ref e) env) (fun _ s'=>wpAny M A (setFlight (.ref e) none) Q E s') E s:=by
 unfold noteFrame
 simp only [hf]
 refine wpAny_bind (wpAny_field he hd h1 ?_)
 rw [if_pos (show (Value.ref T !=Value.none)=true from by simp)]
 refine wpAny_bind (wpAny_field hT hdT h3 ?_)
 rw [if_neg (show ¬((Value.none==rawInt L)=true) from by simp [rawInt])]
 refine wpAny_bind (wpAny_setField hT hdT (Array.getElem?_eq_some_iff.mp h3).1 ?_)
 have other:∀ b,b≠T->(s.heap.update T (Obj.mapFields (·.setIfInBounds 3 Value.none))).get? b=s.heap.get? b:=fun b hb=>Heap.get?_update_other _ _ (Ne.symm hb)
 have noRecord:∀ b o,s.heap.get? b=some o->(∀ vs,o.data≠.fields vs)->b≠T:=fun b o hb hnf q=>by
  rw [q,hT] at hb;injection hb with hb;subst hb;exact hnf ts hdT
 have hfT:∀ b∈(env::outer).filterMap (·.frame),b≠T:=fun b hb=>by
  obtain ⟨_,o,ho,hnf⟩:=hl.mem hb
  exact noRecord b o ho hnf
 have hTself:=Heap.get?_update_self (Obj.mapFields (·.setIfInBounds 3 Value.none)) hT (Obj.isFreed_of_fields (Obj.data_mapFields hdT _))
 refine vE (base:=base) hfr (hl.of_keeps fun b o hb hnf=>⟨o,(other b (noRecord b o hb hnf)).trans hb,rfl⟩) hf ((other e (Ne.symm hTe)).trans he) hd (Array.getElem?_eq_some_iff.mp h1).1 fun h' T' N=>h h' T' ?_
 refine ⟨fun b o hb hbe hbT hbo=>N.keep b o hb hbe hbe ((other b hbT).trans hbo),fun b o hb hbo=>N.slot b o hb ((other b (hfT b hb)).trans hbo),?_,fun oe' vs' q1 q2 q3=>N.self oe' vs' ((other e (Ne.symm hTe)).trans q1) q2 q3,N.head,fun o _=>?_⟩
 ·have:=N.big
  rwa [Heap.size_after_update] at this
 ·by_cases hb:T∈(env::outer).filterMap (·.frame)
  ·exact absurd rfl (hfT T hb)
  ·exact ⟨_,N.keep T _ hb hTe hTe hTself⟩
end
section
variable {X:Cx} {pins:List (Addr×Obj)} {σ:List (Option V)} {H H':Hp} {s:Shared} {h':Heap}
theorem aO.step2 {g':Array GenState} {t':Nat} {d':Drawn} {ch:List Addr} (I:aO X pins σ H s)
  (hch:∀ b∈ch,(b∈X.ex\/X.s_0.heap.get? b=none)/\b≠X.env.locals/\(∀ x c,X.env.cells.lookup x=some c->c≠b)/\∀ p∈X.pn++pins,p.1≠b)
  (keep:∀ b o,b≠X.env.locals->b∉X.fs->b∉ch->s.heap.get? b=some o->H b=none->h'.get? b=some o)
  (slot:∀ b o,b≠X.env.locals->b∈X.fs->b∉ch->s.heap.get? b=some o->H b=none->∃ sl,h'.get? b=some {o with slots:=sl}) (free:∀ b o,b∉ch->s.heap.get? b=some o->H b=none->H' b=none)
  (there:∀ b o,b∉ch->s.heap.get? b=some o->∃ o',h'.get? b=some o')
  (tups:∀ b xs,H b=some (.tup xs)->H' b=some (.tup xs)) (frzs:∀ b o u,H b=some (.frz o u)->H' b=some (.frz o u)) (tbls:∀ b ps,H b=some (.tbl ps)->∃ more,H' b=some (.tbl (ps++more)))
  (ns:∀ m,s.heap.Ns X.env.locals m->h'.Ns X.env.locals m) (hok:kK X.prog X.w H' h') (hg:AllBare g'):
  aO X pins σ H' {s with heap:=h',gens:=g',drawn:=d',toks:=t'}:=by
 have neL:∀ b o,X.s_0.heap.get? b=some o->b≠X.env.locals:=fun b o e=>Nat.ne_of_lt (Nat.lt_of_lt_of_le (Heap.lt_size e) I.ok.above)
 have neC:∀ b o,X.s_0.heap.get? b=some o->b∉X.ex->b∉ch:=fun b o e hx hb=>by
  rcases (hch b hb).1 with z|z
  ·exact hx z
  ·rw [e] at z;cases z
 have cellK:∀ x c,X.env.cells.lookup x=some c->∀ v,s.heap.IsCell c v->h'.IsCell c v:=fun x c e v ⟨o,ho,hd⟩=>by
  have nch:c∉ch:=fun z=>(hch c z).2.2.1 x c e rfl
  by_cases hc:c∈X.fs
  ·obtain ⟨sl,q⟩:=slot c o (I.cne x c e) hc nch ho (I.freeC x c e)
   exact ⟨_,q,hd⟩
  ·exact ⟨o,keep c o (I.cne x c e) hc nch ho (I.freeC x c e),hd⟩
 refine ⟨I.ok,I.os,hg,⟨fun b o e n hb hx=>?_,fun b o e n hb hx=>?_,fun b o e n hx=>?_,fun b o e hx=>?_,fun b xs e=>tups b xs (I.base.tups b xs e),fun b o xs e=>frzs b o xs (I.base.frzs b o xs e),fun b ps e=>?_⟩,?_,fun x c e=>?_,?_,fun x c e=>?_,fun p hp=>?_,hok,I.len⟩
 ·exact keep b o (neL b o e) hb (neC b o e hx) (I.base.keep b o e n hb hx) (I.base.free b o e n hx)
 ·obtain ⟨sl,e1⟩:=I.base.slot b o e n hb hx
  obtain ⟨sl',e2⟩:=slot b _ (neL b o e) hb (neC b o e hx) e1 (I.base.free b o e n hx)
  exact ⟨sl',e2⟩
 ·obtain ⟨o',e1⟩:=I.base.there b o e hx
  exact free b o' (neC b o e hx) e1 (I.base.free b o e n hx)
 ·obtain ⟨o',e1⟩:=I.base.there b o e hx
  exact there b o' (neC b o e hx) e1
 ·obtain ⟨m1,e1⟩:=I.base.tbls b ps e
  obtain ⟨m2,e2⟩:=tbls b _ e1
  exact ⟨m1++m2,by rw [e2,Array.append_assoc]⟩
 ·obtain ⟨m,hn,hl⟩:=I.loc
  refine ⟨m,ns m hn,fun i x v e1 e2 e3=>?_⟩
  obtain ⟨u,r,l⟩:=hl i x v e1 e2 e3
  refine ⟨u,r,?_⟩
  rcases l with l|⟨k,c,e,z⟩
  ·exact .inl l
  ·exact .inr ⟨k,c,e,cellK x c e _ z⟩
 ·obtain ⟨v,z⟩:=I.cell x c e
  exact ⟨v,cellK x c e v z⟩
 ·obtain ⟨m,⟨o,_,_,ho,_⟩,_⟩:=I.loc
  exact free _ o (fun z=>(hch _ z).2.1 rfl) ho I.free
 ·obtain ⟨v,o,ho,hd⟩:=I.cell x c e
  exact free c o (fun z=>(hch c z).2.2.1 x c e rfl) ho (I.freeC x c e)
 ·obtain ⟨e,n,ne,nf,d⟩:=I.pin p hp
  have nch:p.1∉ch:=fun z=>(hch p.1 z).2.2.2 p hp rfl
  exact ⟨keep p.1 p.2 ne nf nch e n,free p.1 p.2 nch e n,ne,nf,d⟩
end
structure Xn (C:Addr) (H:Hp) (h h0:Heap) (e:Addr) (n:Int) (tb:Value):Prop where
 at_:∃ oe vs d mA,h.get? e=some oe/\oe.cls=.ref C/\oe.dict=some d/\oe.data=.fields vs/\vs[1]?=some tb/\h.Ns1 d mA/\(∀ f,jK (([("fault",V.int n)]:List (Str×V)).lookup f) (mA f))/\H d=none/\h0.get? d=none/\d≠e
 he:H e=none
 lo:h0.get? e=none
def tG (C:Addr) (H:Hp) (h h0:Heap) (e:Addr) (n:Int):Prop:=
 ∃ T,Xn C H h h0 e n (.ref T)/\T≠e/\h0.get? T=none/\H T=none/\∃ oT ts,h.get? T=some oT/\oT.data=.fields ts/\ts[3]?=some .none
def Sub (h0 h1:Heap):Prop:=∀ b o,h0.get? b=some o->∃ o',h1.get? b=some o'
theorem Sub.no {h0 h1:Heap} (x:Sub h0 h1) {b:Addr} (e:h1.get? b=none):h0.get? b=none:=by
 cases q:h0.get? b with
 |none=>rfl
 |some o=>
  obtain ⟨o',z⟩:=x b o q
  rw [e] at z;cases z
theorem Xn.mono {C:Addr} {H:Hp} {h h0 h1:Heap} {e:Addr} {n:Int} {tb:Value} (x:Xn C H h h1 e n tb) (hl:Sub h0 h1):Xn C H h h0 e n tb:=by
 obtain ⟨oe,vs,d,mA,g1,g2,g3,g4,g5,g6,g7,g8,g9,g10⟩:=x.at_
 exact ⟨⟨oe,vs,d,mA,g1,g2,g3,g4,g5,g6,g7,g8,hl.no g9,g10⟩,x.he,hl.no x.lo⟩
theorem tG.mono {C:Addr} {H:Hp} {h h0 h1:Heap} {e:Addr} {n:Int} (x:tG C H h h1 e n) (hl:Sub h0 h1):tG C H h h0 e n:=by
 obtain ⟨T,x,g1,g2,g3⟩:=x
 exact ⟨T,x.mono hl,g1,hl.no g2,g3⟩
def iS (C:Addr) (P:Program) (w:World):Fp:=fun outer H s E e s'=>
 ∃ (ea:Addr) (n:Int) (H':Hp),e=.ref ea/\s'.os=s.os/\AllBare s'.gens/\Un (yA outer) [] H H' s.heap s'.heap/\kK P w H' s'.heap/\tG C H' s'.heap s.heap ea n/\E (.int n 0) none H'
section
variable {X:Cx} {pins:List (Addr×Obj)} {σ:St} {H:Hp} {s:Shared} {h' h0:Heap} {e T0 T:Addr}
structure Cu (X:Cx) (pins:List (Addr×Obj)) (h0:Heap):Prop where
 s0:∀ b o,X.s_0.heap.get? b=some o->b∉X.ex->∃ o',h0.get? b=some o'
 loc:∃ o,h0.get? X.env.locals=some o
 cell:∀ x c,X.env.cells.lookup x=some c->∃ o,h0.get? c=some o
 pin:∀ p∈X.pn++pins,∃ o,h0.get? p.1=some o
 fr:∀ b∈yA X.stack,∃ o,h0.get? b=some o
theorem eJ {h0:Heap} {a b:Addr} (x:∃ o,h0.get? a=some o) (e:h0.get? b=none):a≠b:=by
 rintro rfl
 obtain ⟨o,q⟩:=x
 rw [e] at q;cases q
theorem aO.below (I:aO X pins σ H s):Cu X pins s.heap where
 s0:=I.base.there
 loc:=let ⟨_,⟨o,_,_,ho,_⟩,_⟩:=I.loc;⟨o,ho⟩
 cell:=fun x c e=>let ⟨_,o,z,_⟩:=I.cell x c e;⟨o,z⟩
 pin:=fun p hp=>⟨_,(I.pin p hp).1⟩
 fr:=fun b hb=>let ⟨_,o,ho,_⟩:=I.stack.mem hb;⟨o,ho⟩
theorem aO.noted (I:aO X pins σ H s) (N:Ew (yA X.stack) e T0 T s.heap h') (B:Cu X pins h0) (he:h0.get? e=none) (ht:h0.get? T0=none) (ne:H e=none) (nt:H T0=none):aO X pins σ H {s with heap:=h'}:=by
 have hch:∀ b∈[e,T0],h0.get? b=none:=fun b hb=>by
  rcases List.mem_cons.mp hb with rfl|hb
  ·exact he
  ·rw [List.mem_singleton.mp hb];exact ht
 have keep:∀ b o,b∉yA X.stack->b∉[e,T0]->s.heap.get? b=some o->h'.get? b=some o:=fun b o h1 h2 h3=>N.keep b o h1 (fun z=>h2 (by simp [z])) (fun z=>h2 (by simp [z])) h3
 have any:∀ b o,b∉[e,T0]->s.heap.get? b=some o->∃ sl,h'.get? b=some {o with slots:=sl}:=fun b o h2 h3=>by
  by_cases hb:b∈yA X.stack
  ·exact N.slot b o hb h3
  ·exact ⟨o.slots,keep b o hb h2 h3⟩
 refine I.step2 (g':=s.gens) (d':=s.drawn) (t':=s.toks) (ch:=[e,T0]) (fun b hb=>?_) (fun b o h1 h2 h3 h4 _=>?_) (fun b o _ _ h3 h4 _=>any b o h3 h4) (fun _ _ _ _ n=>n) (fun b o h3 h4=>?_) (fun _ _ q=>q) (fun _ _ _ q=>q) (fun b ps q=>⟨#[],by rw [q];simp⟩) (fun m hm=>?_) (fun b u q=>?_) I.bare
 ·have hb:=hch b hb
  refine ⟨?_,Ne.symm (eJ B.loc hb),fun x c q=>eJ (B.cell x c q) hb,fun p hp=>eJ (B.pin p hp) hb⟩
  by_cases hx:b∈X.ex
  ·exact .inl hx
  ·refine .inr ?_
   cases q:X.s_0.heap.get? b with
   |none=>rfl
   |some o=>exact absurd rfl (eJ (B.s0 b o q hx) hb)
 ·refine keep b o (fun z=>?_) h3 h4
  rcases List.mem_cons.mp (I.stkSub b z) with z|z
  ·exact h1 z
  ·exact h2 z
 ·obtain ⟨sl,q⟩:=any b o h3 h4
  exact ⟨_,q⟩
 ·obtain ⟨o,es,ep,ho,hd,r⟩:=hm
  obtain ⟨sl,q⟩:=any X.env.locals o (fun z=>absurd rfl (eJ B.loc (hch _ z))) ho
  exact ⟨_,es,ep,q,hd,r⟩
 ·have tr:∀ c v,H c=some v->c∉yA X.stack/\c∉[e,T0]:=fun c v q=>by
   refine ⟨fun z=>?_,fun z=>?_⟩
   ·rw [I.stkFree c z] at q;cases q
   ·rcases List.mem_cons.mp z with rfl|z
    ·rw [ne] at q;cases q
    ·rw [List.mem_singleton.mp z,nt] at q;cases q
  refine (I.hok b u q).stay (fun c v hc r=>?_) (fun _ z=>z) fun _ _ z=>z
  rcases hc with rfl|hc
  ·exact keep c v (tr c u q).1 (tr c u q).2 r
  ·exact keep c v (tr c _ hc).1 (tr c _ hc).2 r
theorem Xn.noted {C:Addr} {n:Int} {tb:Value} (I:aO X pins σ H s) (N:Ew (yA X.stack) e T0 T s.heap h') (B:Cu X pins h0) (hs:Sub h0 s.heap) (x:Xn C H s.heap h0 e n tb) (hk:∀ o es ep,s.heap.get? T0=some o->o.data≠.dict es ep):tG C H h' h0 e n:=by
 obtain ⟨oe,vs,d,mA,h1,h2,h3,h4,h5,h6,h7,h8,h9,h10⟩:=x.at_
 obtain ⟨oe',vs',g1,g2,g3,g4,g5,g6⟩:=N.self oe vs h1 h4 (Array.getElem?_eq_some_iff.mp h5).1
 have hTs:e<s.heap.objs.size:=Heap.lt_size h1
 refine ⟨T,⟨⟨oe',vs',d,mA,g1,g2.trans h2,g3.trans h3,g4,g6,h6.at fun o q=>N.keep d o (fun z=>absurd rfl (eJ (B.fr d z) h9)) h10 (fun z=>?_) q,h7,h8,h9,h10⟩,x.he,x.lo⟩,fun z=>?_,hs.no (Heap.get?_none_of_le N.big),I.hok.fresh N.big,N.head⟩
 ·obtain ⟨o',es,ep,q1,q2,_⟩:=h6
  rw [z] at q1
  exact hk o' es ep q1 q2
 ·exact absurd (Nat.lt_of_lt_of_le hTs N.big) (by rw [z];exact Nat.lt_irrefl _)
end
structure Sh (C:Addr) (X:Cx) (E:XK):Prop where
 pass:iO (iS C X.prog X.w) X E
 new:∀ (pins:List (Addr×Obj)) (σ:St) (H:Hp) (s:Shared) (ea:Addr) (n:Int) (h0:Heap),aO X pins σ H s->Cu X pins h0->Sub h0 s.heap->Xn C H s.heap h0 ea n .none->E (.int n 0) none H->X.xe (.ref ea) s
 own:PassesOwn (model X.prog X.w) X.A X.env X.xe
theorem aM {C:Addr} {P:Program} {w:World} {K:PySem.W.Frag} {mg:Str->Option Value} {base:Heap} {N:List Str} {qual:Str} {scope:Scope} {f:Addr} {cd:Value} {A:Around} {outer:List Env} {s:Shared} {H:Hp} {E:XK}:
  Sh C (Bl (iS C P w) P w K mg base N qual scope f cd A outer s H E) E where
 pass:=by
  intro pins σ H1 s1 e s' I ⟨ea,n,H',he,hos,hb,un,hok,fl,hE⟩
  subst he
  have I':=I.call' (ch:=[]) hos un hok hb (fun _ z=>nomatch z)
  have B:=I.below
  obtain ⟨T,x,hTe,hTl,hTn,oT,ts,t1,t2,t3⟩:=fl
  obtain ⟨oe,vs,d,mA,h1,h2,h3,h4,h5,h6,h7,h8,h9,h10⟩:=id x.at_
  show wpAny _ _ (leaving _ _) _ _ _
  unfold leaving
  refine wpAny_bind (yB (oeT:=0) I'.ok.frames I'.stack rfl h1 h4 h5 hTe t1 t2 t3 fun h' T' Nt=>?_)
  have I2:=I'.noted Nt B x.lo hTl x.he hTn
  have fl2:=Xn.noted (C:=C) I' Nt B (fun b o q=>un.there b o q (by simp)) x (fun o es ep q z=>by rw [t1] at q;cases q;rw [t2] at z;cases z)
  exact ⟨ea,n,H',rfl,I2.os,I2.bare,I2.base,I2.hok,(fl2.mono fun b o q=>B.s0 b o q (fun z=>nomatch (show b∈([]:List Addr) from z))),hE⟩
 new:=by
  intro pins σ H1 s1 ea n h0 I B hs x hE
  obtain ⟨oe,vs,d,mA,h1,h2,h3,h4,h5,h6,h7,h8,h9,h10⟩:=id x.at_
  show wpAny _ _ (leaving _ _) _ _ _
  unfold leaving
  refine wpAny_bind (Fu I.ok.frames I.stack rfl h1 h4 h5 fun h' T' Nt=>?_)
  have I2:=I.noted Nt B x.lo x.lo x.he x.he
  have fl2:=Xn.noted (C:=C) I Nt B hs x (fun o es ep q z=>by rw [h1] at q;cases q;rw [h4] at z;cases z)
  exact ⟨ea,n,H1,rfl,I2.os,I2.bare,I2.base,I2.hok,(fl2.mono fun b o q=>B.s0 b o q (fun z=>nomatch (show b∈([]:List Addr) from z))),hE⟩
 own:=PassesOwn.leaving
section
open Builtin Builtin.ObjectAttr
variable {prog:Program} {w:World} {A:Around} {E:Value->Shared->Prop} {h:Heap} {g:Array GenState} {d:Drawn} {t:Nat} {os:OsState}
variable {nm q:Str} {C N x:Addr} {bs bm:List Value} {sn:List Str} {sub:List Value} {ab:Bool} {col:Option Bool} {dd:Option Addr} {k0 k1 k2 k3 k5:Option Value} {B newId sa owner:String}
 {mN:Str->Option Value} {name:Str} {v:Value} {o:Obj}
structure zG (h h':Heap) (x:Addr) (o:Obj) (name:Str) (v:Value):Prop where
 obj:h'.get? x=some {o with dict:=some h.objs.size}
 ns:h'.Ns1 h.objs.size (fun y=>if y=name then some v else none)
 keep:∀ b ob,b≠x->h.get? b=some ob->h'.get? b=some ob
theorem Ds {tk:Tok} {Q:Fin->Shared->Prop} (SF:StoreFacts B bm sa owner)
  (hC:h.get? C=some (excClassObj nm q C N bs bm true sn sub ab col dd k0 k1 k2 k3 k5 newId)) (hn:h.Ns N mN) (hna:mN name=none)
  (hB:typeLookup (.type B) name=pure none) (hx:h.get? x=some o) (hc:o.cls=.ref C) (hnc:∀ c,o.data≠.cls c) (hdn:o.dict=none)
  (hq:∀ h' tk',zG h h' x o name v->Q (.done (.ret .none)) ⟨h',g,d,tk',os⟩):
  wpAny (model prog w) A (Builtin.«object.__setattr__» ⟨[.ref x,.str name tk,v],[]⟩) Q E ⟨h,g,d,t,os⟩:=by
 have hpass:=SF.passes (.ref x)
 unfold Builtin.«object.__setattr__»
 repeat (first|rw [refuse_eq]|(rw [refuseLoop_ref,hpass])|(with_reducible refine wpAny_loadPart_at hx ?_;rw [hc])|with_reducible refine wpAny_mroOf_exc hC ?_|(with_reducible refine wpAny_typeLookup_exc hC hn SF.mro hB ?_;rw [hna])|wp_step)
 rw [hdn,if_neg (by simp [typeHasDict])]
 split
 ·rename_i hcd
  cases hcd
 split
 ·rename_i c hcd
  exact absurd hcd (hnc c)
 ·have hx1:(h.push {cls:=.type "dict",data:=.dict #[]}).get? x=some o:=Heap.get?_push_of_some _ hx
  have hxs:x≠h.objs.size:=Nat.ne_of_lt (Heap.lt_size hx)
  refine wpAny_bind (wpAny_alloc' (wpAny_bind (wpAny_update' hx1 (wpAny_pure ?_))))
  have hgd:((h.push {cls:=.type "dict",data:=.dict #[]}).update x fun o=>{cls:=o.cls,dict:=some h.objs.size,data:=o.data,slots:=o.slots}).get? h.objs.size
    =some {cls:=.type "dict",data:=.dict #[]}:=(Heap.get?_update_ne _ _ _ _ hxs.symm).trans (Heap.get?_push_at rfl rfl)
  have hnd:((h.push {cls:=.type "dict",data:=.dict #[]}).update x fun o=>{cls:=o.cls,dict:=some h.objs.size,data:=o.data,slots:=o.slots}).Ns h.objs.size (fun _=>none):=
   ⟨_,#[],_,hgd,rfl,fun e he=>absurd he (by simp),fun _=>rfl⟩
  show wpAny _ _ (storeInDict h.objs.size (.str name tk) name v) _ _ _
  unfold storeInDict newKeyGuard
  refine wpAny_bind (wpAny_pure (wpAny_bind (wpAny_nsSet1 (Heap.Ns1.of_empty hnd) fun h' hn' hs=>?_)))
  obtain ⟨oD,esD,epD,hoD,hdD,hcD⟩:=hn'.count (Within.cons name v Within.nil)
  refine wpAny_bind (wpAny_lookBehind hoD (by rw [hdD];exact pastItsLine_dict (Nat.le_trans hcD (by rw [List.length_cons,List.length_nil,sizeLine_eq];(clear hcD;omega)))) ?_)
  wp_walk
  refine hq h' _ ⟨?_,hn',fun b ob hbx hb=>(hs.2 b (Nat.ne_of_lt (Heap.lt_size hb))).trans ((Heap.get?_update_ne _ _ _ _ hbx).trans (Heap.get?_push_of_some _ hb))⟩
  refine (hs.2 x hxs).trans (Heap.get?_update_self _ hx1 ?_)
  have hfr:=(Heap.get?_some_iff.mp hx).2
  obtain ⟨oc,od,odt,osl⟩:=o
  cases odt<;>first|rfl|exact hfr
theorem Hk {Q:Unit->Shared->Prop} (SF:StoreFacts B bm sa owner)
  (hC:h.get? C=some (excClassObj nm q C N bs bm true sn sub ab col dd k0 k1 k2 k3 k5 newId)) (hn:h.Ns N mN) (hns:mN "__setattr__"=none) (hna:mN name=none)
  (hB:typeLookup (.type B) name=pure none) (hx:h.get? x=some o) (hc:o.cls=.ref C) (hnc:∀ c,o.data≠.cls c) (hdn:o.dict=none)
  (hq:∀ h' tk',zG h h' x o name v->Q () ⟨h',g,d,tk',os⟩):
  wpAny (model prog w) A (setAttr (.ref x) name v) Q E ⟨h,g,d,t,os⟩:=by
 have f3:=SF.slot.bind (.ref x)
 unfold setAttr callSpecial? specialOf
 repeat (any_goals (first|assumption|(with_reducible refine wpAny_loadPart_at hx ?_;rw [hc])|(with_reducible refine wpAny_typeLookup_exc hC hn SF.mro SF.slot.lookup ?_;rw [hns])|wp_step))
 refine codeAny_call_builtin SF.slot.plain SF.entry (wpAny_check_sa SF hC hx hc (Ds SF hC hn hna hB hx hc hnc hdn fun h' tk' I'=>?_))
 repeat (any_goals (first|assumption|wp_step))
 exact hq h' tk' I'
end
section
open Builtin Builtin.ObjectAttr
variable {prog:Program} {w:World} {A:Around} {E:Value->Shared->Prop} {h:Heap} {g:Array GenState} {d:Drawn} {t:Nat} {os:OsState}
variable {nm q:Str} {C N x dx:Addr} {bs bm:List Value} {sn:List Str} {sub:List Value} {ab:Bool} {col:Option Bool} {dd:Option Addr} {k0 k1 k2 k3 k5:Option Value} {B newId:String}
 {mN mA:Str->Option Value} {name:Str} {v:Value} {o:Obj}
theorem Mg {tk:Tok} {Q:Fin->Shared->Prop} (FB:ExcAttrBase B bm)
  (hC:h.get? C=some (excClassObj nm q C N bs bm true sn sub ab col dd k0 k1 k2 k3 k5 newId)) (hn:h.Ns N mN) (hna:mN name=none)
  (hB:typeLookup (.type B) name=pure none) (hx:h.get? x=some o) (hc:o.cls=.ref C) (hnc:∀ c,o.data≠.cls c) (hdx:o.dict=some dx) (hA:h.Ns1 dx mA) (hv:mA name=some v) (hq:Q (.done (.ret v)) ⟨h,g,d,t,os⟩):
  wpAny (model prog w) A (Builtin.«object.__getattribute__» ⟨[.ref x,.str name tk],[]⟩) Q E ⟨h,g,d,t,os⟩:=by
 unfold Builtin.«object.__getattribute__»
 repeat (first|(with_reducible refine wpAny_loadPart_at hx ?_;rw [hc])|(with_reducible refine wpAny_typeLookup_exc hC hn FB.mro hB ?_;rw [hna])|wp_step)
 split
 ·rename_i c hcd
  exact absurd hcd (hnc c)
 unfold instanceDict
 repeat (first|(with_reducible refine wpAny_loadPart_at hx ?_;rw [hc])|with_reducible refine wpAny_loadPart_at hC ?_|wp_step)
 rw [hdx]
 repeat (first|(with_reducible refine wpAny_nsGet hA.ns ?_;rw [hv])|wp_step)
 exact hq
theorem Yu {tk:Tok} {fill expr:Bool} {Q:Value->Shared->Prop} (FB:ExcAttrBase B bm)
  (hC:h.get? C=some (excClassObj nm q C N bs bm true sn sub ab col dd k0 k1 k2 k3 k5 newId)) (hn:h.Ns N mN) (hng:mN "__getattribute__"=none) (hnh:mN "__getattr__"=none) (hna:mN name=none)
  (hB:typeLookup (.type B) name=pure none) (hx:h.get? x=some o) (hc:o.cls=.ref C) (hnc:∀ c,o.data≠.cls c) (hdx:o.dict=some dx) (hA:h.Ns1 dx mA) (hv:mA name=some v) (hh:handedOut v=pure v) (hq:Q v ⟨h,g,d,t,os⟩):
  wpAny (model prog w) A (getAttrBy (.ref x) (.str name tk) fill expr) Q E ⟨h,g,d,t,os⟩:=by
 have f3:=FB.ga.bind (.ref x)
 have hx0:(expr && onTheHeap (Value.builtin "BaseException.__getattribute__"))=false:=by cases expr<;>rfl
 have hx2:(Value.builtin "BaseException.__getattribute__"==Value.builtin "object.__getattribute__")=false:=by decide+kernel
 have hx1:(onTheHeap (Value.ref C) && Value.builtin "BaseException.__getattribute__"==Value.builtin "object.__getattribute__")=false:=by rw [hx2];rfl
 repeat (any_goals (first|assumption|(with_reducible refine wpAny_loadPart_at hx ?_;rw [hc])|(with_reducible refine wpAny_typeLookup_exc hC hn FB.mro FB.ga.lookup ?_;rw [hng])|(with_reducible refine wpAny_typeLookup_exc hC hn FB.mro FB.noGetattr ?_;rw [hnh])|wp_step))
 refine codeAny_call_builtin FB.ga.plain F.entry_bexc_ga (wpAny_check_ga_own FB hC .base hx hc (Mg FB hC hn hna hB hx hc hnc hdx hA hv ?_))
 repeat (any_goals (first|assumption|wp_step))
theorem Pt {expr:Bool} {Q:Value->Shared->Prop} (FB:ExcAttrBase B bm)
  (hC:h.get? C=some (excClassObj nm q C N bs bm true sn sub ab col dd k0 k1 k2 k3 k5 newId)) (hn:h.Ns N mN) (hng:mN "__getattribute__"=none) (hnh:mN "__getattr__"=none) (hna:mN name=none)
  (hB:typeLookup (.type B) name=pure none) (hx:h.get? x=some o) (hc:o.cls=.ref C) (hnc:∀ c,o.data≠.cls c) (hdx:o.dict=some dx) (hA:h.Ns1 dx mA) (hv:mA name=some v) (hh:handedOut v=pure v) (hq:Q v ⟨h,g,d,t+1,os⟩):
  wpAny (model prog w) A (getAttr (.ref x) name expr) Q E ⟨h,g,d,t,os⟩:=by
 unfold getAttr
 repeat (any_goals (first|assumption|with_reducible apply Yu FB hC hn hng hnh hna hB hx hc hnc hdx hA hv hh|wp_step))
end
structure Aa (K:PySem.W.Frag) (C fI:Addr):Prop where
 cls:∃ nm q N bs sn sub ab col dd k0 k1 k2 k3 k5,K.lookup C=some (excClassObj nm q C N bs Av true sn sub ab col dd k0 k1 k2 k3 k5 "Exception.__new__")/\PySem.W.nsOkIn K N=true/\PySem.W.nsIn K N "__init__"=some (some (.ref fI))/\
  PySem.W.nsIn K N "fault"=some none/\PySem.W.nsIn K N "__setattr__"=some none/\PySem.W.nsIn K N "__getattribute__"=some none/\PySem.W.nsIn K N "__getattr__"=some none
 fn:PySem.W.isFn K (.ref fI)=true
 kp:PySem.W.keepIn K (.ref C)=true
theorem Vo {K:PySem.W.Frag} {h:Heap} {N:Addr} {m:Str->Option Value} {x:Str} {v:Value} (X:K.In h) (G:h.Ns N m) (e:PySem.W.nsIn K N x=some (some v)):m x=some v:=by
 obtain ⟨o,es,ep,ho,hd,_,hf⟩:=G
 unfold PySem.W.nsIn at e
 split at e
 ·rename_i q
  have z:=X _ _ q
  rw [ho] at z
  cases z
  cases hd
  split at e
  ·rename_i en he
   cases e
   rw [<-hf]
   unfold nsFind findBy
   rw [<-Array.find?_toList,he]
   rfl
  ·split at e<;>cases e
 ·cases e
theorem xE:typeLookup (.type "Exception") "fault"=pure none:=by rw [typeLookup_type,builtinLookup_eq_fast];kernel_rfl
theorem Xc {K:PySem.W.Frag} {f:Addr} (h:PySem.W.isFn K (.ref f)=true):∃ o,K.lookup f=some o/\o.cls=.type "function":=by
 have h:((K.lookup f).map (·.cls)==some (.type "function"))=true:=h
 cases q:K.lookup f with
 |none=>rw [q] at h;cases h
 |some o=>
  rw [q] at h
  exact ⟨o,rfl,Option.some.inj (beq_iff_eq.mp h)⟩
theorem cE.there {P:Program} {w:World} {H:Hp} {h:Heap} {a:Addr} {o:HO} (x:cE P w H h a o):∃ ob,h.get? a=some ob:=by
 cases o with
 |lst xs=>obtain ⟨_,_,_,_,e⟩:=x;exact ⟨_,e⟩
 |tup xs=>obtain ⟨_,_,_,o,e,_⟩:=x;exact ⟨_,e⟩
 |dK aI=>obtain ⟨_,_,_,_,o,_,_,e,_⟩:=x;exact ⟨_,e⟩
 |dT aI=>obtain ⟨_,_,_,_,o,_,_,e,_⟩:=x;exact ⟨_,e⟩
 |set S n=>obtain ⟨o,_,_,_,e,_⟩:=x;exact ⟨_,e⟩
 |ins C dx fs=>obtain ⟨_,_,_,e,_⟩:=x;exact ⟨_,e⟩
 |own y=>exact x
 |xd fs=>obtain ⟨_,⟨_,_,_,e,_⟩,_⟩:=x;exact ⟨_,e⟩
 |rng lo hi=>obtain ⟨_,_,_,e⟩:=x;exact ⟨_,e⟩
 |frz ob u=>obtain ⟨e,_⟩:=x;exact ⟨_,e⟩
 |tbl ps=>exact ⟨_,(show h.get? a=some _ from x)⟩
 |met f y=>exact ⟨_,(show h.get? a=some _ from x)⟩
 |ext φ=>obtain ⟨_,e,_⟩:=x;exact e
theorem kK.none_of {P:Program} {w:World} {H:Hp} {h:Heap} {a:Addr} (x:kK P w H h) (e:h.get? a=none):H a=none:=by
 cases q:H a with
 |none=>rfl
 |some o=>
  obtain ⟨ob,z⟩:=(x a o q).there
  rw [e] at z;cases z
section
variable {X:Cx} {pins:List (Addr×Obj)} {σ:St} {H H':Hp} {s:Shared} {h':Heap} {a:Addr} {o:HO}
theorem aO.laidN {t':Nat} (I:aO X pins σ H s) (k:∀ b u,s.heap.get? b=some u->h'.get? b=some u) (hp:s.heap.get? a=none) (new:cE X.prog X.w (upd H a o) h' a o):
  aO X pins σ (upd H a o) {s with heap:=h',toks:=t'}:=by
 have hn:=I.hok.none_of hp
 have ne:∀ b u,s.heap.get? b=some u->b≠a:=fun b u q z=>by rw [z,hp] at q;cases q
 refine I.un ⟨fun b u q _ _ _=>k b u q,fun b u q _ _ _=>⟨u.slots,k b u q⟩,fun b u q n _=>by rw [aB (ne b u q)];exact n,fun b u q _=>⟨u,k b u q⟩,
  fun b xs q=>by rw [aB (aD q hn)];exact q,fun b u xs q=>by rw [aB (aD q hn)];exact q,fun b ps q=>⟨#[],by rw [aB (aD q hn),q];simp⟩⟩ fun b u q=>?_
 by_cases hb:b=a
 ·subst hb;rw [aC] at q;cases q;exact new
 ·rw [aB hb] at q
  exact (I.hok b u q).stay (fun c v _ z=>k c v z) (fun c z=>by rw [aB (aD z hn)];exact z) fun c xs z=>by rw [aB (aD z hn)];exact z
theorem aO.untrack {pins0:List (Addr×Obj)} {σ0:St} {s0:Shared} (I:aO X pins σ H' s) (I0:aO X pins0 σ0 H s0) (sub:∀ b o,H b=some o->H' b=some o)
  (own:∀ b a,H' b=some (.own a)->H b=some (.own a)) (tup:∀ b xs,H' b=some (.tup xs)->H b=some (.tup xs)):aO X pins σ H s:=by
 have no:∀ b,H' b=none->H b=none:=fun b e=>by
  cases q:H b with
  |none=>rfl
  |some o=>rw [sub b o q] at e;cases e
 refine ⟨I.ok,I.os,I.bare,⟨I.base.keep,I.base.slot,fun b o e n hx=>no b (I.base.free b o e n hx),I.base.there,I0.base.tups,I0.base.frzs,I0.base.tbls⟩,I.loc,I.cell,no _ I.free,fun x c e=>no c (I.freeC x c e),fun p hp=>?_,fun b o e=>?_,I.len⟩
 ·obtain ⟨h1,h2,h3⟩:=I.pin p hp
  exact ⟨h1,no _ h2,h3⟩
 ·exact (I.hok b o (sub b o e)).stay (fun _ _ _ q=>q) (fun c q=>own c b q) fun c xs q=>tup c xs q
end
def XO (C t e:Addr) (od:Option Addr):HO:=.ext fun h=>h.get? e=some {cls:=.ref C,dict:=od,data:=.fields #[.ref t,.none,.none,.none,.bool false,.none]}
theorem XO.ok {P:Program} {w:World} {H:Hp} {h:Heap} {C t e:Addr} {od:Option Addr} (q:h.get? e=some {cls:=.ref C,dict:=od,data:=.fields #[.ref t,.none,.none,.none,.bool false,.none]}):cE P w H h e (XO C t e od):=
 ⟨q,⟨_,q⟩,fun _ _ z k=>k _ z⟩
def Zo (C:Addr):Sp:=fun vs H Q _=>∃ e t n,vs=[.ref e,.int n]/\H e=some (XO C t e none)/\∀ d,H d=none->d≠e->Q .non (upd (upd H d (.xd [("fault",.int n)])) e (XO C t e (some d)))
def sXF (C:Addr) (ta tv:TE):TS:=fun D σ H=>tv σ H fun y H1=>ta σ H1 fun x H2=>∃ e t n,y=.int n/\x=.ref e/\H2 e=some (XO C t e none)/\∀ d,H2 d=none->d≠e->D.nx σ (upd (upd H2 d (.xd [("fault",.int n)])) e (XO C t e (some d)))
theorem Tx {X:Cx} {o value:Expr} {pos pos':Pos} {ta tv:TE} {C fI:Addr} (T:Aa X.K C fI) (ha:PE X o ta) (hv:PE X value tv) (hs:swapsWith value (some (.Attribute o "fault" pos')) pos.line X.env=pure false):
  PS X (.Assign [.Attribute o "fault" pos'] value pos) (sXF C ta tv):=by
 intro pins s σ H D I h
 refine plainObj_wpAny_Assign_Attribute (cF (hv pins s σ H _ I h) fun u s1 ⟨y,H1,I1,ry,q⟩=>cF (ha pins s1 σ H1 _ I1 q) fun ov s2 ⟨x,H2,I2,rx,e,t,n,ey,ex,ee,q2⟩=>?_) hs
 subst ex ey
 obtain rfl:ov=Value.ref e:=rx
 obtain ⟨tk,rfl⟩:=(show ∃ t,u=Value.int n t from ry)
 obtain ⟨nm,qn,N,bs,sn,sub,ab,col,dd,k0,k1,k2,k3,k5,lk,nok,ni,nf,ns,ng,nh⟩:=T.cls
 have hC:=I2.kIn _ _ lk
 have hN:s2.heap.Ns N (s2.heap.nsMap N):=.of_isNs (PySem.W.isNs_of_in I2.kIn nok)
 obtain ⟨obj,_,_⟩:=(show cE X.prog X.w H2 s2.heap e (XO C t e none) from I2.hok e _ ee)
 obtain ⟨hp,g,dr,tks,os⟩:=s2
 refine Hk F.store_Exception hC hN (PySem.W.ns_none_of I2.kIn hN ns) (PySem.W.ns_none_of I2.kIn hN nf) xE obj rfl (fun c z=>nomatch z) rfl fun h' tk' A=>?_
 have hde:hp.objs.size≠e:=Nat.ne_of_gt (Heap.lt_size obj)
 have hdn:H2 hp.objs.size=none:=I2.hok.fresh (Nat.le_refl _)
 refine ⟨σ,_,?_,q2 hp.objs.size hdn hde⟩
 have nb:∀ b (u:Obj),H2 b=none->b≠e:=fun b u z y=>by rw [y,ee] at z;cases z
 have nd:∀ b u,hp.get? b=some u->b≠hp.objs.size:=fun b u z=>Nat.ne_of_lt (Heap.lt_size z)
 have other:∀ b u,H2 b=some u->b≠e->upd (upd H2 hp.objs.size (.xd [("fault",.int n)])) e (XO C t e (some hp.objs.size)) b=some u:=fun b u z y=>by
  rw [aB y,aB (aD z hdn)];exact z
 refine I2.un (t':=tk') ⟨fun b u z y _ _=>A.keep b u (nb b u y) z,fun b u z y _ _=>⟨u.slots,A.keep b u (nb b u y) z⟩,fun b u z y _=>by rw [aB (nb b u y),aB (nd b u z)];exact y,fun b u z _=>?_,fun b xs z=>other b _ z ?_,fun b u xs z=>other b _ z ?_,fun b ps z=>⟨#[],by rw [other b _ z (by rintro rfl;rw [ee] at z;cases z)];simp⟩⟩ fun b u z=>?_
 ·by_cases y:b=e
  ·exact ⟨_,by rw [y];exact A.obj⟩
  ·exact ⟨u,A.keep b u y z⟩
 ·rintro rfl;rw [ee] at z;cases z
 ·rintro rfl;rw [ee] at z;cases z
 ·by_cases y:b=e
  ·subst y
   rw [aC] at z
   cases z
   exact XO.ok A.obj
  ·rw [aB y] at z
   by_cases y2:b=hp.objs.size
   ·subst y2
    rw [aC] at z
    cases z
    refine ⟨_,A.ns,fun f=>?_⟩
    show jK ((lW "fault" (V.int n) []).lookup f) (if f="fault" then some (Value.int n tk) else none)
    rw [mC]
    by_cases y3:f="fault"
    ·rw [if_pos y3,if_pos y3];exact ⟨tk,rfl⟩
    ·rw [if_neg y3,if_neg y3];exact True.intro
   ·rw [aB y2] at z
    refine (I2.hok b u z).stay (fun c v hc q=>A.keep c v ?_ q) (fun c q=>other c _ q ?_) fun c xs q=>other c _ q ?_
    ·rcases hc with rfl|hc
     ·exact y
     ·rintro rfl;rw [ee] at hc;cases hc
    ·rintro rfl;rw [ee] at q;cases q
    ·rintro rfl;rw [ee] at q;cases q
section
variable {M:Model} {A:Around} {E:Value->Shared->Prop} {env:Env}
variable {nm q:Str} {C N:Addr} {bs bm:List Value} {hdct:Bool} {sn:List Str} {sub:List Value} {ab:Bool} {col:Option Bool} {dd:Option Addr} {k0 k1 k2 k3 k5:Option Value} {newId:String}
theorem Gr {s:Shared} {x:Sem Value} {Q:Flow->Shared->Prop} (hbase:bm.contains (.type "BaseException")=true) (hh:A.handled=none)
  (h:wpAny M A x (fun v s1=>∃ e oe vs,v=.ref e/\s1.heap.get? C=some (excClassObj nm q C N bs bm hdct sn sub ab col dd k0 k1 k2 k3 k5 newId)/\s1.heap.get? e=some oe/\oe.cls=.ref C/\oe.data=.fields vs/\vs[1]?=some .none/\E (.ref e) s1) E s):
  wpAny M A (raiseStmt env (some x) none) Q E s:=by
 have hcB:(Value.ref C::bm).contains (.type "BaseException")=true:=by rw [List.contains_cons,hbase,Bool.or_true]
 unfold raiseStmt
 refine wpAny_bind (wpAny_mono h (fun v s1 h1=>?_) fun _ _ x=>x)
 obtain ⟨e,oe,vs,rfl,hC,he,hcl,hd,h1,hE⟩:=h1
 obtain ⟨hp,g,d,tk,os⟩:=s1
 repeat (first|(with_reducible refine wpAny_loadPart_at he ?_;rw [hcl])|with_reducible refine wpAny_loadPart_at hC ?_|(with_reducible refine wpAny_isSubtype_exc hC ?_;rw [hcB])|with_reducible refine wpAny_field he hd h1 ?_|wp_step)
 exact wpAny_raiseNew_none hh hE
end
def Yj (E:XK):List V->Hp->Prop:=fun vs H=>match vs with
 |[x]=>∃ n,x=.int n/\E (.int n 0) none H
 |_=>False
def Xv (E:XK) (te:TE):TS:=fun _ σ H=>te σ H fun v H1=>∃ n,v=.int n/\E (.int n 0) none H1
theorem mB {X:Cx} {C fI:Addr} {fd:FuncData} {k:Nat} {E:XK} {x:Str} {np cpos pos:Pos} {e:Expr} {te:TE} (L:Sh C X E) (hc:X.calm=true) (T:Aa X.K C fI)
  (G:bO X.prog X.w X.K X.mg X.base bS k fI fd ["self","fault"] (Zo C)) (hr:fU (k+1) X.A) (hg:Gl X x) (hm:X.mg x=some (.ref C)) (hb:eV X.K fd ["self","fault"] []) (he:PE X e te)
  (hdb:(x==("__debug__":Str))=false:=by decide) (hst:starEach [e] X.env=(false,eval e X.env)::starEach [] X.env:=by rfl):
  PS X (.Raise (some (.Call (.Name x np) [e] [] cpos)) none pos) (Xv E te):=by
 intro pins s σ H D I h
 have ha:PA X [e] (eU te hZ):=aA he aF hst
 have h':eU te hZ σ H (Yj E):=h
 obtain ⟨nm,qn,N,bs,sn,sub,ab,col,dd,k0,k1,k2,k3,k5,lk,nok,ni,nf,ns,ng,nh⟩:=id T.cls
 rw [arm_exec_Raise]
 refine wpAny_bind (wpAny_standAt (Gr (C:=C) (nm:=nm) (q:=qn) (N:=N) (bs:=bs) (bm:=Av) (hdct:=true) (sn:=sn) (sub:=sub) (ab:=ab) (col:=col) (dd:=dd) (k0:=k0) (k1:=k1) (k2:=k2) (k3:=k3) (k5:=k5) (newId:="Exception.__new__")
  F.excBase_Exception.hasBase (I.ok.hd hc) (wpAny_bind (cF (Q:=fun v s3=>∃ ea oe vs,v=.ref ea/\s3.heap.get? C=some (excClassObj nm qn C N bs Av true sn sub ab col dd k0 k1 k2 k3 k5 "Exception.__new__")/\s3.heap.get? ea=some oe/\oe.cls=.ref C/\oe.data=.fields vs/\vs[1]?=some .none/\X.xe (.ref ea) s3) ?_ fun v s3 h3=>wpAny_bind (wpAny_standAt (wpAny_pure h3))))))
 refine wpAny_Call_Name_kw (jA I hg hm ?_ hdb)
 refine PySem.W.callWith_K (h₀:=X.base) I.ok.mod.kin T.kp (cF (ha cpos pins s σ H _ I h') fun us s1 ⟨vs,H1,I1,r,q⟩=>⟨I1.kIn,?_⟩) hst rfl
 match vs,r,q with
 |[x1],.cons (b:=u) r1 .nil,q=>
  obtain ⟨n,rfl,hE⟩:=q
  obtain ⟨tk,rfl⟩:=(show ∃ t,u=Value.int n t from r1)
  obtain ⟨oI,hoI,hfc⟩:=Xc T.fn
  have hC:=I1.kIn _ _ lk
  have hN:s1.heap.Ns N (s1.heap.nsMap N):=.of_isNs (PySem.W.isNs_of_in I1.kIn nok)
  have B:=I1.below
  obtain ⟨hp,g,dr,tks,os⟩:=s1
  refine wpAny_call_exc_init F.excBase_Exception hC hN (Vo I1.kIn hN ni) (I1.kIn _ _ hoI) hfc (fun h1 ea hm=>?_)
  obtain ⟨t,ht,htn,htt⟩:=hm.there
  have I2:aO X pins σ (upd H1 ea (XO C t ea none)) ⟨h1,g,dr,tks,os⟩:=I1.laidN (t':=tks) hm.keeps hm.new (XO.ok ht)
  refine wpAny_call (codeAny_mono (G.run (X.A.under (.builtin "type.__call__" ⟨.ref C::[.int n tk],[]⟩)) X.stack ⟨h1,g,dr,tks,os⟩ (upd H1 ea (XO C t ea none)) ⟨.ref ea::[.int n tk],[]⟩ [.ref ea,.int n tk] [.ref ea,.int n]
   (fun v H2=>v=.non/\∃ d,d≠ea/\H1 d=none/\H2=upd (upd (upd H1 ea (XO C t ea none)) d (.xd [("fault",.int n)])) ea (XO C t ea (some d))) E0 (hr.make C [.int n tk] []) (I2.env0.make C [.int n tk] [])
   (hb _ [.ref ea,.int n tk] I2.kIn rfl) (.cons rfl (.cons ⟨tk,rfl⟩ .nil)) ⟨ea,t,n,rfl,aC,fun d hd hde=>⟨rfl,d,hde,by rw [aB hde] at hd;exact hd,rfl⟩⟩) fun r s' hq'=>?_)
  cases r with
  |error e=>exact False.elim hq'
  |ok fl=>
   cases fl with
   |ret u=>
    obtain ⟨v,H',hos,hbare,un,hok,rv,ev,d,hde,hdn,hH⟩:=hq'
    subst ev
    have I3:aO X pins σ H' s':=I2.call' (ch:=[]) hos un hok hbare (fun _ z=>nomatch z)
    have hobj:=(show cE X.prog X.w H' s'.heap ea (XO C t ea (some d)) from I3.hok ea _ (by rw [hH];exact aC)).1
    refine ⟨rv,ea,_,_,rfl,I3.kIn _ _ lk,hobj,rfl,rfl,rfl,?_⟩
    have hea:H1 ea=none:=I1.hok.none_of hm.new
    have hHd:H' d=some (.xd [("fault",.int n)]):=by rw [hH,aB hde,aC]
    have hHe:H' ea=some (XO C t ea (some d)):=by rw [hH];exact aC
    have oth:∀ b,b≠ea->b≠d->H' b=H1 b:=fun b z1 z2=>by rw [hH,aB z1,aB z2,aB z1]
    have hnew:h1.get? d=none:=by
     cases z:h1.get? d with
     |none=>rfl
     |some ob=>
      have y:=un.free d ob z (by rw [aB hde];exact hdn) (by simp)
      rw [hHd] at y;cases y
    have hnp:hp.get? d=none:=by
     cases z:hp.get? d with
     |none=>rfl
     |some ob=>rw [hm.keeps d ob z] at hnew;cases hnew
    have I4:aO X pins σ H1 s':=I3.untrack I1 (fun b o z=>by rw [oth b (aD z hea) (aD z hdn)];exact z)
     (fun b a z=>by rw [<-oth b (by rintro rfl;rw [hHe] at z;cases z) (by rintro rfl;rw [hHd] at z;cases z)];exact z)
     (fun b a z=>by rw [<-oth b (by rintro rfl;rw [hHe] at z;cases z) (by rintro rfl;rw [hHd] at z;cases z)];exact z)
    obtain ⟨mA,nsd,rel⟩:=(show cE X.prog X.w H' s'.heap d (.xd [("fault",.int n)]) from I3.hok d _ hHd)
    exact L.new pins σ H1 s' ea n hp I4 B (fun b o z=>un.there b o (hm.keeps b o z) (by simp)) ⟨⟨_,_,d,mA,hobj,rfl,rfl,rfl,rfl,nsd,rel,hdn,hnp,hde⟩,hea,hm.new⟩ hE
   |next=>exact False.elim hq'
   |brk=>exact False.elim hq'
   |cont=>exact False.elim hq'
abbrev Cx.tryIn (X:Cx) (xe:Value->Shared->Prop) (pn:List (Addr×Obj)):Cx:={X with xe:=xe,pn:=pn}
abbrev Cx.inH (X:Cx) (ea:Addr):Cx:={X with A:=X.A.mark (some (.ref ea)),calm:=false,xe:=fun _ _=>False}
section
variable {X:Cx} {pins pins':List (Addr×Obj)} {σ:St} {H:Hp} {s:Shared} {xe:Value->Shared->Prop} {ea:Addr}
theorem Cx.Ok.tryIn (ok:X.Ok) (xe:Value->Shared->Prop) (pn:List (Addr×Obj)):(X.tryIn xe pn).Ok:=
 ⟨ok.mod,ok.kind,ok.glob,ok.blt,ok.above,ok.inj,ok.has,ok.cab,ok.hd,ok.frames,ok.stk,ok.exf,ok.bs,ok.bsz,ok.noex,ok.exfs,ok.funs,ok.frf⟩
theorem Cx.Ok.inH (ok:X.Ok) (ea:Addr):(X.inH ea).Ok:=
 ⟨ok.mod,ok.kind,ok.glob,ok.blt,ok.above,ok.inj,ok.has,ok.cab,(fun z=>nomatch (show false=true from z)),ok.frames,ok.stk,ok.exf,ok.bs,ok.bsz,ok.noex,ok.exfs,ok.funs,ok.frf⟩
theorem aO.tryIn (I:aO X pins σ H s) (xe:Value->Shared->Prop):aO (X.tryIn xe (X.pn++pins)) [] σ H s:=
 ⟨I.ok.tryIn _ _,I.os,I.bare,I.base,I.loc,I.cell,I.free,I.freeC,fun p hp=>I.pin p (by rw [List.append_nil] at hp;exact hp),I.hok,I.len⟩
theorem aO.untry (ok:X.Ok) (I:aO (X.tryIn xe (X.pn++pins)) pins' σ H s):aO X pins σ H s:=
 ⟨ok,I.os,I.bare,I.base,I.loc,I.cell,I.free,I.freeC,fun p hp=>I.pin p (List.mem_append_left _ hp),I.hok,I.len⟩
theorem aO.inH (I:aO X pins σ H s) (ea:Addr):aO (X.inH ea) pins σ H s:=⟨I.ok.inH ea,I.os,I.bare,I.base,I.loc,I.cell,I.free,I.freeC,I.pin,I.hok,I.len⟩
theorem aO.outH (ok:X.Ok) (I:aO (X.inH ea) pins σ H s):aO X pins σ H s:=⟨ok,I.os,I.bare,I.base,I.loc,I.cell,I.free,I.freeC,I.pin,I.hok,I.len⟩
theorem SP.untry {D:fT} {f:Flow} (ok:X.Ok) (h:SP (X.tryIn xe (X.pn++pins)) pins' D f s):SP X pins D f s:=by
 cases f with
 |next=>obtain ⟨σ',H',I,q⟩:=h;exact ⟨σ',H',I.untry ok,q⟩
 |brk=>obtain ⟨σ',H',I,q⟩:=h;exact ⟨σ',H',I.untry ok,q⟩
 |cont=>obtain ⟨σ',H',I,q⟩:=h;exact ⟨σ',H',I.untry ok,q⟩
 |ret u=>obtain ⟨v,σ',H',I,r,q⟩:=h;exact ⟨v,σ',H',I.untry ok,r,q⟩
theorem SP.outH {D:fT} {f:Flow} (ok:X.Ok) (h:SP (X.inH ea) pins D f s):SP X pins D f s:=by
 cases f with
 |next=>obtain ⟨σ',H',I,q⟩:=h;exact ⟨σ',H',I.outH ok,q⟩
 |brk=>obtain ⟨σ',H',I,q⟩:=h;exact ⟨σ',H',I.outH ok,q⟩
 |cont=>obtain ⟨σ',H',I,q⟩:=h;exact ⟨σ',H',I.outH ok,q⟩
 |ret u=>obtain ⟨v,σ',H',I,r,q⟩:=h;exact ⟨v,σ',H',I.outH ok,r,q⟩
theorem sV {C:Addr} {Q:Shared->Prop} {E:Value->Shared->Prop} {H':Hp} {s':Shared} {n:Int} (hst:X.stack=X.env::X.outer) (hfr:X.env.frame=some X.env.locals) (I:aO X pins σ H s) (hos:s'.os=s.os) (hb:AllBare s'.gens)
  (un:Un (yA X.stack) [] H H' s.heap s'.heap) (hok:kK X.prog X.w H' s'.heap) (fl:tG C H' s'.heap s.heap ea n)
  (h:∀ s3,aO X pins σ H' s3->tG C H' s3.heap s.heap ea n->Q s3):
  wpAny (model X.prog X.w) X.A (noteFrame (.ref ea) X.env) (fun _ s2=>wpAny (model X.prog X.w) X.A (setFlight (.ref ea) none) (fun _ s3=>Q s3) E s2) E s':=by
 have I':=I.call' (ch:=[]) hos un hok hb (fun _ z=>nomatch z)
 have B:=I.below
 obtain ⟨T,x,hTe,hTl,hTn,oT,ts,t1,t2,t3⟩:=fl
 obtain ⟨oe,vs,d,mA,h1,h2,h3,h4,h5,h6,h7,h8,h9,h10⟩:=id x.at_
 have fe:yA X.stack=(X.env::X.outer).filterMap (·.frame):=by rw [hst];rfl
 refine yB (outer:=X.outer) (base:=X.base) (oeT:=0) (by rw [I'.ok.frames,hst]) (by rw [<-hst];exact I'.stack) hfr h1 h4 h5 hTe t1 t2 t3 fun h' T' Nt=>?_
 rw [<-fe] at Nt
 have I2:=I'.noted Nt B x.lo hTl x.he hTn
 have fl2:=Xn.noted (C:=C) I' Nt B (fun b o q=>un.there b o q (by simp)) x (fun o es ep q z=>by rw [t1] at q;cases q;rw [t2] at z;cases z)
 exact h _ I2 fl2
theorem tF {M:Model} {A:Around} {C:Addr} {h0:Heap} {n:Int} {Q:Unit->Shared->Prop} {E:Value->Shared->Prop} (fl:tG C H s.heap h0 ea n) (h:Q () s):wpAny M A (setFlight (.ref ea) none) Q E s:=by
 obtain ⟨T,x,hTe,hTl,hTn,oT,ts,t1,t2,t3⟩:=fl
 obtain ⟨oe,vs,d,mA,h1,h2,h3,h4,h5,h6,h7,h8,h9,h10⟩:=id x.at_
 refine wpAny_setFlight_none h1 h4 h5 t1 t2 (Array.getElem?_eq_some_iff.mp t3).1 ?_
 rw [Heap.update_setField_same s.heap T oT ts 3 .none t1 t2 t3]
 exact h
end
def aC9 (n:Nat) (tb:XK->TS) (ts:TS):TS:=fun D σ H=>tb (fun _ _ H'=>∀ σ':St,σ'.length=n->ts D σ' H') D σ H
theorem Zw {X:Cx} {C fI:Addr} {x:Str} {np hpos pos:Pos} {body:List Stmt} {b0:Stmt} {suite:List Stmt} {tb:XK->TS} {ts:TS} (T:Aa X.K C fI) (hst:X.stack=X.env::X.outer) (hfr:X.env.frame=some X.env.locals) (hg:Gl X x) (hm:X.mg x=some (.ref C))
  (hb:∀ xe pn E',iO (iS C X.prog X.w) (X.tryIn xe pn) E'->zF (X.tryIn xe pn) body (tb E')) (hs:∀ ea,zF (X.inH ea) (b0::suite) ts) (hdb:(x==("__debug__":Str))=false:=by decide):
  PS X (.Try body [.ExceptHandler (some (.Name x np)) none (b0::suite) hpos] [] [] pos) (aC9 X.N.length tb ts):=by
 intro pins s σ H D I h
 have ok:=I.ok
 refine wpAny_Try_except (cF (hb _ (X.pn++pins) _ ?_ [] s σ H D (I.tryIn _) h) fun f s1 q=>?_)
 ·intro pins' σ' H1 s1 e s' I1 ⟨ea,n,H',he,hos,hbare,un,hok,fl,hE⟩
  subst he
  refine sV hst hfr (I1.untry ok) hos hbare un hok fl fun s3 I3 fl3=>?_
  obtain ⟨nm,qn,N,bs,sn,sub,ab,col,dd,k0,k1,k2,k3,k5,lk,nok,ni,nf,ns,ng,nh⟩:=id T.cls
  refine wpAny_handleBy_cons (codeAny_handlers_test (jA (X:=X.inH ea) (I3.inH ea) hg hm ?_ hdb)) (fun z=>nomatch z)
  obtain ⟨oe,vs,d,mA,h1,h2,h3,h4,h5,h6⟩:=fl3.choose_spec.1.at_
  have hC:=I3.kIn _ _ lk
  obtain ⟨hp,g,dr,tks,os⟩:=s3
  refine wpAny_excMatches_sub_self hC h1 h2 F.excBase_Exception.hasBase ?_
  refine codeAny_handlers_suite (tF fl3 ?_)
  exact wpAny_mono (hs ea pins _ σ' H' D (I3.inH ea) (hE σ' I3.len)) (fun f s4 q=>q.outH ok) fun _ _ z=>False.elim z
 ·have q':=q.untry ok
  cases f with
  |next=>exact wpAny_execs_nil q'
  |brk=>exact q'
  |cont=>exact q'
  |ret u=>exact q'
section
variable {X:Cx} {pins:List (Addr×Obj)} {σ:St} {H:Hp} {s:Shared} {h' h0:Heap} {a:Addr} {o:HO}
theorem aO.track (I:aO X pins σ H s) (B:Cu X pins h0) (hn:h0.get? a=none) (hH:H a=none) (ok:cE X.prog X.w (upd H a o) s.heap a o):aO X pins σ (upd H a o) s:=by
 refine ⟨I.ok,I.os,I.bare,⟨I.base.keep,I.base.slot,fun b ob e n hx=>?_,I.base.there,fun b xs e=>?_,fun b ob xs e=>?_,fun b ps e=>?_⟩,I.loc,I.cell,?_,fun x c e=>?_,fun p hp=>?_,fun b u e=>?_,I.len⟩
 ·rw [aB (eJ (B.s0 b ob e hx) hn)]
  exact I.base.free b ob e n hx
 ·have e:=I.base.tups b xs e
  rw [aB (aD e hH)];exact e
 ·have e:=I.base.frzs b ob xs e
  rw [aB (aD e hH)];exact e
 ·obtain ⟨m,e⟩:=I.base.tbls b ps e
  exact ⟨m,by rw [aB (aD e hH)];exact e⟩
 ·rw [aB (eJ B.loc hn)];exact I.free
 ·rw [aB (eJ (B.cell x c e) hn)];exact I.freeC x c e
 ·obtain ⟨h1,h2,h3⟩:=I.pin p hp
  exact ⟨h1,by rw [aB (eJ (B.pin p hp) hn)];exact h2,h3⟩
 ·by_cases hb:b=a
  ·subst hb;rw [aC] at e;cases e;exact ok
  ·rw [aB hb] at e
   exact (I.hok b u e).stay (fun _ _ _ q=>q) (fun c q=>by rw [aB (aD q hH)];exact q) fun c xs q=>by rw [aB (aD q hH)];exact q
theorem aO.forget {m':Str->Option Value} {t':Nat} (I:aO X pins σ H s) (hn:h'.Ns X.env.locals m') (hs:Heap.SameBut X.env.locals s.heap h'):aO X pins (List.replicate X.N.length none) H {s with heap:=h',toks:=t'}:=by
 have old:∀ b ob,X.s_0.heap.get? b=some ob->b≠X.env.locals:=fun b ob e=>Nat.ne_of_lt (Nat.lt_of_lt_of_le (Heap.lt_size e) I.ok.above)
 refine ⟨I.ok,I.os,I.bare,⟨fun b ob e n hb hx=>(hs.2 b (old b ob e)).trans (I.base.keep b ob e n hb hx),fun b ob e n hb hx=>?_,I.base.free,fun b ob e hx=>?_,I.base.tups,I.base.frzs,I.base.tbls⟩,⟨_,hn,fun j y v e1 e2 e3=>?_⟩,fun y c e=>?_,I.free,I.freeC,fun p hp=>?_,fun b ob e=>?_,by simp⟩
 ·obtain ⟨sl,e1⟩:=I.base.slot b ob e n hb hx
  exact ⟨sl,(hs.2 b (old b ob e)).trans e1⟩
 ·obtain ⟨o',e1⟩:=I.base.there b ob e hx
  exact ⟨o',(hs.2 b (old b ob e)).trans e1⟩
 ·rw [List.getElem?_replicate] at e2
  split at e2<;>cases e2
 ·obtain ⟨w',z⟩:=I.cell y c e
  exact ⟨w',z.sameBut hs (I.cne y c e)⟩
 ·obtain ⟨e,n,ne,nf,d⟩:=I.pin p hp
  exact ⟨(hs.2 p.1 ne).trans e,n,ne,nf,d⟩
 ·refine (I.hok b ob e).stay (fun c w' hc q=>(hs.2 c ?_).trans q) (fun _ q=>q) fun _ _ q=>q
  rintro rfl
  rcases hc with rfl|hc
  ·rw [I.free] at e;cases e
  ·rw [I.free] at hc;cases hc
end
def XR (C d e:Addr):HO:=.ext fun h=>∃ oe vs,h.get? e=some oe/\oe.cls=.ref C/\oe.dict=some d/\oe.data=.fields vs
theorem XR.ok {P:Program} {w:World} {H:Hp} {h:Heap} {C d e:Addr} {oe:Obj} {vs:Array Value} (h1:h.get? e=some oe) (h2:oe.cls=.ref C) (h3:oe.dict=some d) (h4:oe.data=.fields vs):cE P w H h e (XR C d e):=
 ⟨⟨oe,vs,h1,h2,h3,h4⟩,⟨_,h1⟩,fun _ _ ⟨oe,vs,z,r⟩ k=>⟨oe,vs,k _ z,r⟩⟩
def aA9 (C:Addr) (ta:TE):TE:=fun σ H Q=>ta σ H fun x H1=>∃ e d n,x=.ref e/\H1 e=some (XR C d e)/\H1 d=some (.xd [("fault",.int n)])/\Q (.int n) H1
theorem Uz {X:Cx} {C fI:Addr} {e:Expr} {pos:Pos} {ta:TE} (T:Aa X.K C fI) (he:PE X e ta) (hb:attributeBase e "fault" X.env (eval e X.env)=eval e X.env):PE X (.Attribute e "fault" pos) (aA9 C ta):=by
 intro pins s σ H Q I h
 refine Kl hb (cF (he pins s σ H _ I h) fun u s1 ⟨x,H1,I1,rx,ea,d,n,ex,h1,h2,q⟩=>?_)
 subst ex
 obtain rfl:u=Value.ref ea:=rx
 obtain ⟨nm,qn,N,bs,sn,sub,ab,col,dd,k0,k1,k2,k3,k5,lk,nok,ni,nf,ns,ng,nh⟩:=id T.cls
 have hC:=I1.kIn _ _ lk
 have hN:s1.heap.Ns N (s1.heap.nsMap N):=.of_isNs (PySem.W.isNs_of_in I1.kIn nok)
 obtain ⟨⟨oe,vs,g1,g2,g3,g4⟩,_,_⟩:=(show cE X.prog X.w H1 s1.heap ea (XR C d ea) from I1.hok ea _ h1)
 obtain ⟨mA,nsd,rel⟩:=(show cE X.prog X.w H1 s1.heap d (.xd [("fault",.int n)]) from I1.hok d _ h2)
 obtain ⟨uf,hf,tk',rfl⟩:=jK.some_of (v:=V.int n) (o:=mA "fault") (rel "fault")
 have I2:=I1.tok (s1.toks+1)
 obtain ⟨hp,g,dr,tks,os⟩:=s1
 exact Pt F.attrBase_Exception hC hN (PySem.W.ns_none_of I1.kIn hN ng) (PySem.W.ns_none_of I1.kIn hN nh) (PySem.W.ns_none_of I1.kIn hN nf) xE g1 g2 (fun c z=>by rw [g4] at z;cases z) g3 nsd hf rfl ⟨.int n,H1,I2,⟨_,rfl⟩,q⟩
def Xx (C:Addr) (i n:Nat) (tb:XK->TS) (ts:TS):TS:=fun D σ H=>tb (fun v _ H'=>∃ f,v=.int f 0/\∀ (σ':St) (e d:Addr),σ'.length=n->H' e=none->H' d=none->d≠e->
 ts {nx:=fun _ _=>False,rt:=D.rt} (σ'.set i (some (.ref e))) (upd (upd H' d (.xd [("fault",.int f)])) e (XR C d e))) D σ H
theorem Ol {X:Cx} {C fI:Addr} {x y:Str} {i:Nat} {np hpos pos:Pos} {body:List Stmt} {b0:Stmt} {suite:List Stmt} {tb:XK->TS} {ts:TS} (T:Aa X.K C fI) (hst:X.stack=X.env::X.outer) (hfr:X.env.frame=some X.env.locals) (hg:Gl X x) (hm:X.mg x=some (.ref C))
  (hN:X.N.Nodup) (hi:X.N[i]?=some y) (hy:X.env.kindOf y=some .local)
  (hb:∀ xe pn E',iO (iS C X.prog X.w) (X.tryIn xe pn) E'->zF (X.tryIn xe pn) body (tb E')) (hs:∀ ea,zF (X.inH ea) (b0::suite) ts) (hdb:(x==("__debug__":Str))=false:=by decide):
  PS X (.Try body [.ExceptHandler (some (.Name x np)) (some y) (b0::suite) hpos] [] [] pos) (Xx C i X.N.length tb ts):=by
 intro pins s σ H D I h
 have ok:=I.ok
 refine wpAny_Try_except (cF (hb _ (X.pn++pins) _ ?_ [] s σ H D (I.tryIn _) h) fun f s1 q=>?_)
 ·intro pins' σ' H1 s1 e s' I1 ⟨ea,n,H',he,hos,hbare,un,hok,fl,fn,hfn,hE⟩
  subst he
  obtain rfl:n=fn:=by cases hfn;rfl
  have B:=(I1.untry ok).below
  refine sV hst hfr (I1.untry ok) hos hbare un hok fl fun s3 I3 fl3=>?_
  obtain ⟨nm,qn,N,bs,sn,sub,ab,col,dd,k0,k1,k2,k3,k5,lk,nok,ni,nf,ns,ng,nh⟩:=id T.cls
  refine wpAny_handleBy_cons (codeAny_handlers_test (jA (X:=X.inH ea) (I3.inH ea) hg hm ?_ hdb)) (fun z=>nomatch z)
  have fl4:=fl3
  obtain ⟨TT,xn,_⟩:=fl4
  obtain ⟨oe,vs,d,mA,h1,h2,h3,h4,h5,h6,h7,h8,h9,h10⟩:=id xn.at_
  have hC:=I3.kIn _ _ lk
  have It:aO X pins σ' (upd (upd H' d (.xd [("fault",.int n)])) ea (XR C d ea)) s3:=by
   have J:=I3.track (a:=d) (o:=.xd [("fault",.int n)]) B h9 h8 ?_
   ·exact J.track (a:=ea) (o:=XR C d ea) B xn.lo (by rw [aB (Ne.symm h10)];exact xn.he) (XR.ok h1 h2 h3 h4)
   ·exact ⟨mA,h6,h7⟩
  obtain ⟨hp,g,dr,tks,os⟩:=s3
  refine wpAny_excMatches_sub_self hC h1 h2 F.excBase_Exception.hasBase ?_
  refine codeAny_handlers_suite_as (tF fl3 ?_)
  refine wE (X:=X.inH ea) (v:=.ref ea) (It.inH ea) hN hi (.inl hy) rfl (fun s4 I4=>?_) (.inr hy)
  refine wpAny_mono (hs ea pins _ _ _ _ I4 (hE σ' ea d I3.len xn.he h8 h10)) (fun f s5 q=>?_) fun _ _ z=>False.elim z
  cases f with
  |next=>obtain ⟨_,_,_,z⟩:=q;exact False.elim z
  |brk=>obtain ⟨_,_,_,z⟩:=q;exact False.elim z
  |cont=>obtain ⟨_,_,_,z⟩:=q;exact False.elim z
  |ret u=>
   obtain ⟨v,σ6,H6,I6,r,q⟩:=q
   have I6:=I6.outH ok
   obtain ⟨m,hns,_⟩:=id I6.loc
   refine wpAny_nameGoes hy hns (by rw [ok.kind];rfl) fun h' m' hn' hs'=>?_
   exact ⟨v,_,H6,I6.forget hn' hs',r,q⟩
 ·have q':=q.untry ok
  cases f with
  |next=>exact wpAny_execs_nil q'
  |brk=>exact q'
  |cont=>exact q'
  |ret u=>exact q'
structure gY (k:Nat) (A:Around):Prop where
 dp:A.depth+3 * k+5<recursionLimit
 un:A.units+16 * k+200<cLine
theorem fU.n {k:Nat} {A:Around} (r:fU k A):gY k A:=⟨r.dp,r.un⟩
theorem gY.mark {k:Nat} {A:Around} (r:gY k A) (h:Option Value):gY k (A.mark h):=⟨r.dp,r.un⟩
theorem gY.make {k:Nat} {A:Around} (r:gY (k+1) A) (C:Addr) (us:List Value) (kw:List (Str×Value)):gY k (A.under (.builtin "type.__call__" ⟨.ref C::us,kw⟩)):=
 ⟨by have:=r.dp;rw [vS];omega,by have:=r.un;rw [uS];omega⟩
theorem gY.deeper {k:Nat} {A:Around} (r:gY (k+1) A) (env:Env):gY k (A.deeper env):=
 ⟨by have:=r.dp;show A.depth+1+3 * k+5<_;omega,by have:=r.un;show A.units+3+16 * k+200<_;omega⟩
theorem gY.depth {k:Nat} {A:Around} (r:gY k A):A.depth<recursionLimit:=by have:=r.dp;omega
structure zM (P:Program) (w:World) (K:PySem.W.Frag) (mg:Str->Option Value) (base:Heap) (CX:Fp) (k:Nat) (f:Addr) (fd:FuncData) (ps:List Str) (sp:Sp):Prop where
 len:∀ vs H Q E,sp vs H Q E->vs.length=ps.length
 run:∀ (A:Around) (outer:List Env) (s:Shared) (H:Hp) (args:Args) (us:List Value) (vs:List V) (Q:VK) (E:XK),gY k A->Ex P w K mg base A outer s H->BindsTo s fd args (ps.zip us)->aZ vs us->sp vs H Q E->
  codeAny (model P w) A (.call (.ref f) args) (CR CX outer P w H s Q E) s
abbrev cxN (P:Program) (w:World) (K:PySem.W.Frag) (mg:Str->Option Value) (base:Heap) (N:List Str) (qual:Str) (scope:Scope) (f:Addr) (cd:Value) (A:Around) (outer:List Env) (s:Shared) (H:Hp) (E:XK):Cx:=
 {Bl bS P w K mg base N qual scope f cd A outer s H E with calm:=false}
theorem fD.okN {P:Program} {w:World} {K:PySem.W.Frag} {mg:Str->Option Value} {base:Heap} {x qual:Str} {st:Stmt} {f:Addr} {fd:FuncData} {N ps:List Str} {k:Nat} {sp:Sp} (F:fD K x qual st f fd) (S:aP N ps (aH st))
  (len:∀ vs H Q E,sp vs H Q E->vs.length=ps.length)
  (hbody:∀ (cdv:Value) (A:Around) (outer:List Env) (s:Shared) (H:Hp) (vs:List V) (Q:VK) (E:XK),gY k (A.deeper (envOfC qual (aH st) s.heap.objs.size f cdv))->sp vs H Q E->
   ∃ t,zF (cxN P w K mg base N qual (aH st) f cdv A outer s H E).nox (dO st) t/\t {nx:=fun _ H'=>Q .non H',rt:=Q} (lR N vs) H):zM P w K mg base bS (k+1) f fd ps sp:=by
 obtain ⟨oc,od,kV,doc,pm,an,cdv,ct,osl,rfl,lk,hcd⟩:=F.ex
 refine ⟨len,fun A outer s H args us vs Q E hr e0 hb r hsp=>?_⟩
 have hl:=len _ _ _ _ hsp
 have KX:K.In s.heap:=e0.mod.kin.keeps fun b o e=>(e0.bs b o e).1
 have lim:s.heap.NoLimit:=e0.mod.nolimit.keeps fun b o e=>(e0.bs b o e).1
 have hkind:∀ y∈ps.zip us,(aH st).names.lookup y.1=some .local\/((aH st).names.lookup y.1=some .cell/\((cellsFrom (s.heap.objs.size+1) (aH st).names []).lookup y.1).isSome=true):=fun ⟨n,v⟩ hy=>by
  rcases S.par n (List.of_mem_zip hy).1 with q|q
  ·exact .inl q
  ·exact .inr ⟨q,PySem.W.cellsFrom_some _ _ _ (.inl q)⟩
 refine codeAny_call_function hr.depth (KX _ _ lk) rfl S.co S.gen rfl (PySem.W.codeRec_of KX hcd) (hb _ _ _ _ ?_)
 refine wpAny_newFunctionEnv_cells S.kind hkind fun env he s1 x=>?_
 subst he
 refine ⟨lim.keeps x.toInCall.keep,codeAny_func ?_⟩
 obtain ⟨t,ht,hq⟩:=hbody cdv A outer s H vs Q E (hr.deeper _) hsp
 have I0:=xX (CX:=bS) (P:=P) (w:=w) (K:=K) (mg:=mg) (base:=base) (N:=N) (qual:=qual) (f:=f) (cd:=cdv) (A:={A with handled:=none}) (outer:=outer) (H:=H) (E:=E) S rfl ⟨e0.frames,e0.mod,e0.bs,e0.bsz,e0.funs,e0.frf,e0.hok,e0.bare⟩ hl r x
 have ok:=I0.ok
 have I:aO (cxN P w K mg base N qual (aH st) f cdv A outer s H E).nox [] (lR N vs) H s1:=
  ⟨⟨ok.mod,ok.kind,ok.glob,ok.blt,ok.above,ok.inj,ok.has,ok.cab,(fun z=>nomatch (show false=true from z)),ok.frames,ok.stk,ok.exf,ok.bs,ok.bsz,ok.noex,ok.exfs,ok.funs,ok.frf⟩,I0.os,I0.bare,I0.base,I0.loc,I0.cell,I0.free,I0.freeC,I0.pin,I0.hok,I0.len⟩
 refine wpAny_mono (ht [] s1 (lR N vs) H _ I hq) (fun fl s' hs=>?_) fun e s' hs=>False.elim hs
 have fin:∀ {σ':St} {H':Hp} {v:V} {u:Value},aO (cxN P w K mg base N qual (aH st) f cdv A outer s H E).nox [] σ' H' s'->bQ v u->Q v H'->CE outer P w H s Q u s':=
  fun {σ' H' v u} J rv q=>⟨v,H',J.os,J.bare,J.base,J.hok,rv,q⟩
 cases fl with
 |ret u=>
  obtain ⟨v,σ',H',J,rv,q⟩:=hs
  exact fin J rv q
 |next=>
  obtain ⟨σ',H',J,q⟩:=hs
  exact fin (v:=V.non) (u:=Value.none) J rfl q
 |brk=>
  obtain ⟨_,_,_,q⟩:=hs
  exact False.elim q
 |cont=>
  obtain ⟨_,_,_,q⟩:=hs
  exact False.elim q
section
variable {X:Cx} {k:Nat} {f C:Addr} {fd:FuncData} {ps:List Str} {sp:Sp} {x:Str} {p pos:Pos} {e:Expr} {es:List Expr} {t:TA}
theorem mL (M:Mk X.K C f) (F:zM X.prog X.w X.K X.mg X.base bS k f fd ps sp) (hr:gY (k+1) X.A) (hg:Gl X x) (hm:X.mg x=some (.ref C)) (hb:eV X.K fd ps [])
  (ha:PA X (e::es) t) (hdb:(x==("__debug__":Str))=false:=by decide) (he:starEach (e::es) X.env=(false,eval e X.env)::starEach es X.env:=by rfl) (hpl:(backTo pos (starEach es X.env)).any (·.1)=false:=by rfl):
  PE X (.Call (.Name x p) (e::es) [] pos) (Jo C sp [] E0 t):=by
 intro pins s σ H Q I h
 refine wpAny_Call_Name_kw (jA I hg hm ?_ hdb)
 refine PySem.W.callWith_K (h₀:=X.base) I.ok.mod.kin M.kp (cF (ha pos pins s σ H _ I h) fun us s1 ⟨vs,H1,I1,r,q⟩=>⟨I1.kIn,?_⟩) he hpl
 have hq:=q (s1.heap.objs.size+1) s1.heap.objs.size (I1.hok.fresh (Nat.le_succ _)) (I1.hok.fresh (Nat.le_refl _)) (Nat.ne_of_lt (Nat.lt_succ_self _))
 rw [List.append_nil] at hq
 have I2:=aO.made (C:=C) I1
 have r2:aZ (V.ref (s1.heap.objs.size+1)::vs) (Value.ref (s1.heap.objs.size+1)::us):=.cons rfl r
 have hl:(Value.ref (s1.heap.objs.size+1)::us++[]).length=ps.length:=by
  have e:=r2.length
  rw [F.len _ _ _ _ hq] at e
  rw [List.append_nil]
  exact e.symm
 have hb2:=hb _ (Value.ref (s1.heap.objs.size+1)::us) I2.kIn hl
 rw [List.append_nil] at hb2
 refine wpAny_call (Cs (f:=f) I1.kIn M.makes M.init (beq_iff_eq.mp M.fn) (codeAny_mono (F.run _ X.stack _ _ ⟨Value.ref (s1.heap.objs.size+1)::us,[]⟩ (Value.ref (s1.heap.objs.size+1)::us) _ _ E0 (hr.make C us [])
  (I2.env0.make C us []) hb2 r2 hq) fun r s' hq'=>?_))
 cases r with
 |error e=>exact False.elim hq'
 |ok fl=>
  cases fl with
  |ret u=>
   obtain ⟨v,H',I3,rv,ev,q3⟩:=I2.after hq'
   subst ev
   exact ⟨rv,⟨V.ref (s1.heap.objs.size+1),H',I3,rfl,q3⟩⟩
  |next=>exact False.elim hq'
  |brk=>exact False.elim hq'
  |cont=>exact False.elim hq'
end
theorem fD.okX {P:Program} {w:World} {K:PySem.W.Frag} {mg:Str->Option Value} {base:Heap} {C:Addr} {x qual:Str} {st:Stmt} {f:Addr} {fd:FuncData} {N ps:List Str} {k:Nat} {sp:Sp} (F:fD K x qual st f fd) (S:aP N ps (aH st))
  (len:∀ vs H Q E,sp vs H Q E->vs.length=ps.length)
  (hbody:∀ (cdv:Value) (A:Around) (outer:List Env) (s:Shared) (H:Hp) (vs:List V) (Q:VK) (E:XK),fU k (A.deeper (envOfC qual (aH st) s.heap.objs.size f cdv))->sp vs H Q E->
   ∃ t,zF (Bl (iS C P w) P w K mg base N qual (aH st) f cdv A outer s H E) (dO st) t/\t {nx:=fun _ H'=>Q .non H',rt:=Q} (lR N vs) H):bO P w K mg base (iS C P w) (k+1) f fd ps sp:=by
 obtain ⟨oc,od,kV,doc,pm,an,cdv,ct,osl,rfl,lk,hcd⟩:=F.ex
 exact Wl lk hcd S len fun A outer s H vs Q E hr hsp=>hbody cdv A outer s H vs Q E hr hsp
theorem iY {X:Cx} {x:Str} (n:Int) {j:Nat} {p pp pos:Pos} (hm:X.mg "ord"=none) (hg:Gl X "ord":=by rfl) (hl:x.length=1:=by decide+kernel) (hn:((x.cps.getD 0 0:Nat):Int)=n:=by decide+kernel)
  (he:starEach [.Constant (.str x) j pp] X.env=(false,eval (.Constant (.str x) j pp) X.env)::starEach [] X.env:=by rfl):PE X (.Call (.Name "ord" p) [.Constant (.str x) j pp] [] pos) (tC (.int n)):=by
 intro pins s σ H Q I h
 refine bN (r:=fun xs H Q=>∃ x,xs=[.str x]/\x.length=1/\Q (.int (x.cps.getD 0 0:Nat)) H) Cd hg hm boot_ord (aA gE aF he) (by decide) (by decide) he rfl pins s σ H Q I ?_
 refine ⟨x,rfl,hl,?_⟩
 rw [hn]
 exact h
end L2
namespace Br1
open PySem PySem.Spec PyProof.Rows L2
section
variable {P:Program} {w:World} {K:PySem.W.Frag} {mg:Str->Option Value} {base:Heap}
def jY (b:Int):Bool:=decide (97<=b) && decide (b<=122)
def jD (b:Int):Bool:=decide (48<=b) && decide (b<=57)
def oO:Sp:=fun vs H Q _=>∃ b:Int,vs=[.int b]/\Q (.bl (jY b)) H
def nX:Sp:=fun vs H Q _=>∃ b:Int,vs=[.int b]/\Q (.bl (jD b)) H
theorem Da:aP ["byte"] ["byte"] (aH nW):=⟨rfl,rfl,rfl,by decide+kernel,rfl,by decide+kernel,by decide+kernel⟩
theorem Ch {f:Addr} {fd:FuncData} (F:fD K "is_letter" "is_letter" nW f fd) (hord:mg "ord"=none):bO P w K mg base bS 1 f fd ["byte"] oO:=by
 refine F.ok Da (fun vs H Q E h=>?_) (fun cdv A outer s H vs Q E hr h=>?_)
 ·obtain ⟨b,rfl,_⟩:=h
  rfl
 ·obtain ⟨b,rfl,k⟩:=h
  refine ⟨_,aG (aW (mV pU pU (iY 97 hord) (pv 0) (iY 122 hord))),?_⟩
  refine ⟨_,rfl,_,_,rfl,rfl,_,rfl,bX (fun h1=>⟨_,_,rfl,rfl,?_⟩) (fun h1=>?_)⟩
  ·have e:jY b=decide (b<=122):=by unfold jY;rw [h1,Bool.true_and]
   rw [e] at k
   exact k
  ·have e:jY b=false:=by unfold jY;rw [eq_false_of_ne_true h1,Bool.false_and]
   rw [e] at k
   exact k
theorem Gk:aP ["byte"] ["byte"] (aH pP):=⟨rfl,rfl,rfl,by decide+kernel,rfl,by decide+kernel,by decide+kernel⟩
theorem Hq {f:Addr} {fd:FuncData} (F:fD K "is_digit" "is_digit" pP f fd) (hord:mg "ord"=none):bO P w K mg base bS 1 f fd ["byte"] nX:=by
 refine F.ok Gk (fun vs H Q E h=>?_) (fun cdv A outer s H vs Q E hr h=>?_)
 ·obtain ⟨b,rfl,_⟩:=h
  rfl
 ·obtain ⟨b,rfl,k⟩:=h
  refine ⟨_,aG (aW (mV pU pU (iY 48 hord) (pv 0) (iY 57 hord))),?_⟩
  refine ⟨_,rfl,_,_,rfl,rfl,_,rfl,bX (fun h1=>⟨_,_,rfl,rfl,?_⟩) (fun h1=>?_)⟩
  ·have e:jD b=decide (b<=57):=by unfold jD;rw [h1,Bool.true_and]
   rw [e] at k
   exact k
  ·have e:jD b=false:=by unfold jD;rw [eq_false_of_ne_true h1,Bool.false_and]
   rw [e] at k
   exact k
end
def RdF (a:Addr) (p:Int):List (Str×V):=[("text",.ref a),("position",.int p)]
theorem Ey (a:Addr) (p:Int):(RdF a p).lookup ("text":Str)=some (V.ref a):=rfl
theorem gI (a:Addr) (p:Int):(RdF a p).lookup ("position":Str)=some (V.int p):=rfl
def iB (CR:Addr) (H:Hp) (r a:Addr) (p:Nat):Prop:=∃ dx,H r=some (.ins CR dx (RdF a p))
def SX (r:Addr) (H H':Hp):Prop:=∀ b o,H b=some o->b≠r->H' b=some o
theorem SX.refl (r:Addr) (H:Hp):SX r H H:=fun _ _ e _=>e
theorem SX.trans {r:Addr} {H H1 H2:Hp} (a:SX r H H1) (b:SX r H1 H2):SX r H H2:=fun c o e n=>b c o (a c o e n) n
theorem SX.upd {r:Addr} {H:Hp} (o:HO):SX r H (upd H r o):=fun b u e n=>by rw [aB n];exact e
theorem aK.sx {r:Addr} {H H':Hp} (s:aK H H'):SX r H H':=fun b o e _=>s b o e
theorem SX.seq {K:PySem.W.Frag} {r a:Addr} {H H':Hp} {xs:List V} {C dx:Addr} {fs:List (Str×V)} (s:SX r H H') (hr:H r=some (.ins C dx fs)) (h:dB K H a xs):dB K H' a xs:=by
 rcases h with (h|⟨o,h⟩)|h
 ·exact .inl (.inl (s _ _ h (by rintro rfl;rw [hr] at h;cases h)))
 ·exact .inl (.inr ⟨o,s _ _ h (by rintro rfl;rw [hr] at h;cases h)⟩)
 ·exact .inr h
theorem SX.seqT {K:PySem.W.Frag} {r a:Addr} {H H':Hp} {xs:List V} {C dx:Addr} {fs:List (Str×V)} (s:SX r H H') (hr:H r=some (.ins C dx fs)) (h:cN K H a xs):cN K H' a xs:=by
 rcases h with (h|⟨o,h⟩)|h
 ·exact .inl (.inl (s _ _ h (by rintro rfl;rw [hr] at h;cases h)))
 ·exact .inl (.inr ⟨o,s _ _ h (by rintro rfl;rw [hr] at h;cases h)⟩)
 ·exact .inr h
structure Fq (K:PySem.W.Frag) (CR:Addr):Prop where
 cl:Fr K CR
 nT:cZ K CR "text"
 nP:cZ K CR "position"
def aQ (l:List Int) (p:Nat):Int:=(l[p]?).getD 256
structure jM (K:PySem.W.Frag) (CR:Addr) (H:Hp) (r a:Addr) (l:List Int) (p:Nat):Prop where
 rd:iB CR H r a p
 tx:dB K H a (l.map V.int)
 le:p<=l.length
theorem jM.same {K:PySem.W.Frag} {CR:Addr} {H H':Hp} {r a:Addr} {l:List Int} {p q:Nat} (x:jM K CR H r a l p) (s:SX r H H') (hr:iB CR H' r a q) (hq:q<=l.length):jM K CR H' r a l q:=
 let ⟨_,e⟩:=x.rd
 ⟨hr,s.seq e x.tx,hq⟩
section
variable {P:Program} {w:World} {K:PySem.W.Frag} {mg:Str->Option Value} {base:Heap}
theorem Nk:aP ["self","fault"] ["self","fault"] (aH pF):=⟨rfl,rfl,rfl,by decide+kernel,rfl,by decide+kernel,by decide+kernel⟩
theorem Ma {f C:Addr} {fd:FuncData} (F:fD K "__init__" "Stuck.__init__" pF f fd) (T:Aa K C f):bO P w K mg base bS 1 f fd ["self","fault"] (Zo C):=by
 refine F.ok Nk (fun vs H Q E h=>?_) (fun cdv A outer s H vs Q E hr h=>?_)
 ·obtain ⟨e,t,n,rfl,_⟩:=h
  rfl
 ·obtain ⟨e,t,n,rfl,he,k⟩:=h
  refine ⟨_,aG (Tx T (pv 0) (pv 1) rfl),?_⟩
  exact ⟨_,rfl,_,rfl,e,t,n,rfl,rfl,he,k⟩
def aBq (CR:Addr):Sp:=fun vs H Q _=>∃ r dx a:Addr,vs=[.ref r,.ref a]/\H r=some (.ins CR dx [])/\∀ H':Hp,iB CR H' r a 0->SX r H H'->Q .non H'
theorem Yc:aP ["self","text"] ["self","text"] (aH Tu):=⟨rfl,rfl,rfl,by decide+kernel,rfl,by decide+kernel,by decide+kernel⟩
theorem Xy {f CR:Addr} {fd:FuncData} (F:fD K "__init__" "Reader.__init__" Tu f fd) (T:Fq K CR):bO P w K mg base bS 1 f fd ["self","text"] (aBq CR):=by
 refine F.ok Yc (fun vs H Q E h=>?_) (fun cdv A outer s H vs Q E hr h=>?_)
 ·obtain ⟨r,dx,a,rfl,_⟩:=h
  rfl
 ·obtain ⟨r,dx,a,rfl,hp,k⟩:=h
  refine ⟨_,aE (dQ (pv 0) (pv 1) rfl) (aG (dQ (pv 0) aJ rfl)),?_⟩
  refine ⟨_,rfl,_,rfl,r,CR,dx,[],rfl,hp,T.cl,T.nT,(by show 0<1000;decide),?_⟩
  refine ⟨_,rfl,r,CR,dx,_,rfl,aC,T.cl,T.nP,(by show 1<1000;decide),?_⟩
  exact k _ ⟨dx,aC⟩ fun b o e hb=>by rw [aB hb,aB hb];exact e
def nQ (K:PySem.W.Frag) (CR:Addr):Sp:=fun vs H Q _=>∃ (r a:Addr) (l:List Int) (p:Nat),vs=[.ref r]/\jM K CR H r a l p/\Q (.bl (decide (p=l.length))) H
theorem Oc:aP ["self"] ["self"] (aH Aq):=⟨rfl,rfl,rfl,by decide+kernel,rfl,by decide+kernel,by decide+kernel⟩
theorem Nz {f CR:Addr} {fd:FuncData} (F:fD K "ended" "Reader.ended" Aq f fd) (T:Fq K CR) (hlen:mg "len"=none):bO P w K mg base bS 1 f fd ["self"] (nQ K CR):=by
 refine F.ok Oc (fun vs H Q E h=>?_) (fun cdv A outer s H vs Q E hr h=>?_)
 ·obtain ⟨r,a,l,p,rfl,_⟩:=h
  rfl
 ·obtain ⟨r,a,l,p,rfl,⟨⟨dx,h1⟩,tx,le⟩,k⟩:=h
  refine ⟨_,aG (aW (kT qR (aR (pv 0) rfl) (bN bJ (by rfl) hlen PySem.boot_len (aA (aR (pv 0) rfl) aF)) (gR _))),?_⟩
  refine ⟨_,rfl,r,CR,dx,_,_,rfl,h1,T.cl,T.nP,gI _ _,_,rfl,r,CR,dx,_,_,rfl,h1,T.cl,T.nT,Ey _ _,a,_,rfl,.inl tx,rfl,?_⟩
  have e:decide (V.int (p:Int)=V.int ((l.map V.int).length:Int))=decide (p=l.length):=by
   rw [List.length_map,tV,Bool.eq_iff_iff,beq_iff_eq,decide_eq_true_iff]
   (clear le;omega)
  show Q (.bl (decide (V.int (p:Int)=V.int ((l.map V.int).length:Int)))) H
  rw [e]
  exact k
structure nI (P:Program) (w:World) (K:PySem.W.Frag) (mg:Str->Option Value) (base:Heap) (CR:Addr) (m:Str) (CX:Fp) (k:Nat) (ps:List Str) (sp:Sp):Prop where
 ex:∃ f fd,Ua K CR m f/\bO P w K mg base CX k f fd ps sp/\eV K fd ps []
def oR (K:PySem.W.Frag) (CR:Addr):Sp:=fun vs H Q _=>∃ (r a:Addr) (l:List Int) (p:Nat),vs=[.ref r]/\jM K CR H r a l p/\Q (.int (aQ l p)) H
theorem Vk:aP ["self"] ["self"] (aH Jg):=⟨rfl,rfl,rfl,by decide+kernel,rfl,by decide+kernel,by decide+kernel⟩
theorem Vg {f CR:Addr} {fd:FuncData} {tk:Tok} (F:fD K "here" "Reader.here" Jg f fd) (T:Fq K CR) (hno:mg "NO_BYTE"=some (.int 256 tk)) (M:nI P w K mg base CR "ended" bS 1 ["self"] (nQ K CR)):bO P w K mg base bS 2 f fd ["self"] (oR K CR):=by
 obtain ⟨fe,fde,me,Ge,be⟩:=M.ex
 refine F.ok Vk (fun vs H Q E h=>?_) (fun cdv A outer s H vs Q E hr h=>?_)
 ·obtain ⟨r,a,l,p,rfl,_⟩:=h
  rfl
 ·obtain ⟨r,a,l,p,rfl,x,k⟩:=h
  obtain ⟨⟨dx,h1⟩,tx,le⟩:=id x
  refine ⟨_,aE (dS (dW (cA (pv 0) T.cl me Ge hr be .nil aY)) (aG (aW (Ab (v:=.int 256) (by rfl) hno ⟨tk,rfl⟩))) bW) (aG (aW (bV fF (aR (pv 0) rfl) (aR (pv 0) rfl) (fun _ _=>rfl)))),?_⟩
  refine ⟨_,rfl,r,dx,_,rfl,h1,rfl,r,a,l,p,rfl,x,_,rfl,bX (fun hc=>?_) (fun hc=>?_)⟩
  ·have e:p=l.length:=of_decide_eq_true hc
   have e2:aQ l p=256:=by unfold aQ;rw [List.getElem?_eq_none (Nat.le_of_eq e.symm)];rfl
   rw [e2] at k
   exact k
  ·have e:p<l.length:=Nat.lt_of_le_of_ne le fun z=>hc (decide_eq_true z)
   refine ⟨_,rfl,r,CR,dx,_,_,rfl,h1,T.cl,T.nT,Ey _ _,_,rfl,r,CR,dx,_,_,rfl,h1,T.cl,T.nP,gI _ _,a,_,_,_,rfl,rfl,tx,hU (j:=p) (v:=V.int (aQ l p)) ?_,k⟩
   unfold aQ
   rw [List.getElem?_map,List.getElem?_eq_getElem e]
   rfl
def pB (K:PySem.W.Frag) (CR:Addr):Sp:=fun vs H Q _=>∃ (r a:Addr) (l:List Int) (p:Nat),vs=[.ref r]/\jM K CR H r a l p/\∀ H':Hp,iB CR H' r a (p+1)->SX r H H'->Q (.int (aQ l p)) H'
theorem Ie:aP ["self","byte"] ["self"] (aH Kk):=⟨rfl,rfl,rfl,by decide+kernel,rfl,by decide+kernel,by decide+kernel⟩
theorem Ss {f CR:Addr} {fd:FuncData} (F:fD K "take" "Reader.take" Kk f fd) (T:Fq K CR) (M:nI P w K mg base CR "here" bS 2 ["self"] (oR K CR)):bO P w K mg base bS 3 f fd ["self"] (pB K CR):=by
 obtain ⟨fe,fde,me,Ge,be⟩:=M.ex
 refine F.ok Ie (fun vs H Q E h=>?_) (fun cdv A outer s H vs Q E hr h=>?_)
 ·obtain ⟨r,a,l,p,rfl,_⟩:=h
  rfl
 ·obtain ⟨r,a,l,p,rfl,x,k⟩:=h
  obtain ⟨⟨dx,h1⟩,tx,le⟩:=id x
  refine ⟨_,aE (bA (i:=1) Ie.nd rfl (Or.inl rfl) (cA (pv 0) T.cl me Ge hr be .nil aY)) (aE (Ml (pv 0) aJ Xb) (aG (aW (pv 1)))),?_⟩
  refine ⟨_,rfl,r,dx,_,rfl,h1,rfl,r,a,l,p,rfl,x,?_⟩
  refine ⟨_,rfl,r,CR,dx,_,_,rfl,h1,T.cl,T.nP,gI _ _,_,_,rfl,rfl,dx,_,h1,(by show 2<1000;decide),?_⟩
  refine ⟨_,rfl,k _ ⟨dx,?_⟩ (SX.upd _)⟩
  rw [aC]
  rfl
end
structure Zg (P:Program) (w:World) (K:PySem.W.Frag) (mg:Str->Option Value) (base:Heap) (C:Addr):Prop where
 ex:∃ f fd,Aa K C f/\bO P w K mg base bS 1 f fd ["self","fault"] (Zo C)/\eV K fd ["self","fault"] []
 mg:mg "Stuck"=some (.ref C)
theorem fV {l:List Int} {p:Nat} (h:aQ l p≠256):p<l.length:=by
 by_cases z:p<l.length
 ·exact z
 ·refine absurd ?_ h
  unfold aQ
  rw [List.getElem?_eq_none (Nat.le_of_not_lt z)]
  rfl
theorem iM (x:Int):∀ l:List Int,Qm (.int x) (l.map V.int)=decide (x∈l)
 |[]=>by simp [Qm]
 |y::r=>by
  have ih:=iM x r
  unfold Qm at ih ⊢
  rw [List.map_cons,List.any_cons,ih,Bool.eq_iff_iff]
  show ((y==x)||decide (x∈r))=true↔_
  rw [Bool.or_eq_true,beq_iff_eq,decide_eq_true_iff,decide_eq_true_iff,List.mem_cons]
  constructor
  ·rintro (h|h)
   ·exact .inl h.symm
   ·exact .inr h
  ·rintro (h|h)
   ·exact .inl h.symm
   ·exact .inr h
theorem xU:∀ l:List Int,(l.map V.int).all oJ=true
 |[]=>rfl
 |_::r=>by rw [List.map_cons,List.all_cons,xU r];rfl
section
variable {P:Program} {w:World} {K:PySem.W.Frag} {mg:Str->Option Value} {base:Heap} {C CR:Addr}
def pH (K:PySem.W.Frag) (CR:Addr):Sp:=fun vs H Q E=>∃ (r a g:Addr) (l sl:List Int) (p:Nat),vs=[.ref r,.ref g]/\jM K CR H r a l p/\cN K H g (sl.map V.int)/\256∉sl/\
 (aQ l p∈sl->∀ H':Hp,iB CR H' r a (p+1)->SX r H H'->Q (.int (aQ l p)) H')/\(aQ l p∉sl->E (.int p 0) none H)
theorem Rc:aP ["self","signs"] ["self","signs"] (aH Ai):=⟨rfl,rfl,rfl,by decide+kernel,rfl,by decide+kernel,by decide+kernel⟩
theorem Ot {f:Addr} {fd:FuncData} (F:fD K "read_one_of" "Reader.read_one_of" Ai f fd) (T:Fq K CR) (S:Zg P w K mg base C) (M1:nI P w K mg base CR "here" bS 2 ["self"] (oR K CR)) (M2:nI P w K mg base CR "take" bS 3 ["self"] (pB K CR)):
  bO P w K mg base (iS C P w) 4 f fd ["self","signs"] (pH K CR):=by
 obtain ⟨f1,fd1,m1,G1,b1⟩:=M1.ex
 obtain ⟨f2,fd2,m2,G2,b2⟩:=M2.ex
 obtain ⟨fx,fdx,XT,GX,bx⟩:=S.ex
 refine F.okX Rc (fun vs H Q E h=>?_) (fun cdv A outer s H vs Q E hr h=>?_)
 ·obtain ⟨r,a,g,l,sl,p,rfl,_⟩:=h
  rfl
 ·obtain ⟨r,a,g,l,sl,p,rfl,x,hg,h256,k1,k2⟩:=h
  obtain ⟨⟨dx,h1⟩,tx,le⟩:=id x
  have hr2:=hr.mono (j:=2) (by decide)
  refine ⟨_,aE (dS (hJ kW (cA (pv 0) T.cl m1 G1 hr2 b1 .nil aY) (pv 1) (by with_unfolding_all rfl)) (aG (mB aM rfl XT GX hr2 (by rfl) S.mg bx (aR (pv 0) rfl))) bW)
   (aG (aW (cA (pv 0) T.cl m2 G2 hr b2 .nil aY))),?_⟩
  refine ⟨_,rfl,r,dx,_,rfl,h1,rfl,r,a,l,p,rfl,x,_,rfl,g,_,rfl,.inr hg,rfl,xU sl,_,rfl,bX (fun hc=>?_) (fun hc=>?_)⟩
  ·have hc:(!Qm (.int (aQ l p)) (sl.map V.int))=true:=hc
   rw [iM,Bool.not_eq_true',decide_eq_false_iff_not] at hc
   exact ⟨_,rfl,r,CR,dx,_,_,rfl,h1,T.cl,T.nP,gI _ _,_,rfl,k2 hc⟩
  ·have hc:¬(!Qm (.int (aQ l p)) (sl.map V.int))=true:=hc
   rw [iM,Bool.not_eq_true',decide_eq_false_iff_not,Classical.not_not] at hc
   exact ⟨_,rfl,r,dx,_,rfl,h1,rfl,r,a,l,p,rfl,x,k1 hc⟩
end
end Br1
namespace L2
open PySem PySem.Spec PyProof.Rows
theorem Uj {x:Str} {g:TG} {tb:TS} {D:fT} {σ:St} {H:Hp} (Pv:Nat->St->Hp->Prop) (h0:Pv 0 σ H)
  (hs:∀ i c σ H,x.cps[i]?=some c->Pv i σ H->g (.str ⟨#[c]⟩) σ H fun σ2 H2=>tb {D with nx:=Pv (i+1),ct:=Pv (i+1),bk:=D.nx} σ2 H2) (hd:∀ σ H,Pv x.cps.size σ H->D.nx σ H):
  ∃ W:Nat->Nat->St->Hp->Prop,(∃ m,W 0 m σ H)/\∀ i m σ H,W i m σ H->
   ((Its x).stop i H/\D.nx σ H)\/((Its x).go i H/\∃ N:St->Hp->Prop,(∀ σ' H',N σ' H'->∃ m',m'<m/\W (i+1) m' σ' H')/\∀ v H',(Its x).yld i H v H'->g v σ H' fun σ2 H2=>tb {D with nx:=N,ct:=N,bk:=D.nx} σ2 H2):=by
 refine ⟨fun i m σ H=>m=x.cps.size - i/\i<=x.cps.size/\Pv i σ H,⟨x.cps.size,by simp,Nat.zero_le _,h0⟩,?_⟩
 rintro i m σ H ⟨rfl,hi,p⟩
 by_cases hlt:i<x.cps.size
 ·refine .inr ⟨hlt,Pv (i+1),fun σ' H' p'=>⟨x.cps.size - (i+1),by (clear hi;omega),rfl,hlt,p'⟩,fun v H' y=>?_⟩
  obtain ⟨e,c,hc,rfl⟩:=y
  subst e
  exact hs i c σ _ hc p
 ·have e:i=x.cps.size:=by omega
  subst e
  exact .inl ⟨Nat.le_refl _,hd σ H p⟩
end L2
namespace Br1
open PySem PySem.Spec PyProof.Rows L2
def aU (l:List Int):Nat->List Nat->Except Nat Nat
 |p,[]=>.ok p
 |p,c::r=>if aQ l p=c then aU l (p+1) r else .error p
def gP (b:Int):Bool:=jY b||jD b
def bE (l:List Int):Nat->Nat->List Int
 |_,0=>[]
 |p,n+1=>if gP (aQ l p)=true then aQ l p::bE l (p+1) n else []
def cW (l:List Int) (hi:Int):Nat->Nat->Int->Int×Nat
 |0,p,v=>(v,p)
 |n+1,p,v=>if 0<v/\jD (aQ l p)=true/\v * 10+aQ l p - 48<=hi then cW l hi n (p+1) (v * 10+aQ l p - 48) else (v,p)
def jE (l:List Int) (p:Nat) (lo hi:Int):Prop:=jD (aQ l p)=true/\lo<=aQ l p - 48/\aQ l p - 48<=hi
def eC (l:List Int) (p:Nat) (hi:Int):Int×Nat:=cW l hi (l.length - (p+1)) (p+1) (aQ l p - 48)
theorem Sc {l:List Int} {p:Nat} (h:gP (aQ l p)=true):p<l.length:=fV fun z=>by rw [z] at h;revert h;decide
theorem Om {l:List Int} {p:Nat} (h:jD (aQ l p)=true):p<l.length:=fV fun z=>by rw [z] at h;revert h;decide
theorem iE {b:Int} (h:jD b=true):48<=b/\b<=57:=by
 unfold jD at h
 rw [Bool.and_eq_true,decide_eq_true_iff,decide_eq_true_iff] at h
 exact h
section
variable {P:Program} {w:World} {K:PySem.W.Frag} {mg:Str->Option Value} {base:Heap} {C CR:Addr}
def kO (K:PySem.W.Frag) (CR:Addr):Sp:=fun vs H Q E=>∃ (r a:Addr) (l:List Int) (p:Nat) (x:Str),vs=[.ref r,.str x]/\jM K CR H r a l p/\(∀ c∈x.cps.toList,c<256)/\
 match aU l p x.cps.toList with
 |.ok p'=>∀ H':Hp,iB CR H' r a p'->p'<=l.length->SX r H H'->Q .non H'
 |.error i=>∀ H':Hp,SX r H H'->E (.int i 0) none H'
theorem Kc:aP ["self","word","sign"] ["self","word"] (aH Ja):=⟨rfl,rfl,rfl,by decide+kernel,rfl,by decide+kernel,by decide+kernel⟩
theorem Th {f:Addr} {fd:FuncData} (F:fD K "read_word" "Reader.read_word" Ja f fd) (T:Fq K CR) (hord:mg "ord"=none) (M1:nI P w K mg base CR "read_one_of" (iS C P w) 4 ["self","signs"] (pH K CR)):
  bO P w K mg base (iS C P w) 5 f fd ["self","word"] (kO K CR):=by
 obtain ⟨f1,fd1,m1,G1,b1⟩:=M1.ex
 refine F.okX Kc (fun vs H Q E h=>?_) (fun cdv A outer s H vs Q E hr h=>?_)
 ·obtain ⟨r,a,l,p,x,rfl,_⟩:=h
  rfl
 ·obtain ⟨r,a,l,p,x,rfl,tx,hx,k⟩:=h
  refine ⟨_,aG (eA aM.own rfl (Zd (pv 1)) (bH (i:=2) Kc.nd rfl (Or.inl rfl))
   (aG (bZ (cR (pv 0) T.cl m1 G1 hr b1 .nil aM.pass (aA (eK (aA (bN Cd (by rfl) hord boot_ord (aA (pv 2) aF)) aF)) aF))))),?_⟩
  refine ⟨_,rfl,x,rfl,Uj (fun i σ H'=>∃ v2:Option V,σ=[some (.ref r),some (.str x),v2]/\SX r H H'/\jM K CR H' r a l (p+i)/\aU l p x.cps.toList=aU l (p+i) (x.cps.toList.drop i))
   ⟨none,rfl,SX.refl r H,tx,rfl⟩ ?_ ?_⟩
  ·rintro i c σ H1 hc ⟨v2,rfl,s1,x1,e1⟩
   have hcl:x.cps.toList[i]?=some c:=by rw [Array.getElem?_toList];exact hc
   have hdr:x.cps.toList.drop i=c::x.cps.toList.drop (i+1):=by
    obtain ⟨hlt,e⟩:=List.getElem?_eq_some_iff.mp hcl
    rw [<-e]
    exact List.drop_eq_getElem_cons hlt
   rw [hdr] at e1
   have c256:c<256:=hx c (List.mem_of_getElem? hcl)
   obtain ⟨⟨dx,h1⟩,_,_⟩:=id x1
   refine ⟨_,rfl,r,dx,_,rfl,h1,rfl,⟨_,rfl,⟨#[c]⟩,rfl,rfl,(by show 1<=sizeLine;decide),fun g hg=>?_⟩⟩
   have sg:aK H1 (upd H1 g (.tup [.int c])):=fun b o e=>by rw [aB (aD e hg)];exact e
   have x2:jM K CR (upd H1 g (.tup [.int c])) r a l (p+i):=x1.same (aK.sx sg) ⟨dx,sg _ _ h1⟩ x1.le
   refine ⟨r,a,g,l,[(c:Int)],p+i,rfl,x2,.inl (.inl aC),by simp;omega,fun hin H2 hr2 s2=>?_,fun hin=>?_⟩
   ·have hin:aQ l (p+i)=c:=by simpa using hin
    have lt:p+i<l.length:=fV (by rw [hin];(clear hin;omega))
    refine ⟨_,rfl,(s1.trans (aK.sx sg)).trans s2,x2.same s2 hr2 lt,?_⟩
    rw [e1]
    show (if aQ l (p+i)=c then _ else _)=_
    rw [if_pos hin]
    rfl
   ·have hin:¬aQ l (p+i)=c:=by simpa using hin
    have e2:aU l p x.cps.toList=.error (p+i):=by
     rw [e1]
     show (if aQ l (p+i)=c then _ else _)=_
     rw [if_neg hin]
    rw [e2] at k
    exact k _ (s1.trans (aK.sx sg))
  ·rintro σ H1 ⟨v2,rfl,s1,x1,e1⟩
   have e2:aU l p x.cps.toList=.ok (p+x.cps.size):=by
    rw [e1,List.drop_eq_nil_of_le (by simp)]
    rfl
   rw [e2] at k
   exact k H1 x1.rd x1.le s1
def xT (K:PySem.W.Frag) (CR:Addr):Sp:=fun vs H Q E=>∃ (r a:Addr) (l:List Int) (p:Nat),vs=[.ref r]/\jM K CR H r a l p/\(p=l.length->Q .non H)/\(p≠l.length->E (.int p 0) none H)
theorem Xg:aP ["self"] ["self"] (aH Vj):=⟨rfl,rfl,rfl,by decide+kernel,rfl,by decide+kernel,by decide+kernel⟩
theorem Zi {f:Addr} {fd:FuncData} (F:fD K "read_end" "Reader.read_end" Vj f fd) (T:Fq K CR) (S:Zg P w K mg base C) (M1:nI P w K mg base CR "ended" bS 1 ["self"] (nQ K CR)):
  bO P w K mg base (iS C P w) 3 f fd ["self"] (xT K CR):=by
 obtain ⟨f1,fd1,m1,G1,b1⟩:=M1.ex
 obtain ⟨fx,fdx,XT,GX,bx⟩:=S.ex
 refine F.okX Xg (fun vs H Q E h=>?_) (fun cdv A outer s H vs Q E hr h=>?_)
 ·obtain ⟨r,a,l,p,rfl,_⟩:=h
  rfl
 ·obtain ⟨r,a,l,p,rfl,x,k1,k2⟩:=h
  obtain ⟨⟨dx,h1⟩,tx,le⟩:=id x
  refine ⟨_,aG (dS (lD (dW (cA (pv 0) T.cl m1 G1 (hr.mono (by decide)) b1 .nil aY))) (aG (mB aM rfl XT GX hr (by rfl) S.mg bx (aR (pv 0) rfl))) bW),?_⟩
  refine ⟨_,rfl,r,dx,_,rfl,h1,rfl,r,a,l,p,rfl,x,_,rfl,bX (fun hc=>?_) (fun hc=>?_)⟩
  ·rw [Bool.not_eq_true',decide_eq_false_iff_not] at hc
   exact ⟨_,rfl,r,CR,dx,_,_,rfl,h1,T.cl,T.nP,gI _ _,_,rfl,k2 hc⟩
  ·rw [Bool.not_eq_true',decide_eq_false_iff_not,Classical.not_not] at hc
   exact k1 hc
end
theorem bI:20000<sizeLine:=by rw [sizeLine_eq];decide
theorem cV {b:Bool} (h:¬b=true):b=false:=by cases b<;>simp_all
section
variable {P:Program} {w:World} {K:PySem.W.Frag} {mg:Str->Option Value} {base:Heap} {C CR:Addr}
structure dJ (P:Program) (w:World) (K:PySem.W.Frag) (mg:Str->Option Value) (base:Heap) (x:Str) (CX:Fp) (k:Nat) (ps:List Str) (sp:Sp):Prop where
 ex:∃ f fd,bO P w K mg base CX k f fd ps sp/\eV K fd ps []/\PySem.W.keepIn K (.ref f)=true/\mg x=some (.ref f)
theorem zR {l:List Int} {p i n:Nat} {xs:List Int} (e:bE l p (i+(n+1))=xs++bE l (p+i) (n+1)) (h:gP (aQ l (p+i))=true):bE l p (i+(n+1))=(xs++[aQ l (p+i)])++bE l (p+(i+1)) n:=by
 rw [e,List.append_assoc]
 congr 1
 show (if gP (aQ l (p+i))=true then _ else _)=_
 rw [if_pos h]
 rfl
def Ii (CR:Addr) (H:Hp) (r a q:Addr) (l:List Int) (p L:Nat) (m:Nat) (σ:List (Option V)) (H':Hp):Prop:=
 ∃ i,m+i=L/\∃ xs:List Int,σ=[some (.ref r),some (.int L),some (.ref q)]/\xs.length=i/\SX r H H'/\iB CR H' r a (p+i)/\p+i<=l.length/\H' q=some (.lst (xs.map V.int))/\bE l p L=xs++bE l (p+i) m
theorem zE {H H1:Hp} {r a q:Addr} {l:List Int} {p i n:Nat} {xs:List Int} {D:fT} (x:jM K CR H r a l p) (hq:H q=none) (nrq:r≠q) (hxl:xs.length=i) (hL:i+(n+1)<=1000) (s1:SX r H H1) (hr1:iB CR H1 r a (p+i)) (le1:p+i<=l.length)
  (hq1:H1 q=some (.lst (xs.map V.int))) (e1:bE l p (i+(n+1))=xs++bE l (p+i) (n+1)) (ha:gP (aQ l (p+i))=true) (hD:∀ σ H',Ii CR H r a q l p (i+(n+1)) n σ H'->D.nx σ H'):
  yE (tBM K "list" Is (eO 2) (eU (lZ CR "take" (pB K CR) [] E0 (eO 0) hZ) hZ)) D [some (.ref r),some (.int ((i+(n+1):Nat):Int)),some (.ref q)] H1:=by
 have lt:=Sc ha
 obtain ⟨dx1,g1⟩:=id hr1
 refine ⟨_,rfl,.inl ⟨rfl,_,dB.of hq1⟩,_,rfl,r,dx1,_,rfl,g1,rfl,r,a,l,p+i,rfl,x.same s1 hr1 le1,fun H2 hr2 s2=>?_⟩
 have hq2:H2 q=some (.lst (xs.map V.int)):=s2 _ _ hq1 (Ne.symm nrq)
 refine ⟨q,_,_,rfl,rfl,hq2,?_,?_⟩
 ·rw [List.length_map]
  have:=bI
  (clear lt le1;omega)
 ·obtain ⟨dx2,g2⟩:=hr2
  have s3:SX r H (upd H2 q (.lst (xs.map V.int++[V.int (aQ l (p+i))]))):=fun b o e hb=>by
   rw [aB (aD e hq)]
   exact s2 b o (s1 b o e hb) hb
  refine hD _ _ ⟨i+1,by (clear lt le1 hL hxl;omega),xs++[aQ l (p+i)],rfl,by simp [hxl],s3,⟨dx2,by rw [aB nrq];exact g2⟩,lt,?_,zR e1 ha⟩
  rw [aC,List.map_append]
  rfl
def oU (K:PySem.W.Frag) (CR:Addr):Sp:=fun vs H Q E=>∃ (r a:Addr) (l:List Int) (p L:Nat),vs=[.ref r,.int L]/\jM K CR H r a l p/\L<=1000/\
 (jY (aQ l p)=true->∀ (H':Hp) (q:Addr),iB CR H' r a (p+(bE l p L).length)->p+(bE l p L).length<=l.length->SX r H H'->H' q=some (.tup ((bE l p L).map V.int))->Q (.ref q) H')/\
 (jY (aQ l p)=false->E (.int p 0) none H)
theorem Ka:aP ["self","longest","name"] ["self","longest"] (aH Iu):=⟨rfl,rfl,rfl,by decide+kernel,rfl,by decide+kernel,by decide+kernel⟩
theorem Ux {f:Addr} {fd:FuncData} (F:fD K "read_name" "Reader.read_name" Iu f fd) (T:Fq K CR) (S:Zg P w K mg base C) (hlen:mg "len"=none) (htup:mg "tuple"=none)
  (M1:nI P w K mg base CR "here" bS 2 ["self"] (oR K CR)) (M2:nI P w K mg base CR "take" bS 3 ["self"] (pB K CR)) (L1:dJ P w K mg base "is_letter" bS 1 ["byte"] oO) (L2:dJ P w K mg base "is_digit" bS 1 ["byte"] nX):
  bO P w K mg base (iS C P w) 4 f fd ["self","longest"] (oU K CR):=by
 obtain ⟨f1,fd1,m1,G1,b1⟩:=M1.ex
 obtain ⟨f2,fd2,m2,G2,b2⟩:=M2.ex
 obtain ⟨g1,gd1,GL,bL,kL,hL⟩:=L1.ex
 obtain ⟨g2,gd2,GD,bD,kD,hD⟩:=L2.ex
 obtain ⟨fx,fdx,XT,GX,bx⟩:=S.ex
 refine F.okX Ka (fun vs H Q E h=>?_) (fun cdv A outer s H vs Q E hr h=>?_)
 ·obtain ⟨r,a,l,p,L,rfl,_⟩:=h
  rfl
 ·obtain ⟨r,a,l,p,L,rfl,x,hL1000,k1,k2⟩:=h
  obtain ⟨⟨dx,h1⟩,tx,le⟩:=id x
  have hr2:=hr.mono (j:=2) (by decide)
  have hr1:=hr.mono (j:=1) (by decide)
  refine ⟨_,aE (dS (lD (dW (aT GL hr1 (by rfl) hL kL bL .nil aY (aA (cA (pv 0) T.cl m1 G1 hr2 b1 .nil aY) aF)))) (aG (mB aM rfl XT GX hr2 (by rfl) S.mg bx (aR (pv 0) rfl))) bW)
   (aE (bA (i:=2) Ka.nd rfl (Or.inl rfl) (dL aF))
   (aE (iQ aM.own (fY (dA (Je (bN bJ (by rfl) hlen PySem.boot_len (aA (pv 2) aF)) (pv 1)))
     (gK (Ig (dW (aT GL hr1 (by rfl) hL kL bL .nil aY (aA (cA (pv 0) T.cl m1 G1 hr2 b1 .nil aY) aF))) (zW (dW (aT GD hr1 (by rfl) hD kD bD .nil aY (aA (cA (pv 0) T.cl m1 G1 hr2 b1 .nil aY) aF))))).pt)).pt
    (aG (bZ (mH PySem.F.plainAttrs_list PySem.F.slot_list_append PySem.F.type_list_append eI (pv 2) (aA (cA (pv 0) T.cl m2 G2 hr b2 .nil aY) aF)))))
   (aG (aW (rE oE (by rfl) htup boot_tuple (aA (pv 2) aF)))))),?_⟩
  refine ⟨_,rfl,r,dx,_,rfl,h1,rfl,r,a,l,p,rfl,x,_,rfl,_,rfl,bX (fun hc=>?_) (fun hc=>?_)⟩
  ·rw [Bool.not_eq_true'] at hc
   exact ⟨_,rfl,r,CR,dx,_,_,rfl,h1,T.cl,T.nP,gI _ _,_,rfl,k2 hc⟩
  ·rw [Bool.not_eq_true',Bool.not_eq_false] at hc
   refine ⟨Nat.zero_le _,fun q hq=>?_⟩
   have sq:aK H (upd H q (.lst [])):=fun b o e=>by rw [aB (aD e hq)];exact e
   have nrq:r≠q:=aD h1 hq
   refine ⟨Ii CR H r a q l p L,⟨L,0,rfl,[],rfl,rfl,aK.sx sq,⟨dx,sq _ _ h1⟩,le,aC,rfl⟩,?_⟩
   rintro m σ H1 ⟨i,hmi,xs,rfl,hxl,s1,hr1,le1,hq1,e1⟩
   have x1:=x.same s1 hr1 le1
   obtain ⟨dx1,g1⟩:=id hr1
   have fin:bE l p L=xs->∀ t,H1 t=none->Q (.ref t) (upd H1 t (.tup (xs.map V.int))):=by
    intro e2 t ht
    have st:aK H1 (upd H1 t (.tup (xs.map V.int))):=fun b o e=>by rw [aB (aD e ht)];exact e
    refine k1 hc _ t ⟨dx1,?_⟩ ?_ (s1.trans (aK.sx st)) ?_
    ·rw [e2,hxl];exact st _ _ g1
    ·rw [e2,hxl];exact le1
    ·rw [e2];exact aC
   refine ⟨_,rfl,q,_,rfl,.inl (dB.of hq1),_,rfl,_,_,rfl,rfl,_,rfl,bX (fun hlt=>?_) (fun hlt=>?_)⟩
   ·have hlt:((xs.map V.int).length:Int)<(L:Int):=of_decide_eq_true hlt
    rw [List.length_map] at hlt
    obtain ⟨n,rfl⟩:∃ n,m=n+1:=⟨m - 1,by (clear le1 le hL1000;omega)⟩
    obtain rfl:L=i+(n+1):=by (clear hlt le1 hxl le hL1000;omega)
    refine ⟨_,rfl,r,dx1,_,rfl,g1,rfl,r,a,l,p+i,rfl,x1,_,rfl,_,rfl,bX (fun hl=>Qj ?_) (fun hl=>?_)⟩
    ·exact ⟨Ii CR H r a q l p (i+(n+1)) n,fun _ _ z=>⟨n,Nat.lt_succ_self n,z⟩,zE x hq nrq hxl hL1000 s1 hr1 le1 hq1 e1 (by unfold gP;rw [hl];rfl) fun _ _ z=>z⟩
    ·refine ⟨_,rfl,r,dx1,_,rfl,g1,rfl,r,a,l,p+i,rfl,x1,_,rfl,_,rfl,bX (fun hd=>?_) (fun hd=>?_)⟩
     ·exact ⟨Ii CR H r a q l p (i+(n+1)) n,fun _ _ z=>⟨n,Nat.lt_succ_self n,z⟩,zE x hq nrq hxl hL1000 s1 hr1 le1 hq1 e1 (by unfold gP;rw [hd,Bool.or_true]) fun _ _ z=>z⟩
     ·refine ⟨_,rfl,q,_,rfl,.inl ⟨dB.of hq1,fin ?_⟩⟩
      rw [e1]
      show xs++(if gP (aQ l (p+i))=true then _ else _)=xs
      rw [if_neg (by unfold gP;rw [cV hl,cV hd];decide),List.append_nil]
   ·have hlt:¬((xs.map V.int).length:Int)<(L:Int):=fun z=>hlt (decide_eq_true z)
    rw [List.length_map] at hlt
    refine pX ⟨_,rfl,q,_,rfl,.inl ⟨dB.of hq1,fin ?_⟩⟩
    rw [e1,show m=0 by (clear le1 le hL1000;omega)]
    exact List.append_nil _
end
section
variable {P:Program} {w:World} {K:PySem.W.Frag} {mg:Str->Option Value} {base:Heap} {C CR:Addr}
def aAr (CR:Addr) (H:Hp) (r a:Addr) (l:List Int) (p:Nat) (lo hi:Int) (m:Nat) (σ:List (Option V)) (H':Hp):Prop:=
 ∃ (q:Nat) (v:Int),m+q=l.length/\σ=[some (.ref r),some (.int lo),some (.int hi),some (.int v)]/\SX r H H'/\iB CR H' r a q/\0<=v/\v<=hi/\eC l p hi=cW l hi m q v
def jU (K:PySem.W.Frag) (CR:Addr):Sp:=fun vs H Q E=>∃ (r a:Addr) (l:List Int) (p:Nat) (lo hi:Int),vs=[.ref r,.int lo,.int hi]/\jM K CR H r a l p/\0<=lo/\hi<=100000/\
 (jE l p lo hi->∀ H':Hp,iB CR H' r a (eC l p hi).2->(eC l p hi).2<=l.length->0<=(eC l p hi).1->(eC l p hi).1<=hi->SX r H H'->Q (.int (eC l p hi).1) H')/\(¬jE l p lo hi->E (.int p 0) none H)
theorem sM:aP ["self","least","most","value"] ["self","least","most"] (aH uH):=⟨rfl,rfl,rfl,by decide+kernel,rfl,by decide+kernel,by decide+kernel⟩
theorem Nj {f:Addr} {fd:FuncData} (F:fD K "read_number" "Reader.read_number" uH f fd) (T:Fq K CR) (S:Zg P w K mg base C) (hord:mg "ord"=none)
  (M1:nI P w K mg base CR "here" bS 2 ["self"] (oR K CR)) (M2:nI P w K mg base CR "take" bS 3 ["self"] (pB K CR)) (L2:dJ P w K mg base "is_digit" bS 1 ["byte"] nX):
  bO P w K mg base (iS C P w) 4 f fd ["self","least","most"] (jU K CR):=by
 obtain ⟨f1,fd1,m1,G1,b1⟩:=M1.ex
 obtain ⟨f2,fd2,m2,G2,b2⟩:=M2.ex
 obtain ⟨g2,gd2,GD,bD,kD,hD⟩:=L2.ex
 obtain ⟨fx,fdx,XT,GX,bx⟩:=S.ex
 refine F.okX sM (fun vs H Q E h=>?_) (fun cdv A outer s H vs Q E hr h=>?_)
 ·obtain ⟨r,a,l,p,lo,hi,rfl,_⟩:=h
  rfl
 ·obtain ⟨r,a,l,p,lo,hi,rfl,x,hlo,hhi,k1,k2⟩:=h
  obtain ⟨⟨dx,h1⟩,tx,le⟩:=id x
  have hr2:=hr.mono (j:=2) (by decide)
  have hr1:=hr.mono (j:=1) (by decide)
  refine ⟨_,aE (dS (Ig (lD (dW (aT GD hr1 (by rfl) hD kD bD .nil aY (aA (cA (pv 0) T.cl m1 G1 hr2 b1 .nil aY) aF))))
     (zW (lD (Oh pU pU (pv 1) (cU eR (cA (pv 0) T.cl m1 G1 hr2 b1 .nil aY) (iY 48 hord)) (pv 2))))).pt (aG (mB aM rfl XT GX hr2 (by rfl) S.mg bx (aR (pv 0) rfl))) bW)
   (aE (bA (i:=3) sM.nd rfl (Or.inl rfl) (cU eR (cA (pv 0) T.cl m2 G2 hr b2 .nil aY) (iY 48 hord)))
   (aE (iQ aM.own (fY (dA (qT (pv 3) aJ)) (fY (dW (aT GD hr1 (by rfl) hD kD bD .nil aY (aA (cA (pv 0) T.cl m1 G1 hr2 b1 .nil aY) aF)))
     (gK (dA (aAp (cU eR (cU gQ (cU Qv (pv 3) aJ) (cA (pv 0) T.cl m1 G1 hr2 b1 .nil aY)) (iY 48 hord)) (pv 2)))))).pt
    (aG (bA (i:=3) sM.nd rfl (Or.inl rfl) (cU eR (cU gQ (cU Qv (pv 3) aJ) (cA (pv 0) T.cl m2 G2 hr b2 .nil aY)) (iY 48 hord)))))
   (aG (aW (pv 3))))),?_⟩
  refine ⟨_,rfl,r,dx,_,rfl,h1,rfl,r,a,l,p,rfl,x,_,rfl,_,rfl,bX (fun hc=>Qj ?_) (fun hc=>?_)⟩
  ·rw [Bool.not_eq_true'] at hc
   exact ⟨_,rfl,r,CR,dx,_,_,rfl,h1,T.cl,T.nP,gI _ _,_,rfl,k2 fun z=>by rw [z.1] at hc;cases hc⟩
  ·rw [Bool.not_eq_true',Bool.not_eq_false] at hc
   refine ⟨_,rfl,_,rfl,r,dx,_,rfl,h1,rfl,r,a,l,p,rfl,x,_,_,rfl,rfl,_,_,rfl,rfl,_,rfl,bX (fun h3=>⟨_,rfl,_,_,rfl,rfl,_,rfl,bX (fun h4=>?_) (fun h4=>?_)⟩) (fun h3=>⟨_,rfl,Qj ?_⟩)⟩
   ·rw [Bool.not_eq_true',decide_eq_false_iff_not] at h4
    exact ⟨_,rfl,r,CR,dx,_,_,rfl,h1,T.cl,T.nP,gI _ _,_,rfl,k2 fun z=>h4 z.2.2⟩
   ·rw [Bool.not_eq_true',decide_eq_false_iff_not,Classical.not_not] at h4
    have h3:=of_decide_eq_true h3
    have hn:jE l p lo hi:=⟨hc,h3,h4⟩
    have lt:=Om hc
    have dr:=iE hc
    refine ⟨_,rfl,r,dx,_,rfl,h1,rfl,r,a,l,p,rfl,x,fun H1 hr1 s1=>⟨_,_,rfl,rfl,?_⟩⟩
    refine ⟨aAr CR H r a l p lo hi,⟨l.length - (p+1),p+1,aQ l p - 48,by (clear dr h3 h4 le hhi hlo;omega),rfl,s1,hr1,by (clear dr lt h4 le hhi;omega),h4,rfl⟩,?_⟩
    rintro m σ H2 ⟨q,v,hmq,rfl,s2,hr2,v0,vh,e2⟩
    have x2:=x.same s2 hr2 (by (clear vh v0 dr lt h3 h4 le hhi hlo;omega))
    obtain ⟨dx2,g2⟩:=id hr2
    have fin:eC l p hi=(v,q)->Q (.int v) H2:=fun e3=>by
     have z:=k1 hn H2
     rw [e3] at z
     exact z hr2 (by show q<=l.length;(clear vh v0 dr lt h3 h4 le hhi hlo;omega)) v0 vh s2
    refine ⟨_,rfl,_,_,rfl,rfl,_,rfl,bX (fun h5=>?_) (fun h5=>pX ⟨_,rfl,fin ?_⟩)⟩
    ·have h5:=of_decide_eq_true h5
     refine ⟨_,rfl,r,dx2,_,rfl,g2,rfl,r,a,l,q,rfl,x2,_,rfl,_,rfl,bX (fun h6=>?_) (fun h6=>pX ⟨_,rfl,fin ?_⟩)⟩
     ·have lt2:=Om h6
      have dr2:=iE h6
      obtain ⟨n,rfl⟩:∃ n,m=n+1:=⟨m - 1,by (clear dr2 h5 vh v0 dr lt h3 h4 le hhi hlo;omega)⟩
      refine ⟨_,rfl,_,_,rfl,rfl,.inl ⟨by (clear hmq dr2 lt2 h5 vh dr lt h3 h4 le hhi hlo;omega),by (clear hmq dr2 lt2 h5 v0 dr lt h3 h4 le hlo;omega)⟩,_,rfl,r,dx2,_,rfl,g2,rfl,r,a,l,q,rfl,x2,_,_,rfl,rfl,_,_,rfl,rfl,_,rfl,_,_,rfl,rfl,_,rfl,bX (fun h7=>?_) (fun h7=>⟨_,rfl,fin ?_⟩)⟩
      ·have h7:=of_decide_eq_true h7
       refine ⟨aAr CR H r a l p lo hi n,fun _ _ z=>⟨n,Nat.lt_succ_self n,z⟩,?_⟩
       refine ⟨_,rfl,_,_,rfl,rfl,.inl ⟨by (clear h7 hmq dr2 lt2 h5 vh dr lt h3 h4 le hhi hlo;omega),by (clear h7 hmq dr2 lt2 h5 v0 dr lt h3 h4 le hlo;omega)⟩,_,rfl,r,dx2,_,rfl,g2,rfl,r,a,l,q,rfl,x2,fun H3 hr3 s3=>⟨_,_,rfl,rfl,_,_,rfl,rfl,?_⟩⟩
       refine ⟨q+1,v * 10+aQ l q - 48,by (clear h7 dr2 lt2 h5 vh v0 dr lt h3 h4 le hhi hlo;omega),rfl,s2.trans s3,hr3,by (clear h7 hmq lt2 h5 vh dr lt h3 h4 le hhi hlo;omega),h7,?_⟩
       rw [e2]
       show (if _ then _ else _)=_
       rw [if_pos ⟨h5,h6,h7⟩]
      ·rw [e2]
       show (if _ then _ else _)=_
       rw [if_neg fun z=>h7 (decide_eq_true z.2.2)]
     ·rw [e2]
      cases m with
      |zero=>rfl
      |succ n=>
       show (if _ then _ else _)=_
       rw [if_neg fun z=>h6 z.2.1]
    ·rw [e2]
     cases m with
     |zero=>rfl
     |succ n=>
      show (if _ then _ else _)=_
      rw [if_neg fun z=>h5 (decide_eq_true z.1)]
   ·exact ⟨_,rfl,r,CR,dx,_,_,rfl,h1,T.cl,T.nP,gI _ _,_,rfl,k2 fun z=>h3 (decide_eq_true z.2.1)⟩
end
def fZ {α:Type} (x:α):Except Nat (List α×Nat)->Except Nat (List α×Nat)
 |.ok r=>.ok (x::r.1,r.2)
 |.error i=>.error i
def bT (l:List Int):Nat->Nat->Except Nat (List Int×Nat)
 |0,p=>.ok ([],p)
 |n+1,p=>if aQ l p∈cG then fZ (aQ l p) (bT l n (p+1)) else .error p
def eY (l:List Int) (w p:Nat):Except Nat (List Int×Nat):=match bT l w p with
 |.ok r=>if aQ l r.2=10 then .ok (r.1,r.2+1) else .error r.2
 |.error i=>.error i
def bK (l:List Int) (w:Nat):Nat->Nat->Except Nat (List (List Int)×Nat)
 |0,p=>.ok ([],p)
 |n+1,p=>match eY l w p with
  |.ok r=>fZ r.1 (bK l w n r.2)
  |.error i=>.error i
def fQ {α:Type} (xs:List α):Except Nat (List α×Nat)->Except Nat (List α×Nat)
 |.ok r=>.ok (xs++r.1,r.2)
 |.error i=>.error i
theorem jZ {α:Type} (r:Except Nat (List α×Nat)):fQ [] r=r:=by cases r<;>rfl
theorem iR {α:Type} (xs:List α) (x:α) (r:Except Nat (List α×Nat)):fQ xs (fZ x r)=fQ (xs++[x]) r:=by
 cases r with
 |error i=>rfl
 |ok r=>unfold fQ fZ;simp
abbrev eG (x y z:Int):List dR:=[Sum.inl x,Sum.inl y,Sum.inl z]
def eW (y z:Nat):Nat->List Int->List (List dR×V)
 |_,[]=>[]
 |x,s::r=>(if s=46 then [] else [(eG x y z,V.int s)])++eW y z (x+1) r
def dP (d:Nat):Nat->List (List Int)->List (List dR×V)
 |_,[]=>[]
 |j,r::rs=>eW (j % d) (j / d) 0 r++dP d (j+1) rs
theorem uY (y z:Nat) (s:Int):∀ (xs:List Int) (x:Nat),eW y z x (xs++[s])=eW y z x xs++(if s=46 then [] else [(eG ((x+xs.length:Nat):Int) y z,V.int s)])
 |[],x=>by simp [eW]
 |a::r,x=>by
  show _++eW y z (x+1) (r++[s])=(_++eW y z (x+1) r)++_
  rw [uY y z s r (x+1),<-List.append_assoc,List.length_cons,show x+1+r.length=x+(r.length+1) by omega]
theorem tE (d:Nat) (r:List Int):∀ (rs:List (List Int)) (j:Nat),dP d j (rs++[r])=dP d j rs++eW ((j+rs.length) % d) ((j+rs.length) / d) 0 r
 |[],j=>by simp [dP]
 |a::rs,j=>by
  show _++dP d (j+1) (rs++[r])=(_++dP d (j+1) rs)++_
  rw [tE d r rs (j+1),<-List.append_assoc,List.length_cons,show j+1+rs.length=j+(rs.length+1) by omega]
theorem rF {y z:Nat} {kv:List dR×V}:∀ {xs:List Int} {x:Nat},kv∈eW y z x xs->∃ x':Nat,kv.1=eG x' y z/\x<=x'/\x'<x+xs.length
 |[],x,h=>by simp [eW] at h
 |a::r,x,h=>by
  have h:kv∈(if a=46 then [] else [(eG x y z,V.int a)])++eW y z (x+1) r:=h
  rcases List.mem_append.mp h with h|h
  ·split at h
   ·cases h
   ·rw [List.mem_singleton.mp h]
    exact ⟨x,rfl,Nat.le_refl _,by simp⟩
  ·obtain ⟨x',e,h1,h2⟩:=rF h
   exact ⟨x',e,by (clear h2;omega),by rw [List.length_cons];(clear h1;omega)⟩
theorem wP {d:Nat} {kv:List dR×V}:∀ {rs:List (List Int)} {j:Nat},kv∈dP d j rs->∃ x' j':Nat,kv.1=eG x' ((j' % d:Nat):Int) ((j' / d:Nat):Int)/\j<=j'/\j'<j+rs.length
 |[],j,h=>by simp [dP] at h
 |a::rs,j,h=>by
  have h:kv∈eW (j % d) (j / d) 0 a++dP d (j+1) rs:=h
  rcases List.mem_append.mp h with h|h
  ·obtain ⟨x',e,_⟩:=rF h
   exact ⟨x',j,e,Nat.le_refl _,by simp⟩
  ·obtain ⟨x',j',e,h1,h2⟩:=wP h
   exact ⟨x',j',e,by (clear h2;omega),by rw [List.length_cons];(clear h1;omega)⟩
theorem sC (y z:Nat):∀ (xs:List Int) (x:Nat),(eW y z x xs).length<=xs.length
 |[],x=>by simp [eW]
 |a::r,x=>by
  show (_++eW y z (x+1) r).length<=_
  rw [List.length_append,List.length_cons]
  have:=sC y z r (x+1)
  split<;>simp<;>omega
theorem oV (d w:Nat):∀ (rs:List (List Int)) (j:Nat),(∀ r∈rs,r.length=w)->(dP d j rs).length<=rs.length * w
 |[],j,_=>by simp [dP]
 |a::rs,j,h=>by
  show (eW (j % d) (j / d) 0 a++dP d (j+1) rs).length<=_
  have h1:=sC (j % d) (j / d) a 0
  have h2:=oV d w rs (j+1) fun r hr=>h r (List.mem_cons_of_mem _ hr)
  have h3:=h a List.mem_cons_self
  rw [List.length_append,List.length_cons,Nat.succ_mul]
  omega
theorem Kz {κ:Type} [DecidableEq κ] {aI:List (κ×V)} {k:κ} (h:∀ kv∈aI,kv.1≠k):iT aI k=none:=by
 unfold iT
 rw [List.find?_eq_none.mpr fun kv hkv=>by simpa using h kv hkv]
 rfl
theorem Vx {d:Nat} {rs:List (List Int)} {xs:List Int} (hd:0<d):iT (dP d 0 rs++eW (rs.length % d) (rs.length / d) 0 xs) (eG (xs.length:Int) ((rs.length % d:Nat):Int) ((rs.length / d:Nat):Int))=none:=by
 refine Kz fun kv hkv e=>?_
 rcases List.mem_append.mp hkv with h|h
 ·obtain ⟨x',j',e',h1,h2⟩:=wP h
  rw [e'] at e
  simp only [eG,List.cons.injEq,Sum.inl.injEq,and_true] at e
  obtain ⟨_,e1,e2⟩:=e
  have q1:=Nat.div_add_mod j' d
  have q2:=Nat.div_add_mod rs.length d
  have e1':j' % d=rs.length % d:=by (clear q2 q1 e2 h2 h1 hd;omega)
  have e2':j' / d=rs.length / d:=by (clear e1' q2 q1 e1 h2 h1 hd;omega)
  rw [e1',e2'] at q1
  (clear e2' e1' e2 e1 h1 hd;omega)
 ·obtain ⟨x',e',h1,h2⟩:=rF h
  rw [e'] at e
  simp only [eG,List.cons.injEq,Sum.inl.injEq,and_true] at e
  obtain ⟨e1,_⟩:=e
  (clear h1 hd;omega)
section
variable {P:Program} {w:World} {K:PySem.W.Frag} {mg:Str->Option Value} {base:Heap} {C CR CP:Addr}
def CI (mg:Str->Option Value) (x:Str) (n:Int):Prop:=∃ tk,mg x=some (.int n tk)
theorem eP {X:Cx} {x:Str} {n:Int} {pos:Pos} (h:CI X.mg x n) (hg:Gl X x:=by rfl) (hd:(x==("__debug__":Str))=false:=by decide):PE X (.Name x pos) (tC (.int n)):=by
 obtain ⟨tk,h⟩:=h
 exact Ab hg h ⟨tk,rfl⟩ hd
def dY (s:Int):Bool:=decide (s=115)||decide (s=98)
def dC (s:Int):Bool:=decide (s=116)||decide (s=98)
def sE:Sp:=fun vs H Q _=>∃ s:Int,vs=[.int s]/\Q (.bl (dY s)) H
def rT:Sp:=fun vs H Q _=>∃ s:Int,vs=[.int s]/\Q (.bl (dC s)) H
theorem gT (i j:Int):decide (V.int i=V.int j)=decide (i=j):=by rw [tV,Bool.beq_eq_decide_eq]
theorem Uh:aP ["sign"] ["sign"] (aH qL):=⟨rfl,rfl,rfl,by decide+kernel,rfl,by decide+kernel,by decide+kernel⟩
theorem Vl {f:Addr} {fd:FuncData} (F:fD K "has_stud" "has_stud" qL f fd) (h1:CI mg "STUD" 115) (h2:CI mg "BOTH" 98):bO P w K mg base bS 1 f fd ["sign"] sE:=by
 refine F.ok Uh (fun vs H Q E h=>?_) (fun cdv A outer s H vs Q E hr h=>?_)
 ·obtain ⟨b,rfl,_⟩:=h
  rfl
 ·obtain ⟨b,rfl,k⟩:=h
  refine ⟨_,aG (aW (Sa (kT qR (pv 0) (eP h1) (gR _)) (sD (kT qR (pv 0) (eP h2) (gR _))))),?_⟩
  unfold dY at k
  rw [<-gT,<-gT] at k
  refine ⟨_,rfl,rfl,_,rfl,bX (fun h=>?_) (fun h=>⟨_,rfl,rfl,?_⟩)⟩
  ·rw [h] at k;exact k
  ·rw [cV h] at k;exact k
theorem Tg:aP ["sign"] ["sign"] (aH pL):=⟨rfl,rfl,rfl,by decide+kernel,rfl,by decide+kernel,by decide+kernel⟩
theorem Vp {f:Addr} {fd:FuncData} (F:fD K "has_tube" "has_tube" pL f fd) (h1:CI mg "TUBE" 116) (h2:CI mg "BOTH" 98):bO P w K mg base bS 1 f fd ["sign"] rT:=by
 refine F.ok Tg (fun vs H Q E h=>?_) (fun cdv A outer s H vs Q E hr h=>?_)
 ·obtain ⟨b,rfl,_⟩:=h
  rfl
 ·obtain ⟨b,rfl,k⟩:=h
  refine ⟨_,aG (aW (Sa (kT qR (pv 0) (eP h1) (gR _)) (sD (kT qR (pv 0) (eP h2) (gR _))))),?_⟩
  unfold dC at k
  rw [<-gT,<-gT] at k
  refine ⟨_,rfl,rfl,_,rfl,bX (fun h=>?_) (fun h=>⟨_,rfl,rfl,?_⟩)⟩
  ·rw [h] at k;exact k
  ·rw [cV h] at k;exact k
def lK:Sp:=fun vs H Q _=>∃ (g:Addr) (x y z:Int),vs=[.ref g]/\H g=some (.tup [.int x,.int y,.int z])/\∀ q,H q=none->Q (.ref q) (upd H q (.tup [.int x,.int y,.int (z+1)]))
def nE:Sp:=fun vs H Q _=>∃ (g:Addr) (x y z:Int),vs=[.ref g]/\H g=some (.tup [.int x,.int y,.int z])/\∀ q,H q=none->Q (.ref q) (upd H q (.tup [.int x,.int y,.int (z - 1)]))
theorem Oq:aP ["place"] ["place"] (aH Bk):=⟨rfl,rfl,rfl,by decide+kernel,rfl,by decide+kernel,by decide+kernel⟩
theorem Sj {f:Addr} {fd:FuncData} (F:fD K "above" "above" Bk f fd):bO P w K mg base bS 1 f fd ["place"] lK:=by
 refine F.ok Oq (fun vs H Q E h=>?_) (fun cdv A outer s H vs Q E hr h=>?_)
 ·obtain ⟨g,x,y,z,rfl,_⟩:=h
  rfl
 ·obtain ⟨g,x,y,z,rfl,hg,k⟩:=h
  refine ⟨_,aG (aW (eK (aA (bV bU (pv 0) aJ (fun _ _=>rfl)) (aA (bV bU (pv 0) aJ (fun _ _=>rfl)) (aA (cU gQ (bV bU (pv 0) aJ (fun _ _=>rfl)) aJ) aF))))),?_⟩
  refine ⟨_,rfl,g,_,_,_,rfl,rfl,cN.of hg,rfl,_,rfl,g,_,_,_,rfl,rfl,cN.of hg,rfl,_,rfl,g,_,_,_,rfl,rfl,cN.of hg,rfl,_,_,rfl,rfl,(by show 3<=sizeLine;decide),k⟩
theorem Oj:aP ["place"] ["place"] (aH Bv):=⟨rfl,rfl,rfl,by decide+kernel,rfl,by decide+kernel,by decide+kernel⟩
theorem Ri {f:Addr} {fd:FuncData} (F:fD K "below" "below" Bv f fd):bO P w K mg base bS 1 f fd ["place"] nE:=by
 refine F.ok Oj (fun vs H Q E h=>?_) (fun cdv A outer s H vs Q E hr h=>?_)
 ·obtain ⟨g,x,y,z,rfl,_⟩:=h
  rfl
 ·obtain ⟨g,x,y,z,rfl,hg,k⟩:=h
  refine ⟨_,aG (aW (eK (aA (bV bU (pv 0) aJ (fun _ _=>rfl)) (aA (bV bU (pv 0) aJ (fun _ _=>rfl)) (aA (cU eR (bV bU (pv 0) aJ (fun _ _=>rfl)) aJ) aF))))),?_⟩
  refine ⟨_,rfl,g,_,_,_,rfl,rfl,cN.of hg,rfl,_,rfl,g,_,_,_,rfl,rfl,cN.of hg,rfl,_,rfl,g,_,_,_,rfl,rfl,cN.of hg,rfl,_,_,rfl,rfl,(by show 3<=sizeLine;decide),k⟩
def Nn (nm:Addr) (W D Hh g:Int) (cells:Addr):List (Str×V):=[("name",.ref nm),("width",.int W),("depth",.int D),("height",.int Hh),("weight",.int g),("cells",.ref cells)]
structure Nq (K:PySem.W.Frag) (CP:Addr):Prop where
 cl:Fr K CP
 n1:cZ K CP "name"
 n2:cZ K CP "width"
 n3:cZ K CP "depth"
 n4:cZ K CP "height"
 n5:cZ K CP "weight"
 n6:cZ K CP "cells"
def Kn (CP:Addr):Sp:=fun vs H Q _=>∃ (r dx nm cells:Addr) (W D Hh g:Int),vs=[.ref r,.ref nm,.int W,.int D,.int Hh,.int g,.ref cells]/\H r=some (.ins CP dx [])/\∀ H':Hp,H' r=some (.ins CP dx (Nn nm W D Hh g cells))->SX r H H'->Q .non H'
theorem Pr:aP ["self","name","width","depth","height","weight","cells"] ["self","name","width","depth","height","weight","cells"] (aH Ar):=⟨rfl,rfl,rfl,by decide+kernel,rfl,by decide+kernel,by decide+kernel⟩
theorem Pw {f:Addr} {fd:FuncData} (F:fD K "__init__" "Part.__init__" Ar f fd) (T:Nq K CP):bO P w K mg base bS 1 f fd ["self","name","width","depth","height","weight","cells"] (Kn CP):=by
 refine F.ok Pr (fun vs H Q E h=>?_) (fun cdv A outer s H vs Q E hr h=>?_)
 ·obtain ⟨r,dx,nm,cells,W,D,Hh,g,rfl,_⟩:=h
  rfl
 ·obtain ⟨r,dx,nm,cells,W,D,Hh,g,rfl,hp,k⟩:=h
  refine ⟨_,aE (dQ (pv 0) (pv 1) rfl) (aE (dQ (pv 0) (pv 2) rfl) (aE (dQ (pv 0) (pv 3) rfl) (aE (dQ (pv 0) (pv 4) rfl) (aE (dQ (pv 0) (pv 5) rfl) (aG (dQ (pv 0) (pv 6) rfl)))))),?_⟩
  refine ⟨_,rfl,_,rfl,r,CP,dx,_,rfl,hp,T.cl,T.n1,(by show 0<1000;decide),?_⟩
  refine ⟨_,rfl,_,rfl,r,CP,dx,_,rfl,aC,T.cl,T.n2,(by show 1<1000;decide),?_⟩
  refine ⟨_,rfl,_,rfl,r,CP,dx,_,rfl,aC,T.cl,T.n3,(by show 2<1000;decide),?_⟩
  refine ⟨_,rfl,_,rfl,r,CP,dx,_,rfl,aC,T.cl,T.n4,(by show 3<1000;decide),?_⟩
  refine ⟨_,rfl,_,rfl,r,CP,dx,_,rfl,aC,T.cl,T.n5,(by show 4<1000;decide),?_⟩
  refine ⟨_,rfl,_,rfl,r,CP,dx,_,rfl,aC,T.cl,T.n6,(by show 5<1000;decide),?_⟩
  exact k _ aC fun b o e hb=>by rw [aB hb,aB hb,aB hb,aB hb,aB hb,aB hb];exact e
end
end Br1
namespace L2
open PySem PySem.Spec PyProof.Rows
theorem lF {n:Nat} {g:TG} {tb:TS} {D:fT} {σ:St} {H:Hp} (Pv:Nat->St->Hp->Prop) (h0:Pv 0 σ H)
  (hs:∀ i σ H,i<n->Pv i σ H->g (.int (i:Int)) σ H fun σ2 H2=>tb {D with nx:=Pv (i+1),ct:=Pv (i+1),bk:=D.nx} σ2 H2) (hd:∀ σ H,Pv n σ H->D.nx σ H):
  ∃ W:Nat->Nat->St->Hp->Prop,(∃ m,W 0 m σ H)/\∀ i m σ H,W i m σ H->
   ((Mh 0 ((n:Int)).toNat).stop i H/\D.nx σ H)\/((Mh 0 ((n:Int)).toNat).go i H/\∃ N:St->Hp->Prop,(∀ σ' H',N σ' H'->∃ m',m'<m/\W (i+1) m' σ' H')/\∀ x H',(Mh 0 ((n:Int)).toNat).yld i H x H'->g x σ H' fun σ2 H2=>tb {D with nx:=N,ct:=N,bk:=D.nx} σ2 H2):=by
 rw [Int.toNat_natCast]
 refine sB (lo:=0) (n:=n) Pv h0 (fun i σ H hi p=>?_) hd
 rw [Int.zero_add]
 exact hs i σ H hi p
end L2
namespace Br1
open PySem PySem.Spec PyProof.Rows L2
theorem Lz {l:List Int} {w n pr i:Nat} {rs:List (List Int)} (h:bT l w pr=.error i):fQ rs (bK l w (n+1) pr)=.error i:=by
 have e:eY l w pr=.error i:=by
  unfold eY
  rw [h]
 unfold bK
 rw [e]
 rfl
theorem To {l:List Int} {w n pr q:Nat} {rs:List (List Int)} {xs:List Int} (h:bT l w pr=.ok (xs,q)) (h2:¬aQ l q=10):fQ rs (bK l w (n+1) pr)=.error q:=by
 have e:eY l w pr=.error q:=by
  unfold eY
  rw [h]
  exact if_neg h2
 unfold bK
 rw [e]
 rfl
theorem Yw {l:List Int} {w n pr q:Nat} {rs:List (List Int)} {xs:List Int} (h:bT l w pr=.ok (xs,q)) (h2:aQ l q=10):fQ rs (bK l w (n+1) pr)=fQ (rs++[xs]) (bK l w n (q+1)):=by
 have e:eY l w pr=.ok (xs,q+1):=by
  unfold eY
  rw [h]
  exact if_pos h2
 rw [<-iR]
 show fQ rs (bK l w (n+1) pr)=_
 rw [bK,e]
theorem qW:("\n":Str).cps.toList=[10]:=by decide+kernel
section
variable {P:Program} {w:World} {K:PySem.W.Frag} {mg:Str->Option Value} {base:Heap} {C CR CP:Addr}
def Az (K:PySem.W.Frag) (CR:Addr):Sp:=fun vs H Q E=>∃ (r a:Addr) (l:List Int) (p W D Hh:Nat),vs=[.ref r,.int W,.int D,.int Hh]/\jM K CR H r a l p/\W<=16/\D<=16/\Hh<=18/\0<D/\
 match bK l W (D * Hh) p with
 |.ok q=>∀ (H':Hp) (c:Addr),iB CR H' r a q.2->q.2<=l.length->SX r H H'->H c=none->H' c=some (.dT (dP D 0 q.1))->(∀ x∈q.1,x.length=W)->Q (.ref c) H'
 |.error i=>∀ H':Hp,SX r H H'->E (.int i 0) none H'
structure CS (CR:Addr) (H:Hp) (r a c:Addr) (l:List Int) (d:Nat) (rs:List (List Int)) (xs:List Int) (p':Nat) (H':Hp):Prop where
 sx:SX r H H'
 rd:iB CR H' r a p'
 le:p'<=l.length
 dc:H' c=some (.dT (dP d 0 rs++eW (rs.length % d) (rs.length / d) 0 xs))
def SgC (r c:Addr) (W D Hh z y:Nat) (v7 v8:Option V):List (Option V):=[some (.ref r),some (.int W),some (.int D),some (.int Hh),some (.ref c),some (.int z),some (.int y),v7,v8]
abbrev Zn (K:PySem.W.Frag) (CR aS:Addr) (E:XK):TS:=Fh (Bs (lZ CR "read_one_of" (pH K CR) [] E (eO 0) (eU (tC (.ref aS)) hZ)) (mF 8)) (Xd (Rg (Yi rNe (eO 8) (tC (.int 46)))) (Ww (eO 4) (aBd (eU (eO 7) (eU (eO 6) (eU (eO 5) hZ)))) (eO 8)) Wp)
theorem Hr {H H1:Hp} {r a c aS:Addr} {l:List Int} {p W D Hh z y i pr p':Nat} {rs:List (List Int)} {xs:List Int} {v8:Option V} {E:XK} {Dn:fT} (x:jM K CR H r a l p) (hc:H c=none) (nrc:r≠c) (hS:∀ H,cN K H aS (cG.map V.int)) (hW:W<=16)
  (hrs:rs.length<=300) (hrw:∀ q∈rs,q.length=W) (hD:0<D) (hz:z=rs.length / D) (hy:y=rs.length % D) (hi:i<W) (hx:xs.length=i) (cs:CS CR H r a c l D rs xs p' H1) (e1:bT l W pr=fQ xs (bT l (W - i) p'))
  (kE:∀ q,bT l W pr=.error q->∀ H',SX r H H'->E (.int q 0) none H')
  (kN:∀ (v8:Option V) (H':Hp) (xs':List Int) (q:Nat),xs'.length=i+1->CS CR H r a c l D rs xs' q H'->bT l W pr=fQ xs' (bT l (W - (i+1)) q)->Dn.nx (SgC r c W D Hh z y (some (.int i)) v8) H'):
  Zn K CR aS E Dn (SgC r c W D Hh z y (some (.int i)) v8) H1:=by
 subst hz hy
 obtain ⟨dx,h1⟩:=id cs.rd
 have x1:=x.same cs.sx cs.rd cs.le
 obtain ⟨n,hn⟩:∃ n,W - i=n+1:=⟨W - i - 1,by (clear hx hD hrs hW;omega)⟩
 have hn2:W - (i+1)=n:=by (clear hx hi hD hrs hW;omega)
 rw [hn] at e1
 refine ⟨_,rfl,r,dx,_,rfl,h1,rfl,⟨r,a,aS,l,cG,p',rfl,x1,hS H1,by decide,fun hin H2 hr2 s2=>?_,fun hin=>?_⟩⟩
 ·have lt:p'<l.length:=fV fun q=>by rw [q] at hin;revert hin;decide
  have e2:bT l W pr=fQ (xs++[aQ l p']) (bT l n (p'+1)):=by
   rw [e1,<-iR]
   show fQ xs (if aQ l p'∈cG then _ else _)=_
   rw [if_pos hin]
  have c2:H2 c=some (.dT (dP D 0 rs++eW (rs.length % D) (rs.length / D) 0 xs)):=s2 _ _ cs.dc (Ne.symm nrc)
  have ls:(xs++[aQ l p']).length=i+1:=by simp [hx]
  have ek:=uY (rs.length % D) (rs.length / D) (aQ l p') xs 0
  rw [Nat.zero_add] at ek
  refine ⟨_,rfl,rfl,_,rfl,bX (fun hne=>?_) (fun hne=>?_)⟩
  ·have hne:¬aQ l p'=46:=by
    intro q
    rw [q] at hne
    revert hne
    decide
   rw [if_neg hne,hx] at ek
   refine ⟨_,rfl,_,rfl,_,rfl,_,rfl,_,rfl,(by show 3<=sizeLine;decide),fun g hg=>?_⟩
   have sg:aK H2 (upd H2 g (.tup [.int i,.int ((rs.length % D:Nat):Int),.int ((rs.length / D:Nat):Int)])):=fun b o e=>by rw [aB (aD e hg)];exact e
   refine ⟨c,_,rfl,xG.t (k:=eG i ((rs.length % D:Nat):Int) ((rs.length / D:Nat):Int)) (sg _ _ c2) aC ?_,?_⟩
   ·have h1:=oV D W rs 0 hrw
    have h2:=sC (rs.length % D) (rs.length / D) xs 0
    have h3:rs.length * W<=300 * 16:=Nat.mul_le_mul hrs hW
    have:=bI
    rw [List.length_append]
    (clear hne ls lt hn2 hn hD hrs;omega)
   ·have kn:=Vx (d:=D) (rs:=rs) (xs:=xs) hD
    rw [hx] at kn
    have kp:=pG (V.int (aQ l p')) kn
    refine kN _ _ (xs++[aQ l p']) (p'+1) ls ⟨fun b o e hb=>?_,?_,lt,?_⟩ (by rw [hn2];exact e2)
    ·rw [aB (aD e hc)]
     exact sg b o (s2 b o (cs.sx b o e hb) hb)
    ·obtain ⟨dx2,g2⟩:=hr2
     exact ⟨dx2,by rw [aB nrc];exact sg _ _ g2⟩
    ·rw [aC,kp,List.append_assoc,ek]
  ·have hne:aQ l p'=46:=by
    refine Classical.byContradiction fun q=>hne ?_
    show (!decide (V.int (aQ l p')=V.int 46))=true
    rw [gT,decide_eq_false q]
    rfl
   rw [if_pos hne,List.append_nil] at ek
   refine kN _ _ (xs++[aQ l p']) (p'+1) ls ⟨cs.sx.trans s2,hr2,lt,?_⟩ (by rw [hn2];exact e2)
   rw [ek]
   exact c2
 ·refine kE p' ?_ _ cs.sx
  rw [e1]
  show fQ xs (if aQ l p'∈cG then _ else _)=_
  rw [if_neg hin]
  rfl
end
theorem yV {l:List Int}:∀ {n p:Nat} {r:List Int×Nat},bT l n p=.ok r->r.1.length=n
 |0,p,r,h=>by cases h;rfl
 |n+1,p,r,h=>by
  rw [bT] at h
  split at h
  ·cases e:bT l n (p+1) with
   |error i=>rw [e] at h;cases h
   |ok q=>
    rw [e] at h
    cases h
    show (_::q.1).length=n+1
    rw [List.length_cons,yV e]
  ·cases h
section
variable {P:Program} {w:World} {K:PySem.W.Frag} {mg:Str->Option Value} {base:Heap} {C CR CP:Addr}
theorem kJ:aP ["reader","width","depth","height","cells","z","y","x","sign"] ["reader","width","depth","height"] (aH lL):=⟨rfl,rfl,rfl,by decide+kernel,rfl,by decide+kernel,by decide+kernel⟩
theorem Qw {f aS:Addr} {fd:FuncData} (F:fD K "read_cells" "read_cells" lL f fd) (T:Fq K CR) (hrange:mg "range"=none) (hS:∀ H,cN K H aS (cG.map V.int)) (hSg:mg "SIGNS"=some (.ref aS)) (hNC:CI mg "NO_CELL" 46)
  (M1:nI P w K mg base CR "read_one_of" (iS C P w) 4 ["self","signs"] (pH K CR)) (M2:nI P w K mg base CR "read_word" (iS C P w) 5 ["self","word"] (kO K CR)):
  bO P w K mg base (iS C P w) 6 f fd ["reader","width","depth","height"] (Az K CR):=by
 obtain ⟨f1,fd1,m1,G1,b1⟩:=M1.ex
 obtain ⟨f2,fd2,m2,G2,b2⟩:=M2.ex
 refine F.okX kJ (fun vs H Q E h=>?_) (fun cdv A outer s H vs Q E hr h=>?_)
 ·obtain ⟨r,a,l,p,W,D,Hh,rfl,_⟩:=h
  rfl
 ·obtain ⟨r,a,l,p,W,D,Hh,rfl,x,hW,hD,hH,hD0,k⟩:=h
  obtain ⟨⟨dx,h1⟩,tx,le⟩:=id x
  have hr4:=hr.mono (j:=4) (by decide)
  have hu:=jW hr
  refine ⟨_,aE (bA (i:=4) kJ.nd rfl (Or.inl rfl) jR)
   (aE (eA aM.own rfl (iI rfl hrange (aA (pv 3) aF)) (bH (i:=5) kJ.nd rfl (Or.inl rfl))
    (aG (eA aM.own rfl (iI rfl hrange (aA (pv 2) aF)) (bH (i:=6) kJ.nd rfl (Or.inl rfl))
     (aE (eA aM.own rfl (iI rfl hrange (aA (pv 1) aF)) (bH (i:=7) kJ.nd rfl (Or.inl rfl))
      (aE (bA (i:=8) kJ.nd rfl (Or.inl rfl) (cR (pv 0) T.cl m1 G1 hr4 b1 .nil aM.pass (aA (Ab (v:=.ref aS) (by rfl) hSg rfl) aF)))
      (aG (dS (hJ aB4 (pv 8) (eP hNC) (gR _)) (aG (lI hu (pv 4) (eK (aA (pv 7) (aA (pv 6) (aA (pv 5) aF)))) (pv 8) rfl)) bW))))
     (aG (bZ (cR (pv 0) T.cl m2 G2 hr b2 .nil aM.pass (aA gE aF))))))))
   (aG (aW (pv 4)))),?_⟩
  intro c hc
  have nrc:r≠c:=aD h1 hc
  have sc0:aK H (upd H c (.dT [])):=fun b o e=>by rw [aB (aD e hc)];exact e
  refine ⟨_,rfl,_,rfl,by (clear hu le hD0 hH hD hW;omega),by (clear hu le hD0 hD hW;omega),lF (n:=Hh) (fun z σ H'=>∃ (rs:List (List Int)) (p':Nat) (v5 v6 v7 v8:Option V),σ=[some (.ref r),some (.int W),some (.int D),some (.int Hh),some (.ref c),v5,v6,v7,v8]/\
   rs.length=z * D/\(∀ q∈rs,q.length=W)/\CS CR H r a c l D rs [] p' H'/\bK l W (D * Hh) p=fQ rs (bK l W (D * Hh - z * D) p'))
   ⟨[],p,none,none,none,none,rfl,by simp,(fun q hq=>nomatch hq),⟨aK.sx sc0,⟨dx,sc0 _ _ h1⟩,le,aC⟩,by rw [jZ,Nat.zero_mul,Nat.sub_zero]⟩ ?_ ?_⟩
  ·rintro z σ H1 hz ⟨rs,p1,v5,v6,v7,v8,rfl,hrl,hrw,cs,e1⟩
   have zD:z * D+D<=D * Hh:=by
    rw [Nat.mul_comm D Hh,<-Nat.succ_mul]
    exact Nat.mul_le_mul_right D hz
   have DH:D * Hh<=16 * 18:=Nat.mul_le_mul hD hH
   refine ⟨_,rfl,_,rfl,by (clear DH zD hrl hz hu le hD0 hH hD hW;omega),by (clear DH zD hrl hz hu le hD0 hH hW;omega),lF (n:=D) (fun y σ H'=>∃ (rs:List (List Int)) (p':Nat) (v6 v7 v8:Option V),σ=[some (.ref r),some (.int W),some (.int D),some (.int Hh),some (.ref c),some (.int z),v6,v7,v8]/\
    rs.length=z * D+y/\(∀ q∈rs,q.length=W)/\CS CR H r a c l D rs [] p' H'/\bK l W (D * Hh) p=fQ rs (bK l W (D * Hh - (z * D+y)) p'))
    ⟨rs,p1,v6,v7,v8,rfl,hrl,hrw,cs,e1⟩ ?_ ?_⟩
   ·rintro y σ H2 hy ⟨rs,pr,v6,v7,v8,rfl,hrl,hrw,cs,e1⟩
    obtain ⟨n,hn⟩:∃ n,D * Hh - (z * D+y)=n+1:=⟨D * Hh - (z * D+y) - 1,by (clear hrl DH hz hu le hD0 hH hD hW;omega)⟩
    have hn2:D * Hh - (z * D+(y+1))=n:=by (clear hrl hy DH zD hz hu le hD0 hH hD hW;omega)
    rw [hn] at e1
    have ey:y=rs.length % D:=by
     rw [hrl,Nat.add_comm,Nat.add_mul_mod_self_right,Nat.mod_eq_of_lt hy]
    have ez:z=rs.length / D:=by
     rw [hrl,Nat.add_comm,Nat.add_mul_div_right _ _ hD0,Nat.div_eq_of_lt hy,Nat.zero_add]
    have kE:∀ q,bK l W (D * Hh) p=.error q->∀ H',SX r H H'->E (.int q 0) none H':=fun q e H' s'=>by
     rw [e] at k
     exact k H' s'
    refine ⟨_,rfl,_,rfl,by (clear ez ey hn2 hn hrl hy DH zD hz hu le hD0 hH hD hW;omega),by (clear ez ey hn2 hn hrl hy DH zD hz hu le hD0 hH hD;omega),lF (n:=W) (fun i σ H'=>∃ (xs:List Int) (p':Nat) (v7 v8:Option V),σ=SgC r c W D Hh z y v7 v8/\xs.length=i/\CS CR H r a c l D rs xs p' H'/\bT l W pr=fQ xs (bT l (W - i) p'))
     ⟨[],pr,v7,v8,rfl,rfl,cs,by rw [jZ,Nat.sub_zero]⟩ ?_ ?_⟩
    ·rintro i σ H3 hi ⟨xs,p',v7,v8,rfl,hx,cs,e2⟩
     exact Hr x hc nrc hS hW (by (clear hx hi ez ey hn2 hn hz hu le hD0 hH hD hW;omega)) hrw hD0 ez ey hi hx cs e2 (fun q e H' s'=>kE q (by rw [e1];exact Lz e) H' s') fun v8 H' xs' q g1 g2 g3=>⟨xs',q,_,v8,rfl,g1,g2,g3⟩
    ·rintro σ H3 ⟨xs,p',v7,v8,rfl,hx,cs,e2⟩
     have e3:bT l W pr=.ok (xs,p'):=by
      rw [e2,Nat.sub_self]
      show Except.ok (xs++[],p')=_
      rw [List.append_nil]
     obtain ⟨dx3,g3⟩:=id cs.rd
     refine ⟨_,rfl,r,dx3,_,rfl,g3,rfl,r,a,l,p',"\n",rfl,x.same cs.sx cs.rd cs.le,?_,?_⟩
     ·rw [qW]
      intro q hq
      rw [List.mem_singleton.mp hq]
      decide
     ·rw [qW]
      have ew:aU l p' [10]=if aQ l p'=10 then .ok (p'+1) else .error p':=rfl
      rw [ew]
      by_cases h10:aQ l p'=10
      ·rw [if_pos h10]
       intro H4 hr4 le4 s4
       have c4:H4 c=some (.dT (dP D 0 rs++eW (rs.length % D) (rs.length / D) 0 xs)):=s4 _ _ cs.dc (Ne.symm nrc)
       refine ⟨rs++[xs],p'+1,_,v7,v8,rfl,by simp [hrl];(clear le4 h10 hx ez ey hn2 hn hrl hy DH zD hz hu le hD0 hH hD hW;omega),fun q hq=>?_,⟨cs.sx.trans s4,hr4,le4,?_⟩,?_⟩
       ·rcases List.mem_append.mp hq with hq|hq
        ·exact hrw q hq
        ·rw [List.mem_singleton.mp hq];exact hx
       ·have ek:=tE D xs rs 0
        rw [Nat.zero_add] at ek
        rw [ek,c4]
        show _=some (HO.dT ((_++_)++[]))
        rw [List.append_nil]
       ·rw [e1,Yw e3 h10,hn2]
      ·rw [if_neg h10]
       intro H4 s4
       exact kE p' (by rw [e1];exact To e3 h10) H4 (cs.sx.trans s4)
   ·rintro σ H2 ⟨rs,p',v6,v7,v8,rfl,hrl,hrw,cs,e1⟩
    exact ⟨rs,p',_,v6,v7,v8,rfl,by rw [hrl,Nat.succ_mul],hrw,cs,by rw [Nat.succ_mul];exact e1⟩
  ·rintro σ H1 ⟨rs,p',v5,v6,v7,v8,rfl,hrl,hrw,cs,e1⟩
   have e2:bK l W (D * Hh) p=.ok (rs,p'):=by
    rw [e1,Nat.mul_comm Hh D,Nat.sub_self]
    show Except.ok (rs++[],p')=_
    rw [List.append_nil]
   rw [e2] at k
   refine ⟨_,rfl,k H1 c cs.rd cs.le cs.sx hc ?_ hrw⟩
   rw [cs.dc]
   show some (HO.dT (_++[]))=_
   rw [List.append_nil]
end
def eD {α β:Type} (r:Except Nat α) (f:α->Except Nat β):Except Nat β:=match r with
 |.ok a=>f a
 |.error i=>.error i
theorem bY {α β:Type} (a:α) (f:α->Except Nat β):eD (.ok a) f=f a:=rfl
theorem An {α β:Type} (i:Nat) (f:α->Except Nat β):eD (.error i) f=.error i:=rfl
instance {l:List Int} {p:Nat} {lo hi:Int}:Decidable (jE l p lo hi):=by unfold jE;infer_instance
def gA (l:List Int) (p L:Nat):Except Nat (List Int×Nat):=if jY (aQ l p)=true then .ok (bE l p L,p+(bE l p L).length) else .error p
def iU (l:List Int) (p:Nat) (lo hi:Int):Except Nat (Nat×Nat):=if jE l p lo hi then .ok ((eC l p hi).1.toNat,(eC l p hi).2) else .error p
structure aN where
 name:List Int
 w:Nat
 d:Nat
 h:Nat
 g:Nat
 rows:List (List Int)
def dM (l:List Int) (p:Nat):Except Nat (aN×Nat):=
 eD (aU l p [112,97,114,116,32]) fun p1=>eD (gA l p1 8) fun nm=>eD (aU l nm.2 [32]) fun p3=>eD (iU l p3 1 16) fun w=>eD (aU l w.2 [32]) fun p5=>eD (iU l p5 1 16) fun d=>
 eD (aU l d.2 [32]) fun p7=>eD (iU l p7 1 18) fun h=>eD (aU l h.2 [32]) fun p9=>eD (iU l p9 1 9999) fun g=>eD (aU l g.2 [10]) fun p11=>eD (bK l w.1 (d.1 * h.1) p11) fun rs=>.ok (⟨nm.1,w.1,d.1,h.1,g.1,rs.1⟩,rs.2)
theorem Ls:("part ":Str).cps.toList=[112,97,114,116,32]:=by decide+kernel
theorem iK:(" ":Str).cps.toList=[32]:=by decide+kernel
theorem On:∀ {l:List Int} {hi:Int} {n p:Nat} {v:Int},1<=v->1<=(cW l hi n p v).1
 |l,hi,0,p,v,h=>h
 |l,hi,n+1,p,v,h=>by
  rw [cW]
  split
  ·rename_i q
   have:=iE q.2.1
   exact On (by (clear q;omega))
  ·exact h
theorem Ve {l:List Int} {p:Nat} {lo hi:Int} (h:jE l p lo hi):iU l p lo hi=.ok ((eC l p hi).1.toNat,(eC l p hi).2):=if_pos h
theorem Oe {l:List Int} {p:Nat} {lo hi:Int} (h:¬jE l p lo hi):iU l p lo hi=.error p:=if_neg h
section
variable {P:Program} {w:World} {K:PySem.W.Frag} {mg:Str->Option Value} {base:Heap} {C CR CP:Addr}
theorem yC {H:Hp} {r a:Addr} {l:List Int} {p:Nat} {x:Str} {cs:List Nat} {Q:V->Hp->Prop} {E:XK} (hx:x.cps.toList=cs) (h256:∀ c∈cs,c<256) (tx:jM K CR H r a l p)
  (k1:∀ p',aU l p cs=.ok p'->∀ H',jM K CR H' r a l p'->SX r H H'->Q .non H') (k2:∀ i,aU l p cs=.error i->∀ H',SX r H H'->E (.int i 0) none H'):kO K CR [.ref r,.str x] H Q E:=by
 refine ⟨r,a,l,p,x,rfl,tx,by rw [hx];exact h256,?_⟩
 rw [hx]
 cases e:aU l p cs with
 |ok p'=>exact fun H' hr hl s=>k1 p' e H' (tx.same s hr hl) s
 |error i=>exact fun H' s=>k2 i e H' s
theorem Fb {H:Hp} {r a:Addr} {l:List Int} {p:Nat} {lo:Int} {hi:Nat} {Q:V->Hp->Prop} {E:XK} (tx:jM K CR H r a l p) (hlo:0<=lo) (hhi:hi<=100000)
  (k1:∀ v:Nat×Nat,iU l p lo hi=.ok v->v.1<=hi->(1<=lo->1<=v.1)->∀ H',jM K CR H' r a l v.2->SX r H H'->Q (.int v.1) H') (k2:iU l p lo hi=.error p->E (.int p 0) none H):jU K CR [.ref r,.int lo,.int hi] H Q E:=by
 refine ⟨r,a,l,p,lo,hi,rfl,tx,hlo,by (clear hlo;omega),fun ok H' hr hl h0 hh s=>?_,fun no=>k2 (Oe no)⟩
 have e:=k1 _ (Ve ok) (by show (eC l p hi).1.toNat<=hi;(clear h0 hl hhi hlo;omega)) (fun h1=>by
  have z:=On (l:=l) (hi:=hi) (n:=l.length - (p+1)) (p:=p+1) (v:=aQ l p - 48) (by have:=ok.2.1;(clear hh h0 hl hhi hlo;omega))
  show 1<=(eC l p hi).1.toNat
  unfold eC
  (clear h1 hh h0 hl hhi hlo;omega)) H' (tx.same s hr hl) s
 have z:(((eC l p hi).1.toNat:Nat):Int)=(eC l p hi).1:=by (clear hh hl hhi hlo;omega)
 rw [<-z]
 exact e
def dX (CP:Addr) (H:Hp) (b:Addr) (pr:aN):Prop:=∃ dx nm c,H b=some (.ins CP dx (Nn nm pr.w pr.d pr.h pr.g c))/\H nm=some (.tup (pr.name.map V.int))/\H c=some (.dT (dP pr.d 0 pr.rows))
structure sJ (pr:aN):Prop where
 w1:1<=pr.w
 w2:pr.w<=16
 d1:1<=pr.d
 d2:pr.d<=16
 h1:1<=pr.h
 h2:pr.h<=18
 g2:pr.g<=9999
 rw:∀ q∈pr.rows,q.length=pr.w
 rl:pr.rows.length=pr.d * pr.h
 nm:pr.name.length<=8
def Gc (K:PySem.W.Frag) (CR CP:Addr):Sp:=fun vs H Q E=>∃ (r a:Addr) (l:List Int) (p:Nat),vs=[.ref r]/\jM K CR H r a l p/\
 match dM l p with
 |.ok q=>∀ (H':Hp) (b:Addr),jM K CR H' r a l q.2->SX r H H'->H b=none->dX CP H' b q.1->sJ q.1->Q (.ref b) H'
 |.error i=>∀ H':Hp,SX r H H'->E (.int i 0) none H'
theorem Cf {l:List Int} {w:Nat}:∀ {n p:Nat} {r:List (List Int)×Nat},bK l w n p=.ok r->r.1.length=n
 |0,p,r,h=>by cases h;rfl
 |n+1,p,r,h=>by
  rw [bK] at h
  cases e:eY l w p with
  |error i=>rw [e] at h;cases h
  |ok q=>
   rw [e] at h
   cases e2:bK l w n q.2 with
   |error i=>
    have h:fZ q.1 (bK l w n q.2)=.ok r:=h
    rw [e2] at h;cases h
   |ok q2=>
    have h:fZ q.1 (bK l w n q.2)=.ok r:=h
    rw [e2] at h
    cases h
    show (_::q2.1).length=n+1
    rw [List.length_cons,Cf e2]
theorem sS {l:List Int}:∀ {n p:Nat},(bE l p n).length<=n
 |0,p=>Nat.le_refl _
 |n+1,p=>by
  rw [bE]
  split
  ·rw [List.length_cons];exact Nat.succ_le_succ sS
  ·exact Nat.zero_le _
theorem nR:aP ["reader","name","width","depth","height","weight"] ["reader"] (aH mY):=⟨rfl,rfl,rfl,by decide+kernel,rfl,by decide+kernel,by decide+kernel⟩
end
section
variable {P:Program} {w:World} {K:PySem.W.Frag} {mg:Str->Option Value} {base:Heap} {C CR CP:Addr}
theorem xR {H:Hp} {r a:Addr} {l:List Int} {p L:Nat} {Q:V->Hp->Prop} {E:XK} (tx:jM K CR H r a l p) (hL:L<=1000)
  (k1:∀ v:List Int×Nat,gA l p L=.ok v->∀ (H':Hp) (q:Addr),jM K CR H' r a l v.2->SX r H H'->H' q=some (.tup (v.1.map V.int))->v.1.length<=L->Q (.ref q) H') (k2:gA l p L=.error p->E (.int p 0) none H):oU K CR [.ref r,.int L] H Q E:=by
 refine ⟨r,a,l,p,L,rfl,tx,hL,fun ok H' q hr hl s hq=>?_,fun no=>k2 ?_⟩
 ·exact k1 (bE l p L,p+(bE l p L).length) (if_pos ok) H' q (tx.same s hr hl) s hq sS
 ·exact if_neg (by rw [no];decide)
theorem eQ {t u:TS} {D:fT} {σ:List (Option V)} {H:Hp} (h:t {D with nx:=u D} σ H):Fh t u D σ H:=h
theorem gZ {H:Hp} {r a:Addr} {l:List Int} {p:Nat} {x:Str} {cs:List Nat} {D:fT} {σ:List (Option V)} {E:XK} (hσ:σ[0]?=some (some (.ref r))) (hx:x.cps.toList=cs) (h256:∀ c∈cs,c<256) (tx:jM K CR H r a l p)
  (k2:∀ i,aU l p cs=.error i->∀ H',SX r H H'->E (.int i 0) none H') (k1:∀ p',aU l p cs=.ok p'->∀ H',jM K CR H' r a l p'->SX r H H'->D.nx σ H'):yE (lZ CR "read_word" (kO K CR) [] E (eO 0) (eU (tC (.str x)) hZ)) D σ H:=by
 obtain ⟨⟨dx,h1⟩,_,_⟩:=id tx
 exact ⟨_,hσ,r,dx,_,rfl,h1,rfl,yC (Q:=fun _ H1=>D.nx σ H1) hx h256 tx (fun p' e H' x' s'=>k1 p' e H' x' s') k2⟩
theorem Bn {H:Hp} {r a:Addr} {l:List Int} {p i:Nat} {lo hiI:Int} {hi:Nat} {D:fT} {σ:List (Option V)} {E:XK} (hh:hiI=(hi:Int)) (hσ:σ[0]?=some (some (.ref r))) (tx:jM K CR H r a l p) (hlo:0<=lo) (hhi:hi<=100000)
  (k2:iU l p lo hiI=.error p->E (.int p 0) none H) (k1:∀ v:Nat×Nat,iU l p lo hiI=.ok v->v.1<=hi->(1<=lo->1<=v.1)->∀ H',jM K CR H' r a l v.2->SX r H H'->D.nx (σ.set i (some (.int v.1))) H'):
  Bs (lZ CR "read_number" (jU K CR) [] E (eO 0) (eU (tC (.int lo)) (eU (tC (.int hiI)) hZ))) (mF i) D σ H:=by
 subst hh
 obtain ⟨⟨dx,h1⟩,_,_⟩:=id tx
 exact ⟨_,hσ,r,dx,_,rfl,h1,rfl,Fb (Q:=fun y H1=>D.nx (σ.set i (some y)) H1) tx hlo hhi (fun v e g1 g2 H' x' s'=>k1 v e g1 g2 H' x' s') k2⟩
theorem Vv {H:Hp} {r a:Addr} {l:List Int} {p L i:Nat} {D:fT} {σ:List (Option V)} {E:XK} (hσ:σ[0]?=some (some (.ref r))) (tx:jM K CR H r a l p) (hL:L<=1000) (k2:gA l p L=.error p->E (.int p 0) none H)
  (k1:∀ v:List Int×Nat,gA l p L=.ok v->∀ (H':Hp) (q:Addr),jM K CR H' r a l v.2->SX r H H'->H' q=some (.tup (v.1.map V.int))->v.1.length<=L->D.nx (σ.set i (some (.ref q))) H'):
  Bs (lZ CR "read_name" (oU K CR) [] E (eO 0) (eU (tC (.int L)) hZ)) (mF i) D σ H:=by
 obtain ⟨⟨dx,h1⟩,_,_⟩:=id tx
 exact ⟨_,hσ,r,dx,_,rfl,h1,rfl,xR (Q:=fun y H1=>D.nx (σ.set i (some y)) H1) tx hL (fun v e H' q x' s' g1 g2=>k1 v e H' q x' s' g1 g2) k2⟩
theorem SX.tup {CR r q:Addr} {H H':Hp} {xs:List V} {a:Addr} {p:Nat} (s:SX r H H') (hr:iB CR H r a p) (h:H q=some (.tup xs)):H' q=some (.tup xs):=by
 obtain ⟨dx,g⟩:=hr
 exact s _ _ h (by rintro rfl;rw [g] at h;cases h)
theorem b32:∀ c∈([32]:List Nat),c<256:=by decide
theorem b10:∀ c∈([10]:List Nat),c<256:=by decide
structure PtM (P:Program) (w:World) (K:PySem.W.Frag) (mg:Str->Option Value) (base:Heap) (CP:Addr):Prop where
 ex:∃ f fd,Mk K CP f/\bO P w K mg base bS 1 f fd ["self","name","width","depth","height","weight","cells"] (Kn CP)/\eV K fd ["self","name","width","depth","height","weight","cells"] []
 mg:mg "Part"=some (.ref CP)
theorem Td {f:Addr} {fd:FuncData} (F:fD K "read_part" "read_part" mY f fd) (T:Fq K CR) (PM:PtM P w K mg base CP) (c1:CI mg "LONGEST_PART_NAME" 8) (c2:CI mg "MOST_WIDTH" 16) (c3:CI mg "MOST_DEPTH" 16) (c4:CI mg "MOST_HEIGHT" 18) (c5:CI mg "MOST_WEIGHT" 9999)
  (M1:nI P w K mg base CR "read_word" (iS C P w) 5 ["self","word"] (kO K CR)) (M2:nI P w K mg base CR "read_name" (iS C P w) 4 ["self","longest"] (oU K CR)) (M3:nI P w K mg base CR "read_number" (iS C P w) 4 ["self","least","most"] (jU K CR))
  (L1:dJ P w K mg base "read_cells" (iS C P w) 6 ["reader","width","depth","height"] (Az K CR)):bO P w K mg base (iS C P w) 7 f fd ["reader"] (Gc K CR CP):=by
 obtain ⟨f1,fd1,m1,G1,b1⟩:=M1.ex
 obtain ⟨f2,fd2,m2,G2,b2⟩:=M2.ex
 obtain ⟨f3,fd3,m3,G3,b3⟩:=M3.ex
 obtain ⟨g1,gd1,GC,bC,kC,hC⟩:=L1.ex
 obtain ⟨fp,fdp,MP,GP,bP⟩:=PM.ex
 refine F.okX nR (fun vs H Q E h=>?_) (fun cdv A outer s H vs Q E hr h=>?_)
 ·obtain ⟨r,a,l,p,rfl,_⟩:=h
  rfl
 ·obtain ⟨r,a,l,p,rfl,x,k⟩:=h
  have hr5:=hr.mono (j:=5) (by decide)
  have hr4:=hr.mono (j:=4) (by decide)
  have hr2:=hr.mono (j:=2) (by decide)
  refine ⟨_,aE (bZ (cR (pv 0) T.cl m1 G1 hr5 b1 .nil aM.pass (aA gE aF)))
   (aE (bA (i:=1) nR.nd rfl (Or.inl rfl) (cR (pv 0) T.cl m2 G2 hr4 b2 .nil aM.pass (aA (eP c1) aF)))
   (aE (bZ (cR (pv 0) T.cl m1 G1 hr5 b1 .nil aM.pass (aA gE aF)))
   (aE (bA (i:=2) nR.nd rfl (Or.inl rfl) (cR (pv 0) T.cl m3 G3 hr4 b3 .nil aM.pass (aA aJ (aA (eP c2) aF))))
   (aE (bZ (cR (pv 0) T.cl m1 G1 hr5 b1 .nil aM.pass (aA gE aF)))
   (aE (bA (i:=3) nR.nd rfl (Or.inl rfl) (cR (pv 0) T.cl m3 G3 hr4 b3 .nil aM.pass (aA aJ (aA (eP c3) aF))))
   (aE (bZ (cR (pv 0) T.cl m1 G1 hr5 b1 .nil aM.pass (aA gE aF)))
   (aE (bA (i:=4) nR.nd rfl (Or.inl rfl) (cR (pv 0) T.cl m3 G3 hr4 b3 .nil aM.pass (aA aJ (aA (eP c4) aF))))
   (aE (bZ (cR (pv 0) T.cl m1 G1 hr5 b1 .nil aM.pass (aA gE aF)))
   (aE (bA (i:=5) nR.nd rfl (Or.inl rfl) (cR (pv 0) T.cl m3 G3 hr4 b3 .nil aM.pass (aA aJ (aA (eP c5) aF))))
   (aE (bZ (cR (pv 0) T.cl m1 G1 hr5 b1 .nil aM.pass (aA gE aF)))
   (aG (aW (qB MP GP hr2 (by rfl) PM.mg bP .nil aY (aA (pv 1) (aA (pv 2) (aA (pv 3) (aA (pv 4) (aA (pv 5)
    (aA (aT GC hr (by rfl) hC kC bC .nil aM.pass (aA (pv 0) (aA (pv 2) (aA (pv 3) (aA (pv 4) aF))))) aF))))))))))))))))))),?_⟩
  unfold dM at k
  refine eQ (gZ rfl Ls (by decide) x (fun i e1 H' s1=>by rw [e1] at k;exact k H' s1) fun p1 e1 H1 x1 s1=>?_)
  rw [e1,bY] at k
  refine eQ (Vv (L:=8) rfl x1 (by decide) (fun e2=>by rw [e2] at k;exact k _ s1) fun nm e2 H2 qn x2 s2 hn hn8=>?_)
  rw [e2,bY] at k
  have s2:=s1.trans s2
  refine eQ (gZ rfl iK b32 x2 (fun i e3 H' s3=>by rw [e3] at k;exact k H' (s2.trans s3)) fun p3 e3 H3 x3 s3=>?_)
  rw [e3,bY] at k
  have hn3:=s3.tup x2.rd hn
  have s3:=s2.trans s3
  refine eQ (Bn (lo:=1) (hiI:=16) (hi:=16) rfl rfl x3 (by decide) (by decide) (fun e4=>by rw [e4] at k;exact k _ s3) fun W e4 hW2 hW1 H4 x4 s4=>?_)
  rw [e4,bY] at k
  have hn4:=s4.tup x3.rd hn3
  have s4:=s3.trans s4
  refine eQ (gZ rfl iK b32 x4 (fun i e5 H' s5=>by rw [e5] at k;exact k H' (s4.trans s5)) fun p5 e5 H5 x5 s5=>?_)
  rw [e5,bY] at k
  have hn5:=s5.tup x4.rd hn4
  have s5:=s4.trans s5
  refine eQ (Bn (lo:=1) (hiI:=16) (hi:=16) rfl rfl x5 (by decide) (by decide) (fun e6=>by rw [e6] at k;exact k _ s5) fun D e6 hD2 hD1 H6 x6 s6=>?_)
  rw [e6,bY] at k
  have hn6:=s6.tup x5.rd hn5
  have s6:=s5.trans s6
  refine eQ (gZ rfl iK b32 x6 (fun i e7 H' s7=>by rw [e7] at k;exact k H' (s6.trans s7)) fun p7 e7 H7 x7 s7=>?_)
  rw [e7,bY] at k
  have hn7:=s7.tup x6.rd hn6
  have s7:=s6.trans s7
  refine eQ (Bn (lo:=1) (hiI:=18) (hi:=18) rfl rfl x7 (by decide) (by decide) (fun e8=>by rw [e8] at k;exact k _ s7) fun Hh e8 hH2 hH1 H8 x8 s8=>?_)
  rw [e8,bY] at k
  have hn8':=s8.tup x7.rd hn7
  have s8:=s7.trans s8
  refine eQ (gZ rfl iK b32 x8 (fun i e9 H' s9=>by rw [e9] at k;exact k H' (s8.trans s9)) fun p9 e9 H9 x9 s9=>?_)
  rw [e9,bY] at k
  have hn9:=s9.tup x8.rd hn8'
  have s9:=s8.trans s9
  refine eQ (Bn (lo:=1) (hiI:=9999) (hi:=9999) rfl rfl x9 (by decide) (by decide) (fun e10=>by rw [e10] at k;exact k _ s9) fun g e10 hg2 hg1 H10 x10 s10=>?_)
  rw [e10,bY] at k
  have hn10:=s10.tup x9.rd hn9
  have s10:=s9.trans s10
  refine eQ (gZ rfl qW b10 x10 (fun i e11 H' s11=>by rw [e11] at k;exact k H' (s10.trans s11)) fun p11 e11 H11 x11 s11=>?_)
  rw [e11,bY] at k
  have hn11:=s11.tup x10.rd hn10
  have s11:=s10.trans s11
  obtain ⟨⟨dx,h1⟩,_,_⟩:=id x11
  have hD0:=hD1 (by decide)
  refine ⟨_,rfl,_,rfl,_,rfl,_,rfl,_,rfl,_,rfl,_,rfl,_,rfl,_,rfl,r,a,l,p11,W.1,D.1,Hh.1,rfl,x11,hW2,hD2,hH2,hD0,?_⟩
  cases e12:bK l W.1 (D.1 * Hh.1) p11 with
  |error i=>
   intro H' s'
   rw [e12] at k
   exact k H' (s11.trans s')
  |ok q=>
   intro H12 c hr12 le12 s12 hc hcc hrw
   rw [e12,bY] at k
   have hn12:=s12 _ _ hn11 (by rintro rfl;rw [h1] at hn11;cases hn11)
   have s12':=s11.trans s12
   intro b db hb hdb hne
   obtain ⟨dx12,g12⟩:=id hr12
   refine ⟨b,db,qn,c,W.1,D.1,Hh.1,g.1,rfl,aC,fun H13 hpt s13=>⟨rfl,?_⟩⟩
   have up:∀ y o,H12 y=some o->upd (upd H12 db (.own b)) b (.ins CP db []) y=some o:=fun y o e=>by rw [aB (aD e hb),aB (aD e hdb)];exact e
   have up2:∀ y o,H12 y=some o->H13 y=some o:=fun y o e=>s13 y o (up y o e) (aD e hb)
   have sH:SX r H H13:=fun y o e hy=>up2 y o (s12' y o e hy)
   have hb0:H b=none:=by
    cases z:H b with
    |none=>rfl
    |some o=>
     have:=s12' b o z (by rintro rfl;rw [g12] at hb;cases hb)
     rw [hb] at this;cases this
   refine k H13 b (x.same sH ⟨dx12,up2 _ _ g12⟩ le12) sH hb0 ⟨db,qn,c,hpt,up2 _ _ hn12,up2 _ _ hcc⟩ ⟨hW1 (by decide),hW2,hD0,hD2,hH1 (by decide),hH2,hg2,hrw,Cf e12,hn8⟩
end
def cJ (l:List Int):Nat->Nat->Except Nat (List aN×Nat)
 |0,p=>.ok ([],p)
 |n+1,p=>if p=l.length then .ok ([],p) else eD (dM l p) fun q=>fZ q.1 (cJ l n q.2)
def gS (l:List Int):Except Nat (List aN):=eD (dM l 0) fun q=>eD (cJ l 63 q.2) fun r=>if r.2=l.length then .ok (q.1::r.1) else .error r.2
theorem dX.keep {CP:Addr} {H H':Hp} {b:Addr} {pr:aN} (h:dX CP H b pr) (k:∀ y o,H y=some o->(y=b\/(∃ xs,o=.tup xs)\/∃ aI,o=.dT aI)->H' y=some o):dX CP H' b pr:=by
 obtain ⟨dx,nm,c,h1,h2,h3⟩:=h
 exact ⟨dx,nm,c,k _ _ h1 (.inl rfl),k _ _ h2 (.inr (.inl ⟨_,rfl⟩)),k _ _ h3 (.inr (.inr ⟨_,rfl⟩))⟩
theorem dX.same {CP:Addr} {H H':Hp} {b:Addr} {pr:aN} (h:dX CP H b pr) (s:aK H H'):dX CP H' b pr:=h.keep fun y o e _=>s y o e
theorem dX.sx {CP CR r a:Addr} {p:Nat} {H H':Hp} {b:Addr} {pr:aN} (h:dX CP H b pr) (hb:b≠r) (hr:iB CR H r a p) (s:SX r H H'):dX CP H' b pr:=by
 obtain ⟨dx,g⟩:=hr
 refine h.keep fun y o e z=>s y o e ?_
 rintro rfl
 rw [g] at e
 cases e
 rcases z with z|⟨_,z⟩|⟨_,z⟩
 ·exact hb z.symm
 ·cases z
 ·cases z
theorem dX.list {CP q:Addr} {H:Hp} {b:Addr} {pr:aN} {xs ys:List V} (h:dX CP H b pr) (hq:H q=some (.lst xs)):dX CP (upd H q (.lst ys)) b pr:=by
 have hb:b≠q:=by
  obtain ⟨dx,nm,c,h1,_⟩:=h
  rintro rfl
  rw [h1] at hq
  cases hq
 refine h.keep fun y o e z=>?_
 rw [aB ?_]
 ·exact e
 ·rintro rfl
  rw [hq] at e
  cases e
  rcases z with z|⟨_,z⟩|⟨_,z⟩
  ·exact hb z.symm
  ·cases z
  ·cases z
def dZ (CP:Addr) (H:Hp) (bs:List Addr) (prs:List aN):Prop:=Paired (fun b pr=>dX CP H b pr/\sJ pr) bs prs
section
variable {P:Program} {w:World} {K:PySem.W.Frag} {mg:Str->Option Value} {base:Heap} {C CR CP:Addr}
def Jj (K:PySem.W.Frag) (CP:Addr):Sp:=fun vs H Q E=>∃ (a:Addr) (l:List Int),vs=[.ref a]/\dB K H a (l.map V.int)/\
 match gS l with
 |.ok prs=>∀ (H':Hp) (q:Addr) (bs:List Addr),aK H H'->H' q=some (.lst (bs.map V.ref))->dZ CP H' bs prs->prs.length<=64->1<=prs.length->Q (.ref q) H'
 |.error i=>∀ H':Hp,aK H H'->E (.int i 0) none H'
theorem Hw:aP ["c","reader","parts"] ["c"] (aH qY):=⟨rfl,rfl,rfl,by decide+kernel,rfl,by decide+kernel,by decide+kernel⟩
structure RdK (P:Program) (w:World) (K:PySem.W.Frag) (mg:Str->Option Value) (base:Heap) (CR:Addr):Prop where
 ex:∃ f fd,Mk K CR f/\bO P w K mg base bS 1 f fd ["self","text"] (aBq CR)/\eV K fd ["self","text"] []
 mg:mg "Reader"=some (.ref CR)
def aBs (CR CP:Addr) (H:Hp) (r a q:Addr) (l:List Int) (p0 m:Nat) (pr0:aN) (σ:List (Option V)) (H':Hp):Prop:=
 ∃ (ps:List aN) (bs:List Addr) (p':Nat),σ=[some (.ref a),some (.ref r),some (.ref q)]/\ps.length+m=63/\p'<=l.length/\aK H H'/\iB CR H' r a p'/\H' q=some (.lst (bs.map V.ref))/\
  Paired (fun b pr=>b≠r/\dX CP H' b pr/\sJ pr) bs (pr0::ps)/\cJ l 63 p0=fQ ps (cJ l m p')
theorem Zk {f:Addr} {fd:FuncData} (F:fD K "read_catalogue" "read_catalogue" qY f fd) (T:Fq K CR) (RK:RdK P w K mg base CR) (hlen:mg "len"=none) (c1:CI mg "MOST_PARTS" 64) (M1:nI P w K mg base CR "ended" bS 1 ["self"] (nQ K CR))
  (M2:nI P w K mg base CR "read_end" (iS C P w) 3 ["self"] (xT K CR)) (L1:dJ P w K mg base "read_part" (iS C P w) 7 ["reader"] (Gc K CR CP)):bO P w K mg base (iS C P w) 8 f fd ["c"] (Jj K CP):=by
 obtain ⟨f1,fd1,m1,G1,b1⟩:=M1.ex
 obtain ⟨f2,fd2,m2,G2,b2⟩:=M2.ex
 obtain ⟨g1,gd1,GP,bP,kP,hP⟩:=L1.ex
 obtain ⟨fr,fdr,MR,GR,bR⟩:=RK.ex
 refine F.okX Hw (fun vs H Q E h=>?_) (fun cdv A outer s H vs Q E hr h=>?_)
 ·obtain ⟨a,l,rfl,_⟩:=h
  rfl
 ·obtain ⟨a,l,rfl,tx,k⟩:=h
  have hr3:=hr.mono (j:=3) (by decide)
  have hr2:=hr.mono (j:=2) (by decide)
  have hr1:=hr.mono (j:=1) (by decide)
  refine ⟨_,aE (bA (i:=1) Hw.nd rfl (Or.inl rfl) (qB MR GR hr2 (by rfl) RK.mg bR .nil aY (aA (pv 0) aF)))
   (aE (bA (i:=2) Hw.nd rfl (Or.inl rfl) (dL (aA (aT GP hr (by rfl) hP kP bP .nil aM.pass (aA (pv 1) aF)) aF)))
   (aE (iQ aM.own (fY (dA (Je (bN bJ (by rfl) hlen PySem.boot_len (aA (pv 2) aF)) (eP c1))) (gK (lD (dW (cA (pv 1) T.cl m1 G1 hr1 b1 .nil aY))))).pt
    (aG (bZ (mH PySem.F.plainAttrs_list PySem.F.slot_list_append PySem.F.type_list_append eI (pv 2) (aA (aT GP hr (by rfl) hP kP bP .nil aM.pass (aA (pv 1) aF)) aF)))))
   (aE (bZ (cA (pv 1) T.cl m2 G2 hr3 b2 .nil aM.pass))
   (aG (aW (pv 2)))))),?_⟩
  refine ⟨_,rfl,fun r dr nr ndr ndrr=>?_⟩
  refine ⟨r,dr,a,rfl,aC,fun H1 hr1 s1=>⟨rfl,?_⟩⟩
  have up:∀ y o,H y=some o->H1 y=some o:=fun y o e=>s1 y o (by rw [aB (aD e nr),aB (aD e ndr)];exact e) (aD e nr)
  have S1:aK H H1:=up
  have x1:jM K CR H1 r a l 0:=⟨hr1,S1.seq tx,Nat.zero_le _⟩
  have sxs:∀ {H2:Hp},SX r H1 H2->aK H H2:=fun s2 y o e=>s2 y o (S1 y o e) (aD e nr)
  unfold gS at k
  refine ⟨_,rfl,r,a,l,0,rfl,x1,?_⟩
  cases e1:dM l 0 with
  |error i=>
   intro H' s'
   rw [e1] at k
   exact k H' (sxs s')
  |ok q0=>
   intro H2 b0 x2 s2 nb0 pa0 po0
   rw [e1,bY] at k
   refine ⟨by show 1<=sizeLine;decide,fun q hq=>?_⟩
   have hb0:b0≠r:=fun z=>by rw [z] at nb0;obtain ⟨dx,g⟩:=hr1;rw [nb0] at g;cases g
   have sq:aK H2 (upd H2 q (.lst [.ref b0])):=fun b o e=>by rw [aB (aD e hq)];exact e
   have hqH:H q=none:=(sxs s2).free hq
   obtain ⟨dx2,g2⟩:=x2.rd
   refine ⟨fun m=>aBs CR CP H r a q l q0.2 m q0.1,⟨63,[],[b0],q0.2,rfl,rfl,x2.le,(sxs s2).trans sq,⟨dx2,sq _ _ g2⟩,aC,.cons ⟨hb0,pa0.same sq,po0⟩ .nil,by rw [jZ]⟩,?_⟩
   rintro m σ H3 ⟨ps,bs,p',rfl,hm,lp,S3,hr3,hq3,pp,e3⟩
   have x3:jM K CR H3 r a l p':=⟨hr3,S3.seq tx,lp⟩
   obtain ⟨dx3,g3⟩:=id hr3
   have hbl:bs.length=ps.length+1:=by
    have:=Paired.length pp
    rw [List.length_cons] at this
    exact this
   have nrq:r≠q:=fun z=>by rw [z,hq3] at g3;cases g3
   have fin:cJ l m p'=.ok ([],p')->Fh (yE (lZ CR "read_end" (xT K CR) [] E (eO 1) hZ)) (Yb (eO 2)) {nx:=fun _ H'=>Q .non H',rt:=Q} [some (.ref a),some (.ref r),some (.ref q)] H3:=by
    intro e4
    have e5:cJ l 63 q0.2=.ok (ps,p'):=by
     rw [e3,e4]
     show Except.ok (ps++[],p')=_
     rw [List.append_nil]
    rw [e5,bY] at k
    refine ⟨_,rfl,r,dx3,_,rfl,g3,rfl,r,a,l,p',rfl,x3,fun he=>⟨_,rfl,?_⟩,fun he=>?_⟩
    ·have he:p'=l.length:=he
     rw [if_pos he] at k
     refine k H3 q bs S3 hq3 (Paired.mapP pp fun _ _ z=>z.2) ?_ ?_
     ·show (q0.1::ps).length<=64
      rw [List.length_cons]
      (clear he hbl lp;omega)
     ·show 1<=(q0.1::ps).length
      rw [List.length_cons]
      (clear he hbl lp hm;omega)
    ·have he:¬p'=l.length:=he
     rw [if_neg he] at k
     exact k H3 S3
   refine ⟨_,rfl,q,_,rfl,.inl (dB.of hq3),_,_,rfl,rfl,_,rfl,bX (fun hlt=>?_) (fun hlt=>pX (fin ?_))⟩
   ·have hlt:((bs.map V.ref).length:Int)<64:=of_decide_eq_true hlt
    rw [List.length_map] at hlt
    obtain ⟨n,rfl⟩:∃ n,m=n+1:=⟨m - 1,by (clear lp;omega)⟩
    refine ⟨_,rfl,r,dx3,_,rfl,g3,rfl,r,a,l,p',rfl,x3,_,rfl,bX (fun hne=>?_) (fun hne=>fin ?_)⟩
    ·rw [Bool.not_eq_true',decide_eq_false_iff_not] at hne
     refine ⟨aBs CR CP H r a q l q0.2 n q0.1,fun _ _ z=>⟨n,Nat.lt_succ_self n,z⟩,?_⟩
     refine ⟨_,rfl,.inl ⟨rfl,_,dB.of hq3⟩,_,rfl,r,a,l,p',rfl,x3,?_⟩
     have e4:cJ l (n+1) p'=eD (dM l p') fun q=>fZ q.1 (cJ l n q.2):=if_neg hne
     cases e5:dM l p' with
     |error i=>
      intro H' s'
      have e6:cJ l 63 q0.2=.error i:=by
       rw [e3,e4,e5]
       rfl
      rw [e6] at k
      exact k H' fun y o e=>s' y o (S3 y o e) (aD e nr)
     |ok q1=>
      intro H4 b4 x4 s4 nb4 pa4 po4
      have hq4:H4 q=some (.lst (bs.map V.ref)):=s4 _ _ hq3 (Ne.symm nrq)
      refine ⟨q,_,_,rfl,rfl,hq4,?_,?_⟩
      ·rw [List.length_map]
       have:=bI
       (clear hne hm hbl lp;omega)
      ·have hb4:b4≠r:=fun z=>by rw [z,g3] at nb4;cases nb4
       obtain ⟨dx4,g4⟩:=x4.rd
       refine ⟨ps++[q1.1],bs++[b4],q1.2,rfl,by simp;(clear hne hlt hbl lp;omega),x4.le,fun y o e=>?_,⟨dx4,by rw [aB nrq];exact g4⟩,by rw [aC,List.map_append];rfl,?_,?_⟩
       ·have e7:=S3 y o e
        have e8:=s4 y o e7 (aD e nr)
        rw [aB (aD e hqH)]
        exact e8
       ·have pp2:Paired (fun b pr=>b≠r/\dX CP (upd H4 q (.lst (bs.map V.ref++[V.ref b4]))) b pr/\sJ pr) bs (q0.1::ps):=Paired.mapP pp fun b pr z=>⟨z.1,(z.2.1.sx z.1 hr3 s4).list hq4,z.2.2⟩
        exact Paired.snoc pp2 ⟨hb4,pa4.list hq4,po4⟩
       ·rw [e3,e4,e5,bY,iR]
    ·rw [Bool.not_eq_true',decide_eq_false_iff_not,Classical.not_not] at hne
     exact if_pos hne
   ·have hlt:¬((bs.map V.ref).length:Int)<64:=fun z=>hlt (decide_eq_true z)
    rw [List.length_map] at hlt
    rw [show m=0 by (clear lp;omega)]
    rfl
end
end Br1
namespace L2
open PySem PySem.Spec PyProof.Rows
section
variable {prog:Program} {w:World} {A:Around} {E:Value->Shared->Prop} {s:Shared} {d:Addr} {o:Obj} {es:Array DictEntry} {ep:Nat}
theorem xW (hs:(d==sysModules)=false):MeetsIn prog w (Builtin.«dict.items» ⟨[.ref d],[]⟩) (fun _ R s=>s.TypeIs (.ref d) "dict"/\
  R (.ok (.ret (.ref s.heap.objs.size))) {s with heap:=s.heap.push {cls:=.type "dict_items",data:=.fields #[.ref d]}}):=
 .of_wp fun A R s ⟨hm,h⟩=>by
  unfold Builtin.«dict.items» Builtin.Dict.noArgs
  refine wpAny_bind (wpAny_bind (wpAny_notOrdered_dict hm ?_))
  show wpAny _ _ (pure d) _ _ s
  refine wpAny_pure ?_
  show wpAny _ _ (Builtin.Dict.showsAll d>>=_) _ _ s
  unfold Builtin.Dict.showsAll
  rw [if_neg (by rw [hs];exact Bool.false_ne_true)]
  exact wpAny_bind (wpAny_pure (wpAny_bind (wpAny_newObj_type (wpAny_pure ⟨_,rfl,h⟩))))
theorem Cb {v:Addr} {n:Nat} {Q:Value->Shared->Prop} (hv:s.heap.IsItemsView v d) (ho:s.heap.get? d=some o) (hdat:o.data=.dict es ep) (hn:es.size=n)
  (hQ:Q (.ref s.heap.objs.size) {s with heap:=s.heap.push {cls:=.type "dict_itemiterator",data:=.fields #[.none,.bool false,.ref d,.int 0 0,.int n 0,.int ep 0,.none,.none]}}):
  wpAny (model prog w) A (pyIter (.ref v)) Q E s:=by
 obtain ⟨ov,hov,hcv,hdv⟩:=id hv
 refine wpAny_pyIter_slot hv.typeIs F.slot_dict_items_iter (wpAny_call_entry F.slot_dict_items_iter hv.typeIs F.entry_dict_items_iter ?_ (F.args_dict_items_iter_1 _))
 unfold Builtin.«dict_items.__iter__»
 refine wpAny_bind (wpAny_pure (wpAny_bind ?_))
 unfold Builtin.Dict_items.dictOf
 refine wpAny_bind (wpAny_field hov hdv (x:=.ref d) rfl (wpAny_pure (wpAny_bind ?_)))
 unfold Builtin.Dict_items.newIterator
 refine wpAny_bind (wpAny_dictEntries ho hdat (wpAny_bind (wpAny_dictEpoch ho hdat ?_)))
 have hown:Builtin.Dict_items.ownsTuple "dict_itemiterator"=true:=by decide
 simp only [hown,if_true]
 refine wpAny_newObj_type (wpAny_pure ⟨_,rfl,"dict_itemiterator",_,⟨_,Heap.get?_push_size _ rfl,rfl⟩,F.slot_dict_itemiterator_next.lookup,?_⟩)
  (by simp only [sizeOk,Builtin.Dict_items.ownedTupleFields,List.size_toArray,List.length_append,List.length_cons,List.length_nil,sizeLine_eq];(clear hn;omega))
 simpa [rawInt,hn,Builtin.Dict_items.ownedTupleFields] using hQ
theorem Qy {it:Addr} {i n:Nat} {en:DictEntry} {ok ov:Value} {Q:Option Value->Shared->Prop} (hit:IsItemIter s.heap it d i n ep ok ov) (hod:s.heap.get? d=some o) (hdd:o.data=.dict es ep) (hsz:es.size=n) (hen:es[i]?=some en)
  (hQ:∀ h',IsItemIterOut h' it d (i+1) n ep en.key en.val s.heap.objs.size->h'.get? s.heap.objs.size=some {cls:=.type "tuple",data:=.seq #[en.key,en.val]}->
   (∀ b ob,b≠it->s.heap.get? b=some ob->h'.get? b=some ob)->Q (some (.ref s.heap.objs.size)) {s with heap:=h'}):
  wpAny (model prog w) A (pyNext (.ref it)) Q E s:=by
 obtain ⟨hp,g,dr,tk,os⟩:=s
 have hT:Shared.TypeIs ⟨hp,g,dr,tk,os⟩ (.ref it) "dict_itemiterator":=⟨_,hit,rfl⟩
 obtain ⟨hlt,hev⟩:=Array.getElem?_eq_some_iff.mp hen
 unfold pyNext
 refine wpAny_bind (wpAny_attempt (wpAny_callSpecial?_slot (name:=Str.ofString "__next__") hT F.slot_dict_itemiterator_next
  (wpAny_call_entry F.slot_dict_itemiterator_next hT F.entry_dict_itemiterator_next ?_ (F.args_dict_itemiterator_next_1 _))))
 refine wpAny_bind (wpAny_pure (wpAny_bind (wpAny_bind ?_)))
 first|refine wpAny_bind (wpAny_typeNameOfWhole_itemiter hT (wpAny_pure ?_))|refine wpAny_bind (wpAny_typeNameOf_itemiter hT (wpAny_pure ?_))
 refine wpAny_bind (wpAny_fieldsOf hit rfl ?_)
 have hown:Builtin.Dict_items.ownsTuple "dict_itemiterator"=true:=by decide
 simp only [hown,if_true]
 show wpAny _ _ (if (Value.ref d==Value.none)=true then _ else _) _ _ _
 rw [if_neg (show ¬((Value.ref d==Value.none)=true) from Bool.false_ne_true)]
 refine wpAny_bind (wpAny_pure (wpAny_bind (wpAny_dictEntries hod hdd ?_)))
 rw [if_neg (by rw [hsz];simp)]
 refine wpAny_bind (wpAny_pure (wpAny_bind (wpAny_dictEpoch hod hdd ?_)))
 rw [if_neg (by simp)]
 refine wpAny_pure ?_
 simp only [show ¬((i:Int)<0) from by (clear hsz;omega),if_false,Int.toNat_natCast,hen]
 refine wpAny_bind ?_
 first|refine wpAny_bind (wpAny_typeNameOfWhole_itemiter hT (wpAny_pure ?_))|refine wpAny_bind (wpAny_typeNameOf_itemiter hT (wpAny_pure ?_))
 refine wpAny_bind (wpAny_isOneOf_itemiter hT ?_)
 show wpAny _ _ (setField (.ref it) 3 (rawInt ((i:Int)+1))>>=_) _ _ ⟨hp,g,dr,tk,os⟩
 refine wpAny_bind (wpAny_setField_rec hit (by simp) fun h1 he1 hs1=>?_)
 replace hs1:Heap.SameBut it hp h1:=hs1
 replace he1:IsItemIter h1 it d (i+1) n ep ok ov:=by
  have e:((i+1:Nat):Int)=(i:Int)+1:=by (clear hsz;omega)
  unfold IsItemIter;rw [e];simpa [rawInt] using he1
 have hT1:Shared.TypeIs ⟨h1,g,dr,tk,os⟩ (.ref it) "dict_itemiterator":=⟨_,he1,rfl⟩
 refine wpAny_bind (wpAny_holding (wpAny_bind (wpAny_isOneOf_itemiter hT1 (wpAny_bind (wpAny_isOneOf_itemiter hT1 ?_)))))
 show wpAny _ _ (Builtin.Dict_items.pairFromOwner (.ref it) 6 en.key en.val) _ _ ⟨h1,g,dr,tk,os⟩
 unfold Builtin.Dict_items.pairFromOwner
 refine wpAny_bind (wpAny_newTuple ?_)
 have he2:IsItemIter (h1.push {cls:=.type "tuple",data:=.seq #[en.key,en.val]}) it d (i+1) n ep ok ov:=Heap.get?_push_of_some _ he1
 generalize hh2:h1.push {cls:=.type "tuple",data:=.seq #[en.key,en.val]}=h2 at he2
 have hz1:h1.objs.size=hp.objs.size:=hs1.1
 have hil:it<hp.objs.size:=Heap.lt_size hit
 have ht2:h2.get? hp.objs.size=some {cls:=.type "tuple",data:=.seq #[en.key,en.val]}:=by rw [<-hh2,<-hz1];exact Heap.get?_push_size _ rfl
 have hk2:∀ b ob,b≠it->hp.get? b=some ob->h2.get? b=some ob:=fun b ob hb e=>by rw [<-hh2];exact Heap.get?_push_of_some _ (hs1.extBut b ob hb e)
 show wpAny _ _ (Builtin.Dict_items.ownedTupleIsFree (.ref it)>>=_) _ _ ⟨h2,g,dr,tk,os⟩
 rw [hz1]
 clear hh2 he1 hs1 hT1 hz1 h1
 refine wpAny_bind ?_
 unfold Builtin.Dict_items.ownedTupleIsFree
 refine wpAny_bind (wpAny_field he2 rfl (x:=.none) rfl (wpAny_pure ?_))
 simp only [if_true]
 refine wpAny_bind (wpAny_field he2 rfl (x:=ok) rfl (wpAny_bind (wpAny_field he2 rfl (x:=ov) rfl ?_)))
 refine wpAny_bind (wpAny_setField_rec he2 (by simp) fun h3 he3 hs3=>?_)
 replace hs3:Heap.SameBut it h2 h3:=hs3
 replace he3:IsItemIter h3 it d (i+1) n ep en.key ov:=he3
 refine wpAny_bind (wpAny_setField_rec he3 (by simp) fun h4 he4 hs4=>?_)
 replace hs4:Heap.SameBut it h3 h4:=hs4
 replace he4:IsItemIter h4 it d (i+1) n ep en.key en.val:=he4
 refine wpAny_bind (wpAny_setField_rec he4 (by simp) fun h5 he5 hs5=>?_)
 replace hs5:Heap.SameBut it h4 h5:=hs5
 replace he5:IsItemIterOut h5 it d (i+1) n ep en.key en.val hp.objs.size:=he5
 refine wpAny_bind (wpAny_setField_rec he5 (by simp) fun h6 he6 hs6=>?_)
 replace hs6:Heap.SameBut it h5 h6:=hs6
 replace he6:IsItemIterOut h6 it d (i+1) n ep en.key en.val hp.objs.size:=he6
 have keep:∀ b ob,b≠it->h2.get? b=some ob->h6.get? b=some ob:=fun b ob hb e=>hs6.extBut b ob hb (hs5.extBut b ob hb (hs4.extBut b ob hb (hs3.extBut b ob hb e)))
 exact wpAny_bind (wpAny_letGo (wpAny_pure (wpAny_pure ⟨_,rfl,wpAny_pure (hQ h6 he6 (keep _ _ (Nat.ne_of_gt hil) ht2) fun b ob hb e=>keep b ob hb (hk2 b ob hb e))⟩)))
theorem Wc {it:Addr} {i n:Nat} {ok ov:Value} {Q:Option Value->Shared->Prop} (hh:A.handled=none) (hit:IsItemIter s.heap it d i n ep ok ov) (hod:s.heap.get? d=some o) (hdd:o.data=.dict es ep) (hsz:es.size=n) (hge:n<=i)
  (hQ:∀ h',Heap.ExtBut it s.heap h'->Q none {s with heap:=h'}):wpAny (model prog w) A (pyNext (.ref it)) Q E s:=by
 have hT:s.TypeIs (.ref it) "dict_itemiterator":=⟨_,hit,rfl⟩
 unfold pyNext
 refine wpAny_bind (wpAny_attempt (wpAny_callSpecial?_slot (name:=Str.ofString "__next__") hT F.slot_dict_itemiterator_next
  (wpAny_call_entry F.slot_dict_itemiterator_next hT F.entry_dict_itemiterator_next ?_ (F.args_dict_itemiterator_next_1 _))))
 refine wpAny_bind (wpAny_pure (wpAny_bind (wpAny_bind ?_)))
 first|refine wpAny_bind (wpAny_typeNameOfWhole_itemiter hT (wpAny_pure ?_))|refine wpAny_bind (wpAny_typeNameOf_itemiter hT (wpAny_pure ?_))
 refine wpAny_bind (wpAny_fieldsOf hit rfl ?_)
 have hown:Builtin.Dict_items.ownsTuple "dict_itemiterator"=true:=by decide
 simp only [hown,if_true]
 show wpAny _ _ (if (Value.ref d==Value.none)=true then _ else _) _ _ s
 rw [if_neg (show ¬((Value.ref d==Value.none)=true) from Bool.false_ne_true)]
 refine wpAny_bind (wpAny_pure (wpAny_bind (wpAny_dictEntries hod hdd ?_)))
 rw [if_neg (by rw [hsz];simp)]
 refine wpAny_bind (wpAny_pure (wpAny_bind (wpAny_dictEpoch hod hdd ?_)))
 rw [if_neg (by simp)]
 refine wpAny_pure ?_
 have hno:es.size<=i:=by rw [hsz];exact hge
 simp only [show ¬((i:Int)<0) from by (clear hno hge hsz;omega),if_false,Int.toNat_natCast,Array.getElem?_eq_none hno]
 refine wpAny_bind ?_
 first|refine wpAny_bind (wpAny_typeNameOfWhole_itemiter hT (wpAny_pure ?_))|refine wpAny_bind (wpAny_typeNameOf_itemiter hT (wpAny_pure ?_))
 show wpAny _ _ (setField (.ref it) 2 .none>>=_) _ _ s
 refine wpAny_bind (wpAny_setField hit rfl (by simp) ?_)
 show wpAny _ _ (newExc (.type "StopIteration") []>>=_) _ _ _
 refine wpAny_bind ?_
 simp only [newExc,newTuple]
 refine wpAny_bind (wpAny_newObj_type ?_ (by size_fits))
 refine wpAny_bind (m:=firstArgMember _ _) (wpAny_of_eq (a:=Value.none) (by first|rfl|(simp only [firstArgMember];rfl)) ?_)
 refine wpAny_newObj_type ?_ (by size_fits)
 simp only [raiseNew]
 refine wpAny_bind (wpAny_handled ?_)
 rw [show A.in1.handled=none from hh]
 refine wpAny_bind (wpAny_pure (wpAny_throw ?_))
 refine wpAny_bind (wpAny_isInstance (T:="StopIteration") (b:=true) ⟨_,Heap.get?_push_size _ rfl,rfl⟩ isSubtype_stop ?_)
 exact wpAny_pure (hQ _ (((Heap.SameBut.update ..).extBut.push _).push _))
end
section
variable {X:Cx} {pins:List (Addr×Obj)} {σ:St} {H:Hp} {s:Shared} {d:Addr} {o:Obj}
theorem aO.frzT2 {aI:List (List dR×V)} (I:aO X pins σ H s) (h:H d=some (.frz o (.dT aI))):
  (d==sysModules)=false/\s.heap.get? d=some o/\o.ExactDict/\∃ (es:Array DictEntry) (ep:Nat),o.data=.dict es ep/\es.size=aI.length/\
   ∀ (i:Nat) (k:List dR) (v:V),aI[i]?=some (k,v)->∃ (en:DictEntry) (q:Addr),es[i]?=some en/\en.key=.ref q/\H q=some (.tup (k.map kV))/\bQ v en.val:=by
 obtain ⟨hd,z,hs,xs,pr,o',es,ep,ho,hx,hdt,he,_⟩:=I.hok d _ h
 rw [hd] at ho
 cases ho
 refine ⟨hs,hd,hx,es,ep,hdt,?_,fun i k v e=>?_⟩
 ·have l1:es.size=xs.length:=size_of_entries he
  have l2:aI.length=xs.length:=Paired.length pr
  (clear z;omega)
 ·obtain ⟨b,hb,e1,e2,e3⟩:=oW pr e
  have q:=entry_at he i
  rw [hb] at q
  exact ⟨_,b.2.1,q,rfl,e2,e3⟩
end
def Gn (d:Addr) (o:Obj) (aI:List (List dR×V)):It:=
 ⟨fun i H=>H d=some (.frz o (.dT aI))/\i<aI.length,fun i H x H'=>∃ T k v q,aI[i]?=some (k,v)/\x=.ref T/\H T=none/\H q=some (.tup (k.map kV))/\H'=upd H T (.tup [.ref q,v]),fun i H=>H d=some (.frz o (.dT aI))/\aI.length<=i⟩
theorem sQ {P:Program} {w:World} {K:PySem.W.Frag} {d:Addr} {o:Obj} {es:Array DictEntry} {ep:Nat} {aI:List (List dR×V)} {elts:List Expr} {kk:Nat} {tpos:Pos} (it:Addr) (hod:o.data=.dict es ep):
  uR P w K (.Tuple elts kk tpos) (Gn d o aI) [it] it (fun i h=>∃ ok ov,IsItemIter h it d i aI.length ep ok ov) where
 mem:=by simp
 obj:=fun i h st b hb=>by
  have e:b=it:=by simpa using hb
  subst e
  obtain ⟨ok,ov,e⟩:=st
  exact ⟨_,e,fun v z=>nomatch z⟩
 keep:=fun i h h' st k=>let ⟨ok,ov,e⟩:=st;⟨ok,ov,k it (by simp) _ e⟩
 item:=by
  intro X hP hw hK hc i pins s σ H E I hf st hg
  subst hP hw hK
  obtain ⟨hd,hi⟩:=hg
  obtain ⟨hs,hgd,hx,es',ep',hdt,hsz,ent⟩:=I.frzT2 hd
  obtain ⟨rfl,rfl⟩:=nN hod hdt
  obtain ⟨⟨k,v⟩,hkv⟩:∃ p,aI[i]?=some p:=⟨aI[i],List.getElem?_eq_getElem hi⟩
  obtain ⟨en,q,hen,hkey,hq,ru⟩:=ent i k v hkv
  obtain ⟨ok,ov,he⟩:=st
  have hlt:it<s.heap.objs.size:=Heap.lt_size he
  refine Qy he hgd hdt hsz hen fun h' ho hT hk=>?_
  refine ⟨_,rfl,wpAny_letOwnedTupleGo_items (s:={s with heap:=h'}) ho fun h'' he' sb=>?_⟩
  have hT2:h''.get? s.heap.objs.size=some {cls:=.type "tuple",data:=.seq #[en.key,en.val]}:=(sb.2 _ (Nat.ne_of_gt hlt)).trans hT
  have new:cE X.prog X.w (upd H s.heap.objs.size (.tup [.ref q,v])) h'' s.heap.objs.size (.tup [.ref q,v]):=
   ⟨by show 2<=sizeLine;decide,[en.key,en.val],.cons hkey (.cons ru .nil),⟨_,hT2,rfl,_,rfl⟩⟩
  have I1:aO X pins σ (upd H s.heap.objs.size (.tup [.ref q,v])) {s with heap:=h''}:=
   I.turnedNew (t':=s.toks) (ch:=[it]) (fun b ob hb e=>(sb.2 b (by simpa using hb)).trans (hk b ob (by simpa using hb) e)) hf (Nat.le_refl _) new
  refine ⟨.ref s.heap.objs.size,_,I1,rfl,⟨_,k,v,q,hkv,rfl,I.hok.fresh (Nat.le_refl _),hq,rfl⟩,⟨en.key,en.val,he'⟩,fun b hb=>?_⟩
  have e:b=it:=by simpa using hb
  rw [e,aB (Nat.ne_of_lt hlt)]
  exact (hf it (by simp)).1
 done:=by
  intro X hP hw hK hc i pins s σ H E I hf st hg
  subst hP hw hK
  obtain ⟨hd,hi⟩:=hg
  obtain ⟨f0,f1,f2,f3,f4,f5⟩:=hf it (by simp)
  obtain ⟨hs,hgd,hx,es',ep',hdt,hsz,ent⟩:=I.frzT2 hd
  obtain ⟨rfl,rfl⟩:=nN hod hdt
  obtain ⟨ok,ov,he⟩:=st
  exact Wc (I.ok.hd hc) he hgd hdt hsz hi fun h' eb=>⟨rfl,I.turned (t':=s.toks) (fun b ob hb e=>eb b ob hb e) f0 f1 f3 f4 f5⟩
 self:=fun A i s Q E st h=>let ⟨_,_,e⟩:=st;PySem.W.kcp_self e h
def Ub (td:TE):TI:=fun σ H R=>td σ H fun x H1=>∃ d o aI,x=.ref d/\H1 d=some (.frz o (.dT aI))/\R (Gn d o aI) H1
theorem iD {X:Cx} {e:Expr} {td:TE} {apos cpos:Pos} {elts:List Expr} {kk:Nat} {tpos:Pos} (he:PE X e td) (hbase:attributeBase e "items" X.env (eval e X.env)=eval e X.env:=by rfl) (hline:(apos.endLine==cpos.line)=true:=by rfl):
  PI X (.Tuple elts kk tpos) (.Call (.Attribute e "items" apos) [] [] cpos) (Ub td):=by
 intro pins s σ H R I h
 refine wpAny_Call_method (T:="dict") (id:="dict.items") hbase rfl hline F.plainAttrs_dict F.slot_dict_items F.type_dict_items (cF (he pins s σ H _ I h) fun u s1 ⟨x,H1,I1,rx,d,o,aI,ex,hd,q⟩=>?_)
 subst ex
 obtain rfl:u=Value.ref d:=rx
 obtain ⟨hs,hgd,hx,es,ep,hdt,hsz,ent⟩:=I1.frzT2 hd
 have hty:s1.TypeIs (.ref d) "dict":=⟨o,hgd,hx.1⟩
 refine ⟨hty,fun b q=>by cases q;exact ⟨o,hgd,hx.2.1⟩,?_⟩
 have I2:aO X pins σ H1 {s1 with heap:=s1.heap.push {cls:=.type "dict_items",data:=.fields #[.ref d]}}:=I1.kept (t':=s1.toks) fun b ob q=>Heap.get?_push_of_some _ q
 have fin:wpAny (model X.prog X.w) X.A (pyIter (.ref s1.heap.objs.size)) (PIE X pins σ (.Tuple elts kk tpos) R) X.xe {s1 with heap:=s1.heap.push {cls:=.type "dict_items",data:=.fields #[.ref d]}}:=
  Cb (d:=d) (n:=aI.length) ⟨_,Heap.get?_push_size _ rfl,rfl,rfl⟩ (Heap.get?_push_of_some _ hgd) hdt hsz (rH (tk:=s1.toks) I2 _ (sQ _ hdt) ⟨.none,.none,Heap.get?_push_size _ rfl⟩ q)
 show wpAny _ _ (callWith cpos (.builtin "dict.items") [.ref d] [] []) _ X.xe s1
 exact method_meetsIn F.slot_dict_items F.entry_dict_items rfl (PySem.evalArgs_none ⟨rfl,hty,F.args_dict_items_1 _,_,xW hs,hty,fin⟩)
section
variable {prog:Program} {w:World} {A:Around} {E:Value->Shared->Prop} {s:Shared} {d:Addr} {o:Obj} {es:Array DictEntry} {ep:Nat}
theorem xL (hd:(d==sysModules)=false):MeetsIn prog w (Builtin.«dict.__len__» ⟨[.ref d],[]⟩) (fun _ R s=>∃ o es ep,s.heap.get? d=some o/\o.data=.dict es ep/\R (.ok (.ret (.int es.size s.toks))) {s with toks:=s.toks+1}):=
 .of_wp fun A R s ⟨o,es,ep,ho,hdat,h⟩=>by
  show wpAny _ _ (dictSize d>>=_) _ _ s
  unfold dictSize
  refine wpAny_bind (wpAny_bind (wpAny_dictEntries ho hdat (wpAny_pure ?_)))
  show wpAny _ _ (Builtin.Dict.pendingCount d>>=_) _ _ s
  refine wpAny_bind (wpAny_pendingCount_other hd (wpAny_ret_mkInt ?_))
  rw [Nat.add_zero]
  exact h
theorem Vm {Q:Value->Shared->Prop} (hd:(d==sysModules)=false) (ho:s.heap.get? d=some o) (hx:o.ExactDict) (hdat:o.data=.dict es ep) (hfit:(es.size:Int)<2 ^ 63)
  (h:Q (.int es.size (s.toks+1)) {s with toks:=s.toks+1+1}):wpAny (model prog w) A (call (.builtin "len") [.ref d]) Q E s:=by
 have hT:s.TypeIs (.ref d) "dict":=⟨o,ho,hx.1⟩
 refine Calls.call_function_entry kind_len plain_len entry_len (args_len1 _) ?_
 unfold Builtin.«len»
 refine wpAny_bind (m:=oneArg "len" _) (wpAny_pure ?_)
 refine wpAny_bind (m:=callSpecial? (.ref d) (Str.ofString "__len__")) (wpAny_callSpecial?_slot (name:=Str.ofString "__len__") hT F.slot_dict_len
  (call_meetsIn F.slot_dict_len hT F.entry_dict_len (F.args_dict_len_1 _) (xL hd) ⟨o,es,ep,ho,hdat,?_⟩))
 show wpAny _ _ _ _ _ {s with toks:=s.toks+1}
 refine wpAny_bind (wpAny_holding (wpAny_pure (wpAny_bind (wpAny_letGo ?_))))
 show wpAny _ _ (if ((es.size:Nat):Int)<0 then _ else _) _ _ _
 rw [if_neg (by (clear hfit;omega))]
 show wpAny _ _ (if ((es.size:Nat):Int)≥2 ^ 63 then _ else _) _ _ _
 rw [if_neg (by omega)]
 exact wpAny_bind (wpAny_mkInt (wpAny_pure ⟨_,rfl,h⟩))
theorem Rx (hh:A.handled=none) (I:Addr) (hne:d≠I) (hdat:o.data=.dict es ep):Walks prog w A I [I,d] [I] es.size (fun i v=>∃ en,es[i]?=some en/\v=en.key) (fun i h=>h.IsKeyIter I d i es.size ep/\h.get? d=some o) where
 sub:=fun b hb=>by simp at hb;simp [hb]
 frame:=fun _ _ _ st hk=>⟨st.1.at fun o e=>hk I (by simp) o e,hk d (by simp) o st.2⟩
 item:=fun i s Q E hi st hQ=>by
  refine oF (en:=es[i]) st.1 st.2 hdat rfl (by simp [hi]) fun h' hit' hs'=>?_
  exact hQ _ h' s.toks ⟨_,by simp [hi],rfl⟩ ⟨hit',hs'.extBut d o hne st.2⟩ fun b o hb e=>hs'.extBut b o (fun h=>hb (by simp [h])) e
 done:=fun s Q E st hQ=>kZ hh st.1 st.2 hdat rfl (Nat.le_refl _) fun h' he'=>hQ h' s.toks fun b o hb e=>he' b o (fun h=>hb (by simp [h])) e
 self:=fun _ _ _ _ st hQ=>wpAny_pyIter_keyiter st.1 hQ
theorem Sr (lo:(d==sysModules)=false) (hx:o.ExactDict) (hdat:o.data=.dict es ep):PySem.W.KdlSrc prog w "dict" d d es.size (fun i v=>∃ en,es[i]?=some en/\v=en.key) (fun h=>h.get? d=some o) where
 type:=fun _ hm=>⟨o,hm,hx.1⟩
 there:=fun _ hm=>⟨Heap.lt_size hm,Heap.lt_size hm⟩
 keep:=fun _ _ hm hk=>hk d (.inl rfl) o hm
 notList:=by decide
 notTuple:=by decide
 hint:=fun _ _ _ _ hm hq=>PySem.W.kdl_hint_dict ⟨o,hm,hx.1⟩ hq
 iter:=fun _ _ hh hm=>⟨_,_,(fun _ _ hq=>sL lo hm hx hdat hq),Rx hh _ (Nat.ne_of_lt (Heap.lt_size hm)) hdat,⟨⟨_,Heap.get?_push_size _ rfl,rfl,rfl⟩,Heap.get?_push_of_some _ hm⟩⟩
end
section
variable {X:Cx} {pins:List (Addr×Obj)} {σ:St} {H:Hp} {s:Shared} {d:Addr} {o:Obj}
theorem aO.rawT {aI:List (List dR×V)} (I:aO X pins σ H s) (h:Rd H d (.dT aI)):
  (d==sysModules)=false/\aI.length<=sizeLine/\∃ (o:Obj) (es:Array DictEntry) (ep:Nat),s.heap.get? d=some o/\o.ExactDict/\o.data=.dict es ep/\es.size=aI.length/\
   ∀ (i:Nat) (k:List dR) (v:V),aI[i]?=some (k,v)->∃ (en:DictEntry) (q:Addr),es[i]?=some en/\en.key=.ref q/\H q=some (.tup (k.map kV)):=by
 obtain ⟨z,hs,xs,pr,o,es,ep,ho,hx,hdt,he,_⟩:=Qi I.hok h
 refine ⟨hs,z,o,es,ep,ho,hx,hdt,?_,fun i k v e=>?_⟩
 ·have l1:es.size=xs.length:=size_of_entries he
  have l2:aI.length=xs.length:=Paired.length pr
  (clear z;omega)
 ·obtain ⟨b,hb,e1,e2,e3⟩:=oW pr e
  have q:=entry_at he i
  rw [hb] at q
  exact ⟨_,b.2.1,q,rfl,e2⟩
theorem rV:oG X (.builtin "len") (fun xs H Q=>∃ a aI,xs=[V.ref a]/\Rd H a (.dT aI)/\Q (.int aI.length) H):=by
 intro pins s σ H xs us Q I r h
 obtain ⟨a,aI,rfl,ha,q⟩:=h
 obtain ⟨u,rfl,ru⟩:=zK r
 cases ru
 obtain ⟨hs,z,o,es,ep,ho,hx,hdt,hsz,_⟩:=I.rawT ha
 refine Vm hs ho hx hdt (by rw [hsz];rw [sizeLine_eq] at z;(clear hsz;omega)) ⟨.int es.size,H,I.tok _,⟨_,rfl⟩,?_⟩
 rw [hsz]
 exact q
theorem Gz (hc:X.calm=true):oG X (.type "list") (fun xs H Q=>∃ a aI,xs=[V.ref a]/\Rd H a (.dT aI)/\
  ∀ l ps,H l=none->Paired (fun (p:Addr) (kv:List dR×V)=>H p=some (.tup (kv.1.map kV))) ps aI->Q (.ref l) (upd H l (.lst (ps.map V.ref)))):=by
 intro pins s σ H xs us Q I r h
 obtain ⟨a,aI,rfl,ha,q⟩:=h
 obtain ⟨u,rfl,ru⟩:=zK r
 cases ru
 obtain ⟨hs,z,o,es,ep,ho,hx,hdt,hsz,ent⟩:=I.rawT ha
 refine PySem.W.kdl_call (Sr hs hx hdt) (I.ok.hd hc) ho (by rw [hsz];exact z) fun h' tk acc' c' hk hl hacc=>?_
 obtain ⟨hn,hp⟩:=hacc
 have key:∀ (aI:List (List dR×V)) (vs:List Value),vs.length=aI.length->(∀ (i:Nat) (k:List dR) (v:V),aI[i]?=some (k,v)->∃ q:Addr,vs[i]?=some (Value.ref q)/\H q=some (.tup (k.map kV)))->
   ∃ ps:List Addr,vs=ps.map Value.ref/\Paired (fun (p:Addr) (kv:List dR×V)=>H p=some (.tup (kv.1.map kV))) ps aI:=by
  intro aI
  induction aI with
  |nil=>
   intro vs hl _
   cases vs with
   |nil=>exact ⟨[],rfl,.nil⟩
   |cons _ _=>cases hl
  |cons kv r ih=>
   intro vs hl hh
   cases vs with
   |nil=>cases hl
   |cons v vr=>
    obtain ⟨q,e1,e2⟩:=hh 0 kv.1 kv.2 rfl
    cases e1
    obtain ⟨ps,e3,e4⟩:=ih vr (by simpa using hl) fun i k v e=>hh (i+1) k v e
    exact ⟨q::ps,by rw [e3];rfl,.cons e2 e4⟩
 obtain ⟨ps,e1,e2⟩:=key aI acc'.toList (by rw [Array.length_toList,hn,hsz]) fun i k v e=>by
  obtain ⟨en,q,g1,g2,g3⟩:=ent i k v e
  have hi:i<aI.length:=(List.getElem?_eq_some_iff.mp e).1
  have hi2:i<acc'.size:=by rw [hn,hsz];exact hi
  obtain ⟨en',g4,g5⟩:=hp i acc'[i] (by simp [hi2])
  rw [g1] at g4
  cases g4
  refine ⟨q,?_,g3⟩
  rw [Array.getElem?_toList]
  simp [hi2,g5,g2]
 have fr:H s.heap.objs.size=none:=I.hok.fresh (Nat.le_refl _)
 have rv:aZ (ps.map V.ref) acc'.toList:=by
  rw [e1]
  clear e1 e2 hp hn hl
  induction ps with
  |nil=>exact .nil
  |cons p r ih=>exact .cons rfl ih
 refine ⟨.ref s.heap.objs.size,_,I.laid (o:=.lst (ps.map V.ref)) hk (Nat.le_refl _) ⟨?_,acc'.toList,c',rv,by simpa using hl⟩,rfl,q _ ps fr e2⟩
 rw [List.length_map,Paired.length e2]
 exact z
end
open AutoSeq1 (wpAny_loadPart')
section
variable {prog:Program} {w:World} {A:Around} {E:Value->Shared->Prop} {s:Shared}
theorem wV (l:Addr) (items:Array Value) (n:Nat) (dct:Option Addr) (sl:Array (Option Value)):
  Meets (Builtin.«enumerate.__new__» ⟨[.type "enumerate",.ref l],[]⟩) (fun _ R s=>s.heap.get? l=some {cls:=.type "tuple",dict:=dct,data:=.seq items n,slots:=sl}/\
   R (.ok (.ret (.ref (s.heap.push {cls:=.type "tuple_iterator",data:=.fields #[.ref l,.int 0 0]}).objs.size)))
    {s with heap:=(s.heap.push {cls:=.type "tuple_iterator",data:=.fields #[.ref l,.int 0 0]}).push {cls:=.type "enumerate",data:=.fields #[.none,.bool false,.ref s.heap.objs.size,rawInt 0,.none,.none]}}):=
 .of_wp fun prog w A R s h=>by
  obtain ⟨hp,g,d,tk,os⟩:=s;obtain ⟨hl,h⟩:=h
  have hsub:=sub_enumerate
  have hL:Heap.IsTuple (Shared.heap ⟨hp,g,d,tk,os⟩) l items:=⟨_,hl,rfl,n,rfl⟩
  wp_walk using wpAny_loadPart' hl
  refine wpAny_stack_any fun st=>wpAny_pure ?_
  split
  ·rename_i c _ _ _ _ _
   cases (c==Value.type "enumerate")
   ·wp_walk using wpAny_loadPart' hl,wpAny_pyIter_tuple hL
    exact ⟨_,rfl,h⟩
   ·wp_walk using wpAny_loadPart' hl,wpAny_pyIter_tuple hL
    exact ⟨_,rfl,h⟩
  ·wp_walk using wpAny_loadPart' hl,wpAny_pyIter_tuple hL
   exact ⟨_,rfl,h⟩
theorem xP {l:Addr} {items:Array Value} {Q:Value->Shared->Prop} (hL:IsTup s.heap l items)
  (h:∀ h',IsEnum h' (s.heap.objs.size+1) s.heap.objs.size 0 .none->h'.IsTupleIter s.heap.objs.size l 0->h'.objs.size=s.heap.objs.size+2->
   (∀ b o,s.heap.get? b=some o->h'.get? b=some o)->Q (.ref (s.heap.objs.size+1)) {s with heap:=h'}):
  wpAny (model prog w) A (call (.type "enumerate") [.ref l]) Q E s:=by
 obtain ⟨⟨c,dct,dt,sl⟩,hl,hc,n,hd⟩:=hL
 replace hc:c=.type "tuple":=hc
 replace hd:dt=.seq items n:=hd
 subst hc hd
 refine callType_new F.called_enumerate (by decide) (F.typeCall_enumerate_1 _) (F.newCall_enumerate_1 _) (fun obj=>F.args_object_init_2 obj _) F.entry_enumerate_new
  (wV l items n dct sl) ⟨hl,?_⟩
 have hz:(s.heap.push {cls:=.type "tuple_iterator",data:=.fields #[.ref l,.int 0 0]}).objs.size=s.heap.objs.size+1:=Heap.size_push ..
 show _/\_
 rw [hz]
 have he:IsEnum ((s.heap.push {cls:=.type "tuple_iterator",data:=.fields #[.ref l,.int 0 0]}).push
   {cls:=.type "enumerate",data:=.fields #[.none,.bool false,.ref s.heap.objs.size,rawInt 0,.none,.none]}) (s.heap.objs.size+1) s.heap.objs.size 0 .none:=by
  have:=Heap.get?_push_size (s.heap.push {cls:=.type "tuple_iterator",data:=.fields #[.ref l,.int 0 0]})
   (o:={cls:=.type "enumerate",data:=.fields #[.none,.bool false,.ref s.heap.objs.size,rawInt 0,.none,.none]}) rfl
  rw [hz] at this;exact this
 refine ⟨⟨_,he,rfl⟩,h _ he ⟨_,Heap.get?_push_of_some _ (Heap.get?_push_size _ rfl),rfl,rfl⟩ (by rw [Heap.size_push,hz]) fun b o x=>Heap.get?_push_of_some _ (Heap.get?_push_of_some _ x)⟩
theorem xK {it l:Addr} {i:Nat} {items} {x:Value} {Q:Value->Shared->Prop} (hit:s.heap.IsTupleIter it l i)
  (hl:IsTup s.heap l items) (hx:items[i]?=some x)
  (hQ:∀ h',h'.IsTupleIter it l (i+1)->Heap.SameBut it s.heap h'->Q x {s with heap:=h'}):
  wpAny (model prog w) A (Builtin.SmallTypes.nextOf (.ref it)) Q E s:=by
 obtain ⟨o,ho,hc,hd⟩:=id hit
 obtain ⟨ol,hol,_,nl,hdl⟩:=hl
 unfold Builtin.SmallTypes.nextOf
 refine wpAny_bind (wpAny_callSpecial?_slot (name:=Str.ofString "__next__") hit.typeIs F.slot_tuple_iterator_next
  (wpAny_call_entry F.slot_tuple_iterator_next hit.typeIs F.entry_tuple_iterator_next ?_ (F.args_tuple_iterator_next_1 _)))
 show wpAny _ _ (field (.ref it) 0>>=_) _ _ s
 refine wpAny_bind (wpAny_field ho hd (x:=.ref l) rfl ?_)
 show wpAny _ _ (if (Value.ref l==Value.none)=true then _ else _) _ _ s
 rw [if_neg (show ¬((Value.ref l==Value.none)=true) from Bool.false_ne_true)]
 show wpAny _ _ (field (.ref it) 1>>=_) _ _ s
 refine wpAny_bind (wpAny_field ho hd (x:=.int i 0) rfl ?_)
 show wpAny _ _ (seqItems? (.ref l)>>=_) _ _ s
 refine wpAny_bind (wpAny_seqItems hol hdl ?_)
 simp only [Int.toNat_natCast,hx]
 refine wpAny_bind (wpAny_setField ho hd (by simp) (wpAny_pure ⟨x,rfl,wpAny_pure (hQ _ ?_ (Heap.SameBut.update ..))⟩))
 exact ⟨_,Heap.get?_update_self _ ho (Obj.isFreed_of_fields (Obj.data_mapFields hd _)),(Obj.cls_mapFields ..).trans hc,by
  rw [Obj.data_mapFields hd];simp [rawInt]⟩
theorem zU {it l:Addr} {i:Nat} {items} {Q:Value->Shared->Prop} (hh:A.handled=none)
  (hit:s.heap.IsTupleIter it l i) (hl:IsTup s.heap l items) (hx:items[i]?=none)
  (hE:∀ h' e,Heap.ExtBut it s.heap h'->(∃ o,h'.get? e=some o/\o.cls=.type "StopIteration")->E (.ref e) {s with heap:=h'}):
  wpAny (model prog w) A (Builtin.SmallTypes.nextOf (.ref it)) Q E s:=by
 obtain ⟨o,ho,hc,hd⟩:=id hit
 obtain ⟨ol,hol,_,nl,hdl⟩:=hl
 unfold Builtin.SmallTypes.nextOf
 refine wpAny_bind (wpAny_callSpecial?_slot (name:=Str.ofString "__next__") hit.typeIs F.slot_tuple_iterator_next
  (wpAny_call_entry F.slot_tuple_iterator_next hit.typeIs F.entry_tuple_iterator_next ?_ (F.args_tuple_iterator_next_1 _)))
 show wpAny _ _ (field (.ref it) 0>>=_) _ _ s
 refine wpAny_bind (wpAny_field ho hd (x:=.ref l) rfl ?_)
 show wpAny _ _ (if (Value.ref l==Value.none)=true then _ else _) _ _ s
 rw [if_neg (show ¬((Value.ref l==Value.none)=true) from Bool.false_ne_true)]
 show wpAny _ _ (field (.ref it) 1>>=_) _ _ s
 refine wpAny_bind (wpAny_field ho hd (x:=.int i 0) rfl ?_)
 show wpAny _ _ (seqItems? (.ref l)>>=_) _ _ s
 refine wpAny_bind (wpAny_seqItems hol hdl ?_)
 simp only [Int.toNat_natCast,hx]
 refine wpAny_bind (wpAny_rule (wpAny_bind (wpAny_setField ho hd (by simp) ?_)))
 show wpAny _ _ (newExc (.type "StopIteration") []>>=_) _ _ _
 refine wpAny_bind ?_
 simp only [newExc,newTuple]
 refine wpAny_bind (wpAny_newObj_type ?_ (by size_fits))
 refine wpAny_bind (m:=firstArgMember _ _) (wpAny_of_eq (a:=Value.none) (by first|rfl|(simp only [firstArgMember];rfl)) ?_)
 refine wpAny_newObj_type ?_ (by size_fits)
 simp only [raiseNew]
 refine wpAny_bind (wpAny_handled ?_)
 first|rw [show A.in1.handled=none from hh]|rw [hh]
 refine wpAny_bind (wpAny_pure (wpAny_throw ?_))
 exact hE _ _ (((Heap.SameBut.update ..).extBut.push _).push _) ⟨_,Heap.get?_push_size _ rfl,rfl⟩
theorem zB (hh:A.handled=none) (it l:Addr) (hne:l≠it) (items:Array Value):
  Draws prog w A it [it,l] items.size (fun i v=>items[i]?=some v) (fun i h=>h.IsTupleIter it l i/\IsTup h l items) where
 live:=fun _ _ st=>let ⟨o,ho,_⟩:=st.1;⟨o,ho⟩
 frame:=fun _ _ _ st hk=>⟨st.1.at fun o e=>hk it (by simp) o e,let ⟨o,ho,r⟩:=st.2;⟨o,hk l (by simp) o ho,r⟩⟩
 item:=fun i s Q E hi st hQ=>by
  refine xK st.1 st.2 (x:=items[i]) (by simp [hi]) fun h' hit' hs'=>?_
  exact hQ _ h' s.toks (by simp [hi]) ⟨hit',st.2.extBut hs'.extBut hne⟩ hs'
 done:=fun s Q E st hE=>zU hh st.1 st.2 (by simp) hE
end
def Pj (K:PySem.W.Frag) (a:Addr):It:=
 ⟨fun i H=>∃ (xs:List V) (x:V),cN K H a xs/\xs[i]?=some x,fun i H v H'=>∃ T x,v=.ref T/\H T=none/\H'=upd H T (.tup [.int (i:Nat),x])/\∀ xs,cN K H a xs->xs[i]?=some x,fun i H=>∃ xs:List V,cN K H a xs/\xs.length=i⟩
theorem Gh {P:Program} {w:World} {K:PySem.W.Frag} {elts:List Expr} {kk:Nat} {tpos:Pos} (a e it:Addr):
  uR P w K (.Tuple elts kk tpos) (Pj K a) [e,it] e (fun i h=>(∃ old,IsEnum h e it ((i:Nat):Int) old)/\h.IsTupleIter it a i/\e≠it/\a≠e/\a≠it) where
 mem:=by simp
 obj:=fun i h st b hb=>by
  obtain ⟨⟨old,he⟩,⟨o,ho,hc,hd⟩,_⟩:=st
  have e':b=e\/b=it:=by simpa using hb
  rcases e' with z|z
  ·rw [z];exact ⟨_,he,fun v q=>nomatch q⟩
  ·rw [z];exact ⟨o,ho,fun v q=>by rw [hd] at q;cases q⟩
 keep:=fun i h h' st k=>let ⟨⟨old,he⟩,hi,hne⟩:=st;⟨⟨old,k e (by simp) _ he⟩,hi.at fun o q=>k it (by simp) o q,hne⟩
 item:=by
  intro X hP hw hK hc i pins s σ H E I hf st hg
  subst hP hw hK
  obtain ⟨⟨old,he⟩,hit,hne,hae,hai⟩:=st
  obtain ⟨xs,x,hq,hx⟩:=hg
  obtain ⟨its,rv,p,hz⟩:=I.tuple hq
  obtain ⟨u,hu,ru⟩:=rv.get hx
  have hel:e<s.heap.objs.size:=Heap.lt_size he
  have hil:it<s.heap.objs.size:=by obtain ⟨_,q,_⟩:=hit;exact Heap.lt_size q
  have hlt:i<its.toArray.size:=by
   have:=(List.getElem?_eq_some_iff.mp hu).1
   simpa using this
  refine wpAny_pyNext_enum_itemD (zB (A:=X.A.in1) (I.ok.hd hc) it a hai its.toArray) he ⟨hit,p⟩ hlt hne (by simp [hne,Ne.symm hae]) fun x' h' tk hP ho hst hT hsz hk=>?_
  have hxu:x'=u:=by
   have h1:its.toArray[i]?=some u:=by simpa using hu
   rw [h1] at hP
   cases hP
   rfl
  subst hxu
  refine ⟨_,rfl,wpAny_letOwnedTupleGo_enum (s:={s with heap:=h',toks:=tk+1}) ho fun h'' he' sb=>?_⟩
  have hT2:h''.get? s.heap.objs.size=some {cls:=.type "tuple",data:=.seq #[.int i tk,x']}:=(sb.2 _ (Nat.ne_of_gt hel)).trans hT
  have new:cE X.prog X.w (upd H s.heap.objs.size (.tup [.int (i:Nat),x])) h'' s.heap.objs.size (.tup [.int (i:Nat),x]):=
   ⟨by show 2<=sizeLine;decide,[.int i tk,x'],.cons ⟨_,rfl⟩ (.cons ru .nil),⟨_,hT2,rfl,_,rfl⟩⟩
  have I1:aO X pins σ (upd H s.heap.objs.size (.tup [.int (i:Nat),x])) {s with heap:=h'',toks:=tk+1}:=
   I.turnedNew (ch:=[e,it]) (fun b ob hb q=>(sb.2 b (fun z=>hb (by simp [z]))).trans (hk b ob (fun z=>hb (by simp [z])) (fun z=>hb (by simp [z])) q)) hf (Nat.le_refl _) new
  refine ⟨.ref s.heap.objs.size,_,I1,rfl,⟨_,x,rfl,I.hok.fresh (Nat.le_refl _),rfl,fun ys hy=>by rw [I.tuple_inj hy hq];exact hx⟩,⟨⟨x',?_⟩,hst.1.at fun o q=>(sb.2 it (Ne.symm hne)).trans q,hne,hae,hai⟩,fun b hb=>?_⟩
  ·have e1:((i+1:Nat):Int)=(i:Int)+1:=by (clear hsz hst hlt hil hel hz;omega)
   rw [e1];exact he'
  ·have hb':b<s.heap.objs.size:=by
    have e':b=e\/b=it:=by simpa using hb
    rcases e' with z|z
    ·rw [z];exact hel
    ·rw [z];exact hil
   rw [aB (Nat.ne_of_lt hb')]
   exact (hf b hb).1
 done:=by
  intro X hP hw hK hc i pins s σ H E I hf st hg
  subst hP hw hK
  obtain ⟨⟨old,he⟩,hit,hne,hae,hai⟩:=st
  obtain ⟨xs,hq,hx⟩:=hg
  obtain ⟨its,rv,p,hz⟩:=I.tuple hq
  obtain ⟨f0,f1,f2,f3,f4,f5⟩:=hf it (by simp)
  have hl:=rv.length
  have hn:its.toArray.size=i:=by simp;(clear f3 f2 hz;omega)
  exact wpAny_pyNext_enum_endD (zB (A:=X.A.in1) (I.ok.hd hc) it a hai its.toArray) he (by rw [hn];exact ⟨hit,p⟩) fun h' eb=>⟨rfl,I.turned (t':=s.toks) (fun b o hb q=>eb b o hb q) f0 f1 f3 f4 f5⟩
 self:=fun A i s Q E st h=>let ⟨⟨_,he⟩,_⟩:=st;wpAny_pyIter_enum he h
def Ye (K:PySem.W.Frag) (ta:TA):TI:=fun σ H R=>ta σ H fun vs H1=>∃ a xs,vs=[.ref a]/\cN K H1 a xs/\R (Pj K a) H1
theorem Pq {X:Cx} {e:Expr} {ta:TA} {p pos tpos:Pos} {elts:List Expr} {kk:Nat} (hg:Gl X "enumerate") (hm:X.mg "enumerate"=none) (ha:PA X [e] ta) (hs:starEach [e] X.env=[(false,eval e X.env)]:=by rfl):
  PI X (.Tuple elts kk tpos) (.Call (.Name "enumerate" p) [e] [] pos) (Ye X.K ta):=by
 intro pins s σ H R I h
 refine Call_ (rY I hg hm boot_enumerate (PyProof.Rows.callWith_type1 (cF (ha pos pins s σ H _ I h) fun us s1 ⟨vs,H1,I1,r1,q1⟩=>?_) hs rfl))
 obtain ⟨a,xs,ex,hq,q⟩:=q1
 subst ex
 cases r1 with
 |cons r rr=>
  cases rr
  cases r
  obtain ⟨its,rv,p',hz⟩:=I1.tuple hq
  have hal:a<s1.heap.objs.size:=p'.lt
  refine xP p' fun h' he hit hsz hk=>wpAny_pyIter_enum he ?_
  have I2:aO X pins σ H1 {s1 with heap:=h'}:=I1.kept (t':=s1.toks) hk
  refine ⟨s1.heap.objs.size+1,[s1.heap.objs.size+1,s1.heap.objs.size],_,_,H1,rfl,I2,Gh a (s1.heap.objs.size+1) s1.heap.objs.size,⟨⟨.none,he⟩,hit,Nat.succ_ne_self _,Nat.ne_of_lt (Nat.lt_succ_of_lt hal),Nat.ne_of_lt hal⟩,fun b hb=>?_,q⟩
  have e':b=s1.heap.objs.size+1\/b=s1.heap.objs.size:=by simpa using hb
  have hle:s1.heap.objs.size<=b:=by
   rcases e' with z|z
   ·rw [z];exact Nat.le_add_right _ _
   ·rw [z];exact Nat.le_refl _
  exact I1.fpOk hle (I1.hok.fresh hle)
end L2
namespace HT
open PySem PyProof.Rows
def gB:List Int->List Int->Bool
 |[],_=>true
 |_::_,[]=>false
 |x::xs,y::ys=>if x=y then gB xs ys else decide (x<=y)
theorem Hs (x y:Int) (xs ys:List Int):gB (x::xs) (y::ys)=if x=y then gB xs ys else decide (x<=y):=rfl
theorem Lq (ys:List Int):gB [] ys=true:=by cases ys<;>rfl
theorem uP (x:Int) (xs:List Int):gB (x::xs) []=false:=rfl
theorem Qu (A:Around) (s:Shared) (a:Int) (t:Tok) (c:Int) (u:Tok) (prog:Program) (w:World) (E:Value->Shared->Prop) (Q:Value->Shared->Prop) (h:Q (.bool (decide (a<=c))) s):
  wpAny (model prog w) A (richCompare .LtE (.int a t) (.int c u)) Q E s:=
 (PyProof.Rows.le_int h:wpAny (model prog w) A (compareOp .LtE (.int a t) (.int c u)) Q E s)
section
open PySem.SeqAt
open PySem.AutoSeq1 (wpAny_loadPart')
open PySem.MeetsSeq PySem.MeetsSeq2 PySem.MeetsSeq3
theorem xO (l b:Addr) (items items2:Array Value) (n n2:Nat) (dd dd2:Option Addr) (sl sl2:Array (Option Value)) (ns ms:List Int) (hi:IntsAre items.toList ns) (hj:IntsAre items2.toList ms):
  Meets (Builtin.«tuple.__le__» ⟨[.ref l,.ref b],[]⟩)
   (fun _ R s=>s.heap.get? l=some {cls:=.type "tuple",dict:=dd,data:=.seq items n,slots:=sl}/\s.heap.get? b=some {cls:=.type "tuple",dict:=dd2,data:=.seq items2 n2,slots:=sl2}/\
    R (.ok (.ret (.bool (gB ns ms)))) s):=
 .of_wp fun prog w A R s h=>by
  obtain ⟨hp,g,d,tk,os⟩:=s;obtain ⟨hl,hb,h⟩:=h
  have f2:=AutoSeq1.sub_tuple_tuple
  have z1:items.size=ns.length:=by rw [<-hi.length];simp
  have z2:items2.size=ms.length:=by rw [<-hj.length];simp
  wp_walk using wpAny_loadPart' hl,wpAny_loadPart' hb,wpAny_forIn_list _ (fun rest b s'=>b.1=none/\s'=⟨hp,g,d,tk,os⟩/\∃ (vs ws:List Value) (ns' ms':List Int),rest=vs.zip ws/\
   IntsAre vs ns'/\IntsAre ws ms'/\ns'.length+items2.size=ms'.length+items.size/\R (.ok (.ret (.bool (gB ns' ms')))) ⟨hp,g,d,tk,os⟩) _
  case turn=>
   rintro ⟨y,x⟩ rest b s' ⟨hb',rfl,vs,ws,ns',ms',hz,hvi,hwi,hlen,hR⟩
   cases hvi with
   |nil=>rw [List.zip_nil_left] at hz;cases hz
   |cons a t hvi'=>
    cases hwi with
    |nil=>rw [List.zip_nil_right] at hz;cases hz
    |cons c u hwi'=>
     rw [List.zip_cons_cons] at hz
     injection hz with hyx hrest
     injection hyx with hy hx
     subst hy hx
     rw [Hs] at hR
     simp only [List.length_cons] at hlen
     obtain ⟨e,he,hiff⟩:=Qt A.in1 ⟨hp,g,d,tk,os⟩ a t c u
     refine wpAny_bind (he prog w _ _ ?_)
     cases e with
     |true=>
      rw [if_pos (hiff.mp rfl)] at hR
      wp_walk
      exact ⟨rfl,rfl,_,_,_,_,hrest,hvi',hwi',by (clear hiff z2 z1;omega),hR⟩
     |false=>
      rw [if_neg (fun q=>absurd (hiff.mpr q) Bool.false_ne_true)] at hR
      have hri:=Qu A.in1 ⟨hp,g,d,tk,os⟩ a t c u prog w
      wp_walk using hri
      exact ⟨_,rfl,by simpa using hR⟩
  case fin=>
   rintro ⟨b1,b2⟩ s' ⟨hb',rfl,vs,ws,ns',ms',hz,hvi,hwi,hlen,hR⟩
   simp only at hb'
   subst hb'
   have hv:gB ns' ms'=decide (items.size<=items2.size):=by
    cases hvi with
    |nil=>
     simp only [List.length_nil] at hlen
     rw [Lq]
     exact (decide_eq_true (by (clear z2 z1;omega))).symm
    |cons a t hv=>
     cases hwi with
     |nil=>
      simp only [List.length_nil,List.length_cons] at hlen
      rw [uP]
      exact (decide_eq_false (by (clear z2 z1;omega))).symm
     |cons c u hw=>
      rw [List.zip_cons_cons] at hz
      cases hz
   rw [hv] at hR
   wp_walk
   exact ⟨_,rfl,by simpa [Builtin.Tuple.tupleCompareSizes] using hR⟩
  case h=>
   exact ⟨rfl,rfl,items.toList,items2.toList,ns,ms,rfl,hi,hj,by omega,h⟩
end
section
variable {prog:Program} {w:World} {A:Around} {E:Value->Shared->Prop} {s:Shared}
theorem Hu {l b:Addr} {items items2:Array Value} {ns ms:List Int} {Q:Value->Shared->Prop} (hl:IsTup s.heap l items) (hb:IsTup s.heap b items2) (hi:IntsAre items.toList ns) (hj:IntsAre items2.toList ms)
  (hu:A.units<cLine) (h:Q (.bool (gB ns ms)) s):wpAny (model prog w) A (compareOp .LtE (.ref l) (.ref b)) Q E s:=by
 obtain ⟨⟨cls,dd,data,sl⟩,ho,hc,n,hd⟩:=id hl
 obtain ⟨⟨cls2,dd2,data2,sl2⟩,ho2,hc2,n2,hd2⟩:=id hb
 simp only at hc hd hc2 hd2
 subst hc hd hc2 hd2
 exact richCompare_meets_room (op:=.LtE) ⟨_,ho,rfl⟩ ⟨_,ho2,rfl⟩ PySem.F.slot_tuple_le PySem.F.entry_tuple_le (PySem.F.args_tuple_le_2 _ _) (xO l b items items2 n n2 dd dd2 sl sl2 ns ms hi hj)
  ⟨ho,ho2,show Value.bool (gB ns ms)≠Value.notImplemented/\Q (.bool (gB ns ms)) s from ⟨(fun x=>nomatch x),h⟩⟩ hu
theorem Tn {t b:Addr} {ws:List Value} {Q:Value->Shared->Prop} (ht:IsTup s.heap t ([]:List Value).toArray) (hb:IsTup s.heap b ws.toArray) (h:Q (.ref b) s):wpAny (model prog w) A (binaryOp .Add (.ref t) (.ref b)) Q E s:=by
 obtain ⟨⟨cls,dd,data,sl⟩,ho,hc,n,hd⟩:=id ht
 obtain ⟨⟨cls2,dd2,data2,sl2⟩,ho2,hc2,n2,hd2⟩:=id hb
 simp only at hc hd hc2 hd2
 subst hc hd hc2 hd2
 exact concat_meets ⟨_,ho,rfl⟩ ⟨_,ho2,rfl⟩ noFill_tuple_add seq_tuple_add PySem.F.slot_tuple_add PySem.F.entry_tuple_add (PySem.F.args_tuple_add_2 _ _)
   (tuple_addW0 t b #[] ws.toArray n n2 dd dd2 sl sl2 rfl) ⟨ho,ho2,h⟩
theorem yX {l b:Addr} {items items2:Array Value} {ns ms:List Int} (hl:IsTup s.heap l items) (hb:IsTup s.heap b items2) (hi:IntsAre items.toList ns) (hj:IntsAre items2.toList ms) (hu:A.units<cLine):
  SeqAt.RcAt A s (.ref l) (.ref b) (decide (ns=ms)):=by
 have z1:items.size=ns.length:=by rw [<-hi.length];simp
 have z2:items2.size=ms.length:=by rw [<-hj.length];simp
 have at':∀ {vs:List Value} {xs:List Int} (j:Nat),IntsAre vs xs->(h1:j<vs.length)->∃ t,vs[j]=.int (xs.getD j 0) t:=by
  intro vs
  induction vs with
  |nil=>intro xs j _ h1;exact absurd h1 (Nat.not_lt_zero _)
  |cons v r ih=>
   intro xs j h1 hl
   cases h1 with
   |cons a t h1=>
    cases j with
    |zero=>exact ⟨t,rfl⟩
    |succ j=>exact ih j h1 (by simpa using hl)
 have key:=SeqAt.RcAt.tuples (A:=A) (s:=s) (l:=l) (b:=b) (e:=fun j=>decide (ns.getD j 0=ms.getD j 0)) hl hb hu fun j h1 h2=>by
  obtain ⟨t,e1⟩:=at' j hi (by simpa using h1)
  obtain ⟨u,e2⟩:=at' j hj (by simpa using h2)
  rw [show items[j]=.int (ns.getD j 0) t by simpa using e1,show items2[j]=.int (ms.getD j 0) u by simpa using e2,<-Bool.beq_eq_decide_eq]
  exact SeqAt.EqAt.int_int _ _ _ _
 have val:((List.range (min items.size items2.size)).all (fun j=>decide (ns.getD j 0=ms.getD j 0)) && items.size==items2.size)=decide (ns=ms):=by
  rw [z1,z2,Bool.eq_iff_iff,Bool.and_eq_true,List.all_eq_true,decide_eq_true_iff,beq_iff_eq]
  constructor
  ·rintro ⟨h1,h2⟩
   refine List.ext_getElem h2 fun j g1 g2=>?_
   have:=of_decide_eq_true (h1 j (by rw [List.mem_range];(clear g2 z2 z1 hu;omega)))
   rw [List.getD_eq_getElem?_getD,List.getD_eq_getElem?_getD,List.getElem?_eq_getElem g1,List.getElem?_eq_getElem g2] at this
   simpa using this
  ·rintro rfl
   exact ⟨fun j _=>decide_eq_true rfl,rfl⟩
 rw [val] at key
 exact key
theorem tH:∀ {vs:List Value} {xs ys:List Int},IntsAre vs xs->IntsAre vs ys->xs=ys:=by
 intro vs
 induction vs with
 |nil=>intro xs ys h1 h2;cases h1;cases h2;rfl
 |cons v r ih=>
  intro xs ys h1 h2
  cases h1 with
  |cons a t h1=>
   cases h2 with
   |cons _ _ h2=>rw [ih h1 h2]
theorem Mx {l b:Addr} {items items2:Array Value} {ns ms:List Int} (hl:IsTup s.heap l items) (hb:IsTup s.heap b items2) (hi:IntsAre items.toList ns) (hj:IntsAre items2.toList ms) (hu:A.units<cLine):
  SeqAt.EqAt A s (.ref l) (.ref b) (decide (ns=ms)):=by
 by_cases hlb:l=b
 ·subst hlb
  obtain ⟨o,e1,_,n,e2⟩:=hl
  obtain ⟨o2,e3,_,n2,e4⟩:=hb
  rw [e1] at e3
  cases e3
  rw [e2] at e4
  cases e4
  rw [tH hi hj,decide_eq_true rfl]
  exact SeqAt.EqAt.same _
 ·exact SeqAt.EqAt.of_refs hlb (yX hl hb hi hj hu)
end
end HT
namespace L2
open PySem PySem.Spec PyProof.Rows
section
variable {X:Cx}
def aDm (K:PySem.W.Frag):R2:=fun x y H Q=>∃ a b ns ms,x=.ref a/\y=.ref b/\cN K H a (ns.map V.int)/\cN K H b (ms.map V.int)/\Q (.bl (HT.gB ns ms)) H
theorem Yr (hu:X.A.units<cLine):tN X (compareOp .LtE) (aDm X.K):=by
 intro pins s σ H x y v u Q I rx ry h
 obtain ⟨a,b,ns,ms,rfl,rfl,ha,hb,q⟩:=h
 cases rx
 cases ry
 obtain ⟨its,r1,p1,_⟩:=I.tuple ha
 obtain ⟨its2,r2,p2,_⟩:=I.tuple hb
 have i1:IntsAre its.toArray.toList ns:=fH r1
 have i2:IntsAre its2.toArray.toList ms:=fH r2
 exact HT.Hu p1 p2 i1 i2 hu ⟨.bl (HT.gB ns ms),H,I,rfl,q⟩
def aBm (K:PySem.W.Frag):R2:=fun x y H Q=>∃ a b xs ys,x=.ref a/\y=.ref b/\cN K H a xs/\cN K H b ys/\ys≠[]/\xs.length+ys.length<=sizeLine/\
 ∀ p H',(∀ c o,H c=some o->H' c=some o)->cN K H' p (xs++ys)->Q (.ref p) H'
theorem Jb:tN X (binaryOp .Add) (aBm X.K):=by
 intro pins s σ H x y v u Q I rx ry h
 obtain ⟨a,b,xs,ys,rfl,rfl,ha,hb,hy,hz,q⟩:=h
 by_cases hx:xs=[]
 ·subst hx
  cases rx
  cases ry
  obtain ⟨its,r1,p1,_⟩:=I.tuple ha
  obtain ⟨its2,r2,p2,_⟩:=I.tuple hb
  cases r1
  exact HT.Tn p1 p2 ⟨.ref b,H,I,rfl,q b H (fun _ _ e=>e) hb⟩
 ·refine Uv pins s σ H _ _ v u Q I rx ry ⟨a,b,xs,ys,rfl,rfl,ha,hb,hx,hz,fun e=>absurd e hy,fun _ p hp=>?_⟩
  exact q p _ (fun c o e=>by rw [aB (aD e hp)];exact e) (cN.of aC)
def nZ (K:PySem.W.Frag) (H:Hp) (xs:List V) (nss:List (List Int)):Prop:=Paired (fun x ns=>∃ p,x=V.ref p/\cN K H p (ns.map V.int)) xs nss
open Classical in
noncomputable def Mn (s:Shared) (ns:List Int) (v:Value):Bool:=decide (∃ p its,v=.ref p/\IsTup s.heap p its/\IntsAre its.toList ns)
theorem Xu {s:Shared} {p:Addr} {its:Array Value} {ns ms:List Int} (h:IsTup s.heap p its) (hi:IntsAre its.toList ms):Mn s ns (.ref p)=decide (ms=ns):=by
 unfold Mn
 rw [decide_eq_decide]
 constructor
 ·rintro ⟨p',its',e,h',hi'⟩
  cases e
  obtain ⟨o,e1,_,n,e2⟩:=h
  obtain ⟨o2,e3,_,n2,e4⟩:=h'
  rw [e1] at e3
  cases e3
  rw [e2] at e4
  cases e4
  exact HT.tH hi hi'
 ·rintro rfl
  exact ⟨p,its,rfl,h,hi⟩
theorem Bf {pins:List (Addr×Obj)} {σ:St} {H:Hp} {s:Shared} {A:Around} {p:Addr} {its:Array Value} {ns:List Int} (I:aO X pins σ H s) (hu:A.units<cLine) (hp:IsTup s.heap p its) (hi:IntsAre its.toList ns):
  ∀ {xs:List V} {us:List Value} {nss:List (List Int)},nZ X.K H xs nss->aZ xs us->(∀ u∈us,SeqAt.EqAt A s u (.ref p) (Mn s ns u))/\us.map (Mn s ns)=nss.map fun ms=>decide (ms=ns)
 |[],_,_,t,v=>by
  cases t
  cases v
  exact ⟨(fun u h=>by cases h),rfl⟩
 |x::xs,_,_,t,v=>by
  cases t with
  |cons t1 t2=>
   cases v with
   |cons v1 v2=>
    obtain ⟨q,rfl,hq⟩:=t1
    cases v1
    obtain ⟨itq,rq,pq,_⟩:=I.tuple hq
    have iq:=fH rq
    have e:=Xu (ns:=ns) (its:=itq.toArray) pq (by simpa using iq)
    obtain ⟨g1,g2⟩:=Bf I hu hp hi t2 v2
    refine ⟨fun u h=>?_,?_⟩
    ·rcases List.mem_cons.mp h with rfl|h
     ·rw [e]
      exact HT.Mx pq hp (by simpa using iq) hi hu
     ·exact g1 u h
    ·rw [List.map_cons,List.map_cons,e,g2]
def aCo (K:PySem.W.Frag) (neg:Bool):R2:=fun x y H Q=>∃ p a ns xs nss,x=.ref p/\y=.ref a/\cN K H p (ns.map V.int)/\dB K H a xs/\nZ K H xs nss/\Q (.bl (if neg then !decide (ns∈nss) else decide (ns∈nss))) H
theorem Va {s:Shared} {ns:List Int} {us:List Value} {nss:List (List Int)} (h:us.map (Mn s ns)=nss.map fun ms=>decide (ms=ns)):us.toArray.any (Mn s ns)=decide (ns∈nss):=by
 have h1:us.any (Mn s ns)=(us.map (Mn s ns)).any id:=by rw [List.any_map];rfl
 have h2:us.toArray.any (Mn s ns)=us.any (Mn s ns):=by simp
 rw [h2,h1,h,List.any_map,Bool.eq_iff_iff,List.any_eq_true,decide_eq_true_iff]
 constructor
 ·rintro ⟨m,hm,e⟩
  have e:decide (m=ns)=true:=e
  rw [<-of_decide_eq_true e]
  exact hm
 ·intro hm
  exact ⟨ns,hm,show decide (ns=ns)=true from decide_eq_true rfl⟩
theorem Lw (hu:X.A.units+1<cLine):tN X (compareOp .NotIn) (aCo X.K true):=by
 intro pins s σ H x y v u Q I rx ry h
 obtain ⟨p,a,ns,xs,nss,rfl,rfl,hp,ha,ht,q⟩:=h
 cases rx
 cases ry
 obtain ⟨its,r,pl,hz⟩:=I.list ha
 obtain ⟨itp,rp,pp,_⟩:=I.tuple hp
 obtain ⟨g1,g2⟩:=Bf (A:=X.A.in1) I hu pp (by simpa using fH rp) ht r
 refine SeqAt.notIn_listAt (Mn s ns) pl.isList (fun w hw=>g1 w (by simpa using hw)) ⟨.bl _,H,I,rfl,?_⟩
 rw [Va g2]
 exact q
def Wb (K:PySem.W.Frag):V->List V->Hp->VK->Prop:=fun x ys H Q=>∃ (a p:Addr) (xs:List V) (nss:List (List Int)) (ns:List Int) (j:Nat),x=V.ref a/\ys=[V.ref p]/\dB K H a xs/\nZ K H xs nss/\cN K H p (ns.map V.int)/\
 nss[j]?=some ns/\(∀ m ms,m<j->nss[m]?=some ms->ms≠ns)/\Q (.int (j:Nat)) H
theorem Lu (hu:X.A.units+1<cLine):MtR X "list.index" (Wb X.K):=by
 intro pins s σ H x xs v us Q I rx rxs h
 obtain ⟨a,p,ys,nss,ns,j,rfl,rfl,hs,ht,hp,hj,hno,q⟩:=h
 cases rx
 obtain ⟨uy,rfl,ry⟩:=zK rxs
 cases ry
 obtain ⟨its,rv,⟨⟨cls,dd,data,sl⟩,n,ho,hc,hdn,hd⟩,hlen⟩:=I.list hs
 simp only at hc hd
 subst hc hd
 obtain ⟨itp,rp,pp,_⟩:=I.tuple hp
 obtain ⟨g1,g2⟩:=Bf (A:=X.A.in1) I hu pp (by simpa using fH rp) ht rv
 have hl1:its.length=nss.length:=by
  have:=congrArg List.length g2
  simpa using this
 have at':∀ m (hm:m<its.length) ms,nss[m]?=some ms->Mn s ns its[m]=decide (ms=ns):=by
  intro m hm ms e
  have:=congrArg (fun l:List Bool=>l[m]?) g2
  simp only [List.getElem?_map,e,List.getElem?_eq_getElem hm,Option.map_some] at this
  injection this
 have hjl:j<its.length:=by rw [hl1];exact (List.getElem?_eq_some_iff.mp hj).1
 have hsl:=sizeLine_eq
 have hvl:=rv.length
 refine call_meets PySem.F.slot_list_index ⟨_,ho,rfl⟩ PySem.F.entry_list_index (PySem.F.args_list_index_2 _ _)
  (SeqAt.list_indexAt a its.toArray n dd sl (.ref p) (Mn s ns) j (by simpa using hjl) (by (clear hl1 hu;omega)) ?_ ?_) ⟨ho,fun u' hu'=>g1 u' (by simpa using hu'),?_⟩
 ·have e1:its.toArray[j]=its[j]:=by simp
  rw [e1,at' j hjl ns hj]
  exact decide_eq_true rfl
 ·intro m hm hmj
  have hml:m<its.length:=by simpa using hm
  have e1:its.toArray[m]=its[m]:=by simp
  have hmn:m<nss.length:=by rw [<-hl1];exact hml
  rw [e1,at' m hml _ (List.getElem?_eq_getElem hmn)]
  exact decide_eq_false (hno m _ hmj (List.getElem?_eq_getElem hmn))
 ·exact ⟨.int (j:Nat),H,I.tok _,⟨_,rfl⟩,q⟩
def Yy (K:PySem.W.Frag):R2:=fun x y H Q=>∃ (p q:Addr) (ns ms:List Int),x=.ref p/\y=.ref q/\cN K H p (ns.map V.int)/\cN K H q (ms.map V.int)/\Q (.bl (decide (ns=ms))) H
theorem Ym (hu:X.A.units<cLine):tN X (compareOp .Eq) (Yy X.K):=by
 intro pins s σ H x y v u Q I rx ry h
 obtain ⟨a,b,ns,ms,rfl,rfl,ha,hb,q⟩:=h
 cases rx
 cases ry
 obtain ⟨its,r1,p1,_⟩:=I.tuple ha
 obtain ⟨its2,r2,p2,_⟩:=I.tuple hb
 exact HT.yX p1 p2 (by simpa using fH r1) (by simpa using fH r2) hu _ _ _ _ ⟨.bl _,H,I,rfl,q⟩
end
theorem gH {d:Addr} {o:Obj} {aI:List (List dR×V)} {g:TG} {tb:TS} {D:fT} {σ:St} {H:Hp} (Pv:Nat->St->Hp->Prop) (h0:Pv 0 σ H) (hl:∀ i σ H,i<=aI.length->Pv i σ H->H d=some (.frz o (.dT aI)))
  (hs:∀ i σ H T k v q,aI[i]?=some (k,v)->Pv i σ H->H T=none->H q=some (.tup (k.map kV))->g (.ref T) σ (upd H T (.tup [.ref q,v])) fun σ2 H2=>tb {D with nx:=Pv (i+1),ct:=Pv (i+1),bk:=D.nx} σ2 H2) (hd:∀ σ H,Pv aI.length σ H->D.nx σ H):
  ∃ W:Nat->Nat->St->Hp->Prop,(∃ m,W 0 m σ H)/\∀ i m σ H,W i m σ H->
   ((Gn d o aI).stop i H/\D.nx σ H)\/((Gn d o aI).go i H/\∃ N:St->Hp->Prop,(∀ σ' H',N σ' H'->∃ m',m'<m/\W (i+1) m' σ' H')/\∀ x H',(Gn d o aI).yld i H x H'->g x σ H' fun σ2 H2=>tb {D with nx:=N,ct:=N,bk:=D.nx} σ2 H2):=by
 refine ⟨fun i m σ H=>m=aI.length - i/\i<=aI.length/\Pv i σ H,⟨aI.length,by simp,Nat.zero_le _,h0⟩,?_⟩
 rintro i m σ H ⟨rfl,hi,p⟩
 have q:=hl i σ H hi p
 by_cases hlt:i<aI.length
 ·refine .inr ⟨⟨q,hlt⟩,Pv (i+1),fun σ' H' p'=>⟨aI.length - (i+1),by (clear hi;omega),rfl,hlt,p'⟩,fun x H' y=>?_⟩
  obtain ⟨T,k,v,a,e1,rfl,e2,e3,rfl⟩:=y
  exact hs i σ H T k v a e1 p e2 e3
 ·have e:i=aI.length:=by omega
  subst e
  exact .inl ⟨⟨q,Nat.le_refl _⟩,hd σ H p⟩
theorem iG {H H':Hp} {c:Addr} {u:HO} {od:Obj} (h:H c=some u) (s:aK (upd H c (.frz od u)) H'):aK H (upd H' c u):=fun b o e=>by
 by_cases hb:b=c
 ·rw [hb] at e ⊢
  rw [aC,<-e,h]
 ·rw [aB hb]
  exact s b o (by rw [aB hb];exact e)
theorem aK.new {H:Hp} {q:Addr} {o:HO} (h:H q=none):aK H (upd H q o):=fun b o' e=>by rw [aB (aD e h)];exact e
theorem aK.id' (H:Hp):aK H H:=fun _ _ e=>e
end L2
namespace Br1
open PySem PySem.Spec PyProof.Rows L2
abbrev Pl:=Int×Int×Int
abbrev CL:=List (Pl×Int)
def aAa (c:Pl×Int):List dR×V:=(eG c.1.1 c.1.2.1 c.1.2.2,V.int c.2)
def aI (cs:CL):List (List dR×V):=cs.map aAa
def aV (cs:CL) (p:Pl):Option Int:=(cs.find? fun c=>decide (c.1=p)).map (·.2)
def jG (p:Pl):Pl:=(p.1,p.2.1,p.2.2+1)
def oQ (p:Pl):Pl:=(p.1,p.2.1,p.2.2 - 1)
theorem vY {p q:Pl}:eG p.1 p.2.1 p.2.2=eG q.1 q.2.1 q.2.2↔p=q:=by
 obtain ⟨a,b,c⟩:=p
 obtain ⟨x,y,z⟩:=q
 simp [eG]
theorem qE (p:Pl):∀ cs:CL,iT (aI cs) (eG p.1 p.2.1 p.2.2)=(aV cs p).map V.int
 |[]=>rfl
 |c::r=>by
  have ih:=qE p r
  unfold iT aV aI at *
  rw [List.map_cons,List.find?_cons,List.find?_cons]
  by_cases h:c.1=p
  ·have h2:(aAa c).1=eG p.1 p.2.1 p.2.2:=vY.mpr h
   simp only [h,h2,decide_true,Option.map_some]
   rfl
  ·have h2:¬(aAa c).1=eG p.1 p.2.1 p.2.2:=fun z=>h (vY.mp z)
   simp only [h,h2,decide_false]
   exact ih
theorem iC {cs:CL} {i:Nat} {k:List dR} {v:V} (h:(aI cs)[i]?=some (k,v)):∃ p s,cs[i]?=some (p,s)/\k=eG p.1 p.2.1 p.2.2/\v=V.int s:=by
 unfold aI at h
 rw [List.getElem?_map] at h
 obtain ⟨⟨p,s⟩,e1,e2⟩:=Option.map_eq_some_iff.mp h
 cases e2
 exact ⟨p,s,e1,rfl,rfl⟩
theorem Ct {α:Type} {f:α->Bool} {l:List α} {i:Nat} {x:α} (h:(l.take i).all f=true) (e:l[i]?=some x) (hx:f x=true):(l.take (i+1)).all f=true:=by
 have hl:=(List.getElem?_eq_some_iff.mp e).1
 rw [List.take_succ,e,List.all_append,h]
 simp [hx]
def mK (cs:CL):Bool:=cs.all fun c=> !(dY c.2 && (aV cs (jG c.1)).isSome)
def mQ (cs:CL):Bool:=cs.all fun c=> !(dC c.2 && (aV cs (oQ c.1)).isSome)
section
variable {P:Program} {w:World} {K:PySem.W.Frag} {mg:Str->Option Value} {base:Heap} {C CR CP:Addr}
def xN (CP:Addr) (H:Hp) (b:Addr) (nm:Addr) (W D Hh g:Int) (cs:CL):Prop:=∃ dx c,H b=some (.ins CP dx (Nn nm W D Hh g c))/\H c=some (.dT (aI cs))
def Bd (CP:Addr):Sp:=fun vs H Q _=>∃ (b nm:Addr) (W D Hh g:Int) (cs:CL),vs=[.ref b]/\xN CP H b nm W D Hh g cs/\∀ H',aK H H'->Q (.bl (mK cs)) H'
def Bp (CP:Addr):Sp:=fun vs H Q _=>∃ (b nm:Addr) (W D Hh g:Int) (cs:CL),vs=[.ref b]/\xN CP H b nm W D Hh g cs/\∀ H',aK H H'->Q (.bl (mQ cs)) H'
theorem xA:aP ["part","place","sign"] ["part"] (aH Aj):=⟨rfl,rfl,rfl,by decide+kernel,rfl,by decide+kernel,by decide+kernel⟩
theorem wG:aP ["part","place","sign"] ["part"] (aH Ad):=⟨rfl,rfl,rfl,by decide+kernel,rfl,by decide+kernel,by decide+kernel⟩
theorem qG {H:Hp} {c q:Addr} {od:Obj} {cs:CL} {p:Pl} (hc:H c=some (.frz od (.dT (aI cs)))) (hq:H q=some (.tup [.int p.1,.int p.2.1,.int p.2.2])):mT H c (.ref q) ((aV cs p).map V.int):=
 .inr ⟨aI cs,eG p.1 p.2.1 p.2.2,q,.inr ⟨od,hc⟩,rfl,hq,(qE p cs).symm⟩
theorem wJ {H:Hp} {c q:Addr} {cs:CL} {p:Pl} (hc:H c=some (.dT (aI cs))) (hq:H q=some (.tup [.int p.1,.int p.2.1,.int p.2.2])):mT H c (.ref q) ((aV cs p).map V.int):=
 .inr ⟨aI cs,eG p.1 p.2.1 p.2.2,q,.inl hc,rfl,hq,(qE p cs).symm⟩
theorem Qs {f:Addr} {fd:FuncData} (F:fD K "studs_clear" "studs_clear" Aj f fd) (T':Nq K CP) (L1:dJ P w K mg base "has_stud" bS 1 ["sign"] sE) (L2:dJ P w K mg base "above" bS 1 ["place"] lK):
  bO P w K mg base bS 2 f fd ["part"] (Bd CP):=by
 obtain ⟨g1,gd1,G1,b1,k1,h1⟩:=L1.ex
 obtain ⟨g2,gd2,G2,b2,k2,h2⟩:=L2.ex
 refine F.ok xA (fun vs H Q E h=>?_) (fun cdv A outer s H vs Q E hr h=>?_)
 ·obtain ⟨b,nm,W,D,Hh,g,cs,rfl,_⟩:=h
  rfl
 ·obtain ⟨b,nm,W,D,Hh,g,cs,rfl,⟨dx,c,hb,hc⟩,k⟩:=h
  have hr1:=hr.mono (j:=1) (by decide)
  have hu:=jW hr
  refine ⟨_,aE (hG (eA PassesOwn.never rfl (iD (aR (pv 0) rfl)) (lB rfl (cI (bH (i:=1) xA.nd rfl (Or.inl rfl)) (cI (bH (i:=2) xA.nd rfl (Or.inl rfl)) hX)))
    (aG (dS (fY (dW (aT G1 hr1 (by rfl) h1 k1 b1 .nil aY (aA (pv 2) aF))) (gK (dA (pC hu (aT G2 hr1 (by rfl) h2 k2 b2 .nil aY (aA (pv 1) aF)) (aR (pv 0) rfl))))).pt (aG (aW mG)) bW))))
   (aG (aW mG)),?_⟩
  refine ⟨c,_,hc,trivial,fun od=>?_⟩
  have nbc:b≠c:=fun z=>by rw [z,hc] at hb;cases hb
  have hcL:upd H c (.frz od (.dT (aI cs))) c=some (.frz od (.dT (aI cs))):=aC
  have hbL:upd H c (.frz od (.dT (aI cs))) b=some (.ins CP dx (Nn nm W D Hh g c)):=by rw [aB nbc];exact hb
  refine ⟨_,rfl,b,CP,dx,_,_,rfl,hbL,T'.cl,T'.n6,rfl,c,od,_,rfl,hcL,?_⟩
  refine gH (fun i σ H'=>∃ v1 v2,σ=[some (.ref b),v1,v2]/\aK (upd H c (.frz od (.dT (aI cs)))) H'/\(cs.take i).all (fun c=> !(dY c.2 && (aV cs (jG c.1)).isSome))=true) ⟨none,none,rfl,aK.id' _,rfl⟩ ?_ ?_ ?_
  ·rintro i σ H1 hi ⟨v1,v2,rfl,S1,_⟩
   exact S1 _ _ hcL
  ·rintro i σ H1 T k v q e ⟨v1,v2,rfl,S1,al⟩ hT hq
   obtain ⟨p,sg,e1,rfl,rfl⟩:=iC e
   have ST:=aK.new (o:=.tup [.ref q,.int sg]) hT
   have S2:aK (upd H c (.frz od (.dT (aI cs)))) (upd H1 T (.tup [.ref q,.int sg])):=S1.trans ST
   refine ⟨T,_,rfl,cN.of aC,rfl,_,_,rfl,_,_,rfl,rfl,?_⟩
   have step:(!(dY sg && (aV cs (jG p)).isSome))=true->(cs.take (i+1)).all (fun c=> !(dY c.2 && (aV cs (jG c.1)).isSome))=true:=fun z=>Ct al e1 z
   refine ⟨_,rfl,sg,rfl,_,rfl,bX (fun hs=>?_) (fun hs=>pX ⟨_,_,rfl,S2,step (by rw [cV hs];rfl)⟩)⟩
   refine ⟨_,rfl,q,p.1,p.2.1,p.2.2,rfl,ST _ _ hq,fun q2 hq2=>?_⟩
   have SQ:=aK.new (o:=.tup [.int p.1,.int p.2.1,.int (p.2.2+1)]) hq2
   have S3:=S2.trans SQ
   refine ⟨_,rfl,b,CP,dx,_,_,rfl,S3 _ _ hbL,T'.cl,T'.n6,rfl,c,_,rfl,qG (p:=jG p) (S3 _ _ hcL) aC,_,rfl,bX (fun hi=>?_) (fun hi=>?_)⟩
   ·refine ⟨S3 _ _ hcL,?_⟩
    have z:=k _ (iG hc S3)
    have e3:mK cs=false:=by
     unfold mK
     rw [Bool.eq_false_iff]
     intro z
     have:=List.all_eq_true.mp z _ (List.mem_of_getElem? e1)
     rw [Option.isSome_map] at hi
     rw [hs,hi] at this
     cases this
    rw [e3] at z
    exact z
   ·refine ⟨_,_,rfl,S3,step ?_⟩
    rw [Option.isSome_map] at hi
    rw [cV hi,Bool.and_false]
    rfl
  ·rintro σ H1 ⟨v1,v2,rfl,S1,al⟩
   refine ⟨S1 _ _ hcL,?_⟩
   have z:=k _ (iG hc S1)
   have e3:mK cs=true:=by
    unfold mK
    have hl:(aI cs).length=cs.length:=by unfold aI;rw [List.length_map]
    rw [hl,List.take_length] at al
    exact al
   rw [e3] at z
   exact z
theorem Op {f:Addr} {fd:FuncData} (F:fD K "tubes_clear" "tubes_clear" Ad f fd) (T':Nq K CP) (L1:dJ P w K mg base "has_tube" bS 1 ["sign"] rT) (L2:dJ P w K mg base "below" bS 1 ["place"] nE):
  bO P w K mg base bS 2 f fd ["part"] (Bp CP):=by
 obtain ⟨g1,gd1,G1,b1,k1,h1⟩:=L1.ex
 obtain ⟨g2,gd2,G2,b2,k2,h2⟩:=L2.ex
 refine F.ok wG (fun vs H Q E h=>?_) (fun cdv A outer s H vs Q E hr h=>?_)
 ·obtain ⟨b,nm,W,D,Hh,g,cs,rfl,_⟩:=h
  rfl
 ·obtain ⟨b,nm,W,D,Hh,g,cs,rfl,⟨dx,c,hb,hc⟩,k⟩:=h
  have hr1:=hr.mono (j:=1) (by decide)
  have hu:=jW hr
  refine ⟨_,aE (hG (eA PassesOwn.never rfl (iD (aR (pv 0) rfl)) (lB rfl (cI (bH (i:=1) wG.nd rfl (Or.inl rfl)) (cI (bH (i:=2) wG.nd rfl (Or.inl rfl)) hX)))
    (aG (dS (fY (dW (aT G1 hr1 (by rfl) h1 k1 b1 .nil aY (aA (pv 2) aF))) (gK (dA (pC hu (aT G2 hr1 (by rfl) h2 k2 b2 .nil aY (aA (pv 1) aF)) (aR (pv 0) rfl))))).pt (aG (aW mG)) bW))))
   (aG (aW mG)),?_⟩
  refine ⟨c,_,hc,trivial,fun od=>?_⟩
  have nbc:b≠c:=fun z=>by rw [z,hc] at hb;cases hb
  have hcL:upd H c (.frz od (.dT (aI cs))) c=some (.frz od (.dT (aI cs))):=aC
  have hbL:upd H c (.frz od (.dT (aI cs))) b=some (.ins CP dx (Nn nm W D Hh g c)):=by rw [aB nbc];exact hb
  refine ⟨_,rfl,b,CP,dx,_,_,rfl,hbL,T'.cl,T'.n6,rfl,c,od,_,rfl,hcL,?_⟩
  refine gH (fun i σ H'=>∃ v1 v2,σ=[some (.ref b),v1,v2]/\aK (upd H c (.frz od (.dT (aI cs)))) H'/\(cs.take i).all (fun c=> !(dC c.2 && (aV cs (oQ c.1)).isSome))=true) ⟨none,none,rfl,aK.id' _,rfl⟩ ?_ ?_ ?_
  ·rintro i σ H1 hi ⟨v1,v2,rfl,S1,_⟩
   exact S1 _ _ hcL
  ·rintro i σ H1 T k v q e ⟨v1,v2,rfl,S1,al⟩ hT hq
   obtain ⟨p,sg,e1,rfl,rfl⟩:=iC e
   have ST:=aK.new (o:=.tup [.ref q,.int sg]) hT
   have S2:aK (upd H c (.frz od (.dT (aI cs)))) (upd H1 T (.tup [.ref q,.int sg])):=S1.trans ST
   refine ⟨T,_,rfl,cN.of aC,rfl,_,_,rfl,_,_,rfl,rfl,?_⟩
   have step:(!(dC sg && (aV cs (oQ p)).isSome))=true->(cs.take (i+1)).all (fun c=> !(dC c.2 && (aV cs (oQ c.1)).isSome))=true:=fun z=>Ct al e1 z
   refine ⟨_,rfl,sg,rfl,_,rfl,bX (fun hs=>?_) (fun hs=>pX ⟨_,_,rfl,S2,step (by rw [cV hs];rfl)⟩)⟩
   refine ⟨_,rfl,q,p.1,p.2.1,p.2.2,rfl,ST _ _ hq,fun q2 hq2=>?_⟩
   have SQ:=aK.new (o:=.tup [.int p.1,.int p.2.1,.int (p.2.2 - 1)]) hq2
   have S3:=S2.trans SQ
   refine ⟨_,rfl,b,CP,dx,_,_,rfl,S3 _ _ hbL,T'.cl,T'.n6,rfl,c,_,rfl,qG (p:=oQ p) (S3 _ _ hcL) aC,_,rfl,bX (fun hi=>?_) (fun hi=>?_)⟩
   ·refine ⟨S3 _ _ hcL,?_⟩
    have z:=k _ (iG hc S3)
    have e3:mQ cs=false:=by
     unfold mQ
     rw [Bool.eq_false_iff]
     intro z
     have:=List.all_eq_true.mp z _ (List.mem_of_getElem? e1)
     rw [Option.isSome_map] at hi
     rw [hs,hi] at this
     cases this
    rw [e3] at z
    exact z
   ·refine ⟨_,_,rfl,S3,step ?_⟩
    rw [Option.isSome_map] at hi
    rw [cV hi,Bool.and_false]
    rfl
  ·rintro σ H1 ⟨v1,v2,rfl,S1,al⟩
   refine ⟨S1 _ _ hcL,?_⟩
   have z:=k _ (iG hc S1)
   have e3:mQ cs=true:=by
    unfold mQ
    have hl:(aI cs).length=cs.length:=by unfold aI;rw [List.length_map]
    rw [hl,List.take_length] at al
    exact al
   rw [e3] at z
   exact z
end
end Br1
namespace L2
open PySem PySem.Spec PyProof.Rows
theorem Ee {d:Addr} {o:Obj} {aI:List (List dR×V)} {g:TG} {tt:TT} {te:TE} {vs:List Nat} {σ:St} {H1:Hp} {D:Addr} {Qd:Hp->Prop} (Pv:Nat->Hp->Prop) (h0:Pv 0 (upd H1 D (.lst []))) (hl:∀ i H,i<=aI.length->Pv i H->H d=some (.frz o (.dT aI)))
  (hs:∀ i k v q H,aI[i]?=some (k,v)->Pv i H->H q=some (.tup (k.map kV))->g (.ref q) (fG σ vs) H fun σ2 H2=>fG σ2 vs=fG σ vs/\tt σ2 H2 fun b H3=>
   if b=true then te σ2 H3 fun y H4=>∃ acc,H4 D=some (.lst acc)/\acc.length<sizeLine/\Pv (i+1) (upd H4 D (.lst (acc++[y]))) else Pv (i+1) H3) (hd:∀ H,Pv aI.length H->Qd H):
  ∃ W:Nat->Nat->Hp->Prop,(∃ m,W 0 m (upd H1 D (.lst [])))/\∀ i m H,W i m H->
   ((El d o aI).stop i H/\Qd H)\/((El d o aI).go i H/\∃ Nx:Hp->Prop,(∀ H',Nx H'->∃ m',m'<m/\W (i+1) m' H')/\∀ x H',(El d o aI).yld i H x H'->g x (fG σ vs) H' fun σ2 H2=>fG σ2 vs=fG σ vs/\tt σ2 H2 fun b H3=>
    if b=true then te σ2 H3 fun y H4=>∃ acc,H4 D=some (.lst acc)/\acc.length<sizeLine/\Nx (upd H4 D (.lst (acc++[y]))) else Nx H3):=by
 refine ⟨fun i m H=>m=aI.length - i/\i<=aI.length/\Pv i H,⟨aI.length,by simp,Nat.zero_le _,h0⟩,?_⟩
 rintro i m H ⟨rfl,hi,p⟩
 have q:=hl i H hi p
 by_cases hlt:i<aI.length
 ·refine .inr ⟨⟨q,hlt⟩,Pv (i+1),fun H' p'=>⟨aI.length - (i+1),by (clear hi;omega),rfl,hlt,p'⟩,fun x H' y=>?_⟩
  obtain ⟨e,k,v,a,e1,rfl,e2⟩:=y
  subst e
  exact hs i k v a _ e1 p e2
 ·have e:i=aI.length:=by omega
  subst e
  exact .inl ⟨⟨q,Nat.le_refl _⟩,hd H p⟩
theorem Lc {K:PySem.W.Frag} {a:Addr} {xs:List V} {g:TG} {tb:TS} {D:fT} {σ:St} {H:Hp} (Pv:Nat->St->Hp->Prop) (h0:Pv 0 σ H) (hl:∀ i σ H,i<=xs.length->Pv i σ H->cN K H a xs)
  (hs:∀ i x σ H T,xs[i]?=some x->Pv i σ H->H T=none->g (.ref T) σ (upd H T (.tup [.int (i:Nat),x])) fun σ2 H2=>tb {D with nx:=Pv (i+1),ct:=Pv (i+1),bk:=D.nx} σ2 H2) (hd:∀ σ H,Pv xs.length σ H->D.nx σ H):
  ∃ W:Nat->Nat->St->Hp->Prop,(∃ m,W 0 m σ H)/\∀ i m σ H,W i m σ H->
   ((Pj K a).stop i H/\D.nx σ H)\/((Pj K a).go i H/\∃ N:St->Hp->Prop,(∀ σ' H',N σ' H'->∃ m',m'<m/\W (i+1) m' σ' H')/\∀ x H',(Pj K a).yld i H x H'->g x σ H' fun σ2 H2=>tb {D with nx:=N,ct:=N,bk:=D.nx} σ2 H2):=by
 refine ⟨fun i m σ H=>m=xs.length - i/\i<=xs.length/\Pv i σ H,⟨xs.length,by simp,Nat.zero_le _,h0⟩,?_⟩
 rintro i m σ H ⟨rfl,hi,p⟩
 have q:=hl i σ H hi p
 by_cases hlt:i<xs.length
 ·refine .inr ⟨⟨xs,xs[i],q,by simp [hlt]⟩,Pv (i+1),fun σ' H' p'=>⟨xs.length - (i+1),by (clear hi;omega),rfl,hlt,p'⟩,fun x H' y=>?_⟩
  obtain ⟨T,x',rfl,hT,rfl,y⟩:=y
  exact hs i x' σ H T (y xs q) p hT
 ·have e:i=xs.length:=by omega
  subst e
  exact .inl ⟨⟨xs,q,rfl⟩,hd σ H p⟩
end L2
namespace Br1
open PySem PySem.Spec PyProof.Rows L2
def coP (p:Pl):Nat->Int
 |0=>p.1
 |1=>p.2.1
 |_=>p.2.2
def fJ (cs:CL) (a:Nat):List Int:=cs.map fun c=>coP c.1 a
def eZ (cs:CL) (a:Nat) (n:Int):Bool:=decide ((0:Int)∈fJ cs a) && decide (n - 1∈fJ cs a)
def mI (cs:CL) (W D Hh:Int):Bool:=eZ cs 0 W && eZ cs 1 D && eZ cs 2 Hh
section
variable {P:Program} {w:World} {K:PySem.W.Frag} {mg:Str->Option Value} {base:Heap} {C CR CP:Addr}
def Bo (CP:Addr):Sp:=fun vs H Q _=>∃ (b nm:Addr) (W D Hh g:Int) (cs:CL),vs=[.ref b]/\xN CP H b nm W D Hh g cs/\cs.length<20000/\∀ H',aK H H'->Q (.bl (mI cs W D Hh)) H'
theorem jX:aP ["part","sizes","axis","size","reached","place"] ["part"] (aH uM):=⟨rfl,rfl,rfl,by decide+kernel,rfl,by decide+kernel,by decide+kernel⟩
theorem Od {f:Addr} {fd:FuncData} (F:fD K "fills_its_box" "fills_its_box" uM f fd) (T':Nq K CP) (henum:mg "enumerate"=none):
  bO P w K mg base bS 2 f fd ["part"] (Bo CP):=by
 refine F.ok jX (fun vs H Q E h=>?_) (fun cdv A outer s H vs Q E hr h=>?_)
 ·obtain ⟨b,nm,W,D,Hh,g,cs,rfl,_⟩:=h
  rfl
 ·obtain ⟨b,nm,W,D,Hh,g,cs,rfl,⟨dx,c,hb,hc⟩,hl,k⟩:=h
  refine ⟨_,aE (bA (i:=1) jX.nd rfl (Or.inl rfl) (eK (aA (aR (pv 0) rfl) (aA (aR (pv 0) rfl) (aA (aR (pv 0) rfl) aF)))))
   (aE (eA PassesOwn.never rfl (Pq rfl henum (aA (pv 1) aF)) (lB rfl (cI (bH (i:=2) jX.nd rfl (by first|exact Or.inl rfl|exact Or.inr rfl)) (cI (bH (i:=3) jX.nd rfl (Or.inl rfl)) hX)))
    (aE (hG (wC (i:=4) (te:=Yi (Yp K) (eO 5) (eO 2)) (own:=[("place",5)]) rfl jX.nd rfl rfl rfl (zX (aR (pv 0) rfl)) (jO (N:=["part","sizes","axis","size","reached","place"]) (sc:=aH uM) (by decide+kernel))
      (fun _ _ _ _ _=>bH (i:=5) jX.nd rfl (Or.inl rfl)) (fun _ _ _ _ _=>pK) (fun _ _ _ _ _=>bV (r:=Yp K) bU (pv 5) (pv 2) (fun _ _=>rfl))))
     (aG (dS (Ig (hJ kW aJ (pv 4) rfl) (zW (hJ kW (cU eR (pv 3) aJ) (pv 4) rfl))).pt (aG (aW mG)) bW))))
   (aG (aW mG))),?_⟩
  refine ⟨_,rfl,b,CP,dx,_,_,rfl,hb,T'.cl,T'.n2,rfl,_,rfl,b,CP,dx,_,_,rfl,hb,T'.cl,T'.n3,rfl,_,rfl,b,CP,dx,_,_,rfl,hb,T'.cl,T'.n4,rfl,(by show 3<=sizeLine;decide),fun q hq=>?_⟩
  have S0:=aK.new (o:=.tup [.int W,.int D,.int Hh]) hq
  have hsq:cN K (upd H q (.tup [.int W,.int D,.int Hh])) q [.int W,.int D,.int Hh]:=cN.of aC
  have htup:upd H q (.tup [.int W,.int D,.int Hh]) q=some (.tup [.int W,.int D,.int Hh]):=aC
  refine ⟨_,rfl,q,_,rfl,hsq,?_⟩
  refine Lc (xs:=[.int W,.int D,.int Hh]) (fun i σ H'=>∃ v2 v3 v4 v5,σ=[some (.ref b),some (.ref q),v2,v3,v4,v5]/\aK (upd H q (.tup [.int W,.int D,.int Hh])) H'/\∀ j,j<i->eZ cs j ([W,D,Hh].getD j 0)=true) ⟨none,none,none,none,rfl,aK.id' _,fun j hj=>absurd hj (Nat.not_lt_zero _)⟩ ?_ ?_ ?_
  ·rintro i σ H1 hi ⟨v2,v3,v4,v5,rfl,S1,_⟩
   exact cN.of (S1 _ _ htup)
  ·rintro i x σ H1 T ex ⟨v2,v3,v4,v5,rfl,S1,al⟩ hT
   have hi:i<3:=(List.getElem?_eq_some_iff.mp ex).1
   obtain ⟨n,rfl,en⟩:∃ n:Int,x=.int n/\[W,D,Hh].getD i 0=n:=by
    match i,hi,ex with
    |0,_,ex=>cases ex;exact ⟨_,rfl,rfl⟩
    |1,_,ex=>cases ex;exact ⟨_,rfl,rfl⟩
    |2,_,ex=>cases ex;exact ⟨_,rfl,rfl⟩
   have ST:=aK.new (o:=.tup [.int (i:Nat),.int n]) hT
   have S2:=(S0.trans S1).trans ST
   refine ⟨T,_,rfl,cN.of aC,rfl,_,_,rfl,_,_,rfl,rfl,?_⟩
   have hb2:=S2 _ _ hb
   have hc2:=S2 _ _ hc
   have S12:=S1.trans ST
   generalize upd H1 T (.tup [.int (i:Nat),.int n])=H2 at hb2 hc2 S2 S12
   have nbc:b≠c:=fun z=>by rw [z,hc2] at hb2;cases hb2
   refine ⟨c,_,hc2,trivial,fun od=>?_⟩
   have hcL:upd H2 c (.frz od (.dT (aI cs))) c=some (.frz od (.dT (aI cs))):=aC
   have hbL:upd H2 c (.frz od (.dT (aI cs))) b=some (.ins CP dx (Nn nm W D Hh g c)):=by rw [aB nbc];exact hb2
   refine ⟨_,rfl,b,CP,dx,_,_,rfl,hbL,T'.cl,T'.n6,rfl,c,od,rfl,.inr ⟨aI cs,hcL,fun Dl hDl=>?_⟩⟩
   refine Ee (fun j H'=>aK (upd H2 c (.frz od (.dT (aI cs)))) H'/\H' Dl=some (.lst ((fJ (cs.take j) i).map V.int))) ⟨aK.new hDl,aC⟩ (fun j H' _ p=>p.1 _ _ hcL) ?_ ?_
   ·rintro j kk vv q2 H3 e3 ⟨S3,hD3⟩ hq2
    obtain ⟨p,sg,e4,rfl,rfl⟩:=iC e3
    have hj:j<cs.length:=(List.getElem?_eq_some_iff.mp e4).1
    refine ⟨rfl,⟨_,rfl,_,rfl,q2,_,(i:Int),.int (coP p i),rfl,rfl,cN.of hq2,?_,_,hD3,?_,?_⟩⟩
    ·match i,hi with
     |0,_=>rfl
     |1,_=>rfl
     |2,_=>rfl
    ·rw [List.length_map]
     unfold fJ
     rw [List.length_map,List.length_take]
     have:=bI
     (clear hj en hi;omega)
    ·refine ⟨fun b' o e=>?_,?_⟩
     ·rw [aB (aD e hDl)]
      exact S3 _ _ e
     ·rw [aC]
      unfold fJ
      rw [List.take_succ,e4]
      simp
   ·rintro H3 ⟨S3,hD3⟩
    have hl2:(aI cs).length=cs.length:=by unfold aI;rw [List.length_map]
    rw [hl2,List.take_length] at hD3
    refine ⟨S3 _ _ hcL,?_⟩
    have S4:=iG hc2 S3
    have nDc:Dl≠c:=fun z=>by rw [z,hcL] at hDl;cases hDl
    have hD4:upd H3 c (.dT (aI cs)) Dl=some (.lst ((fJ cs i).map V.int)):=by rw [aB nDc];exact hD3
    generalize upd H3 c (.dT (aI cs))=H4 at S4 hD4
    have S5:=S12.trans S4
    have fal:eZ cs i n=false->mI cs W D Hh=false:=by
     intro z
     unfold mI
     rw [<-en] at z
     match i,hi,z with
     |0,_,z=>rw [show eZ cs 0 W=false from z];rfl
     |1,_,z=>rw [show eZ cs 1 D=false from z,Bool.and_false];rfl
     |2,_,z=>rw [show eZ cs 2 Hh=false from z,Bool.and_false]
    have fin:eZ cs i n=false->Q (.bl false) H4:=fun z=>by
     have kk:=k H4 (S0.trans S5)
     rw [fal z] at kk
     exact kk
    have allf:((fJ cs i).map V.int).all oJ=true:=List.all_eq_true.mpr fun x hx=>by
     obtain ⟨y,_,rfl⟩:=List.mem_map.mp hx
     rfl
    refine ⟨_,rfl,Dl,_,rfl,.inl (dB.of hD4),rfl,allf,_,rfl,bX (fun h0=>Qj ?_) (fun h0=>?_)⟩
    ·have h0:(!Qm (.int 0) ((fJ cs i).map V.int))=true:=h0
     rw [iM,Bool.not_eq_true'] at h0
     exact fin (by unfold eZ;rw [h0];rfl)
    ·have h0:¬(!Qm (.int 0) ((fJ cs i).map V.int))=true:=h0
     rw [iM,Bool.not_eq_true',Bool.not_eq_false] at h0
     refine ⟨_,rfl,_,_,rfl,rfl,_,rfl,Dl,_,rfl,.inl (dB.of hD4),rfl,allf,_,rfl,bX (fun h1=>?_) (fun h1=>?_)⟩
     ·have h1:(!Qm (.int (n - 1)) ((fJ cs i).map V.int))=true:=h1
      rw [iM,Bool.not_eq_true'] at h1
      exact fin (by unfold eZ;rw [h1,Bool.and_false])
     ·have h1:¬(!Qm (.int (n - 1)) ((fJ cs i).map V.int))=true:=h1
      rw [iM,Bool.not_eq_true',Bool.not_eq_false] at h1
      refine ⟨_,_,_,_,rfl,S5,fun j hj=>?_⟩
      by_cases hji:j=i
      ·rw [hji,en]
       unfold eZ
       rw [h0,h1]
       rfl
      ·exact al j (by (clear hl2 en hi hl;omega))
  ·rintro σ H1 ⟨v2,v3,v4,v5,rfl,S1,al⟩
   have kk:=k H1 (S0.trans S1)
   have e:mI cs W D Hh=true:=by
    unfold mI
    rw [show eZ cs 0 W=true from al 0 (by show 0<3;decide),show eZ cs 1 D=true from al 1 (by show 1<3;decide),show eZ cs 2 Hh=true from al 2 (by show 2<3;decide)]
    rfl
   rw [e] at kk
   exact kk
end
end Br1
namespace L2
open PySem PySem.Spec PyProof.Rows
def aAc (tk tv:TE):TE:=fun σ H Q=>∀ p,H p=none->tk σ (upd H p (.dT [])) fun x H1=>tv σ H1 fun y H2=>H2 p=some (.dT [])/\∃ (b:Addr) (ks:List dR),x=.ref b/\H2 b=some (.tup (ks.map kV))/\Q (.ref p) (upd H2 p (.dT [(ks,y)]))
theorem aAz {X:Cx} {pins:List (Addr×Obj)} {σ:St} {H:Hp} {s:Shared} {a b:Addr} {v:V} {r:Value} {ks:List dR} {A:Around} {E:Value->Shared->Prop} {Q:Unit->Shared->Prop} (hu:A.units+1<cLine) (I:aO X pins σ H s) (e:H a=some (.dT [])) (eb:H b=some (.tup (ks.map kV))) (rv:bQ v r)
  (h:∀ s',aO X pins σ (upd H a (.dT [(ks,v)])) s'->Q () s'):wpAny (model X.prog X.w) A (dictSet a (.ref b) r) Q E s:=by
 obtain ⟨z,hd,xs,rel,dd⟩:=Wj I.hok e
 have hz:xs.length<=sizeLine:=by rw [<-Paired.length rel];exact z
 refine wpAny_dictSet_heap (hsz:=hz) (Nat.lt_of_succ_lt hu) (pA I.hok eb) dd fun h' dd' hs=>h _ ?_
 obtain ⟨q,es,ep,hq,h2,h3,h4,_,h5⟩:=dd'
 have hl:(jJ ([]:List (List dR×V)) ks v).length<=sizeLine:=by show 1<=sizeLine;decide
 refine Aw I (by rw [e];exact True.intro) hs ⟨q,hq⟩ ⟨hl,hd,_,(rel.put ks eb rv).keeps fun c ys ec=>?_,q,es,ep,hq,h2,h3,h4,h5⟩
 rw [aB (Wg ec e (fun z=>nomatch z))]
 exact ec
theorem Ox {X:Cx} {pos:Pos} {k v:Expr} {tk tv:TE} (hu:X.A.units+1<cLine) (hk:PE X k tk) (hv:PE X v tv):PE X (.Dict [some k] [v] pos) (aAc tk tv):=by
 intro pins s σ H Q I q
 have hn:=I.hok.fresh (Nat.le_refl s.heap.objs.size)
 have I1:=I.laid (a:=s.heap.objs.size) (o:=.dT []) (h':=s.heap.push {cls:=.type "dict",data:=.dict #[]}) (t':=s.toks) (fun _ _ q=>Heap.get?_push_of_some _ q) (Nat.le_refl _) (Cq s.heap I.big)
 rw [arm_eval_Dict,zip_pairTrees [some k] [v] X.env pos rfl rfl,dictDisplay_pairs (pairTrees [some k] [v] X.env pos) (by intro z;cases z) (by show 1<17;decide)]
 refine wpAny_bind (wpAny_standAt (wpAny_bind ?_))
 unfold subDict
 refine wpAny_bind (wpAny_alloc (wpAny_bind (wpAny_holding ?_)))
 rw [if_pos (show (pairTrees [some k] [v] X.env pos).length<=15 by show 1<=15;decide)]
 refine wpAny_bind (pairTrees_cons_walk (cF (hk pins _ σ _ _ I1 (q _ hn)) fun u s1 ⟨x,H1,I2,rx,q1⟩=>cF (hv pins s1 σ H1 _ I2 q1) fun w2 s2 ⟨y,H2,I3,ry,q2⟩=>pairTrees_nil_walk ?_))
 obtain ⟨e,b,ks,rfl,eb,q2⟩:=q2
 cases (show u=Value.ref b from rx)
 refine wpAny_holding ?_
 rw [List.forIn_cons]
 refine wpAny_bind (wpAny_bind (wpAny_bind (aAz hu I3 e eb ry fun s3 I4=>wpAny_pure ?_)))
 show wpAny _ _ (forIn [] _ _) _ _ s3
 rw [List.forIn_nil]
 exact wpAny_pure (wpAny_pure (wpAny_pure (wpAny_pure ⟨.ref s.heap.objs.size,_,I4,rfl,q2⟩)))
end L2
namespace Br1
open PySem PySem.Spec PyProof.Rows L2
def yK (p:Pl):List Pl:=[(p.1 - 1,p.2.1,p.2.2),(p.1+1,p.2.1,p.2.2),(p.1,p.2.1 - 1,p.2.2),(p.1,p.2.1+1,p.2.2),jG p,oQ p]
def So (p:Pl):List V:=[.int p.1,.int p.2.1,.int p.2.2]
def jF (H:Hp) (qs:List Addr) (ps:List Pl):Prop:=Paired (fun q p=>H q=some (.tup (So p))) qs ps
theorem jF.same {H H':Hp} {qs:List Addr} {ps:List Pl} (h:jF H qs ps) (s:aK H H'):jF H' qs ps:=Paired.mapP h fun _ _ e=>s _ _ e
section
variable {P:Program} {w:World} {K:PySem.W.Frag} {mg:Str->Option Value} {base:Heap} {C CR CP:Addr}
def Ap:Sp:=fun vs H Q _=>∃ (g:Addr) (p:Pl),vs=[.ref g]/\H g=some (.tup (So p))/\∀ (H':Hp) (l:Addr) (qs:List Addr),aK H H'->H l=none->H' l=some (.lst (qs.map V.ref))->jF H' qs (yK p)->Q (.ref l) H'
theorem qD:aP ["place","x","y","z"] ["place"] (aH Ae):=⟨rfl,rfl,rfl,by decide+kernel,rfl,by decide+kernel,by decide+kernel⟩
theorem Qg {f:Addr} {fd:FuncData} (F:fD K "neighbours" "neighbours" Ae f fd) (L1:dJ P w K mg base "above" bS 1 ["place"] lK) (L2:dJ P w K mg base "below" bS 1 ["place"] nE):
  bO P w K mg base bS 2 f fd ["place"] Ap:=by
 obtain ⟨g1,gd1,G1,b1,k1,h1⟩:=L1.ex
 obtain ⟨g2,gd2,G2,b2,k2,h2⟩:=L2.ex
 refine F.ok qD (fun vs H Q E h=>?_) (fun cdv A outer s H vs Q E hr h=>?_)
 ·obtain ⟨g,p,rfl,_⟩:=h
  rfl
 ·obtain ⟨g,p,rfl,hg,k⟩:=h
  have hr1:=hr.mono (j:=1) (by decide)
  refine ⟨_,aE (bA (i:=1) qD.nd rfl (Or.inl rfl) (bV bU (pv 0) aJ (fun _ _=>rfl)))
   (aE (bA (i:=2) qD.nd rfl (Or.inl rfl) (bV bU (pv 0) aJ (fun _ _=>rfl)))
   (aE (bA (i:=3) qD.nd rfl (Or.inl rfl) (bV bU (pv 0) aJ (fun _ _=>rfl)))
   (aG (aW (dL (aA (eK (aA (cU eR (pv 1) aJ) (aA (pv 2) (aA (pv 3) aF)))) (aA (eK (aA (cU gQ (pv 1) aJ) (aA (pv 2) (aA (pv 3) aF))))
    (aA (eK (aA (pv 1) (aA (cU eR (pv 2) aJ) (aA (pv 3) aF)))) (aA (eK (aA (pv 1) (aA (cU gQ (pv 2) aJ) (aA (pv 3) aF))))
    (aA (aT G1 hr1 (by rfl) h1 k1 b1 .nil aY (aA (pv 0) aF)) (aA (aT G2 hr1 (by rfl) h2 k2 b2 .nil aY (aA (pv 0) aF)) aF))))))))))),?_⟩
  refine ⟨_,rfl,g,_,_,_,rfl,rfl,cN.of hg,rfl,?_⟩
  refine ⟨_,rfl,g,_,_,_,rfl,rfl,cN.of hg,rfl,?_⟩
  refine ⟨_,rfl,g,_,_,_,rfl,rfl,cN.of hg,rfl,?_⟩
  have sz:∀ a b c:V,[a,b,c].length<=sizeLine:=fun _ _ _=>by show 3<=sizeLine;decide
  refine ⟨_,rfl,_,_,rfl,rfl,_,rfl,_,rfl,sz _ _ _,fun q1 n1=>?_⟩
  refine ⟨_,rfl,_,_,rfl,rfl,_,rfl,_,rfl,sz _ _ _,fun q2 n2=>?_⟩
  refine ⟨_,rfl,_,rfl,_,_,rfl,rfl,_,rfl,sz _ _ _,fun q3 n3=>?_⟩
  refine ⟨_,rfl,_,rfl,_,_,rfl,rfl,_,rfl,sz _ _ _,fun q4 n4=>?_⟩
  have S1:=aK.new (o:=.tup (So (p.1 - 1,p.2.1,p.2.2))) n1
  have S2:=aK.new (o:=.tup (So (p.1+1,p.2.1,p.2.2))) n2
  have S3:=aK.new (o:=.tup (So (p.1,p.2.1 - 1,p.2.2))) n3
  have S4:=aK.new (o:=.tup (So (p.1,p.2.1+1,p.2.2))) n4
  have hg4:=S4 _ _ (S3 _ _ (S2 _ _ (S1 _ _ hg)))
  refine ⟨_,rfl,g,p.1,p.2.1,p.2.2,rfl,hg4,fun q5 n5=>?_⟩
  have S5:=aK.new (o:=.tup (So (jG p))) n5
  refine ⟨_,rfl,g,p.1,p.2.1,p.2.2,rfl,S5 _ _ hg4,fun q6 n6=>?_⟩
  have S6:=aK.new (o:=.tup (So (oQ p))) n6
  refine ⟨by show 6<=sizeLine;decide,fun l nl=>?_⟩
  have S7:=aK.new (o:=.lst [V.ref q1,V.ref q2,V.ref q3,V.ref q4,V.ref q5,V.ref q6]) nl
  have SB:=(((((S1.trans S2).trans S3).trans S4).trans S5).trans S6)
  refine k _ l [q1,q2,q3,q4,q5,q6] (SB.trans S7) (SB.free nl) aC ?_
  ·refine .cons ?_ (.cons ?_ (.cons ?_ (.cons ?_ (.cons ?_ (.cons ?_ .nil)))))
   ·exact (((((S2.trans S3).trans S4).trans S5).trans S6).trans S7) _ _ aC
   ·exact ((((S3.trans S4).trans S5).trans S6).trans S7) _ _ aC
   ·exact (((S4.trans S5).trans S6).trans S7) _ _ aC
   ·exact ((S5.trans S6).trans S7) _ _ aC
   ·exact (S6.trans S7) _ _ aC
   ·exact S7 _ _ aC
def iX:List (List Int)->Bool
 |a::b::r=> !HT.gB b a && iX (b::r)
 |_=>true
def Ug (CP:Addr) (H:Hp) (b:Addr) (nm:List Int):Prop:=∃ dx q W D Hh g c,H b=some (.ins CP dx (Nn q W D Hh g c))/\H q=some (.tup (nm.map V.int))
def Fy (K:PySem.W.Frag) (CP:Addr):Sp:=fun vs H Q _=>∃ (a:Addr) (bs:List Addr) (nms:List (List Int)),vs=[.ref a]/\dB K H a (bs.map V.ref)/\Paired (Ug CP H) bs nms/\1<=nms.length/\nms.length<=64/\Q (.bl (iX nms)) H
theorem Ko:aP ["parts","k"] ["parts"] (aH Iv):=⟨rfl,rfl,rfl,by decide+kernel,rfl,by decide+kernel,by decide+kernel⟩
theorem rB:∀ {l:List (List Int)},iX l=true↔∀ i a b,l[i]?=some a->l[i+1]?=some b->HT.gB b a=false
 |[]=>by simp [iX]
 |[x]=>by simp [iX]
 |x::y::r=>by
  have ih:=rB (l:=y::r)
  rw [iX,Bool.and_eq_true,ih,Bool.not_eq_true']
  constructor
  ·rintro ⟨h1,h2⟩ i a b ea eb
   cases i with
   |zero=>
    cases ea
    cases eb
    exact h1
   |succ i=>exact h2 i a b ea eb
  ·intro h
   exact ⟨h 0 x y rfl rfl,fun i a b ea eb=>h (i+1) a b ea eb⟩
theorem cX {α β:Type} {R:α->β->Prop}:∀ {as:List α} {bs:List β},Paired R as bs->∀ {i:Nat} {b:β},bs[i]?=some b->∃ a,as[i]?=some a/\R a b
 |_,_,.nil,i,b,h=>by simp at h
 |_,_,.cons r t,i,b,h=>by
  cases i with
  |zero=>cases h;exact ⟨_,rfl,r⟩
  |succ i=>exact cX t h
theorem Sz {f:Addr} {fd:FuncData} (F:fD K "names_grow" "names_grow" Iv f fd) (T':Nq K CP) (hrange:mg "range"=none) (hlen:mg "len"=none):bO P w K mg base bS 2 f fd ["parts"] (Fy K CP):=by
 refine F.ok Ko (fun vs H Q E h=>?_) (fun cdv A outer s H vs Q E hr h=>?_)
 ·obtain ⟨a,bs,nms,rfl,_⟩:=h
  rfl
 ·obtain ⟨a,bs,nms,rfl,ha,hp,hn1,hn,k⟩:=h
  have hu:=jW hr
  refine ⟨_,aE (eA PassesOwn.never rfl (Kw rfl hrange (aA aJ (aA (bN bJ (by rfl) hlen PySem.boot_len (aA (pv 0) aF)) aF))) (bH (i:=1) Ko.nd rfl (Or.inl rfl))
    (aG (dS (hJ (Yr (Nat.lt_of_succ_lt hu)) (aR (bV fF (pv 0) (pv 1) (fun _ _=>rfl)) rfl) (aR (bV fF (pv 0) (cU eR (pv 1) aJ) (fun _ _=>rfl)) rfl) (gR _)) (aG (aW mG)) bW)))
   (aG (aW mG)),?_⟩
  have hbl:bs.length=nms.length:=Paired.length hp
  have hsl:=bI
  have at':∀ (i:Nat) (nm:List Int),nms[i]?=some nm->∃ b,Sn (bs.map V.ref) (i:Int)=some (.ref b)/\Ug CP H b nm:=fun i nm e=>by
   obtain ⟨b,e1,e2⟩:=cX hp e
   exact ⟨b,hU (by rw [List.getElem?_map,e1];rfl),e2⟩
  have hml:(bs.map V.ref).length=nms.length:=by rw [List.length_map,hbl]
  refine ⟨_,rfl,a,_,rfl,.inl ha,1,((bs.map V.ref).length:Int),rfl,⟨by decide,by decide,by (clear hml hsl hbl hu hn hn1;omega),by rw [hml];(clear hml hsl hbl hu hn1;omega)⟩,?_⟩
  have et:(((bs.map V.ref).length:Int) - 1).toNat=nms.length - 1:=by rw [hml];(clear hml hsl hbl hu hn hn1;omega)
  rw [et]
  refine sB (fun i σ H'=>∃ v1,σ=[some (.ref a),v1]/\H'=H/\∀ j x y,j<i->nms[j]?=some x->nms[j+1]?=some y->HT.gB y x=false) ⟨none,rfl,rfl,fun j x y hj=>absurd hj (Nat.not_lt_zero _)⟩ ?_ ?_
  ·rintro i σ H1 hi ⟨v1,rfl,rfl,al⟩
   have e0:nms[i]?=some nms[i]:=List.getElem?_eq_getElem (by (clear et hml hsl hbl hu hn hn1;omega))
   have e1:nms[i+1]?=some nms[i+1]:=List.getElem?_eq_getElem (by (clear et hsl hu;omega))
   obtain ⟨c0,g0,dx0,q0,W0,D0,H0,w0,cc0,f0,t0⟩:=at' i _ e0
   obtain ⟨c1,g1,dx1,q1,W1,D1,H1',w1,cc1,f1,t1⟩:=at' (i+1) _ e1
   have z1:(1:Int)+(i:Int)=((i+1:Nat):Int):=by (clear et hsl hu;omega)
   have z2:(1:Int)+(i:Int) - 1=((i:Nat):Int):=by (clear z1 et hsl hu;omega)
   refine ⟨_,rfl,_,rfl,a,_,_,_,rfl,rfl,ha,by rw [z1];exact g1,c1,CP,dx1,_,_,rfl,f1,T'.cl,T'.n1,rfl,?_⟩
   refine ⟨_,rfl,_,rfl,_,_,rfl,rfl,a,_,_,_,rfl,rfl,ha,by rw [z2];exact g0,c0,CP,dx0,_,_,rfl,f0,T'.cl,T'.n1,rfl,?_⟩
   refine ⟨q1,q0,_,_,rfl,rfl,cN.of t1,cN.of t0,_,rfl,bX (fun hle=>?_) (fun hle=>?_)⟩
   ·have e3:iX nms=false:=by
     rw [Bool.eq_false_iff]
     intro z
     have:=rB.mp z i _ _ e0 e1
     rw [hle] at this
     cases this
    rw [e3] at k
    exact k
   ·refine ⟨_,rfl,rfl,fun j x y hj ex ey=>?_⟩
    by_cases hji:j=i
    ·subst hji
     rw [e0] at ex
     rw [e1] at ey
     cases ex
     cases ey
     exact cV hle
    ·exact al j x y (by (clear hle z2 z1 et hsl hu;omega)) ex ey
  ·rintro σ H1 ⟨v1,rfl,rfl,al⟩
   have e3:iX nms=true:=rB.mpr fun i x y ex ey=>by
    have:=(List.getElem?_eq_some_iff.mp ey).1
    exact al i x y (by (clear et hml hsl hbl hu hn hn1;omega)) ex ey
   rw [e3] at k
   exact k
end
def gO (cs:CL) (st:List Pl×List Pl) (p:Pl):List Pl×List Pl:=if (aV cs p).isSome=true/\p∉st.1 then (st.1++[p],st.2++[p]) else st
def dI (cs:CL):Nat->List Pl->List Pl->List Pl
 |0,rs,_=>rs
 |n+1,rs,ws=>match ws.getLast? with
  |none=>rs
  |some q=>dI cs n ((yK q).foldl (gO cs) (rs,ws.dropLast)).1 ((yK q).foldl (gO cs) (rs,ws.dropLast)).2
def vJ (cs:CL) (rs:List Pl):Nat:=(cs.filter fun c=> !decide (c.1∈rs)).length
def vC:CL->Bool
 |[]=>false
 |c::r=>decide ((dI (c::r) (c::r).length [c.1] [c.1]).length=(c::r).length)
theorem mE (c:Pl×Int) (r:CL) (rs:List Pl):vJ (c::r) rs=(if c.1∈rs then 0 else 1)+vJ r rs:=by
 unfold vJ
 by_cases h:c.1∈rs
 ·rw [List.filter_cons_of_neg (by simp [h]),if_pos h,Nat.zero_add]
 ·rw [List.filter_cons_of_pos (by simp [h]),if_neg h,List.length_cons,Nat.add_comm]
theorem Sd (p:Pl) (rs:List Pl):∀ cs:CL,vJ cs (rs++[p])<=vJ cs rs
 |[]=>Nat.le_refl _
 |c::r=>by
  have ih:=Sd p rs r
  rw [mE,mE]
  by_cases h:c.1∈rs
  ·rw [if_pos h,if_pos (List.mem_append_left _ h)];omega
  ·rw [if_neg h]
   split<;>omega
theorem dG {cs:CL} {p:Pl}:(aV cs p).isSome=true↔∃ c∈cs,c.1=p:=by
 unfold aV
 rw [Option.isSome_map,List.find?_isSome]
 simp
theorem mO {p:Pl} {rs:List Pl} (hp:p∉rs):∀ {cs:CL},(aV cs p).isSome=true->vJ cs (rs++[p])+1<=vJ cs rs
 |[],h=>by cases h
 |c::r,h=>by
  have hle:=Sd p rs r
  rw [mE,mE]
  by_cases hc:c.1=p
  ·rw [if_pos (by simp [hc]),if_neg (by rw [hc];exact hp)];(clear hp;omega)
  ·have h2:(aV r p).isSome=true:=by
    rw [dG] at h ⊢
    obtain ⟨x,hx,e⟩:=h
    rcases List.mem_cons.mp hx with rfl|hx
    ·exact absurd e hc
    ·exact ⟨x,hx,e⟩
   have ih:=mO hp h2
   by_cases h3:c.1∈rs
   ·rw [if_pos h3,if_pos (List.mem_append_left _ h3)];(clear hc hle hp;omega)
   ·rw [if_neg h3,if_neg (by simp [h3,hc])];(clear h3 hc hle hp;omega)
def Ni (rs:List Pl):List (List dR×V):=rs.map fun p=>(eG p.1 p.2.1 p.2.2,V.bl true)
theorem pY (p:Pl):∀ rs:List Pl,iT (Ni rs) (eG p.1 p.2.1 p.2.2)=if p∈rs then some (V.bl true) else none
 |[]=>rfl
 |c::r=>by
  have ih:=pY p r
  unfold iT Ni at *
  rw [List.map_cons,List.find?_cons]
  by_cases h:c=p
  ·subst h
   simp
  ·have h2:¬eG c.1 c.2.1 c.2.2=eG p.1 p.2.1 p.2.2:=fun z=>h (vY.mp z)
   simp only [h2,decide_false]
   rw [ih]
   by_cases h3:p∈r
   ·rw [if_pos h3,if_pos (List.mem_cons_of_mem _ h3)]
   ·rw [if_neg h3,if_neg (by simp [h3,Ne.symm h])]
theorem jF.upd {H:Hp} {a:Addr} {o o':HO} {qs:List Addr} {ps:List Pl} (h:jF H qs ps) (ha:H a=some o) (ho:∀ xs,o≠.tup xs):jF (upd H a o') qs ps:=Paired.mapP h fun q p e=>by
 rw [aB (by rintro rfl;rw [ha] at e;cases e;exact ho _ rfl)]
 exact e
theorem sW {α β:Type} {R:α->β->Prop}:∀ {as:List α} {bs:List β},Paired R as bs->Paired R as.dropLast bs.dropLast
 |_,_,.nil=>.nil
 |_,_,.cons r .nil=>.nil
 |_,_,.cons r (.cons r2 t)=>.cons r (sW (.cons r2 t))
structure HS (CP:Addr) (H:Hp) (cs:CL) (d l:Addr) (rs ws:List Pl) (qs:List Addr) (H':Hp):Prop where
 sm:aK H H'
 dd:H' d=some (.dT (Ni rs))
 ll:H' l=some (.lst (qs.map V.ref))
 pl:jF H' qs ws
 c1:rs.length+vJ cs rs<=cs.length
 c2:ws.length<=rs.length
theorem HS.same {CP:Addr} {H H1 H2:Hp} {cs:CL} {d l:Addr} {rs ws:List Pl} {qs:List Addr} (h:HS CP H cs d l rs ws qs H1) (s:aK H1 H2):HS CP H cs d l rs ws qs H2:=⟨h.sm.trans s,s _ _ h.dd,s _ _ h.ll,h.pl.same s,h.c1,h.c2⟩
theorem Rh {rs:List Pl} {p:Pl} (h:p∉rs):jJ (Ni rs) (eG p.1 p.2.1 p.2.2) (V.bl true)=Ni (rs++[p]):=by
 rw [pG (V.bl true) (by rw [pY,if_neg h])]
 unfold Ni
 rw [List.map_append]
 rfl
section
variable {P:Program} {w:World} {K:PySem.W.Frag} {mg:Str->Option Value} {base:Heap} {C CR CP:Addr}
def zS (CP:Addr):Sp:=fun vs H Q _=>∃ (b nm:Addr) (W D Hh g:Int) (cs:CL),vs=[.ref b]/\xN CP H b nm W D Hh g cs/\cs.length<20000/\∀ H',aK H H'->Q (.bl (vC cs)) H'
theorem jQ:aP ["part","start","reached","waiting","reached_last","place"] ["part"] (aH Ac):=⟨rfl,rfl,rfl,by decide+kernel,rfl,by decide+kernel,by decide+kernel⟩
theorem Qp {f:Addr} {fd:FuncData} (F:fD K "hangs_together" "hangs_together" Ac f fd) (T':Nq K CP) (hlen:mg "len"=none) (hlist:mg "list"=none) (L1:dJ P w K mg base "neighbours" bS 2 ["place"] Ap):
  bO P w K mg base bS 3 f fd ["part"] (zS CP):=by
 obtain ⟨g1,gd1,G1,b1,k1,h1⟩:=L1.ex
 refine F.ok jQ (fun vs H Q E h=>?_) (fun cdv A outer s H vs Q E hr h=>?_)
 ·obtain ⟨b,nm,W,D,Hh,g,cs,rfl,_⟩:=h
  rfl
 ·obtain ⟨b,nm,W,D,Hh,g,cs,rfl,⟨dx,c,hb,hc⟩,hl,k⟩:=h
  have hr2:=hr.mono (j:=2) (by decide)
  have hu:=jW hr
  refine ⟨_,aE (dS (hJ qR (bN rV (by rfl) hlen PySem.boot_len (aA (aR (pv 0) rfl) aF)) aJ (gR _)) (aG (aW mG)) bW)
   (aE (bA (i:=1) jQ.nd rfl (Or.inl rfl) (bV fF (rE (Gz rfl) (by rfl) hlist boot_list (aA (aR (pv 0) rfl) aF)) aJ (fun _ _=>rfl)))
   (aE (bA (i:=2) jQ.nd rfl (Or.inl rfl) (Ox hu (pv 1) mG))
   (aE (bA (i:=3) jQ.nd rfl (Or.inl rfl) (dL (aA (pv 1) aF)))
   (aE (iQ PassesOwn.never (dA (qT (bN bJ (by rfl) hlen PySem.boot_len (aA (pv 3) aF)) aJ))
    (aE (bA (i:=4) jQ.nd rfl (Or.inl rfl) (Qh PySem.F.plainAttrs_list PySem.F.slot_list_pop PySem.F.type_list_pop Pn (pv 3)))
    (aG (eA PassesOwn.never rfl (qN (aT G1 hr2 (by rfl) h1 k1 b1 .nil aY (aA (pv 4) aF))) (bH (i:=5) jQ.nd rfl (Or.inl rfl))
     (aG (dS (fY (dA (pC hu (pv 5) (aR (pv 0) rfl))) (gK (dA (Lv hu (pv 5) (pv 2))))).pt
      (aE (lI hu (pv 2) (pv 5) mG rfl) (aG (bZ (mH PySem.F.plainAttrs_list PySem.F.slot_list_append PySem.F.type_list_append eI (pv 3) (aA (pv 5) aF))))) bW))))))
   (aG (aW (kT qR (bN rV (by rfl) hlen PySem.boot_len (aA (pv 2) aF)) (bN rV (by rfl) hlen PySem.boot_len (aA (aR (pv 0) rfl) aF)) (gR _)))))))),?_⟩
  have kl:(aI cs).length=cs.length:=by unfold aI;rw [List.length_map]
  have hsl:=bI
  refine ⟨_,rfl,b,CP,dx,_,_,rfl,hb,T'.cl,T'.n6,rfl,c,_,rfl,.inl hc,rfl,_,rfl,bX (fun h0=>?_) (fun h0=>?_)⟩
  ·rw [gT] at h0
   have h0:=of_decide_eq_true h0
   have e0:cs=[]:=List.length_eq_zero_iff.mp (by (clear hsl hu hl;omega))
   subst e0
   exact k H (aK.id' _)
  ·rw [gT] at h0
   have h0:¬((aI cs).length:Int)=0:=fun z=>h0 (decide_eq_true z)
   cases cs with
   |nil=>exact absurd rfl h0
   |cons c0 cr=>
   refine ⟨_,rfl,b,CP,dx,_,_,rfl,hb,T'.cl,T'.n6,rfl,c,_,rfl,.inl hc,fun lk ps hlk hps=>?_⟩
   obtain ⟨st,psr,rfl,hst⟩:∃ st psr,ps=st::psr/\H st=some (.tup (So c0.1)):=by
    cases hps with
    |cons r t=>exact ⟨_,_,rfl,r⟩
   have S1:=aK.new (o:=.lst ((st::psr).map V.ref)) hlk
   refine ⟨lk,_,0,.ref st,rfl,rfl,dB.of aC,hU (j:=0) rfl,?_⟩
   have hst1:=S1 _ _ hst
   generalize upd H lk (.lst ((st::psr).map V.ref))=H1 at S1 hst1
   intro d hd
   have S2:=aK.new (o:=.dT []) hd
   refine ⟨_,rfl,aC,st,eG c0.1.1 c0.1.2.1 c0.1.2.2,rfl,S2 _ _ hst1,?_⟩
   refine ⟨_,rfl,by show 1<=sizeLine;decide,fun l hl'=>?_⟩
   have dd0:upd (upd H1 d (.dT [])) d (.dT [(eG c0.1.1 c0.1.2.1 c0.1.2.2,V.bl true)])=upd H1 d (.dT (Ni [c0.1])):=by
    funext x
    by_cases hx:x=d
    ·rw [hx,aC,aC];rfl
    ·rw [aB hx,aB hx,aB hx]
   rw [dd0] at hl' ⊢
   have S3:aK H1 (upd H1 d (.dT (Ni [c0.1]))):=aK.new hd
   have S4:=aK.new (o:=.lst [V.ref st]) hl'
   have hdH:H d=none:=S1.free hd
   have hlH:H l=none:=(S1.trans S3).free hl'
   have ndl:d≠l:=fun z=>by rw [<-z,aC] at hl';cases hl'
   have hb':∀ {H':Hp},aK H H'->H' b=some (.ins CP dx (Nn nm W D Hh g c)):=fun s=>s _ _ hb
   have hc':∀ {H':Hp},aK H H'->H' c=some (.dT (aI (c0::cr))):=fun s=>s _ _ hc
   generalize hcs:c0::cr=cs at *
   refine ⟨fun m σ H'=>∃ rs ws qs v4 v5,σ=[some (.ref b),some (.ref st),some (.ref d),some (.ref l),v4,v5]/\HS CP H cs d l rs ws qs H'/\ws.length+vJ cs rs<=m/\dI cs cs.length [c0.1] [c0.1]=dI cs m rs ws,
    ⟨cs.length,[c0.1],[c0.1],[st],none,none,rfl,⟨(S1.trans S3).trans S4,S4 _ _ aC,aC,.cons (S4 _ _ (S3 _ _ hst1)) .nil,?_,Nat.le_refl _⟩,?_,rfl⟩,?_⟩
   ·have u1:vJ cs [c0.1]+1<=cs.length:=by
     have z:=mO (p:=c0.1) (rs:=[]) (cs:=cs) (by simp) (dG.mpr ⟨c0,by rw [<-hcs];exact List.mem_cons_self,rfl⟩)
     have z2:vJ cs []<=cs.length:=List.length_filter_le _ _
     exact Nat.le_trans z z2
    show 1+vJ cs [c0.1]<=cs.length
    (clear h0 kl hl hsl hu;omega)
   ·have u1:vJ cs [c0.1]+1<=cs.length:=by
     have z:=mO (p:=c0.1) (rs:=[]) (cs:=cs) (by simp) (dG.mpr ⟨c0,by rw [<-hcs];exact List.mem_cons_self,rfl⟩)
     have z2:vJ cs []<=cs.length:=List.length_filter_le _ _
     exact Nat.le_trans z z2
    show 1+vJ cs [c0.1]<=cs.length
    (clear h0 kl hl hsl hu;omega)
   ·rintro m σ H2 ⟨rs,ws,qs,v4,v5,rfl,hs,hm,er⟩
    have ql:qs.length=ws.length:=Paired.length hs.pl
    refine ⟨_,rfl,l,_,rfl,.inl (dB.of hs.ll),_,_,rfl,rfl,_,rfl,bX (fun hw=>?_) (fun hw=>?_)⟩
    ·have hw:(0:Int)<((qs.map V.ref).length:Int):=of_decide_eq_true hw
     rw [List.length_map] at hw
     obtain ⟨n,rfl⟩:∃ n,m=n+1:=⟨m - 1,by (clear h0 kl hl hsl hu;omega)⟩
     obtain ⟨q,eq⟩:∃ q,ws[ws.length - 1]?=some q:=⟨_,List.getElem?_eq_getElem (by (clear hm h0 kl hl hsl hu;omega))⟩
     obtain ⟨qa,eqa,hqa⟩:=cX hs.pl eq
     have elast:ws.getLast?=some q:=by rw [List.getLast?_eq_getElem?];exact eq
     have er2:dI cs (n+1) rs ws=dI cs n ((yK q).foldl (gO cs) (rs,ws.dropLast)).1 ((yK q).foldl (gO cs) (rs,ws.dropLast)).2:=by
      rw [dI,elast]
     have hwd:ws.dropLast.length+1=ws.length:=by rw [List.length_dropLast];(clear hm h0 kl hl hsl hu;omega)
     have nq:qa≠l:=fun z=>by rw [z,hs.ll] at hqa;cases hqa
     refine ⟨fun σ' H'=>∃ rs ws qs v4 v5,σ'=[some (.ref b),some (.ref st),some (.ref d),some (.ref l),v4,v5]/\HS CP H cs d l rs ws qs H'/\ws.length+vJ cs rs<=n/\dI cs cs.length [c0.1] [c0.1]=dI cs n rs ws,fun σ' H' z=>⟨n,Nat.lt_succ_self n,z⟩,?_⟩
     refine ⟨_,rfl,.inl ⟨rfl,_,dB.of hs.ll⟩,l,_,.ref qa,rfl,rfl,hs.ll,(by rw [List.length_map,List.getElem?_map,ql,eqa];rfl),?_⟩
     have hs3:HS CP H cs d l rs ws.dropLast qs.dropLast (upd H2 l (.lst (qs.map V.ref).dropLast)):=⟨fun x o e=>by rw [aB (aD e hlH)];exact hs.sm _ _ e,by rw [aB ndl];exact hs.dd,by rw [aC,List.map_dropLast],jF.upd (sW hs.pl) hs.ll (fun xs z=>by cases z),hs.c1,by have:=hs.c2;(clear hm hw ql h0 kl hl hsl hu;omega)⟩
     have hqa3:upd H2 l (.lst (qs.map V.ref).dropLast) qa=some (.tup (So q)):=by rw [aB nq];exact hqa
     generalize upd H2 l (.lst (qs.map V.ref).dropLast)=H3 at hs3 hqa3
     refine ⟨_,rfl,qa,q,rfl,hqa3,fun H4 nl ns S4 hnl hln pns=>?_⟩
     have nd:nl≠d:=fun z=>by rw [z,hs3.dd] at hnl;cases hnl
     have nll:nl≠l:=fun z=>by rw [z,hs3.ll] at hnl;cases hnl
     have hs4:=hs3.same S4
     refine ⟨nl,rfl,⟨_,dB.of hln⟩,?_⟩
     refine Dh (xs:=ns.map V.ref) (fun i σ H'=>∃ rs' ws' qs' v5,σ=[some (.ref b),some (.ref st),some (.ref d),some (.ref l),some (.ref qa),v5]/\HS CP H cs d l rs' ws' qs' H'/\ws'.length+vJ cs rs'<=n/\((yK q).take i).foldl (gO cs) (rs,ws.dropLast)=(rs',ws')/\H' nl=some (.lst (ns.map V.ref))/\jF H' ns (yK q))
      ⟨rs,ws.dropLast,qs.dropLast,v5,rfl,hs4,by (clear hw ql h0 kl hl hsl hu;omega),rfl,hln,pns⟩ (fun i σ H' _ z=>by obtain ⟨_,_,_,_,_,_,_,_,z,_⟩:=z;exact dB.of z) ?_ ?_
     ·rintro i x σ H5 ex ⟨rs',ws',qs',v5,rfl,hs5,hm5,ef,hn5,pn5⟩
      have hi:i<ns.length:=by
       have:=(List.getElem?_eq_some_iff.mp ex).1
       rwa [List.length_map] at this
      have nsl:ns.length=(yK q).length:=Paired.length pn5
      obtain ⟨p,ep⟩:∃ p,(yK q)[i]?=some p:=⟨_,List.getElem?_eq_getElem (by (clear hm5 hwd hm hw ql h0 kl hl hsl hu;omega))⟩
      obtain ⟨pa,epa,hpa⟩:=cX pn5 ep
      rw [List.getElem?_map,epa] at ex
      cases ex
      have ef2:((yK q).take (i+1)).foldl (gO cs) (rs,ws.dropLast)=gO cs (rs',ws') p:=by
       rw [List.take_succ,ep,List.foldl_append,ef]
       rfl
      have stay:¬((aV cs p).isSome=true/\p∉rs')->((yK q).take (i+1)).foldl (gO cs) (rs,ws.dropLast)=(rs',ws'):=fun z=>by
       rw [ef2]
       exact if_neg z
      have hl5:ws'.length<=rs'.length:=hs5.c2
      have hl6:=hs5.c1
      refine ⟨_,rfl,_,rfl,b,CP,dx,_,_,rfl,hb' hs5.sm,T'.cl,T'.n6,rfl,c,_,rfl,wJ (hc' hs5.sm) hpa,_,rfl,bX (fun hin=>?_) (fun hin=>pX ⟨rs',ws',qs',_,rfl,hs5,hm5,stay (fun z=>hin (by rw [Option.isSome_map];exact z.1)),hn5,pn5⟩)⟩
      rw [Option.isSome_map] at hin
      refine ⟨_,rfl,_,rfl,d,_,rfl,mT.t (k:=eG p.1 p.2.1 p.2.2) hs5.dd hpa,_,rfl,bX (fun hno=>?_) (fun hno=>?_)⟩
      ·have hnp:p∉rs':=fun z=>by
        rw [pY,if_pos z] at hno
        cases hno
       have hpu:=mO hnp hin
       refine ⟨_,rfl,_,rfl,d,_,rfl,xG.t (k:=eG p.1 p.2.1 p.2.2) hs5.dd hpa (by unfold Ni;rw [List.length_map];(clear hpu hnp hl5 nsl hi hm5 hwd hm hw ql h0 kl hu;omega)),?_⟩
       rw [Rh hnp]
       have ndl':l≠d:=Ne.symm ndl
       have ql5:qs'.length=ws'.length:=Paired.length hs5.pl
       have ll6:upd H5 d (.dT (Ni (rs'++[p]))) l=some (.lst (qs'.map V.ref)):=by rw [aB ndl'];exact hs5.ll
       refine ⟨_,rfl,.inl ⟨rfl,_,dB.of ll6⟩,_,rfl,l,_,_,rfl,rfl,ll6,by rw [List.length_map];(clear hpu hnp nsl hi hm5 hwd hm hw ql h0 kl hu;omega),?_⟩
       have npd:pa≠d:=fun z=>by rw [z,hs5.dd] at hpa;cases hpa
       have npl:pa≠l:=fun z=>by rw [z,hs5.ll] at hpa;cases hpa
       have pl6:∀ {qq:List Addr} {pp:List Pl},jF H5 qq pp->jF (upd (upd H5 d (.dT (Ni (rs'++[p])))) l (.lst (qs'.map V.ref++[V.ref pa]))) qq pp:=fun z=>jF.upd (jF.upd z hs5.dd (fun xs z=>by cases z)) ll6 (fun xs z=>by cases z)
       refine ⟨rs'++[p],ws'++[p],qs'++[pa],_,rfl,⟨fun x o e=>?_,by rw [aB ndl,aC],by rw [aC,List.map_append];rfl,Paired.snoc (pl6 hs5.pl) (by rw [aB npl,aB npd];exact hpa),?_,?_⟩,?_,?_,by rw [aB nll,aB nd];exact hn5,pl6 pn5⟩
       ·rw [aB (aD e hlH),aB (aD e hdH)]
        exact hs5.sm _ _ e
       ·rw [List.length_append]
        show rs'.length+1+_<=_
        (clear ql5 hnp hl5 nsl hi hm5 hwd hm hw ql h0 kl hl hsl hu;omega)
       ·rw [List.length_append,List.length_append]
        show ws'.length+1<=rs'.length+1
        (clear ql5 hpu hnp hl6 nsl hi hm5 hwd hm hw ql h0 kl hl hsl hu;omega)
       ·rw [List.length_append]
        show ws'.length+1+_<=_
        (clear ql5 hnp hl6 hl5 nsl hi hwd hm hw ql h0 kl hl hsl hu;omega)
       ·rw [ef2]
        exact if_pos ⟨hin,hnp⟩
      ·refine ⟨rs',ws',qs',_,rfl,hs5,hm5,stay (fun z=>hno ?_),hn5,pn5⟩
       rw [pY,if_neg z.2]
       rfl
     ·rintro σ H5 ⟨rs',ws',qs',v5,rfl,hs5,hm5,ef,hn5,pn5⟩
      have nsl:ns.length=(yK q).length:=Paired.length pn5
      rw [List.length_map,nsl,List.take_length] at ef
      refine ⟨rs',ws',qs',_,v5,rfl,hs5,hm5,?_⟩
      rw [er,er2,ef]
    ·have hw:¬(0:Int)<((qs.map V.ref).length:Int):=fun z=>hw (decide_eq_true z)
     rw [List.length_map] at hw
     have e0:ws=[]:=List.length_eq_zero_iff.mp (by (clear hm h0 kl hl hsl hu;omega))
     subst e0
     have er3:dI cs m rs []=rs:=by cases m<;>rfl
     refine ⟨_,rfl,d,_,rfl,.inl hs.dd,_,rfl,b,CP,dx,_,_,rfl,hb' hs.sm,T'.cl,T'.n6,rfl,c,_,rfl,.inl (hc' hs.sm),rfl,?_⟩
     have kk:=k H2 hs.sm
     have e5:vC cs=decide (V.int ((Ni rs).length:Int)=V.int ((aI cs).length:Int)):=by
      rw [gT]
      have e6:vC cs=decide ((dI cs cs.length [c0.1] [c0.1]).length=cs.length):=by rw [<-hcs];rfl
      rw [e6,er,er3,kl]
      unfold Ni
      rw [List.length_map,decide_eq_decide]
      (clear ql hm hw h0 kl hl hsl hu;omega)
     rw [e5] at kk
     exact kk
end
def wA (y z:Nat):Nat->List Int->CL
 |_,[]=>[]
 |x,s::r=>(if s=46 then [] else [(((x:Int),(y:Int),(z:Int)),s)])++wA y z (x+1) r
def oN (d:Nat):Nat->List (List Int)->CL
 |_,[]=>[]
 |j,r::rs=>wA (j % d) (j / d) 0 r++oN d (j+1) rs
theorem Em (y z:Nat):∀ (xs:List Int) (x:Nat),eW y z x xs=aI (wA y z x xs)
 |[],x=>rfl
 |s::r,x=>by
  rw [eW,wA,Em y z r (x+1)]
  unfold aI
  rw [List.map_append]
  split<;>rfl
theorem rP (d:Nat):∀ (rs:List (List Int)) (j:Nat),dP d j rs=aI (oN d j rs)
 |[],j=>rfl
 |r::rs,j=>by
  rw [dP,oN,Em,rP d rs (j+1)]
  unfold aI
  rw [List.map_append]
def sR (pr:aN):CL:=oN pr.d 0 pr.rows
def Ah (cs:CL) (W D Hh:Int):Bool:=mK cs && (mQ cs && (mI cs W D Hh && vC cs))
def gJ (pr:aN):Bool:=Ah (sR pr) pr.w pr.d pr.h
def mJ (prs:List aN):Bool:=prs.all gJ && iX (prs.map (·.name))
theorem dX.pt {CP:Addr} {H:Hp} {b:Addr} {pr:aN} (h:dX CP H b pr):∃ nm,xN CP H b nm pr.w pr.d pr.h pr.g (sR pr):=by
 obtain ⟨dx,nm,c,h1,h2,h3⟩:=h
 exact ⟨nm,dx,c,h1,by rw [h3,rP];rfl⟩
theorem dX.nm {CP:Addr} {H:Hp} {b:Addr} {pr:aN} (h:dX CP H b pr):Ug CP H b pr.name:=by
 obtain ⟨dx,nm,c,h1,h2,h3⟩:=h
 exact ⟨dx,nm,_,_,_,_,c,h1,h2⟩
theorem sJ.len {pr:aN} (h:sJ pr):(sR pr).length<20000:=by
 have e:(sR pr).length=(dP pr.d 0 pr.rows).length:=by
  rw [rP]
  unfold aI sR
  rw [List.length_map]
 have h1:=oV pr.d pr.w pr.rows 0 h.rw
 have h2:pr.rows.length * pr.w<=(16 * 18) * 16:=by
  rw [h.rl]
  exact Nat.mul_le_mul (Nat.mul_le_mul h.d2 h.h2) h.w2
 omega
section
variable {P:Program} {w:World} {K:PySem.W.Frag} {mg:Str->Option Value} {base:Heap} {C CR CP:Addr}
def tX (CP:Addr):Sp:=fun vs H Q _=>∃ (b nm:Addr) (W D Hh g:Int) (cs:CL),vs=[.ref b]/\xN CP H b nm W D Hh g cs/\cs.length<20000/\∀ H',aK H H'->Q (.bl (Ah cs W D Hh)) H'
theorem xN.same {H H':Hp} {b nm:Addr} {W D Hh g:Int} {cs:CL} (h:xN CP H b nm W D Hh g cs) (s:aK H H'):xN CP H' b nm W D Hh g cs:=by
 obtain ⟨dx,c,h1,h2⟩:=h
 exact ⟨dx,c,s _ _ h1,s _ _ h2⟩
theorem Qx:aP ["part"] ["part"] (aH lA):=⟨rfl,rfl,rfl,by decide+kernel,rfl,by decide+kernel,by decide+kernel⟩
theorem Pe {f:Addr} {fd:FuncData} (F:fD K "part_right" "part_right" lA f fd) (L1:dJ P w K mg base "studs_clear" bS 2 ["part"] (Bd CP)) (L2:dJ P w K mg base "tubes_clear" bS 2 ["part"] (Bp CP))
  (L3:dJ P w K mg base "fills_its_box" bS 2 ["part"] (Bo CP)) (L4:dJ P w K mg base "hangs_together" bS 3 ["part"] (zS CP)):bO P w K mg base bS 4 f fd ["part"] (tX CP):=by
 obtain ⟨g1,gd1,G1,b1,k1,h1⟩:=L1.ex
 obtain ⟨g2,gd2,G2,b2,k2,h2⟩:=L2.ex
 obtain ⟨g3,gd3,G3,b3,k3,h3⟩:=L3.ex
 obtain ⟨g4,gd4,G4,b4,k4,h4⟩:=L4.ex
 refine F.ok Qx (fun vs H Q E h=>?_) (fun cdv A outer s H vs Q E hr h=>?_)
 ·obtain ⟨b,nm,W,D,Hh,g,cs,rfl,_⟩:=h
  rfl
 ·obtain ⟨b,nm,W,D,Hh,g,cs,rfl,hp,hl,k⟩:=h
  have hr2:=hr.mono (j:=2) (by decide)
  have hr3:=hr.mono (j:=3) (by decide)
  refine ⟨_,aG (aW (rD (aT G1 hr2 (by rfl) h1 k1 b1 .nil aY (aA (pv 0) aF)) (rD (aT G2 hr2 (by rfl) h2 k2 b2 .nil aY (aA (pv 0) aF))
   (rD (aT G3 hr2 (by rfl) h3 k3 b3 .nil aY (aA (pv 0) aF)) (sD (aT G4 hr3 (by rfl) h4 k4 b4 .nil aY (aA (pv 0) aF))))))),?_⟩
  unfold Ah at k
  refine ⟨_,rfl,b,nm,W,D,Hh,g,cs,rfl,hp,fun H1 S1=>⟨_,rfl,bX (fun e1=>?_) (fun e1=>?_)⟩⟩
  ·rw [e1,Bool.true_and] at k
   refine ⟨_,rfl,b,nm,W,D,Hh,g,cs,rfl,hp.same S1,fun H2 S2=>⟨_,rfl,bX (fun e2=>?_) (fun e2=>?_)⟩⟩
   ·rw [e2,Bool.true_and] at k
    have S2:=S1.trans S2
    refine ⟨_,rfl,b,nm,W,D,Hh,g,cs,rfl,hp.same S2,hl,fun H3 S3=>⟨_,rfl,bX (fun e3=>?_) (fun e3=>?_)⟩⟩
    ·rw [e3,Bool.true_and] at k
     have S3:=S2.trans S3
     exact ⟨_,rfl,b,nm,W,D,Hh,g,cs,rfl,hp.same S3,hl,fun H4 S4=>k H4 (S3.trans S4)⟩
    ·rw [cV e3,Bool.false_and] at k
     exact k H3 (S2.trans S3)
   ·rw [cV e2,Bool.false_and] at k
    exact k H2 (S1.trans S2)
  ·rw [cV e1,Bool.false_and] at k
   exact k H1 S1
def oK (K:PySem.W.Frag) (CP:Addr):Sp:=fun vs H Q _=>∃ (a:Addr) (bs:List Addr) (prs:List aN),vs=[.ref a]/\dB K H a (bs.map V.ref)/\dZ CP H bs prs/\1<=prs.length/\prs.length<=64/\∀ H',aK H H'->Q (.bl (mJ prs)) H'
theorem lY:aP ["parts","part"] ["parts"] (aH kH):=⟨rfl,rfl,rfl,by decide+kernel,rfl,by decide+kernel,by decide+kernel⟩
theorem Cg {f:Addr} {fd:FuncData} (F:fD K "catalogue_right" "catalogue_right" kH f fd) (hall:mg "all"=none) (L1:dJ P w K mg base "part_right" bS 4 ["part"] (tX CP)) (L2:dJ P w K mg base "names_grow" bS 2 ["parts"] (Fy K CP)):
  bO P w K mg base bS 5 f fd ["parts"] (oK K CP):=by
 obtain ⟨g1,gd1,G1,b1,k1,h1⟩:=L1.ex
 obtain ⟨g2,gd2,G2,b2,k2,h2⟩:=L2.ex
 refine F.ok lY (fun vs H Q E h=>?_) (fun cdv A outer s H vs Q E hr h=>?_)
 ·obtain ⟨a,bs,prs,rfl,_⟩:=h
  rfl
 ·obtain ⟨a,bs,prs,rfl,ha,hp,hn1,hn,k⟩:=h
  have hr2:=hr.mono (j:=2) (by decide)
  have hr4:=hr.mono (j:=4) (by decide)
  refine ⟨_,aG (aW (rD (bN (Yg rfl) (by rfl) hall boot_all (aA (Sb (own:=[("part",1)]) (te:=Cm (tX CP) [] E0 (eU (eO 1) hZ)) rfl lY.nd (qN (pv 0)) (jO (N:=["parts","part"]) (sc:=aH kH) (by decide+kernel))
      (fun _ _ _ _ _=>bH (i:=1) lY.nd rfl (Or.inl rfl)) (fun _ _ _ _ _=>pK) (fun _ _ _ _ _=>aT G1 hr4 (by rfl) h1 k1 b1 .nil aY (aA (pv 1) aF))) aF))
    (sD (aT G2 hr2 (by rfl) h2 k2 b2 .nil aY (aA (pv 0) aF))))),?_⟩
  have hbl:bs.length=prs.length:=Paired.length hp
  have hsl:=bI
  refine ⟨_,rfl,a,rfl,⟨_,ha⟩,fun Dl hDl=>?_⟩
  refine zV (xs:=bs.map V.ref) (fun i H'=>aK H H'/\H' Dl=some (.lst (((prs.take i).map gJ).map V.bl))) ⟨aK.new hDl,aC⟩ (fun i H' _ z=>z.1.seq ha) ?_ ?_
  ·rintro i x H1 ex ⟨S1,hD1⟩
   have hi:i<prs.length:=by
    have:=(List.getElem?_eq_some_iff.mp ex).1
    rwa [List.length_map,hbl] at this
   obtain ⟨pr,ep⟩:∃ pr,prs[i]?=some pr:=⟨_,List.getElem?_eq_getElem hi⟩
   obtain ⟨b,eb,pa,po⟩:=cX hp ep
   rw [List.getElem?_map,eb] at ex
   cases ex
   obtain ⟨nm,pt⟩:=pa.pt
   refine ⟨rfl,_,rfl,b,nm,_,_,_,_,_,rfl,pt.same S1,po.len,fun H2 S2=>⟨_,S2 _ _ hD1,?_,?_,?_⟩⟩
   ·rw [List.length_map,List.length_map,List.length_take]
    (clear hi hbl hn1;omega)
   ·intro b' o e
    rw [aB (aD e hDl)]
    exact S2 _ _ (S1 _ _ e)
   ·rw [aC,List.take_succ,ep,List.map_append,List.map_append]
    rfl
  ·rintro H1 ⟨S1,hD1⟩
   rw [List.length_map,hbl,List.take_length] at hD1
   refine ⟨Dl,_,rfl,dB.of hD1,_,rfl,bX (fun e1=>?_) (fun e1=>?_)⟩
   ·refine ⟨_,rfl,a,bs,prs.map (·.name),rfl,S1.seq ha,?_,by rw [List.length_map];exact hn1,by rw [List.length_map];exact hn,?_⟩
    ·have key:∀ {bs:List Addr} {prs:List aN},dZ CP H bs prs->Paired (Ug CP H1) bs (prs.map (·.name)):=by
      intro bs prs z
      unfold dZ at z
      induction z with
      |nil=>exact .nil
      |cons h t ih=>exact .cons (h.1.same S1).nm ih
     exact key hp
    ·have kk:=k H1 S1
     unfold mJ at kk
     rw [List.all_map] at e1
     have e1:prs.all gJ=true:=e1
     rw [e1,Bool.true_and] at kk
     exact kk
   ·have kk:=k H1 S1
    unfold mJ at kk
    rw [List.all_map] at e1
    have e1:¬prs.all gJ=true:=e1
    rw [cV e1,Bool.false_and] at kk
    exact kk
end
end Br1
namespace HT
open PySem PyProof.Rows
section
variable {prog:Program} {w:World} {A:Around} {E:Value->Shared->Prop} {s:Shared}
theorem oC {t sl:Addr} {items:Array Value} {vl vu:Value} {lo hi:Option Int} {Q:Value->Shared->Prop} (ht:IsTup s.heap t items) (hs:s.heap.IsSliceOf sl vl vu .none) (pl:IsPart vl lo) (pu:IsPart vu hi)
  (hw:gU items.size 0 lo=0/\gU items.size items.size hi=items.size) (h:Q (.ref t) s):wpAny (model prog w) A (getItem (.ref t) (.ref sl)) Q E s:=by
 obtain ⟨os,hos,hcs,hds⟩:=id hs
 have hTs:s.TypeIs (.ref sl) "slice":=⟨os,hos,hcs⟩
 unfold getItem
 try with_reducible refine wpAny_holding ?_
 first|refine wpAny_bind (wpAny_pure ?_)|skip
 refine wpAny_bind (wpAny_sequenceKey ht.typeIs (by decide) ?_)
 refine wpAny_bind (wpAny_callSpecial?_slot (name:=Str.ofString "__getitem__") ht.typeIs PyProof.Rows.slot_tuple_getitem
  (wpAny_call_entry PyProof.Rows.slot_tuple_getitem ht.typeIs entry_tuple_getitem ?_ (args_tuple_getitem _ _)))
 show wpAny _ _ (Builtin.Tuple.tupleItemsOf (.ref t)>>=_) _ _ s
 refine wpAny_bind (tupleItemsOf_ ht ?_)
 refine wpAny_bind (wpAny_typeOf hTs ?_)
 rw [if_pos (by decide)]
 refine wpAny_bind (kF hs pl pu ?_)
 have hyes:((((gU items.size 0 lo:Nat):Int)==0 && (1:Int)==1 && (gU items.size items.size hi - gU items.size 0 lo)==items.size)=true):=by
  rw [hw.1,hw.2]
  simp
 show wpAny _ _ (if (((gU items.size 0 lo:Nat):Int)==0 && (1:Int)==1 && (gU items.size items.size hi - gU items.size 0 lo)==items.size)=true then _ else _) _ _ s
 rw [if_pos hyes]
 unfold Builtin.Tuple.tupleIsExact
 refine wpAny_bind (wpAny_bind (wpAny_typeOf ht.typeIs (wpAny_pure ?_)))
 rw [if_pos (by decide)]
 exact wpAny_bind (wpAny_rule (wpAny_pure ⟨_,rfl,wpAny_pure h⟩))
end
end HT
namespace L2
open PySem PySem.Spec PyProof.Rows
section
variable {X:Cx}
def Xr (K:PySem.W.Frag):V->Option Int->Option Int->Hp->VK->Prop:=fun x lo hi H Q=>∃ a xs,x=.ref a/\cN K H a xs/\∀ p H',aK H H'->cN K H' p (zY xs lo hi)->Q (.ref p) H'
theorem Uk:SlR X (Xr X.K):=by
 intro pins s σ H x v vl vu lo hi sl Q I rx hs pl pu h
 obtain ⟨a,xs,rfl,hx,q⟩:=h
 by_cases hw:HT.gU xs.length 0 lo=0/\HT.gU xs.length xs.length hi=xs.length
 ·cases rx
  obtain ⟨its,r,ht,hz⟩:=I.tuple hx
  have hlen:its.toArray.size=xs.length:=by rw [List.size_toArray];exact r.length.symm
  refine ⟨"tuple",_,PyProof.Rows.slot_tuple_getitem.lookup,ht.typeIs,?_⟩
  refine HT.oC ht hs pl pu (by rw [hlen];exact hw) ⟨.ref a,H,I,rfl,q a H (fun _ _ e=>e) ?_⟩
  have e:zY xs lo hi=xs:=by
   unfold zY
   rw [hw.1,hw.2,List.drop_zero,Nat.sub_zero,List.take_length]
  rw [e]
  exact hx
 ·exact Zv pins s σ H _ v vl vu lo hi sl Q I rx hs pl pu ⟨a,xs,rfl,hx,hw,fun p hp=>q p _ (fun b o e=>by rw [aB (aD e hp)];exact e) (cN.of aC)⟩
end
theorem aK.seqT {K:PySem.W.Frag} {H H':Hp} {a:Addr} {xs:List V} (e:aK H H') (h:cN K H a xs):cN K H' a xs:=by
 rcases h with (h|⟨o,h⟩)|h
 ·exact .inl (.inl (e _ _ h))
 ·exact .inl (.inr ⟨o,e _ _ h⟩)
 ·exact .inr h
end L2
namespace Br1
open PySem PySem.Spec PyProof.Rows L2
def iA (nss:List (List Int)) (ns:List Int):Bool:=nss.any fun m=>decide (m.take ns.length=ns)
theorem Nu (m:List Int) (k:Nat):zY (m.map V.int) none (some (k:Int))=(m.take k).map V.int:=by
 unfold zY
 rw [HT.Pp,HT.Tw,Nat.sub_zero,List.drop_zero,List.length_map]
 rw [<-List.map_take]
 congr 1
 by_cases h:k<=m.length
 ·rw [Nat.min_eq_left h]
 ·rw [Nat.min_eq_right (by omega),List.take_length,List.take_of_length_le (by omega)]
section
variable {P:Program} {w:World} {K:PySem.W.Frag} {mg:Str->Option Value} {base:Heap} {C CR CP:Addr}
theorem nZ.same {H H':Hp} {xs:List V} {nss:List (List Int)} (h:nZ K H xs nss) (s:aK H H'):nZ K H' xs nss:=Paired.mapP h fun x ns z=>by
 obtain ⟨p,e,t⟩:=z
 exact ⟨p,e,s.seqT t⟩
def uL (K:PySem.W.Frag):Sp:=fun vs H Q _=>∃ (a q:Addr) (xs:List V) (nss:List (List Int)) (ns:List Int),vs=[.ref a,.ref q]/\dB K H a xs/\nZ K H xs nss/\cN K H q (ns.map V.int)/\nss.length<=64/\∀ H',aK H H'->Q (.bl (iA nss ns)) H'
theorem rM:aP ["names","beginning","name"] ["names","beginning"] (aH qA):=⟨rfl,rfl,rfl,by decide+kernel,rfl,by decide+kernel,by decide+kernel⟩
def aA3 (K:PySem.W.Frag):List V->Hp->VK->Prop:=fun xs H Q=>∃ p ys,xs=[.ref p]/\(dB K H p ys\/cN K H p ys)/\Q (.int ys.length) H
theorem Lk {f:Addr} {fd:FuncData} (F:fD K "some_begins" "some_begins" qA f fd) (hany:mg "any"=none) (hlen:mg "len"=none):bO P w K mg base bS 2 f fd ["names","beginning"] (uL K):=by
 refine F.ok rM (fun vs H Q E h=>?_) (fun cdv A outer s H vs Q E hr h=>?_)
 ·obtain ⟨a,q,xs,nss,ns,rfl,_⟩:=h
  rfl
 ·obtain ⟨a,q,xs,nss,ns,rfl,ha,ht,hq,hn,k⟩:=h
  have hu:=jW hr
  refine ⟨_,aG (aW (bN (Zl rfl) (by rfl) hany boot_any (aA (Sb (own:=[("name",2)]) (te:=Yi (Yy K) (tSl (Xr K) (eO 2) Il (Wh (tCB (aA3 K) (eU (eO 1) hZ)))) (eO 1)) rfl rM.nd (qN (pv 0)) (jO (N:=["names","beginning","name"]) (sc:=aH qA) (by decide+kernel))
      (fun _ _ _ _ _=>bH (i:=2) rM.nd rfl (Or.inl rfl)) (fun _ _ _ _ _=>pK)
      (fun _ _ _ _ _=>kT (r:=Yy K) (Ym (Nat.lt_of_succ_lt hu)) (Qc (r:=Xr K) Uk (pv 2) Um (Tb (bN (r:=aA3 K) bJ (by rfl) hlen PySem.boot_len (aA (pv 1) aF)))) (pv 1) (gR _))) aF))),?_⟩
  have hxl:xs.length=nss.length:=Paired.length ht
  have hsl:=bI
  refine ⟨_,rfl,a,rfl,⟨_,ha⟩,fun Dl hDl=>?_⟩
  refine zV (xs:=xs) (fun i H'=>aK H H'/\H' Dl=some (.lst (((nss.take i).map fun m=>decide (m.take ns.length=ns)).map V.bl))) ⟨aK.new hDl,aC⟩ (fun i H' _ z=>z.1.seq ha) ?_ ?_
  ·rintro i x H1 ex ⟨S1,hD1⟩
   have hi:i<nss.length:=by
    have:=(List.getElem?_eq_some_iff.mp ex).1
    (clear hsl hu hn;omega)
   obtain ⟨m,em⟩:∃ m,nss[i]?=some m:=⟨_,List.getElem?_eq_getElem hi⟩
   obtain ⟨x',ex',p,rfl,hp⟩:=cX ht em
   rw [ex'] at ex
   cases ex
   have hl:((ns.map V.int).length:Int)=(ns.length:Int):=by rw [List.length_map]
   refine ⟨rfl,_,rfl,_,rfl,q,_,rfl,.inr (S1.seqT hq),_,rfl,p,_,rfl,S1.seqT hp,fun p2 H2 S2 hp2=>?_⟩
   rw [hl,Nu] at hp2
   refine ⟨_,rfl,p2,q,_,_,rfl,rfl,hp2,S2.seqT (S1.seqT hq),_,S2 _ _ hD1,?_,?_,?_⟩
   ·rw [List.length_map,List.length_map,List.length_take]
    (clear hl hi hxl hu;omega)
   ·intro b' o e
    rw [aB (aD e hDl)]
    exact S2 _ _ (S1 _ _ e)
   ·rw [aC,List.take_succ,em,List.map_append,List.map_append]
    rfl
  ·rintro H1 ⟨S1,hD1⟩
   rw [hxl,List.take_length] at hD1
   refine ⟨Dl,_,rfl,dB.of hD1,?_⟩
   have kk:=k H1 S1
   unfold iA at kk
   rw [List.any_map]
   exact kk
end
def cH (nss:List (List Int)) (l:List Int):Nat->Nat->List Int->List Int×Nat
 |0,p,acc=>(acc,p)
 |n+1,p,acc=>if iA nss (acc++[aQ l p])=true then cH nss l n (p+1) (acc++[aQ l p]) else (acc,p)
def pI (nss:List (List Int)) (ns:List Int):Nat:=nss.findIdx fun m=>decide (m=ns)
def sI (nss:List (List Int)) (l:List Int) (p:Nat):Except Nat (Nat×Nat):=if (cH nss l 8 p []).1∈nss then .ok (pI nss (cH nss l 8 p []).1,(cH nss l 8 p []).2) else .error (cH nss l 8 p []).2
def Wm (nss:List (List Int)):Prop:=nss.length<=64/\∀ m∈nss,m.length<=8/\(256:Int)∉m
theorem Hn {nss:List (List Int)} {acc:List Int} {h:Int} (ok:Wm nss) (e:iA nss (acc++[h])=true):acc.length<8/\h≠256:=by
 unfold iA at e
 obtain ⟨m,hm,z⟩:=List.any_eq_true.mp e
 have z:=of_decide_eq_true z
 obtain ⟨g1,g2⟩:=ok.2 m hm
 have hl:=congrArg List.length z
 rw [List.length_take,List.length_append] at hl
 refine ⟨?_,fun q=>g2 ?_⟩
 ·have:([h]:List Int).length=1:=rfl
  (clear g2;omega)
 ·have:h∈m.take (acc++[h]).length:=by rw [z];simp
  rw [<-q]
  exact List.mem_of_mem_take this
theorem Tf {nss:List (List Int)} {ns:List Int} (h:ns∈nss):nss[pI nss ns]?=some ns:=by
 have hl:pI nss ns<nss.length:=List.findIdx_lt_length_of_exists ⟨ns,h,decide_eq_true rfl⟩
 rw [List.getElem?_eq_getElem hl]
 have:=List.findIdx_getElem (p:=fun m=>decide (m=ns)) (xs:=nss) (w:=hl)
 exact congrArg some (of_decide_eq_true this)
theorem Uq {nss:List (List Int)} {ns ms:List Int} {m:Nat} (hm:m<pI nss ns) (e:nss[m]?=some ms):ms≠ns:=by
 have h:=List.not_of_lt_findIdx (p:=fun m=>decide (m=ns)) (xs:=nss) hm
 obtain ⟨hl,e⟩:=List.getElem?_eq_some_iff.mp e
 intro z
 rw [e,z] at h
 simp at h
section
variable {P:Program} {w:World} {K:PySem.W.Frag} {mg:Str->Option Value} {base:Heap} {C CR CP:Addr}
theorem nZ.sx {r:Addr} {H H':Hp} {C' dx:Addr} {fs:List (Str×V)} {xs:List V} {nss:List (List Int)} (h:nZ K H xs nss) (s:SX r H H') (hr:H r=some (.ins C' dx fs)):nZ K H' xs nss:=Paired.mapP h fun x ns z=>by
 obtain ⟨p,e,t⟩:=z
 exact ⟨p,e,s.seqT hr t⟩
structure Wo (K:PySem.W.Frag) (H:Hp) (na:Addr) (nss:List (List Int)):Prop where
 ex:∃ xs,dB K H na xs/\nZ K H xs nss
 ok:Wm nss
theorem Wo.sx {r:Addr} {H H':Hp} {a:Addr} {p:Nat} {na:Addr} {nss:List (List Int)} (h:Wo K H na nss) (s:SX r H H') (hr:iB CR H r a p):Wo K H' na nss:=by
 obtain ⟨⟨xs,h1,h2⟩,h3⟩:=h
 obtain ⟨dx,g⟩:=hr
 exact ⟨⟨xs,s.seq g h1,nZ.sx h2 s g⟩,h3⟩
def uX (K:PySem.W.Frag) (CR:Addr):Sp:=fun vs H Q E=>∃ (r a na:Addr) (l:List Int) (p:Nat) (nss:List (List Int)),vs=[.ref r,.ref na]/\jM K CR H r a l p/\Wo K H na nss/\
 match sI nss l p with
 |.ok q=>∀ H':Hp,jM K CR H' r a l q.2->SX r H H'->Q (.int q.1) H'
 |.error i=>∀ H':Hp,SX r H H'->E (.int i 0) none H'
theorem rN:aP ["reader","names","beginning"] ["reader","names"] (aH uA):=⟨rfl,rfl,rfl,by decide+kernel,rfl,by decide+kernel,by decide+kernel⟩
theorem Nb {f:Addr} {fd:FuncData} (F:fD K "read_part_number" "read_part_number" uA f fd) (T:Fq K CR) (S:Zg P w K mg base C) (M1:nI P w K mg base CR "here" bS 2 ["self"] (oR K CR)) (M2:nI P w K mg base CR "take" bS 3 ["self"] (pB K CR))
  (L1:dJ P w K mg base "some_begins" bS 2 ["names","beginning"] (uL K)):bO P w K mg base (iS C P w) 5 f fd ["reader","names"] (uX K CR):=by
 obtain ⟨f1,fd1,m1,G1,b1⟩:=M1.ex
 obtain ⟨f2,fd2,m2,G2,b2⟩:=M2.ex
 obtain ⟨gb,gbd,GB,bB,kB,hB⟩:=L1.ex
 obtain ⟨fx,fdx,XT,GX,bx⟩:=S.ex
 refine F.okX rN (fun vs H Q E h=>?_) (fun cdv A outer s H vs Q E hr h=>?_)
 ·obtain ⟨r,a,na,l,p,nss,rfl,_⟩:=h
  rfl
 ·obtain ⟨r,a,na,l,p,nss,rfl,x,hn,k⟩:=h
  have hr3:=hr.mono (j:=3) (by decide)
  have hr2:=hr.mono (j:=2) (by decide)
  have hu:=jW hr
  refine ⟨_,aE (bA (i:=2) rN.nd rfl (Or.inl rfl) (eK aF))
   (aE (iQ aM.own (dW (aT GB hr2 (by rfl) hB kB bB .nil aY (aA (pv 1) (aA (cU Jb (pv 2) (eK (aA (cA (pv 0) T.cl m1 G1 hr2 b1 .nil aY) aF))) aF))))
    (aG (bA (i:=2) rN.nd rfl (Or.inl rfl) (cU Jb (pv 2) (eK (aA (cA (pv 0) T.cl m2 G2 hr3 b2 .nil aY) aF))))))
   (aE (dS (hJ (Lw hu) (pv 2) (pv 1) (by with_unfolding_all rfl)) (aG (mB aM rfl XT GX hr2 (by rfl) S.mg bx (aR (pv 0) rfl))) bW)
   (aG (aW (mH PySem.F.plainAttrs_list PySem.F.slot_list_index PySem.F.type_list_index (Lu hu) (pv 1) (aA (pv 2) aF)))))),?_⟩
  obtain ⟨⟨dx,h1⟩,tx,le⟩:=id x
  refine ⟨Nat.zero_le _,fun q0 hq0=>?_⟩
  have S0:=aK.new (o:=.tup []) hq0
  have hsl:=bI
  refine ⟨fun m σ H'=>∃ (acc:List Int) (q:Addr) (p':Nat),σ=[some (.ref r),some (.ref na),some (.ref q)]/\SX r H H'/\iB CR H' r a p'/\p'<=l.length/\cN K H' q (acc.map V.int)/\acc.length+m=8/\cH nss l 8 p []=cH nss l m p' acc,
   ⟨8,[],q0,p,rfl,aK.sx S0,⟨dx,S0 _ _ h1⟩,le,cN.of aC,rfl,rfl⟩,?_⟩
  rintro m σ H1 ⟨acc,q,p',rfl,s1,hr1,le1,hq,hm,e1⟩
  have x1:=x.same s1 hr1 le1
  have hn1:=hn.sx s1 x.rd
  obtain ⟨dx1,g1⟩:=id hr1
  obtain ⟨⟨xs,ha,ht⟩,ok⟩:=id hn1
  refine ⟨_,rfl,_,rfl,_,rfl,r,dx1,_,rfl,g1,rfl,r,a,l,p',rfl,x1,by show 1<=sizeLine;decide,fun q1 hq1=>?_⟩
  have S2:=aK.new (o:=.tup [.int (aQ l p')]) hq1
  refine ⟨q,q1,acc.map V.int,[.int (aQ l p')],rfl,rfl,S2.seqT hq,cN.of aC,(by simp),by rw [List.length_map];show acc.length+1<=_;(clear le1 le hu;omega),fun q2 H2 S3 hq2=>?_⟩
  have S4:aK H1 H2:=S2.trans S3
  have hq2:cN K H2 q2 ((acc++[aQ l p']).map V.int):=by rw [List.map_append];exact hq2
  refine ⟨na,q2,xs,nss,_,rfl,S4.seq ha,nZ.same ht S4,hq2,ok.1,fun H3 S5=>?_⟩
  have S6:aK H1 H3:=S4.trans S5
  have s3:SX r H H3:=s1.trans (aK.sx S6)
  have hr3:iB CR H3 r a p':=⟨dx1,S6 _ _ g1⟩
  refine ⟨_,rfl,bX (fun hb=>?_) (fun hb=>?_)⟩
  ·obtain ⟨hlt,h256⟩:=Hn ok hb
   have lt:=fV h256
   obtain ⟨n,rfl⟩:∃ n,m=n+1:=⟨m - 1,by (clear lt h256 le1 hsl le hu;omega)⟩
   refine ⟨fun σ' H'=>∃ (acc:List Int) (q:Addr) (p':Nat),σ'=[some (.ref r),some (.ref na),some (.ref q)]/\SX r H H'/\iB CR H' r a p'/\p'<=l.length/\cN K H' q (acc.map V.int)/\acc.length+n=8/\cH nss l 8 p []=cH nss l n p' acc,fun σ' H' z=>⟨n,Nat.lt_succ_self n,z⟩,?_⟩
   refine ⟨_,rfl,_,rfl,r,dx1,_,rfl,S6 _ _ g1,rfl,r,a,l,p',rfl,x.same s3 hr3 le1,fun H4 hr4 s4=>⟨by show 1<=sizeLine;decide,fun q5 hq5=>?_⟩⟩
   have S7:=aK.new (o:=.tup [.int (aQ l p')]) hq5
   have hq4:=s4.seqT (S6 _ _ g1) (S6.seqT hq)
   refine ⟨q,q5,acc.map V.int,[.int (aQ l p')],rfl,rfl,S7.seqT hq4,cN.of aC,(by simp),by rw [List.length_map];show acc.length+1<=_;(clear hm lt h256 le1 le hu;omega),fun q6 H5 S8 hq6=>?_⟩
   have S9:=S7.trans S8
   obtain ⟨dx4,g4⟩:=hr4
   refine ⟨acc++[aQ l p'],q6,p'+1,rfl,(s3.trans s4).trans (aK.sx S9),⟨dx4,S9 _ _ g4⟩,lt,by rw [List.map_append];exact hq6,by rw [List.length_append];show acc.length+1+n=8;(clear lt h256 hlt le1 hsl le hu;omega),?_⟩
   rw [e1]
   show (if _ then _ else _)=_
   rw [if_pos hb]
  ·have e2:cH nss l 8 p []=(acc,p'):=by
    rw [e1]
    cases m with
    |zero=>rfl
    |succ n=>
     show (if _ then _ else _)=_
     rw [if_neg hb]
   have hn3:=hn1.sx (aK.sx S6) hr1
   obtain ⟨⟨xs3,ha3,ht3⟩,_⟩:=id hn3
   unfold sI at k
   rw [e2] at k
   refine ⟨_,rfl,_,rfl,q,na,acc,xs3,nss,rfl,rfl,S6.seqT hq,ha3,ht3,_,rfl,bX (fun hno=>?_) (fun hno=>?_)⟩
   ·have hno:¬acc∈nss:=by
     have hno:(!decide (acc∈nss))=true:=hno
     rw [Bool.not_eq_true',decide_eq_false_iff_not] at hno
     exact hno
    rw [if_neg hno] at k
    exact ⟨_,rfl,r,CR,dx1,_,_,rfl,S6 _ _ g1,T.cl,T.nP,gI _ _,_,rfl,k H3 s3⟩
   ·have hno:acc∈nss:=by
     have hno:¬(!decide (acc∈nss))=true:=hno
     rw [Bool.not_eq_true',decide_eq_false_iff_not,Classical.not_not] at hno
     exact hno
    rw [if_pos hno] at k
    refine ⟨_,rfl,.inl ⟨rfl,_,ha3⟩,_,rfl,na,q,xs3,nss,acc,pI nss acc,rfl,rfl,ha3,ht3,S6.seqT hq,Tf hno,fun m ms hm em=>Uq hm em,?_⟩
    exact k H3 (x.same s3 hr3 le1) s3
end
def cO (l:List Int):List Nat->Nat->Except Nat (List Nat×Nat)
 |[],p=>.ok ([],p)
 |m::ms,p=>eD (aU l p [32]) fun p1=>eD (iU l p1 0 m) fun v=>fZ v.1 (cO l ms v.2)
def fB:List Nat:=[255,63,63,95,3]
def eL (nss:List (List Int)) (l:List Int) (p:Nat):Except Nat (List Nat×Nat):=
 eD (aU l p [112,117,116,32]) fun p1=>eD (sI nss l p1) fun q=>eD (cO l fB q.2) fun r=>eD (aU l r.2 [10]) fun p5=>.ok (q.1::r.1,p5)
theorem Pi:("put ":Str).cps.toList=[112,117,116,32]:=by decide+kernel
theorem wQ {l:List Int}:∀ {ms:List Nat} {p:Nat} {r:List Nat×Nat},cO l ms p=.ok r->r.1.length=ms.length
 |[],p,r,h=>by cases h;rfl
 |m::ms,p,r,h=>by
  rw [cO] at h
  cases e1:aU l p [32] with
  |error i=>rw [e1] at h;cases h
  |ok p1=>
   rw [e1,bY] at h
   cases e2:iU l p1 0 m with
   |error i=>rw [e2] at h;cases h
   |ok v=>
    rw [e2,bY] at h
    cases e3:cO l ms v.2 with
    |error i=>rw [e3] at h;cases h
    |ok q=>
     rw [e3] at h
     cases h
     show (_::q.1).length=ms.length+1
     rw [List.length_cons,wQ e3]
def zZ (n:Nat):V:=.int n
section
variable {P:Program} {w:World} {K:PySem.W.Frag} {mg:Str->Option Value} {base:Heap} {C CR CP:Addr}
def Hd (K:PySem.W.Frag) (CR:Addr):Sp:=fun vs H Q E=>∃ (r a na:Addr) (l:List Int) (p:Nat) (nss:List (List Int)),vs=[.ref r,.ref na]/\jM K CR H r a l p/\Wo K H na nss/\
 match eL nss l p with
 |.ok q=>∀ (H':Hp) (t:Addr),jM K CR H' r a l q.2->SX r H H'->H t=none->H' t=some (.tup (q.1.map zZ))->q.1.length=6->Q (.ref t) H'
 |.error i=>∀ H':Hp,SX r H H'->E (.int i 0) none H'
theorem Ag:aP ["reader","names","numbers","most"] ["reader","names"] (aH nJ):=⟨rfl,rfl,rfl,by decide+kernel,rfl,by decide+kernel,by decide+kernel⟩
theorem Ue {f:Addr} {fd:FuncData} (F:fD K "read_line" "read_line" nJ f fd) (T:Fq K CR) (htup:mg "tuple"=none) (c1:CI mg "MOST_COLOUR" 255) (c2:CI mg "ROOM_WIDTH" 64) (c3:CI mg "ROOM_DEPTH" 64) (c4:CI mg "ROOM_HEIGHT" 96) (c5:CI mg "MOST_TURNS" 3)
  (M1:nI P w K mg base CR "read_word" (iS C P w) 5 ["self","word"] (kO K CR)) (M3:nI P w K mg base CR "read_number" (iS C P w) 4 ["self","least","most"] (jU K CR))
  (L1:dJ P w K mg base "read_part_number" (iS C P w) 5 ["reader","names"] (uX K CR)):bO P w K mg base (iS C P w) 6 f fd ["reader","names"] (Hd K CR):=by
 obtain ⟨f1,fd1,m1,G1,b1⟩:=M1.ex
 obtain ⟨f3,fd3,m3,G3,b3⟩:=M3.ex
 obtain ⟨gp,gpd,GP,bP,kP,hP⟩:=L1.ex
 refine F.okX Ag (fun vs H Q E h=>?_) (fun cdv A outer s H vs Q E hr h=>?_)
 ·obtain ⟨r,a,na,l,p,nss,rfl,_⟩:=h
  rfl
 ·obtain ⟨r,a,na,l,p,nss,rfl,x,hn,k⟩:=h
  have hr4:=hr.mono (j:=4) (by decide)
  refine ⟨_,aE (bZ (cR (pv 0) T.cl m1 G1 hr b1 .nil aM.pass (aA gE aF)))
   (aE (bA (i:=2) Ag.nd rfl (Or.inl rfl) (dL (aA (aT GP hr (by rfl) hP kP bP .nil aM.pass (aA (pv 0) (aA (pv 1) aF))) aF)))
   (aE (eA aM.own rfl (Zj (eK (aA (eP c1) (aA (cU eR (eP c2) aJ) (aA (cU eR (eP c3) aJ) (aA (cU eR (eP c4) aJ) (aA (eP c5) aF))))))) (bH (i:=3) Ag.nd rfl (Or.inl rfl))
    (aE (bZ (cR (pv 0) T.cl m1 G1 hr b1 .nil aM.pass (aA gE aF)))
    (aG (bZ (mH PySem.F.plainAttrs_list PySem.F.slot_list_append PySem.F.type_list_append eI (pv 2) (aA (cR (pv 0) T.cl m3 G3 hr4 b3 .nil aM.pass (aA aJ (aA (pv 3) aF))) aF))))))
   (aE (bZ (cR (pv 0) T.cl m1 G1 hr b1 .nil aM.pass (aA gE aF)))
   (aG (aW (rE oE (by rfl) htup boot_tuple (aA (pv 2) aF))))))),?_⟩
  unfold eL at k
  have hsl:=bI
  refine eQ (gZ rfl Pi (by decide) x (fun i e1 H' s1=>by rw [e1] at k;exact k H' s1) fun p1 e1 H1 x1 s1=>?_)
  rw [e1,bY] at k
  refine ⟨_,rfl,_,rfl,r,a,na,l,p1,nss,rfl,x1,hn.sx s1 x.rd,?_⟩
  cases e2:sI nss l p1 with
  |error i=>
   intro H' s'
   rw [e2] at k
   exact k H' (s1.trans s')
  |ok q=>
   intro H2 x2 s2
   rw [e2,bY] at k
   refine ⟨by show 1<=sizeLine;decide,fun nb hnb=>?_⟩
   have S3:=aK.new (o:=.lst [V.int q.1]) hnb
   have s3:SX r H (upd H2 nb (.lst [V.int q.1])):=(s1.trans s2).trans (aK.sx S3)
   obtain ⟨dx2,g2⟩:=x2.rd
   have nbr:nb≠r:=fun z=>by rw [z,g2] at hnb;cases hnb
   have hnbH:H nb=none:=by
    cases z:H nb with
    |none=>rfl
    |some o=>
     have:=(s1.trans s2) nb o z nbr
     rw [hnb] at this
     cases this
   have rd3:iB CR (upd H2 nb (.lst [V.int q.1])) r a q.2:=⟨dx2,S3 _ _ g2⟩
   have nb3:upd H2 nb (.lst [V.int q.1]) nb=some (.lst ((q.1::[]).map zZ)):=aC
   generalize upd H2 nb (.lst [V.int q.1])=H3 at S3 s3 rd3 nb3
   refine ⟨_,_,rfl,rfl,_,_,rfl,rfl,_,_,rfl,rfl,by show 5<=sizeLine;decide,fun tb htb=>?_⟩
   have S4:=aK.new (o:=.tup (fB.map zZ)) htb
   have tb4:upd H3 tb (.tup (fB.map zZ)) tb=some (.tup (fB.map zZ)):=aC
   refine ⟨tb,rfl,⟨_,cN.of tb4⟩,?_⟩
   have s4:SX r H (upd H3 tb (.tup (fB.map zZ))):=s3.trans (aK.sx S4)
   have rd4:iB CR (upd H3 tb (.tup (fB.map zZ))) r a q.2:=let ⟨dx,g⟩:=rd3;⟨dx,S4 _ _ g⟩
   have nb4:=S4 _ _ nb3
   have htb':H3 tb=none:=htb
   have kE:∀ i,cO l fB q.2=.error i->∀ H',SX r H H'->E (.int i 0) none H':=fun i e H' s'=>by
    rw [e] at k
    exact k H' s'
   refine Us (xs:=fB.map zZ) (fun i σ H'=>∃ (vs:List Nat) (p':Nat) (v3:Option V),σ=[some (.ref r),some (.ref na),some (.ref nb),v3]/\vs.length=i/\SX r H H'/\iB CR H' r a p'/\p'<=l.length/\H' nb=some (.lst ((q.1::vs).map zZ))/\
     H' tb=some (.tup (fB.map zZ))/\cO l fB q.2=fQ vs (cO l (fB.drop i) p')) ⟨[],q.2,none,rfl,rfl,s4,rd4,x2.le,nb4,tb4,by rw [jZ];rfl⟩ ?_ ?_ ?_
   ·rintro i σ H5 _ ⟨vs,p',v3,_,_,_,_,_,_,h,_⟩
    exact cN.of h
   ·rintro i v σ H5 ev ⟨vs,p',v3,rfl,hvl,s5,rd5,le5,nb5,tb5,e5⟩
    rw [List.getElem?_map] at ev
    obtain ⟨m,em,rfl⟩:=Option.map_eq_some_iff.mp ev
    have hi:i<5:=(List.getElem?_eq_some_iff.mp em).1
    have hm:m<=255:=by
     have:=List.mem_of_getElem? em
     revert this
     unfold fB
     simp
     (clear hi le5 hvl hsl;omega)
    have ed:fB.drop i=m::fB.drop (i+1):=by
     have hl:i<fB.length:=hi
     have:=List.drop_eq_getElem_cons hl
     rw [this]
     have e2:=(List.getElem?_eq_some_iff.mp em).2
     rw [e2]
    rw [ed] at e5
    have x5:=x.same s5 rd5 le5
    have e6:cO l (m::fB.drop (i+1)) p'=eD (aU l p' [32]) fun p1=>eD (iU l p1 0 m) fun v=>fZ v.1 (cO l (fB.drop (i+1)) v.2):=rfl
    rw [e6] at e5
    refine eQ (gZ rfl iK b32 x5 (fun j ej H' s'=>kE j (by rw [e5,ej];rfl) H' (s5.trans s')) fun p6 ew H6 x6 s6=>?_)
    rw [ew,bY] at e5
    have nb6:H6 nb=some (.lst ((q.1::vs).map zZ)):=s6 _ _ nb5 nbr
    obtain ⟨dx6,g6⟩:=x6.rd
    refine ⟨_,rfl,.inl ⟨rfl,_,dB.of nb6⟩,_,rfl,r,dx6,_,rfl,g6,rfl,_,rfl,?_⟩
    dsimp only [hZ,List.cons_append,List.nil_append]
    refine Fb (hi:=m) x6 (by decide) (by (clear hi le5 hvl hsl;omega)) (fun v en hv1 _ H7 x7 s7=>?_) (fun en=>?_)
    ·rw [en,bY,iR] at e5
     have s67:=(s5.trans s6).trans s7
     have nb7:H7 nb=some (.lst ((q.1::vs).map zZ)):=s7 _ _ nb6 nbr
     refine ⟨nb,_,_,rfl,rfl,nb7,by rw [List.length_map,List.length_cons];(clear hv1 hm le5;omega),?_⟩
     obtain ⟨dx7,g7⟩:=x7.rd
     have ntb:tb≠nb:=fun z=>by rw [z,nb3] at htb';cases htb'
     have ntr:tb≠r:=fun z=>by obtain ⟨_,g⟩:=rd3;rw [z,g] at htb';cases htb'
     refine ⟨vs++[v.1],v.2,_,rfl,by simp [hvl],fun b o e hb=>?_,⟨dx7,by rw [aB (Ne.symm nbr)];exact g7⟩,x7.le,?_,?_,e5⟩
     ·rw [aB (aD e hnbH)]
      exact s67 b o e hb
     ·rw [aC]
      simp [zZ]
     ·rw [aB ntb]
      exact s7 _ _ (s6 _ _ tb5 ntr) ntr
    ·exact kE p6 (by rw [e5,en];rfl) H6 (s5.trans s6)
   ·rintro σ H5 ⟨vs,p',v3,rfl,hvl,s5,rd5,le5,nb5,tb5,e5⟩
    have hvl:vs.length=5:=hvl
    have e6:cO l fB q.2=.ok (vs,p'):=by
     rw [e5]
     show Except.ok (vs++[],p')=_
     rw [List.append_nil]
    rw [e6,bY] at k
    have x5:=x.same s5 rd5 le5
    refine eQ (gZ rfl qW b10 x5 (fun j ej H' s'=>by rw [ej] at k;exact k H' (s5.trans s')) fun p7 ew H7 x7 s7=>?_)
    rw [ew,bY] at k
    have nb7:H7 nb=some (.lst ((q.1::vs).map zZ)):=s7 _ _ nb5 nbr
    have s57:=s5.trans s7
    refine ⟨_,rfl,nb,_,rfl,.inl ⟨dB.of nb7,fun t ht=>?_⟩⟩
    have ST:=aK.new (o:=.tup ((q.1::vs).map zZ)) ht
    obtain ⟨dx7,g7⟩:=x7.rd
    have ntr:t≠r:=fun z=>by rw [z,g7] at ht;cases ht
    refine k _ t (x.same (s57.trans (aK.sx ST)) ⟨dx7,ST _ _ g7⟩ x7.le) (s57.trans (aK.sx ST)) ?_ aC (by rw [List.length_cons,hvl])
    cases z:H t with
    |none=>rfl
    |some o=>
     have:=s57 t o z ntr
     rw [ht] at this
     cases this
end
def cD (nss:List (List Int)) (l:List Int):Nat->Nat->Except Nat (List (List Nat)×Nat)
 |0,p=>.ok ([],p)
 |n+1,p=>if p=l.length then .ok ([],p) else eD (eL nss l p) fun q=>fZ q.1 (cD nss l n q.2)
def dH (nss:List (List Int)) (l:List Int):Except Nat (List Int×List (List Nat)):=
 eD (aU l 0 [98,117,105,108,100,32]) fun p1=>eD (gA l p1 16) fun nm=>eD (aU l nm.2 [10]) fun p3=>eD (cD nss l 256 p3) fun r=>if r.2=l.length then .ok (nm.1,r.1) else .error r.2
theorem Gd:("build ":Str).cps.toList=[98,117,105,108,100,32]:=by decide+kernel
def nM (H:Hp) (ts:List Addr) (ls:List (List Nat)):Prop:=Paired (fun t x=>H t=some (.tup (x.map zZ))/\x.length=6) ts ls
def BdF (na la:Addr):List (Str×V):=[("name",.ref na),("lines",.ref la)]
structure BdT (K:PySem.W.Frag) (CB:Addr):Prop where
 cl:Fr K CB
 n1:cZ K CB "name"
 n2:cZ K CB "lines"
def vK (CB:Addr) (H:Hp) (q:Addr) (nm:List Int) (ls:List (List Nat)):Prop:=∃ (dx na la:Addr) (ts:List Addr),H q=some (.ins CB dx (BdF na la))/\H na=some (.tup (nm.map V.int))/\H la=some (.lst (ts.map V.ref))/\nM H ts ls/\ls.length<=256/\nm.length<=16
section
variable {P:Program} {w:World} {K:PySem.W.Frag} {mg:Str->Option Value} {base:Heap} {C CR CP CB:Addr}
theorem nM.keep {H H':Hp} {ts:List Addr} {ls:List (List Nat)} (h:nM H ts ls) (s:∀ b xs,H b=some (.tup xs)->H' b=some (.tup xs)):nM H' ts ls:=Paired.mapP h fun t x e=>⟨s _ _ e.1,e.2⟩
theorem vK.same {H H':Hp} {q:Addr} {nm:List Int} {ls:List (List Nat)} (h:vK CB H q nm ls) (s:aK H H'):vK CB H' q nm ls:=by
 obtain ⟨dx,na,la,ts,h1,h2,h3,h4,h5⟩:=h
 exact ⟨dx,na,la,ts,s _ _ h1,s _ _ h2,s _ _ h3,h4.keep fun b xs e=>s _ _ e,h5⟩
def Pz (CB:Addr):Sp:=fun vs H Q _=>∃ (r dx na la:Addr),vs=[.ref r,.ref na,.ref la]/\H r=some (.ins CB dx [])/\∀ H':Hp,H' r=some (.ins CB dx (BdF na la))->SX r H H'->Q .non H'
theorem Ys:aP ["self","name","lines"] ["self","name","lines"] (aH uK):=⟨rfl,rfl,rfl,by decide+kernel,rfl,by decide+kernel,by decide+kernel⟩
theorem Yk {f:Addr} {fd:FuncData} (F:fD K "__init__" "Build.__init__" uK f fd) (T:BdT K CB):bO P w K mg base bS 1 f fd ["self","name","lines"] (Pz CB):=by
 refine F.ok Ys (fun vs H Q E h=>?_) (fun cdv A outer s H vs Q E hr h=>?_)
 ·obtain ⟨r,dx,na,la,rfl,_⟩:=h
  rfl
 ·obtain ⟨r,dx,na,la,rfl,hp,k⟩:=h
  refine ⟨_,aE (dQ (pv 0) (pv 1) rfl) (aG (dQ (pv 0) (pv 2) rfl)),?_⟩
  refine ⟨_,rfl,_,rfl,r,CB,dx,_,rfl,hp,T.cl,T.n1,(by show 0<1000;decide),?_⟩
  refine ⟨_,rfl,_,rfl,r,CB,dx,_,rfl,aC,T.cl,T.n2,(by show 1<1000;decide),?_⟩
  exact k _ aC fun b o e hb=>by rw [aB hb,aB hb];exact e
structure BdM (P:Program) (w:World) (K:PySem.W.Frag) (mg:Str->Option Value) (base:Heap) (CB:Addr):Prop where
 ex:∃ f fd,Mk K CB f/\bO P w K mg base bS 1 f fd ["self","name","lines"] (Pz CB)/\eV K fd ["self","name","lines"] []
 mg:mg "Build"=some (.ref CB)
theorem Du {H:Hp} {r a:Addr} {l:List Int} {p j:Nat} {x:Str} {cs:List Nat} {D:fT} {σ:List (Option V)} {E:XK} (hσ:σ[j]?=some (some (.ref r))) (hx:x.cps.toList=cs) (h256:∀ c∈cs,c<256) (tx:jM K CR H r a l p)
  (k2:∀ i,aU l p cs=.error i->∀ H',SX r H H'->E (.int i 0) none H') (k1:∀ p',aU l p cs=.ok p'->∀ H',jM K CR H' r a l p'->SX r H H'->D.nx σ H'):yE (lZ CR "read_word" (kO K CR) [] E (eO j) (eU (tC (.str x)) hZ)) D σ H:=by
 obtain ⟨⟨dx,h1⟩,_,_⟩:=id tx
 exact ⟨_,hσ,r,dx,_,rfl,h1,rfl,yC (Q:=fun _ H1=>D.nx σ H1) hx h256 tx (fun p' e H' x' s'=>k1 p' e H' x' s') k2⟩
theorem Pk {H:Hp} {r a:Addr} {l:List Int} {p L j i:Nat} {D:fT} {σ:List (Option V)} {E:XK} (hσ:σ[j]?=some (some (.ref r))) (tx:jM K CR H r a l p) (hL:L<=1000) (k2:gA l p L=.error p->E (.int p 0) none H)
  (k1:∀ v:List Int×Nat,gA l p L=.ok v->∀ (H':Hp) (q:Addr),jM K CR H' r a l v.2->SX r H H'->H' q=some (.tup (v.1.map V.int))->v.1.length<=L->D.nx (σ.set i (some (.ref q))) H'):
  Bs (lZ CR "read_name" (oU K CR) [] E (eO j) (eU (tC (.int L)) hZ)) (mF i) D σ H:=by
 obtain ⟨⟨dx,h1⟩,_,_⟩:=id tx
 exact ⟨_,hσ,r,dx,_,rfl,h1,rfl,xR (Q:=fun y H1=>D.nx (σ.set i (some y)) H1) tx hL (fun v e H' q x' s' g1 g2=>k1 v e H' q x' s' g1 g2) k2⟩
def uI (K:PySem.W.Frag) (CB:Addr):Sp:=fun vs H Q E=>∃ (a na:Addr) (l:List Int) (nss:List (List Int)),vs=[.ref a,.ref na]/\dB K H a (l.map V.int)/\Wo K H na nss/\
 match dH nss l with
 |.ok b=>∀ (H':Hp) (q:Addr),aK H H'->vK CB H' q b.1 b.2->Q (.ref q) H'
 |.error i=>∀ H':Hp,aK H H'->E (.int i 0) none H'
theorem qM:aP ["b","names","reader","name","lines"] ["b","names"] (aH kR):=⟨rfl,rfl,rfl,by decide+kernel,rfl,by decide+kernel,by decide+kernel⟩
def aA7 (CR:Addr) (H:Hp) (r a na qn q:Addr) (nm:List Int) (nss:List (List Int)) (l:List Int) (p0 m:Nat) (σ:List (Option V)) (H':Hp):Prop:=
 ∃ (ls:List (List Nat)) (ts:List Addr) (p':Nat),σ=[some (.ref a),some (.ref na),some (.ref r),some (.ref qn),some (.ref q)]/\H' qn=some (.tup (nm.map V.int))/\ls.length+m=256/\p'<=l.length/\aK H H'/\iB CR H' r a p'/\H' q=some (.lst (ts.map V.ref))/\
  nM H' ts ls/\cD nss l 256 p0=fQ ls (cD nss l m p')
theorem Pa {f:Addr} {fd:FuncData} (F:fD K "read_build" "read_build" kR f fd) (T:Fq K CR) (RK:RdK P w K mg base CR) (BM:BdM P w K mg base CB) (hlen:mg "len"=none) (c1:CI mg "LONGEST_BUILD_NAME" 16) (c2:CI mg "MOST_LINES" 256)
  (M1:nI P w K mg base CR "ended" bS 1 ["self"] (nQ K CR)) (M2:nI P w K mg base CR "read_end" (iS C P w) 3 ["self"] (xT K CR)) (M3:nI P w K mg base CR "read_word" (iS C P w) 5 ["self","word"] (kO K CR))
  (M4:nI P w K mg base CR "read_name" (iS C P w) 4 ["self","longest"] (oU K CR)) (L1:dJ P w K mg base "read_line" (iS C P w) 6 ["reader","names"] (Hd K CR)):bO P w K mg base (iS C P w) 7 f fd ["b","names"] (uI K CB):=by
 obtain ⟨fb,fdb,MB,GB,bB⟩:=BM.ex
 obtain ⟨f1,fd1,m1,G1,b1⟩:=M1.ex
 obtain ⟨f2,fd2,m2,G2,b2⟩:=M2.ex
 obtain ⟨f3,fd3,m3,G3,b3⟩:=M3.ex
 obtain ⟨f4,fd4,m4,G4,b4⟩:=M4.ex
 obtain ⟨g1,gd1,GP,bP,kP,hP⟩:=L1.ex
 obtain ⟨fr,fdr,MR,GR,bR⟩:=RK.ex
 refine F.okX qM (fun vs H Q E h=>?_) (fun cdv A outer s H vs Q E hr h=>?_)
 ·obtain ⟨a,na,l,nss,rfl,_⟩:=h
  rfl
 ·obtain ⟨a,na,l,nss,rfl,tx,hn,k⟩:=h
  have hr5:=hr.mono (j:=5) (by decide)
  have hr4:=hr.mono (j:=4) (by decide)
  have hr3:=hr.mono (j:=3) (by decide)
  have hr2:=hr.mono (j:=2) (by decide)
  have hr1:=hr.mono (j:=1) (by decide)
  refine ⟨_,aE (bA (i:=2) qM.nd rfl (Or.inl rfl) (qB MR GR hr2 (by rfl) RK.mg bR .nil aY (aA (pv 0) aF)))
   (aE (bZ (cR (pv 2) T.cl m3 G3 hr5 b3 .nil aM.pass (aA gE aF)))
   (aE (bA (i:=3) qM.nd rfl (Or.inl rfl) (cR (pv 2) T.cl m4 G4 hr4 b4 .nil aM.pass (aA (eP c1) aF)))
   (aE (bZ (cR (pv 2) T.cl m3 G3 hr5 b3 .nil aM.pass (aA gE aF)))
   (aE (bA (i:=4) qM.nd rfl (Or.inl rfl) (dL aF))
   (aE (iQ aM.own (fY (dA (Je (bN bJ (by rfl) hlen PySem.boot_len (aA (pv 4) aF)) (eP c2))) (gK (lD (dW (cA (pv 2) T.cl m1 G1 hr1 b1 .nil aY))))).pt
    (aG (bZ (mH PySem.F.plainAttrs_list PySem.F.slot_list_append PySem.F.type_list_append eI (pv 4) (aA (aT GP hr (by rfl) hP kP bP .nil aM.pass (aA (pv 2) (aA (pv 1) aF))) aF)))))
   (aE (bZ (cA (pv 2) T.cl m2 G2 hr3 b2 .nil aM.pass))
   (aG (aW (qB MB GB hr2 (by rfl) BM.mg bB .nil aY (aA (pv 3) (aA (pv 4) aF))))))))))),?_⟩
  refine ⟨_,rfl,fun r dr nr ndr ndrr=>?_⟩
  refine ⟨r,dr,a,rfl,aC,fun H1 hr1 s1=>⟨rfl,?_⟩⟩
  have S1:aK H H1:=fun y o e=>s1 y o (by rw [aB (aD e nr),aB (aD e ndr)];exact e) (aD e nr)
  have x1:jM K CR H1 r a l 0:=⟨hr1,S1.seq tx,Nat.zero_le _⟩
  have sxs:∀ {H2:Hp},SX r H1 H2->aK H H2:=fun s2 y o e=>s2 y o (S1 y o e) (aD e nr)
  unfold dH at k
  refine eQ (Du rfl Gd (by decide) x1 (fun i e1 H' s'=>by rw [e1] at k;exact k H' (sxs s')) fun p1 e1 H2 x2 s2=>?_)
  rw [e1,bY] at k
  refine eQ (Pk (L:=16) rfl x2 (by decide) (fun e2=>by rw [e2] at k;exact k _ (sxs s2)) fun nm e2 H3 qn x3 s3 hqn hnl=>?_)
  rw [e2,bY] at k
  have s3:=s2.trans s3
  refine eQ (Du rfl qW b10 x3 (fun i e3 H' s'=>by rw [e3] at k;exact k H' (sxs (s3.trans s'))) fun p4 e3 H4 x4 s4=>?_)
  rw [e3,bY] at k
  have hqn4:=s4.tup x3.rd hqn
  have s4:=s3.trans s4
  have S4:=sxs s4
  refine ⟨Nat.zero_le _,fun q hq=>?_⟩
  have sq:=aK.new (o:=.lst []) hq
  have hqH:H q=none:=S4.free hq
  obtain ⟨dx4,g4⟩:=x4.rd
  have nrq:r≠q:=fun z=>by rw [z,hq] at g4;cases g4
  refine ⟨fun m=>aA7 CR H r a na qn q nm.1 nss l p4 m,⟨256,[],[],p4,rfl,sq _ _ hqn4,rfl,x4.le,S4.trans sq,⟨dx4,sq _ _ g4⟩,aC,.nil,by rw [jZ]⟩,?_⟩
  rintro m σ H5 ⟨ls,ts,p',rfl,hqn5,hm,lp,S5,hr5,hq5,pp,e5⟩
  have x5:jM K CR H5 r a l p':=⟨hr5,S5.seq tx,lp⟩
  obtain ⟨dx5,g5⟩:=id hr5
  have htl:ts.length=ls.length:=Paired.length pp
  have fin:cD nss l m p'=.ok ([],p')->Fh (yE (lZ CR "read_end" (xT K CR) [] E (eO 2) hZ)) (Yb (Jo CB (Pz CB) [] E0 (eU (eO 3) (eU (eO 4) hZ)))) {nx:=fun _ H'=>Q .non H',rt:=Q} [some (.ref a),some (.ref na),some (.ref r),some (.ref qn),some (.ref q)] H5:=by
   intro e6
   have e7:cD nss l 256 p4=.ok (ls,p'):=by
    rw [e5,e6]
    show Except.ok (ls++[],p')=_
    rw [List.append_nil]
   rw [e7,bY] at k
   refine ⟨_,rfl,r,dx5,_,rfl,g5,rfl,r,a,l,p',rfl,x5,fun he=>⟨_,rfl,_,rfl,fun b' db nb' ndb nbb=>⟨b',db,qn,q,rfl,aC,fun H6 hb6 s6=>⟨rfl,?_⟩⟩⟩,fun he=>?_⟩
   ·have he:p'=l.length:=he
    rw [if_pos he] at k
    have S6:aK H5 H6:=fun y o e=>s6 y o (by rw [aB (aD e nb'),aB (aD e ndb)];exact e) (aD e nb')
    exact k H6 b' (S5.trans S6) ⟨db,qn,q,ts,hb6,S6 _ _ hqn5,S6 _ _ hq5,pp.keep fun y xs e=>S6 _ _ e,(by show ls.length<=256;(clear he htl lp;omega)),hnl⟩
   ·have he:¬p'=l.length:=he
    rw [if_neg he] at k
    exact k H5 S5
  refine ⟨_,rfl,q,_,rfl,.inl (dB.of hq5),_,_,rfl,rfl,_,rfl,bX (fun hlt=>?_) (fun hlt=>pX (fin ?_))⟩
  ·have hlt:((ts.map V.ref).length:Int)<256:=of_decide_eq_true hlt
   rw [List.length_map] at hlt
   obtain ⟨n,rfl⟩:∃ n,m=n+1:=⟨m - 1,by (clear lp;omega)⟩
   refine ⟨_,rfl,r,dx5,_,rfl,g5,rfl,r,a,l,p',rfl,x5,_,rfl,bX (fun hne=>?_) (fun hne=>fin ?_)⟩
   ·rw [Bool.not_eq_true',decide_eq_false_iff_not] at hne
    refine ⟨aA7 CR H r a na qn q nm.1 nss l p4 n,fun _ _ z=>⟨n,Nat.lt_succ_self n,z⟩,?_⟩
    have hn5:Wo K H5 na nss:=by
     obtain ⟨⟨xs,h1,h2⟩,h3⟩:=hn
     exact ⟨⟨xs,S5.seq h1,nZ.same h2 S5⟩,h3⟩
    refine ⟨_,rfl,.inl ⟨rfl,_,dB.of hq5⟩,_,rfl,_,rfl,r,a,na,l,p',nss,rfl,x5,hn5,?_⟩
    have e6:cD nss l (n+1) p'=eD (eL nss l p') fun q=>fZ q.1 (cD nss l n q.2):=if_neg hne
    cases e7:eL nss l p' with
    |error i=>
     intro H' s'
     have e8:cD nss l 256 p4=.error i:=by
      rw [e5,e6,e7]
      rfl
     rw [e8] at k
     exact k H' fun y o e=>s' y o (S5 y o e) (aD e nr)
    |ok q1=>
     intro H6 t x6 s6 nt ht h6
     have hq6:H6 q=some (.lst (ts.map V.ref)):=s6 _ _ hq5 (Ne.symm nrq)
     have hsl:=bI
     refine ⟨q,_,_,rfl,rfl,hq6,?_,?_⟩
     ·rw [List.length_map]
      (clear h6 hne hm htl lp;omega)
     ·obtain ⟨dx6,g6⟩:=x6.rd
      have tupk:∀ b xs,H6 b=some (.tup xs)->upd H6 q (.lst (ts.map V.ref++[V.ref t])) b=some (.tup xs):=fun b xs e=>by
       rw [aB (fun z=>by rw [z,hq6] at e;cases e)]
       exact e
      refine ⟨ls++[q1.1],ts++[t],q1.2,rfl,tupk _ _ (s6.tup hr5 hqn5),by simp;(clear hsl h6 hne hlt htl lp;omega),x6.le,fun y o e=>?_,⟨dx6,by rw [aB nrq];exact g6⟩,by rw [aC,List.map_append];rfl,?_,?_⟩
      ·rw [aB (aD e hqH)]
       exact s6 y o (S5 y o e) (aD e nr)
      ·refine Paired.snoc ((pp.keep (H':=H6) fun b xs e=>s6.tup hr5 e).keep tupk) ⟨tupk _ _ ht,h6⟩
      ·rw [e5,e6,e7,bY,iR]
   ·rw [Bool.not_eq_true',decide_eq_false_iff_not,Classical.not_not] at hne
    exact if_pos hne
  ·have hlt:¬((ts.map V.ref).length:Int)<256:=fun z=>hlt (decide_eq_true z)
   rw [List.length_map] at hlt
   rw [show m=0 by (clear lp;omega)]
   rfl
end
theorem tI {l:List Int}:∀ {n p:Nat},(256:Int)∉bE l p n
 |0,p=>by simp [bE]
 |n+1,p=>by
  rw [bE]
  split
  ·rename_i h
   intro z
   rcases List.mem_cons.mp z with z|z
   ·rw [<-z] at h
    revert h
    decide
   ·exact tI z
  ·simp
theorem aL {α β:Type} {r:Except Nat α} {f:α->Except Nat β} {b:β} (h:eD r f=.ok b):∃ a,r=.ok a/\f a=.ok b:=by
 cases r with
 |error i=>cases h
 |ok a=>exact ⟨a,rfl,h⟩
theorem Mv {l:List Int} {p L:Nat} {v:List Int×Nat} (h:gA l p L=.ok v):(256:Int)∉v.1:=by
 unfold gA at h
 split at h
 ·cases h
  exact tI
 ·cases h
theorem Dv {l:List Int} {p:Nat} {q:aN×Nat} (h:dM l p=.ok q):(256:Int)∉q.1.name:=by
 unfold dM at h
 obtain ⟨p1,_,h⟩:=aL h
 obtain ⟨nm,e,h⟩:=aL h
 have hn:=Mv e
 obtain ⟨_,_,h⟩:=aL h
 obtain ⟨_,_,h⟩:=aL h
 obtain ⟨_,_,h⟩:=aL h
 obtain ⟨_,_,h⟩:=aL h
 obtain ⟨_,_,h⟩:=aL h
 obtain ⟨_,_,h⟩:=aL h
 obtain ⟨_,_,h⟩:=aL h
 obtain ⟨_,_,h⟩:=aL h
 obtain ⟨_,_,h⟩:=aL h
 obtain ⟨_,_,h⟩:=aL h
 cases h
 exact hn
theorem fN {α:Type} {x:α} {r:Except Nat (List α×Nat)} {q:List α×Nat} (h:fZ x r=.ok q):∃ q',r=.ok q'/\q=(x::q'.1,q'.2):=by
 cases r with
 |error i=>cases h
 |ok q'=>cases h;exact ⟨q',rfl,rfl⟩
theorem yW {l:List Int}:∀ {n p:Nat} {q:List aN×Nat},cJ l n p=.ok q->∀ pr∈q.1,(256:Int)∉pr.name
 |0,p,q,h=>by cases h;intro pr hp;cases hp
 |n+1,p,q,h=>by
  rw [cJ] at h
  split at h
  ·cases h;intro pr hp;cases hp
  ·obtain ⟨q1,e1,h⟩:=aL h
   obtain ⟨q2,e2,rfl⟩:=fN h
   intro pr hp
   rcases List.mem_cons.mp hp with rfl|hp
   ·exact Dv e1
   ·exact yW e2 pr hp
theorem Tr {l:List Int} {prs:List aN} (h:gS l=.ok prs):∀ pr∈prs,(256:Int)∉pr.name:=by
 unfold gS at h
 obtain ⟨q,e1,h⟩:=aL h
 obtain ⟨r,e2,h⟩:=aL h
 split at h
 ·cases h
  intro pr hp
  rcases List.mem_cons.mp hp with rfl|hp
  ·exact Dv e1
  ·exact yW e2 pr hp
 ·cases h
def Fd (rf ft:Int) (pa:Addr) (bv rv:V):List (Str×V):=[("refusal",.int rf),("fault",.int ft),("parts",.ref pa),("build",bv),("room",rv)]
structure GvT (K:PySem.W.Frag) (CG:Addr):Prop where
 cl:Fr K CG
 n1:cZ K CG "refusal"
 n2:cZ K CG "fault"
 n3:cZ K CG "parts"
 n4:cZ K CG "build"
 n5:cZ K CG "room"
inductive Vb
 |no (n:Int)
 |bad (i:Nat)
 |ok (prs:List aN) (nm:List Int) (ls:List (List Nat))
def cY (lc lb:List Int):Vb:=if 1048576<lc.length\/16384<lb.length then .no (-2) else match gS lc with
 |.error _=>.no (-6)
 |.ok prs=>if mJ prs=true then (match dH (prs.map (·.name)) lb with
  |.error i=>.bad i
  |.ok b=>.ok prs b.1 b.2) else .no (-8)
def Qn (CG CP CB:Addr) (H:Hp) (g:Addr):Vb->Prop
 |.no n=>∃ dx pa,H g=some (.ins CG dx (Fd n 0 pa .non .non))
 |.bad i=>∃ dx pa,H g=some (.ins CG dx (Fd (-5) i pa .non .non))
 |.ok prs nm ls=>∃ dx pa q bs,H g=some (.ins CG dx (Fd 0 0 pa (.ref q) .non))/\H pa=some (.lst (bs.map V.ref))/\dZ CP H bs prs/\vK CB H q nm ls/\1<=prs.length/\prs.length<=64
section
variable {P:Program} {w:World} {K:PySem.W.Frag} {mg:Str->Option Value} {base:Heap} {C CR CP CB CG:Addr}
def Ga (CG:Addr):Sp:=fun vs H Q _=>∃ (r dx pa:Addr) (rf ft:Int) (bv:V),vs=[.ref r,.int rf,.int ft,.ref pa,bv]/\H r=some (.ins CG dx [])/\∀ H':Hp,H' r=some (.ins CG dx (Fd rf ft pa bv .non))->SX r H H'->Q .non H'
theorem Uu:aP ["self","refusal","fault","parts","build"] ["self","refusal","fault","parts","build"] (aH uD):=⟨rfl,rfl,rfl,by decide+kernel,rfl,by decide+kernel,by decide+kernel⟩
theorem Ta {f:Addr} {fd:FuncData} (F:fD K "__init__" "Given.__init__" uD f fd) (T:GvT K CG):zM P w K mg base bS 1 f fd ["self","refusal","fault","parts","build"] (Ga CG):=by
 refine F.okN Uu (fun vs H Q E h=>?_) (fun cdv A outer s H vs Q E hr h=>?_)
 ·obtain ⟨r,dx,pa,rf,ft,bv,rfl,_⟩:=h
  rfl
 ·obtain ⟨r,dx,pa,rf,ft,bv,rfl,hp,k⟩:=h
  refine ⟨_,aE (dQ (pv 0) (pv 1) rfl) (aE (dQ (pv 0) (pv 2) rfl) (aE (dQ (pv 0) (pv 3) rfl) (aE (dQ (pv 0) (pv 4) rfl) (aG (dQ (pv 0) vH rfl))))),?_⟩
  refine ⟨_,rfl,_,rfl,r,CG,dx,_,rfl,hp,T.cl,T.n1,(by show 0<1000;decide),?_⟩
  refine ⟨_,rfl,_,rfl,r,CG,dx,_,rfl,aC,T.cl,T.n2,(by show 1<1000;decide),?_⟩
  refine ⟨_,rfl,_,rfl,r,CG,dx,_,rfl,aC,T.cl,T.n3,(by show 2<1000;decide),?_⟩
  refine ⟨_,rfl,_,rfl,r,CG,dx,_,rfl,aC,T.cl,T.n4,(by show 3<1000;decide),?_⟩
  refine ⟨_,rfl,r,CG,dx,_,rfl,aC,T.cl,T.n5,(by show 4<1000;decide),?_⟩
  exact k _ aC fun b o e hb=>by rw [aB hb,aB hb,aB hb,aB hb,aB hb];exact e
structure GvM (P:Program) (w:World) (K:PySem.W.Frag) (mg:Str->Option Value) (base:Heap) (CG:Addr):Prop where
 ex:∃ f fd,Mk K CG f/\zM P w K mg base bS 1 f fd ["self","refusal","fault","parts","build"] (Ga CG)/\eV K fd ["self","refusal","fault","parts","build"] []
 mg:mg "Given"=some (.ref CG)
def Vy (H:Hp) (D:Addr) (prs:List aN):Prop:=∃ qs:List Addr,H D=some (.lst (qs.map V.ref))/\Paired (fun q pr=>H q=some (.tup (pr.name.map V.int))) qs prs
def pE (K:PySem.W.Frag) (CP:Addr):Sp:=fun vs H Q _=>∃ (pa:Addr) (bs:List Addr) (prs:List aN),vs=[.ref pa]/\dB K H pa (bs.map V.ref)/\dZ CP H bs prs/\prs.length<=64/\∀ (H':Hp) (D:Addr),aK H H'->H D=none->Vy H' D prs->Q (.ref D) H'
theorem vB:aP ["parts","part"] ["parts"] (aH mS):=⟨rfl,rfl,rfl,by decide+kernel,rfl,by decide+kernel,by decide+kernel⟩
theorem Qr {f:Addr} {fd:FuncData} (F:fD K "names_of" "names_of" mS f fd) (T':Nq K CP):bO P w K mg base bS 1 f fd ["parts"] (pE K CP):=by
 refine F.ok vB (fun vs H Q E h=>?_) (fun cdv A outer s H vs Q E hr h=>?_)
 ·obtain ⟨pa,bs,prs,rfl,_⟩:=h
  rfl
 ·obtain ⟨pa,bs,prs,rfl,hpa,hps,hp64,k⟩:=h
  refine ⟨_,aG (aW (Sb (own:=[("part",1)]) (te:=Tm K (eO 1) "name") rfl vB.nd (qN (pv 0)) (jO (N:=["parts","part"]) (sc:=aH mS) (by decide+kernel))
   (fun _ _ _ _ _=>bH (i:=1) vB.nd rfl (Or.inl rfl)) (fun _ _ _ _ _=>pK) (fun _ _ _ _ _=>aR (pv 1) rfl))),?_⟩
  have hbl:bs.length=prs.length:=Paired.length hps
  have hsl:=bI
  refine ⟨_,rfl,pa,rfl,⟨_,hpa⟩,fun Dl hDl=>?_⟩
  refine zV (xs:=bs.map V.ref) (fun i H'=>aK H H'/\∃ qs,H' Dl=some (.lst (qs.map V.ref))/\Paired (fun q pr=>H q=some (.tup (pr.name.map V.int))) qs (prs.take i)) ⟨aK.new hDl,[],aC,.nil⟩ (fun i H' _ z=>z.1.seq hpa) ?_ ?_
  ·rintro i x H3 ex ⟨S3,qs,hD3,pq⟩
   have hi:i<prs.length:=by
    have:=(List.getElem?_eq_some_iff.mp ex).1
    rwa [List.length_map,hbl] at this
   obtain ⟨pr,ep⟩:∃ pr,prs[i]?=some pr:=⟨_,List.getElem?_eq_getElem hi⟩
   obtain ⟨b',eb,pat,po⟩:=cX hps ep
   rw [List.getElem?_map,eb] at ex
   cases ex
   obtain ⟨dx,nm,cc,f1,f2,f3⟩:=pat
   have hql:qs.length=(prs.take i).length:=Paired.length pq
   rw [List.length_take] at hql
   refine ⟨rfl,_,rfl,b',CP,dx,_,_,rfl,S3 _ _ f1,T'.cl,T'.n1,rfl,_,hD3,by rw [List.length_map];(clear hi hbl;omega),fun y o e=>?_,qs++[nm],by rw [aC,List.map_append];rfl,?_⟩
   ·rw [aB (aD e hDl)]
    exact S3 _ _ e
   ·rw [List.take_succ,ep]
    exact Paired.snoc pq f2
  ·rintro H3 ⟨S3,qs,hD3,pq⟩
   rw [List.length_map,hbl,List.take_length] at pq
   exact k H3 Dl S3 hDl ⟨qs,hD3,Paired.mapP pq fun q pr e=>S3 _ _ e⟩
def Ax (K:PySem.W.Frag) (CG CP CB:Addr):Sp:=fun vs H Q _=>∃ (c b:Addr) (lc lb:List Int),vs=[.ref c,.ref b]/\dB K H c (lc.map V.int)/\dB K H b (lb.map V.int)/\∀ (H':Hp) (g:Addr),aK H H'->H g=none->Qn CG CP CB H' g (cY lc lb)->Q (.ref g) H'
theorem qU:aP ["c","b","parts","build","e"] ["c","b"] (aH iP):=⟨rfl,rfl,rfl,by decide+kernel,rfl,by decide+kernel,by decide+kernel⟩
theorem Dj {H:Hp} {n ft:Int} {Q:V->Hp->Prop} (k:∀ (H':Hp) (g:Addr),aK H H'->H g=none->(∃ dx pa,H' g=some (.ins CG dx (Fd n ft pa .non .non)))->Q (.ref g) H'):
  ∀ l1,H l1=none->∀ x dx,upd H l1 (.lst []) x=none->upd H l1 (.lst []) dx=none->dx≠x->
   Ga CG [.ref x,.int n,.int ft,.ref l1,.non] (upd (upd (upd H l1 (.lst [])) dx (.own x)) x (.ins CG dx [])) (fun v H2=>v=.non/\Q (.ref x) H2) E0:=by
 intro l1 h1 x dx hx hdx hne
 have S:aK H (upd H l1 (.lst [])):=aK.new h1
 refine ⟨x,dx,l1,n,ft,.non,rfl,aC,fun H' hg s=>⟨rfl,k H' x (fun b o e=>?_) (S.free hx) ⟨dx,l1,hg⟩⟩⟩
 have e2:=S b o e
 exact s b o (by rw [aB (aD e2 hx),aB (aD e2 hdx)];exact e2) (aD e2 hx)
theorem Ou {f:Addr} {fd:FuncData} (F:fD K "read_given" "read_given" iP f fd) (GM:GvM P w K mg base CG) (S:Zg P w K mg base C) (hlen:mg "len"=none) (c1:CI mg "MOST_CATALOGUE_BYTES" 1048576) (c2:CI mg "MOST_BUILD_BYTES" 16384)
  (L1:dJ P w K mg base "read_catalogue" (iS C P w) 8 ["c"] (Jj K CP)) (L2:dJ P w K mg base "catalogue_right" bS 5 ["parts"] (oK K CP)) (L3:dJ P w K mg base "read_build" (iS C P w) 7 ["b","names"] (uI K CB)) (L4:dJ P w K mg base "names_of" bS 1 ["parts"] (pE K CP)):
  bO P w K mg base bS 9 f fd ["c","b"] (Ax K CG CP CB):=by
 obtain ⟨g1,gd1,G1,b1,k1,h1⟩:=L1.ex
 obtain ⟨g2,gd2,G2,b2,k2,h2⟩:=L2.ex
 obtain ⟨g3,gd3,G3,b3,k3,h3⟩:=L3.ex
 obtain ⟨g4,gd4,G4,b4,k4,h4⟩:=L4.ex
 obtain ⟨fg,fgd,MG,GG,bG⟩:=GM.ex
 obtain ⟨fx,fdx,XT,GX,bx⟩:=S.ex
 refine F.ok qU (fun vs H Q E h=>?_) (fun cdv A outer s H vs Q E hr h=>?_)
 ·obtain ⟨c,b,lc,lb,rfl,_⟩:=h
  rfl
 ·obtain ⟨c,b,lc,lb,rfl,hc,hb,k⟩:=h
  have hr7:=hr.mono (j:=7) (by decide)
  have hr5:=hr.mono (j:=5) (by decide)
  have hr1:=hr.mono (j:=1) (by decide)
  have hr2:gY 2 (A.deeper (envOfC "read_given" (aH iP) s.heap.objs.size f cdv)):=(hr.mono (j:=2) (by decide)).n
  refine ⟨_,aE (dS (Ig (dA (qT (bN bJ (by rfl) hlen PySem.boot_len (aA (pv 0) aF)) (eP c1))) (zW (dA (qT (bN bJ (by rfl) hlen PySem.boot_len (aA (pv 1) aF)) (eP c2))))).pt
    (aG (aW (mL MG GG hr2 (by rfl) GM.mg bG (aA (zQ rZ aJ) (aA aJ (aA (dL aF) (aA vH aF))))))) bW)
   (aE (Zw (tb:=fun E'=>Bs (Cm (Jj K CP) [] E' (eU (eO 0) hZ)) (mF 2)) XT rfl rfl (by rfl) S.mg (fun xe pn E' hP=>aG (bA (i:=2) qU.nd rfl (Or.inl rfl) (aT G1 hr (by rfl) h1 k1 b1 .nil hP (aA (pv 0) aF))))
    (fun ea=>aG (aW (mL MG GG (hr2.mark _) (by rfl) GM.mg bG (aA (zQ rZ aJ) (aA aJ (aA (dL aF) (aA vH aF))))))))
   (aE (dS (lD (dW (aT G2 hr5 (by rfl) h2 k2 b2 .nil aY (aA (pv 2) aF)))) (aG (aW (mL MG GG hr2 (by rfl) GM.mg bG (aA (zQ rZ aJ) (aA aJ (aA (dL aF) (aA vH aF))))))) bW)
   (aE (Ol (i:=4) (tb:=fun E'=>Bs (Cm (uI K CB) [] E' (eU (eO 1) (eU (Cm (pE K CP) [] E0 (eU (eO 2) hZ)) hZ))) (mF 3)) XT rfl rfl (by rfl) S.mg qU.nd rfl rfl
     (fun xe pn E' hP=>aG (bA (i:=3) qU.nd rfl (Or.inl rfl) (aT G3 hr7 (by rfl) h3 k3 b3 .nil hP (aA (pv 1) (aA (aT G4 hr1 (by rfl) h4 k4 b4 .nil aY (aA (pv 2) aF)) aF)))))
     (fun ea=>aG (aW (mL MG GG (hr2.mark _) (by rfl) GM.mg bG (aA (zQ rZ aJ) (aA (Uz XT (pv 4) rfl) (aA (dL aF) (aA vH aF))))))))
   (aG (aW (mL MG GG hr2 (by rfl) GM.mg bG (aA aJ (aA aJ (aA (pv 2) (aA (pv 3) aF)))))))))),?_⟩
  have no:∀ (n:Int) (H1:Hp),aK H H1->cY lc lb=.no n->∀ (H':Hp) (g:Addr),aK H1 H'->H1 g=none->(∃ dx pa,H' g=some (.ins CG dx (Fd n 0 pa .non .non)))->Q (.ref g) H':=fun n H1 S1 e H' g S2 fg hg=>by
   have kk:=k H' g (S1.trans S2) (S1.free fg)
   rw [e] at kk
   exact kk hg
  refine ⟨_,rfl,c,_,rfl,.inl hc,_,_,rfl,rfl,_,rfl,bX (fun e1=>Qj ?_) (fun e1=>⟨_,rfl,b,_,rfl,.inl hb,_,_,rfl,rfl,_,rfl,bX (fun e2=>?_) (fun e2=>?_)⟩)⟩
  ·have e1:(1048576:Int)<((lc.map V.int).length:Int):=of_decide_eq_true e1
   rw [List.length_map] at e1
   have e3:cY lc lb=.no (-2):=if_pos (.inl (by omega))
   exact ⟨_,rfl,Nat.zero_le _,fun l1 n1=>Dj (no (-2) H (aK.id' _) e3) l1 n1⟩
  ·have e2:(16384:Int)<((lb.map V.int).length:Int):=of_decide_eq_true e2
   rw [List.length_map] at e2
   have e3:cY lc lb=.no (-2):=if_pos (.inr (by (clear e1;omega)))
   exact ⟨_,rfl,Nat.zero_le _,fun l1 n1=>Dj (no (-2) H (aK.id' _) e3) l1 n1⟩
  ·have e1:¬(1048576:Int)<((lc.map V.int).length:Int):=fun z=>e1 (decide_eq_true z)
   have e2:¬(16384:Int)<((lb.map V.int).length:Int):=fun z=>e2 (decide_eq_true z)
   rw [List.length_map] at e1 e2
   have e3:¬(1048576<lc.length\/16384<lb.length):=by omega
   unfold cY at k no
   rw [if_neg e3] at k no
   refine ⟨_,rfl,c,lc,rfl,hc,?_⟩
   cases ec:gS lc with
   |error i=>
    intro H1 S1 σ' hσ
    refine ⟨_,rfl,Nat.zero_le _,fun l1 n1=>Dj (no (-6) H1 S1 (by rw [ec])) l1 n1⟩
   |ok prs=>
    intro H1 pa bs S1 hpa hps hp64 hp1
    rw [ec] at k no
    refine ⟨_,rfl,pa,bs,prs,rfl,dB.of hpa,hps,hp1,hp64,fun H2 S2=>⟨_,rfl,bX (fun e4=>?_) (fun e4=>?_)⟩⟩
    ·rw [Bool.not_eq_true'] at e4
     exact ⟨_,rfl,Nat.zero_le _,fun l1 n1=>Dj (no (-8) H2 (S1.trans S2) (by show (if mJ prs=true then _ else _)=_;rw [if_neg (by rw [e4];decide)])) l1 n1⟩
    ·rw [Bool.not_eq_true',Bool.not_eq_false] at e4
     have S12:=S1.trans S2
     have hpa2:=S2 _ _ hpa
     have hps2:dZ CP H2 bs prs:=Paired.mapP hps fun _ _ z=>⟨z.1.same S2,z.2⟩
     have k:∀ (H':Hp) (g:Addr),aK H H'->H g=none->Qn CG CP CB H' g (match dH (prs.map (·.name)) lb with
       |.error i=>.bad i
       |.ok b=>.ok prs b.1 b.2)->Q (.ref g) H':=fun H' g s fg hg=>k H' g s fg (by show Qn CG CP CB H' g (if mJ prs=true then _ else _);rw [if_pos e4];exact hg)
     refine ⟨_,rfl,_,rfl,pa,bs,prs,rfl,dB.of hpa2,hps2,hp64,fun H3 Dl S3 _ hN=>?_⟩
     obtain ⟨qs,hD3,pq⟩:=hN
     have ts3:nZ K H3 (qs.map V.ref) (prs.map (·.name)):=by
      have key:∀ {qs:List Addr} {prs:List aN},Paired (fun q pr=>H3 q=some (.tup (pr.name.map V.int))) qs prs->nZ K H3 (qs.map V.ref) (prs.map (·.name)):=by
       intro qs prs z
       induction z with
       |nil=>exact .nil
       |cons h t ih=>exact .cons ⟨_,rfl,cN.of h⟩ ih
      exact key pq
     have nms:Wo K H3 Dl (prs.map (·.name)):=by
      refine ⟨⟨_,dB.of hD3,ts3⟩,by rw [List.length_map];exact hp64,fun m hm=>?_⟩
      obtain ⟨pr,hpr,rfl⟩:=List.mem_map.mp hm
      obtain ⟨i,hi⟩:=List.mem_iff_getElem?.mp hpr
      obtain ⟨_,_,_,po⟩:=cX hps hi
      exact ⟨po.nm,Tr ec pr hpr⟩
     have S13:=S12.trans S3
     refine ⟨b,Dl,lb,_,rfl,S13.seq hb,nms,?_⟩
     cases eb:dH (prs.map (·.name)) lb with
     |error i=>
      intro H4 S4
      rw [eb] at k
      refine ⟨i,rfl,fun σ' e d hσ he hd hne=>?_⟩
      have S5:aK H4 (upd (upd H4 d (.xd [("fault",.int i)])) e (XR C d e)):=fun y o z=>by rw [aB (aD z he),aB (aD z hd)];exact z
      have h4:(σ'.set 4 (some (V.ref e)))[4]?=some (some (V.ref e)):=List.getElem?_set_self (by have:σ'.length=5:=hσ;(clear hp1 hp64 e3 e2 e1;omega))
      have S15:=(S13.trans S4).trans S5
      refine ⟨_,rfl,_,h4,e,d,i,rfl,aC,by rw [aB hne,aC],Nat.zero_le _,fun l1 n1=>Dj (fun H' g s fg hg=>k H' g (S15.trans s) (S15.free fg) hg) l1 n1⟩
     |ok bd=>
      intro H4 q S4 hbd
      rw [eb] at k
      have S24:aK H1 H4:=(S2.trans S3).trans S4
      refine ⟨_,rfl,_,rfl,fun x dx hx hdx hne=>?_⟩
      refine ⟨x,dx,pa,0,0,.ref q,rfl,aC,fun H5 hg s5=>⟨rfl,?_⟩⟩
      have S45:aK H4 H5:=fun y o e=>s5 y o (by rw [aB (aD e hx),aB (aD e hdx)];exact e) (aD e hx)
      have S15:=S24.trans S45
      exact k H5 x ((S13.trans S4).trans S45) ((S13.trans S4).free hx) ⟨dx,pa,q,bs,hg,S15 _ _ hpa,Paired.mapP hps fun _ _ z=>⟨z.1.same S15,z.2⟩,hbd.same S45,hp1,hp64⟩
end
theorem Qo {lc lb:List Int} {n:Int} (h:cY lc lb=.no n):n= -2\/n= -6\/n= -8:=by
 unfold cY at h
 split at h
 ·cases h;exact .inl rfl
 ·split at h
  ·cases h;exact .inr (.inl rfl)
  ·split at h
   ·split at h<;>cases h
   ·cases h;exact .inr (.inr rfl)
end Br1
namespace L2
open PySem PySem.Spec PyProof.Rows
theorem tM {us:List Value} {x:Str} (h:us.length=([x]:List Str).length):∃ a,us=[a]:=List.length_eq_one_iff.mp h
theorem Al {us:List Value} {x y:Str} (h:us.length=([x,y]:List Str).length):∃ a b,us=[a,b]:=by
 cases us with
 |nil=>cases h
 |cons a r=>
  obtain ⟨b,rfl⟩:=tM (x:=x) (Nat.succ.inj h)
  exact ⟨a,b,rfl⟩
theorem Yo {us:List Value} {x y z:Str} (h:us.length=([x,y,z]:List Str).length):∃ a b c,us=[a,b,c]:=by
 cases us with
 |nil=>cases h
 |cons a r=>
  obtain ⟨b,c,rfl⟩:=Al (x:=x) (y:=y) (Nat.succ.inj h)
  exact ⟨a,b,c,rfl⟩
theorem us4 {us:List Value} {x y z w:Str} (h:us.length=([x,y,z,w]:List Str).length):∃ a b c d,us=[a,b,c,d]:=by
 cases us with
 |nil=>cases h
 |cons a r=>
  obtain ⟨b,c,d,rfl⟩:=Yo (x:=x) (y:=y) (z:=z) (Nat.succ.inj h)
  exact ⟨a,b,c,d,rfl⟩
theorem us5 {us:List Value} {x y z w v:Str} (h:us.length=([x,y,z,w,v]:List Str).length):∃ a b c d e,us=[a,b,c,d,e]:=by
 cases us with
 |nil=>cases h
 |cons a r=>
  obtain ⟨b,c,d,e,rfl⟩:=us4 (x:=x) (y:=y) (z:=z) (w:=w) (Nat.succ.inj h)
  exact ⟨a,b,c,d,e,rfl⟩
theorem us7 {us:List Value} {x y z w v u t:Str} (h:us.length=([x,y,z,w,v,u,t]:List Str).length):∃ a b c d e f g,us=[a,b,c,d,e,f,g]:=by
 cases us with
 |nil=>cases h
 |cons a r=>
  cases r with
  |nil=>cases h
  |cons b r=>
   obtain ⟨c,d,e,f,g,rfl⟩:=us5 (x:=x) (y:=y) (z:=z) (w:=w) (v:=v) (Nat.succ.inj (Nat.succ.inj h))
   exact ⟨a,b,c,d,e,f,g,rfl⟩
def jI (K:PySem.W.Frag) (x qual:Str) (st:Stmt):Prop:=∃ (f:Addr) (oc:Value) (od:Option Addr) (kV doc pm:Value) (an:Option Addr) (cdv ct:Value) (osl:Array (Option Value)),
 PySem.W.nsIn K mainGlobals x=some (some (.ref f))/\K.lookup f=some ⟨oc,od,.func (PySem.W.fnOf x qual (eN st) (dO st) (aH st) .none kV doc pm an cdv ct),osl⟩/\PySem.W.codeIn K cdv qual=true/\PySem.W.keepIn K (.ref f)=true
def yI (K:PySem.W.Frag) (C:Addr) (x qual:Str) (st:Stmt):Prop:=∃ (f:Addr) (oc:Value) (od:Option Addr) (kV doc pm:Value) (an:Option Addr) (cdv ct:Value) (osl:Array (Option Value)),
 PySem.W.findIn K (.ref C) x=some (some (.ref f))/\K.lookup f=some ⟨oc,od,.func (PySem.W.fnOf x qual (eN st) (dO st) (aH st) .none kV doc pm an cdv ct),osl⟩/\PySem.W.codeIn K cdv qual=true/\PySem.W.keepIn K (.ref f)=true/\PySem.W.isFn K (.ref f)=true
structure Hf (K:PySem.W.Frag) (x:Str) (C:Addr):Prop where
 ns:PySem.W.nsIn K mainGlobals x=some (some (.ref C))
 pg:PySem.W.plainGet K C Str.empty=true
 hd:PySem.W.hasDictIn K C=true
 po:PySem.W.plainOver K C=true
 sa:PySem.W.findIn K (.ref C) "__setattr__"=some (some (.builtin "object.__setattr__"))
 makes:PySem.W.makesIn K C=true
 kp:PySem.W.keepIn K (.ref C)=true
section
variable {P:Program} {w:World} {K:PySem.W.Frag} {h:Heap} {mg:Str->Option Value} {base:Heap} {C:Addr} {x qual:Str} {st:Stmt} {CX:Fp} {k:Nat} {ps:List Str} {sp:Sp}
theorem jI.fn0 (h1:jI K x qual st) (X:K.In h) (G:h.Ns mainGlobals mg) (ok:∀ (f:Addr) (fd:FuncData),fD K x qual st f fd->bO P w K mg base CX k f fd ps sp)
  (hb:∀ (kV doc pm:Value) (an:Option Addr) (cdv ct:Value) (us:List Value),us.length=ps.length->bindArgs (PySem.W.fnOf x qual (eN st) (dO st) (aH st) .none kV doc pm an cdv ct) ⟨us,[]⟩=pure (ps.zip us)):Br1.dJ P w K mg base x CX k ps sp:=by
 obtain ⟨f,oc,od,kV,doc,pm,an,cdv,ct,osl,a,l,c,kp⟩:=h1
 have F:=rC (st:=st) l c kp
 exact ⟨f,_,ok _ _ F,F.binds hb,kp,PySem.W.mg_of X G a⟩
theorem yI.mt (h1:yI K C x qual st) (ok:∀ (f:Addr) (fd:FuncData),fD K x qual st f fd->bO P w K mg base CX k f fd ps sp)
  (hb:∀ (kV doc pm:Value) (an:Option Addr) (cdv ct:Value) (us:List Value),us.length=ps.length->bindArgs (PySem.W.fnOf x qual (eN st) (dO st) (aH st) .none kV doc pm an cdv ct) ⟨us,[]⟩=pure (ps.zip us)):Br1.nI P w K mg base C x CX k ps sp:=by
 obtain ⟨f,oc,od,kV,doc,pm,an,cdv,ct,osl,a,l,c,kp,i⟩:=h1
 have F:=rC (st:=st) l c kp
 exact ⟨f,_,⟨a,i,kp⟩,ok _ _ F,F.binds hb⟩
theorem Hf.cl (h1:Hf K x C):Fr K C:=⟨h1.pg,h1.hd,h1.po,h1.sa⟩
theorem yI.mk (h1:yI K C "__init__" qual st) (hC:Hf K x C) (ok:∀ (f:Addr) (fd:FuncData),fD K "__init__" qual st f fd->bO P w K mg base CX k f fd ps sp)
  (hb:∀ (kV doc pm:Value) (an:Option Addr) (cdv ct:Value) (us:List Value),us.length=ps.length->bindArgs (PySem.W.fnOf "__init__" qual (eN st) (dO st) (aH st) .none kV doc pm an cdv ct) ⟨us,[]⟩=pure (ps.zip us)):∃ f fd,Mk K C f/\bO P w K mg base CX k f fd ps sp/\eV K fd ps []:=by
 obtain ⟨f,oc,od,kV,doc,pm,an,cdv,ct,osl,a,l,c,kp,i⟩:=h1
 have F:=rC (st:=st) l c kp
 exact ⟨f,_,⟨hC.makes,a,i,hC.kp⟩,ok _ _ F,F.binds hb⟩
theorem yI.mkN (h1:yI K C "__init__" qual st) (hC:Hf K x C) (ok:∀ (f:Addr) (fd:FuncData),fD K "__init__" qual st f fd->zM P w K mg base CX k f fd ps sp)
  (hb:∀ (kV doc pm:Value) (an:Option Addr) (cdv ct:Value) (us:List Value),us.length=ps.length->bindArgs (PySem.W.fnOf "__init__" qual (eN st) (dO st) (aH st) .none kV doc pm an cdv ct) ⟨us,[]⟩=pure (ps.zip us)):∃ f fd,Mk K C f/\zM P w K mg base CX k f fd ps sp/\eV K fd ps []:=by
 obtain ⟨f,oc,od,kV,doc,pm,an,cdv,ct,osl,a,l,c,kp,i⟩:=h1
 have F:=rC (st:=st) l c kp
 exact ⟨f,_,⟨hC.makes,a,i,hC.kp⟩,ok _ _ F,F.binds hb⟩
end
end L2
namespace Br1
open PySem PySem.Spec PyProof.Rows L2
def Oi (K:PySem.W.Frag) (x:Str) (n:Int):Prop:=∃ t,PySem.W.nsIn K mainGlobals x=some (some (.int n t))
theorem Oi.ci {K:PySem.W.Frag} {h:Heap} {mg:Str->Option Value} {x:Str} {n:Int} (hk:Oi K x n) (X:K.In h) (G:h.Ns mainGlobals mg):CI mg x n:=by
 obtain ⟨t,e⟩:=hk
 exact ⟨t,PySem.W.mg_of X G e⟩
theorem Ht {K:PySem.W.Frag} {f:Addr} {x qual:Str} {st:Stmt} (h:fnD K f x qual=some (Vz st)):∃ (oc:Value) (od:Option Addr) (kV doc pm:Value) (an:Option Addr) (cdv ct:Value) (osl:Array (Option Value)),
  K.lookup f=some ⟨oc,od,.func (PySem.W.fnOf x qual (eN st) (dO st) (aH st) .none kV doc pm an cdv ct),osl⟩/\PySem.W.codeIn K cdv qual=true/\PySem.W.keepIn K (.ref f)=true:=by
 unfold fnD at h
 split at h
 ·rename_i oc od nm q pa b sc gl kV doc pm an cd ct bl osl e
  split at h
  ·rename_i t
   simp only [Bool.and_eq_true,beq_iff_eq] at t
   obtain ⟨rfl,rfl,rfl,rfl,c,k⟩:=t
   cases h
   exact ⟨oc,od,kV,doc,pm,an,cd,ct,osl,e,c,k⟩
  ·cases h
 ·cases h
theorem Su {K:PySem.W.Frag} {C f:Addr} (h:Zc K C=some f):Aa K C f:=by
 unfold Zc at h
 split at h
 ·rename_i c dd nm bs mro N q hd sn sub ab col hdel sl e
  split at h
  ·rename_i k0 k1 k2 k3 b k5 es
   split at h
   ·rename_i t
    simp only [Bool.and_eq_true,beq_iff_eq,Bool.not_eq_true'] at t
    obtain ⟨rfl,rfl,rfl,rfl,rfl,t1,t2,t3,t4,t5,t6⟩:=t
    split at h
    ·rename_i f' ei
     split at h
     ·rename_i tf
      cases h
      have es:sl=#[k0,k1,k2,k3,some (.builtin "Exception.__new__"),k5]:=by
       cases sl
       exact congrArg Array.mk es
      subst es
      exact ⟨⟨nm,q,N,bs,sn,sub,ab,col,dd,k0,k1,k2,k3,k5,e,t1,ei,t2,t3,t4,t5⟩,tf,t6⟩
     ·cases h
    ·cases h
   ·cases h
  ·cases h
 ·cases h
def Ft.P (K:PySem.W.Frag):Ft->Prop
 |.no x=>PySem.W.nsIn K mainGlobals x=some none
 |.int x n=>Oi K x n
 |.fn x st=>jI K x x st
 |.cl x=>Hf K x (dN K x)
 |.at c f=>PySem.W.findIn K (.ref (dN K c)) f=some none
 |.mt c m q st=>yI K (dN K c) m q st
 |.ints x l=>∃ a,PySem.W.nsIn K mainGlobals x=some (some (.ref a))/\∃ (o:Obj) (its:Array Value) (n:Nat),K.lookup a=some o/\o.cls=.type "tuple"/\o.data=.seq its n/\its.size<=sizeLine/\aZ (l.map V.int) its.toList
 |.exc x q st=>PySem.W.nsIn K mainGlobals x=some (some (.ref (dN K x)))/\∃ (f:Addr) (oc:Value) (od:Option Addr) (kV doc pm:Value) (an:Option Addr) (cdv ct:Value) (osl:Array (Option Value)),
   Aa K (dN K x) f/\K.lookup f=some ⟨oc,od,.func (PySem.W.fnOf "__init__" q (eN st) (dO st) (aH st) .none kV doc pm an cdv ct),osl⟩/\PySem.W.codeIn K cdv q=true/\PySem.W.keepIn K (.ref f)=true
theorem yF:∀ {l:List Int} {vs:List Value},vs.map Xa=l.map some->aZ (l.map V.int) vs
 |[],[],_=>.nil
 |[],v::r,h=>by cases h
 |n::l,[],h=>by cases h
 |n::l,v::r,h=>by
  obtain ⟨h1,h2⟩:=List.cons.inj h
  refine .cons ?_ (yF h2)
  cases v with
  |int m t=>cases h1;exact ⟨t,rfl⟩
  |_=>cases h1
theorem Ft.ok {K:PySem.W.Frag}:∀ {f:Ft},f.D K=f.X->f.P K
 |.no x,h=>beq_iff_eq.mp (congrArg Prod.fst h)
 |.int x n,h=>by
  have h:=congrArg Prod.fst h
  simp only [Ft.D,Ft.X] at h
  split at h
  ·rename_i m t e
   rw [beq_iff_eq] at h
   subst h
   exact ⟨t,e⟩
  ·cases h
 |.fn x st,h=>by
  simp only [Ft.D,Ft.X] at h
  split at h
  ·rename_i f e
   obtain ⟨oc,od,kV,doc,pm,an,cdv,ct,osl,l,c,k⟩:=Ht (congrArg Prod.snd h)
   exact ⟨f,oc,od,kV,doc,pm,an,cdv,ct,osl,e,l,c,k⟩
  ·cases h
 |.cl x,h=>by
  have h:=congrArg Prod.fst h
  simp only [Ft.D,Ft.X] at h
  simp only [Bool.and_eq_true,beq_iff_eq] at h
  obtain ⟨h1,h2,h3,h4,h5,h6,h7⟩:=h
  exact ⟨h1,h2,h3,h4,h5,h6,h7⟩
 |.at c f,h=>beq_iff_eq.mp (congrArg Prod.fst h)
 |.mt c m q st,h=>by
  simp only [Ft.D,Ft.X] at h
  split at h
  ·rename_i f e
   obtain ⟨oc,od,kV,doc,pm,an,cdv,ct,osl,l,c,k⟩:=Ht (congrArg Prod.snd h)
   exact ⟨f,oc,od,kV,doc,pm,an,cdv,ct,osl,e,l,c,k,congrArg Prod.fst h⟩
  ·cases h
 |.ints x l,h=>by
  have h:=congrArg Prod.fst h
  simp only [Ft.D,Ft.X] at h
  split at h
  ·rename_i a e
   split at h
   ·rename_i c d its n sl e2
    simp only [Bool.and_eq_true,beq_iff_eq,decide_eq_true_iff] at h
    obtain ⟨rfl,h2,h3⟩:=h
    have hl:=congrArg List.length h2
    rw [List.length_map,List.length_map,Array.length_toList] at hl
    have hb:=bI
    refine ⟨a,e,_,its,n,e2,rfl,rfl,?_,yF h2⟩
    show its.size<=sizeLine
    omega
   ·cases h
  ·cases h
 |.exc x q st,h=>by
  simp only [Ft.D,Ft.X] at h
  split at h
  ·rename_i f e
   obtain ⟨oc,od,kV,doc,pm,an,cdv,ct,osl,l,c,k⟩:=Ht (congrArg Prod.snd h)
   exact ⟨beq_iff_eq.mp (congrArg Prod.fst h),f,oc,od,kV,doc,pm,an,cdv,ct,osl,Su e,l,c,k⟩
  ·cases h
theorem Gs {h:Heap}:∀ as:List Addr,(frH as h).In h
 |[]=>fun a o e=>by cases e
 |b::r=>fun a o e=>by
  unfold frH at e
  rw [List.filterMap_cons] at e
  cases q:h.get? b with
  |none=>
   rw [q] at e
   exact Gs r a o e
  |some u=>
   rw [q] at e
   have e:List.lookup a ((b,u)::frH r h)=some o:=e
   rw [List.lookup_cons] at e
   split at e
   ·rename_i z
    cases e
    rw [beq_iff_eq.mp z]
    exact q
   ·exact Gs r a o e
def Yt (as:List Addr) (fs:List Ft):PySem.W.Hook where
 α:=List (Bool×Option Df)
 obs s:=fs.map (Ft.D (frH as s.heap))
 val _:=fs.map Ft.X
 says _ h:=∃ K:PySem.W.Frag,K.In h/\∀ f∈fs,f.P K
 of _ s e:=⟨_,Gs as,fun f hf=>Ft.ok (List.map_inj_left.mp e f hf)⟩
 keeps _ _ _ x k:=let ⟨K,a,b⟩:=x;⟨K,a.keeps k,b⟩
theorem Ft.nth {K:PySem.W.Frag} {fs:List Ft} (h:∀ f∈fs,f.P K) (i:Nat) {f:Ft} (e:fs[i]?=some f):f.P K:=h f (List.mem_of_getElem? e)
end Br1
namespace L2
open PySem PySem.Spec PyProof.Rows
open PySem.W (WData Codec OpenSpec)
theorem Hz {r:OpenSpec} {k:Nat} {q:Program} {loose:List Str} {XP:(Str->Option Value)->Heap->Prop} {YP:World->Heap->Prop} {Good:PySem.W.Frag->Prop} {d:DefRec} {CX:Fp} {ps:List Str} {sp:PySem.W.Frag->Sp}
  (hwell:r.wellSaid=true) (hdf:d.params.defaults=[]) (hlen:r.args.length=ps.length) (hr:fU k callerA)
  (hY:∀ (w:World) (h:Heap),YP w h->∃ K:PySem.W.Frag,K.In h/\Good K)
  (F:∀ (w:World) (K:PySem.W.Frag) (mg:Str->Option Value) (fa:Addr) (h:Heap),Good K->K.In h->h.Ns mainGlobals mg->mg d.name=some (.ref fa)->
   ∃ fd:FuncData,(∀ (s:Shared) (us:List Value),us.length=ps.length->BindsTo s fd ⟨us,[]⟩ (ps.zip us))/\
    ∀ base:Heap,K.In base->base.Ns mainGlobals mg->bO r.prog w K mg base CX k fa fd ps (sp K))
  (hsp:∀ (K:PySem.W.Frag) (H:Hp) (xs:List V) (a:Codec.denoteAll r.args),Ki H->Codec.withinAll r.args a=true->Codec.app r.args r.asked a=true->mD K H xs (Codec.encAll r.args a)->
   sp K xs H (fun v H'=>Dw K H' v (r.ret.enc (Codec.app r.args r.f a))) fun _ _ _=>False)
  (hCX:∀ (H:Hp) (s:Shared) (e:Value) (s':Shared),CX [] H s (fun _ _ _=>False) e s'->False):
  PySem.W.WalkOS q loose XP YP r d [] (fun f vs=>PySem.call f vs):=by
 intro w s_0 s₁ mg mb G Y fa o pm cd doc dV kV ho hd hcd hD hmg hg args vals as hpre hlay hrd hwl hlo
 obtain ⟨a,e1,e2⟩:=PySem.W.os_pre_some hpre
 obtain ⟨e3,hwi⟩:=Codec.encAll_of_decAll r.args args a e1
 subst e3
 obtain ⟨K,KX,gk⟩:=hY w _ Y
 obtain ⟨fd,hb,hF⟩:=F w K mg fa _ gk KX G.T.g hmg
 refine PySem.W.enter_call (codeAny_mono (Mq (R:=[]) (cl:=classAt s_0.heap) (d0:=r.ret.enc (Codec.app r.args r.f a)) KX G.T.g G.T.b G.T.builtins G.T.nolimit hg hwl (zL _ _) (wW hlay) hr hF hb (by rw [wO];exact hlen)
  (fun H xs hO hS=>hsp K H xs a hO hwi e2 hS) fun H e s'=>hCX H s₁ e s') fun r' s' hq=>?_)
 obtain ⟨u,as',rfl,h1,h2,h3,h4⟩:=hq
 exact ⟨.inl ⟨u,_,as',rfl,fun _=>rfl,h1,(OpenSpec.post_iff hwell hwi _ _).mpr rfl,fun z=>Bool.noConfusion (show false=true from z)⟩,h2,h3,h4⟩
end L2
namespace Br1
open PySem PySem.Spec PyProof.Rows L2
structure Wt (P:Program) (w:World) (K:PySem.W.Frag) (mg:Str->Option Value) (base:Heap) (CP CB CG:Addr):Prop where
 TG:GvT K CG
 TP:Nq K CP
 TB:BdT K CB
 PM:PtM P w K mg base CP
 BM:BdM P w K mg base CB
 stud:dJ P w K mg base "has_stud" bS 1 ["sign"] sE
 tube:dJ P w K mg base "has_tube" bS 1 ["sign"] rT
 up:dJ P w K mg base "above" bS 1 ["place"] lK
 dn:dJ P w K mg base "below" bS 1 ["place"] nE
 names:dJ P w K mg base "names_of" bS 1 ["parts"] (pE K CP)
 given:dJ P w K mg base "read_given" bS 9 ["c","b"] (Ax K CG CP CB)
section
variable {P:Program} {w:World} {K:PySem.W.Frag} {h:Heap} {mg:Str->Option Value} {base:Heap}
theorem aCq (X:K.In h) (G:h.Ns mainGlobals mg) (hK:∀ f∈ftC,f.P K):Wt P w K mg base (dN K "Part") (dN K "Build") (dN K "Given"):=by
 have g:∀ (i:Nat) (f:Ft),ftC[i]?=some f->f.P K:=fun i f e=>Ft.nth hK i e
 have ci:∀ {x:Str} {n:Int},Oi K x n->CI mg x n:=fun hk=>hk.ci X G
 have nn:∀ {x:Str},PySem.W.nsIn K mainGlobals x=some none->mg x=none:=fun e=>PySem.W.mg_none_of X G e
 have T:Fq K (dN K "Reader"):=⟨Hf.cl (g 0 (.cl "Reader") rfl),(g 1 (.at "Reader" "text") rfl),(g 2 (.at "Reader" "position") rfl)⟩
 have TP:Nq K (dN K "Part"):=⟨Hf.cl (g 3 (.cl "Part") rfl),(g 4 (.at "Part" "name") rfl),(g 5 (.at "Part" "width") rfl),(g 6 (.at "Part" "depth") rfl),(g 7 (.at "Part" "height") rfl),(g 8 (.at "Part" "weight") rfl),(g 9 (.at "Part" "cells") rfl)⟩
 have TB:BdT K (dN K "Build"):=⟨Hf.cl (g 10 (.cl "Build") rfl),(g 11 (.at "Build" "name") rfl),(g 12 (.at "Build" "lines") rfl)⟩
 have TG:GvT K (dN K "Given"):=⟨Hf.cl (g 13 (.cl "Given") rfl),(g 14 (.at "Given" "refusal") rfl),(g 15 (.at "Given" "fault") rfl),(g 16 (.at "Given" "parts") rfl),(g 17 (.at "Given" "build") rfl),(g 18 (.at "Given" "room") rfl)⟩
 obtain ⟨aS,sg1,hS0⟩:=(g 19 (.ints "SIGNS" cG) rfl)
 have hS:∀ H,cN K H aS (cG.map V.int):=fun H=>.inr hS0
 obtain ⟨stk,fS,oc,od,kV,doc,pm,an,cdv,ct,osl,XT,lS,cS,kS⟩:=(g 20 (.exc "Stuck" "Stuck.__init__" pF) rfl)
 have FS:=rC (st:=pF) lS cS kS
 have S:Zg P w K mg base (dN K "Stuck"):=⟨⟨fS,_,XT,Ma FS XT,FS.binds fun _ _ _ _ _ _ us hl=>(by obtain ⟨a,b,rfl⟩:=_root_.L2.Al hl;rfl)⟩,PySem.W.mg_of X G stk⟩
 have L1:dJ P w K mg base "is_letter" bS 1 ["byte"] oO:=jI.fn0 (g 21 (.fn "is_letter" nW) rfl) X G (fun f fd F=>Ch F (nn (g 22 (.no "ord") rfl))) fun _ _ _ _ _ _ us hl=>(by obtain ⟨a,rfl⟩:=_root_.L2.tM hl;rfl)
 have L2:dJ P w K mg base "is_digit" bS 1 ["byte"] nX:=jI.fn0 (g 23 (.fn "is_digit" pP) rfl) X G (fun f fd F=>Hq F (nn (g 22 (.no "ord") rfl))) fun _ _ _ _ _ _ us hl=>(by obtain ⟨a,rfl⟩:=_root_.L2.tM hl;rfl)
 have RK:RdK P w K mg base (dN K "Reader"):=⟨yI.mk (g 24 (.mt "Reader" "__init__" "Reader.__init__" Tu) rfl) (g 0 (.cl "Reader") rfl) (fun f fd F=>Xy F T) fun _ _ _ _ _ _ us hl=>(by obtain ⟨a,b,rfl⟩:=_root_.L2.Al hl;rfl),PySem.W.mg_of X G (Hf.ns (g 0 (.cl "Reader") rfl))⟩
 have M1:nI P w K mg base (dN K "Reader") "ended" bS 1 ["self"] (nQ K (dN K "Reader")):=yI.mt (g 25 (.mt "Reader" "ended" "Reader.ended" Aq) rfl) (fun f fd F=>Nz F T (nn (g 26 (.no "len") rfl))) fun _ _ _ _ _ _ us hl=>(by obtain ⟨a,rfl⟩:=_root_.L2.tM hl;rfl)
 obtain ⟨t0,e0⟩:=ci (g 27 (.int "NO_BYTE" 256) rfl)
 have M2:nI P w K mg base (dN K "Reader") "here" bS 2 ["self"] (oR K (dN K "Reader")):=yI.mt (g 28 (.mt "Reader" "here" "Reader.here" Jg) rfl) (fun f fd F=>Vg F T e0 M1) fun _ _ _ _ _ _ us hl=>(by obtain ⟨a,rfl⟩:=_root_.L2.tM hl;rfl)
 have M3:nI P w K mg base (dN K "Reader") "take" bS 3 ["self"] (pB K (dN K "Reader")):=yI.mt (g 29 (.mt "Reader" "take" "Reader.take" Kk) rfl) (fun f fd F=>Ss F T M2) fun _ _ _ _ _ _ us hl=>(by obtain ⟨a,rfl⟩:=_root_.L2.tM hl;rfl)
 have M4:nI P w K mg base (dN K "Reader") "read_one_of" (iS (dN K "Stuck") P w) 4 ["self","signs"] (pH K (dN K "Reader")):=yI.mt (g 30 (.mt "Reader" "read_one_of" "Reader.read_one_of" Ai) rfl) (fun f fd F=>Ot F T S M2 M3) fun _ _ _ _ _ _ us hl=>(by obtain ⟨a,b,rfl⟩:=_root_.L2.Al hl;rfl)
 have M5:nI P w K mg base (dN K "Reader") "read_word" (iS (dN K "Stuck") P w) 5 ["self","word"] (kO K (dN K "Reader")):=yI.mt (g 31 (.mt "Reader" "read_word" "Reader.read_word" Ja) rfl) (fun f fd F=>Th F T (nn (g 22 (.no "ord") rfl)) M4) fun _ _ _ _ _ _ us hl=>(by obtain ⟨a,b,rfl⟩:=_root_.L2.Al hl;rfl)
 have M6:nI P w K mg base (dN K "Reader") "read_name" (iS (dN K "Stuck") P w) 4 ["self","longest"] (oU K (dN K "Reader")):=yI.mt (g 32 (.mt "Reader" "read_name" "Reader.read_name" Iu) rfl) (fun f fd F=>Ux F T S (nn (g 26 (.no "len") rfl)) (nn (g 33 (.no "tuple") rfl)) M2 M3 L1 L2) fun _ _ _ _ _ _ us hl=>(by obtain ⟨a,b,rfl⟩:=_root_.L2.Al hl;rfl)
 have M7:nI P w K mg base (dN K "Reader") "read_number" (iS (dN K "Stuck") P w) 4 ["self","least","most"] (jU K (dN K "Reader")):=yI.mt (g 34 (.mt "Reader" "read_number" "Reader.read_number" uH) rfl) (fun f fd F=>Nj F T S (nn (g 22 (.no "ord") rfl)) M2 M3 L2) fun _ _ _ _ _ _ us hl=>(by obtain ⟨a,b,c,rfl⟩:=_root_.L2.Yo hl;rfl)
 have M8:nI P w K mg base (dN K "Reader") "read_end" (iS (dN K "Stuck") P w) 3 ["self"] (xT K (dN K "Reader")):=yI.mt (g 35 (.mt "Reader" "read_end" "Reader.read_end" Vj) rfl) (fun f fd F=>Zi F T S M1) fun _ _ _ _ _ _ us hl=>(by obtain ⟨a,rfl⟩:=_root_.L2.tM hl;rfl)
 have PM:PtM P w K mg base (dN K "Part"):=⟨yI.mk (g 36 (.mt "Part" "__init__" "Part.__init__" Ar) rfl) (g 3 (.cl "Part") rfl) (fun f fd F=>Pw F TP) fun _ _ _ _ _ _ us hl=>(by obtain ⟨a,b,c,d,e,f,g,rfl⟩:=_root_.L2.us7 hl;rfl),PySem.W.mg_of X G (Hf.ns (g 3 (.cl "Part") rfl))⟩
 have BM:BdM P w K mg base (dN K "Build"):=⟨yI.mk (g 37 (.mt "Build" "__init__" "Build.__init__" uK) rfl) (g 10 (.cl "Build") rfl) (fun f fd F=>Yk F TB) fun _ _ _ _ _ _ us hl=>(by obtain ⟨a,b,c,rfl⟩:=_root_.L2.Yo hl;rfl),PySem.W.mg_of X G (Hf.ns (g 10 (.cl "Build") rfl))⟩
 have GM:GvM P w K mg base (dN K "Given"):=⟨yI.mkN (g 38 (.mt "Given" "__init__" "Given.__init__" uD) rfl) (g 13 (.cl "Given") rfl) (fun f fd F=>Ta F TG) fun _ _ _ _ _ _ us hl=>(by obtain ⟨a,b,c,d,e,rfl⟩:=_root_.L2.us5 hl;rfl),PySem.W.mg_of X G (Hf.ns (g 13 (.cl "Given") rfl))⟩
 have L3:dJ P w K mg base "has_stud" bS 1 ["sign"] sE:=jI.fn0 (g 39 (.fn "has_stud" qL) rfl) X G (fun f fd F=>Vl F (ci (g 40 (.int "STUD" 115) rfl)) (ci (g 41 (.int "BOTH" 98) rfl))) fun _ _ _ _ _ _ us hl=>(by obtain ⟨a,rfl⟩:=_root_.L2.tM hl;rfl)
 have L4:dJ P w K mg base "has_tube" bS 1 ["sign"] rT:=jI.fn0 (g 42 (.fn "has_tube" pL) rfl) X G (fun f fd F=>Vp F (ci (g 43 (.int "TUBE" 116) rfl)) (ci (g 41 (.int "BOTH" 98) rfl))) fun _ _ _ _ _ _ us hl=>(by obtain ⟨a,rfl⟩:=_root_.L2.tM hl;rfl)
 have L5:dJ P w K mg base "above" bS 1 ["place"] lK:=jI.fn0 (g 44 (.fn "above" Bk) rfl) X G (fun f fd F=>Sj F) fun _ _ _ _ _ _ us hl=>(by obtain ⟨a,rfl⟩:=_root_.L2.tM hl;rfl)
 have L6:dJ P w K mg base "below" bS 1 ["place"] nE:=jI.fn0 (g 45 (.fn "below" Bv) rfl) X G (fun f fd F=>Ri F) fun _ _ _ _ _ _ us hl=>(by obtain ⟨a,rfl⟩:=_root_.L2.tM hl;rfl)
 have L9:dJ P w K mg base "read_cells" (iS (dN K "Stuck") P w) 6 ["reader","width","depth","height"] (Az K (dN K "Reader")):=jI.fn0 (g 46 (.fn "read_cells" lL) rfl) X G (fun f fd F=>Qw F T (nn (g 47 (.no "range") rfl)) hS (PySem.W.mg_of X G sg1) (ci (g 48 (.int "NO_CELL" 46) rfl)) M4 M5) fun _ _ _ _ _ _ us hl=>(by obtain ⟨a,b,c,d,rfl⟩:=_root_.L2.us4 hl;rfl)
 have L8:dJ P w K mg base "read_part" (iS (dN K "Stuck") P w) 7 ["reader"] (Gc K (dN K "Reader") (dN K "Part")):=jI.fn0 (g 49 (.fn "read_part" mY) rfl) X G (fun f fd F=>Td F T PM (ci (g 50 (.int "LONGEST_PART_NAME" 8) rfl)) (ci (g 51 (.int "MOST_WIDTH" 16) rfl)) (ci (g 52 (.int "MOST_DEPTH" 16) rfl)) (ci (g 53 (.int "MOST_HEIGHT" 18) rfl)) (ci (g 54 (.int "MOST_WEIGHT" 9999) rfl)) M5 M6 M7 L9) fun _ _ _ _ _ _ us hl=>(by obtain ⟨a,rfl⟩:=_root_.L2.tM hl;rfl)
 have L7:dJ P w K mg base "read_catalogue" (iS (dN K "Stuck") P w) 8 ["c"] (Jj K (dN K "Part")):=jI.fn0 (g 55 (.fn "read_catalogue" qY) rfl) X G (fun f fd F=>Zk F T RK (nn (g 26 (.no "len") rfl)) (ci (g 56 (.int "MOST_PARTS" 64) rfl)) M1 M8 L8) fun _ _ _ _ _ _ us hl=>(by obtain ⟨a,rfl⟩:=_root_.L2.tM hl;rfl)
 have L12:dJ P w K mg base "studs_clear" bS 2 ["part"] (Bd (dN K "Part")):=jI.fn0 (g 57 (.fn "studs_clear" Aj) rfl) X G (fun f fd F=>Qs F TP L3 L5) fun _ _ _ _ _ _ us hl=>(by obtain ⟨a,rfl⟩:=_root_.L2.tM hl;rfl)
 have L13:dJ P w K mg base "tubes_clear" bS 2 ["part"] (Bp (dN K "Part")):=jI.fn0 (g 58 (.fn "tubes_clear" Ad) rfl) X G (fun f fd F=>Op F TP L4 L6) fun _ _ _ _ _ _ us hl=>(by obtain ⟨a,rfl⟩:=_root_.L2.tM hl;rfl)
 have L14:dJ P w K mg base "fills_its_box" bS 2 ["part"] (Bo (dN K "Part")):=jI.fn0 (g 59 (.fn "fills_its_box" uM) rfl) X G (fun f fd F=>Od F TP (nn (g 60 (.no "enumerate") rfl))) fun _ _ _ _ _ _ us hl=>(by obtain ⟨a,rfl⟩:=_root_.L2.tM hl;rfl)
 have L16:dJ P w K mg base "neighbours" bS 2 ["place"] Ap:=jI.fn0 (g 61 (.fn "neighbours" Ae) rfl) X G (fun f fd F=>Qg F L5 L6) fun _ _ _ _ _ _ us hl=>(by obtain ⟨a,rfl⟩:=_root_.L2.tM hl;rfl)
 have L15:dJ P w K mg base "hangs_together" bS 3 ["part"] (zS (dN K "Part")):=jI.fn0 (g 62 (.fn "hangs_together" Ac) rfl) X G (fun f fd F=>Qp F TP (nn (g 26 (.no "len") rfl)) (nn (g 63 (.no "list") rfl)) L16) fun _ _ _ _ _ _ us hl=>(by obtain ⟨a,rfl⟩:=_root_.L2.tM hl;rfl)
 have L17:dJ P w K mg base "names_grow" bS 2 ["parts"] (Fy K (dN K "Part")):=jI.fn0 (g 64 (.fn "names_grow" Iv) rfl) X G (fun f fd F=>Sz F TP (nn (g 47 (.no "range") rfl)) (nn (g 26 (.no "len") rfl))) fun _ _ _ _ _ _ us hl=>(by obtain ⟨a,rfl⟩:=_root_.L2.tM hl;rfl)
 have L11:dJ P w K mg base "part_right" bS 4 ["part"] (tX (dN K "Part")):=jI.fn0 (g 65 (.fn "part_right" lA) rfl) X G (fun f fd F=>Pe F L12 L13 L14 L15) fun _ _ _ _ _ _ us hl=>(by obtain ⟨a,rfl⟩:=_root_.L2.tM hl;rfl)
 have L10:dJ P w K mg base "catalogue_right" bS 5 ["parts"] (oK K (dN K "Part")):=jI.fn0 (g 66 (.fn "catalogue_right" kH) rfl) X G (fun f fd F=>Cg F (nn (g 67 (.no "all") rfl)) L11 L17) fun _ _ _ _ _ _ us hl=>(by obtain ⟨a,rfl⟩:=_root_.L2.tM hl;rfl)
 have L21:dJ P w K mg base "some_begins" bS 2 ["names","beginning"] (uL K):=jI.fn0 (g 68 (.fn "some_begins" qA) rfl) X G (fun f fd F=>Lk F (nn (g 69 (.no "any") rfl)) (nn (g 26 (.no "len") rfl))) fun _ _ _ _ _ _ us hl=>(by obtain ⟨a,b,rfl⟩:=_root_.L2.Al hl;rfl)
 have L20:dJ P w K mg base "read_part_number" (iS (dN K "Stuck") P w) 5 ["reader","names"] (uX K (dN K "Reader")):=jI.fn0 (g 70 (.fn "read_part_number" uA) rfl) X G (fun f fd F=>Nb F T S M2 M3 L21) fun _ _ _ _ _ _ us hl=>(by obtain ⟨a,b,rfl⟩:=_root_.L2.Al hl;rfl)
 have L19:dJ P w K mg base "read_line" (iS (dN K "Stuck") P w) 6 ["reader","names"] (Hd K (dN K "Reader")):=jI.fn0 (g 71 (.fn "read_line" nJ) rfl) X G (fun f fd F=>Ue F T (nn (g 33 (.no "tuple") rfl)) (ci (g 72 (.int "MOST_COLOUR" 255) rfl)) (ci (g 73 (.int "ROOM_WIDTH" 64) rfl)) (ci (g 74 (.int "ROOM_DEPTH" 64) rfl)) (ci (g 75 (.int "ROOM_HEIGHT" 96) rfl)) (ci (g 76 (.int "MOST_TURNS" 3) rfl)) M5 M7 L20) fun _ _ _ _ _ _ us hl=>(by obtain ⟨a,b,rfl⟩:=_root_.L2.Al hl;rfl)
 have L18:dJ P w K mg base "read_build" (iS (dN K "Stuck") P w) 7 ["b","names"] (uI K (dN K "Build")):=jI.fn0 (g 77 (.fn "read_build" kR) rfl) X G (fun f fd F=>Pa F T RK BM (nn (g 26 (.no "len") rfl)) (ci (g 78 (.int "LONGEST_BUILD_NAME" 16) rfl)) (ci (g 79 (.int "MOST_LINES" 256) rfl)) M1 M8 M5 M6 L19) fun _ _ _ _ _ _ us hl=>(by obtain ⟨a,b,rfl⟩:=_root_.L2.Al hl;rfl)
 have L22:dJ P w K mg base "names_of" bS 1 ["parts"] (pE K (dN K "Part")):=jI.fn0 (g 80 (.fn "names_of" mS) rfl) X G (fun f fd F=>Qr F TP) fun _ _ _ _ _ _ us hl=>(by obtain ⟨a,rfl⟩:=_root_.L2.tM hl;rfl)
 exact ⟨TG,TP,TB,PM,BM,L3,L4,L5,L6,L22,jI.fn0 (g 81 (.fn "read_given" iP) rfl) X G (fun f fd F=>Ou F GM S (nn (g 26 (.no "len") rfl)) (ci (g 82 (.int "MOST_CATALOGUE_BYTES" 1048576) rfl)) (ci (g 83 (.int "MOST_BUILD_BYTES" 16384) rfl)) L7 L10 L18 L22) fun _ _ _ _ _ _ us hl=>(by obtain ⟨a,b,rfl⟩:=_root_.L2.Al hl;rfl)⟩
end
end Br1
namespace Br1
def aX (t:Br.Bytes):List Int:=t.map fun c=>(c.toNat:Int)
abbrev At (t:Br.Bytes) (p:Nat):Nat×Br.Bytes:=(p,t.drop p)
def qZ (i:Int):UInt8:=UInt8.ofNat i.toNat
theorem Rn (c:UInt8):qZ (c.toNat:Int)=c:=by
 unfold qZ
 rw [Int.toNat_natCast]
 exact UInt8.ofNat_toNat
theorem fM {t:Br.Bytes} {p:Nat} {c:UInt8} (h:t[p]?=some c):aQ (aX t) p=(c.toNat:Int):=by
 unfold aQ aX
 rw [List.getElem?_map,h]
 rfl
theorem fO {t:Br.Bytes} {p:Nat} (h:t[p]?=none):aQ (aX t) p=256:=by
 unfold aQ aX
 rw [List.getElem?_map,h]
 rfl
theorem pR {t:Br.Bytes} {p:Nat} {c:UInt8}:aQ (aX t) p=(c.toNat:Int)↔t[p]?=some c:=by
 constructor
 ·intro h
  cases e:t[p]? with
  |none=>
   rw [fO e] at h
   have:=UInt8.toNat_lt c
   omega
  |some d=>
   rw [fM e] at h
   have:d.toNat=c.toNat:=by omega
   rw [UInt8.toNat_inj.mp this]
 ·exact fM
theorem fE (t:Br.Bytes):(aX t).length=t.length:=List.length_map _
section
variable {α β:Type} {t:Br.Bytes} {p:Nat}
theorem bF {x:Br.Rd α} {f:α->Br.Rd β} {s:Nat×Br.Bytes}:(x>>=f) s=eD (x s) fun r=>f r.1 r.2:=by
 show (StateT.bind x f) s=_
 unfold StateT.bind
 cases x s with
 |error e=>rfl
 |ok r=>rfl
theorem jB:Br.peek (At t p)=.ok (t[p]?,At t p):=by
 show Except.ok ((t.drop p).head?,_)=_
 rw [List.head?_drop]
theorem nH:Br.skip (At t p)=.ok ((),At t (p+1)):=by
 show Except.ok ((),(p+1,(t.drop p).drop 1))=_
 rw [List.drop_drop]
end
def eX {α β:Type} (t:Br.Bytes) (f:α->β):Except Nat (α×Nat)->Except Nat (β×(Nat×Br.Bytes))
 |.ok x=>.ok (f x.1,At t x.2)
 |.error e=>.error e
def Km (t:Br.Bytes):Except Nat Nat->Except Nat (Unit×(Nat×Br.Bytes))
 |.ok q=>.ok ((),At t q)
 |.error e=>.error e
theorem As {t:Br.Bytes} {p:Nat} {c:UInt8}:Br.byte_ c (At t p)=if t[p]?=some c then .ok ((),At t (p+1)) else .error p:=by
 unfold Br.byte_
 rw [bF,jB,bY]
 show (if t[p]?=some c then Br.skip else Br.stray) (At t p)=_
 by_cases h:t[p]?=some c
 ·rw [if_pos h,if_pos h]
  exact nH
 ·rw [if_neg h,if_neg h]
  rfl
theorem qV {t:Br.Bytes}:∀ {cs:Br.Bytes} {p:Nat},Br.bytes_ cs (At t p)=Km t (aU (aX t) p (cs.map UInt8.toNat))
 |[],p=>rfl
 |c::r,p=>by
  rw [Br.bytes_,bF,As]
  rw [List.map_cons,aU]
  by_cases h:t[p]?=some c
  ·rw [if_pos h,if_pos (pR.mpr h)]
   exact qV
  ·rw [if_neg h,if_neg (fun z=>h (pR.mp z))]
   rfl
theorem nG {t:Br.Bytes} {p:Nat} {c:UInt8}:Br.byte_ c (At t p)=Km t (aU (aX t) p [c.toNat]):=by
 rw [As,aU]
 by_cases h:t[p]?=some c
 ·rw [if_pos h,if_pos (pR.mpr h)]
  rfl
 ·rw [if_neg h,if_neg (fun z=>h (pR.mp z))]
  rfl
theorem Wv {lo hi n:Nat} (hlo:lo<=1) (hh:lo<=hi):Br.leadsTo lo hi n=decide (lo<=n/\n<=hi):=by
 unfold Br.leadsTo
 by_cases hn:n=0
 ·rw [if_pos hn,hn,Bool.eq_iff_iff,beq_iff_eq,decide_eq_true_iff]
  (clear hn hh hlo;omega)
 ·rw [if_neg hn,Bool.eq_iff_iff,List.any_eq_true,decide_eq_true_iff]
  constructor
  ·rintro ⟨k,_,h⟩
   rw [Bool.and_eq_true,decide_eq_true_iff,decide_eq_true_iff] at h
   have h1:1<=10 ^ k:=Nat.one_le_pow _ _ (by decide)
   have h2:n * 1<=n * 10 ^ k:=Nat.mul_le_mul_left n h1
   (clear h1 hh;omega)
  ·rintro ⟨h1,h2⟩
   refine ⟨0,by simp,?_⟩
   rw [Bool.and_eq_true,decide_eq_true_iff,decide_eq_true_iff]
   simp
   (clear h1 hh;omega)
theorem fL (c:UInt8):Br.isDigit c=jD (c.toNat:Int):=by
 unfold Br.isDigit jD
 rw [Bool.eq_iff_iff,Bool.and_eq_true,Bool.and_eq_true,decide_eq_true_iff,decide_eq_true_iff,decide_eq_true_iff,decide_eq_true_iff]
 omega
theorem uO (c:UInt8):Br.isLow c=jY (c.toNat:Int):=by
 unfold Br.isLow jY
 rw [Bool.eq_iff_iff,Bool.and_eq_true,Bool.and_eq_true,decide_eq_true_iff,decide_eq_true_iff,decide_eq_true_iff,decide_eq_true_iff]
 omega
theorem sP {t:Br.Bytes} {lo hi f p:Nat} {v:Option Nat}:Br.digits lo hi (f+1) v (At t p)=
  match ((t[p]?).bind fun (c:UInt8)=>if Br.isDigit c=false\/v=some 0 then Option.none else (if Br.leadsTo lo hi (10 * v.getD 0+(c.toNat - 48))=true then some (10 * v.getD 0+(c.toNat - 48)) else Option.none)) with
  |some n=>Br.digits lo hi f (some n) (At t (p+1))
  |Option.none=>match v with
   |some n=>if lo<=n/\n<=hi then .ok (n,At t p) else .error p
   |Option.none=>.error p:=by
 show (Br.peek>>=fun (o:Option UInt8)=>(match (o.bind fun (c:UInt8)=>if Br.isDigit c=false\/v=some 0 then Option.none else (if Br.leadsTo lo hi (10 * v.getD 0+(c.toNat - 48))=true then some (10 * v.getD 0+(c.toNat - 48)) else Option.none)) with
  |some n=>(do Br.skip;Br.digits lo hi f (some n):Br.Rd Nat)
  |Option.none=>(match v with
   |some n=>(if lo<=n/\n<=hi then pure n else Br.stray:Br.Rd Nat)
   |Option.none=>Br.stray))) (At t p)=_
 rw [bF,jB]
 show (match ((t[p]?).bind fun (c:UInt8)=>if Br.isDigit c=false\/v=some 0 then Option.none else (if Br.leadsTo lo hi (10 * v.getD 0+(c.toNat - 48))=true then some (10 * v.getD 0+(c.toNat - 48)) else Option.none)) with
  |some n=>(do Br.skip;Br.digits lo hi f (some n):Br.Rd Nat)
  |Option.none=>(match v with
   |some n=>(if lo<=n/\n<=hi then pure n else Br.stray:Br.Rd Nat)
   |Option.none=>Br.stray)) (At t p)=_
 cases (t[p]?).bind fun (c:UInt8)=>if Br.isDigit c=false\/v=some 0 then Option.none else (if Br.leadsTo lo hi (10 * v.getD 0+(c.toNat - 48))=true then some (10 * v.getD 0+(c.toNat - 48)) else Option.none) with
 |some n=>
  show (Br.skip>>=fun _=>Br.digits lo hi f (some n)) (At t p)=_
  rw [bF,nH]
  rfl
 |none=>
  cases v with
  |none=>rfl
  |some n=>
   by_cases h:lo<=n/\n<=hi
   ·simp only [h,if_true,and_self]
    rfl
   ·simp only [h,if_false]
    rfl
theorem sX {t:Br.Bytes} {lo hi:Nat} (hlo:lo<=1):∀ {f p n m:Nat},1<=f->(n=0\/hi<n * 10 ^ f)->lo<=n->n<=hi->t.length<=p+m->
  Br.digits lo hi f (some n) (At t p)=.ok ((cW (aX t) hi m p (n:Int)).1.toNat,At t (cW (aX t) hi m p (n:Int)).2)
 |0,p,n,m,h,_,_,_,_=>absurd h (by decide)
 |f+1,p,n,m,_,hc,h1,h2,hm=>by
  rw [sP]
  have stop:(cW (aX t) hi m p (n:Int))=((n:Int),p)->(if lo<=n/\n<=hi then (.ok (n,At t p):Except Nat (Nat×(Nat×Br.Bytes))) else .error p)=.ok ((cW (aX t) hi m p (n:Int)).1.toNat,At t (cW (aX t) hi m p (n:Int)).2):=fun e=>by
   rw [if_pos ⟨h1,h2⟩,e]
   show _=Except.ok (((n:Int)).toNat,At t p)
   rw [Int.toNat_natCast]
  cases e:t[p]? with
  |none=>
   show (if lo<=n/\n<=hi then (.ok (n,At t p):Except Nat (Nat×(Nat×Br.Bytes))) else .error p)=_
   refine stop ?_
   cases m with
   |zero=>rfl
   |succ m=>
    rw [cW,if_neg]
    rintro ⟨_,z,_⟩
    rw [fO e] at z
    revert z
    decide
  |some c=>
   have hp:p<t.length:=(List.getElem?_eq_some_iff.mp e).1
   obtain ⟨m,rfl⟩:∃ m',m=m'+1:=⟨m - 1,by (clear h2 h1 hc hlo;omega)⟩
   have hh:=fM e
   by_cases hd:Br.isDigit c=false\/(some n:Option Nat)=some 0
   ·show (match (if Br.isDigit c=false\/(some n:Option Nat)=some 0 then (Option.none:Option Nat) else _) with
     |some n=>_
     |Option.none=>(if lo<=n/\n<=hi then (.ok (n,At t p):Except Nat (Nat×(Nat×Br.Bytes))) else .error p))=_
    rw [if_pos hd]
    refine stop ?_
    rw [cW,if_neg]
    rintro ⟨z1,z2,_⟩
    rw [hh,<-fL] at z2
    rcases hd with hd|hd
    ·rw [hd] at z2;cases z2
    ·cases hd;exact absurd z1 (by decide)
   ·have hd1:Br.isDigit c=true:=by
     cases z:Br.isDigit c with
     |true=>rfl
     |false=>exact absurd (.inl z) hd
    have hn0:n≠0:=fun z=>hd (.inr (by rw [z]))
    have hdr:48<=c.toNat/\c.toNat<=57:=by
     rw [fL] at hd1
     have:=iE hd1
     (clear hn0 hd hh hm hp h2 h1 hc hlo;omega)
    show (match (if Br.isDigit c=false\/(some n:Option Nat)=some 0 then (Option.none:Option Nat) else (if Br.leadsTo lo hi (10 * n+(c.toNat - 48))=true then some (10 * n+(c.toNat - 48)) else Option.none)) with
     |some n=>Br.digits lo hi f (some n) (At t (p+1))
     |Option.none=>(if lo<=n/\n<=hi then (.ok (n,At t p):Except Nat (Nat×(Nat×Br.Bytes))) else .error p))=_
    rw [if_neg hd,Wv hlo (Nat.le_trans h1 h2)]
    by_cases hl:lo<=10 * n+(c.toNat - 48)/\10 * n+(c.toNat - 48)<=hi
    ·rw [if_pos (decide_eq_true hl)]
     have hpow:n * 10 ^ (f+1)=(10 * n) * 10 ^ f:=by rw [Nat.pow_succ,Nat.mul_comm (10 ^ f) 10,<-Nat.mul_assoc,Nat.mul_comm n 10]
     have hc2:hi<n * 10 ^ (f+1):=by
      rcases hc with z|z
      ·exact absurd z hn0
      ·exact z
     have hf:1<=f:=by
      cases f with
      |zero=>rw [hpow,Nat.pow_zero,Nat.mul_one] at hc2;(clear hc2 hpow hdr hd hh hm hp h2 h1 hlo;omega)
      |succ f=>(clear hc2 hpow hc hl hdr hn0 hd hh hm hp h2 h1 hlo;omega)
     have hmul:(10 * n) * 10 ^ f<=(10 * n+(c.toNat - 48)) * 10 ^ f:=Nat.mul_le_mul_right _ (by (clear hf hc2 hpow hl hdr hn0 hd hh hm hp h2 h1 hc hlo;omega))
     show Br.digits lo hi f (some (10 * n+(c.toNat - 48))) (At t (p+1))=_
     rw [sX hlo (m:=m) hf (.inr (by (clear hf hc2 hl hdr hd hh hm hp h2 h1 hlo;omega))) hl.1 hl.2 (by (clear hmul hf hc2 hpow hl hdr hn0 hd hh hp h2 h1 hc hlo;omega))]
     have e2:cW (aX t) hi (m+1) p (n:Int)=cW (aX t) hi m (p+1) ((10 * n+(c.toNat - 48):Nat):Int):=by
      rw [cW,if_pos]
      ·congr 1
       rw [hh]
       (clear hmul hf hc2 hpow hl hn0 hd hh hm hp h2 h1 hc hlo;omega)
      ·rw [hh]
       refine ⟨by (clear hmul hf hc2 hpow hl hdr hd hh hm hp h2 h1 hc hlo;omega),by rw [<-fL];exact hd1,by (clear hmul hf hc2 hpow hdr hn0 hd hh hm hp h2 h1 hc hlo;omega)⟩
     rw [e2]
    ·rw [if_neg (by rw [decide_eq_false hl];decide)]
     refine stop ?_
     rw [cW,if_neg]
     rw [hh]
     rintro ⟨_,_,z⟩
     exact hl ⟨by (clear z hl hdr hn0 hd hh hm hp h2 h1 hc;omega),by (clear hl hn0 hd hh hm hp h2 h1 hc hlo;omega)⟩
theorem Yh {t:Br.Bytes} {lo hi p:Nat} (hlo:lo<=1) (h1:lo<=hi) (hhi:hi<=100000):Br.num lo hi (At t p)=eX t id (iU (aX t) p lo hi):=by
 unfold Br.num
 rw [sP]
 unfold iU
 cases e:t[p]? with
 |none=>
  rw [if_neg]
  ·rfl
  ·rintro ⟨z,_⟩
   rw [fO e] at z
   revert z
   decide
 |some c=>
  have hh:=fM e
  show (match (if Br.isDigit c=false\/(Option.none:Option Nat)=some 0 then (Option.none:Option Nat) else (if Br.leadsTo lo hi (10 * 0+(c.toNat - 48))=true then some (10 * 0+(c.toNat - 48)) else Option.none)) with
   |some n=>Br.digits lo hi 19 (some n) (At t (p+1))
   |Option.none=>(.error p:Except Nat (Nat×(Nat×Br.Bytes))))=_
  by_cases hd:Br.isDigit c=true
  ·have hdr:48<=c.toNat/\c.toNat<=57:=by
    rw [fL] at hd
    have:=iE hd
    (clear hh hhi h1 hlo;omega)
   rw [if_neg (by rw [hd];simp),Wv hlo h1]
   by_cases hl:lo<=10 * 0+(c.toNat - 48)/\10 * 0+(c.toNat - 48)<=hi
   ·have hok:jE (aX t) p lo hi:=by
     unfold jE
     rw [hh]
     exact ⟨by rw [<-fL];exact hd,by (clear hh hhi h1 hlo;omega),by (clear hdr hh hhi h1 hlo;omega)⟩
    rw [if_pos (decide_eq_true hl),if_pos hok]
    have hp:p<t.length:=(List.getElem?_eq_some_iff.mp e).1
    have big:10 * 0+(c.toNat - 48)=0\/hi<(10 * 0+(c.toNat - 48)) * 10 ^ 19:=by (clear hp hl hdr hh h1 hlo;omega)
    show Br.digits lo hi 19 (some (10 * 0+(c.toNat - 48))) (At t (p+1))=_
    rw [sX hlo (m:=(aX t).length - (p+1)) (by decide) big hl.1 hl.2 (by rw [fE];(clear big hp hl hdr hh hhi h1 hlo;omega))]
    have e2:((10 * 0+(c.toNat - 48):Nat):Int)=aQ (aX t) p - 48:=by rw [hh];(clear big hp hl hh hhi h1 hlo;omega)
    rw [e2]
    rfl
   ·have hno:¬jE (aX t) p lo hi:=by
     unfold jE
     rw [hh]
     rintro ⟨_,z1,z2⟩
     exact hl ⟨by (clear z2 hl hdr hh hhi h1 hlo;omega),by (clear z1 hl hdr hh hhi h1 hlo;omega)⟩
    rw [if_neg (by rw [decide_eq_false hl];decide),if_neg hno]
    rfl
  ·have hd:Br.isDigit c=false:=by
    cases z:Br.isDigit c with
    |false=>rfl
    |true=>exact absurd z hd
   have hno:¬jE (aX t) p lo hi:=by
    unfold jE
    rw [hh,<-fL,hd]
    rintro ⟨z,_⟩
    cases z
   rw [if_pos (.inl hd),if_neg hno]
   rfl
theorem Dd {t:Br.Bytes}:∀ {n p:Nat},Br.while_ (fun (c:UInt8)=>Br.isLow c||Br.isDigit c) n (At t p)=.ok ((bE (aX t) p n).map qZ,At t (p+(bE (aX t) p n).length))
 |0,p=>rfl
 |n+1,p=>by
  show (Br.peek>>=fun (o:Option UInt8)=>(match o with
   |some c=>(if (Br.isLow c||Br.isDigit c)=true then (do Br.skip;let r <-Br.while_ (fun (c:UInt8)=>Br.isLow c||Br.isDigit c) n;return c::r) else return []:Br.Rd Br.Bytes)
   |Option.none=>return [])) (At t p)=_
  rw [bF,jB,bE]
  cases e:t[p]? with
  |none=>
   rw [if_neg (by rw [fO e];decide)]
   rfl
  |some c=>
   have hh:=fM e
   have ea:gP (aQ (aX t) p)=(Br.isLow c||Br.isDigit c):=by rw [hh,uO,fL];rfl
   by_cases h:(Br.isLow c||Br.isDigit c)=true
   ·rw [if_pos (by rw [ea];exact h)]
    show (if (Br.isLow c||Br.isDigit c)=true then (do Br.skip;let r <-Br.while_ (fun (c:UInt8)=>Br.isLow c||Br.isDigit c) n;return c::r) else return []:Br.Rd Br.Bytes) (At t p)=_
    rw [if_pos h]
    show (Br.skip>>=fun _=>Br.while_ (fun (c:UInt8)=>Br.isLow c||Br.isDigit c) n>>=fun r=>pure (c::r)) (At t p)=_
    rw [bF,nH]
    show (Br.while_ (fun (c:UInt8)=>Br.isLow c||Br.isDigit c) n>>=fun r=>pure (c::r)) (At t (p+1))=_
    rw [bF,Dd]
    show Except.ok (c::(bE (aX t) (p+1) n).map qZ,At t (p+1+(bE (aX t) (p+1) n).length))=_
    rw [List.map_cons,List.length_cons,hh,Rn]
    congr 3<;>(clear hh;omega)
   ·rw [if_neg (by rw [ea];exact h)]
    show (if (Br.isLow c||Br.isDigit c)=true then (do Br.skip;let r <-Br.while_ (fun (c:UInt8)=>Br.isLow c||Br.isDigit c) n;return c::r) else return []:Br.Rd Br.Bytes) (At t p)=_
    rw [if_neg h]
    rfl
theorem Jq {t:Br.Bytes} {p n:Nat}:(Br.peek>>=fun (o:Option UInt8)=>(match o with
   |some c=>(if Br.isLow c=true then (do Br.skip;let r <-Br.while_ (fun (c:UInt8)=>Br.isLow c||Br.isDigit c) n;return c::r) else Br.stray:Br.Rd Br.Bytes)
   |Option.none=>Br.stray)) (At t p)=eX t (List.map qZ) (gA (aX t) p (n+1)):=by
 rw [bF,jB]
 unfold gA
 cases e:t[p]? with
 |none=>
  rw [if_neg (by rw [fO e];decide)]
  rfl
 |some c=>
  have hh:=fM e
  by_cases h:Br.isLow c=true
  ·have hl:jY (aQ (aX t) p)=true:=by rw [hh,<-uO];exact h
   have ha:gP (aQ (aX t) p)=true:=by unfold gP;rw [hl];rfl
   rw [if_pos hl]
   show (if Br.isLow c=true then (do Br.skip;let r <-Br.while_ (fun (c:UInt8)=>Br.isLow c||Br.isDigit c) n;return c::r) else Br.stray:Br.Rd Br.Bytes) (At t p)=_
   rw [if_pos h]
   show (Br.skip>>=fun _=>Br.while_ (fun (c:UInt8)=>Br.isLow c||Br.isDigit c) n>>=fun r=>pure (c::r)) (At t p)=_
   rw [bF,nH]
   show (Br.while_ (fun (c:UInt8)=>Br.isLow c||Br.isDigit c) n>>=fun r=>pure (c::r)) (At t (p+1))=_
   rw [bF,Dd]
   have en:bE (aX t) p (n+1)=aQ (aX t) p::bE (aX t) (p+1) n:=by rw [bE,if_pos ha]
   rw [en]
   show Except.ok (c::(bE (aX t) (p+1) n).map qZ,At t (p+1+(bE (aX t) (p+1) n).length))=Except.ok ((aQ (aX t) p::bE (aX t) (p+1) n).map qZ,At t (p+(aQ (aX t) p::bE (aX t) (p+1) n).length))
   rw [List.map_cons,List.length_cons,hh,Rn]
   congr 3<;>(clear hh;omega)
  ·rw [if_neg (by rw [hh,<-uO];exact h)]
   show (if Br.isLow c=true then (do Br.skip;let r <-Br.while_ (fun (c:UInt8)=>Br.isLow c||Br.isDigit c) n;return c::r) else Br.stray:Br.Rd Br.Bytes) (At t p)=_
   rw [if_neg h]
   rfl
theorem Ud {t:Br.Bytes} {p:Nat}:Br.name_ (At t p)=eX t (List.map qZ) (gA (aX t) p 8):=Jq
theorem Cw {t:Br.Bytes} {p:Nat}:Br.longName_ (At t p)=eX t (List.map qZ) (gA (aX t) p 16):=Jq
def oB (i:Int):Br.Place:=if i=46 then .none else if i=35 then .cell false false else if i=115 then .cell true false else if i=116 then .cell false true else .cell true true
theorem Hm (c:UInt8):Br.placeOf c=if (c.toNat:Int)∈cG then some (oB (c.toNat:Int)) else Option.none:=by
 have key:∀ n:Fin 256,Br.placeOf (UInt8.ofNat n.1)=if ((UInt8.ofNat n.1).toNat:Int)∈cG then some (oB ((UInt8.ofNat n.1).toNat:Int)) else Option.none:=by decide+kernel
 have h:=key ⟨c.toNat,UInt8.toNat_lt c⟩
 have e:UInt8.ofNat c.toNat=c:=UInt8.ofNat_toNat
 simp only [e] at h
 exact h
theorem Ql {t:Br.Bytes} {p:Nat}:Br.place_ (At t p)=if aQ (aX t) p∈cG then .ok (oB (aQ (aX t) p),At t (p+1)) else .error p:=by
 show (Br.peek>>=fun (o:Option UInt8)=>(match o.bind Br.placeOf with
   |some q=>(do Br.skip;return q:Br.Rd Br.Place)
   |Option.none=>Br.stray)) (At t p)=_
 rw [bF,jB]
 cases e:t[p]? with
 |none=>
  rw [fO e,if_neg (by decide)]
  rfl
 |some c=>
  rw [fM e]
  show (match Br.placeOf c with
   |some q=>(do Br.skip;return q:Br.Rd Br.Place)
   |Option.none=>Br.stray) (At t p)=_
  rw [Hm]
  by_cases h:(c.toNat:Int)∈cG
  ·rw [if_pos h,if_pos h]
   show (Br.skip>>=fun _=>pure (oB (c.toNat:Int))) (At t p)=_
   rw [bF,nH]
   rfl
  ·rw [if_neg h,if_neg h]
   rfl
theorem wN {α:Type} {n:Nat} {r:Br.Rd α} {s:Nat×Br.Bytes}:Br.times (n+1) r s=eD (r s) fun x=>eD (Br.times n r x.2) fun y=>.ok (x.1::y.1,y.2):=by
 show (r>>=fun x=>Br.times n r>>=fun l=>pure (x::l)) s=_
 rw [bF]
 cases r s with
 |error e=>rfl
 |ok x=>
  show (Br.times n r>>=fun l=>pure (x.1::l)) x.2=_
  rw [bF]
  rfl
theorem Dq {t:Br.Bytes}:∀ {n p:Nat},Br.times n Br.place_ (At t p)=eX t (List.map oB) (bT (aX t) n p)
 |0,p=>rfl
 |n+1,p=>by
  rw [wN,Ql,bT]
  by_cases h:aQ (aX t) p∈cG
  ·rw [if_pos h,if_pos h]
   show eD (Br.times n Br.place_ (At t (p+1))) (fun y=>Except.ok (oB (aQ (aX t) p)::y.1,y.2))=_
   rw [Dq]
   cases bT (aX t) n (p+1) with
   |error e=>rfl
   |ok y=>rfl
  ·rw [if_neg h,if_neg h]
   rfl
theorem Zr {t:Br.Bytes} {w p:Nat}:Br.row_ w (At t p)=eX t (List.map oB) (eY (aX t) w p):=by
 show (Br.times w Br.place_>>=fun l=>Br.byte_ 10>>=fun _=>pure l) (At t p)=_
 rw [bF,Dq]
 unfold eY
 cases bT (aX t) w p with
 |error e=>rfl
 |ok y=>
  show (Br.byte_ 10>>=fun _=>pure (y.1.map oB)) (At t y.2)=_
  rw [bF,As]
  have he:aQ (aX t) y.2=10↔t[y.2]?=some 10:=pR (c:=10)
  by_cases h:t[y.2]?=some 10
  ·rw [if_pos h]
   show _=eX t (List.map oB) (if aQ (aX t) y.2=10 then _ else _)
   rw [if_pos (he.mpr h)]
   rfl
  ·rw [if_neg h]
   show _=eX t (List.map oB) (if aQ (aX t) y.2=10 then _ else _)
   rw [if_neg (fun z=>h (he.mp z))]
   rfl
theorem Ix {t:Br.Bytes} {w:Nat}:∀ {n p:Nat},Br.times n (Br.row_ w) (At t p)=eX t (List.map (List.map oB)) (bK (aX t) w n p)
 |0,p=>rfl
 |n+1,p=>by
  rw [wN,Zr,bK]
  cases eY (aX t) w p with
  |error e=>rfl
  |ok y=>
   show eD (Br.times n (Br.row_ w) (At t y.2)) (fun z=>Except.ok (y.1.map oB::z.1,z.2))=_
   rw [Ix]
   show _=eX t (List.map (List.map oB)) (fZ y.1 (bK (aX t) w n y.2))
   cases bK (aX t) w n y.2 with
   |error e=>rfl
   |ok z=>rfl
def dD (pr:aN):Br.Part:=⟨pr.name.map qZ,pr.w,pr.d,pr.h,pr.g,(pr.rows.map (List.map oB)).flatten⟩
theorem vM {α β γ:Type} {t:Br.Bytes} {x:Br.Rd α} {s:Nat×Br.Bytes} {r:Except Nat (γ×Nat)} {g:γ->α} {k:α->Br.Rd β} {δ:Type} {f:γ×Nat->Except Nat (δ×Nat)} {u:δ->β} (h:x s=eX t g r) (hk:∀ c,r=.ok c->k (g c.1) (At t c.2)=eX t u (f c)):
  (x>>=k) s=eX t u (eD r f):=by
 rw [bF,h]
 cases r with
 |error e=>rfl
 |ok c=>exact hk c rfl
theorem kI {β δ:Type} {t:Br.Bytes} {x:Br.Rd Unit} {s:Nat×Br.Bytes} {r:Except Nat Nat} {k:Unit->Br.Rd β} {f:Nat->Except Nat (δ×Nat)} {u:δ->β} (h:x s=Km t r) (hk:∀ c,r=.ok c->k () (At t c)=eX t u (f c)):
  (x>>=k) s=eX t u (eD r f):=by
 rw [bF,h]
 cases r with
 |error e=>rfl
 |ok c=>exact hk c rfl
theorem cQ {β δ:Type} {t:Br.Bytes} {p lo hi:Nat} {k:Nat->Br.Rd β} {f:Nat×Nat->Except Nat (δ×Nat)} {u:δ->β} (hlo:lo<=1) (h1:lo<=hi) (hhi:hi<=100000) (hk:∀ c,k c.1 (At t c.2)=eX t u (f c)):
  (Br.numAfter lo hi>>=k) (At t p)=eX t u (eD (aU (aX t) p [32]) fun p1=>eD (iU (aX t) p1 lo hi) f):=by
 have e:(Br.numAfter lo hi>>=k) (At t p)=(Br.byte_ 32>>=fun _=>Br.num lo hi>>=k) (At t p):=by
  show ((Br.byte_ 32>>=fun _=>Br.num lo hi)>>=k) (At t p)=_
  rw [bF,bF,bF]
  cases Br.byte_ 32 (At t p) with
  |error e=>rfl
  |ok r=>
   show eD (Br.num lo hi r.2) (fun r=>k r.1 r.2)=(Br.num lo hi>>=k) r.2
   rw [bF]
 rw [e]
 refine kI (nG (c:=32)) fun p1 _=>?_
 exact vM (Yh hlo h1 hhi) fun c _=>hk c
theorem Ha:Br.ascii "part "=[112,97,114,116,32]:=by decide+kernel
theorem Iy {t:Br.Bytes} {p:Nat}:Br.part_ (At t p)=eX t dD (dM (aX t) p):=by
 show (Br.bytes_ (Br.ascii "part ")>>=fun _=>Br.name_>>=fun n=>Br.numAfter 1 16>>=fun w=>Br.numAfter 1 16>>=fun d=>Br.numAfter 1 18>>=fun h=>Br.numAfter 1 9999>>=fun g=>Br.byte_ 10>>=fun _=>Br.times (d * h) (Br.row_ w)>>=fun l=>pure (⟨n,w,d,h,g,l.flatten⟩:Br.Part)) (At t p)=_
 unfold dM
 rw [Ha]
 refine kI (qV (cs:=[112,97,114,116,32])) fun p1 _=>?_
 refine vM Ud fun nm _=>?_
 refine cQ (lo:=1) (hi:=16) (by decide) (by decide) (by decide) fun w=>?_
 refine cQ (lo:=1) (hi:=16) (by decide) (by decide) (by decide) fun d=>?_
 refine cQ (lo:=1) (hi:=18) (by decide) (by decide) (by decide) fun h=>?_
 refine cQ (lo:=1) (hi:=9999) (by decide) (by decide) (by decide) fun g=>?_
 refine kI (nG (c:=10)) fun p11 _=>?_
 exact vM Ix fun rs _=>rfl
theorem Jd {l:List Int} {w:Nat}:∀ {n p:Nat} {r:List (List Int)×Nat},p<=l.length->bK l w n p=.ok r->r.2<=l.length
 |0,p,r,hp,h=>by cases h;exact hp
 |n+1,p,r,hp,h=>by
  rw [bK] at h
  cases e:eY l w p with
  |error i=>rw [e] at h;cases h
  |ok q=>
   rw [e] at h
   obtain ⟨q',e2,rfl⟩:=fN h
   show q'.2<=l.length
   refine Jd (r:=q') ?_ e2
   unfold eY at e
   split at e
   ·split at e
    ·rename_i h10
     cases e
     have:=fV (l:=l) (p:=_) (by rw [h10];decide)
     show _+1<=_
     (clear h10 hp;omega)
    ·cases e
   ·cases e
theorem Kj {l:List Int} {p:Nat} {q:aN×Nat} (h:dM l p=.ok q):q.2<=l.length:=by
 unfold dM at h
 obtain ⟨p1,_,h⟩:=aL h
 obtain ⟨nm,_,h⟩:=aL h
 obtain ⟨_,_,h⟩:=aL h
 obtain ⟨_,_,h⟩:=aL h
 obtain ⟨_,_,h⟩:=aL h
 obtain ⟨_,_,h⟩:=aL h
 obtain ⟨_,_,h⟩:=aL h
 obtain ⟨_,_,h⟩:=aL h
 obtain ⟨_,_,h⟩:=aL h
 obtain ⟨g,_,h⟩:=aL h
 obtain ⟨p11,e11,h⟩:=aL h
 obtain ⟨rs,e12,h⟩:=aL h
 cases h
 refine Jd ?_ e12
 rw [aU] at e11
 split at e11
 ·rename_i h10
  have:=fV (l:=l) (p:=g.2) (by rw [h10];decide)
  cases e11
  (clear h10;omega)
 ·cases e11
theorem uZ {α:Type} {r:Br.Rd α} {t:Br.Bytes} {p:Nat}:Br.toEnd r 0 (At t p)=if (t[p]?).isSome=true then .error p else .ok ([],At t p):=by
 show (Br.peek>>=fun o=>if o.isSome=true then Br.stray else pure []) (At t p)=_
 rw [bF,jB]
 show (if (t[p]?).isSome=true then (Br.stray:Br.Rd (List α)) else pure []) (At t p)=_
 by_cases h:(t[p]?).isSome=true
 ·rw [if_pos h,if_pos h];rfl
 ·rw [if_neg h,if_neg h];rfl
theorem wL {α:Type} {r:Br.Rd α} {t:Br.Bytes} {p n:Nat}:Br.toEnd r (n+1) (At t p)=if (t[p]?).isSome=true then (eD (r (At t p)) fun x=>eD (Br.toEnd r n x.2) fun y=>.ok (x.1::y.1,y.2)) else .ok ([],At t p):=by
 show (Br.peek>>=fun o=>if o.isSome=true then (r>>=fun x=>Br.toEnd r n>>=fun l=>pure (x::l)) else pure []) (At t p)=_
 rw [bF,jB]
 show (if (t[p]?).isSome=true then (r>>=fun x=>Br.toEnd r n>>=fun l=>pure (x::l)) else pure []:Br.Rd (List α)) (At t p)=_
 by_cases h:(t[p]?).isSome=true
 ·rw [if_pos h,if_pos h,bF]
  cases r (At t p) with
  |error e=>rfl
  |ok x=>
   show (Br.toEnd r n>>=fun l=>pure (x.1::l)) x.2=_
   rw [bF]
   rfl
 ·rw [if_neg h,if_neg h];rfl
def Vh {α β:Type} (t:Br.Bytes) (f:α->β):Except Nat (α×Nat)->Except Nat (β×(Nat×Br.Bytes))
 |.error e=>.error e
 |.ok r=>if r.2=t.length then .ok (f r.1,At t r.2) else .error r.2
theorem jC {t:Br.Bytes} {p:Nat}:(t[p]?).isSome=true↔p<t.length:=by
 by_cases h:p<t.length
 ·rw [List.getElem?_eq_getElem h];simp [h]
 ·rw [List.getElem?_eq_none (by omega)];simp [h]
theorem Ed {t:Br.Bytes}:∀ {n p:Nat},p<=t.length->Br.toEnd Br.part_ n (At t p)=Vh t (List.map dD) (cJ (aX t) n p)
 |0,p,hp=>by
  rw [uZ]
  show _=if p=t.length then Except.ok (([]:List aN).map dD,At t p) else .error p
  by_cases h:p=t.length
  ·rw [if_pos h,if_neg (by rw [jC];(clear hp;omega))]
   rfl
  ·rw [if_neg h,if_pos (by rw [jC];omega)]
 |n+1,p,hp=>by
  rw [wL,cJ]
  by_cases h:p=t.length
  ·rw [if_neg (by rw [jC];(clear hp;omega)),if_pos (by rw [fE];exact h)]
   show _=if p=t.length then Except.ok (([]:List aN).map dD,At t p) else .error p
   rw [if_pos h]
   rfl
  ·rw [if_pos (by rw [jC];omega),if_neg (by rw [fE];exact h),Iy]
   cases e:dM (aX t) p with
   |error i=>rfl
   |ok q=>
    have hq:=Kj e
    rw [fE] at hq
    show eD (Br.toEnd Br.part_ n (At t q.2)) (fun y=>Except.ok (dD q.1::y.1,y.2))=Vh t (List.map dD) (fZ q.1 (cJ (aX t) n q.2))
    rw [Ed hq]
    cases cJ (aX t) n q.2 with
    |error i=>rfl
    |ok r=>
     show eD (if r.2=t.length then (Except.ok (r.1.map dD,At t r.2):Except Nat _) else .error r.2) (fun y=>Except.ok (dD q.1::y.1,y.2))=if r.2=t.length then Except.ok ((q.1::r.1).map dD,At t r.2) else .error r.2
     by_cases hr:r.2=t.length
     ·rw [if_pos hr,if_pos hr];rfl
     ·rw [if_neg hr,if_neg hr];rfl
theorem Pc (t:Br.Bytes):Br.readC t=eD (gS (aX t)) fun prs=>.ok (prs.map dD):=by
 show (((Br.part_>>=fun p=>Br.toEnd Br.part_ 63>>=fun l=>pure (p::l)) (At t 0)).map fun (x:Br.Catalogue×(Nat×Br.Bytes))=>x.1)=_
 rw [bF,Iy]
 unfold gS
 cases e:dM (aX t) 0 with
 |error i=>rfl
 |ok q=>
  have hq:=Kj e
  rw [fE] at hq
  show (((Br.toEnd Br.part_ 63>>=fun l=>pure (dD q.1::l)) (At t q.2)).map fun (x:Br.Catalogue×(Nat×Br.Bytes))=>x.1)=_
  rw [bF,Ed hq,bY]
  cases cJ (aX t) 63 q.2 with
  |error i=>rfl
  |ok r=>
   show ((eD (if r.2=t.length then (Except.ok (r.1.map dD,At t r.2):Except Nat _) else .error r.2) fun y=>Except.ok (dD q.1::y.1,y.2)).map fun (x:Br.Catalogue×(Nat×Br.Bytes))=>x.1)=eD (if r.2=(aX t).length then Except.ok (q.1::r.1) else .error r.2) fun prs=>.ok (prs.map dD)
   rw [fE]
   by_cases hr:r.2=t.length
   ·rw [if_pos hr,if_pos hr];rfl
   ·rw [if_neg hr,if_neg hr];rfl
theorem Jh {a b:Br.Bytes} (h:aX a=aX b):a=b:=by
 unfold aX at h
 refine List.map_inj_right (fun x y e=>?_)|>.mp h
 have:x.toNat=y.toNat:=by omega
 exact UInt8.toNat_inj.mp this
theorem Fc (a:Br.Bytes) (c:UInt8):aX (a++[c])=aX a++[(c.toNat:Int)]:=by
 unfold aX
 rw [List.map_append]
 rfl
theorem Lb (a n:Br.Bytes):a.isPrefixOf n=decide ((aX n).take (aX a).length=aX a):=by
 rw [Bool.eq_iff_iff,List.isPrefixOf_iff_prefix,List.prefix_iff_eq_take,decide_eq_true_iff,fE]
 have e:(aX n).take a.length=aX (n.take a.length):=by unfold aX;rw [List.map_take]
 rw [e]
 constructor
 ·intro h
  rw [<-h]
 ·intro h
  exact (Jh h).symm
theorem yD (names:List Br.Bytes) (a:Br.Bytes):(names.any fun n=>a.isPrefixOf n)=iA (names.map aX) (aX a):=by
 unfold iA
 rw [List.any_map]
 congr 1
 funext n
 exact Lb a n
theorem Ba (a:Br.Bytes):∀ names:List Br.Bytes,(names.findIdx? fun n=>n==a)=if aX a∈names.map aX then some (pI (names.map aX) (aX a)) else none
 |[]=>by simp
 |n::r=>by
  have ih:=Ba a r
  have hx:pI ((n::r).map aX) (aX a)=if aX n=aX a then 0 else pI (r.map aX) (aX a)+1:=by
   unfold pI
   rw [List.map_cons,List.findIdx_cons]
   by_cases h:aX n=aX a
   ·rw [decide_eq_true h,if_pos h];rfl
   ·rw [decide_eq_false h,if_neg h];rfl
  rw [List.findIdx?_cons,ih,hx]
  by_cases h:n=a
  ·subst h
   simp
  ·have h2:¬aX n=aX a:=fun z=>h (Jh z)
   have h3:¬aX a=aX n:=fun z=>h2 z.symm
   have hb:(n==a)=false:=beq_eq_false_iff_ne.mpr h
   rw [hb,if_neg Bool.false_ne_true,if_neg h2]
   by_cases h4:aX a∈r.map aX
   ·rw [if_pos h4,if_pos (by rw [List.map_cons];exact List.mem_cons_of_mem _ h4)]
    rfl
   ·rw [if_neg h4,if_neg (by rw [List.map_cons,List.mem_cons];rintro (z|z);exact h3 z;exact h4 z)]
    rfl
theorem Ob {t:Br.Bytes} {names:List Br.Bytes}:∀ {f p:Nat} {acc:Br.Bytes},
  (((cH (names.map aX) (aX t) f p (aX acc)).1∈names.map aX->Br.known names f acc (At t p)=.ok (pI (names.map aX) (cH (names.map aX) (aX t) f p (aX acc)).1,At t (cH (names.map aX) (aX t) f p (aX acc)).2)\/
   (Br.known names f acc (At t p)=.error (cH (names.map aX) (aX t) f p (aX acc)).2/\t[(cH (names.map aX) (aX t) f p (aX acc)).2]?=none))/\
  ((cH (names.map aX) (aX t) f p (aX acc)).1∉names.map aX->Br.known names f acc (At t p)=.error (cH (names.map aX) (aX t) f p (aX acc)).2)):=by
 intro f
 induction f with
 |zero=>
  intro p acc
  have e:Br.known names 0 acc (At t p)=if aX acc∈names.map aX then .ok (pI (names.map aX) (aX acc),At t p) else .error p:=by
   show (match names.findIdx? fun (n:Br.Bytes)=>n==acc with
    |some i=>(pure i:Br.Rd Nat)
    |Option.none=>Br.stray) (At t p)=_
   rw [Ba]
   by_cases h:aX acc∈names.map aX
   ·rw [if_pos h,if_pos h];rfl
   ·rw [if_neg h,if_neg h];rfl
  refine ⟨fun h=>.inl ?_,fun h=>?_⟩
  ·rw [e];exact if_pos h
  ·rw [e];exact if_neg h
 |succ f ih=>
  intro p acc
  have e:Br.known names (f+1) acc (At t p)=(match t[p]? with
    |some c=>(if (names.any fun (n:Br.Bytes)=>(acc++[c]).isPrefixOf n)=true then Br.known names f (acc++[c]) (At t (p+1)) else (if aX acc∈names.map aX then .ok (pI (names.map aX) (aX acc),At t p) else .error p))
    |Option.none=>.error p):=by
   show (Br.peek>>=fun (o:Option UInt8)=>(match o with
    |some c=>(if (names.any fun (n:Br.Bytes)=>(acc++[c]).isPrefixOf n)=true then (Br.skip>>=fun _=>Br.known names f (acc++[c])) else (match names.findIdx? fun (n:Br.Bytes)=>n==acc with
     |some i=>(pure i:Br.Rd Nat)
     |Option.none=>Br.stray))
    |Option.none=>Br.stray)) (At t p)=_
   rw [bF,jB,bY]
   cases e:t[p]? with
   |none=>rfl
   |some c=>
    show (if (names.any fun (n:Br.Bytes)=>(acc++[c]).isPrefixOf n)=true then (Br.skip>>=fun _=>Br.known names f (acc++[c])) else (match names.findIdx? fun (n:Br.Bytes)=>n==acc with
     |some i=>(pure i:Br.Rd Nat)
     |Option.none=>Br.stray)) (At t p)=if (names.any fun (n:Br.Bytes)=>(acc++[c]).isPrefixOf n)=true then Br.known names f (acc++[c]) (At t (p+1)) else (if aX acc∈names.map aX then .ok (pI (names.map aX) (aX acc),At t p) else .error p)
    by_cases h:(names.any fun (n:Br.Bytes)=>(acc++[c]).isPrefixOf n)=true
    ·rw [if_pos h,if_pos h,bF,nH]
     rfl
    ·rw [if_neg h,if_neg h,Ba]
     by_cases h2:aX acc∈names.map aX
     ·rw [if_pos h2,if_pos h2];rfl
     ·rw [if_neg h2,if_neg h2];rfl
  cases ep:t[p]? with
  |none=>
   rw [ep] at e
   have hb:¬iA (names.map aX) (aX acc++[aQ (aX t) p])=true:=by
    rw [fO ep]
    unfold iA
    intro z
    obtain ⟨m,hm,z⟩:=List.any_eq_true.mp z
    obtain ⟨n,_,rfl⟩:=List.mem_map.mp hm
    have z:=of_decide_eq_true z
    have:(256:Int)∈aX n:=by
     have:(256:Int)∈(aX n).take (aX acc++[256]).length:=by rw [z];simp
     exact List.mem_of_mem_take this
    unfold aX at this
    obtain ⟨c,_,hc⟩:=List.mem_map.mp this
    have:=UInt8.toNat_lt c
    omega
   have er:cH (names.map aX) (aX t) (f+1) p (aX acc)=(aX acc,p):=by rw [cH,if_neg hb]
   rw [er]
   exact ⟨fun _=>.inr ⟨e,ep⟩,fun _=>e⟩
  |some c=>
   rw [ep] at e
   have hh:=fM ep
   by_cases h:(names.any fun (n:Br.Bytes)=>(acc++[c]).isPrefixOf n)=true
   ·have e:Br.known names (f+1) acc (At t p)=Br.known names f (acc++[c]) (At t (p+1)):=e.trans (if_pos h)
    have er:cH (names.map aX) (aX t) (f+1) p (aX acc)=cH (names.map aX) (aX t) f (p+1) (aX (acc++[c])):=by
     rw [cH,hh,<-Fc,if_pos (by rw [<-yD];exact h)]
    rw [e,er]
    exact ih
   ·have e:Br.known names (f+1) acc (At t p)=if aX acc∈names.map aX then .ok (pI (names.map aX) (aX acc),At t p) else .error p:=e.trans (if_neg h)
    have er:cH (names.map aX) (aX t) (f+1) p (aX acc)=(aX acc,p):=by
     rw [cH,hh,<-Fc,if_neg (by rw [<-yD];exact h)]
    rw [er]
    refine ⟨fun h2=>.inl ?_,fun h2=>?_⟩
    ·rw [e];exact if_pos h2
    ·rw [e];exact if_neg h2
def jN (x:List Nat):Br.Line:=⟨x.getD 0 0,x.getD 1 0,x.getD 2 0,x.getD 3 0,x.getD 4 0,x.getD 5 0⟩
theorem kG {α:Type} {l:List Int} {m:Nat} {ms:List Nat} {p:Nat} {F:List Nat×Nat->Except Nat α}:eD (cO l (m::ms) p) F=eD (aU l p [32]) fun p1=>eD (iU l p1 0 m) fun v=>eD (cO l ms v.2) fun r=>F (v.1::r.1,r.2):=by
 rw [cO]
 cases aU l p [32] with
 |error i=>rfl
 |ok p1=>
  show eD (eD (iU l p1 0 m) fun v=>fZ v.1 (cO l ms v.2)) F=eD (iU l p1 0 m) _
  cases iU l p1 0 m with
  |error i=>rfl
  |ok v=>
   show eD (fZ v.1 (cO l ms v.2)) F=eD (cO l ms v.2) _
   cases cO l ms v.2 with
   |error i=>rfl
   |ok r=>rfl
theorem Ng:Br.ascii "put "=[112,117,116,32]:=by decide+kernel
theorem Eu:Br.ascii "build "=[98,117,105,108,100,32]:=by decide+kernel
theorem Vf {t:Br.Bytes} {c:Br.Catalogue} {p:Nat}:Br.line_ c (At t p)=eX t jN (eL ((c.map fun (p:Br.Part)=>p.name).map aX) (aX t) p):=by
 show (Br.bytes_ (Br.ascii "put ")>>=fun _=>Br.known (c.map fun (p:Br.Part)=>p.name) 8 []>>=fun q=>Br.numAfter 0 255>>=fun k=>Br.numAfter 0 63>>=fun x=>Br.numAfter 0 63>>=fun y=>Br.numAfter 0 95>>=fun z=>Br.numAfter 0 3>>=fun r=>Br.byte_ 10>>=fun _=>pure (⟨q,k,x,y,z,r⟩:Br.Line)) (At t p)=_
 unfold eL
 rw [Ng]
 refine kI (qV (cs:=[112,117,116,32])) fun p1 _=>?_
 generalize (c.map fun (p:Br.Part)=>p.name)=names
 have rest:∀ (i p2:Nat),(Br.numAfter 0 255>>=fun k=>Br.numAfter 0 63>>=fun x=>Br.numAfter 0 63>>=fun y=>Br.numAfter 0 95>>=fun z=>Br.numAfter 0 3>>=fun r=>Br.byte_ 10>>=fun _=>pure (⟨i,k,x,y,z,r⟩:Br.Line)) (At t p2)=
   eX t jN (eD (cO (aX t) fB p2) fun r=>eD (aU (aX t) r.2 [10]) fun p5=>.ok (i::r.1,p5)):=by
  intro i p2
  unfold fB
  rw [kG]
  refine cQ (lo:=0) (hi:=255) (by decide) (by decide) (by decide) fun k=>?_
  rw [kG]
  refine cQ (lo:=0) (hi:=63) (by decide) (by decide) (by decide) fun x=>?_
  rw [kG]
  refine cQ (lo:=0) (hi:=63) (by decide) (by decide) (by decide) fun y=>?_
  rw [kG]
  refine cQ (lo:=0) (hi:=95) (by decide) (by decide) (by decide) fun z=>?_
  rw [kG]
  refine cQ (lo:=0) (hi:=3) (by decide) (by decide) (by decide) fun r=>?_
  show _=eX t jN (eD (aU (aX t) r.2 [10]) _)
  exact kI (nG (c:=10)) fun p5 _=>rfl
 obtain ⟨k1,k2⟩:=Ob (t:=t) (names:=names) (f:=8) (p:=p1) (acc:=[])
 have e0:aX []=[]:=rfl
 rw [e0] at k1 k2
 unfold sI
 by_cases h:(cH (names.map aX) (aX t) 8 p1 []).1∈names.map aX
 ·rw [if_pos h,bY]
  rcases k1 h with e|⟨e,en⟩
  ·rw [bF,e,bY]
   exact rest _ _
  ·rw [bF,e,An]
   have ew:aU (aX t) (cH (names.map aX) (aX t) 8 p1 []).2 [32]=.error (cH (names.map aX) (aX t) 8 p1 []).2:=by
    rw [aU,fO en]
    rfl
   unfold fB
   rw [kG]
   show _=eX t jN (eD (aU (aX t) (cH (names.map aX) (aX t) 8 p1 []).2 [32]) _)
   rw [ew]
   rfl
 ·rw [if_neg h,An,bF,k2 h,An]
  rfl
theorem Vt {nss:List (List Int)} {l:List Int} {p:Nat} {q:List Nat×Nat} (h:eL nss l p=.ok q):q.2<=l.length:=by
 unfold eL at h
 obtain ⟨p1,_,h⟩:=aL h
 obtain ⟨_,_,h⟩:=aL h
 obtain ⟨r,_,h⟩:=aL h
 obtain ⟨p5,e5,h⟩:=aL h
 cases h
 show p5<=l.length
 rw [aU] at e5
 split at e5
 ·rename_i h10
  have:=fV (l:=l) (p:=r.2) (by rw [h10];decide)
  cases e5
  (clear h10;omega)
 ·cases e5
theorem Ep {t:Br.Bytes} {c:Br.Catalogue}:∀ {n p:Nat},p<=t.length->Br.toEnd (Br.line_ c) n (At t p)=Vh t (List.map jN) (cD ((c.map fun (p:Br.Part)=>p.name).map aX) (aX t) n p)
 |0,p,hp=>by
  rw [uZ]
  show _=if p=t.length then Except.ok (([]:List (List Nat)).map jN,At t p) else .error p
  by_cases h:p=t.length
  ·rw [if_pos h,if_neg (by rw [jC];(clear hp;omega))]
   rfl
  ·rw [if_neg h,if_pos (by rw [jC];omega)]
 |n+1,p,hp=>by
  rw [wL,cD]
  by_cases h:p=t.length
  ·rw [if_neg (by rw [jC];(clear hp;omega)),if_pos (by rw [fE];exact h)]
   show _=if p=t.length then Except.ok (([]:List (List Nat)).map jN,At t p) else .error p
   rw [if_pos h]
   rfl
  ·rw [if_pos (by rw [jC];omega),if_neg (by rw [fE];exact h),Vf]
   cases e:eL ((c.map fun (p:Br.Part)=>p.name).map aX) (aX t) p with
   |error i=>rfl
   |ok q=>
    have hq:=Vt e
    rw [fE] at hq
    show eD (Br.toEnd (Br.line_ c) n (At t q.2)) (fun y=>Except.ok (jN q.1::y.1,y.2))=Vh t (List.map jN) (fZ q.1 (cD _ (aX t) n q.2))
    rw [Ep hq]
    cases cD ((c.map fun (p:Br.Part)=>p.name).map aX) (aX t) n q.2 with
    |error i=>rfl
    |ok r=>
     show eD (if r.2=t.length then (Except.ok (r.1.map jN,At t r.2):Except Nat _) else .error r.2) (fun y=>Except.ok (jN q.1::y.1,y.2))=if r.2=t.length then Except.ok ((q.1::r.1).map jN,At t r.2) else .error r.2
     by_cases hr:r.2=t.length
     ·rw [if_pos hr,if_pos hr];rfl
     ·rw [if_neg hr,if_neg hr];rfl
theorem Nc {l:List Int} {p q:Nat} (e:aU l p [10]=.ok q):q<=l.length:=by
 rw [aU] at e
 split at e
 ·rename_i h10
  have:=fV (l:=l) (p:=p) (by rw [h10];decide)
  cases e
  (clear h10;omega)
 ·cases e
theorem Si (t:Br.Bytes) (c:Br.Catalogue):Br.readB c t=eD (dH ((c.map fun (p:Br.Part)=>p.name).map aX) (aX t)) fun b=>.ok (⟨b.1.map qZ,b.2.map jN⟩:Br.Build):=by
 show (((Br.bytes_ (Br.ascii "build ")>>=fun _=>Br.longName_>>=fun n=>Br.byte_ 10>>=fun _=>Br.toEnd (Br.line_ c) 256>>=fun l=>pure (⟨n,l⟩:Br.Build)) (At t 0)).map fun (x:Br.Build×(Nat×Br.Bytes))=>x.1)=_
 unfold dH
 rw [Eu,bF,qV (cs:=[98,117,105,108,100,32])]
 show _=eD (eD (aU (aX t) 0 (([98,117,105,108,100,32]:Br.Bytes).map UInt8.toNat)) _) _
 cases aU (aX t) 0 (([98,117,105,108,100,32]:Br.Bytes).map UInt8.toNat) with
 |error i=>rfl
 |ok p1=>
  show (((Br.longName_>>=fun n=>Br.byte_ 10>>=fun _=>Br.toEnd (Br.line_ c) 256>>=fun l=>pure (⟨n,l⟩:Br.Build)) (At t p1)).map fun (x:Br.Build×(Nat×Br.Bytes))=>x.1)=eD (eD (gA (aX t) p1 16) _) _
  rw [bF,Cw]
  cases gA (aX t) p1 16 with
  |error i=>rfl
  |ok nm=>
   show (((Br.byte_ 10>>=fun _=>Br.toEnd (Br.line_ c) 256>>=fun l=>pure (⟨nm.1.map qZ,l⟩:Br.Build)) (At t nm.2)).map fun (x:Br.Build×(Nat×Br.Bytes))=>x.1)=eD (eD (aU (aX t) nm.2 [10]) _) _
   rw [bF,nG (c:=10)]
   show ((eD (Km t (aU (aX t) nm.2 [10])) _).map _)=_
   cases e3:aU (aX t) nm.2 [10] with
   |error i=>rfl
   |ok p3=>
    have hp3:=Nc e3
    rw [fE] at hp3
    show (((Br.toEnd (Br.line_ c) 256>>=fun l=>pure (⟨nm.1.map qZ,l⟩:Br.Build)) (At t p3)).map fun (x:Br.Build×(Nat×Br.Bytes))=>x.1)=eD (eD (cD ((c.map fun (p:Br.Part)=>p.name).map aX) (aX t) 256 p3) fun r=>if r.2=(aX t).length then .ok (nm.1,r.1) else .error r.2) fun b=>.ok (⟨b.1.map qZ,b.2.map jN⟩:Br.Build)
    rw [bF,Ep hp3]
    cases cD ((c.map fun (p:Br.Part)=>p.name).map aX) (aX t) 256 p3 with
    |error i=>rfl
    |ok r=>
     show ((eD (if r.2=t.length then (Except.ok (r.1.map jN,At t r.2):Except Nat _) else .error r.2) fun y=>Except.ok ((⟨nm.1.map qZ,y.1⟩:Br.Build),y.2)).map fun (x:Br.Build×(Nat×Br.Bytes))=>x.1)=eD (if r.2=(aX t).length then .ok (nm.1,r.1) else .error r.2) fun b=>.ok (⟨b.1.map qZ,b.2.map jN⟩:Br.Build)
     rw [fE]
     by_cases hr:r.2=t.length
     ·rw [if_pos hr,if_pos hr];rfl
     ·rw [if_neg hr,if_neg hr];rfl
theorem vV {l:List Int} {hi:Int}:∀ {n p:Nat} {v:Int},v<=hi->(cW l hi n p v).1<=hi
 |0,p,v,h=>h
 |n+1,p,v,h=>by
  rw [cW]
  split
  ·rename_i q
   exact vV q.2.2
  ·exact h
theorem vT {l:List Int} {hi:Int}:∀ {n p:Nat} {v:Int},0<=v->v<=(cW l hi n p v).1
 |0,p,v,h=>Int.le_refl _
 |n+1,p,v,h=>by
  rw [cW]
  split
  ·rename_i q
   have:=iE q.2.1
   have:=vT (l:=l) (hi:=hi) (n:=n) (p:=p+1) (v:=v * 10+aQ l p - 48) (by (clear q;omega))
   (clear q;omega)
  ·exact Int.le_refl _
theorem lJ {l:List Int} {p lo hi:Nat} {v:Nat×Nat} (h:iU l p lo hi=.ok v):lo<=v.1/\v.1<=hi:=by
 unfold iU at h
 split at h
 ·rename_i ok
  cases h
  obtain ⟨h1,h2,h3⟩:=ok
  have a:=vV (l:=l) (hi:=hi) (n:=l.length - (p+1)) (p:=p+1) h3
  have b:=vT (l:=l) (hi:=hi) (n:=l.length - (p+1)) (p:=p+1) (v:=aQ l p - 48) (by (clear a h3;omega))
  show lo<=(eC l p hi).1.toNat/\(eC l p hi).1.toNat<=hi
  unfold eC
  (clear h3;omega)
 ·cases h
theorem Dt {l:List Int}:∀ {n p:Nat} {r:List Int×Nat},bT l n p=.ok r->∀ s∈r.1,s∈cG
 |0,p,r,h=>by cases h;intro s hs;cases hs
 |n+1,p,r,h=>by
  rw [bT] at h
  split at h
  ·rename_i hin
   obtain ⟨q,e,rfl⟩:=fN h
   intro s hs
   rcases List.mem_cons.mp hs with rfl|hs
   ·exact hin
   ·exact Dt e s hs
  ·cases h
theorem Up {l:List Int} {w p:Nat} {r:List Int×Nat} (h:eY l w p=.ok r):r.1.length=w/\∀ s∈r.1,s∈cG:=by
 unfold eY at h
 split at h
 ·rename_i q e
  split at h
  ·cases h
   exact ⟨yV (r:=q) e,fun s hs=>Dt (r:=q) e s hs⟩
  ·cases h
 ·cases h
theorem Fe {l:List Int} {w:Nat}:∀ {n p:Nat} {r:List (List Int)×Nat},bK l w n p=.ok r->r.1.length=n/\∀ x∈r.1,x.length=w/\∀ s∈x,s∈cG
 |0,p,r,h=>by cases h;exact ⟨rfl,fun x hx=>by cases hx⟩
 |n+1,p,r,h=>by
  rw [bK] at h
  cases e:eY l w p with
  |error i=>rw [e] at h;cases h
  |ok q=>
   rw [e] at h
   obtain ⟨q',e2,rfl⟩:=fN h
   obtain ⟨h1,h2⟩:=Fe e2
   refine ⟨by rw [List.length_cons,h1],fun x hx=>?_⟩
   rcases List.mem_cons.mp hx with rfl|hx
   ·exact Up e
   ·exact h2 x hx
theorem oM {l:List Int}:∀ {n p:Nat} {x:Int},x∈bE l p n->gP x=true
 |0,p,x,h=>by simp [bE] at h
 |n+1,p,x,h=>by
  rw [bE] at h
  split at h
  ·rename_i ha
   rcases List.mem_cons.mp h with rfl|h
   ·exact ha
   ·exact oM h
  ·cases h
structure eF (pr:aN):Prop where
 w1:1<=pr.w
 w2:pr.w<=16
 d1:1<=pr.d
 d2:pr.d<=16
 h1:1<=pr.h
 h2:pr.h<=18
 rl:pr.rows.length=pr.d * pr.h
 rw:∀ x∈pr.rows,x.length=pr.w
 sg:∀ x∈pr.rows,∀ s∈x,s∈cG
 nm:∀ x∈pr.name,gP x=true
theorem Kh {l:List Int} {p:Nat} {q:aN×Nat} (h:dM l p=.ok q):eF q.1:=by
 unfold dM at h
 obtain ⟨p1,_,h⟩:=aL h
 obtain ⟨nm,en,h⟩:=aL h
 obtain ⟨_,_,h⟩:=aL h
 obtain ⟨w,ew,h⟩:=aL h
 obtain ⟨_,_,h⟩:=aL h
 obtain ⟨d,ed,h⟩:=aL h
 obtain ⟨_,_,h⟩:=aL h
 obtain ⟨hh,eh,h⟩:=aL h
 obtain ⟨_,_,h⟩:=aL h
 obtain ⟨g,_,h⟩:=aL h
 obtain ⟨_,_,h⟩:=aL h
 obtain ⟨rs,er,h⟩:=aL h
 cases h
 obtain ⟨a1,a2⟩:=lJ (lo:=1) (hi:=16) ew
 obtain ⟨b1,b2⟩:=lJ (lo:=1) (hi:=16) ed
 obtain ⟨c1,c2⟩:=lJ (lo:=1) (hi:=18) eh
 obtain ⟨r1,r2⟩:=Fe er
 refine ⟨a1,a2,b1,b2,c1,c2,r1,fun x hx=>(r2 x hx).1,fun x hx=>(r2 x hx).2,?_⟩
 unfold gA at en
 split at en
 ·cases en
  exact fun x hx=>oM hx
 ·cases en
theorem Fi {l:List Int}:∀ {n p:Nat} {q:List aN×Nat},cJ l n p=.ok q->∀ pr∈q.1,eF pr
 |0,p,q,h=>by cases h;intro pr hp;cases hp
 |n+1,p,q,h=>by
  rw [cJ] at h
  split at h
  ·cases h;intro pr hp;cases hp
  ·obtain ⟨q1,e1,h⟩:=aL h
   obtain ⟨q2,e2,rfl⟩:=fN h
   intro pr hp
   rcases List.mem_cons.mp hp with rfl|hp
   ·exact Kh e1
   ·exact Fi e2 pr hp
theorem Ru {l:List Int} {prs:List aN} (h:gS l=.ok prs):∀ pr∈prs,eF pr:=by
 unfold gS at h
 obtain ⟨q,e1,h⟩:=aL h
 obtain ⟨r,e2,h⟩:=aL h
 split at h
 ·cases h
  intro pr hp
  rcases List.mem_cons.mp hp with rfl|hp
  ·exact Kh e1
  ·exact Fi e2 pr hp
 ·cases h
theorem Rk:∀ l:List Int,(∀ x∈l,gP x=true)->aX (l.map qZ)=l:=by
 intro l
 induction l with
 |nil=>intro _;rfl
 |cons x r ih=>
  intro hx
  have h1:=hx x List.mem_cons_self
  have h2:0<=x/\x<256:=by
   unfold gP jY jD at h1
   rw [Bool.or_eq_true,Bool.and_eq_true,Bool.and_eq_true,decide_eq_true_iff,decide_eq_true_iff,decide_eq_true_iff,decide_eq_true_iff] at h1
   omega
  have h3:((qZ x).toNat:Int)=x:=by
   unfold qZ
   rw [UInt8.toNat_ofNat']
   omega
  show ((qZ x).toNat:Int)::aX (r.map qZ)=x::r
  rw [h3,ih fun y hy=>hx y (List.mem_cons_of_mem _ hy)]
theorem rJ {pr:aN} (h:eF pr):aX (pr.name.map qZ)=pr.name:=Rk _ h.nm
theorem zA:∀ a b:Br.Bytes,Br.before a b= !HT.gB (aX b) (aX a)
 |[],[]=>rfl
 |[],_::_=>rfl
 |_::_,[]=>rfl
 |x::a,y::b=>by
  have ih:=zA a b
  show (decide (x.toNat<y.toNat)||(x==y && Br.before a b))= !(if (y.toNat:Int)=(x.toNat:Int) then HT.gB (aX b) (aX a) else decide ((y.toNat:Int)<=(x.toNat:Int)))
  by_cases h:x=y
  ·subst h
   rw [if_pos rfl,ih]
   simp
  ·have h2:¬x.toNat=y.toNat:=fun z=>h (UInt8.toNat_inj.mp z)
   have hb:(x==y)=false:=beq_eq_false_iff_ne.mpr h
   rw [if_neg (by (clear h;omega)),hb,Bool.false_and,Bool.or_false,Bool.eq_iff_iff,Bool.not_eq_true',decide_eq_true_iff,decide_eq_false_iff_not]
   (clear h2 h;omega)
def iL (p:Br.Part):Bool:=p.studsOk && (p.tubesOk && (p.tight && p.whole))
def Pf:Option Br.Bytes->Br.Part->Bool
 |some n,p=>Br.before n p.name
 |none,_=>true
def lH:Option Br.Bytes->List Br.Part->Bool
 |_,[]=>true
 |last,p::r=>Pf last p && lH (some p.name) r
theorem tK (last:Option Br.Bytes) (p:Br.Part) (r:List Br.Part):lH last (p::r)=(Pf last p && lH (some p.name) r):=by cases last<;>rfl
theorem He {p:Br.Part} {last:Option Br.Bytes}:(p.wrong last).isSome= !(iL p && Pf last p):=by
 unfold Br.Part.wrong iL
 cases p.studsOk<;>cases p.tubesOk<;>cases p.tight<;>cases p.whole<;>try rfl
 cases last with
 |none=>rfl
 |some n=>
  show (if Br.before n p.name=true then Option.none else some 5).isSome= !(true && (true && (true && true)) && Br.before n p.name)
  cases Br.before n p.name<;>rfl
theorem wD:∀ {l:List Br.Part} {i:Nat} {last:Option Br.Bytes},(Br.wrongFrom i last l).isSome= !(l.all iL && lH last l)
 |[],i,last=>rfl
 |p::r,i,last=>by
  have ih:=wD (l:=r) (i:=i+1) (last:=some p.name)
  have hp:=He (p:=p) (last:=last)
  rw [Br.wrongFrom]
  cases e:p.wrong last with
  |some k=>
   rw [e] at hp
   show true=_
   rw [List.all_cons,tK]
   have hp:true= !(iL p && Pf last p):=hp
   cases hg:iL p
   ·rfl
   ·rw [hg,Bool.true_and] at hp
    have h2:Pf last p=false:=by
     cases z:Pf last p
     ·rfl
     ·rw [z] at hp;cases hp
    rw [h2,Bool.false_and,Bool.and_false]
    rfl
  |none=>
   rw [e] at hp
   show (Br.wrongFrom (i+1) (some p.name) r).isSome=_
   rw [ih,List.all_cons,tK]
   have hp:false= !(iL p && Pf last p):=hp
   have h3:(iL p && Pf last p)=true:=by
    cases z:(iL p && Pf last p)
    ·rw [z] at hp;cases hp
    ·rfl
   rw [Bool.and_eq_true] at h3
   rw [h3.1,h3.2,Bool.true_and,Bool.true_and]
theorem oX:∀ {prs:List aN} {last:Option aN},(∀ pr∈prs,eF pr)->(∀ q,last=some q->eF q)->lH (last.map fun q=>q.name.map qZ) (prs.map dD)=iX ((last.toList++prs).map (·.name))
 |[],none,_,_=>rfl
 |[],some q,_,_=>rfl
 |pr::r,none,h,_=>by
  show (true && lH (some (pr.name.map qZ)) (r.map dD))=_
  rw [Bool.true_and]
  exact oX (last:=some pr) (fun x hx=>h x (List.mem_cons_of_mem _ hx)) fun q hq=>by cases hq;exact h _ List.mem_cons_self
 |pr::r,some q,h,hq=>by
  have ih:=oX (prs:=r) (last:=some pr) (fun x hx=>h x (List.mem_cons_of_mem _ hx)) fun q hq=>by cases hq;exact h _ List.mem_cons_self
  show (Br.before (q.name.map qZ) (pr.name.map qZ) && lH (some (pr.name.map qZ)) (r.map dD))=iX (q.name::pr.name::r.map (·.name))
  rw [zA,rJ (h _ List.mem_cons_self),rJ (hq q rfl),iX]
  have ih:lH (some (pr.name.map qZ)) (r.map dD)=iX (pr.name::r.map (·.name)):=ih
  rw [ih]
theorem Ky {prs:List aN} (h:∀ pr∈prs,eF pr) (hg:∀ pr∈prs,iL (dD pr)=gJ pr):(Br.wrong (prs.map dD)).isSome= !mJ prs:=by
 unfold Br.wrong mJ
 rw [wD]
 have e1:(prs.map dD).all iL=prs.all gJ:=by
  rw [List.all_map]
  have key:∀ l:List aN,(∀ pr∈l,iL (dD pr)=gJ pr)->l.all (iL∘dD)=l.all gJ:=by
   intro l
   induction l with
   |nil=>intro _;rfl
   |cons a r ih=>
    intro hx
    rw [List.all_cons,List.all_cons,ih fun y hy=>hx y (List.mem_cons_of_mem _ hy)]
    show (iL (dD a) && _)=_
    rw [hx a List.mem_cons_self]
  exact key prs hg
 have e2:=oX (prs:=prs) (last:=none) h (fun q hq=>by cases hq)
 rw [e1]
 have e2:lH none (prs.map dD)=iX (prs.map (·.name)):=e2
 rw [e2]
abbrev jL:=Nat×Nat×Nat
def cB (s:jL):Pl:=((s.1:Int),(s.2.1:Int),(s.2.2:Int))
theorem gD {a b:jL} (h:cB a=cB b):a=b:=by
 obtain ⟨x,y,z⟩:=a
 obtain ⟨u,v,w⟩:=b
 unfold cB at h
 simp only [Prod.mk.injEq] at h ⊢
 omega
def fA (w d i:Nat):jL:=(i % w,i / w % d,i / w / d)
theorem kY {w d i x y z:Nat} (h:fA w d i=(x,y,z)):i=(z * d+y) * w+x:=by
 unfold fA at h
 simp only [Prod.mk.injEq] at h
 obtain ⟨rfl,rfl,rfl⟩:=h
 have h1:=Nat.div_add_mod (i / w) d
 have h2:=Nat.div_add_mod i w
 rw [Nat.mul_comm (i / w / d) d,h1,Nat.mul_comm (i / w) w,h2]
theorem Gj {w d x y z:Nat} (hx:x<w) (hy:y<d):fA w d ((z * d+y) * w+x)=(x,y,z):=by
 have hw:0<w:=by (clear hy;omega)
 have hd:0<d:=by (clear hw hx;omega)
 have e1:((z * d+y) * w+x) / w=z * d+y:=by
  rw [Nat.add_comm,Nat.add_mul_div_right _ _ hw,Nat.div_eq_of_lt hx,Nat.zero_add]
 have e2:((z * d+y) * w+x) % w=x:=by rw [Nat.add_comm,Nat.add_mul_mod_self_right,Nat.mod_eq_of_lt hx]
 unfold fA
 rw [e1,e2,Nat.add_comm (z * d),Nat.add_mul_div_right _ _ hd,Nat.div_eq_of_lt hy,Nat.zero_add,Nat.add_mul_mod_self_right,Nat.mod_eq_of_lt hy]
theorem lN {α:Type} {f:Nat->List α} {m:Nat} (hf:∀ z,(f z).length=m):∀ n,((List.range n).flatMap f).length=n * m
 |0=>by simp
 |n+1=>by
  rw [List.range_succ,List.flatMap_append,List.length_append,lN hf n,List.flatMap_singleton,hf,Nat.succ_mul]
theorem vQ {α:Type} {f:Nat->List α} {m:Nat} (hm:0<m) (hf:∀ z,(f z).length=m):∀ n i,i<n * m->((List.range n).flatMap f)[i]?=(f (i / m))[i % m]?
 |0,i,h=>by (clear hm;omega)
 |n+1,i,h=>by
  rw [List.range_succ,List.flatMap_append,List.flatMap_singleton]
  by_cases hi:i<n * m
  ·rw [List.getElem?_append_left (by rw [lN hf];exact hi)]
   exact vQ hm hf n i hi
  ·rw [List.getElem?_append_right (by rw [lN hf];(clear h hm;omega)),lN hf]
   rw [Nat.succ_mul] at h
   have e:i=(i - n * m)+n * m:=by (clear h hm;omega)
   have hl:i - n * m<m:=by (clear e hi;omega)
   have e1:i / m=n:=by
    rw [e,Nat.add_mul_div_right _ _ hm,Nat.div_eq_of_lt hl,Nat.zero_add]
   have e2:i % m=i - n * m:=by
    conv=>lhs;rw [e]
    rw [Nat.add_mul_mod_self_right,Nat.mod_eq_of_lt hl]
   rw [e1,e2]
theorem qK {p:Br.Part} (hw:0<p.wide) (hd:0<p.deep):p.spots=(List.range (p.high * (p.deep * p.wide))).map (fA p.wide p.deep):=by
 have l1:∀ y z:Nat,((List.range p.wide).map fun (x:Nat)=>(x,y,z)).length=p.wide:=by simp
 have l2:∀ z:Nat,((List.range p.deep).flatMap fun (y:Nat)=>(List.range p.wide).map fun (x:Nat)=>(x,y,z)).length=p.deep * p.wide:=fun z=>lN (fun y=>l1 y z) _
 apply List.ext_getElem?
 intro i
 unfold Br.Part.spots
 by_cases hi:i<p.high * (p.deep * p.wide)
 ·rw [vQ (Nat.mul_pos hd hw) l2 _ _ hi,List.getElem?_map,List.getElem?_range hi]
  have hlt:i % (p.deep * p.wide)<p.deep * p.wide:=Nat.mod_lt _ (Nat.mul_pos hd hw)
  rw [vQ hw (fun y=>l1 y _) _ _ hlt,List.getElem?_map,List.getElem?_range (Nat.mod_lt _ hw)]
  show some _=some _
  unfold fA
  rw [Nat.mod_mul_left_mod,Nat.mod_mul_left_div_self,Nat.mul_comm p.deep p.wide,Nat.div_div_eq_div_mul]
 ·rw [List.getElem?_eq_none,List.getElem?_eq_none]
  ·rw [List.length_map,List.length_range];(clear hd hw;omega)
  ·rw [lN l2];(clear hd hw;omega)
def kept (q:Nat×Int):Bool:= !decide (q.2=46)
def lP (w d:Nat) (q:Nat×Int):Pl×Int:=(cB (fA w d q.1),q.2)
theorem Fa {w d j:Nat}:∀ (r:List Int) (x:Nat),x+r.length<=w->wA (j % d) (j / d) x r=(((List.range' (j * w+x) r.length).zip r).filter kept).map (lP w d)
 |[],x,_=>by simp [wA]
 |s::r,x,h=>by
  rw [List.length_cons] at h
  have ih:=Fa (w:=w) (d:=d) (j:=j) r (x+1) (by omega)
  have hw:0<w:=by omega
  rw [wA,ih,List.length_cons,List.range'_succ,List.zip_cons_cons,show j * w+x+1=j * w+(x+1) by (clear hw h;omega)]
  have e1:(j * w+x) / w=j:=by
   rw [Nat.add_comm,Nat.add_mul_div_right _ _ hw,Nat.div_eq_of_lt (by (clear hw;omega)),Nat.zero_add]
  have e2:(j * w+x) % w=x:=by rw [Nat.add_comm,Nat.add_mul_mod_self_right,Nat.mod_eq_of_lt (by (clear e1 hw;omega))]
  by_cases hs:s=46
  ·rw [if_pos hs,List.filter_cons_of_neg (by simp [kept,hs]),List.nil_append]
  ·rw [if_neg hs,List.filter_cons_of_pos (by simp [kept,hs]),List.map_cons]
   show _::_=_
   unfold lP cB fA
   simp only [e1,e2]
   rfl
theorem yN {w d:Nat}:∀ (rs:List (List Int)) (j:Nat),(∀ x∈rs,x.length=w)->oN d j rs=(((List.range' (j * w) rs.flatten.length).zip rs.flatten).filter kept).map (lP w d)
 |[],j,_=>by simp [oN]
 |r::rs,j,h=>by
  have ih:=yN (w:=w) (d:=d) rs (j+1) fun x hx=>h x (List.mem_cons_of_mem _ hx)
  have hr:=h r List.mem_cons_self
  have e:=Fa (w:=w) (d:=d) (j:=j) r 0 (by omega)
  rw [oN,ih,e,List.flatten_cons,List.length_append,<-List.range'_append_1,List.zip_append (by rw [List.length_range']),List.filter_append,List.map_append,hr,Nat.add_zero,Nat.succ_mul]
theorem Dg {w:Nat}:∀ {rs:List (List Int)},(∀ x∈rs,x.length=w)->rs.flatten.length=rs.length * w
 |[],_=>by simp
 |r::rs,h=>by
  rw [List.flatten_cons,List.length_append,Dg fun x hx=>h x (List.mem_cons_of_mem _ hx),h r List.mem_cons_self,List.length_cons,Nat.succ_mul,Nat.add_comm]
def zP (pr:aN):List (Nat×Int):=(List.range (pr.h * (pr.d * pr.w))).zip pr.rows.flatten
theorem Dr {pr:aN} (ok:eF pr):pr.rows.flatten.length=pr.h * (pr.d * pr.w):=by
 rw [Dg ok.rw,ok.rl,Nat.mul_comm pr.d,Nat.mul_assoc]
theorem yS {pr:aN} (ok:eF pr):sR pr=((zP pr).filter kept).map (lP pr.w pr.d):=by
 unfold sR zP
 rw [yN pr.rows 0 ok.rw,Dr ok,Nat.zero_mul,<-List.range_eq_range']
theorem mM (s:Int):(oB s).isCell= !decide (s=46):=by
 unfold oB
 by_cases h:s=46
 ·simp [h,Br.Place.isCell]
 ·rw [if_neg h]
  simp only [h,decide_false,Bool.not_false]
  split
  ·rfl
  ·split
   ·rfl
   ·split<;>rfl
theorem vG {s:Int} (h:s∈cG):(oB s).stud=dY s:=by
 simp only [cG,List.mem_cons,List.not_mem_nil,or_false] at h
 rcases h with rfl|rfl|rfl|rfl|rfl<;>decide
theorem wZ {s:Int} (h:s∈cG):(oB s).tube=dC s:=by
 simp only [cG,List.mem_cons,List.not_mem_nil,or_false] at h
 rcases h with rfl|rfl|rfl|rfl|rfl<;>decide
theorem gF (pr:aN):(dD pr).places=pr.rows.flatten.map oB:=by
 show (pr.rows.map (List.map oB)).flatten=_
 rw [List.map_flatten]
theorem Be {pr:aN} (ok:eF pr) (f:Br.Place->Bool):(dD pr).such f=((zP pr).filter fun q=>f (oB q.2)).map fun q=>fA pr.w pr.d q.1:=by
 unfold Br.Part.such
 rw [qK (p:=dD pr) ok.w1 ok.d1,gF]
 show List.map _ (List.filter _ (((List.range (pr.h * (pr.d * pr.w))).map (fA pr.w pr.d)).zip _))=_
 rw [List.zip_map,List.filter_map,List.map_map]
 rfl
theorem pN {pr:aN} (ok:eF pr):(dD pr).cells=((zP pr).filter kept).map fun q=>fA pr.w pr.d q.1:=by
 unfold Br.Part.cells
 rw [Be ok]
 congr 2
 funext q
 exact mM q.2
theorem nV {pr:aN} (ok:eF pr):(sR pr).map (·.1)=(dD pr).cells.map cB:=by
 rw [yS ok,pN ok,List.map_map,List.map_map]
 rfl
theorem rX {pr:aN} (ok:eF pr) {q:Nat×Int} (h:q∈zP pr):q.2∈cG:=by
 have h2:=(List.of_mem_zip h).2
 obtain ⟨r,hr,hs⟩:=List.mem_flatten.mp h2
 exact ok.sg r hr _ hs
theorem tW {pr:aN} (ok:eF pr) (s:jL):(aV (sR pr) (cB s)).isSome=true↔s∈(dD pr).cells:=by
 rw [dG]
 constructor
 ·rintro ⟨c,hc,e⟩
  have:cB s∈(sR pr).map (·.1):=List.mem_map.mpr ⟨c,hc,e⟩
  rw [nV ok] at this
  obtain ⟨t,ht,e2⟩:=List.mem_map.mp this
  rw [<-gD e2];exact ht
 ·intro h
  have:cB s∈(sR pr).map (·.1):=by rw [nV ok];exact List.mem_map_of_mem h
  obtain ⟨c,hc,e⟩:=List.mem_map.mp this
  exact ⟨c,hc,e⟩
theorem Jz {pr:aN} (ok:eF pr) {i:Nat} {s:Int}:(i,s)∈zP pr↔pr.rows.flatten[i]?=some s:=by
 unfold zP
 rw [List.mem_iff_getElem?]
 constructor
 ·rintro ⟨k,e⟩
  rw [List.getElem?_zip_eq_some] at e
  obtain ⟨e1,e2⟩:=e
  obtain ⟨hk,e3⟩:=List.getElem?_eq_some_iff.mp e1
  rw [List.getElem_range] at e3
  subst e3
  exact e2
 ·intro e
  refine ⟨i,?_⟩
  rw [List.getElem?_zip_eq_some]
  refine ⟨List.getElem?_range ?_,e⟩
  rw [<-Dr ok]
  exact (List.getElem?_eq_some_iff.mp e).1
theorem qQ {pr:aN} (ok:eF pr) (x y z:Nat):((dD pr).at_ x y z).isCell=true↔(x,y,z)∈(dD pr).cells:=by
 rw [pN ok]
 unfold Br.Part.at_
 show ((if x<pr.w/\y<pr.d/\z<pr.h then (dD pr).places.getD ((z * pr.d+y) * pr.w+x) .none else .none:Br.Place)).isCell=true↔_
 have hN:∀ i,i<pr.h * (pr.d * pr.w)->i % pr.w<pr.w/\i / pr.w % pr.d<pr.d/\i / pr.w / pr.d<pr.h:=fun i hi=>by
  refine ⟨Nat.mod_lt _ ok.w1,Nat.mod_lt _ ok.d1,?_⟩
  rw [Nat.div_div_eq_div_mul]
  apply Nat.div_lt_of_lt_mul
  rw [Nat.mul_comm,Nat.mul_comm pr.w]
  exact hi
 constructor
 ·intro h
  split at h
  ·rename_i hr
   rw [gF,List.getD_eq_getElem?_getD,List.getElem?_map] at h
   cases e:pr.rows.flatten[(z * pr.d+y) * pr.w+x]? with
   |none=>rw [e] at h;cases h
   |some s=>
    rw [e] at h
    have h:(oB s).isCell=true:=h
    rw [mM] at h
    refine List.mem_map.mpr ⟨(_,s),List.mem_filter.mpr ⟨(Jz ok).mpr e,h⟩,?_⟩
    exact Gj hr.1 hr.2.1
  ·cases h
 ·intro h
  obtain ⟨⟨i,s⟩,hm,e⟩:=List.mem_map.mp h
  obtain ⟨hz,hk⟩:=List.mem_filter.mp hm
  have hz:=(Jz ok).mp hz
  have hi:i<pr.h * (pr.d * pr.w):=by rw [<-Dr ok];exact (List.getElem?_eq_some_iff.mp hz).1
  have e:fA pr.w pr.d i=(x,y,z):=e
  have e2:=kY e
  have h3:=hN i hi
  unfold fA at e
  simp only [Prod.mk.injEq] at e
  rw [if_pos (by (clear e2 hi;omega)),gF,List.getD_eq_getElem?_getD,List.getElem?_map,<-e2,hz]
  show (oB s).isCell=true
  rw [mM]
  exact hk
theorem Hc {pr:aN} (ok:eF pr):(dD pr).studsOk=mK (sR pr):=by
 rw [Bool.eq_iff_iff]
 unfold Br.Part.studsOk mK Br.Part.studs
 rw [Be ok,List.all_eq_true,List.all_eq_true]
 constructor
 ·intro h c hc
  rw [yS ok] at hc
  obtain ⟨q,hq,rfl⟩:=List.mem_map.mp hc
  obtain ⟨hz,hk⟩:=List.mem_filter.mp hq
  cases hs:dY (lP pr.w pr.d q).2 with
  |false=>rfl
  |true=>
   have h2:=h (fA pr.w pr.d q.1) (List.mem_map.mpr ⟨q,List.mem_filter.mpr ⟨hz,by rw [vG (rX ok hz)];exact hs⟩,rfl⟩)
   rw [Bool.true_and,Bool.not_eq_true',<-Bool.not_eq_true]
   intro g
   have g2:(aV (sR pr) (cB ((fA pr.w pr.d q.1).1,(fA pr.w pr.d q.1).2.1,(fA pr.w pr.d q.1).2.2+1))).isSome=true:=g
   rw [tW ok,<-qQ ok] at g2
   rw [g2] at h2
   cases h2
 ·intro h s hs
  obtain ⟨q,hq,rfl⟩:=List.mem_map.mp hs
  obtain ⟨hz,hk⟩:=List.mem_filter.mp hq
  rw [vG (rX ok hz)] at hk
  have hk2:kept q=true:=by
   unfold kept
   cases e:decide (q.2=46) with
   |false=>rfl
   |true=>rw [decide_eq_true_iff.mp e] at hk;cases hk
  have h2:=h (lP pr.w pr.d q) (by rw [yS ok];exact List.mem_map.mpr ⟨q,List.mem_filter.mpr ⟨hz,hk2⟩,rfl⟩)
  rw [show dY (lP pr.w pr.d q).2=true from hk,Bool.true_and,Bool.not_eq_true',<-Bool.not_eq_true] at h2
  rw [Bool.not_eq_true',<-Bool.not_eq_true]
  intro g
  rw [qQ ok,<-tW ok] at g
  exact h2 g
theorem Fw {pr:aN} (ok:eF pr):(dD pr).tubesOk=mQ (sR pr):=by
 rw [Bool.eq_iff_iff]
 unfold Br.Part.tubesOk mQ Br.Part.tubes
 rw [Be ok,List.all_eq_true,List.all_eq_true]
 constructor
 ·intro h c hc
  have hc0:=hc
  rw [yS ok] at hc
  obtain ⟨q,hq,rfl⟩:=List.mem_map.mp hc
  obtain ⟨hz,hk⟩:=List.mem_filter.mp hq
  cases hs:dC (lP pr.w pr.d q).2 with
  |false=>rfl
  |true=>
   have h2:=h (fA pr.w pr.d q.1) (List.mem_map.mpr ⟨q,List.mem_filter.mpr ⟨hz,by rw [wZ (rX ok hz)];exact hs⟩,rfl⟩)
   rw [Bool.true_and,Bool.not_eq_true',<-Bool.not_eq_true]
   intro g
   by_cases h0:(fA pr.w pr.d q.1).2.2=0
   ·obtain ⟨c,hc,e⟩:=dG.mp g
    have hm:c.1∈(sR pr).map (·.1):=List.mem_map_of_mem hc
    rw [nV ok,e] at hm
    obtain ⟨t,ht,e2⟩:=List.mem_map.mp hm
    have e3:((t.2.2:Nat):Int)=((fA pr.w pr.d q.1).2.2:Int) - 1:=congrArg (fun p:Pl=>p.2.2) e2
    omega
   ·have g2:(aV (sR pr) (cB ((fA pr.w pr.d q.1).1,(fA pr.w pr.d q.1).2.1,(fA pr.w pr.d q.1).2.2 - 1))).isSome=true:=by
     have e:cB ((fA pr.w pr.d q.1).1,(fA pr.w pr.d q.1).2.1,(fA pr.w pr.d q.1).2.2 - 1)=oQ (lP pr.w pr.d q).1:=by
      refine Prod.ext rfl (Prod.ext rfl ?_)
      show (((fA pr.w pr.d q.1).2.2 - 1:Nat):Int)=((fA pr.w pr.d q.1).2.2:Int) - 1
      omega
     rw [e];exact g
    rw [tW ok,<-qQ ok] at g2
    rw [g2,Bool.not_true,Bool.or_false,beq_iff_eq] at h2
    exact h0 h2
 ·intro h s hs
  obtain ⟨q,hq,rfl⟩:=List.mem_map.mp hs
  obtain ⟨hz,hk⟩:=List.mem_filter.mp hq
  rw [wZ (rX ok hz)] at hk
  have hk2:kept q=true:=by
   unfold kept
   cases e:decide (q.2=46) with
   |false=>rfl
   |true=>rw [decide_eq_true_iff.mp e] at hk;cases hk
  have h2:=h (lP pr.w pr.d q) (by rw [yS ok];exact List.mem_map.mpr ⟨q,List.mem_filter.mpr ⟨hz,hk2⟩,rfl⟩)
  rw [show dC (lP pr.w pr.d q).2=true from hk,Bool.true_and,Bool.not_eq_true',<-Bool.not_eq_true] at h2
  by_cases h0:(fA pr.w pr.d q.1).2.2=0
  ·rw [h0];rfl
  ·rw [Bool.or_eq_true]
   right
   rw [Bool.not_eq_true',<-Bool.not_eq_true]
   intro g
   rw [qQ ok,<-tW ok] at g
   have e:cB ((fA pr.w pr.d q.1).1,(fA pr.w pr.d q.1).2.1,(fA pr.w pr.d q.1).2.2 - 1)=oQ (lP pr.w pr.d q).1:=by
    refine Prod.ext rfl (Prod.ext rfl ?_)
    show (((fA pr.w pr.d q.1).2.2 - 1:Nat):Int)=((fA pr.w pr.d q.1).2.2:Int) - 1
    (clear h2;omega)
   rw [e] at g
   exact h2 g
theorem iH {pr:aN} (ok:eF pr) (a:Nat) (n:Int) (f:jL->Bool) (hf:∀ s,f s=true↔coP (cB s) a=n):(dD pr).cells.any f=decide (n∈fJ (sR pr) a):=by
 rw [Bool.eq_iff_iff,List.any_eq_true,decide_eq_true_iff]
 have e:fJ (sR pr) a=(dD pr).cells.map fun s=>coP (cB s) a:=by
  have:fJ (sR pr) a=((sR pr).map (·.1)).map fun p=>coP p a:=by unfold fJ;rw [List.map_map];rfl
  rw [this,nV ok,List.map_map]
  rfl
 rw [e,List.mem_map]
 exact ⟨fun ⟨s,h1,h2⟩=>⟨s,h1,(hf s).mp h2⟩,fun ⟨s,h1,h2⟩=>⟨s,h1,(hf s).mpr h2⟩⟩
theorem Gq {pr:aN} (ok:eF pr):(dD pr).tight=mI (sR pr) pr.w pr.d pr.h:=by
 have hw:=ok.w1
 have hd:=ok.d1
 have hh:=ok.h1
 show ((dD pr).cells.any (fun (s:jL)=>s.1==0) && ((dD pr).cells.any (fun (s:jL)=>s.1+1==pr.w) && ((dD pr).cells.any (fun (s:jL)=>s.2.1==0) && ((dD pr).cells.any (fun (s:jL)=>s.2.1+1==pr.d) && ((dD pr).cells.any (fun (s:jL)=>s.2.2==0) && (dD pr).cells.any fun (s:jL)=>s.2.2+1==pr.h)))))=_
 rw [iH ok 0 0 _ (fun s=>by rw [beq_iff_eq];show s.1=0↔(s.1:Int)=0;(clear hh hd hw;omega)),
  iH ok 0 (pr.w - 1) _ (fun s=>by rw [beq_iff_eq];show s.1+1=pr.w↔(s.1:Int)=pr.w - 1;(clear hh hd hw;omega)),
  iH ok 1 0 _ (fun s=>by rw [beq_iff_eq];show s.2.1=0↔(s.2.1:Int)=0;(clear hh hd hw;omega)),
  iH ok 1 (pr.d - 1) _ (fun s=>by rw [beq_iff_eq];show s.2.1+1=pr.d↔(s.2.1:Int)=pr.d - 1;(clear hh hd hw;omega)),
  iH ok 2 0 _ (fun s=>by rw [beq_iff_eq];show s.2.2=0↔(s.2.2:Int)=0;(clear hh hd hw;omega)),
  iH ok 2 (pr.h - 1) _ (fun s=>by rw [beq_iff_eq];show s.2.2+1=pr.h↔(s.2.2:Int)=pr.h - 1;(clear hh hd hw;omega))]
 unfold mI eZ
 simp only [Bool.and_assoc]
inductive eS {α:Type} (E:α->α->Prop) (l rest:List α):α->Prop
 |base {a:α}:a∈l->eS E l rest a
 |step {p q:α}:eS E l rest p->E p q->q∈rest->eS E l rest q
def Np (p q:jL):Prop:=Br.beside q p=true
theorem Ps {l rest:List jL} {q:jL}:q∈(rest.partition fun (c:jL)=>l.any (Br.beside c)).1↔q∈rest/\∃ i∈l,Np i q:=by
 rw [List.partition_eq_filter_filter,List.mem_filter,List.any_eq_true]
 rfl
theorem Uf {l rest:List jL} {q:jL}:q∈(rest.partition fun (c:jL)=>l.any (Br.beside c)).2↔q∈rest/\¬∃ i∈l,Np i q:=by
 rw [List.partition_eq_filter_filter,List.mem_filter]
 show _/\(!(l.any (Br.beside q)))=true↔_
 rw [Bool.not_eq_true',<-Bool.not_eq_true,List.any_eq_true]
 rfl
theorem lC {α:Type} (f:α->Bool):∀ l:List α,(l.filter f).length+(l.filter (not∘f)).length=l.length
 |[]=>rfl
 |a::r=>by
  have ih:=lC f r
  cases h:f a with
  |true=>rw [List.filter_cons_of_pos h,List.filter_cons_of_neg (by simp [h]),List.length_cons,List.length_cons];omega
  |false=>rw [List.filter_cons_of_neg (by simp [h]),List.filter_cons_of_pos (by simp [h]),List.length_cons,List.length_cons];omega
theorem zJ:∀ {n:Nat} {l rest:List jL},rest.length<=n->(∀ x∈l,x∉rest)->(Br.apartFrom n l rest=[]↔∀ s∈rest,eS Np l rest s)
 |0,l,rest,hn,_=>by
  have:rest=[]:=List.eq_nil_of_length_eq_zero (by omega)
  subst this
  exact Iff.intro (fun _ s hs=>absurd hs List.not_mem_nil) (fun _=>rfl)
 |n+1,l,rest,hn,dj=>by
  have nm:= @Ps l rest
  have fm:= @Uf l rest
  have ln:(rest.partition fun (c:jL)=>l.any (Br.beside c)).1.length+(rest.partition fun (c:jL)=>l.any (Br.beside c)).2.length=rest.length:=by
   rw [List.partition_eq_filter_filter]
   exact lC _ _
  show (if (rest.partition fun (c:jL)=>l.any (Br.beside c)).1=[] then rest else Br.apartFrom n (rest.partition fun (c:jL)=>l.any (Br.beside c)).1 (rest.partition fun (c:jL)=>l.any (Br.beside c)).2)=[]↔_
  generalize rest.partition (fun (c:jL)=>l.any (Br.beside c))=pt at nm fm ln
  by_cases h:pt.1=[]
  ·rw [if_pos h]
   constructor
   ·rintro rfl s hs
    cases hs
   ·intro hs
    have key:∀ s,eS Np l rest s->s∈l:=by
     intro s hf
     induction hf with
     |base ha=>exact ha
     |step _ e hq ih=>
      have:=nm.mpr ⟨hq,_,ih,e⟩
      rw [h] at this
      cases this
    cases rest with
    |nil=>rfl
    |cons a r=>exact absurd List.mem_cons_self (dj a (key a (hs a List.mem_cons_self)))
  ·rw [if_neg h]
   have hl:0<pt.1.length:=by
    cases e:pt.1 with
    |nil=>exact absurd e h
    |cons a r=>simp
   rw [zJ (n:=n) (by (clear h;omega)) fun x hx hy=>(fm.mp hy).2 (nm.mp hx).2]
   constructor
   ·intro hs s hr
    by_cases hx:∃ i∈l,Np i s
    ·obtain ⟨i,hi,e⟩:=hx
     exact .step (.base hi) e hr
    ·have hf:=hs s (fm.mpr ⟨hr,hx⟩)
     clear hr hx
     induction hf with
     |base ha=>
      obtain ⟨h1,i,hi,e⟩:=nm.mp ha
      exact .step (.base hi) e h1
     |step _ e hq ih=>exact .step ih e (fm.mp hq).1
   ·intro hs s hf
    have hf1:=fm.mp hf
    have key:∀ s,eS Np l rest s->s∈l\/eS Np pt.1 pt.2 s:=by
     intro s hf
     induction hf with
     |base ha=>exact .inl ha
     | @step p q _ e hq ih=>
      right
      by_cases hx:∃ i∈l,Np i q
      ·exact .base (nm.mpr ⟨hq,hx⟩)
      ·rcases ih with h1|h1
       ·exact absurd ⟨p,h1,e⟩ hx
       ·exact .step h1 e (fm.mpr ⟨hq,hx⟩)
    rcases key s (hs s hf1.1) with h1|h1
    ·exact absurd hf1.1 (dj s h1)
    ·exact h1
def Os (p q:Pl):Prop:=q∈yK p
theorem mZ {α:Type} [DecidableEq α]:∀ {l m:List α},l.Nodup->(∀ x∈l,x∈m)->l.length<=m.length
 |[],m,_,_=>Nat.zero_le _
 |a::l,m,nd,h=>by
  have nd:=List.nodup_cons.mp nd
  have ha:=h a List.mem_cons_self
  have ih:=mZ (l:=l) (m:=m.erase a) nd.2 fun x hx=>(List.mem_erase_of_ne (by rintro rfl;exact nd.1 hx)).mpr (h x (List.mem_cons_of_mem _ hx))
  have:=List.length_erase_of_mem ha
  have hp:=List.length_pos_of_mem ha
  rw [List.length_cons]
  (clear nd;omega)
structure Tc (cs:CL) (a:Pl) (rs0 ws0:List Pl) (M:Nat) (st:List Pl×List Pl):Prop where
 nd:st.1.Nodup
 ks:∀ r∈st.1,(aV cs r).isSome=true/\eS Os [a] (cs.map (·.1)) r
 ws:∀ r∈st.2,r∈st.1
 ol:∀ r∈rs0,r∈st.1
 nw:∀ r∈st.1,r∉st.2->r∈rs0/\r∉ws0
 ms:st.2.length+vJ cs st.1<=M
theorem wF {cs:CL} {p:Pl}:(aV cs p).isSome=true↔p∈cs.map (·.1):=by
 rw [dG,List.mem_map]
theorem Tc.push {cs:CL} {a q:Pl} {rs0 ws0:List Pl} {M:Nat} {st:List Pl×List Pl} {p:Pl} (h:Tc cs a rs0 ws0 M st) (hq:eS Os [a] (cs.map (·.1)) q) (hp:p∈yK q):Tc cs a rs0 ws0 M (gO cs st p)/\(∀ r∈st.1,r∈(gO cs st p).1)/\((aV cs p).isSome=true->p∈(gO cs st p).1):=by
 unfold gO
 by_cases hc:(aV cs p).isSome=true/\p∉st.1
 ·rw [if_pos hc]
  obtain ⟨nd,ks,ws,ol,nw,ms⟩:=h
  refine ⟨⟨?_,?_,?_,?_,?_,?_⟩,fun r hr=>List.mem_append_left _ hr,fun _=>List.mem_append_right _ List.mem_cons_self⟩
  ·show (st.1++[p]).Nodup
   rw [List.nodup_append]
   refine ⟨nd,by simp,fun x hx y hy z=>?_⟩
   rw [List.mem_singleton] at hy
   subst hy
   subst z
   exact hc.2 hx
  ·intro r hr
   rcases List.mem_append.mp hr with hr|hr
   ·exact ks r hr
   ·rw [List.mem_singleton] at hr
    subst hr
    exact ⟨hc.1,.step hq hp (wF.mp hc.1)⟩
  ·intro r hr
   rcases List.mem_append.mp hr with hr|hr
   ·exact List.mem_append_left _ (ws r hr)
   ·exact List.mem_append_right _ hr
  ·exact fun r hr=>List.mem_append_left _ (ol r hr)
  ·intro r hr hn
   rcases List.mem_append.mp hr with hr|hr
   ·exact nw r hr fun z=>hn (List.mem_append_left _ z)
   ·exact absurd (List.mem_append_right _ hr) hn
  ·have:=mO hc.2 hc.1
   show (st.2++[p]).length+vJ cs (st.1++[p])<=M
   rw [List.length_append,List.length_singleton]
   (clear hc;omega)
 ·rw [if_neg hc]
  refine ⟨h,fun r hr=>hr,fun hg=>?_⟩
  by_cases hm:p∈st.1
  ·exact hm
  ·exact absurd ⟨hg,hm⟩ hc
theorem Tc.all {cs:CL} {a q:Pl} {rs0 ws0:List Pl} {M:Nat} (hq:eS Os [a] (cs.map (·.1)) q):∀ {ps:List Pl} {st:List Pl×List Pl},Tc cs a rs0 ws0 M st->(∀ p∈ps,p∈yK q)->Tc cs a rs0 ws0 M (ps.foldl (gO cs) st)/\(∀ r∈st.1,r∈(ps.foldl (gO cs) st).1)/\∀ p∈ps,(aV cs p).isSome=true->p∈(ps.foldl (gO cs) st).1
 |[],st,h,_=>⟨h,fun _ hr=>hr,fun p hp=>by cases hp⟩
 |p::ps,st,h,hps=>by
  obtain ⟨h1,h2,h3⟩:=h.push hq (hps p List.mem_cons_self)
  obtain ⟨k1,k2,k3⟩:=Tc.all hq h1 fun x hx=>hps x (List.mem_cons_of_mem _ hx)
  refine ⟨k1,fun r hr=>k2 r (h2 r hr),fun x hx hg=>?_⟩
  rcases List.mem_cons.mp hx with rfl|hx
  ·exact k2 _ (h3 hg)
  ·exact k3 x hx hg
structure Zb (cs:CL) (a:Pl) (n:Nat) (rs ws:List Pl):Prop where
 nd:rs.Nodup
 ks:∀ r∈rs,(aV cs r).isSome=true/\eS Os [a] (cs.map (·.1)) r
 sb:∀ r∈ws,r∈rs
 cl:∀ r∈rs,r∉ws->∀ q∈yK r,(aV cs q).isSome=true->q∈rs
 ms:ws.length+vJ cs rs<=n
theorem Ir {cs:CL} {a:Pl}:∀ {n:Nat} {rs ws:List Pl},Zb cs a n rs ws->(dI cs n rs ws).Nodup/\(∀ r∈dI cs n rs ws,(aV cs r).isSome=true/\eS Os [a] (cs.map (·.1)) r)/\(∀ r∈dI cs n rs ws,∀ q∈yK r,(aV cs q).isSome=true->q∈dI cs n rs ws)/\∀ r∈rs,r∈dI cs n rs ws
 |0,rs,ws,h=>by
  have:ws=[]:=List.eq_nil_of_length_eq_zero (by have:=h.ms;omega)
  subst this
  exact ⟨h.nd,h.ks,fun r hr=>h.cl r hr (by simp),fun r hr=>hr⟩
 |n+1,rs,ws,h=>by
  rw [dI]
  cases e:ws.getLast? with
  |none=>
   have:ws=[]:=List.getLast?_eq_none_iff.mp e
   subst this
   exact ⟨h.nd,h.ks,fun r hr=>h.cl r hr (by simp),fun r hr=>hr⟩
  |some q=>
   obtain ⟨w0,rfl⟩:=List.getLast?_eq_some_iff.mp e
   rw [List.dropLast_concat]
   have hq:=h.sb q (by simp)
   have p0:Tc cs a rs w0 n (rs,w0):=⟨h.nd,h.ks,fun r hr=>h.sb r (List.mem_append_left _ hr),fun r hr=>hr,fun r hr hn=>⟨hr,hn⟩,by have:=h.ms;rw [List.length_append,List.length_singleton] at this;show w0.length+vJ cs rs<=n;omega⟩
   obtain ⟨k1,k2,k3⟩:=Tc.all (h.ks q hq).2 p0 (ps:=yK q) fun p hp=>hp
   have s2:Zb cs a n ((yK q).foldl (gO cs) (rs,w0)).1 ((yK q).foldl (gO cs) (rs,w0)).2:=by
    refine ⟨k1.nd,k1.ks,k1.ws,fun r hr hn x hx hg=>?_,k1.ms⟩
    obtain ⟨h1,h2⟩:=k1.nw r hr hn
    by_cases hrq:r=q
    ·subst hrq
     exact k3 x hx hg
    ·exact k2 x (h.cl r h1 (by simp [h2,hrq]) x hx hg)
   obtain ⟨r1,r2,r3,r4⟩:=Ir s2
   exact ⟨r1,r2,r3,fun r hr=>r4 r (k2 r hr)⟩
theorem Sl {c:Pl×Int} {r:CL} (nd:((c::r).map (·.1)).Nodup):vC (c::r)=true↔∀ p∈(c::r).map (·.1),eS Os [c.1] ((c::r).map (·.1)) p:=by
 have g0:(aV (c::r) c.1).isSome=true:=dG.mpr ⟨c,List.mem_cons_self,rfl⟩
 have u0:1+vJ (c::r) [c.1]<=(c::r).length:=by
  rw [mE,if_pos (by simp),List.length_cons]
  have:vJ r [c.1]<=r.length:=List.length_filter_le _ _
  omega
 have s0:Zb (c::r) c.1 (c::r).length [c.1] [c.1]:=⟨by simp,fun x hx=>by rw [List.mem_singleton] at hx;subst hx;exact ⟨g0,.base List.mem_cons_self⟩,fun x hx=>hx,fun x hx hn=>absurd hx hn,u0⟩
 obtain ⟨r1,r2,r3,r4⟩:=Ir s0
 rw [vC,decide_eq_true_iff]
 generalize dI (c::r) (c::r).length [c.1] [c.1]=R at r1 r2 r3 r4
 have sub:∀ x∈R,x∈(c::r).map (·.1):=fun x hx=>wF.mp (r2 x hx).1
 have hle:=mZ r1 sub
 rw [List.length_map] at hle
 have all:∀ x,eS Os [c.1] ((c::r).map (·.1)) x->x∈R:=by
  intro x hf
  induction hf with
  |base ha=>exact r4 _ ha
  |step _ e hq ih=>exact r3 _ ih _ e (wF.mpr hq)
 constructor
 ·intro hl p hp
  by_cases hm:p∈R
  ·exact (r2 p hm).2
  ·have:=mZ (l:=p::R) (m:=(c::r).map (·.1)) (List.nodup_cons.mpr ⟨hm,r1⟩) fun x hx=>by
    rcases List.mem_cons.mp hx with rfl|hx
    ·exact hp
    ·exact sub x hx
   rw [List.length_map,List.length_cons,hl] at this
   (clear hm hl hle u0;omega)
 ·intro h
  have:=mZ nd fun x hx=>all x (h x hx)
  rw [List.length_map] at this
  (clear u0;omega)
theorem aC4 {p q r:Nat} (h:p+q+r=1):(p=1/\q=0/\r=0)\/(p=0/\q=1/\r=0)\/(p=0/\q=0/\r=1):=by omega
theorem lX {x u:Nat}:(u - x)+(x - u)=0↔(u:Int)=(x:Int):=by omega
theorem Ao {x u:Nat}:(u - x)+(x - u)=1↔(u:Int)=(x:Int) - 1\/(u:Int)=(x:Int)+1:=by omega
theorem xS (a b:jL):Np a b↔Os (cB a) (cB b):=by
 obtain ⟨x,y,z⟩:=a
 obtain ⟨u,v,w⟩:=b
 unfold Np Os Br.beside
 rw [beq_iff_eq]
 constructor
 ·intro h
  rcases aC4 h with ⟨h1,h2,h3⟩|⟨h1,h2,h3⟩|⟨h1,h2,h3⟩
  ·have e2:(v:Int)=y:=lX.mp h2
   have e3:(w:Int)=z:=lX.mp h3
   rcases Ao.mp h1 with e1|e1
   ·exact List.mem_cons.mpr (.inl (Prod.ext e1 (Prod.ext e2 e3)))
   ·exact List.mem_cons_of_mem _ (List.mem_cons.mpr (.inl (Prod.ext e1 (Prod.ext e2 e3))))
  ·have e1:(u:Int)=x:=lX.mp h1
   have e3:(w:Int)=z:=lX.mp h3
   rcases Ao.mp h2 with e2|e2
   ·exact List.mem_cons_of_mem _ (List.mem_cons_of_mem _ (List.mem_cons.mpr (.inl (Prod.ext e1 (Prod.ext e2 e3)))))
   ·exact List.mem_cons_of_mem _ (List.mem_cons_of_mem _ (List.mem_cons_of_mem _ (List.mem_cons.mpr (.inl (Prod.ext e1 (Prod.ext e2 e3))))))
  ·have e1:(u:Int)=x:=lX.mp h1
   have e2:(v:Int)=y:=lX.mp h2
   rcases Ao.mp h3 with e3|e3
   ·exact List.mem_cons_of_mem _ (List.mem_cons_of_mem _ (List.mem_cons_of_mem _ (List.mem_cons_of_mem _ (List.mem_cons_of_mem _ (List.mem_cons.mpr (.inl (Prod.ext e1 (Prod.ext e2 e3))))))))
   ·exact List.mem_cons_of_mem _ (List.mem_cons_of_mem _ (List.mem_cons_of_mem _ (List.mem_cons_of_mem _ (List.mem_cons.mpr (.inl (Prod.ext e1 (Prod.ext e2 e3)))))))
 ·have fin:∀ {p q r:Nat},(p=1/\q=0/\r=0)\/(p=0/\q=1/\r=0)\/(p=0/\q=0/\r=1)->p+q+r=1:=by
   rintro p q r (⟨rfl,rfl,rfl⟩|⟨rfl,rfl,rfl⟩|⟨rfl,rfl,rfl⟩)<;>rfl
  intro h
  refine fin ?_
  have st:∀ {c:Pl},cB (u,v,w)=c->(u:Int)=c.1/\(v:Int)=c.2.1/\(w:Int)=c.2.2:=fun e=>by rw [<-e];exact ⟨rfl,rfl,rfl⟩
  rcases List.mem_cons.mp h with e|h
  ·obtain ⟨e1,e2,e3⟩:=st e
   exact .inl ⟨Ao.mpr (.inl e1),lX.mpr e2,lX.mpr e3⟩
  rcases List.mem_cons.mp h with e|h
  ·obtain ⟨e1,e2,e3⟩:=st e
   exact .inl ⟨Ao.mpr (.inr e1),lX.mpr e2,lX.mpr e3⟩
  rcases List.mem_cons.mp h with e|h
  ·obtain ⟨e1,e2,e3⟩:=st e
   exact .inr (.inl ⟨lX.mpr e1,Ao.mpr (.inl e2),lX.mpr e3⟩)
  rcases List.mem_cons.mp h with e|h
  ·obtain ⟨e1,e2,e3⟩:=st e
   exact .inr (.inl ⟨lX.mpr e1,Ao.mpr (.inr e2),lX.mpr e3⟩)
  rcases List.mem_cons.mp h with e|h
  ·obtain ⟨e1,e2,e3⟩:=st e
   exact .inr (.inr ⟨lX.mpr e1,lX.mpr e2,Ao.mpr (.inr e3)⟩)
  rcases List.mem_cons.mp h with e|h
  ·obtain ⟨e1,e2,e3⟩:=st e
   exact .inr (.inr ⟨lX.mpr e1,lX.mpr e2,Ao.mpr (.inl e3)⟩)
  ·cases h
theorem yQ {c:jL} {r:List jL}:∀ {s:jL},eS Np [c] r s↔eS Os [cB c] ((c::r).map cB) (cB s):=by
 intro s
 constructor
 ·intro h
  induction h with
  |base ha=>rw [List.mem_singleton] at ha;subst ha;exact .base List.mem_cons_self
  |step _ e hq ih=>exact .step ih ((xS _ _).mp e) (List.mem_map_of_mem (List.mem_cons_of_mem _ hq))
 ·have key:∀ p,eS Os [cB c] ((c::r).map cB) p->∃ t,p=cB t/\eS Np [c] r t:=by
   intro p h
   induction h with
   |base ha=>rw [List.mem_singleton] at ha;exact ⟨c,ha,.base List.mem_cons_self⟩
   |step _ e hq ih=>
    obtain ⟨t,rfl,ht⟩:=ih
    obtain ⟨u,hu,rfl⟩:=List.mem_map.mp hq
    refine ⟨u,rfl,?_⟩
    rcases List.mem_cons.mp hu with rfl|hu
    ·exact .base List.mem_cons_self
    ·exact .step ht ((xS _ _).mpr e) hu
  intro h
  obtain ⟨t,e,ht⟩:=key _ h
  rw [gD e]
  exact ht
theorem Fo {pr:aN} (ok:eF pr):(dD pr).cells.Nodup:=by
 rw [pN ok]
 have sl:List.Sublist (((zP pr).filter kept).map fun q=>fA pr.w pr.d q.1) ((zP pr).map fun q=>fA pr.w pr.d q.1):=List.Sublist.map _ List.filter_sublist
 refine sl.nodup ?_
 have e:(zP pr).map (fun q=>fA pr.w pr.d q.1)=(List.range (pr.h * (pr.d * pr.w))).map (fA pr.w pr.d):=by
  have:(zP pr).map (fun q=>fA pr.w pr.d q.1)=((zP pr).map Prod.fst).map (fA pr.w pr.d):=by rw [List.map_map];rfl
  rw [this]
  unfold zP
  rw [List.map_fst_zip (by rw [Dr ok,List.length_range];exact Nat.le_refl _)]
 rw [e]
 refine List.Pairwise.map _ (fun a b h z=>h ?_) List.nodup_range
 have h1:=kY (show fA pr.w pr.d a=((fA pr.w pr.d b).1,(fA pr.w pr.d b).2.1,(fA pr.w pr.d b).2.2) from z)
 have h2:=kY (show fA pr.w pr.d b=((fA pr.w pr.d b).1,(fA pr.w pr.d b).2.1,(fA pr.w pr.d b).2.2) from rfl)
 rw [h1,<-h2]
theorem Hi {pr:aN} (ok:eF pr):(dD pr).whole=vC (sR pr):=by
 have ks:=nV ok
 have nd:=Fo ok
 unfold Br.Part.whole
 generalize (dD pr).cells=cl at ks nd
 generalize sR pr=cs at ks
 match cl,cs,ks,nd with
 |[],[],_,_=>rfl
 |[],_::_,ks,_=>cases ks
 |_::_,[],ks,_=>cases ks
 |c::r,k::cs,ks,nd=>
  have ndc:=List.nodup_cons.mp nd
  have hk:k.1=cB c:=(List.cons.inj ks).1
  have nd2:((k::cs).map (·.1)).Nodup:=by
   rw [ks]
   exact List.Pairwise.map _ (fun a b h z=>h (gD z)) nd
  rw [Bool.eq_iff_iff,Sl nd2,ks,hk]
  show (Br.apartFrom r.length [c] r).isEmpty=true↔_
  rw [List.isEmpty_iff,zJ (Nat.le_refl _) (fun x hx=>by rw [List.mem_singleton] at hx;subst hx;exact ndc.1)]
  constructor
  ·intro h p hp
   obtain ⟨s,hs,rfl⟩:=List.mem_map.mp hp
   rcases List.mem_cons.mp hs with rfl|hs
   ·exact .base List.mem_cons_self
   ·exact yQ.mp (h s hs)
  ·exact fun h s hs=>yQ.mpr (h _ (List.mem_map_of_mem (List.mem_cons_of_mem _ hs)))
theorem Mr {pr:aN} (ok:eF pr):iL (dD pr)=gJ pr:=by
 unfold iL gJ Ah
 rw [Hc ok,Fw ok,Gq ok,Hi ok]
abbrev Hj (l:List Int):Br.Bytes:=BuildsNeutral.text l
def Nr (l:List Int):Prop:=∀ x∈l,0<=x/\x<=255
theorem Bc:∀ {l:List Int},Nr l->aX (Hj l)=l
 |[],_=>rfl
 |x::r,h=>by
  have h1:=h x List.mem_cons_self
  have ih:=Bc (l:=r) fun y hy=>h y (List.mem_cons_of_mem _ hy)
  have e:((UInt8.ofNat x.toNat).toNat:Int)=x:=by
   rw [UInt8.toNat_ofNat']
   omega
  show ((UInt8.ofNat x.toNat).toNat:Int)::aX (Hj r)=x::r
  rw [ih,e]
def aAw (tc tb:Br.Bytes):Vb->Prop
 |.no n=>(n= -2/\(BrB.LOOKED<tc.length\/BrB.BUILT<tb.length))\/(n= -6/\¬(BrB.LOOKED<tc.length\/BrB.BUILT<tb.length)/\∃ e,Br.readC tc=.error e)\/(n= -8/\¬(BrB.LOOKED<tc.length\/BrB.BUILT<tb.length)/\∃ k,Br.readC tc=.ok k/\(Br.wrong k).isSome=true)
 |.bad i=>¬(BrB.LOOKED<tc.length\/BrB.BUILT<tb.length)/\∃ k,Br.readC tc=.ok k/\¬(Br.wrong k).isSome=true/\Br.readB k tb=.error i
 |.ok prs nm ls=>¬(BrB.LOOKED<tc.length\/BrB.BUILT<tb.length)/\(∀ pr∈prs,eF pr)/\Br.readC tc=.ok (prs.map dD)/\¬(Br.wrong (prs.map dD)).isSome=true/\∃ d,Br.readB (prs.map dD) tb=.ok d/\d.lines=ls.map jN/\aX d.name=nm
theorem Pg {nss:List (List Int)} {l:List Int} {b:List Int×List (List Nat)} (h:dH nss l=.ok b):∀ x∈b.1,gP x=true:=by
 unfold dH at h
 obtain ⟨_,_,h⟩:=aL h
 obtain ⟨nm,en,h⟩:=aL h
 obtain ⟨_,_,h⟩:=aL h
 obtain ⟨r,_,h⟩:=aL h
 split at h
 ·cases h
  unfold gA at en
  split at en
  ·cases en
   exact fun x hx=>oM hx
  ·cases en
 ·cases h
theorem Dc {lc lb:List Int} (hc:Nr lc) (hb:Nr lb):aAw (Hj lc) (Hj lb) (cY lc lb):=by
 have l1:lc.length=(Hj lc).length:=(List.length_map _).symm
 have l2:lb.length=(Hj lb).length:=(List.length_map _).symm
 unfold cY
 by_cases hl:1048576<lc.length\/16384<lb.length
 ·rw [if_pos hl]
  exact .inl ⟨rfl,by rw [l1,l2] at hl;exact hl⟩
 ·rw [if_neg hl]
  have hl2:¬(BrB.LOOKED<(Hj lc).length\/BrB.BUILT<(Hj lb).length):=by rw [l1,l2] at hl;exact hl
  have rc:=Pc (Hj lc)
  rw [Bc hc] at rc
  cases e:gS lc with
  |error i=>
   rw [e] at rc
   exact .inr (.inl ⟨rfl,hl2,i,rc⟩)
  |ok prs=>
   rw [e] at rc
   have rc:Br.readC (Hj lc)=.ok (prs.map dD):=rc
   have ok:=Ru e
   have wr:=Ky ok fun pr hp=>Mr (ok pr hp)
   show aAw _ _ (if mJ prs=true then (match dH (prs.map (·.name)) lb with
    |.error i=>.bad i
    |.ok b=>.ok prs b.1 b.2) else .no (-8))
   by_cases hk:mJ prs=true
   ·rw [if_pos hk]
    rw [hk] at wr
    have nw:¬(Br.wrong (prs.map dD)).isSome=true:=by rw [wr];decide
    have rb:=Si (Hj lb) (prs.map dD)
    have en:((prs.map dD).map fun (p:Br.Part)=>p.name).map aX=prs.map (·.name):=by
     rw [List.map_map,List.map_map]
     refine List.map_congr_left fun pr hp=>?_
     exact rJ (ok pr hp)
    rw [Bc hb,en] at rb
    cases e2:dH (prs.map (·.name)) lb with
    |error i=>
     rw [e2] at rb
     exact ⟨hl2,_,rc,nw,rb⟩
    |ok b=>
     rw [e2] at rb
     exact ⟨hl2,ok,rc,nw,_,rb,rfl,Rk _ (Pg e2)⟩
   ·rw [if_neg hk]
    have:mJ prs=false:=by simpa using hk
    rw [this] at wr
    exact .inr (.inr ⟨rfl,hl2,_,rc,by rw [wr];rfl⟩)
structure TP where
 W:Int
 D:Int
 Hh:Int
 cs:CL
def fK (W:Int) (p:Pl):Pl:=(p.2.1,W - 1 - p.1,p.2.2)
def Rj (W:Int) (cs:CL):CL:=cs.map fun c=>(fK W c.1,c.2)
def Jy (t:TP):TP:=⟨t.D,t.W,t.Hh,Rj t.W t.cs⟩
def gC (t:TP):Nat->TP
 |0=>t
 |n+1=>Jy (gC t n)
def uV (pr:aN):TP:=⟨pr.w,pr.d,pr.h,sR pr⟩
def kM (t:TP) (x y z:Int):Bool:=decide (64<x+t.W)||(decide (64<y+t.D)||decide (96<z+t.Hh))
def lT (x y z:Int) (p:Pl):Pl:=(x+p.1,y+p.2.1,z+p.2.2)
def Cn (x y z:Int) (cs:CL):CL:=cs.map fun c=>(lT x y z c.1,c.2)
def fW (ow cells:CL):List Int:=cells.filterMap fun c=>aV ow c.1
def lV (sg ow:CL) (c:Pl×Int):List Int:=match aV sg (jG c.1) with
 |some s=>if dY c.2=true/\dC s=false then (aV ow (jG c.1)).toList else []
 |none=>[]
def nY (sg ow:CL) (c:Pl×Int):List Int:=match aV sg (oQ c.1) with
 |some s=>if dC c.2=false/\dY s=true then (aV ow (oQ c.1)).toList else []
 |none=>[]
def cK (cells sg ow:CL):List Int:=cells.flatMap fun c=>lV sg ow c++nY sg ow c
def rS:List Int->Int
 |[]=>0
 |[a]=>a
 |a::r=>min a (rS r)
def eB (x:List Nat) (k:Nat):Nat:=x.getD k 0
def tQ (prs:List aN) (x:List Nat):TP:=gC ((prs[eB x 0]?).elim ⟨0,0,0,[]⟩ uV) (eB x 5)
def cP (prs:List aN) (x:List Nat):CL:=Cn (eB x 2) (eB x 3) (eB x 4) (tQ prs x).cs
def cM (prs:List aN):Nat->CL->CL->List (List Nat)->List Int
 |_,_,_,[]=>[]
 |j,sg,ow,x::r=>
  if kM (tQ prs x) (eB x 2) (eB x 3) (eB x 4)=true then [1,j,j] else
  if 0<(fW ow (cP prs x)).length then [2,j,rS (fW ow (cP prs x))] else
  if 0<(cK (cP prs x) sg ow).length then [3,j,rS (cK (cP prs x) sg ow)] else
  cM prs (j+1) (sg++cP prs x) (ow++(cP prs x).map fun c=>(c.1,(j:Int))) r
theorem xB:∀ {l:List Int},l≠[]->rS l∈l
 |[],h=>absurd rfl h
 |[a],_=>List.mem_cons_self
 |a::b::r,_=>by
  have ih:=xB (l:=b::r) (by simp)
  show min a (rS (b::r))∈a::b::r
  rcases Int.le_total a (rS (b::r)) with h|h
  ·rw [Int.min_eq_left h];exact List.mem_cons_self
  ·rw [Int.min_eq_right h];exact List.mem_cons_of_mem _ ih
theorem Bq:∀ {l:List Int} {y:Int},y∈l->rS l<=y
 |[],y,h=>by cases h
 |[a],y,h=>by rw [List.mem_singleton] at h;subst h;exact Int.le_refl _
 |a::b::r,y,h=>by
  show min a (rS (b::r))<=y
  rcases List.mem_cons.mp h with rfl|h
  ·exact Int.min_le_left _ _
  ·have:=Bq h
   have:=Int.min_le_right a (rS (b::r))
   omega
theorem Jf {l:List Int} {m:Int} (h1:m∈l) (h2:∀ y∈l,m<=y):m=rS l:=by
 have a:=Bq h1
 have b:=h2 _ (xB (l:=l) (by rintro rfl;cases h1))
 omega
structure Shp (p:Br.Part):Prop where
 w:1<=p.wide
 d:1<=p.deep
 h:1<=p.high
 l:p.places.length=p.high * (p.deep * p.wide)
theorem Ev {p:Br.Part} (ok:Shp p) {f:Br.Place->Bool} (f0:f .none=false) {s:jL}:s∈p.such f↔f (p.at_ s.1 s.2.1 s.2.2)=true:=by
 obtain ⟨x,y,z⟩:=s
 unfold Br.Part.such Br.Part.at_
 rw [qK ok.w ok.d,List.mem_map]
 have hN:∀ i,i<p.high * (p.deep * p.wide)->i % p.wide<p.wide/\i / p.wide % p.deep<p.deep/\i / p.wide / p.deep<p.high:=fun i hi=>by
  refine ⟨Nat.mod_lt _ ok.w,Nat.mod_lt _ ok.d,?_⟩
  rw [Nat.div_div_eq_div_mul]
  apply Nat.div_lt_of_lt_mul
  rw [Nat.mul_comm,Nat.mul_comm p.wide]
  exact hi
 constructor
 ·rintro ⟨⟨t,pl⟩,hm,e⟩
  obtain ⟨hz,hf⟩:=List.mem_filter.mp hm
  obtain ⟨i,e1⟩:=List.mem_iff_getElem?.mp hz
  rw [List.getElem?_zip_eq_some] at e1
  obtain ⟨e1,e2⟩:=e1
  have hi:i<p.high * (p.deep * p.wide):=by rw [<-ok.l];exact (List.getElem?_eq_some_iff.mp e2).1
  rw [List.getElem?_map,List.getElem?_range hi] at e1
  have e1:fA p.wide p.deep i=t:=by simpa using e1
  have e:t=(x,y,z):=e
  subst e
  have e3:=kY e1
  have h3:=hN i hi
  unfold fA at e1
  simp only [Prod.mk.injEq] at e1
  show f (if x<p.wide/\y<p.deep/\z<p.high then _ else _)=true
  rw [if_pos (by omega),List.getD_eq_getElem?_getD]
  show f ((p.places[(z * p.deep+y) * p.wide+x]?).getD .none)=true
  rw [<-e3,e2]
  exact hf
 ·intro h
  have h:f (if x<p.wide/\y<p.deep/\z<p.high then p.places.getD ((z * p.deep+y) * p.wide+x) .none else .none)=true:=h
  split at h
  ·rename_i hr
   have hlt:(z * p.deep+y) * p.wide+x<p.high * (p.deep * p.wide):=by
    have h1:(z * p.deep+y)+1<=p.high * p.deep:=by
     have:(z+1) * p.deep<=p.high * p.deep:=Nat.mul_le_mul_right _ hr.2.2
     rw [Nat.succ_mul] at this
     omega
    have h2:=Nat.mul_le_mul_right p.wide h1
    rw [Nat.succ_mul,Nat.mul_assoc] at h2
    omega
   rw [List.getD_eq_getElem?_getD] at h
   have hp:(z * p.deep+y) * p.wide+x<p.places.length:=by rw [ok.l];exact hlt
   rw [List.getElem?_eq_getElem hp] at h
   refine ⟨((x,y,z),p.places[(z * p.deep+y) * p.wide+x]),List.mem_filter.mpr ⟨?_,h⟩,rfl⟩
   refine List.mem_iff_getElem?.mpr ⟨(z * p.deep+y) * p.wide+x,?_⟩
   rw [List.getElem?_zip_eq_some]
   refine ⟨?_,List.getElem?_eq_getElem hp⟩
   rw [List.getElem?_map,List.getElem?_range hlt]
   show some (fA _ _ _)=_
   rw [Gj hr.1 hr.2.1]
  ·rw [f0] at h;cases h
structure Zf (t:TP) (p:Br.Part):Prop where
 sh:Shp p
 w:t.W=p.wide
 d:t.D=p.deep
 h:t.Hh=p.high
 nd:(t.cs.map (·.1)).Nodup
 mem:∀ (q:Pl) (v:Int),(q,v)∈t.cs↔∃ s:jL,q=cB s/\v∈cG/\(p.at_ s.1 s.2.1 s.2.2).isCell=true/\p.at_ s.1 s.2.1 s.2.2=oB v
theorem Dy {p:Br.Part} {x y z:Nat} (h:(p.at_ x y z).isCell=true):x<p.wide/\y<p.deep/\z<p.high:=by
 unfold Br.Part.at_ at h
 split at h
 ·rename_i hr;exact hr
 ·cases h
theorem Vc {pr:aN} (ok:eF pr):Zf (uV pr) (dD pr):=by
 have hl:(dD pr).places.length=pr.h * (pr.d * pr.w):=by rw [gF,List.length_map,Dr ok]
 refine ⟨⟨ok.w1,ok.d1,ok.h1,hl⟩,rfl,rfl,rfl,?_,?_⟩
 ·show ((sR pr).map (·.1)).Nodup
  rw [nV ok]
  exact List.Pairwise.map _ (fun a b h z=>h (gD z)) (Fo ok)
 ·intro q v
  show (q,v)∈sR pr↔_
  rw [yS ok,List.mem_map]
  constructor
  ·rintro ⟨⟨i,s⟩,hm,e⟩
   obtain ⟨hz,hk⟩:=List.mem_filter.mp hm
   cases e
   have hc:fA pr.w pr.d i∈(dD pr).cells:=by rw [pN ok];exact List.mem_map.mpr ⟨_,hm,rfl⟩
   have hc2:=(qQ ok (fA pr.w pr.d i).1 (fA pr.w pr.d i).2.1 (fA pr.w pr.d i).2.2).mpr hc
   refine ⟨fA pr.w pr.d i,rfl,rX ok hz,hc2,?_⟩
   have hin:=Dy hc2
   have e2:=kY (w:=pr.w) (d:=pr.d) (i:=i) (x:=(fA pr.w pr.d i).1) (y:=(fA pr.w pr.d i).2.1) (z:=(fA pr.w pr.d i).2.2) rfl
   unfold Br.Part.at_
   rw [if_pos hin,gF,List.getD_eq_getElem?_getD,List.getElem?_map]
   show ((pr.rows.flatten[((fA pr.w pr.d i).2.2 * pr.d+(fA pr.w pr.d i).2.1) * pr.w+(fA pr.w pr.d i).1]?).map oB).getD .none=_
   rw [<-e2,(Jz ok).mp hz]
   rfl
  ·rintro ⟨s,rfl,hv,hc,he⟩
   have hin:=Dy hc
   unfold Br.Part.at_ at he
   rw [if_pos hin,gF,List.getD_eq_getElem?_getD,List.getElem?_map] at he
   have he:((pr.rows.flatten[(s.2.2 * pr.d+s.2.1) * pr.w+s.1]?).map oB).getD .none=oB v:=he
   have hc':(oB v).isCell=true:=by
    unfold Br.Part.at_ at hc
    rw [if_pos hin,gF,List.getD_eq_getElem?_getD,List.getElem?_map] at hc
    rw [<-he];exact hc
   cases e:pr.rows.flatten[(s.2.2 * pr.d+s.2.1) * pr.w+s.1]? with
   |none=>rw [e] at he;rw [<-he] at hc';cases hc'
   |some u=>
    rw [e] at he
    have he:oB u=oB v:=he
    have hz:=(Jz ok).mpr e
    have hu:=rX ok hz
    have huv:u=v:=by
     simp only [cG,List.mem_cons,List.not_mem_nil,or_false] at hu hv
     rcases hu with rfl|rfl|rfl|rfl|rfl<;>rcases hv with rfl|rfl|rfl|rfl|rfl<;>first|rfl|(revert he;decide)
    subst huv
    refine ⟨(_,u),List.mem_filter.mpr ⟨hz,?_⟩,?_⟩
    ·rw [mM] at hc';exact hc'
    ·have hs:fA pr.w pr.d ((s.2.2 * pr.d+s.2.1) * pr.w+s.1)=s:=Gj (w:=pr.w) (d:=pr.d) hin.1 hin.2.1
     show (cB (fA pr.w pr.d ((s.2.2 * pr.d+s.2.1) * pr.w+s.1)),u)=_
     rw [hs]
theorem Pd {p:Br.Part}:p.turn.places.length=p.high * (p.wide * p.deep):=by
 show ((List.range p.high).flatMap fun (z:Nat)=>(List.range p.wide).flatMap fun (y:Nat)=>(List.range p.deep).map fun (x:Nat)=>p.places.toArray.getD ((z * p.deep+x) * p.wide+(p.wide - 1 - y)) .none).length=_
 refine lN (fun z=>?_) _
 refine lN (fun y=>?_) _
 simp
theorem Ip {p:Br.Part} (ok:Shp p) {x y z:Nat} (hx:x<p.deep) (hy:y<p.wide) (hz:z<p.high):p.turn.at_ x y z=p.at_ (p.wide - 1 - y) x z:=by
 have hw:=ok.w
 have hd:=ok.d
 have l1:∀ y z:Nat,((List.range p.deep).map fun (x:Nat)=>p.places.toArray.getD ((z * p.deep+x) * p.wide+(p.wide - 1 - y)) Br.Place.none).length=p.deep:=by simp
 have l2:∀ z:Nat,((List.range p.wide).flatMap fun (y:Nat)=>(List.range p.deep).map fun (x:Nat)=>p.places.toArray.getD ((z * p.deep+x) * p.wide+(p.wide - 1 - y)) Br.Place.none).length=p.wide * p.deep:=fun z=>lN (fun y=>l1 y z) _
 have b1:y * p.deep+x<p.wide * p.deep:=by
  have:(y+1) * p.deep<=p.wide * p.deep:=Nat.mul_le_mul_right _ hy
  rw [Nat.succ_mul] at this
  omega
 have b2:z * (p.wide * p.deep)+(y * p.deep+x)<p.high * (p.wide * p.deep):=by
  have:(z+1) * (p.wide * p.deep)<=p.high * (p.wide * p.deep):=Nat.mul_le_mul_right _ hz
  rw [Nat.succ_mul] at this
  omega
 have e0:(z * p.wide+y) * p.deep+x=z * (p.wide * p.deep)+(y * p.deep+x):=by
  rw [Nat.add_mul,Nat.mul_assoc,Nat.add_assoc]
 unfold Br.Part.at_
 rw [if_pos (show x<p.turn.wide/\y<p.turn.deep/\z<p.turn.high from ⟨hx,hy,hz⟩),if_pos (by omega)]
 rw [List.getD_eq_getElem?_getD,List.getD_eq_getElem?_getD]
 show (((List.range p.high).flatMap fun (z:Nat)=>(List.range p.wide).flatMap fun (y:Nat)=>(List.range p.deep).map fun (x:Nat)=>p.places.toArray.getD ((z * p.deep+x) * p.wide+(p.wide - 1 - y)) Br.Place.none)[(z * p.wide+y) * p.deep+x]?).getD .none=_
 rw [e0,vQ (Nat.mul_pos hw hd) l2 _ _ b2]
 have e1:(z * (p.wide * p.deep)+(y * p.deep+x)) / (p.wide * p.deep)=z:=by
  rw [Nat.add_comm,Nat.add_mul_div_right _ _ (Nat.mul_pos hw hd),Nat.div_eq_of_lt b1,Nat.zero_add]
 have e2:(z * (p.wide * p.deep)+(y * p.deep+x)) % (p.wide * p.deep)=y * p.deep+x:=by
  rw [Nat.add_comm,Nat.add_mul_mod_self_right,Nat.mod_eq_of_lt b1]
 rw [e1,e2,vQ hd (fun y=>l1 y z) _ _ b1]
 have e3:(y * p.deep+x) / p.deep=y:=by
  rw [Nat.add_comm,Nat.add_mul_div_right _ _ hd,Nat.div_eq_of_lt hx,Nat.zero_add]
 have e4:(y * p.deep+x) % p.deep=x:=by rw [Nat.add_comm,Nat.add_mul_mod_self_right,Nat.mod_eq_of_lt hx]
 rw [e3,e4,List.getElem?_map,List.getElem?_range hx]
 show p.places.toArray.getD ((z * p.deep+x) * p.wide+(p.wide - 1 - y)) .none=_
 simp
theorem Rs {t:TP} {p:Br.Part} (h:Zf t p):Zf (Jy t) p.turn:=by
 obtain ⟨sh,hw,hd,hh,nd,mem⟩:=h
 have sh2:Shp p.turn:=⟨sh.d,sh.w,sh.h,Pd⟩
 have inj:∀ a b:Pl,fK t.W a=fK t.W b->a=b:=by
  rintro ⟨x,y,z⟩ ⟨u,v,w⟩ e
  unfold fK at e
  simp only [Prod.mk.injEq] at e ⊢
  omega
 refine ⟨sh2,hd,hw,hh,?_,?_⟩
 ·show (((t.cs).map fun c=>(fK t.W c.1,c.2)).map (·.1)).Nodup
  rw [List.map_map]
  have:(t.cs.map ((·.1)∘fun c:Pl×Int=>(fK t.W c.1,c.2)))=(t.cs.map (·.1)).map (fK t.W):=by rw [List.map_map];rfl
  rw [this]
  exact List.Pairwise.map _ (fun a b h z=>h (inj a b z)) nd
 ·intro q v
  show (q,v)∈t.cs.map (fun c=>(fK t.W c.1,c.2))↔_
  rw [List.mem_map]
  constructor
  ·rintro ⟨⟨c,u⟩,hc,e⟩
   obtain ⟨s,rfl,hv,hcell,hpl⟩:=(mem c u).mp hc
   cases e
   have hin:=Dy hcell
   have hy:p.wide - 1 - s.1<p.wide:=by omega
   have ta:=Ip sh hin.2.1 hy hin.2.2
   rw [show p.wide - 1 - (p.wide - 1 - s.1)=s.1 by omega] at ta
   refine ⟨(s.2.1,p.wide - 1 - s.1,s.2.2),?_,hv,?_,?_⟩
   ·unfold fK cB
    rw [hw]
    refine Prod.ext rfl (Prod.ext ?_ rfl)
    show (p.wide:Int) - 1 - (s.1:Int)=((p.wide - 1 - s.1:Nat):Int)
    omega
   ·show (p.turn.at_ s.2.1 (p.wide - 1 - s.1) s.2.2).isCell=true
    rw [ta];exact hcell
   ·show p.turn.at_ s.2.1 (p.wide - 1 - s.1) s.2.2=_
    rw [ta];exact hpl
  ·rintro ⟨s,rfl,hv,hcell,hpl⟩
   have hin:s.1<p.deep/\s.2.1<p.wide/\s.2.2<p.high:=Dy hcell
   have ta:=Ip sh hin.1 hin.2.1 hin.2.2
   rw [ta] at hcell hpl
   refine ⟨(cB (p.wide - 1 - s.2.1,s.1,s.2.2),v),(mem _ _).mpr ⟨_,rfl,hv,hcell,hpl⟩,?_⟩
   unfold fK cB
   rw [hw]
   refine Prod.ext (Prod.ext rfl (Prod.ext ?_ rfl)) rfl
   show (p.wide:Int) - 1 - ((p.wide - 1 - s.2.1:Nat):Int)=(s.2.1:Int)
   omega
theorem sA {t:TP} {p:Br.Part} (h:Zf t p):∀ n,Zf (gC t n) (p.turned n)
 |0=>h
 |n+1=>Rs (sA h n)
structure tO (sh:Br.Shape) (cl:CL):Prop where
 c:∀ s,s∈sh.cells↔∃ v,(cB s,v)∈cl
 st:∀ s,s∈sh.studs↔∃ v,(cB s,v)∈cl/\dY v=true
 tb:∀ s,s∈sh.tubes↔∃ v,(cB s,v)∈cl/\dC v=true
 nd:(cl.map (·.1)).Nodup
 ps:∀ q v,(q,v)∈cl->∃ s:jL,q=cB s
 box:∀ s∈sh.cells,(sh.at_.1<=s.1/\s.1<sh.at_.1+sh.size.1)/\(sh.at_.2.1<=s.2.1/\s.2.1<sh.at_.2.1+sh.size.2.1)/\(sh.at_.2.2<=s.2.2/\s.2.2<sh.at_.2.2+sh.size.2.2)
theorem Pu:∀ {cl:CL} {q:Pl} {u v:Int},(cl.map (·.1)).Nodup->(q,u)∈cl->(q,v)∈cl->u=v
 |[],q,u,v,_,h,_=>by cases h
 |c::r,q,u,v,nd,h1,h2=>by
  have nd:=List.nodup_cons.mp nd
  rcases List.mem_cons.mp h1 with e1|h1
  ·rcases List.mem_cons.mp h2 with e2|h2
   ·rw [<-e1] at e2;cases e2;rfl
   ·exact absurd (List.mem_map.mpr ⟨_,h2,by rw [<-e1]⟩) nd.1
  ·rcases List.mem_cons.mp h2 with e2|h2
   ·exact absurd (List.mem_map.mpr ⟨_,h1,by rw [<-e2]⟩) nd.1
   ·exact Pu nd.2 h1 h2
theorem lE {cl:CL} {q:Pl} {v:Int} (h:aV cl q=some v):(q,v)∈cl:=by
 unfold aV at h
 obtain ⟨c,e,rfl⟩:=Option.map_eq_some_iff.mp h
 have h1:=List.find?_some e
 have h1:c.1=q:=by simpa using h1
 rw [<-h1]
 exact List.mem_of_find?_eq_some e
theorem Bh {cl:CL} {q:Pl} {v:Int} (nd:(cl.map (·.1)).Nodup):aV cl q=some v↔(q,v)∈cl:=by
 refine ⟨lE,fun h=>?_⟩
 have hs:(aV cl q).isSome=true:=dG.mpr ⟨_,h,rfl⟩
 obtain ⟨u,e⟩:=Option.isSome_iff_exists.mp hs
 rw [e,Pu nd (lE e) h]
theorem vZ (a b:CL) (q:Pl):aV (a++b) q=(aV a q).or (aV b q):=by
 unfold aV
 rw [List.find?_append]
 cases List.find? (fun c=>decide (c.1=q)) a<;>rfl
theorem Gm (pl:Br.Place):∃ v∈cG,pl=oB v:=by
 cases pl with
 |none=>exact ⟨46,by decide,by decide⟩
 |cell a b=>cases a<;>cases b<;>first|exact ⟨35,by decide,by decide⟩|exact ⟨115,by decide,by decide⟩|exact ⟨116,by decide,by decide⟩|exact ⟨98,by decide,by decide⟩
theorem Mi {pl:Br.Place} (h:pl.stud=true):pl.isCell=true:=by cases pl;cases h;rfl
theorem Na {pl:Br.Place} (h:pl.tube=true):pl.isCell=true:=by cases pl;cases h;rfl
theorem Dk {t:TP} {p:Br.Part} (h:Zf t p) {f:Br.Place->Bool} {g:Int->Bool} (f0:∀ pl,f pl=true->pl.isCell=true) (hg:∀ v∈cG,v≠46->f (oB v)=g v) (s:jL):s∈p.such f↔∃ v,(cB s,v)∈t.cs/\g v=true:=by
 have fn:f .none=false:=by
  cases e:f .none with
  |false=>rfl
  |true=>have:=f0 _ e;cases this
 rw [Ev h.sh fn]
 constructor
 ·intro hf
  have hc:=f0 _ hf
  obtain ⟨v,hv,e⟩:=Gm (p.at_ s.1 s.2.1 s.2.2)
  refine ⟨v,(h.mem _ _).mpr ⟨s,rfl,hv,hc,e⟩,?_⟩
  rw [<-hg v hv (by rintro rfl;rw [e] at hc;revert hc;decide),<-e]
  exact hf
 ·rintro ⟨v,hm,hgv⟩
  obtain ⟨s2,e,hv,hc,e2⟩:=(h.mem _ _).mp hm
  have e:=gD e
  subst e
  rw [e2,hg v hv (by rintro rfl;rw [e2] at hc;revert hc;decide)]
  exact hgv
theorem Uw {t:TP} {p:Br.Part} (h:Zf t p) (x y z:Nat) (im:Bool) (put:jL->jL) (hput:∀ s,put s=(x+s.1,y+s.2.1,z+s.2.2)):tO ⟨(x,y,z),(p.wide,p.deep,p.high),im,p.cells.map put,p.studs.map put,p.tubes.map put⟩ (Cn x y z t.cs):=by
 have key:∀ (f:Br.Place->Bool) (g:Int->Bool),(∀ pl,f pl=true->pl.isCell=true)->(∀ v∈cG,v≠46->f (oB v)=g v)->∀ s:jL,s∈(p.such f).map put↔∃ v,(cB s,v)∈Cn x y z t.cs/\g v=true:=by
  intro f g f0 hg s
  rw [List.mem_map]
  constructor
  ·rintro ⟨s0,h0,rfl⟩
   obtain ⟨v,hm,hgv⟩:=(Dk h f0 hg s0).mp h0
   refine ⟨v,List.mem_map.mpr ⟨_,hm,?_⟩,hgv⟩
   rw [hput]
   rfl
  ·rintro ⟨v,hm,hgv⟩
   obtain ⟨⟨q,u⟩,hc,e⟩:=List.mem_map.mp hm
   obtain ⟨e1,e2⟩:=Prod.mk.inj e
   have e2:u=v:=e2
   subst e2
   obtain ⟨s0,rfl,_⟩:=(h.mem q u).mp hc
   refine ⟨s0,(Dk h f0 hg s0).mpr ⟨u,hc,hgv⟩,?_⟩
   apply gD
   rw [hput,<-e1]
   rfl
 have inj:∀ a b:Pl,lT x y z a=lT x y z b->a=b:=by
  rintro ⟨a,b,c⟩ ⟨u,v,w⟩ e
  unfold lT at e
  simp only [Prod.mk.injEq] at e ⊢
  omega
 refine ⟨fun s=>?_,fun s=>?_,fun s=>?_,?_,?_,?_⟩
 ·have k:=key Br.Place.isCell (fun _=>true) (fun _ h=>h) (fun v hv hn=>by rw [mM];simp [hn]) s
  have k:s∈p.cells.map put↔_:=k
  show s∈p.cells.map put↔_
  rw [k]
  exact ⟨fun ⟨v,h1,_⟩=>⟨v,h1⟩,fun ⟨v,h1⟩=>⟨v,h1,rfl⟩⟩
 ·exact key Br.Place.stud dY (fun _ h=>Mi h) (fun v hv _=>vG hv) s
 ·exact key Br.Place.tube dC (fun _ h=>Na h) (fun v hv _=>wZ hv) s
 ·unfold Cn
  rw [List.map_map]
  have:(t.cs.map ((·.1)∘fun c:Pl×Int=>(lT x y z c.1,c.2)))=(t.cs.map (·.1)).map (lT x y z):=by rw [List.map_map];rfl
  rw [this]
  exact List.Pairwise.map _ (fun a b h z=>h (inj a b z)) h.nd
 ·intro q v hm
  obtain ⟨⟨q0,u⟩,hc,e⟩:=List.mem_map.mp hm
  obtain ⟨s0,rfl,_⟩:=(h.mem q0 u).mp hc
  obtain ⟨e1,e2⟩:=Prod.mk.inj e
  exact ⟨(x+s0.1,y+s0.2.1,z+s0.2.2),by rw [<-e1];rfl⟩
 ·intro s hs
  obtain ⟨s0,h0,rfl⟩:=List.mem_map.mp hs
  have h0:s0∈p.such Br.Place.isCell:=h0
  rw [Ev h.sh (by rfl)] at h0
  have:=Dy h0
  rw [hput]
  show (x<=x+s0.1/\x+s0.1<x+p.wide)/\(y<=y+s0.2.1/\y+s0.2.1<y+p.deep)/\(z<=z+s0.2.2/\z+s0.2.2<z+p.high)
  omega
theorem yP {i j:Br.Shape} {ci cj:CL} (hi:tO i ci) (hj:tO j cj):Br.clash i j=true↔∃ q v u,(q,v)∈ci/\(q,u)∈cj:=by
 unfold Br.clash
 rw [Bool.and_eq_true,List.any_eq_true]
 constructor
 ·rintro ⟨_,s,h1,h2⟩
  rw [List.contains_iff_mem] at h2
  obtain ⟨v,hv⟩:=(hi.c s).mp h1
  obtain ⟨u,hu⟩:=(hj.c s).mp h2
  exact ⟨_,v,u,hv,hu⟩
 ·rintro ⟨q,v,u,hv,hu⟩
  obtain ⟨s,rfl⟩:=hi.ps q v hv
  have m1:=(hi.c s).mpr ⟨v,hv⟩
  have m2:=(hj.c s).mpr ⟨u,hu⟩
  have b1:=hi.box s m1
  have b2:=hj.box s m2
  refine ⟨?_,s,m1,List.contains_iff_mem.mpr m2⟩
  unfold Br.meet
  simp only [Bool.and_eq_true,decide_eq_true_iff]
  omega
theorem nA {i j:Br.Shape} {ci cj:CL} (hi:tO i ci) (hj:tO j cj):Br.stuck i j=true↔∃ q v u,(q,v)∈ci/\dY v=true/\(jG q,u)∈cj/\dC u=false:=by
 unfold Br.stuck
 rw [Bool.and_eq_true,List.any_eq_true]
 constructor
 ·rintro ⟨_,s,h1,h2⟩
  rw [Bool.and_eq_true,Bool.not_eq_true',<-Bool.not_eq_true,List.contains_iff_mem,List.contains_iff_mem] at h2
  obtain ⟨v,hv,hs⟩:=(hi.st s).mp h1
  obtain ⟨u,hu⟩:=(hj.c _).mp h2.1
  refine ⟨_,v,u,hv,hs,hu,?_⟩
  cases e:dC u with
  |false=>rfl
  |true=>exact absurd ((hj.tb _).mpr ⟨u,hu,e⟩) h2.2
 ·rintro ⟨q,v,u,hv,hs,hu,ht⟩
  obtain ⟨s,rfl⟩:=hi.ps q v hv
  have m1:=(hi.c s).mpr ⟨v,hv⟩
  have m2:Br.above s∈j.cells:=(hj.c (Br.above s)).mpr ⟨u,hu⟩
  have b1:=hi.box s m1
  have b2:=hj.box _ m2
  refine ⟨?_,s,(hi.st s).mpr ⟨v,hv,hs⟩,?_⟩
  ·unfold Br.meet
   simp only [Bool.and_eq_true,decide_eq_true_iff]
   unfold Br.above at b2
   simp only at b2
   omega
  ·rw [Bool.and_eq_true,Bool.not_eq_true',<-Bool.not_eq_true,List.contains_iff_mem,List.contains_iff_mem]
   refine ⟨m2,fun z=>?_⟩
   obtain ⟨u2,hu2,ht2⟩:=(hj.tb _).mp z
   rw [Pu hj.nd hu (show (jG (cB s),u2)∈cj from hu2),ht2] at ht
   cases ht
structure aO (zs:List (Br.Shape×CL)) (sg ow:CL):Prop where
 rep:∀ z∈zs,tO z.1 z.2
 sgO:∀ q v,aV sg q=some v↔∃ (i:Nat) (z:Br.Shape×CL),zs[i]?=some z/\(q,v)∈z.2
 owO:∀ q k,aV ow q=some k↔∃ (i:Nat) (z:Br.Shape×CL) (v:Int),zs[i]?=some z/\(q,v)∈z.2/\k=(i:Int)
theorem Kb {zs:List (Br.Shape×CL)} {f:Br.Shape->Bool} {L:List Int} (h:∀ k:Int,k∈L↔∃ (i:Nat) (z:Br.Shape×CL),zs[i]?=some z/\f z.1=true/\k=(i:Int)):
  (L=[]->(zs.map (·.1)).findIdx? f=none)/\(L≠[]->∃ i:Nat,(zs.map (·.1)).findIdx? f=some i/\rS L=(i:Int)):=by
 constructor
 ·rintro rfl
  rw [List.findIdx?_eq_none_iff]
  intro x hx
  obtain ⟨z,hz,rfl⟩:=List.mem_map.mp hx
  obtain ⟨i,hi⟩:=List.mem_iff_getElem?.mp hz
  cases e:f z.1 with
  |false=>rfl
  |true=>exact absurd ((h i).mpr ⟨i,z,hi,e,rfl⟩) List.not_mem_nil
 ·intro hne
  have hm:=xB hne
  obtain ⟨i,z,hi,hf,e⟩:=(h _).mp hm
  refine ⟨i,?_,e⟩
  obtain ⟨hlt,hz⟩:=List.getElem?_eq_some_iff.mp hi
  rw [List.findIdx?_eq_some_iff_getElem]
  refine ⟨by rw [List.length_map];exact hlt,by rw [List.getElem_map,hz];exact hf,fun j hj=>?_⟩
  have hj2:j<zs.length:=by omega
  rw [List.getElem_map]
  intro hfj
  have:=Bq ((h (j:Int)).mpr ⟨j,zs[j],List.getElem?_eq_getElem hj2,hfj,rfl⟩)
  omega
theorem Vs {zs:List (Br.Shape×CL)} {sg ow cl:CL} {sh:Br.Shape} (I:aO zs sg ow) (hs:tO sh cl) (k:Int):k∈fW ow cl↔∃ (i:Nat) (z:Br.Shape×CL),zs[i]?=some z/\Br.clash z.1 sh=true/\k=(i:Int):=by
 unfold fW
 rw [List.mem_filterMap]
 constructor
 ·rintro ⟨⟨q,u⟩,hc,e⟩
  obtain ⟨i,z,v,hi,hv,rfl⟩:=(I.owO _ _).mp e
  exact ⟨i,z,hi,(yP (I.rep z (List.mem_of_getElem? hi)) hs).mpr ⟨q,v,u,hv,hc⟩,rfl⟩
 ·rintro ⟨i,z,hi,hcl,rfl⟩
  obtain ⟨q,v,u,hv,hu⟩:=(yP (I.rep z (List.mem_of_getElem? hi)) hs).mp hcl
  exact ⟨(q,u),hu,(I.owO _ _).mpr ⟨i,z,v,hi,hv,rfl⟩⟩
theorem aA2 (q:Pl):jG (oQ q)=q:=by
 unfold jG oQ
 refine Prod.ext rfl (Prod.ext rfl ?_)
 show q.2.2 - 1+1=q.2.2
 omega
theorem Wk (q:Pl):oQ (jG q)=q:=by
 unfold jG oQ
 refine Prod.ext rfl (Prod.ext rfl ?_)
 show q.2.2+1 - 1=q.2.2
 omega
theorem De {sg ow:CL} {c:Pl×Int} {k:Int}:k∈lV sg ow c↔dY c.2=true/\(∃ s,aV sg (jG c.1)=some s/\dC s=false)/\aV ow (jG c.1)=some k:=by
 unfold lV
 cases e:aV sg (jG c.1) with
 |none=>simp
 |some s=>
  simp only [Option.some.injEq,exists_eq_left']
  split
  ·rename_i h
   rw [Option.mem_toList]
   exact ⟨fun z=>⟨h.1,h.2,z⟩,fun z=>z.2.2⟩
  ·rename_i h
   exact ⟨fun z=>absurd z List.not_mem_nil,fun z=>absurd ⟨z.1,z.2.1⟩ h⟩
theorem Cr {sg ow:CL} {c:Pl×Int} {k:Int}:k∈nY sg ow c↔dC c.2=false/\(∃ s,aV sg (oQ c.1)=some s/\dY s=true)/\aV ow (oQ c.1)=some k:=by
 unfold nY
 cases e:aV sg (oQ c.1) with
 |none=>simp
 |some s=>
  simp only [Option.some.injEq,exists_eq_left']
  split
  ·rename_i h
   rw [Option.mem_toList]
   exact ⟨fun z=>⟨h.1,h.2,z⟩,fun z=>z.2.2⟩
  ·rename_i h
   exact ⟨fun z=>absurd z List.not_mem_nil,fun z=>absurd ⟨z.1,z.2.1⟩ h⟩
theorem Ul {zs:List (Br.Shape×CL)} {sg ow cl:CL} {sh:Br.Shape} (I:aO zs sg ow) (hs:tO sh cl) (k:Int):k∈cK cl sg ow↔∃ (i:Nat) (z:Br.Shape×CL),zs[i]?=some z/\(Br.stuck z.1 sh||Br.stuck sh z.1)=true/\k=(i:Int):=by
 unfold cK
 rw [List.mem_flatMap]
 have one:∀ {q:Pl} {i:Nat} {z:Br.Shape×CL} {v s k:Int},zs[i]?=some z->(q,v)∈z.2->aV sg q=some s->s=v:=by
  intro q i z v s k hi hv e
  have:=(I.sgO q v).mpr ⟨i,z,hi,hv⟩
  rw [e] at this
  exact Option.some.inj this
 constructor
 ·rintro ⟨⟨q,u⟩,hc,hk⟩
  rcases List.mem_append.mp hk with hk|hk
  ·obtain ⟨h1,⟨s,e,h2⟩,h3⟩:=De.mp hk
   obtain ⟨i,z,v,hi,hv,rfl⟩:=(I.owO _ _).mp h3
   have:=one (k:=0) hi hv e
   subst this
   refine ⟨i,z,hi,?_,rfl⟩
   rw [Bool.or_eq_true]
   exact .inr ((nA hs (I.rep z (List.mem_of_getElem? hi))).mpr ⟨q,u,s,hc,h1,hv,h2⟩)
  ·obtain ⟨h1,⟨s,e,h2⟩,h3⟩:=Cr.mp hk
   obtain ⟨i,z,v,hi,hv,rfl⟩:=(I.owO _ _).mp h3
   have:=one (k:=0) hi hv e
   subst this
   refine ⟨i,z,hi,?_,rfl⟩
   rw [Bool.or_eq_true]
   exact .inl ((nA (I.rep z (List.mem_of_getElem? hi)) hs).mpr ⟨oQ q,s,u,hv,h2,by rw [aA2];exact hc,h1⟩)
 ·rintro ⟨i,z,hi,hst,rfl⟩
  have hz:=I.rep z (List.mem_of_getElem? hi)
  rw [Bool.or_eq_true] at hst
  rcases hst with hst|hst
  ·obtain ⟨q,v,u,hv,h1,hu,h2⟩:=(nA hz hs).mp hst
   refine ⟨(jG q,u),hu,List.mem_append_right _ (Cr.mpr ⟨h2,⟨v,?_,h1⟩,?_⟩)⟩
   ·rw [Wk];exact (I.sgO _ _).mpr ⟨i,z,hi,hv⟩
   ·rw [Wk];exact (I.owO _ _).mpr ⟨i,z,v,hi,hv,rfl⟩
  ·obtain ⟨q,v,u,hv,h1,hu,h2⟩:=(nA hs hz).mp hst
   refine ⟨(q,v),hv,List.mem_append_left _ (De.mpr ⟨h1,⟨u,?_,h2⟩,?_⟩)⟩
   ·exact (I.sgO _ _).mpr ⟨i,z,hi,hu⟩
   ·exact (I.owO _ _).mpr ⟨i,z,u,hi,hu,rfl⟩
theorem Ff {cl:CL} {q:Pl} {k j:Int}:aV (cl.map fun c=>(c.1,j)) q=some k↔k=j/\∃ v,(q,v)∈cl:=by
 constructor
 ·intro h
  obtain ⟨c,hc,e⟩:=List.mem_map.mp (lE h)
  obtain ⟨e1,e2⟩:=Prod.mk.inj e
  exact ⟨e2.symm,c.2,by rw [<-e1];exact hc⟩
 ·rintro ⟨rfl,v,hv⟩
  have hs:(aV (cl.map fun c=>(c.1,k)) q).isSome=true:=dG.mpr ⟨(q,k),List.mem_map.mpr ⟨_,hv,rfl⟩,rfl⟩
  obtain ⟨u,e⟩:=Option.isSome_iff_exists.mp hs
  obtain ⟨c,hc,e2⟩:=List.mem_map.mp (lE e)
  rw [e,<-(Prod.mk.inj e2).2]
theorem aO.next {zs:List (Br.Shape×CL)} {sg ow cl:CL} {sh:Br.Shape} (I:aO zs sg ow) (hs:tO sh cl) (h0:fW ow cl=[]):aO (zs++[(sh,cl)]) (sg++cl) (ow++cl.map fun c=>(c.1,(zs.length:Int))):=by
 have fr:∀ q v,(q,v)∈cl->aV ow q=none:=by
  intro q v hv
  cases e:aV ow q with
  |none=>rfl
  |some k=>
   have:k∈fW ow cl:=List.mem_filterMap.mpr ⟨_,hv,e⟩
   rw [h0] at this
   cases this
 have fr2:∀ q v,(q,v)∈cl->aV sg q=none:=by
  intro q v hv
  cases e:aV sg q with
  |none=>rfl
  |some k=>
   obtain ⟨i,z,hi,hz⟩:=(I.sgO _ _).mp e
   have:=(I.owO q i).mpr ⟨i,z,k,hi,hz,rfl⟩
   rw [fr q v hv] at this
   cases this
 have ix:∀ (i:Nat) (z:Br.Shape×CL),(zs++[(sh,cl)])[i]?=some z↔zs[i]?=some z\/(i=zs.length/\z=(sh,cl)):=by
  intro i z
  by_cases hi:i<zs.length
  ·rw [List.getElem?_append_left hi]
   exact ⟨fun h=>.inl h,fun h=>h.elim id fun h=>by omega⟩
  ·rw [List.getElem?_append_right (by omega)]
   constructor
   ·intro h
    have hl:=(List.getElem?_eq_some_iff.mp h).1
    rw [List.length_singleton] at hl
    have:i=zs.length:=by omega
    subst this
    rw [Nat.sub_self] at h
    exact .inr ⟨rfl,(Option.some.inj h).symm⟩
   ·rintro (h|⟨rfl,rfl⟩)
    ·exact absurd (List.getElem?_eq_some_iff.mp h).1 hi
    ·rw [Nat.sub_self];rfl
 refine ⟨fun z hz=>?_,fun q v=>?_,fun q k=>?_⟩
 ·rcases List.mem_append.mp hz with hz|hz
  ·exact I.rep z hz
  ·rw [List.mem_singleton] at hz;subst hz;exact hs
 ·rw [vZ]
  constructor
  ·intro h
   cases e:aV sg q with
   |some u=>
    rw [e] at h
    have:u=v:=Option.some.inj h
    subst this
    obtain ⟨i,z,hi,hz⟩:=(I.sgO _ _).mp e
    exact ⟨i,z,(ix _ _).mpr (.inl hi),hz⟩
   |none=>
    rw [e] at h
    exact ⟨_,_,(ix _ _).mpr (.inr ⟨rfl,rfl⟩),lE h⟩
  ·rintro ⟨i,z,hi,hz⟩
   rcases (ix _ _).mp hi with hi|⟨rfl,rfl⟩
   ·rw [(I.sgO q v).mpr ⟨i,z,hi,hz⟩];rfl
   ·rw [fr2 q v hz,(Bh hs.nd).mpr hz];rfl
 ·rw [vZ]
  constructor
  ·intro h
   cases e:aV ow q with
   |some u=>
    rw [e] at h
    have:u=k:=Option.some.inj h
    subst this
    obtain ⟨i,z,v,hi,hz,e2⟩:=(I.owO _ _).mp e
    exact ⟨i,z,v,(ix _ _).mpr (.inl hi),hz,e2⟩
   |none=>
    rw [e] at h
    obtain ⟨rfl,v,hv⟩:=Ff.mp h
    exact ⟨_,_,v,(ix _ _).mpr (.inr ⟨rfl,rfl⟩),hv,rfl⟩
  ·rintro ⟨i,z,v,hi,hz,rfl⟩
   rcases (ix _ _).mp hi with hi|⟨rfl,rfl⟩
   ·rw [(I.owO q i).mpr ⟨i,z,v,hi,hz,rfl⟩];rfl
   ·rw [fr q v hz,Ff.mpr ⟨rfl,v,hz⟩];rfl
def wrI (w:Option (Nat×Nat×Nat)):List Int:=w.elim [] fun w=>[(w.1:Int),(w.2.1:Int),(w.2.2:Int)]
theorem qS {prs:List aN} (ok:∀ pr∈prs,eF pr) {x:List Nat} (hx:eB x 0<prs.length):tO (Br.Line.shape (prs.map dD) (jN x)) (cP prs x)/\(Br.Line.shape (prs.map dD) (jN x)).inRoom= !kM (tQ prs x) (eB x 2) (eB x 3) (eB x 4):=by
 have e1:prs[eB x 0]?=some prs[eB x 0]:=List.getElem?_eq_getElem hx
 have e2:Br.Line.of (prs.map dD) (jN x)=(dD prs[eB x 0]).turned (eB x 5):=by
  unfold Br.Line.of
  show ((prs.map dD).getD (eB x 0) Br.nothing).turned (eB x 5)=_
  rw [List.getD_eq_getElem?_getD,List.getElem?_map,e1]
  rfl
 have r0:=sA (Vc (ok _ (List.getElem_mem hx))) (eB x 5)
 have et:tQ prs x=gC (uV prs[eB x 0]) (eB x 5):=by
  unfold tQ
  rw [e1]
  rfl
 constructor
 ·unfold Br.Line.shape cP
  rw [e2,et]
  exact Uw r0 (eB x 2) (eB x 3) (eB x 4) _ _ fun s=>rfl
 ·unfold Br.Line.shape
  rw [e2,et]
  unfold kM
  rw [r0.w,r0.d,r0.h]
  show (decide (eB x 2+((dD prs[eB x 0]).turned (eB x 5)).wide<=64) && (decide (eB x 3+((dD prs[eB x 0]).turned (eB x 5)).deep<=64) && decide (eB x 4+((dD prs[eB x 0]).turned (eB x 5)).high<=96)))=_
  rw [Bool.eq_iff_iff]
  simp only [Bool.and_eq_true,decide_eq_true_iff,Bool.not_eq_true',Bool.or_eq_false_iff,decide_eq_false_iff_not]
  omega
theorem vR {prs:List aN} (ok:∀ pr∈prs,eF pr):∀ {ls:List (List Nat)} {zs:List (Br.Shape×CL)} {sg ow:CL},(∀ x∈ls,eB x 0<prs.length)->aO zs sg ow->
  cM prs zs.length sg ow ls=wrI (Br.wrongLines zs.length (zs.map (·.1)) (ls.map fun x=>Br.Line.shape (prs.map dD) (jN x)))
 |[],zs,sg,ow,_,_=>rfl
 |x::r,zs,sg,ow,hx,I=>by
  obtain ⟨sr,hroom⟩:=qS ok (hx x List.mem_cons_self)
  rw [cM,List.map_cons,Br.wrongLines]
  generalize Br.Line.shape (prs.map dD) (jN x)=sh at sr hroom
  have im:=Kb (f:=fun i=>Br.clash i sh) (fun k=>Vs I sr k)
  have ib:=Kb (f:=fun i=>Br.stuck i sh||Br.stuck sh i) (fun k=>Ul I sr k)
  cases hl:kM (tQ prs x) (eB x 2) (eB x 3) (eB x 4) with
  |true=>
   rw [hl] at hroom
   rw [if_pos rfl]
   have:Br.wrongLine (zs.map (·.1)) zs.length sh=some (1,zs.length):=by
    unfold Br.wrongLine
    rw [if_pos (show sh.inRoom=false from hroom)]
   rw [this]
   rfl
  |false=>
   rw [hl] at hroom
   rw [if_neg (by decide)]
   have hroom:¬sh.inRoom=false:=by rw [hroom];decide
   by_cases h1:fW ow (cP prs x)=[]
   ·rw [if_neg (by rw [h1];decide)]
    have f1:=im.1 h1
    by_cases h2:cK (cP prs x) sg ow=[]
    ·rw [if_neg (by rw [h2];decide)]
     have f2:=ib.1 h2
     have hw:Br.wrongLine (zs.map (·.1)) zs.length sh=none:=by
      unfold Br.wrongLine
      rw [if_neg hroom,f1]
      show (match List.findIdx? _ _ with|some i=>some (3,i)|none=>none)=none
      rw [f2]
     rw [hw]
     have ih:=vR ok (ls:=r) (zs:=zs++[(sh,cP prs x)]) (fun y hy=>hx y (List.mem_cons_of_mem _ hy)) (I.next sr h1)
     rw [List.length_append,List.length_singleton,List.map_append] at ih
     exact ih
    ·rw [if_pos (List.length_pos_iff.mpr h2)]
     obtain ⟨i,f2,e⟩:=ib.2 h2
     have hw:Br.wrongLine (zs.map (·.1)) zs.length sh=some (3,i):=by
      unfold Br.wrongLine
      rw [if_neg hroom,f1]
      show (match List.findIdx? _ _ with|some i=>some (3,i)|none=>none)=some (3,i)
      rw [f2]
     rw [hw,e]
     rfl
   ·rw [if_pos (List.length_pos_iff.mpr h1)]
    obtain ⟨i,f1,e⟩:=im.2 h1
    have hw:Br.wrongLine (zs.map (·.1)) zs.length sh=some (2,i):=by
     unfold Br.wrongLine
     rw [if_neg hroom,f1]
    rw [hw,e]
    rfl
theorem rK {prs:List aN} (ok:∀ pr∈prs,eF pr) {ls:List (List Nat)} (hx:∀ x∈ls,eB x 0<prs.length) {d:Br.Build} (hd:d.lines=ls.map jN):cM prs 0 [] [] ls=wrI (d.wrong (prs.map dD)):=by
 have I0:aO [] [] []:=⟨fun z hz=>absurd hz List.not_mem_nil,fun q v=>(by simp [aV]),fun q k=>(by simp [aV])⟩
 have:=vR ok (ls:=ls) hx I0
 unfold Br.Build.wrong Br.Build.shapes
 rw [hd,List.map_map]
 exact this
def Eh (n:Nat) (x:List Nat):Prop:=x.length=6/\eB x 0<n
theorem Po {nss:List (List Int)} {l:List Int} {p:Nat} {q:List Nat×Nat} (h:eL nss l p=.ok q):Eh nss.length q.1:=by
 unfold eL at h
 obtain ⟨p1,_,h⟩:=aL h
 obtain ⟨n,en,h⟩:=aL h
 obtain ⟨r,er,h⟩:=aL h
 obtain ⟨_,_,h⟩:=aL h
 cases h
 refine ⟨?_,?_⟩
 ·rw [List.length_cons,wQ (r:=r) er]
  rfl
 ·show n.1<nss.length
  unfold sI at en
  split at en
  ·rename_i hm
   cases en
   exact List.findIdx_lt_length_of_exists ⟨_,hm,by simp⟩
  ·cases en
theorem yZ {nss:List (List Int)} {l:List Int}:∀ {n p:Nat} {q:List (List Nat)×Nat},cD nss l n p=.ok q->∀ x∈q.1,Eh nss.length x
 |0,p,q,h=>by cases h;intro x hx;cases hx
 |n+1,p,q,h=>by
  rw [cD] at h
  split at h
  ·cases h;intro x hx;cases hx
  ·obtain ⟨q1,e1,h⟩:=aL h
   obtain ⟨q2,e2,rfl⟩:=fN h
   intro x hx
   rcases List.mem_cons.mp hx with rfl|hx
   ·exact Po e1
   ·exact yZ e2 x hx
theorem Lj {nss:List (List Int)} {l:List Int} {b:List Int×List (List Nat)} (h:dH nss l=.ok b):∀ x∈b.2,Eh nss.length x:=by
 unfold dH at h
 obtain ⟨_,_,h⟩:=aL h
 obtain ⟨_,_,h⟩:=aL h
 obtain ⟨_,_,h⟩:=aL h
 obtain ⟨r,er,h⟩:=aL h
 split at h
 ·cases h;exact yZ er
 ·cases h
theorem Bx {lc lb:List Int} {prs:List aN} {nm:List Int} {ls:List (List Nat)} (h:cY lc lb=.ok prs nm ls):∀ x∈ls,Eh prs.length x:=by
 unfold cY at h
 split at h
 ·cases h
 ·split at h
  ·cases h
  ·split at h
   ·split at h
    ·cases h
    ·rename_i e
     cases h
     have:=Lj e
     rw [List.length_map] at this
     exact this
   ·cases h
end Br1
namespace Br1
open PySem PySem.Spec PyProof.Rows L2
def vD (f:Pl->Pl) (cs:CL):CL:=cs.map fun c=>(f c.1,c.2)
theorem wU {cs:CL} {i:Nat} {p:Pl} {s:Int} (nd:(cs.map (·.1)).Nodup) (e:cs[i]?=some (p,s)):∀ c∈cs.take i,c.1≠p:=by
 obtain ⟨hi,e⟩:=List.getElem?_eq_some_iff.mp e
 have hd:cs.drop i=(p,s)::cs.drop (i+1):=by rw [List.drop_eq_getElem_cons hi,e]
 have h2:=nd
 rw [<-List.take_append_drop i cs,hd,List.map_append,List.nodup_append] at h2
 intro c hc
 exact h2.2.2 c.1 (List.mem_map_of_mem hc) p (by simp)
theorem Nv (cl:CL) (q:Pl) (v:Int):aI cl++[(eG q.1 q.2.1 q.2.2,V.int v)]=aI (cl++[(q,v)]):=by
 unfold aI
 rw [List.map_append]
 rfl
theorem Iw {cl:CL} {q:Pl} {v:Int} (h:aV cl q=none):jJ (aI cl) (eG q.1 q.2.1 q.2.2) (V.int v)=aI (cl++[(q,v)]):=by
 rw [pG _ (by rw [qE,h];rfl),Nv]
theorem xZ {cl:CL} {q:Pl} (h:∀ c∈cl,c.1≠q):aV cl q=none:=by
 cases e:aV cl q with
 |none=>rfl
 |some v=>
  obtain ⟨c,hc,e2⟩:=dG.mp (by rw [e];rfl:(aV cl q).isSome=true)
  exact absurd e2 (h c hc)
theorem Ji {f:Pl->Pl} (inj:∀ a b,f a=f b->a=b) {cs:CL} {i:Nat} {p:Pl} {s:Int} (nd:(cs.map (·.1)).Nodup) (e:cs[i]?=some (p,s)):jJ (aI (vD f (cs.take i))) (eG (f p).1 (f p).2.1 (f p).2.2) (V.int s)=aI (vD f (cs.take (i+1))):=by
 rw [Iw]
 ·rw [List.take_succ,e]
  unfold vD
  rw [List.map_append]
  rfl
 ·refine xZ fun c hc z=>?_
  obtain ⟨c0,h0,rfl⟩:=List.mem_map.mp hc
  exact wU nd e c0 h0 (inj _ _ z)
theorem Dx (W:Int) (a b:Pl) (e:fK W a=fK W b):a=b:=by
 obtain ⟨x,y,z⟩:=a
 obtain ⟨u,v,w⟩:=b
 unfold fK at e
 simp only [Prod.mk.injEq] at e ⊢
 omega
theorem Mz (x y z:Int) (p q:Pl) (e:lT x y z p=lT x y z q):p=q:=by
 obtain ⟨a,b,c⟩:=p
 obtain ⟨u,v,w⟩:=q
 unfold lT at e
 simp only [Prod.mk.injEq] at e ⊢
 omega
theorem Uc {f:Pl->Pl} (inj:∀ a b,f a=f b->a=b) {cs:CL} (nd:(cs.map (·.1)).Nodup):((vD f cs).map (·.1)).Nodup:=by
 unfold vD
 rw [List.map_map]
 have:(cs.map ((·.1)∘fun c:Pl×Int=>(f c.1,c.2)))=(cs.map (·.1)).map f:=by rw [List.map_map];rfl
 rw [this]
 exact List.Pairwise.map _ (fun a b h z=>h (inj a b z)) nd
theorem Ea (f:Pl->Pl) (cs:CL):(vD f cs).length=cs.length:=List.length_map _
theorem gL (cs:CL):(aI cs).length=cs.length:=by unfold aI;rw [List.length_map]
structure tR (t:TP):Prop where
 nd:(t.cs.map (·.1)).Nodup
 ln:t.cs.length<20000
theorem tR.once {t:TP} (h:tR t):tR (Jy t):=⟨Uc (Dx t.W) h.nd,by show (Rj t.W t.cs).length<20000;unfold Rj;rw [List.length_map];exact h.ln⟩
theorem tR.turns {t:TP} (h:tR t):∀ n,tR (gC t n)
 |0=>h
 |n+1=>(tR.turns h n).once
theorem six {x:List Nat} (h:x.length=6):∃ a b c d e f,x=[a,b,c,d,e,f]:=by
 match x,h with
 |[a,b,c,d,e,f],_=>exact ⟨a,b,c,d,e,f,rfl⟩
theorem Bj {H H':Hp} {c d:Addr} {u:HO} {od:Obj} (h:H c=some u) (hd:H d=none) {o:HO} (s:SX d (upd (upd H d o) c (.frz od u)) H'):aK H (upd H' c u):=fun b ob e=>by
 have nb:=aD e hd
 by_cases hb:b=c
 ·rw [hb] at e ⊢
  rw [aC,<-e,h]
 ·rw [aB hb]
  exact s b ob (by rw [aB hb,aB nb];exact e) nb
section
variable {P:Program} {w:World} {K:PySem.W.Frag} {mg:Str->Option Value} {base:Heap} {C CR CP CG:Addr}
def Qz (CP:Addr) (H:Hp) (b nm:Addr) (g:Int) (t:TP):Prop:=xN CP H b nm t.W t.D t.Hh g t.cs
def Hv (CP:Addr):Sp:=fun vs H Q _=>∃ (b nm:Addr) (g:Int) (t:TP),vs=[.ref b]/\Qz CP H b nm g t/\tR t/\∀ (H':Hp) (b':Addr),aK H H'->Qz CP H' b' nm g (Jy t)->Q (.ref b') H'
theorem tU:aP ["part","cells","place","sign"] ["part"] (aH Jk):=⟨rfl,rfl,rfl,by decide+kernel,rfl,by decide+kernel,by decide+kernel⟩
theorem Tt {f:Addr} {fd:FuncData} (F:fD K "turned_once" "turned_once" Jk f fd) (T':Nq K CP) (PM:PtM P w K mg base CP):bO P w K mg base bS 3 f fd ["part"] (Hv CP):=by
 obtain ⟨fp,fdp,MP,GP,bP⟩:=PM.ex
 refine F.ok tU (fun vs H Q E h=>?_) (fun cdv A outer s H vs Q E hr h=>?_)
 ·obtain ⟨b,nm,g,t,rfl,_⟩:=h
  rfl
 ·obtain ⟨b,nm,g,⟨W,D,Hh,cs⟩,rfl,⟨dx,c,hb,hc⟩,⟨nd,ln⟩,k⟩:=h
  have hb:H b=some (.ins CP dx (Nn nm W D Hh g c)):=hb
  have hc:H c=some (.dT (aI cs)):=hc
  have ln:cs.length<20000:=ln
  have hr2:=hr.mono (j:=2) (by decide)
  have hu:=jW hr
  refine ⟨_,aE (bA (i:=1) tU.nd rfl (Or.inl rfl) jR)
   (aE (hG (eA PassesOwn.never rfl (iD (aR (pv 0) rfl)) (lB rfl (cI (bH (i:=2) tU.nd rfl (Or.inl rfl)) (cI (bH (i:=3) tU.nd rfl (Or.inl rfl)) hX)))
    (aG (lI hu (pv 1) (eK (aA (bV bU (pv 2) aJ (fun _ _=>rfl)) (aA (cU eR (cU eR (aR (pv 0) rfl) aJ) (bV bU (pv 2) aJ (fun _ _=>rfl))) (aA (bV bU (pv 2) aJ (fun _ _=>rfl)) aF)))) (pv 3) rfl))))
   (aG (aW (qB MP GP hr2 (by rfl) PM.mg bP .nil aY (aA (aR (pv 0) rfl) (aA (aR (pv 0) rfl) (aA (aR (pv 0) rfl) (aA (aR (pv 0) rfl) (aA (aR (pv 0) rfl) (aA (pv 1) aF)))))))))),?_⟩
  intro d hd
  have S0:aK H (upd H d (.dT [])):=aK.new hd
  have nbd:b≠d:=aD hb hd
  have ncd:c≠d:=aD hc hd
  have nbc:b≠c:=fun z=>by rw [z,hc] at hb;cases hb
  have hsl:=bI
  refine ⟨c,_,S0 _ _ hc,trivial,fun od=>?_⟩
  have hcL:upd (upd H d (.dT [])) c (.frz od (.dT (aI cs))) c=some (.frz od (.dT (aI cs))):=aC
  have hbL:upd (upd H d (.dT [])) c (.frz od (.dT (aI cs))) b=some (.ins CP dx (Nn nm W D Hh g c)):=by rw [aB nbc];exact S0 _ _ hb
  have hdL:upd (upd H d (.dT [])) c (.frz od (.dT (aI cs))) d=some (.dT []):=by rw [aB (Ne.symm ncd),aC]
  refine ⟨_,rfl,b,CP,dx,_,_,rfl,hbL,T'.cl,T'.n6,rfl,c,od,_,rfl,hcL,?_⟩
  refine gH (fun i σ H'=>∃ v2 v3,σ=[some (.ref b),some (.ref d),v2,v3]/\SX d (upd (upd H d (.dT [])) c (.frz od (.dT (aI cs)))) H'/\H' d=some (.dT (aI (vD (fK W) (cs.take i))))) ⟨none,none,rfl,SX.refl _ _,hdL⟩ ?_ ?_ ?_
  ·rintro i σ H1 hi ⟨v2,v3,rfl,S1,_⟩
   exact S1 _ _ hcL ncd
  ·rintro i σ H1 T k v q e ⟨v2,v3,rfl,S1,hd1⟩ hT hq
   obtain ⟨p,sg,e1,rfl,rfl⟩:=iC e
   have ST:=aK.new (o:=.tup [.ref q,.int sg]) hT
   refine ⟨T,_,rfl,cN.of aC,rfl,_,_,rfl,_,_,rfl,rfl,?_⟩
   have hq2:=ST _ _ hq
   have hb2:=ST _ _ (S1 _ _ hbL nbd)
   have hd2:=ST _ _ hd1
   generalize upd H1 T (.tup [.ref q,.int sg])=H2 at ST hq2 hb2 hd2
   refine ⟨_,rfl,_,rfl,_,rfl,q,_,_,_,rfl,rfl,cN.of hq2,rfl,_,rfl,b,CP,dx,_,_,rfl,hb2,T'.cl,T'.n2,rfl,_,_,rfl,rfl,_,rfl,q,_,_,_,rfl,rfl,cN.of hq2,rfl,_,_,rfl,rfl,_,rfl,q,_,_,_,rfl,rfl,cN.of hq2,rfl,(by show 3<=sizeLine;decide),fun t ht=>?_⟩
   have SQ:=aK.new (o:=.tup [.int p.2.1,.int (W - 1 - p.1),.int p.2.2]) ht
   have hi:i<cs.length:=(List.getElem?_eq_some_iff.mp e1).1
   refine ⟨d,_,rfl,xG.t (k:=eG p.2.1 (W - 1 - p.1) p.2.2) (SQ _ _ hd2) aC (by rw [gL,Ea,List.length_take];omega),?_⟩
   refine ⟨_,_,rfl,fun b' o e' n'=>?_,?_⟩
   ·rw [aB n']
    exact SQ _ _ (ST _ _ (S1 _ _ e' n'))
   ·rw [aC]
    exact congrArg (fun z=>some (HO.dT z)) (Ji (Dx W) nd e1)
  ·rintro σ H1 ⟨v2,v3,rfl,S1,hd1⟩
   rw [gL,List.take_length] at hd1
   refine ⟨S1 _ _ hcL ncd,?_⟩
   have S2:=Bj hc hd S1
   have hd2:upd H1 c (.dT (aI cs)) d=some (.dT (aI (vD (fK W) cs))):=by rw [aB (Ne.symm ncd)];exact hd1
   generalize upd H1 c (.dT (aI cs))=H2 at S2 hd2
   have hb2:=S2 _ _ hb
   refine ⟨_,rfl,b,CP,dx,_,_,rfl,hb2,T'.cl,T'.n1,rfl,_,rfl,b,CP,dx,_,_,rfl,hb2,T'.cl,T'.n3,rfl,_,rfl,b,CP,dx,_,_,rfl,hb2,T'.cl,T'.n2,rfl,_,rfl,b,CP,dx,_,_,rfl,hb2,T'.cl,T'.n4,rfl,_,rfl,b,CP,dx,_,_,rfl,hb2,T'.cl,T'.n5,rfl,_,rfl,?_⟩
   intro b' db hb' hdb hne
   refine ⟨b',db,nm,d,D,W,Hh,g,rfl,aC,fun H3 hpt s3=>⟨rfl,?_⟩⟩
   have up2:∀ y o,H2 y=some o->H3 y=some o:=fun y o e=>s3 y o (by rw [aB (aD e hb'),aB (aD e hdb)];exact e) (aD e hb')
   exact k H3 b' (fun y o e=>up2 y o (S2 y o e)) ⟨db,d,hpt,up2 _ _ hd2⟩
def uN (CP:Addr):Sp:=fun vs H Q _=>∃ (b nm:Addr) (g:Int) (t:TP) (n:Nat),vs=[.ref b,.int (n:Int)]/\n<=100/\Qz CP H b nm g t/\tR t/\∀ (H':Hp) (b':Addr),aK H H'->Qz CP H' b' nm g (gC t n)->Q (.ref b') H'
theorem rL:aP ["part","turns","turn"] ["part","turns"] (aH uC):=⟨rfl,rfl,rfl,by decide+kernel,rfl,by decide+kernel,by decide+kernel⟩
theorem Ln {f:Addr} {fd:FuncData} (F:fD K "turned_part" "turned_part" uC f fd) (hrange:mg "range"=none) (L1:dJ P w K mg base "turned_once" bS 3 ["part"] (Hv CP)):bO P w K mg base bS 4 f fd ["part","turns"] (uN CP):=by
 obtain ⟨g1,gd1,G1,b1,k1,h1⟩:=L1.ex
 refine F.ok rL (fun vs H Q E h=>?_) (fun cdv A outer s H vs Q E hr h=>?_)
 ·obtain ⟨b,nm,g,t,n,rfl,_⟩:=h
  rfl
 ·obtain ⟨b,nm,g,t,n,rfl,hn,ht,tok,k⟩:=h
  refine ⟨_,aE (eA PassesOwn.never rfl (iI rfl hrange (aA (pv 1) aF)) (bH (i:=2) rL.nd rfl (Or.inl rfl))
    (aG (bA (i:=0) rL.nd rfl (Or.inl rfl) (aT G1 hr (by rfl) h1 k1 b1 .nil aY (aA (pv 0) aF)))))
   (aG (aW (pv 0))),?_⟩
  refine ⟨_,rfl,_,rfl,by omega,by omega,lF (n:=n) (fun i σ H'=>∃ b' v2,σ=[some (.ref b'),some (.int (n:Int)),v2]/\aK H H'/\Qz CP H' b' nm g (gC t i)) ⟨b,none,rfl,aK.id' _,ht⟩ ?_ ?_⟩
  ·rintro i σ H1 hi ⟨b',v2,rfl,S1,h1⟩
   exact ⟨_,rfl,b',nm,g,gC t i,rfl,h1,tok.turns i,fun H2 b2 S2 h2=>⟨b2,_,rfl,S1.trans S2,h2⟩⟩
  ·rintro σ H1 ⟨b',v2,rfl,S1,h1⟩
   exact ⟨_,rfl,k H1 b' S1 h1⟩
end
end Br1
namespace L2
open PySem PySem.Spec PyProof.Rows
def tL (D:fT) (d:Addr) (o:Obj) (u:HO):fT:=⟨fun σ' H'=>H' d=some (.frz o u)/\D.nx σ' (upd H' d u),fun v H'=>H' d=some (.frz o u)/\D.rt v (upd H' d u),fun σ' H'=>H' d=some (.frz o u)/\D.bk σ' (upd H' d u),fun σ' H'=>H' d=some (.frz o u)/\D.ct σ' (upd H' d u)⟩
def aAy (td:TE) (g:TG) (tb:TS):TS:=fun D σ H=>td σ H fun x H1=>∃ d aI,x=.ref d/\H1 d=some (.dT aI)/\∀ o,∃ W:Nat->Nat->St->Hp->Prop,(∃ m,W 0 m σ (upd H1 d (.frz o (.dT aI))))/\∀ i m σ H,W i m σ H->
 ((Gn d o aI).stop i H/\(tL D d o (.dT aI)).nx σ H)\/((Gn d o aI).go i H/\∃ N:St->Hp->Prop,(∀ σ' H',N σ' H'->∃ m',m'<m/\W (i+1) m' σ' H')/\∀ x H',(Gn d o aI).yld i H x H'->g x σ H' fun σ2 H2=>tb {tL D d o (.dT aI) with nx:=N,ct:=N,bk:=(tL D d o (.dT aI)).nx} σ2 H2)
def aAs (X:Cx) (D:fT) (σ:St) (g:TG) (tb:TS):It->Hp->Prop:=fun J H'=>∃ d aI o,J=Gn d o aI/\(∀ o' u',X.H_0 d≠some (.frz o' u'))/\
   ∃ W:Nat->Nat->St->Hp->Prop,(∃ m,W 0 m σ H')/\∀ i m σ H,W i m σ H->((Gn d o aI).stop i H/\(tL D d o (.dT aI)).nx σ H)\/((Gn d o aI).go i H/\∃ N:St->Hp->Prop,(∀ σ' H',N σ' H'->∃ m',m'<m/\W (i+1) m' σ' H')/\∀ x H',(Gn d o aI).yld i H x H'->g x σ H' fun σ2 H2=>tb {tL D d o (.dT aI) with nx:=N,ct:=N,bk:=(tL D d o (.dT aI)).nx} σ2 H2)
theorem Wa {X:Cx} {e:Expr} {td:TE} {apos cpos:Pos} {elts:List Expr} {kk:Nat} {tpos pos:Pos} {body:List Stmt} {g:TG} {tb:TS} (hp:PassesOwn (model X.prog X.w) X.A X.env X.xe) (hc:X.calm=true) (he:PE X e td) (hg:PG X (.Tuple elts kk tpos) g) (hb:zF X body tb)
  (hbase:attributeBase e "items" X.env (eval e X.env)=eval e X.env:=by rfl) (hline:(apos.endLine==cpos.line)=true:=by rfl) (hs:∀ x,foldedSetIterable (.Call (.Attribute e "items" apos) [] [] cpos) X.env x=pure x:=by intro _;rfl):
  PS X (.For (.Tuple elts kk tpos) (.Call (.Attribute e "items" apos) [] [] cpos) body [] pos) (aAy td g tb):=by
 intro pins s σ H D I h
 have hi:wpAny (model X.prog X.w) X.A (eval (.Call (.Attribute e "items" apos) [] [] cpos) X.env) (fun v s1=>wpAny (model X.prog X.w) X.A (pyIter v) (PIE X pins σ (.Tuple elts kk tpos) (aAs X D σ g tb)) X.xe s1) X.xe s:=by
  refine wpAny_Call_method (T:="dict") (id:="dict.items") hbase rfl hline F.plainAttrs_dict F.slot_dict_items F.type_dict_items (cF (he pins s σ H _ I h) fun u s1 ⟨x,H0,I0,rx,d,aI,ex,hd0,q⟩=>?_)
  subst ex
  obtain rfl:u=Value.ref d:=rx
  have hn:=I0.nofrz hd0 trivial
  obtain ⟨o,I1⟩:=I0.lock hd0 trivial
  have hd:upd H0 d (.frz o (.dT aI)) d=some (.frz o (.dT aI)):=aC
  obtain ⟨hs,hgd,hx,es,ep,hdt,hsz,ent⟩:=I1.frzT2 hd
  have hty:s1.TypeIs (.ref d) "dict":=⟨o,hgd,hx.1⟩
  refine ⟨hty,fun b q=>by cases q;exact ⟨o,hgd,hx.2.1⟩,?_⟩
  have I2:aO X pins σ (upd H0 d (.frz o (.dT aI))) {s1 with heap:=s1.heap.push {cls:=.type "dict_items",data:=.fields #[.ref d]}}:=I1.kept (t':=s1.toks) fun b ob q=>Heap.get?_push_of_some _ q
  have fin:wpAny (model X.prog X.w) X.A (pyIter (.ref s1.heap.objs.size)) (PIE X pins σ (.Tuple elts kk tpos) (aAs X D σ g tb)) X.xe {s1 with heap:=s1.heap.push {cls:=.type "dict_items",data:=.fields #[.ref d]}}:=
   Cb (d:=d) (n:=aI.length) ⟨_,Heap.get?_push_size _ rfl,rfl,rfl⟩ (Heap.get?_push_of_some _ hgd) hdt hsz (rH (tk:=s1.toks) I2 _ (sQ _ hdt) ⟨.none,.none,Heap.get?_push_size _ rfl⟩ ⟨d,aI,o,rfl,hn,q o⟩)
  show wpAny _ _ (callWith cpos (.builtin "dict.items") [.ref d] [] []) _ X.xe s1
  exact method_meetsIn F.slot_dict_items F.entry_dict_items rfl (PySem.evalArgs_none ⟨rfl,hty,F.args_dict_items_1 _,_,xW hs,hty,fin⟩)
 refine wpAny_For (cF hi fun v s1 h1=>cF h1 fun itv s2 h2=>?_) hs
 obtain ⟨it,fp,tn,J,H2,e,I2,T,st2,f2,d,aI,o,rfl,hn,W,⟨m0,w0⟩,turn⟩:=h2
 subst e
 have stat:∀ {H':Hp},(∀ b∈fp,H' b=none)->∀ b∈fp,tS X pins H' b:=fun hn b hb=>⟨hn b hb,(f2 b hb).2⟩
 refine codeAny_forLoop_any (fun n s'=>∃ i σ' H',aO X pins σ' H' s'/\tn i s'.heap/\(∀ b∈fp,H' b=none)/\W i n σ' H') ?_ m0 ⟨0,σ,H2,I2,st2,fun b hb=>(f2 b hb).1,w0⟩
 rintro n s3 ⟨i,σ3,H3,I3,st3,fr3,w3⟩
 rcases turn i n σ3 H3 w3 with ⟨stop,qn⟩|⟨go,N,hN,step⟩
 ·refine wpAny_passesOwn hp (cF (T.done X rfl rfl rfl hc i pins s3 σ3 H3 X.xe I3 (stat fr3) st3 stop) fun r s4 ⟨hr,I4⟩=>?_)
  subst hr
  exact wpAny_execs_nil ⟨σ3,_,I4.unlock qn.1 hn,qn.2⟩
 ·refine wpAny_passesOwn hp (cF (T.item X rfl rfl rfl hc i pins s3 σ3 H3 X.xe I3 (stat fr3) st3 go) fun r s4 ⟨u,hr,h4⟩=>?_)
  subst hr
  refine wpAny_passesOwn hp (cF h4 fun _ s5 ⟨x,H5,I5,r5,y5,st5,fr5⟩=>?_)
  have I5':=I5.pinned (stat fr5) (T.obj _ _ st5)
  refine wpAny_passesOwn hp (cF (hg _ s5 σ3 H5 x u _ I5' r5 (step x H5 y5)) fun _ s6 ⟨σ6,H6,I6,q6⟩=>?_)
  refine wpAny_passesOwn hp (cF (hb _ s6 σ6 H6 _ I6 q6) fun f s7 q7=>?_)
  have again:∀ {σ7:St} {H7:Hp},aO X (pins++rG fp s5.heap) σ7 H7 s7->N σ7 H7->∃ m,m<n/\∃ i σ' H',aO X pins σ' H' s7/\tn i s7.heap/\(∀ b∈fp,H' b=none)/\W i m σ' H':=fun {σ7 H7} I7 n7=>by
   obtain ⟨m',hm,w7⟩:=hN σ7 H7 n7
   refine ⟨m',hm,i+1,σ7,H7,I7.unpinned,T.keep _ _ _ st5 fun b hb o e=>(I7.pin (b,o) (List.mem_append_right _ (List.mem_append_right _ (iJ hb e)))).1,fun b hb=>?_,w7⟩
   obtain ⟨o,e,d⟩:=T.obj _ _ st5 b hb
   exact (I7.pin (b,o) (List.mem_append_right _ (List.mem_append_right _ (iJ hb e)))).2.1
  cases f with
  |next=>obtain ⟨σ7,H7,I7,n7⟩:=q7;exact again I7 n7
  |cont=>obtain ⟨σ7,H7,I7,n7⟩:=q7;exact again I7 n7
  |brk=>obtain ⟨σ7,H7,I7,q7⟩:=q7;exact ⟨σ7,_,I7.unpinned.unlock q7.1 hn,q7.2⟩
  |ret v=>obtain ⟨x7,σ7,H7,I7,r7,q7⟩:=q7;exact ⟨x7,σ7,_,I7.unpinned.unlock q7.1 hn,r7,q7.2⟩
end L2
namespace Br1
section
open Classical
def xI (links:List (List Nat)) (i j:Nat):Prop:=(links.getD i []).contains j=true
theorem Md {α:Type} {E:α->α->Prop} {l l' rest rest':List α} (h1:∀ x∈l,eS E l' rest' x) (h2:∀ x∈rest,x∈rest') {s:α} (h:eS E l rest s):eS E l' rest' s:=by
 induction h with
 |base ha=>exact h1 _ ha
 |step _ e hq ih=>exact .step ih e (h2 _ hq)
theorem Jv (links:List (List Nat)):∀ {n:Nat} {l rest:List Nat},rest.length<=n->(∀ x∈l,x∉rest)->Br.leftFrom links n l rest=rest.filter fun j=>decide (¬eS (xI links) l rest j)
 |0,l,rest,hn,_=>by
  have:rest=[]:=List.eq_nil_of_length_eq_zero (by omega)
  subst this
  rfl
 |n+1,l,rest,hn,dj=>by
  have ep:(rest.partition fun (j:Nat)=>l.any fun (i:Nat)=>(links.getD i []).contains j)=(rest.filter (fun (j:Nat)=>l.any fun (i:Nat)=>(links.getD i []).contains j),rest.filter (not∘fun (j:Nat)=>l.any fun (i:Nat)=>(links.getD i []).contains j)):=List.partition_eq_filter_filter
  show (if (rest.partition fun (j:Nat)=>l.any fun (i:Nat)=>(links.getD i []).contains j).1=[] then rest else Br.leftFrom links n (rest.partition fun (j:Nat)=>l.any fun (i:Nat)=>(links.getD i []).contains j).1 (rest.partition fun (j:Nat)=>l.any fun (i:Nat)=>(links.getD i []).contains j).2)=_
  rw [ep]
  have am:∀ j,(l.any fun (i:Nat)=>(links.getD i []).contains j)=true↔∃ i∈l,xI links i j:=fun j=>by
   rw [List.any_eq_true]
   rfl
  generalize hf:(fun (j:Nat)=>l.any fun (i:Nat)=>(links.getD i []).contains j)=f at am
  have am:∀ j,f j=true↔∃ i∈l,xI links i j:=fun j=>by rw [<-hf];exact (by rw [List.any_eq_true];rfl)
  show (if rest.filter f=[] then rest else Br.leftFrom links n (rest.filter f) (rest.filter (not∘f)))=_
  have ln:=lC f rest
  by_cases h:rest.filter f=[]
  ·rw [if_pos h]
   refine (List.filter_eq_self.mpr fun j hj=>decide_eq_true (p:=¬eS (xI links) l rest j) fun hF=>?_).symm
   have key:∀ s,eS (xI links) l rest s->s∈l:=by
    intro s hF
    induction hF with
    |base ha=>exact ha
    | @step p q _ e hq ih=>
     have:q∈rest.filter f:=List.mem_filter.mpr ⟨hq,(am q).mpr ⟨_,ih,e⟩⟩
     rw [h] at this
     cases this
   exact dj j (key j hF) hj
  ·rw [if_neg h]
   have hl:0<(rest.filter f).length:=List.length_pos_iff.mpr h
   rw [Jv links (n:=n) (by omega) fun x hx hy=>by
    have h1:=(List.mem_filter.mp hx).2
    have h2:=(List.mem_filter.mp hy).2
    simp [h1] at h2,List.filter_filter]
   refine List.filter_congr fun j hj=>?_
   have key:∀ s,eS (xI links) l rest s->s∈l\/eS (xI links) (rest.filter f) (rest.filter (not∘f)) s:=by
    intro s hF
    induction hF with
    |base ha=>exact .inl ha
    | @step p q _ e hq ih=>
     right
     by_cases hx:f q=true
     ·exact .base (List.mem_filter.mpr ⟨hq,hx⟩)
     ·rcases ih with h1|h1
      ·exact absurd ((am q).mpr ⟨p,h1,e⟩) hx
      ·exact .step h1 e (List.mem_filter.mpr ⟨hq,by simpa using hx⟩)
   have back:∀ s,eS (xI links) (rest.filter f) (rest.filter (not∘f)) s->eS (xI links) l rest s:=fun s hF=>
    Md (fun x hx=>by
     obtain ⟨i,hi,e⟩:=(am x).mp (List.mem_filter.mp hx).2
     exact .step (.base hi) e (List.mem_filter.mp hx).1) (fun x hx=>(List.mem_filter.mp hx).1) hF
   by_cases hx:f j=true
   ·have:eS (xI links) l rest j:=by
     obtain ⟨i,hi,e⟩:=(am j).mp hx
     exact .step (.base hi) e hj
    simp [hx,this]
   ·have e:eS (xI links) (rest.filter f) (rest.filter (not∘f)) j↔eS (xI links) l rest j:=⟨back j,fun hF=>(key j hF).resolve_left fun z=>dj j z hj⟩
    simp [hx,e]
inductive gW (E:Nat->Nat->Prop) (a:Nat):Nat->Prop
 |refl:gW E a a
 |step {b c:Nat}:gW E a b->E b c->gW E a c
theorem gW.trans {E:Nat->Nat->Prop} {a b c:Nat} (h:gW E a b) (k:gW E b c):gW E a c:=by
 induction k with
 |refl=>exact h
 |step _ e ih=>exact .step ih e
theorem gW.symm {E:Nat->Nat->Prop} (sy:∀ a b,E a b->E b a) {a b:Nat} (h:gW E a b):gW E b a:=by
 induction h with
 |refl=>exact .refl
 |step _ e ih=>exact (gW.step .refl (sy _ _ e)).trans ih
theorem gW.mono {E F:Nat->Nat->Prop} (h:∀ a b,E a b->F a b) {a b:Nat} (c:gW E a b):gW F a b:=by
 induction c with
 |refl=>exact .refl
 |step _ e ih=>exact .step ih (h _ _ e)
structure oH (E:Nat->Nat->Prop) (i h:Nat):Prop where
 c:gW E i h
 l:∀ j,gW E i j->h<=j
theorem oH.uq {E:Nat->Nat->Prop} {i h k:Nat} (a:oH E i h) (b:oH E i k):h=k:=Nat.le_antisymm (a.l _ b.c) (b.l _ a.c)
theorem oH.of_iff {E F:Nat->Nat->Prop} (h:∀ a b,E a b↔F a b) {i k:Nat} (x:oH E i k):oH F i k:=⟨x.c.mono fun a b=>(h a b).mp,fun j c=>x.l j (c.mono fun a b=>(h a b).mpr)⟩
theorem Te {E:Nat->Nat->Prop} {n:Nat} (lt:∀ a b,E a b->b<n) {a b:Nat} (ha:a<n) (h:gW E a b):b<n:=by
 cases h with
 |refl=>exact ha
 |step _ e=>exact lt _ _ e
theorem xV {E:Nat->Nat->Prop} {rest:List Nat} {i:Nat} (cl:∀ a b,(a=i\/a∈rest)->E a b->b=i\/b∈rest) {j:Nat}:eS E [i] rest j↔gW E i j:=by
 constructor
 ·intro h
  induction h with
  |base ha=>rw [List.mem_singleton] at ha;subst ha;exact .refl
  |step _ e _ ih=>exact .step ih e
 ·intro h
  have key:eS E [i] rest j/\(j=i\/j∈rest):=by
   induction h with
   |refl=>exact ⟨.base (List.mem_singleton.mpr rfl),.inl rfl⟩
   | @step b c _ e ih=>
    rcases cl b c ih.2 e with h|h
    ·subst h
     exact ⟨.base (List.mem_singleton.mpr rfl),.inl rfl⟩
    ·exact ⟨.step ih.1 e h,.inr h⟩
  exact key.1
structure Of (links:List (List Nat)) (n:Nat):Prop where
 lt:∀ a b,xI links a b->a<n/\b<n
 sy:∀ a b,xI links a b->xI links b a
theorem Ld {c:Br.Catalogue} {b:Br.Build} (G:Of (b.links c) b.lines.length) {i:Nat} (hi:i<b.lines.length) {j:Nat}:j∈b.group c i↔gW (xI (b.links c)) i j:=by
 unfold Br.Build.group
 dsimp only
 rw [Jv _ (Nat.le_trans (List.length_filter_le _ _) (by rw [List.length_range];exact Nat.le_refl _)) (fun x hx hy=>by
  rw [List.mem_singleton] at hx
  subst hx
  simpa using (List.mem_filter.mp hy).2),List.mem_filter,List.mem_range]
 have cl:∀ a d,(a=i\/a∈(List.range b.lines.length).filter fun (j:Nat)=>j !=i)->xI (b.links c) a d->d=i\/d∈(List.range b.lines.length).filter fun (j:Nat)=>j !=i:=fun a d _ e=>by
  by_cases h:d=i
  ·exact .inl h
  ·exact .inr (List.mem_filter.mpr ⟨List.mem_range.mpr (G.lt _ _ e).2,by simpa using h⟩)
 constructor
 ·rintro ⟨h1,h2⟩
  by_cases hji:j=i
  ·subst hji
   exact .refl
  ·refine (xV cl).mp (Decidable.byContradiction fun hn=>?_)
   have:j∈((List.range b.lines.length).filter fun (j:Nat)=>j !=i).filter fun j=>decide (¬eS (xI (b.links c)) [i] ((List.range b.lines.length).filter fun (j:Nat)=>j !=i) j):=
    List.mem_filter.mpr ⟨List.mem_filter.mpr ⟨List.mem_range.mpr h1,by simpa using hji⟩,decide_eq_true hn⟩
   rw [Bool.not_eq_true',<-Bool.not_eq_true,List.contains_iff_mem] at h2
   exact h2 this
 ·intro h
  refine ⟨Te (fun a b e=>(G.lt a b e).2) hi h,?_⟩
  rw [Bool.not_eq_true',<-Bool.not_eq_true,List.contains_iff_mem]
  intro hm
  exact of_decide_eq_true (List.mem_filter.mp hm).2 ((xV cl).mpr h)
theorem Gy {c:Br.Catalogue} {b:Br.Build} (G:Of (b.links c) b.lines.length) {i:Nat} (hi:i<b.lines.length):oH (xI (b.links c)) i (b.head c i):=by
 have hm:= @Ld c b G i hi
 have hs:(b.group c i).Pairwise (· <·):=by
  unfold Br.Build.group
  exact List.Pairwise.filter _ List.pairwise_lt_range
 unfold Br.Build.head
 generalize b.group c i=g at hm hs
 cases g with
 |nil=>exact absurd (hm.mpr .refl) List.not_mem_nil
 |cons a r=>
  refine ⟨hm.mp List.mem_cons_self,fun j hj=>?_⟩
  rcases List.mem_cons.mp (hm.mpr hj) with h|h
  ·exact Nat.le_of_eq h.symm
  ·exact Nat.le_of_lt ((List.pairwise_cons.mp hs).1 j h)
end
theorem aAb {α:Type} [DecidableEq α] {l m:List α} (h1:l.Nodup) (h2:m.Nodup) (h:∀ x,x∈l↔x∈m):l.length=m.length:=
 Nat.le_antisymm (mZ h1 fun x hx=>(h x).mp hx) (mZ h2 fun x hx=>(h x).mpr hx)
theorem Kg {p:Br.Part} (ok:Shp p) (f:Br.Place->Bool):(p.such f).Nodup:=by
 unfold Br.Part.such
 have sl:List.Sublist (((p.spots.zip p.places).filter fun (s:jL×Br.Place)=>f s.2).map fun (s:jL×Br.Place)=>s.1) ((p.spots.zip p.places).map Prod.fst):=List.Sublist.map _ List.filter_sublist
 refine sl.nodup ?_
 rw [List.map_fst_zip (by rw [qK ok.w ok.d,List.length_map,List.length_range,ok.l];exact Nat.le_refl _),qK ok.w ok.d]
 refine List.Pairwise.map _ ?_ List.nodup_range
 intro a b h z
 have e1:=kY (w:=p.wide) (d:=p.deep) (i:=a) rfl
 have e2:=kY (w:=p.wide) (d:=p.deep) (i:=b) (x:=(fA p.wide p.deep a).1) (y:=(fA p.wide p.deep a).2.1) (z:=(fA p.wide p.deep a).2.2) z.symm
 exact h (e1.trans e2.symm)
structure SNd (sh:Br.Shape):Prop where
 c:sh.cells.Nodup
 s:sh.studs.Nodup
theorem Xi {p:Br.Part} (ok:Shp p) (l:Br.Line) (im:Bool):SNd ⟨(l.x,l.y,l.z),(p.wide,p.deep,p.high),im,p.cells.map l.put,p.studs.map l.put,p.tubes.map l.put⟩:=by
 have inj:∀ a b:jL,l.put a=l.put b->a=b:=by
  rintro ⟨a,b,c⟩ ⟨u,v,w⟩ e
  unfold Br.Line.put at e
  simp only [Prod.mk.injEq] at e ⊢
  omega
 exact ⟨List.Pairwise.map _ (fun a b h z=>h (inj a b z)) (Kg ok _),List.Pairwise.map _ (fun a b h z=>h (inj a b z)) (Kg ok _)⟩
abbrev ZS:=List (Br.Shape×CL)
def xJ (zs:ZS):CL:=zs.flatMap (·.2)
def Bb:Nat->List CL->CL
 |_,[]=>[]
 |j,c::r=>(c.map fun x=>(x.1,(j:Int)))++Bb (j+1) r
def xM (zs:ZS):CL:=Bb 0 (zs.map (·.2))
theorem Jl:∀ (j:Nat) (a b:List CL),Bb j (a++b)=Bb j a++Bb (j+a.length) b
 |j,[],b=>rfl
 |j,c::r,b=>by
  show _++Bb (j+1) (r++b)=(_++Bb (j+1) r)++Bb (j+(r.length+1)) b
  rw [Jl (j+1) r b,List.append_assoc,show j+1+r.length=j+(r.length+1) by omega]
theorem wY (zs:ZS) (z:Br.Shape×CL):xM (zs++[z])=xM zs++z.2.map fun c=>(c.1,(zs.length:Int)):=by
 unfold xM
 rw [List.map_append,Jl,List.length_map,Nat.zero_add]
 show _++(_++[])=_
 rw [List.append_nil]
theorem uW (zs:ZS) (z:Br.Shape×CL):xJ (zs++[z])=xJ zs++z.2:=by
 unfold xJ
 rw [List.flatMap_append]
 simp
structure jV (zs:ZS):Prop where
 inv:aO zs (xJ zs) (xM zs)
 snd:∀ z∈zs,SNd z.1
theorem jV.own {zs:ZS} (R:jV zs) {i:Nat} {z:Br.Shape×CL} (h:zs[i]?=some z) {q:Pl} {v:Int} (hq:(q,v)∈z.2):aV (xM zs) q=some (i:Int)/\aV (xJ zs) q=some v:=
 ⟨(R.inv.owO q i).mpr ⟨i,z,v,h,hq,rfl⟩,(R.inv.sgO q v).mpr ⟨i,z,h,hq⟩⟩
def dE (sg ow:CL) (c:Pl×Int):Option (Int×Int):=if dY c.2=true/\((aV sg (jG c.1)).any dC)=true then some ((aV ow c.1).getD 0,(aV ow (jG c.1)).getD 0) else none
def lM (sg ow:CL):List (Int×Int):=sg.filterMap (dE sg ow)
def Hy (cj:CL) (c:Pl×Int):Bool:=dY c.2 && (aV cj (jG c.1)).any dC
theorem Mj {i j:Br.Shape} {ci cj:CL} (hi:tO i ci) (hj:tO j cj) (ni:SNd i):Br.fitted i j=(ci.filter (Hy cj)).length:=by
 have e0:∀ s:jL,(∃ v,(cB s,v)∈ci.filter (Hy cj))↔s∈i.studs.filter fun (s:jL)=>j.tubes.contains (Br.above s):=by
  intro s
  rw [List.mem_filter,List.contains_iff_mem,hi.st,hj.tb]
  constructor
  ·rintro ⟨v,h⟩
   obtain ⟨h1,h2⟩:=List.mem_filter.mp h
   have h2:(dY v && (aV cj (jG (cB s))).any dC)=true:=h2
   rw [Bool.and_eq_true,Option.any_eq_true] at h2
   obtain ⟨h2,u,hu,ht⟩:=h2
   exact ⟨⟨v,h1,h2⟩,u,lE hu,ht⟩
  ·rintro ⟨⟨v,h1,h2⟩,u,hu,ht⟩
   refine ⟨v,List.mem_filter.mpr ⟨h1,?_⟩⟩
   show (dY v && (aV cj (jG (cB s))).any dC)=true
   rw [Bool.and_eq_true,Option.any_eq_true]
   exact ⟨h2,u,(Bh hj.nd).mpr hu,ht⟩
 have e1:(i.studs.filter fun (s:jL)=>j.tubes.contains (Br.above s)).length=(ci.filter (Hy cj)).length:=by
  have hn:((ci.filter (Hy cj)).map (·.1)).Nodup:=(List.Sublist.map _ List.filter_sublist).nodup hi.nd
  rw [<-List.length_map (as:=ci.filter (Hy cj)) (·.1),<-List.length_map (as:=i.studs.filter _) cB]
  refine aAb (List.Pairwise.map _ (fun a b h z=>h (gD z)) (ni.s.filter _)) hn fun q=>?_
  rw [List.mem_map,List.mem_map]
  constructor
  ·rintro ⟨s,hs,rfl⟩
   obtain ⟨v,hv⟩:=(e0 s).mpr hs
   exact ⟨_,hv,rfl⟩
  ·rintro ⟨⟨q,v⟩,hv,rfl⟩
   obtain ⟨s,rfl⟩:=hi.ps q v (List.mem_filter.mp hv).1
   exact ⟨s,(e0 s).mp ⟨v,hv⟩,rfl⟩
 unfold Br.fitted
 by_cases hm:Br.meet i j 1=true
 ·rw [if_pos hm,e1]
 ·rw [if_neg hm,<-e1]
  refine (List.length_eq_zero_iff.mpr (List.filter_eq_nil_iff.mpr fun s hs ht=>hm ?_)).symm
  rw [List.contains_iff_mem] at ht
  obtain ⟨v,hv,_⟩:=(hi.st s).mp hs
  obtain ⟨u,hu,_⟩:=(hj.tb _).mp ht
  have b1:=hi.box s ((hi.c s).mpr ⟨v,hv⟩)
  have b2:=hj.box _ ((hj.c _).mpr ⟨u,hu⟩)
  unfold Br.meet
  simp only [Bool.and_eq_true,decide_eq_true_iff]
  unfold Br.above at b2
  simp only at b2
  omega
theorem Pb {α β γ:Type} (f:β->List γ) (g:α->List β) (h:β->Option γ):∀ l:List α,(l.flatMap g).filterMap h=l.flatMap fun a=>(g a).filterMap h
 |[]=>rfl
 |a::r=>by rw [List.flatMap_cons,List.filterMap_append,Pb f g h r,List.flatMap_cons]
theorem xH {zs:ZS} (R:jV zs) {i:Nat} {z:Br.Shape×CL} (hz:zs[i]?=some z) {c:Pl×Int} (hc:c∈z.2) {a b:Int}:
  dE (xJ zs) (xM zs) c=some (a,b)↔a=(i:Int)/\∃ (j:Nat) (y:Br.Shape×CL),zs[j]?=some y/\b=(j:Int)/\Hy y.2 c=true:=by
 have ho:=(R.own hz (q:=c.1) (v:=c.2) hc).1
 unfold dE Hy
 constructor
 ·intro h
  split at h
  ·rename_i h1
   obtain ⟨h1,h2⟩:=h1
   rw [Option.any_eq_true] at h2
   obtain ⟨u,hu,ht⟩:=h2
   obtain ⟨j,y,hy,hm⟩:=(R.inv.sgO _ _).mp hu
   have ho2:=(R.own hy hm).1
   rw [ho,ho2] at h
   obtain ⟨e1,e2⟩:=Prod.mk.inj (Option.some.inj h)
   refine ⟨e1.symm,j,y,hy,e2.symm,?_⟩
   rw [h1,Bool.true_and,Option.any_eq_true]
   exact ⟨u,(Bh (R.inv.rep y (List.mem_of_getElem? hy)).nd).mpr hm,ht⟩
  ·cases h
 ·rintro ⟨rfl,j,y,hy,rfl,hf⟩
  rw [Bool.and_eq_true,Option.any_eq_true] at hf
  obtain ⟨h1,u,hu,ht⟩:=hf
  have hw:=R.own hy (lE hu)
  rw [if_pos ⟨h1,by rw [hw.2];exact ht⟩,ho,hw.1]
  rfl
theorem Fm {γ:Type} (f:Pl×Int->Option (Int×Int)) (p:Int×Int):∀ l:CL,((l.filterMap f).count p)=(l.filter fun c=>decide (f c=some p)).length
 |[]=>rfl
 |c::r=>by
  have ih:=Fm (γ:=γ) f p r
  cases e:f c with
  |none=>rw [List.filterMap_cons_none e,List.filter_cons_of_neg (by simp [e]),ih]
  |some q=>
   rw [List.filterMap_cons_some e,List.count_cons,ih]
   by_cases h:q=p
   ·subst h
    rw [List.filter_cons_of_pos (by simp [e])]
    simp
   ·rw [List.filter_cons_of_neg (by simp [e,h])]
    simp [h]
theorem Lp {zs:ZS} (R:jV zs) {i j:Nat} {z y:Br.Shape×CL} (hz:zs[i]?=some z) (hy:zs[j]?=some y):(z.2.filterMap (dE (xJ zs) (xM zs))).count ((i:Int),(j:Int))=Br.fitted z.1 y.1:=by
 rw [Fm (γ:=Nat),Mj (R.inv.rep z (List.mem_of_getElem? hz)) (R.inv.rep y (List.mem_of_getElem? hy)) (R.snd z (List.mem_of_getElem? hz))]
 refine congrArg List.length (List.filter_congr fun c hc=>?_)
 rw [Bool.eq_iff_iff,decide_eq_true_iff,xH R hz hc]
 constructor
 ·rintro ⟨_,j',y',hy',e,h⟩
  have:j=j':=by omega
  subst this
  rw [hy] at hy'
  cases hy'
  exact h
 ·intro h
  exact ⟨rfl,j,y,hy,rfl,h⟩
theorem wM (zs:ZS):lM (xJ zs) (xM zs)=zs.flatMap fun z=>z.2.filterMap (dE (xJ zs) (xM zs)):=Pb (fun _=>[]) _ _ zs
theorem vL {α:Type} (p:Int×Int) (f:α->List (Int×Int)):∀ l:List α,(l.flatMap f).count p=(l.map fun a=>(f a).count p).sum
 |[]=>rfl
 |a::r=>by rw [List.flatMap_cons,List.count_append,vL p f r];rfl
theorem Kd {α:Type} (f:α->Nat):∀ (l:List α) (i:Nat) (a:α),l[i]?=some a->(∀ j b,l[j]?=some b->j≠i->f b=0)->(l.map f).sum=f a
 |[],i,a,h,_=>by cases h
 |b::r,0,a,h,hz=>by
  obtain rfl:b=a:=Option.some.inj h
  have:(r.map f).sum=0:=by
   rw [List.sum_eq_zero_iff_forall_eq_nat]
   intro x hx
   obtain ⟨y,hy,rfl⟩:=List.mem_map.mp hx
   obtain ⟨j,hj⟩:=List.mem_iff_getElem?.mp hy
   exact hz (j+1) y hj (by omega)
  rw [List.map_cons,List.sum_cons,this,Nat.add_zero]
 |b::r,i+1,a,h,hz=>by
  have h0:=hz 0 b rfl (by omega)
  rw [List.map_cons,List.sum_cons,h0,Nat.zero_add]
  exact Kd f r i a h fun j c hj hn=>hz (j+1) c hj (by omega)
theorem pQ {zs:ZS} (R:jV zs) {i j:Nat} {z y:Br.Shape×CL} (hz:zs[i]?=some z) (hy:zs[j]?=some y):(lM (xJ zs) (xM zs)).count ((i:Int),(j:Int))=Br.fitted z.1 y.1:=by
 rw [wM,vL,Kd _ zs i z hz,Lp R hz hy]
 intro k b hk hn
 rw [List.count_eq_zero]
 intro hm
 obtain ⟨c,hc,e⟩:=List.mem_filterMap.mp hm
 have:=((xH R hk hc).mp e).1
 omega
theorem Jw {zs:ZS} (R:jV zs) {a b:Int} (h:(a,b)∈lM (xJ zs) (xM zs)):∃ i j:Nat,a=i/\b=j/\i<zs.length/\j<zs.length:=by
 rw [wM] at h
 obtain ⟨z,hz,hm⟩:=List.mem_flatMap.mp h
 obtain ⟨i,hi⟩:=List.mem_iff_getElem?.mp hz
 obtain ⟨c,hc,e⟩:=List.mem_filterMap.mp hm
 obtain ⟨rfl,j,y,hy,rfl,_⟩:=(xH R hi hc).mp e
 exact ⟨i,j,rfl,rfl,(List.getElem?_eq_some_iff.mp hi).1,(List.getElem?_eq_some_iff.mp hy).1⟩
def gN (prs:List aN) (ls:List (List Nat)):ZS:=ls.map fun x=>(Br.Line.shape (prs.map dD) (jN x),cP prs x)
theorem Rp {prs:List aN} (ok:∀ pr∈prs,eF pr) {x:List Nat} (hx:eB x 0<prs.length):SNd (Br.Line.shape (prs.map dD) (jN x)):=by
 have e1:prs[eB x 0]?=some prs[eB x 0]:=List.getElem?_eq_getElem hx
 have e2:Br.Line.of (prs.map dD) (jN x)=(dD prs[eB x 0]).turned (eB x 5):=by
  unfold Br.Line.of
  show ((prs.map dD).getD (eB x 0) Br.nothing).turned (eB x 5)=_
  rw [List.getD_eq_getElem?_getD,List.getElem?_map,e1]
  rfl
 have r0:=sA (Vc (ok _ (List.getElem_mem hx))) (eB x 5)
 unfold Br.Line.shape
 rw [e2]
 exact Xi r0.sh _ _
theorem sY {prs:List aN} (ok:∀ pr∈prs,eF pr):∀ {ls:List (List Nat)} {zs:ZS},(∀ x∈ls,eB x 0<prs.length)->jV zs->cM prs zs.length (xJ zs) (xM zs) ls=[]->jV (zs++gN prs ls)
 |[],zs,_,R,_=>by
  show jV (zs++[])
  rw [List.append_nil]
  exact R
 |x::r,zs,hx,R,h=>by
  obtain ⟨sr,_⟩:=qS ok (hx x List.mem_cons_self)
  have sn:=Rp ok (hx x List.mem_cons_self)
  rw [cM] at h
  split at h
  ·cases h
  ·split at h
   ·cases h
   ·rename_i h1
    split at h
    ·cases h
    ·have h0:fW (xM zs) (cP prs x)=[]:=List.eq_nil_of_length_eq_zero (by omega)
     have R2:jV (zs++[(Br.Line.shape (prs.map dD) (jN x),cP prs x)]):=by
      refine ⟨?_,fun z hz=>?_⟩
      ·rw [uW,wY]
       exact R.inv.next sr h0
      ·rcases List.mem_append.mp hz with hz|hz
       ·exact R.snd z hz
       ·rw [List.mem_singleton] at hz
        subst hz
        exact sn
     have:=sY ok (ls:=r) (zs:=zs++[(Br.Line.shape (prs.map dD) (jN x),cP prs x)]) (fun y hy=>hx y (List.mem_cons_of_mem _ hy)) R2 (by rw [uW,wY,List.length_append,List.length_singleton];exact h)
     rw [List.append_assoc] at this
     exact this
theorem wI {prs:List aN} (ok:∀ pr∈prs,eF pr) {ls:List (List Nat)} (hx:∀ x∈ls,eB x 0<prs.length) (h:cM prs 0 [] [] ls=[]):jV (gN prs ls):=by
 have I0:jV []:=⟨⟨fun z hz=>absurd hz List.not_mem_nil,fun q v=>(by simp [aV,xJ]),fun q k=>(by simp [aV,xM,Bb])⟩,fun z hz=>absurd hz List.not_mem_nil⟩
 exact sY ok hx I0 h
theorem Kt {prs:List aN} {ls:List (List Nat)} {d:Br.Build} (hd:d.lines=ls.map jN):d.shapes (prs.map dD)=(gN prs ls).map (·.1):=by
 unfold Br.Build.shapes gN
 rw [hd,List.map_map,List.map_map]
 rfl
theorem tJ {α:Type} {l:List α} {x:α×Nat}:x∈l.zipIdx↔l[x.2]?=some x.1:=by
 obtain ⟨a,i⟩:=x
 rw [List.mem_zipIdx_iff_getElem?]
theorem nL {c:Br.Catalogue} {b:Br.Build} {i j:Nat}:xI (b.links c) i j↔∃ x y,(b.shapes c)[i]?=some x/\(b.shapes c)[j]?=some y/\(0<Br.fitted x y\/0<Br.fitted y x):=by
 unfold xI Br.Build.links
 dsimp only
 rw [List.contains_iff_mem,List.getD_eq_getElem?_getD,List.getElem?_map,List.getElem?_zipIdx,Nat.zero_add]
 cases e:(b.shapes c)[i]? with
 |none=>
  constructor
  ·intro h
   cases h
  ·rintro ⟨x,y,h,_⟩
   cases h
 |some x=>
  show j∈((b.shapes c).zipIdx.filter _).map _↔_
  rw [List.mem_map]
  constructor
  ·rintro ⟨y,hy,rfl⟩
   obtain ⟨h1,h2⟩:=List.mem_filter.mp hy
   rw [Bool.or_eq_true,decide_eq_true_iff,decide_eq_true_iff] at h2
   exact ⟨x,y.1,rfl,tJ.mp h1,h2⟩
  ·rintro ⟨x',y,h,hy,h2⟩
   cases h
   refine ⟨(y,j),List.mem_filter.mpr ⟨tJ.mpr hy,?_⟩,rfl⟩
   rw [Bool.or_eq_true,decide_eq_true_iff,decide_eq_true_iff]
   exact h2
theorem Fl {c:Br.Catalogue} {b:Br.Build}:Of (b.links c) b.lines.length:=by
 have hl:(b.shapes c).length=b.lines.length:=List.length_map _
 refine ⟨fun i j h=>?_,fun i j h=>?_⟩
 ·obtain ⟨x,y,h1,h2,_⟩:=nL.mp h
  rw [<-hl]
  exact ⟨(List.getElem?_eq_some_iff.mp h1).1,(List.getElem?_eq_some_iff.mp h2).1⟩
 ·obtain ⟨x,y,h1,h2,h3⟩:=nL.mp h
  exact nL.mpr ⟨y,x,h2,h1,h3.symm⟩
def Xq (ps:List (Int×Int)) (i j:Nat):Prop:=((i:Int),(j:Int))∈ps\/((j:Int),(i:Int))∈ps
theorem Hb {prs:List aN} {ls:List (List Nat)} {d:Br.Build} (hd:d.lines=ls.map jN) (R:jV (gN prs ls)) (i j:Nat):
  Xq (lM (xJ (gN prs ls)) (xM (gN prs ls))) i j↔xI (d.links (prs.map dD)) i j:=by
 rw [nL,Kt hd]
 have one:∀ i j:Nat,((i:Int),(j:Int))∈lM (xJ (gN prs ls)) (xM (gN prs ls))↔∃ z y,(gN prs ls)[i]?=some z/\(gN prs ls)[j]?=some y/\0<Br.fitted z.1 y.1:=by
  intro i j
  constructor
  ·intro h
   obtain ⟨i',j',e1,e2,h1,h2⟩:=Jw R h
   have e1:i=i':=by omega
   have e2:j=j':=by omega
   subst e1 e2
   refine ⟨_,_,List.getElem?_eq_getElem h1,List.getElem?_eq_getElem h2,?_⟩
   rw [<-pQ R (List.getElem?_eq_getElem h1) (List.getElem?_eq_getElem h2)]
   exact List.count_pos_iff.mpr h
  ·rintro ⟨z,y,h1,h2,h3⟩
   rw [<-pQ R h1 h2] at h3
   exact List.count_pos_iff.mp h3
 unfold Xq
 rw [one,one,List.getElem?_map,List.getElem?_map]
 constructor
 ·rintro (⟨z,y,h1,h2,h3⟩|⟨z,y,h1,h2,h3⟩)
  ·exact ⟨z.1,y.1,by rw [h1];rfl,by rw [h2];rfl,.inl h3⟩
  ·exact ⟨y.1,z.1,by rw [h2];rfl,by rw [h1];rfl,.inr h3⟩
 ·rintro ⟨x,y,h1,h2,h3⟩
  obtain ⟨z1,e1,rfl⟩:=Option.map_eq_some_iff.mp h1
  obtain ⟨z2,e2,rfl⟩:=Option.map_eq_some_iff.mp h2
  rcases h3 with h3|h3
  ·exact .inl ⟨z1,z2,e1,e2,h3⟩
  ·exact .inr ⟨z2,z1,e2,e1,h3⟩
def Do (ps:List (Int×Int)) (n:Nat) (ms:List Nat):Prop:=ms.length=n/\∀ i m,ms[i]?=some m->oH (Xq ps) i m
theorem Gx {prs:List aN} {ls:List (List Nat)} {d:Br.Build} (hd:d.lines=ls.map jN) (R:jV (gN prs ls)) {ms:List Nat} (hm:Do (lM (xJ (gN prs ls)) (xM (gN prs ls))) ls.length ms) {i m:Nat} (h:ms[i]?=some m):
  d.head (prs.map dD) i=m:=by
 have hl:d.lines.length=ls.length:=by rw [hd,List.length_map]
 have hi:i<d.lines.length:=by rw [hl,<-hm.1];exact (List.getElem?_eq_some_iff.mp h).1
 exact (Gy Fl hi).uq ((hm.2 i m h).of_iff fun a b=>Hb hd R a b)
def Ws (x:List Nat):List Int:=x.map fun (n:Nat)=>(n:Int)
def iN (y:List Int) (k:Nat):Int:=y.getD k 0
def nB (prs:List aN) (p r:Nat):Int×Int×Int:=match prs[p]? with
 |some pr=>if r % 2=1 then ((pr.d:Int),(pr.w:Int),(pr.h:Int)) else ((pr.w:Int),(pr.d:Int),(pr.h:Int))
 |none=>(0,0,0)
def Cl (x y z:Int):Bool:= !(decide (0<=x) && decide (x<64) && (decide (0<=y) && decide (y<64)) && (decide (0<=z) && decide (z<96)))
def nS (prs:List aN) (p r:Nat) (x y z:Int):Bool:=Cl x y z||Cl (x+(nB prs p r).1 - 1) (y+(nB prs p r).2.1 - 1) (z+(nB prs p r).2.2 - 1)
theorem zH (p:Br.Part):∀ r:Nat,(p.turned r).high=p.high/\(p.turned r).wide=(if r % 2=1 then p.deep else p.wide)/\(p.turned r).deep=(if r % 2=1 then p.wide else p.deep)
 |0=>⟨rfl,rfl,rfl⟩
 |r+1=>by
  obtain ⟨h1,h2,h3⟩:=zH p r
  show (p.turned r).high=_/\(p.turned r).deep=_/\(p.turned r).wide=_
  rw [h1,h2,h3]
  by_cases h:r % 2=1
  ·rw [if_pos h,if_pos h,if_neg (show ¬(r+1) % 2=1 by omega),if_neg (show ¬(r+1) % 2=1 by omega)]
   exact ⟨rfl,rfl,rfl⟩
  ·rw [if_neg h,if_neg h,if_pos (show (r+1) % 2=1 by omega),if_pos (show (r+1) % 2=1 by omega)]
   exact ⟨rfl,rfl,rfl⟩
theorem aBk {prs:List aN} {l:Br.Line} (h:l.part<prs.length):(((l.of (prs.map dD)).wide:Int),((l.of (prs.map dD)).deep:Int),((l.of (prs.map dD)).high:Int))=nB prs l.part l.r:=by
 have e1:prs[l.part]?=some prs[l.part]:=List.getElem?_eq_getElem h
 have e2:l.of (prs.map dD)=(dD prs[l.part]).turned l.r:=by
  unfold Br.Line.of
  rw [List.getD_eq_getElem?_getD,List.getElem?_map,e1]
  rfl
 obtain ⟨h1,h2,h3⟩:=zH (dD prs[l.part]) l.r
 rw [e2,h1,h2,h3]
 unfold nB
 rw [e1]
 by_cases hr:l.r % 2=1
 ·rw [if_pos hr,if_pos hr]
  show _=if l.r % 2=1 then _ else _
  rw [if_pos hr]
  rfl
 ·rw [if_neg hr,if_neg hr]
  show _=if l.r % 2=1 then _ else _
  rw [if_neg hr]
  rfl
theorem Ti {prs:List aN} (ok:∀ pr∈prs,eF pr) {p r:Nat} (h:p<prs.length):1<=(nB prs p r).1/\1<=(nB prs p r).2.1/\1<=(nB prs p r).2.2:=by
 have e1:prs[p]?=some prs[p]:=List.getElem?_eq_getElem h
 have o:=ok _ (List.getElem_mem h)
 have h1:=o.w1
 have h2:=o.d1
 have h3:=o.h1
 unfold nB
 rw [e1]
 show 1<=(if r % 2=1 then _ else _:Int×Int×Int).1/\1<=(if r % 2=1 then _ else _:Int×Int×Int).2.1/\1<=(if r % 2=1 then _ else _:Int×Int×Int).2.2
 split
 ·show 1<=((prs[p].d:Nat):Int)/\1<=((prs[p].w:Nat):Int)/\1<=((prs[p].h:Nat):Int)
  omega
 ·show 1<=((prs[p].w:Nat):Int)/\1<=((prs[p].d:Nat):Int)/\1<=((prs[p].h:Nat):Int)
  omega
theorem Ec {x y z:Int}:Cl x y z=false↔(0<=x/\x<64)/\(0<=y/\y<64)/\0<=z/\z<96:=by
 unfold Cl
 rw [Bool.not_eq_false']
 simp only [Bool.and_eq_true,decide_eq_true_iff,and_assoc]
theorem Ck {prs:List aN} (ok:∀ pr∈prs,eF pr) {p r:Nat} (h:p<prs.length) {x y z:Int}:
  nS prs p r x y z=false↔(0<=x/\0<=y/\0<=z/\x+(nB prs p r).1<=64/\y+(nB prs p r).2.1<=64/\z+(nB prs p r).2.2<=96):=by
 have h1:=Ti ok (r:=r) h
 unfold nS
 rw [Bool.or_eq_false_iff,Ec,Ec]
 omega
theorem Nf {prs:List aN} (ok:∀ pr∈prs,eF pr) {x:List Nat} (hx:eB x 0<prs.length):nS prs (eB x 0) (eB x 5) (eB x 2) (eB x 3) (eB x 4)=kM (tQ prs x) (eB x 2) (eB x 3) (eB x 4):=by
 have hr:=(qS ok hx).2
 have hs:=aBk (prs:=prs) (l:=jN x) hx
 have hs:((((jN x).of (prs.map dD)).wide:Int),(((jN x).of (prs.map dD)).deep:Int),(((jN x).of (prs.map dD)).high:Int))=nB prs (eB x 0) (eB x 5):=hs
 rw [<-Bool.not_not (kM _ _ _ _),<-hr,Bool.eq_iff_iff,Bool.not_eq_true',<-Bool.not_eq_false,Ck ok hx,<-hs]
 show ¬_↔(decide (eB x 2+((jN x).of (prs.map dD)).wide<=64) && (decide (eB x 3+((jN x).of (prs.map dD)).deep<=64) && decide (eB x 4+((jN x).of (prs.map dD)).high<=96)))=false
 rw [<-Bool.not_eq_true]
 simp only [Bool.and_eq_true,decide_eq_true_iff]
 omega
def Jc (prs:List aN) (y:List Int):Bool:=nS prs (iN y 0).toNat (iN y 5).toNat (iN y 2) (iN y 3) (iN y 4)
theorem aDh {y:List Int} (h:y.length=6):∃ a b c d e f,y=[a,b,c,d,e,f]:=by
 match y,h with
 |[a,b,c,d,e,f],_=>exact ⟨a,b,c,d,e,f,rfl⟩
end Br1
namespace Br1
open PySem PySem.Spec PyProof.Rows L2
def aBg (H:Hp) (t:Addr) (y:List Int):Prop:=H t=some (.tup (y.map V.int))/\y.length=6
theorem Za (x:List Nat):x.map zZ=(Ws x).map V.int:=by
 unfold Ws
 rw [List.map_map]
 rfl
theorem xC {d:Addr} {o:Obj} {aI:List (List dR×V)} {g:TG} {tb:TS} {D:fT} {σ:(List (Option V))} {H:Hp} (Pv:Nat->(List (Option V))->Hp->Prop) (h0:Pv 0 σ H) (hl:∀ i σ H,i<=aI.length->Pv i σ H->H d=some (.frz o (.dT aI)))
  (hs:∀ i σ H T k v q,aI[i]?=some (k,v)->Pv i σ H->H T=none->H q=some (.tup (k.map kV))->g (.ref T) σ (upd H T (.tup [.ref q,v])) fun σ2 H2=>tb {tL D d o (.dT aI) with nx:=Pv (i+1),ct:=Pv (i+1),bk:=(tL D d o (.dT aI)).nx} σ2 H2) (hd:∀ σ H,Pv aI.length σ H->D.nx σ (upd H d (.dT aI))):
  ∃ W:Nat->Nat->(List (Option V))->Hp->Prop,(∃ m,W 0 m σ H)/\∀ i m σ H,W i m σ H->
   ((Gn d o aI).stop i H/\(tL D d o (.dT aI)).nx σ H)\/((Gn d o aI).go i H/\∃ N:(List (Option V))->Hp->Prop,(∀ σ' H',N σ' H'->∃ m',m'<m/\W (i+1) m' σ' H')/\∀ x H',(Gn d o aI).yld i H x H'->g x σ H' fun σ2 H2=>tb {tL D d o (.dT aI) with nx:=N,ct:=N,bk:=(tL D d o (.dT aI)).nx} σ2 H2):=
 gH (D:=tL D d o (.dT aI)) Pv h0 hl hs fun σ' H' p=>⟨hl _ _ _ (Nat.le_refl _) p,hd σ' H' p⟩
section
variable {P:Program} {w:World} {K:PySem.W.Frag} {mg:Str->Option Value} {base:Heap} {C CR CP CB CG:Addr}
def tzz (n:Nat) (W D Hh:Int):List Int:=if n % 2=1 then [D,W,Hh] else [W,D,Hh]
def qI (CP:Addr):Sp:=fun vs H Q _=>∃ (b dx nm c:Addr) (W D Hh g:Int) (n:Nat),vs=[.ref b,.int (n:Int)]/\H b=some (.ins CP dx (Nn nm W D Hh g c))/\∀ t,H t=none->Q (.ref t) (upd H t (.tup ((tzz n W D Hh).map V.int)))
theorem Nm:aP ["part","turns"] ["part","turns"] (aH uJ):=⟨rfl,rfl,rfl,by decide+kernel,rfl,by decide+kernel,by decide+kernel⟩
theorem Mf {f:Addr} {fd:FuncData} (F:fD K "turned_sizes" "turned_sizes" uJ f fd) (T':Nq K CP):bO P w K mg base bS 1 f fd ["part","turns"] (qI CP):=by
 refine F.ok Nm (fun vs H Q E h=>?_) (fun cdv A outer s H vs Q E hr h=>?_)
 ·obtain ⟨b,dx,nm,c,W,D,Hh,g,n,rfl,_⟩:=h
  rfl
 ·obtain ⟨b,dx,nm,c,W,D,Hh,g,n,rfl,hb,k⟩:=h
  refine ⟨_,aE (dS (hJ qR (cU Xe (pv 1) aJ) aJ (gR _)) (aG (aW (eK (aA (aR (pv 0) rfl) (aA (aR (pv 0) rfl) (aA (aR (pv 0) rfl) aF)))))) bW)
   (aG (aW (eK (aA (aR (pv 0) rfl) (aA (aR (pv 0) rfl) (aA (aR (pv 0) rfl) aF)))))),?_⟩
  unfold tzz at k
  refine ⟨_,rfl,_,_,rfl,rfl,(by show (0:Int)<2;decide),rfl,_,rfl,bX (fun e=>?_) (fun e=>?_)⟩
  ·rw [gT] at e
   have e:=of_decide_eq_true e
   rw [if_pos (by omega)] at k
   exact ⟨_,rfl,b,CP,dx,_,_,rfl,hb,T'.cl,T'.n3,rfl,_,rfl,b,CP,dx,_,_,rfl,hb,T'.cl,T'.n2,rfl,_,rfl,b,CP,dx,_,_,rfl,hb,T'.cl,T'.n4,rfl,(by show 3<=sizeLine;decide),k⟩
  ·rw [gT] at e
   have e:¬((n:Int) % 2=1):=fun z=>e (decide_eq_true z)
   rw [if_neg (by omega)] at k
   exact ⟨_,rfl,b,CP,dx,_,_,rfl,hb,T'.cl,T'.n2,rfl,_,rfl,b,CP,dx,_,_,rfl,hb,T'.cl,T'.n3,rfl,_,rfl,b,CP,dx,_,_,rfl,hb,T'.cl,T'.n4,rfl,(by show 3<=sizeLine;decide),k⟩
theorem aAd {prs:List aN} {p r:Nat} {pr:aN} (h:prs[p]?=some pr):tzz r pr.w pr.d pr.h=[(nB prs p r).1,(nB prs p r).2.1,(nB prs p r).2.2]:=by
 unfold tzz nB
 rw [h]
 by_cases hr:r % 2=1
 ·rw [if_pos hr]
  show _=[(if r % 2=1 then _ else _:Int×Int×Int).1,(if r % 2=1 then _ else _:Int×Int×Int).2.1,(if r % 2=1 then _ else _:Int×Int×Int).2.2]
  rw [if_pos hr]
 ·rw [if_neg hr]
  show _=[(if r % 2=1 then _ else _:Int×Int×Int).1,(if r % 2=1 then _ else _:Int×Int×Int).2.1,(if r % 2=1 then _ else _:Int×Int×Int).2.2]
  rw [if_neg hr]
theorem wH {lo hi v:Int} {i:Nat} {σ:(List (Option V))} {H:Hp} {Q:VK} (hσ:σ[i]?=some (some (.int v))) (k:Q (.bl (decide (lo<=v) && decide (v<hi))) H):
  Ia (Wf fun i j=>.bl (decide (i<=j))) (Wf fun i j=>.bl (decide (i<j))) (tC (.int lo)) (eO i) (tC (.int hi)) σ H Q:=by
 refine ⟨_,hσ,_,_,rfl,rfl,_,rfl,bX (fun h=>⟨_,_,rfl,rfl,?_⟩) (fun h=>?_)⟩
 ·rw [h,Bool.true_and] at k
  exact k
 ·rw [cV h,Bool.false_and] at k
  exact k
def qX:Sp:=fun vs H Q _=>∃ x y z:Int,vs=[.int x,.int y,.int z]/\Q (.bl (Cl x y z)) H
theorem Kr:aP ["x","y","z"] ["x","y","z"] (aH tZ):=⟨rfl,rfl,rfl,by decide+kernel,rfl,by decide+kernel,by decide+kernel⟩
theorem Mm {f:Addr} {fd:FuncData} (F:fD K "beyond_room" "beyond_room" tZ f fd) (c1:CI mg "ROOM_WIDTH" 64) (c2:CI mg "ROOM_DEPTH" 64) (c3:CI mg "ROOM_HEIGHT" 96):bO P w K mg base bS 1 f fd ["x","y","z"] qX:=by
 refine F.ok Kr (fun vs H Q E h=>?_) (fun cdv A outer s H vs Q E hr h=>?_)
 ·obtain ⟨x,y,z,rfl,_⟩:=h
  rfl
 ·obtain ⟨x,y,z,rfl,k⟩:=h
  refine ⟨_,aG (aW (Xl (rD (mV pU Oo aJ (pv 0) (eP c1)) (rD (mV pU Oo aJ (pv 1) (eP c2)) (sD (mV pU Oo aJ (pv 2) (eP c3))))))),?_⟩
  unfold Cl at k
  refine wH rfl ⟨_,rfl,bX (fun e1=>wH rfl ⟨_,rfl,bX (fun e2=>wH rfl ⟨_,rfl,?_⟩) (fun e2=>⟨_,rfl,?_⟩)⟩) (fun e1=>⟨_,rfl,?_⟩)⟩
  ·rw [e1,e2,Bool.true_and,Bool.true_and] at k
   exact k
  ·rw [e1,cV e2,Bool.true_and,Bool.false_and] at k
   exact k
  ·rw [cV e1,Bool.false_and,Bool.false_and] at k
   exact k
def pO (K:PySem.W.Frag) (CP:Addr):Sp:=fun vs H Q _=>∃ (pa t:Addr) (bs:List Addr) (prs:List aN) (y:List Int),vs=[.ref pa,.ref t]/\dB K H pa (bs.map V.ref)/\dZ CP H bs prs/\aBg H t y/\0<=iN y 0/\(iN y 0).toNat<prs.length/\0<=iN y 5/\
 ∀ H':Hp,aK H H'->Q (.bl (Jc prs y)) H'
theorem yM:aP ["parts","put","size"] ["parts","put"] (aH uE):=⟨rfl,rfl,rfl,by decide+kernel,rfl,by decide+kernel,by decide+kernel⟩
theorem Mu {f:Addr} {fd:FuncData} (F:fD K "leaves_room" "leaves_room" uE f fd) (L1:dJ P w K mg base "turned_sizes" bS 1 ["part","turns"] (qI CP)) (L2:dJ P w K mg base "beyond_room" bS 1 ["x","y","z"] qX):bO P w K mg base bS 2 f fd ["parts","put"] (pO K CP):=by
 obtain ⟨g1,gd1,G1,b1,k1,h1⟩:=L1.ex
 obtain ⟨g2,gd2,G2,b2,k2,h2⟩:=L2.ex
 refine F.ok yM (fun vs H Q E h=>?_) (fun cdv A outer s H vs Q E hr h=>?_)
 ·obtain ⟨pa,t,bs,prs,y,rfl,_⟩:=h
  rfl
 ·obtain ⟨pa,t,bs,prs,y,rfl,hpa,hps,⟨ht,hy⟩,hy0,hlt,hy5,k⟩:=h
  obtain ⟨a0,a1,a2,a3,a4,a5,rfl⟩:=aDh hy
  have hy0:0<=a0:=hy0
  have hlt:a0.toNat<prs.length:=hlt
  have hy5:0<=a5:=hy5
  have hr1:=hr.mono (j:=1) (by decide)
  refine ⟨_,aE (bA (i:=2) yM.nd rfl (Or.inl rfl) (aT G1 hr1 (by rfl) h1 k1 b1 .nil aY (aA (bV fF (pv 0) (bV bU (pv 1) aJ (fun _ _=>rfl)) (fun _ _=>rfl)) (aA (bV bU (pv 1) aJ (fun _ _=>rfl)) aF))))
   (aG (aW (Sa (aT G2 hr1 (by rfl) h2 k2 b2 .nil aY (aA (bV bU (pv 1) aJ (fun _ _=>rfl)) (aA (bV bU (pv 1) aJ (fun _ _=>rfl)) (aA (bV bU (pv 1) aJ (fun _ _=>rfl)) aF))))
    (sD (aT G2 hr1 (by rfl) h2 k2 b2 .nil aY (aA (cU eR (cU gQ (bV bU (pv 1) aJ (fun _ _=>rfl)) (bV bU (pv 2) aJ (fun _ _=>rfl))) aJ)
     (aA (cU eR (cU gQ (bV bU (pv 1) aJ (fun _ _=>rfl)) (bV bU (pv 2) aJ (fun _ _=>rfl))) aJ) (aA (cU eR (cU gQ (bV bU (pv 1) aJ (fun _ _=>rfl)) (bV bU (pv 2) aJ (fun _ _=>rfl))) aJ) aF)))))))),?_⟩
  obtain ⟨pr,epr⟩:∃ pr,prs[a0.toNat]?=some pr:=⟨_,List.getElem?_eq_getElem hlt⟩
  obtain ⟨b,eb,pat,po⟩:=cX hps epr
  obtain ⟨dx,nm,cc,f1,f2,f3⟩:=pat
  have e0:Sn (bs.map V.ref) a0=some (V.ref b):=by
   have:=hU (xs:=bs.map V.ref) (j:=a0.toNat) (v:=V.ref b) (by rw [List.getElem?_map,eb];rfl)
   rwa [Int.toNat_of_nonneg hy0] at this
  have e5:a5=((a5.toNat:Nat):Int):=(Int.toNat_of_nonneg hy5).symm
  refine ⟨_,rfl,_,rfl,t,_,_,_,rfl,rfl,cN.of ht,rfl,pa,_,_,_,rfl,rfl,hpa,e0,_,rfl,t,_,_,_,rfl,rfl,cN.of ht,rfl,b,dx,nm,cc,_,_,_,_,a5.toNat,by rw [<-e5];rfl,f1,fun tz htz=>?_⟩
  have ez:=aAd (r:=a5.toNat) epr
  rw [ez]
  have S1:=aK.new (o:=.tup ([(nB prs a0.toNat a5.toNat).1,(nB prs a0.toNat a5.toNat).2.1,(nB prs a0.toNat a5.toNat).2.2].map V.int)) htz
  have ht1:=S1 _ _ ht
  have htz1:upd H tz (.tup ([(nB prs a0.toNat a5.toNat).1,(nB prs a0.toNat a5.toNat).2.1,(nB prs a0.toNat a5.toNat).2.2].map V.int)) tz=some (.tup ([(nB prs a0.toNat a5.toNat).1,(nB prs a0.toNat a5.toNat).2.1,(nB prs a0.toNat a5.toNat).2.2].map V.int)):=aC
  generalize upd H tz (.tup ([(nB prs a0.toNat a5.toNat).1,(nB prs a0.toNat a5.toNat).2.1,(nB prs a0.toNat a5.toNat).2.2].map V.int))=H1 at S1 ht1 htz1
  have k:=k H1 S1
  have k:Q (.bl (Cl a2 a3 a4||Cl (a2+(nB prs a0.toNat a5.toNat).1 - 1) (a3+(nB prs a0.toNat a5.toNat).2.1 - 1) (a4+(nB prs a0.toNat a5.toNat).2.2 - 1))) H1:=k
  generalize nB prs a0.toNat a5.toNat=Z at k htz1
  refine ⟨_,rfl,t,_,_,_,rfl,rfl,cN.of ht1,rfl,_,rfl,t,_,_,_,rfl,rfl,cN.of ht1,rfl,_,rfl,t,_,_,_,rfl,rfl,cN.of ht1,rfl,a2,a3,a4,rfl,_,rfl,bX (fun e1=>?_) (fun e1=>?_)⟩
  ·rw [e1,Bool.true_or] at k
   exact k
  ·rw [cV e1,Bool.false_or] at k
   exact ⟨_,rfl,t,_,_,_,rfl,rfl,cN.of ht1,rfl,_,rfl,tz,_,_,_,rfl,rfl,cN.of htz1,rfl,_,_,rfl,rfl,_,_,rfl,rfl,_,rfl,t,_,_,_,rfl,rfl,cN.of ht1,rfl,_,rfl,tz,_,_,_,rfl,rfl,cN.of htz1,rfl,_,_,rfl,rfl,_,_,rfl,rfl,
    _,rfl,t,_,_,_,rfl,rfl,cN.of ht1,rfl,_,rfl,tz,_,_,_,rfl,rfl,cN.of htz1,rfl,_,_,rfl,rfl,_,_,rfl,rfl,_,_,_,rfl,k⟩
def Hx (K:PySem.W.Frag) (CP:Addr):Sp:=fun vs H Q _=>∃ (pa q:Addr) (bs:List Addr) (prs:List aN) (x:List Nat),vs=[.ref pa,.ref q]/\dB K H pa (bs.map V.ref)/\dZ CP H bs prs/\(∀ pr∈prs,eF pr)/\H q=some (.tup (x.map zZ))/\Eh prs.length x/\eB x 5<=3/\
 ∀ (H':Hp) (d:Addr),aK H H'->H d=none->H' d=some (.dT (aI (cP prs x)))->Q (.ref d) H'
theorem tT:aP ["parts","put","cells","place","sign"] ["parts","put"] (aH Ju):=⟨rfl,rfl,rfl,by decide+kernel,rfl,by decide+kernel,by decide+kernel⟩
theorem Ui {f:Addr} {fd:FuncData} (F:fD K "cells_in_room" "cells_in_room" Ju f fd) (T':Nq K CP) (L1:dJ P w K mg base "turned_part" bS 4 ["part","turns"] (uN CP)):bO P w K mg base bS 5 f fd ["parts","put"] (Hx K CP):=by
 obtain ⟨g1,gd1,G1,b1,k1,h1⟩:=L1.ex
 refine F.ok tT (fun vs H Q E h=>?_) (fun cdv A outer s H vs Q E hr h=>?_)
 ·obtain ⟨pa,q,bs,prs,x,rfl,_⟩:=h
  rfl
 ·obtain ⟨pa,qp,bs,prs,x,rfl,hpa,hps,hok,hp,⟨hx6,hx0⟩,hx5,k⟩:=h
  obtain ⟨pr,epr⟩:∃ pr,prs[eB x 0]?=some pr:=⟨_,List.getElem?_eq_getElem hx0⟩
  have etp:tQ prs x=gC (uV pr) (eB x 5):=by
   unfold tQ
   rw [epr]
   rfl
  obtain ⟨b,eb,hbp,hbo⟩:=cX hps epr
  obtain ⟨nm,hpt⟩:=hbp.pt
  have tok:tR (uV pr):=⟨(Vc (hok pr (List.mem_of_getElem? epr))).nd,hbo.len⟩
  obtain ⟨a0,a1,a2,a3,a4,a5,rfl⟩:=six hx6
  have hu:=jW hr
  refine ⟨_,aE (bA (i:=2) tT.nd rfl (Or.inl rfl) jR)
   (aE (Wa PassesOwn.never rfl (aR (aT G1 (hr.mono (j:=4) (by decide)) (by rfl) h1 k1 b1 .nil aY (aA (bV fF (pv 0) (bV bU (pv 1) aJ (fun _ _=>rfl)) (fun _ _=>rfl)) (aA (bV bU (pv 1) aJ (fun _ _=>rfl)) aF))) rfl) (lB rfl (cI (bH (i:=3) tT.nd rfl (Or.inl rfl)) (cI (bH (i:=4) tT.nd rfl (Or.inl rfl)) hX)))
    (aG (lI hu (pv 2) (eK (aA (cU gQ (bV bU (pv 1) aJ (fun _ _=>rfl)) (bV bU (pv 3) aJ (fun _ _=>rfl))) (aA (cU gQ (bV bU (pv 1) aJ (fun _ _=>rfl)) (bV bU (pv 3) aJ (fun _ _=>rfl))) (aA (cU gQ (bV bU (pv 1) aJ (fun _ _=>rfl)) (bV bU (pv 3) aJ (fun _ _=>rfl))) aF)))) (pv 4) rfl)))
   (aG (aW (pv 2)))),?_⟩
  intro d hd
  have S0:aK H (upd H d (.dT [])):=aK.new hd
  have e0:Sn (bs.map V.ref) ((a0:Nat):Int)=some (V.ref b):=hU (by
   rw [List.getElem?_map]
   show Option.map V.ref bs[eB [a0,a1,a2,a3,a4,a5] 0]?=_
   rw [eb];rfl)
  have hp0:=S0 _ _ hp
  have hsl:=bI
  refine ⟨_,rfl,_,rfl,qp,_,_,_,rfl,rfl,cN.of hp0,rfl,pa,_,_,_,rfl,rfl,S0.seq hpa,e0,_,rfl,qp,_,_,_,rfl,rfl,cN.of hp0,rfl,b,nm,_,uV pr,a5,rfl,Nat.le_trans hx5 (by decide),hpt.same S0,tok,fun H1 b' S1 hp1=>?_⟩
  have tok2:tR (gC (uV pr) a5):=tok.turns _
  have k:∀ (H':Hp) (d:Addr),aK H H'->H d=none->H' d=some (.dT (aI (vD (lT a2 a3 a4) (gC (uV pr) a5).cs)))->Q (.ref d) H':=fun H' d s n e=>k H' d s n (by unfold cP;rw [etp];exact e)
  obtain ⟨dx1,c,hb1,hc1⟩:=hp1
  generalize gC (uV pr) a5=tt at hb1 hc1 tok2 k
  obtain ⟨W,D,Hh,cs⟩:=tt
  have hb1:H1 b'=some (.ins CP dx1 (Nn nm W D Hh pr.g c)):=hb1
  have hc1:H1 c=some (.dT (aI cs)):=hc1
  have nd:(cs.map (·.1)).Nodup:=tok2.nd
  have ln:cs.length<20000:=tok2.ln
  have hd1:H1 d=some (.dT []):=S1 _ _ aC
  have hp1:=S1 _ _ hp0
  refine ⟨b',CP,dx1,_,_,rfl,hb1,T'.cl,T'.n6,rfl,c,_,rfl,hc1,fun od=>?_⟩
  have S01:=S0.trans S1
  by_cases ncd:c=d
  ·-- the new dict itself:then there is nothing to walk
   subst ncd
   rw [hd1] at hc1
   have hcs:cs=[]:=by
    cases cs with
    |nil=>rfl
    |cons a r=>cases hc1
   subst hcs
   refine xC (fun i σ H'=>∃ v3 v4,σ=[some (.ref pa),some (.ref qp),some (.ref c),v3,v4]/\H'=upd H1 c (.frz od (.dT (aI [])))) ⟨none,none,rfl,rfl⟩ ?_ ?_ ?_
   ·rintro i σ H2 hi ⟨v3,v4,rfl,rfl⟩
    exact aC
   ·rintro i σ H2 T k' v q e
    cases i<;>cases e
   ·rintro σ H2 ⟨v3,v4,rfl,rfl⟩
    refine ⟨_,rfl,k _ c (fun y o e=>?_) hd (by rw [aC];rfl)⟩
    have ny:=aD e hd
    rw [aB ny,aB ny]
    exact S01 _ _ e
  ·have hcL:upd H1 c (.frz od (.dT (aI cs))) c=some (.frz od (.dT (aI cs))):=aC
   have hdL:upd H1 c (.frz od (.dT (aI cs))) d=some (.dT []):=by rw [aB (Ne.symm ncd)];exact hd1
   have npc:qp≠c:=fun z=>by rw [z,hc1] at hp1;cases hp1
   have npd:qp≠d:=fun z=>by rw [z,hd1] at hp1;cases hp1
   have hpL:upd H1 c (.frz od (.dT (aI cs))) qp=some (.tup ([a0,a1,a2,a3,a4,a5].map zZ)):=by rw [aB npc];exact hp1
   refine xC (fun i σ H'=>∃ v3 v4,σ=[some (.ref pa),some (.ref qp),some (.ref d),v3,v4]/\SX d (upd H1 c (.frz od (.dT (aI cs)))) H'/\H' d=some (.dT (aI (vD (lT a2 a3 a4) (cs.take i))))) ⟨none,none,rfl,SX.refl _ _,hdL⟩ ?_ ?_ ?_
   ·rintro i σ H2 hi ⟨v3,v4,rfl,S2,_⟩
    exact S2 _ _ hcL ncd
   ·rintro i σ H2 T kk v q e ⟨v3,v4,rfl,S2,hd2⟩ hT hq
    obtain ⟨p,sg,e1,rfl,rfl⟩:=iC e
    have ST:=aK.new (o:=.tup [.ref q,.int sg]) hT
    refine ⟨T,_,rfl,cN.of aC,rfl,_,_,rfl,_,_,rfl,rfl,?_⟩
    have hq3:=ST _ _ hq
    have hp3:=ST _ _ (S2 _ _ hpL npd)
    have hd3:=ST _ _ hd2
    generalize upd H2 T (.tup [.ref q,.int sg])=H3 at ST hq3 hp3 hd3
    refine ⟨_,rfl,_,rfl,_,rfl,qp,_,_,_,rfl,rfl,cN.of hp3,rfl,_,rfl,q,_,_,_,rfl,rfl,cN.of hq3,rfl,_,_,rfl,rfl,_,rfl,qp,_,_,_,rfl,rfl,cN.of hp3,rfl,_,rfl,q,_,_,_,rfl,rfl,cN.of hq3,rfl,_,_,rfl,rfl,_,rfl,qp,_,_,_,rfl,rfl,cN.of hp3,rfl,_,rfl,q,_,_,_,rfl,rfl,cN.of hq3,rfl,_,_,rfl,rfl,(by show 3<=sizeLine;decide),fun t ht=>?_⟩
    have SQ:=aK.new (o:=.tup [.int (a2+p.1),.int (a3+p.2.1),.int (a4+p.2.2)]) ht
    have hi:i<cs.length:=(List.getElem?_eq_some_iff.mp e1).1
    refine ⟨d,_,rfl,xG.t (k:=eG (a2+p.1) (a3+p.2.1) (a4+p.2.2)) (SQ _ _ hd3) aC (by rw [gL,Ea,List.length_take];omega),?_⟩
    refine ⟨_,_,rfl,fun b' o e' n'=>?_,?_⟩
    ·rw [aB n']
     exact SQ _ _ (ST _ _ (S2 _ _ e' n'))
    ·rw [aC]
     exact congrArg (fun z=>some (HO.dT z)) (Ji (Mz a2 a3 a4) nd e1)
   ·rintro σ H2 ⟨v3,v4,rfl,S2,hd2⟩
    rw [gL,List.take_length] at hd2
    have hdE:upd H2 c (.dT (aI cs)) d=some (.dT (aI (vD (lT a2 a3 a4) cs))):=by rw [aB (Ne.symm ncd)];exact hd2
    refine ⟨_,rfl,k _ d (fun y o e=>?_) hd hdE⟩
    have ny:=aD e hd
    have e1:=S01 _ _ e
    by_cases hy:y=c
    ·rw [hy] at e1 ⊢
     rw [aC,<-e1,hc1]
    ·rw [aB hy]
     exact S2 _ _ (by rw [aB hy];exact e1) ny
end
theorem Tv {A B:TS} {D:fT} {σ:List (Option V)} {H:Hp} {M:List (Option V)->Hp->Prop} (h2:∀ σ' H',M σ' H'->B D σ' H') (h1:(∀ σ' H',M σ' H'->B D σ' H')->A {D with nx:=B D} σ H):Fh A B D σ H:=h1 h2
theorem Wz {i:Nat} {x:V} {σ:List (Option V)} {H:Hp} {k:List (Option V)->Hp->Prop} (h:k (σ.set i (some x)) H):mF i x σ H k:=h
def Bz (ds os wr:Addr):List (Str×V):=[("signs",.ref ds),("owners",.ref os),("wrong",.ref wr)]
structure Tp (K:PySem.W.Frag) (CM:Addr):Prop where
 cl:Fr K CM
 n1:cZ K CM "signs"
 n2:cZ K CM "owners"
 n3:cZ K CM "wrong"
def Wy (CM:Addr):Sp:=fun vs H Q _=>∃ (r dx:Addr),vs=[.ref r]/\H r=some (.ins CM dx [])/\∀ (H':Hp) (ds os wr:Addr),H' r=some (.ins CM dx (Bz ds os wr))->H' ds=some (.dT [])->H' os=some (.dT [])->H' wr=some (.lst [])->H ds=none->H os=none->H wr=none->ds≠os->SX r H H'->Q .non H'
theorem Xh:aP ["self"] ["self"] (aH Bi):=⟨rfl,rfl,rfl,by decide+kernel,rfl,by decide+kernel,by decide+kernel⟩
theorem Yv {P:Program} {w:World} {K:PySem.W.Frag} {mg:Str->Option Value} {base:Heap} {CM f:Addr} {fd:FuncData} (F:fD K "__init__" "Room.__init__" Bi f fd) (T:Tp K CM):bO P w K mg base bS 1 f fd ["self"] (Wy CM):=by
 refine F.ok Xh (fun vs H Q E h=>?_) (fun cdv A outer s H vs Q E hr h=>?_)
 ·obtain ⟨r,dx,rfl,_⟩:=h
  rfl
 ·obtain ⟨r,dx,rfl,hp,k⟩:=h
  refine ⟨_,aE (dQ (pv 0) jR rfl) (aE (dQ (pv 0) jR rfl) (aG (dQ (pv 0) (dL aF) rfl))),?_⟩
  intro ds hds
  have n1:r≠ds:=aD hp hds
  refine ⟨_,rfl,r,CM,dx,_,rfl,by rw [aB n1];exact hp,T.cl,T.n1,(by show 0<1000;decide),?_⟩
  intro os hos
  have n2:r≠os:=fun z=>by rw [<-z,aC] at hos;cases hos
  have n3:ds≠os:=fun z=>by rw [<-z,aB (Ne.symm n1),aC] at hos;cases hos
  rw [aB (Ne.symm n2),aB (Ne.symm n3)] at hos
  refine ⟨_,rfl,r,CM,dx,_,rfl,by rw [aB n2,aC],T.cl,T.n2,(by show 1<1000;decide),?_⟩
  refine ⟨Nat.zero_le _,fun wr hwr=>?_⟩
  have n4:r≠wr:=fun z=>by rw [<-z,aC] at hwr;cases hwr
  have n5:os≠wr:=fun z=>by rw [<-z,aB (Ne.symm n2),aC] at hwr;cases hwr
  have n6:ds≠wr:=fun z=>by rw [<-z,aB (Ne.symm n1),aB n3,aB (Ne.symm n1),aC] at hwr;cases hwr
  rw [aB (Ne.symm n4),aB (Ne.symm n5),aB (Ne.symm n4),aB (Ne.symm n6)] at hwr
  refine ⟨_,rfl,r,CM,dx,_,rfl,by rw [aB n4,aC],T.cl,T.n3,(by show 2<1000;decide),?_⟩
  refine k _ ds os wr aC ?_ ?_ ?_ hds hos hwr n3 fun b o e hb=>?_
  ·rw [aB (Ne.symm n1),aB n6,aB (Ne.symm n1),aB n3,aB (Ne.symm n1),aC]
  ·rw [aB (Ne.symm n2),aB n5,aB (Ne.symm n2),aC]
  ·rw [aB (Ne.symm n4),aC]
  ·rw [aB hb,aB (aD e hwr),aB hb,aB (aD e hos),aB hb,aB (aD e hds)]
   exact e
structure RmM (P:Program) (w:World) (K:PySem.W.Frag) (mg:Str->Option Value) (base:Heap) (CM:Addr):Prop where
 ex:∃ f fd,Mk K CM f/\bO P w K mg base bS 1 f fd ["self"] (Wy CM)/\eV K fd ["self"] []
 mg:mg "Room"=some (.ref CM)
section
variable {sg ow:CL} {c:Pl×Int} {s k:Int}
theorem Lf (h:¬dY c.2=true):lV sg ow c=[]:=by
 unfold lV
 split
 ·exact if_neg fun z=>h z.1
 ·rfl
theorem Lx (h:aV sg (jG c.1)=none):lV sg ow c=[]:=by
 unfold lV
 rw [h]
theorem Lm (h:aV sg (jG c.1)=some s) (ht:dC s=true):lV sg ow c=[]:=by
 unfold lV
 rw [h]
 exact if_neg fun z=>by rw [ht] at z;exact Bool.noConfusion z.2
theorem Py (h:aV sg (jG c.1)=some s) (h1:dY c.2=true) (h2:dC s=false) (h3:aV ow (jG c.1)=some k):lV sg ow c=[k]:=by
 unfold lV
 rw [h]
 show (if dY c.2=true/\dC s=false then _ else _)=_
 rw [if_pos ⟨h1,h2⟩,h3]
 rfl
theorem Nl (h:dC c.2=true):nY sg ow c=[]:=by
 unfold nY
 split
 ·exact if_neg fun z=>by rw [h] at z;exact Bool.noConfusion z.1
 ·rfl
theorem Lh (h:aV sg (oQ c.1)=none):nY sg ow c=[]:=by
 unfold nY
 rw [h]
theorem Ks (h:aV sg (oQ c.1)=some s) (ht:¬dY s=true):nY sg ow c=[]:=by
 unfold nY
 rw [h]
 exact if_neg fun z=>ht z.2
theorem Se (h:aV sg (oQ c.1)=some s) (h1:dC c.2=false) (h2:dY s=true) (h3:aV ow (oQ c.1)=some k):nY sg ow c=[k]:=by
 unfold nY
 rw [h]
 show (if dC c.2=false/\dY s=true then _ else _)=_
 rw [if_pos ⟨h1,h2⟩,h3]
 rfl
theorem Eo:(lV sg ow c).length<=1:=by
 unfold lV
 split
 ·split
  ·cases aV ow (jG c.1)<;>simp
  ·simp
 ·simp
theorem Ph:(nY sg ow c).length<=1:=by
 unfold nY
 split
 ·split
  ·cases aV ow (oQ c.1)<;>simp
  ·simp
 ·simp
end
theorem yT (sg ow:CL):∀ cl:CL,(cK cl sg ow).length<=2 * cl.length
 |[]=>Nat.le_refl _
 |c::r=>by
  have ih:=yT sg ow r
  have h1:=Eo (sg:=sg) (ow:=ow) (c:=c)
  have h2:=Ph (sg:=sg) (ow:=ow) (c:=c)
  unfold cK at ih ⊢
  rw [List.flatMap_cons,List.length_append,List.length_append,List.length_cons]
  omega
theorem oZ {cl sg ow:CL} {i:Nat} {c:Pl×Int} (e:cl[i]?=some c):cK (cl.take (i+1)) sg ow=cK (cl.take i) sg ow++lV sg ow c++nY sg ow c:=by
 unfold cK
 rw [List.take_succ,e,List.flatMap_append,List.append_assoc]
 show _++List.flatMap _ [c]=_
 rw [List.flatMap_singleton]
theorem kQ {H:Hp} {c q:Addr} {cs:CL} {p:Pl} {v:Int} (hc:H c=some (.dT (aI cs))) (hq:H q=some (.tup [.int p.1,.int p.2.1,.int p.2.2])) (h:aV cs p=some v):mT H c (.ref q) (some (V.int v)):=by
 have:=wJ (p:=p) hc hq
 rw [h] at this
 exact this
theorem fC:16000000<sizeLine:=by rw [sizeLine_eq];decide
section
variable {P:Program} {w:World} {K:PySem.W.Frag} {mg:Str->Option Value} {base:Heap} {C CR CP CB CG CM:Addr}
def rA (CM:Addr):Sp:=fun vs H Q _=>∃ (d m dm wr s o:Addr) (cl sg ow:CL),vs=[.ref d,.ref m]/\H m=some (.ins CM dm (Bz s o wr))/\H d=some (.dT (aI cl))/\H s=some (.dT (aI sg))/\H o=some (.dT (aI ow))/\d≠s/\d≠o/\(∀ p,(aV sg p).isSome=true->(aV ow p).isSome=true)/\cl.length<20000/\
 ∀ (H':Hp) (l:Addr),aK H H'->H l=none->H' l=some (.lst ((cK cl sg ow).map V.int))->Q (.ref l) H'
theorem gG:aP ["cells","room","blocked","place","sign","over","under"] ["cells","room"] (aH qC):=⟨rfl,rfl,rfl,by decide+kernel,rfl,by decide+kernel,by decide+kernel⟩
theorem Fx {f:Addr} {fd:FuncData} (F:fD K "blocked_lines" "blocked_lines" qC f fd) (TM:Tp K CM) (L1:dJ P w K mg base "above" bS 1 ["place"] lK) (L2:dJ P w K mg base "below" bS 1 ["place"] nE)
  (L3:dJ P w K mg base "has_stud" bS 1 ["sign"] sE) (L4:dJ P w K mg base "has_tube" bS 1 ["sign"] rT):bO P w K mg base bS 2 f fd ["cells","room"] (rA CM):=by
 obtain ⟨g1,gd1,G1,b1,k1,h1⟩:=L1.ex
 obtain ⟨g2,gd2,G2,b2,k2,h2⟩:=L2.ex
 obtain ⟨g3,gd3,G3,b3,k3,h3⟩:=L3.ex
 obtain ⟨g4,gd4,G4,b4,k4,h4⟩:=L4.ex
 refine F.ok gG (fun vs H Q E h=>?_) (fun cdv A outer s H vs Q E hr h=>?_)
 ·obtain ⟨d,m,dm,wr,s,o,cl,sg,ow,rfl,_⟩:=h
  rfl
 ·obtain ⟨d,m,dm,wr,s,o,cl,sg,ow,rfl,hm,hd,hs,ho,nds,ndo,sub,ln,k⟩:=h
  have hr1:=hr.mono (j:=1) (by decide)
  have hu:=jW hr
  refine ⟨_,aE (bA (i:=2) gG.nd rfl (Or.inl rfl) (dL aF))
   (aE (hG (eA PassesOwn.never rfl (iD (pv 0)) (lB rfl (cI (bH (i:=3) gG.nd rfl (Or.inl rfl)) (cI (bH (i:=4) gG.nd rfl (Or.inl rfl)) hX)))
    (aE (bA (i:=5) gG.nd rfl (Or.inl rfl) (aT G1 hr1 (by rfl) h1 k1 b1 .nil aY (aA (pv 3) aF)))
    (aE (dS (fY (dW (aT G3 hr1 (by rfl) h3 k3 b3 .nil aY (aA (pv 4) aF))) (fY (dA (pC hu (pv 5) (aR (pv 1) rfl))) (gK (lD (dW (aT G4 hr1 (by rfl) h4 k4 b4 .nil aY (aA (iZ hu (aR (pv 1) rfl) (pv 5) (fun _ _=>rfl)) aF))))))).pt
     (aG (bZ (mH PySem.F.plainAttrs_list PySem.F.slot_list_append PySem.F.type_list_append eI (pv 2) (aA (iZ hu (aR (pv 1) rfl) (pv 5) (fun _ _=>rfl)) aF)))) bW)
    (aE (bA (i:=6) gG.nd rfl (Or.inl rfl) (aT G2 hr1 (by rfl) h2 k2 b2 .nil aY (aA (pv 3) aF)))
    (aG (dS (fY (lD (dW (aT G4 hr1 (by rfl) h4 k4 b4 .nil aY (aA (pv 4) aF)))) (fY (dA (pC hu (pv 6) (aR (pv 1) rfl))) (gK (dW (aT G3 hr1 (by rfl) h3 k3 b3 .nil aY (aA (iZ hu (aR (pv 1) rfl) (pv 6) (fun _ _=>rfl)) aF)))))).pt
     (aG (bZ (mH PySem.F.plainAttrs_list PySem.F.slot_list_append PySem.F.type_list_append eI (pv 2) (aA (iZ hu (aR (pv 1) rfl) (pv 6) (fun _ _=>rfl)) aF)))) bW)))))))
   (aG (aW (pv 2)))),?_⟩
  refine ⟨by show 0<=sizeLine;decide,fun l hl=>?_⟩
  have S0:aK H (upd H l (.lst [])):=aK.new hl
  have ndl:d≠l:=aD hd hl
  have nsl:s≠l:=aD hs hl
  have nol:o≠l:=aD ho hl
  have nml:m≠l:=aD hm hl
  have nmd:m≠d:=fun z=>by rw [z,hd] at hm;cases hm
  have hsz:=fC
  refine ⟨d,_,S0 _ _ hd,trivial,fun od=>?_⟩
  have hdL:upd (upd H l (.lst [])) d (.frz od (.dT (aI cl))) d=some (.frz od (.dT (aI cl))):=aC
  have hsL:upd (upd H l (.lst [])) d (.frz od (.dT (aI cl))) s=some (.dT (aI sg)):=by rw [aB (Ne.symm nds)];exact S0 _ _ hs
  have hoL:upd (upd H l (.lst [])) d (.frz od (.dT (aI cl))) o=some (.dT (aI ow)):=by rw [aB (Ne.symm ndo)];exact S0 _ _ ho
  have hmL:upd (upd H l (.lst [])) d (.frz od (.dT (aI cl))) m=some (.ins CM dm (Bz s o wr)):=by rw [aB nmd];exact S0 _ _ hm
  have hlL:upd (upd H l (.lst [])) d (.frz od (.dT (aI cl))) l=some (.lst []):=by rw [aB (Ne.symm ndl),aC]
  refine ⟨_,rfl,d,od,_,rfl,hdL,?_⟩
  refine gH (fun i σ H'=>∃ v4 v5 v6 v7,σ=[some (.ref d),some (.ref m),some (.ref l),v4,v5,v6,v7]/\SX l (upd (upd H l (.lst [])) d (.frz od (.dT (aI cl)))) H'/\H' l=some (.lst ((cK (cl.take i) sg ow).map V.int))) ⟨none,none,none,none,rfl,SX.refl _ _,hlL⟩ ?_ ?_ ?_
  ·rintro i σ H1 hi ⟨v4,v5,v6,v7,rfl,S1,_⟩
   exact S1 _ _ hdL ndl
  ·rintro i σ H1 T kk v q e ⟨v4,v5,v6,v7,rfl,S1,hl1⟩ hT hq
   obtain ⟨p,sv,e1,rfl,rfl⟩:=iC e
   have hi:i<cl.length:=(List.getElem?_eq_some_iff.mp e1).1
   have ST:=aK.new (o:=.tup [.ref q,.int sv]) hT
   refine ⟨T,_,rfl,cN.of aC,rfl,_,_,rfl,_,_,rfl,rfl,?_⟩
   have hq2:=ST _ _ hq
   have S2:SX l (upd (upd H l (.lst [])) d (.frz od (.dT (aI cl)))) (upd H1 T (.tup [.ref q,.int sv])):=fun b ob eb nb=>ST _ _ (S1 _ _ eb nb)
   have hl2:=ST _ _ hl1
   generalize upd H1 T (.tup [.ref q,.int sv])=H2 at ST hq2 S2 hl2
   have nql:q≠l:=fun z=>by rw [z,hl2] at hq2;cases hq2
   have len0:(cK (cl.take i) sg ow).length<=40000:=by
    have:=yT sg ow (cl.take i)
    rw [List.length_take] at this
    omega
   have fin:∀ {H':Hp} {xs:List Int},lV sg ow (p,sv)++nY sg ow (p,sv)=xs->H' l=some (.lst ((cK (cl.take i) sg ow++xs).map V.int))->H' l=some (.lst ((cK (cl.take (i+1)) sg ow).map V.int)):=fun {H' xs} ex hx=>by
    rw [hx,oZ e1,List.append_assoc,ex]
   refine ⟨_,rfl,q,p.1,p.2.1,p.2.2,rfl,hq2,fun t ht=>?_⟩
   have SQ:=aK.new (o:=.tup [.int p.1,.int p.2.1,.int (p.2.2+1)]) ht
   have S3:SX l (upd (upd H l (.lst [])) d (.frz od (.dT (aI cl)))) (upd H2 t (.tup [.int p.1,.int p.2.1,.int (p.2.2+1)])):=fun b ob eb nb=>SQ _ _ (S2 _ _ eb nb)
   have hl3:=SQ _ _ hl2
   have hq3:=SQ _ _ hq2
   have ht3:upd H2 t (.tup [.int p.1,.int p.2.1,.int (p.2.2+1)]) t=some (.tup [.int (jG p).1,.int (jG p).2.1,.int (jG p).2.2]):=aC
   generalize upd H2 t (.tup [.int p.1,.int p.2.1,.int (p.2.2+1)])=H3 at S3 hl3 hq3 ht3
   refine Wz ?_
   dsimp only
   refine Tv (A:=Xd _ _ _) (M:=fun σ' H'=>∃ v7,σ'=[some (.ref d),some (.ref m),some (.ref l),some (.ref q),some (.int sv),some (.ref t),v7]/\SX l (upd (upd H l (.lst [])) d (.frz od (.dT (aI cl)))) H'/\H' l=some (.lst ((cK (cl.take i) sg ow++lV sg ow (p,sv)).map V.int))/\H' q=some (.tup [.int p.1,.int p.2.1,.int p.2.2])) ?_ (fun nxt=>?_)
   ·rintro σ' H4 ⟨v7,rfl,S4,hl4,hq4⟩
    refine ⟨_,rfl,q,p.1,p.2.1,p.2.2,rfl,hq4,fun u hu'=>?_⟩
    have SU:=aK.new (o:=.tup [.int p.1,.int p.2.1,.int (p.2.2 - 1)]) hu'
    have S5:SX l (upd (upd H l (.lst [])) d (.frz od (.dT (aI cl)))) (upd H4 u (.tup [.int p.1,.int p.2.1,.int (p.2.2 - 1)])):=fun b ob eb nb=>SU _ _ (S4 _ _ eb nb)
    have hl5:=SU _ _ hl4
    have hu5:upd H4 u (.tup [.int p.1,.int p.2.1,.int (p.2.2 - 1)]) u=some (.tup [.int (oQ p).1,.int (oQ p).2.1,.int (oQ p).2.2]):=aC
    generalize upd H4 u (.tup [.int p.1,.int p.2.1,.int (p.2.2 - 1)])=H5 at S5 hl5 hu5
    have no2:nY sg ow (p,sv)=[]->H5 l=some (.lst ((cK (cl.take (i+1)) sg ow).map V.int)):=fun z=>by
     rw [oZ e1,z,List.append_nil]
     exact hl5
    refine ⟨_,rfl,sv,rfl,_,rfl,bX (fun ht1=>?_) (fun ht1=>pX ⟨_,_,_,_,rfl,S5,no2 (Nl (by cases z:dC sv with|true=>exact rfl|false=>exact absurd (by rw [z];rfl) ht1))⟩)⟩
    have ht1:dC sv=false:=by
     cases z:dC sv with
     |false=>rfl
     |true=>rw [z] at ht1;cases ht1
    refine ⟨_,rfl,_,rfl,m,CM,dm,_,_,rfl,(S5 _ _ hmL nml),TM.cl,TM.n1,rfl,s,_,rfl,wJ (p:=oQ p) (S5 _ _ hsL nsl) hu5,_,rfl,bX (fun hin=>?_) (fun hin=>pX ⟨_,_,_,_,rfl,S5,no2 (Lh ?_)⟩)⟩
    ·rw [Option.isSome_map] at hin
     obtain ⟨sv2,es⟩:=Option.isSome_iff_exists.mp hin
     obtain ⟨ov,eo⟩:=Option.isSome_iff_exists.mp (sub _ hin)
     refine ⟨_,rfl,m,CM,dm,_,_,rfl,(S5 _ _ hmL nml),TM.cl,TM.n1,rfl,_,rfl,s,_,rfl,kQ (p:=oQ p) (S5 _ _ hsL nsl) hu5 es,sv2,rfl,_,rfl,bX (fun hs2=>?_) (fun hs2=>⟨_,_,_,_,rfl,S5,no2 (Ks es hs2)⟩)⟩
     refine ⟨_,rfl,.inl ⟨rfl,_,dB.of hl5⟩,_,rfl,m,CM,dm,_,_,rfl,(S5 _ _ hmL nml),TM.cl,TM.n2,rfl,_,rfl,o,_,rfl,kQ (p:=oQ p) (S5 _ _ hoL nol) hu5 eo,l,_,_,rfl,rfl,hl5,?_,?_⟩
     ·have:=Eo (sg:=sg) (ow:=ow) (c:=(p,sv))
      rw [List.length_map,List.length_append]
      omega
     ·refine ⟨_,_,_,_,rfl,fun b ob eb nb=>?_,?_⟩
      ·rw [aB nb]
       exact S5 _ _ eb nb
      ·rw [aC,oZ e1,Se es ht1 hs2 eo]
       simp only [List.map_append,List.map_cons,List.map_nil]
    ·rw [Option.isSome_map] at hin
     cases z:aV sg (oQ p) with
     |none=>rfl
     |some y=>rw [z] at hin;exact absurd rfl hin
   ·have no1:lV sg ow (p,sv)=[]->H3 l=some (.lst ((cK (cl.take i) sg ow++lV sg ow (p,sv)).map V.int)):=fun z=>by
     rw [z,List.append_nil]
     exact hl3
    refine ⟨_,rfl,sv,rfl,_,rfl,bX (fun hs1=>?_) (fun hs1=>pX (nxt _ _ ⟨_,rfl,S3,no1 (Lf hs1),hq3⟩))⟩
    refine ⟨_,rfl,_,rfl,m,CM,dm,_,_,rfl,(S3 _ _ hmL nml),TM.cl,TM.n1,rfl,s,_,rfl,wJ (p:=jG p) (S3 _ _ hsL nsl) ht3,_,rfl,bX (fun hin=>?_) (fun hin=>pX (nxt _ _ ⟨_,rfl,S3,no1 (Lx ?_),hq3⟩))⟩
    ·rw [Option.isSome_map] at hin
     obtain ⟨sv2,es⟩:=Option.isSome_iff_exists.mp hin
     obtain ⟨ov,eo⟩:=Option.isSome_iff_exists.mp (sub _ hin)
     refine ⟨_,rfl,m,CM,dm,_,_,rfl,(S3 _ _ hmL nml),TM.cl,TM.n1,rfl,_,rfl,s,_,rfl,kQ (p:=jG p) (S3 _ _ hsL nsl) ht3 es,sv2,rfl,_,rfl,bX (fun ht2=>?_) (fun ht2=>nxt _ _ ⟨_,rfl,S3,no1 (Lm es ?_),hq3⟩)⟩
     ·have ht2:dC sv2=false:=by
       cases z:dC sv2 with
       |false=>rfl
       |true=>rw [z] at ht2;cases ht2
      refine ⟨_,rfl,.inl ⟨rfl,_,dB.of hl3⟩,_,rfl,m,CM,dm,_,_,rfl,(S3 _ _ hmL nml),TM.cl,TM.n2,rfl,_,rfl,o,_,rfl,kQ (p:=jG p) (S3 _ _ hoL nol) ht3 eo,l,_,_,rfl,rfl,hl3,?_,nxt _ _ ?_⟩
      ·rw [List.length_map]
       omega
      ·refine ⟨_,rfl,fun b ob eb nb=>?_,?_,?_⟩
       ·rw [aB nb]
        exact S3 _ _ eb nb
       ·rw [aC,Py es hs1 ht2 eo]
        simp only [List.map_append,List.map_cons,List.map_nil]
       ·rw [aB nql]
        exact hq3
     ·cases z:dC sv2 with
      |true=>rfl
      |false=>exact absurd (by rw [z];rfl) ht2
    ·rw [Option.isSome_map] at hin
     cases z:aV sg (jG p) with
     |none=>rfl
     |some y=>rw [z] at hin;exact absurd rfl hin
  ·rintro σ H1 ⟨v4,v5,v6,v7,rfl,S1,hl1⟩
   rw [gL,List.take_length] at hl1
   refine ⟨S1 _ _ hdL ndl,?_⟩
   have S2:=Bj hd hl S1
   have hl2:upd H1 d (.dT (aI cl)) l=some (.lst ((cK cl sg ow).map V.int)):=by rw [aB (Ne.symm ndl)];exact hl1
   exact ⟨_,rfl,k _ l S2 hl hl2⟩
end
end Br1
namespace L2
open PySem PySem.Spec PyProof.Rows
theorem Kx {K:PySem.W.Frag} {a:Addr} {xs:List V} {g:TG} {tb:TS} {D:fT} {σ:St} {H:Hp} (Pv:Nat->St->Hp->Prop) (h0:Pv 0 σ H) (hl:∀ i σ H,i<=xs.length->Pv i σ H->dB K H a xs)
  (hs:∀ i x σ H T,xs[i]?=some x->Pv i σ H->H T=none->g (.ref T) σ (upd H T (.tup [.int (i:Nat),x])) fun σ2 H2=>tb {D with nx:=Pv (i+1),ct:=Pv (i+1),bk:=D.nx} σ2 H2) (hd:∀ σ H,Pv xs.length σ H->D.nx σ H):
  ∃ W:Nat->Nat->St->Hp->Prop,(∃ m,W 0 m σ H)/\∀ i m σ H,W i m σ H->
   ((Ite K a).stop i H/\D.nx σ H)\/((Ite K a).go i H/\∃ N:St->Hp->Prop,(∀ σ' H',N σ' H'->∃ m',m'<m/\W (i+1) m' σ' H')/\∀ x H',(Ite K a).yld i H x H'->g x σ H' fun σ2 H2=>tb {D with nx:=N,ct:=N,bk:=D.nx} σ2 H2):=by
 refine ⟨fun i m σ H=>m=xs.length - i/\i<=xs.length/\Pv i σ H,⟨xs.length,by simp,Nat.zero_le _,h0⟩,?_⟩
 rintro i m σ H ⟨rfl,hi,p⟩
 have q:=hl i σ H hi p
 by_cases hlt:i<xs.length
 ·refine .inr ⟨⟨xs,xs[i],q,by simp [hlt]⟩,Pv (i+1),fun σ' H' p'=>⟨xs.length - (i+1),by omega,rfl,hlt,p'⟩,fun x H' y=>?_⟩
  obtain ⟨T,x',rfl,hT,rfl,y⟩:=y
  exact hs i x' σ H T (y xs q) p hT
 ·have e:i=xs.length:=by omega
  subst e
  exact .inl ⟨⟨xs,q,Nat.le_refl _⟩,hd σ H p⟩
end L2
namespace Br1
open PySem PySem.Spec PyProof.Rows L2
theorem Dm {ow cl:CL} {i:Nat} {c:Pl×Int} (e:cl[i]?=some c):fW ow (cl.take (i+1))=fW ow (cl.take i)++(aV ow c.1).toList:=by
 unfold fW
 rw [List.take_succ,e,List.filterMap_append]
 show _++List.filterMap _ [c]=_
 cases h:aV ow c.1<;>simp [h]
theorem Tj (ow cl:CL):(fW ow cl).length<=cl.length:=by
 unfold fW
 exact List.length_filterMap_le _ _
theorem Px {ow cl:CL} (h:¬0<(fW ow cl).length):∀ c∈cl,aV ow c.1=none:=by
 intro c hc
 cases e:aV ow c.1 with
 |none=>rfl
 |some k=>
  have:k∈fW ow cl:=List.mem_filterMap.mpr ⟨c,hc,e⟩
  exact absurd (List.length_pos_of_mem this) h
def Ek (j:Nat) (cl:CL):CL:=cl.map fun c=>(c.1,(j:Int))
theorem Iz {dct cl:CL} {i:Nat} {p:Pl} {s v:Int} (f:Pl×Int->Pl×Int) (hf:∀ c,(f c).1=c.1) (nd:(cl.map (·.1)).Nodup) (fr:∀ c∈cl,aV dct c.1=none) (e:cl[i]?=some (p,s)) (hv:(f (p,s)).2=v):
  jJ (aI (dct++(cl.take i).map f)) (eG p.1 p.2.1 p.2.2) (V.int v)=aI (dct++(cl.take (i+1)).map f):=by
 rw [Iw]
 ·rw [List.take_succ,e,List.map_append,List.append_assoc]
  show aI (dct++(_++[(p,v)]))=aI (dct++(_++[f (p,s)]))
  rw [<-hv]
  have:f (p,s)=(p,(f (p,s)).2):=Prod.ext (hf _) rfl
  rw [<-this]
 ·rw [vZ,fr _ (List.mem_of_getElem? e)]
  show aV _ _=none
  refine xZ fun c hc z=>?_
  obtain ⟨c0,h0,rfl⟩:=List.mem_map.mp hc
  rw [hf] at z
  exact wU nd e c0 h0 z
def vI (cl sg ow:CL) (j:Int):List Int:=if 0<(fW ow cl).length then [2,j,rS (fW ow cl)] else if 0<(cK cl sg ow).length then [3,j,rS (cK cl sg ow)] else []
section
variable {P:Program} {w:World} {K:PySem.W.Frag} {mg:Str->Option Value} {base:Heap} {C CR CP CB CG CM:Addr}
def uT (CM:Addr):Sp:=fun vs H Q _=>∃ (d m dm wr s o:Addr) (cl sg ow:CL) (j:Int),vs=[.ref m,.ref d,.int j]/\H m=some (.ins CM dm (Bz s o wr))/\H d=some (.dT (aI cl))/\H s=some (.dT (aI sg))/\H o=some (.dT (aI ow))/\d≠s/\d≠o/\(∀ p,(aV sg p).isSome=true->(aV ow p).isSome=true)/\cl.length<20000/\
 ∀ (H':Hp) (l:Addr),aK H H'->H l=none->H' l=some (.lst ((vI cl sg ow j).map V.int))->Q (.ref l) H'
abbrev Iq:List Str:=["room","cells","j","hit","blocked","place"]
theorem nU:aP Iq ["room","cells","j"] (aH pJ):=⟨rfl,rfl,rfl,by decide+kernel,rfl,by decide+kernel,by decide+kernel⟩
theorem My {f:Addr} {fd:FuncData} (F:fD K "wrong_with" "wrong_with" pJ f fd) (TM:Tp K CM) (hlen:mg "len"=none) (hmin:mg "min"=none) (L1:dJ P w K mg base "blocked_lines" bS 2 ["cells","room"] (rA CM)):bO P w K mg base bS 3 f fd ["room","cells","j"] (uT CM):=by
 obtain ⟨g1,gd1,G1,b1,k1,h1⟩:=L1.ex
 refine F.ok nU (fun vs H Q E h=>?_) (fun cdv A outer s H vs Q E hr h=>?_)
 ·obtain ⟨d,m,dm,wr,s,o,cl,sg,ow,j,rfl,_⟩:=h
  rfl
 ·obtain ⟨d,m,dm,wr,s,o,cl,sg,ow,j,rfl,hm,hd,hs,ho,nds,ndo,sub,ln,k⟩:=h
  have hr2:=hr.mono (j:=2) (by decide)
  have hu:=jW hr
  have hsz:=fC
  refine ⟨_,aE (hG (wC (i:=3) (tt:=tB (aAk (eO 5) (Tm K (eO 0) "owners"))) (te:=Wi (Tm K (eO 0) "owners") (eO 5)) (own:=[("place",5)]) rfl nU.nd rfl rfl rfl (zX (pv 1)) (jO (N:=Iq) (sc:=aH pJ) (by decide+kernel))
     (fun _ _ _ _ _=>bH (i:=5) nU.nd rfl (Or.inl rfl)) (fun _ _ _ _ _=>Ts (dA (pC hu (pv 5) (aR (pv 0) rfl)))) (fun _ _ _ _ _=>iZ hu (aR (pv 0) rfl) (pv 5) (fun _ _=>rfl))))
   (aE (dS (dA (qT (bN bJ (by rfl) hlen PySem.boot_len (aA (pv 3) aF)) aJ)) (aG (aW (dL (aA aJ (aA (pv 2) (aA (bN (Ro rfl) (by rfl) hmin boot_min (aA (pv 3) aF)) aF)))))) bW)
   (aE (bA (i:=4) nU.nd rfl (Or.inl rfl) (aT G1 hr2 (by rfl) h1 k1 b1 .nil aY (aA (pv 1) (aA (pv 0) aF))))
   (aE (dS (dA (qT (bN bJ (by rfl) hlen PySem.boot_len (aA (pv 4) aF)) aJ)) (aG (aW (dL (aA aJ (aA (pv 2) (aA (bN (Ro rfl) (by rfl) hmin boot_min (aA (pv 4) aF)) aF)))))) bW)
   (aG (aW (dL aF)))))),?_⟩
  refine ⟨d,_,hd,trivial,fun od=>?_⟩
  have nmd:m≠d:=fun z=>by rw [z,hd] at hm;cases hm
  have hdL:upd H d (.frz od (.dT (aI cl))) d=some (.frz od (.dT (aI cl))):=aC
  have hoL:upd H d (.frz od (.dT (aI cl))) o=some (.dT (aI ow)):=by rw [aB (Ne.symm ndo)];exact ho
  have hmL:upd H d (.frz od (.dT (aI cl))) m=some (.ins CM dm (Bz s o wr)):=by rw [aB nmd];exact hm
  refine ⟨_,rfl,d,od,rfl,.inr ⟨aI cl,hdL,fun Dl hDl=>?_⟩⟩
  refine Ee (fun i H'=>aK (upd H d (.frz od (.dT (aI cl)))) H'/\H' Dl=some (.lst ((fW ow (cl.take i)).map V.int))) ⟨aK.new hDl,aC⟩ (fun i H' _ p=>p.1 _ _ hdL) ?_ ?_
  ·rintro i kk vv q H5 e5 ⟨S5,hD5⟩ hq
   obtain ⟨p,sv,e6,rfl,rfl⟩:=iC e5
   have hi:i<cl.length:=(List.getElem?_eq_some_iff.mp e6).1
   refine ⟨rfl,_,rfl,_,rfl,m,CM,dm,_,_,rfl,S5 _ _ hmL,TM.cl,TM.n2,rfl,o,_,rfl,wJ (p:=p) (S5 _ _ hoL) hq,_,rfl,bX (fun hin=>?_) (fun hin=>?_)⟩
   ·rw [Option.isSome_map] at hin
    obtain ⟨ov,eo⟩:=Option.isSome_iff_exists.mp hin
    refine ⟨_,rfl,m,CM,dm,_,_,rfl,S5 _ _ hmL,TM.cl,TM.n2,rfl,_,rfl,o,_,rfl,kQ (p:=p) (S5 _ _ hoL) hq eo,_,hD5,?_,fun b2 ob eb2=>?_,?_⟩
    ·rw [List.length_map]
     have:=Tj ow (cl.take i)
     rw [List.length_take] at this
     omega
    ·rw [aB (aD eb2 hDl)]
     exact S5 _ _ eb2
    ·rw [aC,Dm e6]
     show some (HO.lst _)=some (HO.lst ((fW ow (cl.take i)++(aV ow p).toList).map V.int))
     rw [eo,List.map_append]
     rfl
   ·refine ⟨S5,?_⟩
    rw [Option.isSome_map] at hin
    rw [Dm e6]
    show _=some (HO.lst ((fW ow (cl.take i)++(aV ow p).toList).map V.int))
    cases z:aV ow p with
    |none=>show _=some (HO.lst ((fW ow (cl.take i)++[]).map V.int));rw [List.append_nil];exact hD5
    |some y=>rw [z] at hin;exact absurd rfl hin
  ·rintro H5 ⟨S5,hD5⟩
   rw [gL,List.take_length] at hD5
   refine ⟨S5 _ _ hdL,?_⟩
   have S6:=iG hd S5
   have nDd:Dl≠d:=fun z=>by rw [z,hdL] at hDl;cases hDl
   have hDH:H Dl=none:=by rw [aB nDd] at hDl;exact hDl
   have hD6:upd H5 d (.dT (aI cl)) Dl=some (.lst ((fW ow cl).map V.int)):=by rw [aB nDd];exact hD5
   have hd6:upd H5 d (.dT (aI cl)) d=some (.dT (aI cl)):=aC
   generalize upd H5 d (.dT (aI cl))=H6 at S6 hD6 hd6
   unfold vI at k
   refine ⟨_,rfl,Dl,_,rfl,.inl (dB.of hD6),_,_,rfl,rfl,_,rfl,bX (fun hh=>?_) (fun hh=>?_)⟩
   ·have hh:(0:Int)<(((fW ow cl).map V.int).length:Int):=of_decide_eq_true hh
    rw [List.length_map] at hh
    have hh2:0<(fW ow cl).length:=by omega
    rw [if_pos hh2] at k
    refine ⟨_,rfl,_,rfl,Dl,_,rfl,dB.of hD6,hh2,fun mn hm1 hm2=>⟨by show 3<=sizeLine;decide,fun l hl=>?_⟩⟩
    refine k _ l (S6.trans (aK.new hl)) (S6.free hl) ?_
    rw [aC,<-Jf hm1 hm2]
    rfl
   ·have hh:¬(0:Int)<(((fW ow cl).map V.int).length:Int):=fun z=>hh (decide_eq_true z)
    rw [List.length_map] at hh
    have hh2:¬0<(fW ow cl).length:=by omega
    rw [if_neg hh2] at k
    refine ⟨_,rfl,_,rfl,d,m,dm,wr,s,o,cl,sg,ow,rfl,S6 _ _ hm,hd6,S6 _ _ hs,S6 _ _ ho,nds,ndo,sub,ln,fun H7 bl S7 hb6 hb7=>?_⟩
    have S67:=S6.trans S7
    refine ⟨_,rfl,bl,_,rfl,.inl (dB.of hb7),_,_,rfl,rfl,_,rfl,bX (fun hh=>?_) (fun hh=>?_)⟩
    ·have hh:(0:Int)<(((cK cl sg ow).map V.int).length:Int):=of_decide_eq_true hh
     rw [List.length_map] at hh
     have hh3:0<(cK cl sg ow).length:=by omega
     rw [if_pos hh3] at k
     refine ⟨_,rfl,_,rfl,bl,_,rfl,dB.of hb7,hh3,fun mn hm1 hm2=>⟨by show 3<=sizeLine;decide,fun l hl=>?_⟩⟩
     refine k _ l (S67.trans (aK.new hl)) (S67.free hl) ?_
     rw [aC,<-Jf hm1 hm2]
     rfl
    ·have hh:¬(0:Int)<(((cK cl sg ow).map V.int).length:Int):=fun z=>hh (decide_eq_true z)
     rw [List.length_map] at hh
     have hh3:¬0<(cK cl sg ow).length:=by omega
     rw [if_neg hh3] at k
     exact ⟨Nat.zero_le _,fun l hl=>k _ l (S67.trans (aK.new hl)) (S67.free hl) aC⟩
end
theorem Fk {prs:List aN} (ok:∀ pr∈prs,eF pr) {x:List Nat} (hx:Eh prs.length x):Jc prs (Ws x)=kM (tQ prs x) (eB x 2) (eB x 3) (eB x 4):=by
 rw [<-Nf ok hx.2]
 obtain ⟨a0,a1,a2,a3,a4,a5,rfl⟩:=six hx.1
 show nS prs ((a0:Int).toNat) ((a5:Int).toNat) a2 a3 a4=nS prs a0 a5 a2 a3 a4
 rw [Int.toNat_natCast,Int.toNat_natCast]
theorem Vq {prs:List aN} {ls:List (List Nat)} {j:Nat} {x:List Nat} (e:ls[j]?=some x):gN prs (ls.take (j+1))=gN prs (ls.take j)++[(Br.Line.shape (prs.map dD) (jN x),cP prs x)]:=by
 unfold gN
 rw [List.take_succ,e,List.map_append]
 rfl
theorem Rz {prs:List aN} {ls:List (List Nat)}:(gN prs ls).length=ls.length:=List.length_map _
def Gf (CM:Addr) (H:Hp) (m:Addr) (prs:List aN) (ls:List (List Nat)):Prop:=∃ (dm s o wr:Addr) (sg ow:CL),H m=some (.ins CM dm (Bz s o wr))/\H wr=some (.lst ((cM prs 0 [] [] ls).map V.int))/\H s=some (.dT (aI sg))/\H o=some (.dT (aI ow))/\s≠o/\
 (cM prs 0 [] [] ls=[]->sg=xJ (gN prs ls)/\ow=xM (gN prs ls))/\sg.length<=5120000/\ow.length<=5120000
structure FW (CM:Addr) (H:Hp) (m dm s o:Addr) (prs:List aN) (ls:List (List Nat)) (j:Nat) (sg ow:CL) (H':Hp):Prop where
 sm:aK H H'
 hm:∃ wr,H' m=some (.ins CM dm (Bz s o wr))/\H' wr=some (.lst [])
 hs:H' s=some (.dT (aI sg))
 ho:H' o=some (.dT (aI ow))
 sub:∀ p,(aV sg p).isSome=true->(aV ow p).isSome=true
 l1:sg.length<=j * 20000
 l2:ow.length<=j * 20000
 er:cM prs 0 [] [] ls=cM prs j sg ow (ls.drop j)
 eg:sg=xJ (gN prs (ls.take j))
 eo:ow=xM (gN prs (ls.take j))
theorem FW.same {CM:Addr} {H:Hp} {m dm s o:Addr} {prs:List aN} {ls:List (List Nat)} {j:Nat} {sg ow:CL} {H1 H2:Hp} (f:FW CM H m dm s o prs ls j sg ow H1) (S:aK H1 H2):FW CM H m dm s o prs ls j sg ow H2:=by
 obtain ⟨wr,h1,h2⟩:=f.hm
 exact ⟨f.sm.trans S,⟨wr,S _ _ h1,S _ _ h2⟩,S _ _ f.hs,S _ _ f.ho,f.sub,f.l1,f.l2,f.er,f.eg,f.eo⟩
theorem Vn {K:PySem.W.Frag} {ta tv:TE} {f:Str} {B:TS} {D:fT} {σ:List (Option V)} {H:Hp} (M:V->Hp->Prop) (h1:∀ Q:VK,(∀ y H',M y H'->Q y H')->tv σ H Q) (h2:∀ y H',M y H'->Zu K ta (tC y) f {D with nx:=B D} σ H'):Fh (Zu K ta tv f) B D σ H:=h1 _ h2
section
variable {P:Program} {w:World} {K:PySem.W.Frag} {mg:Str->Option Value} {base:Heap} {C CR CP CB CG CM:Addr}
def Fs (K:PySem.W.Frag) (CP CM:Addr):Sp:=fun vs H Q _=>∃ (pa la:Addr) (bs ts:List Addr) (prs:List aN) (ls:List (List Nat)),vs=[.ref pa,.ref la]/\H pa=some (.lst (bs.map V.ref))/\dZ CP H bs prs/\H la=some (.lst (ts.map V.ref))/\nM H ts ls/\
 (∀ pr∈prs,eF pr)/\(∀ x∈ls,Eh prs.length x/\eB x 5<=3)/\ls.length<=256/\∀ (H':Hp) (m:Addr),aK H H'->H m=none->Gf CM H' m prs ls->Q (.ref m) H'
abbrev aBo:List Str:=["parts","lines","room","j","put","cells","place","sign"]
theorem kU:aP aBo ["parts","lines"] (aH Js):=⟨rfl,rfl,rfl,by decide+kernel,rfl,by decide+kernel,by decide+kernel⟩
theorem Vi {f:Addr} {fd:FuncData} (F:fD K "fill_room" "fill_room" Js f fd) (TM:Tp K CM) (RM:RmM P w K mg base CM) (hlen:mg "len"=none) (henum:mg "enumerate"=none) (L1:dJ P w K mg base "cells_in_room" bS 5 ["parts","put"] (Hx K CP))
  (L2:dJ P w K mg base "leaves_room" bS 2 ["parts","put"] (pO K CP)) (L3:dJ P w K mg base "wrong_with" bS 3 ["room","cells","j"] (uT CM)):bO P w K mg base bS 6 f fd ["parts","lines"] (Fs K CP CM):=by
 obtain ⟨g1,gd1,G1,b1,k1,h1⟩:=L1.ex
 obtain ⟨g2,gd2,G2,b2,k2,h2⟩:=L2.ex
 obtain ⟨g3,gd3,G3,b3,k3,h3⟩:=L3.ex
 obtain ⟨fm,fmd,MM,GM,bM⟩:=RM.ex
 refine F.ok kU (fun vs H Q E h=>?_) (fun cdv A outer s H vs Q E hr h=>?_)
 ·obtain ⟨pa,la,bs,ts,prs,ls,rfl,_⟩:=h
  rfl
 ·obtain ⟨pa,la,bs,ts,prs,ls,rfl,hpa,hps,hla,hls,hok,hln,h256,k⟩:=h
  have hr2:=hr.mono (j:=2) (by decide)
  have hr3:=hr.mono (j:=3) (by decide)
  have hu:=jW hr
  have hsz:=fC
  refine ⟨_,aE (bA (i:=2) kU.nd rfl (Or.inl rfl) (Qk MM GM hr2 (by rfl) RM.mg bM .nil aY))
   (aE (eA PassesOwn.never rfl (Ut (by rfl) henum (aA (pv 1) aF)) (lB rfl (cI (bH (i:=3) kU.nd rfl (Or.inl rfl)) (cI (bH (i:=4) kU.nd rfl (Or.inl rfl)) hX)))
    (aE (bA (i:=5) kU.nd rfl (Or.inl rfl) (aT G1 hr (by rfl) h1 k1 b1 .nil aY (aA (pv 0) (aA (pv 4) aF))))
    (aE (dQ (pv 2) (Rf (dW (aT G2 hr2 (by rfl) h2 k2 b2 .nil aY (aA (pv 0) (aA (pv 4) aF)))) (dL (aA aJ (aA (pv 3) (aA (pv 3) aF)))) (aT G3 hr3 (by rfl) h3 k3 b3 .nil aY (aA (pv 2) (aA (pv 5) (aA (pv 3) aF))))) rfl)
    (aE (dS (dA (qT (bN bJ (by rfl) hlen PySem.boot_len (aA (aR (pv 2) rfl) aF)) aJ)) (aG (aW (pv 2))) bW)
    (aG (hG (eA PassesOwn.never rfl (iD (pv 5)) (lB rfl (cI (bH (i:=6) kU.nd rfl (Or.inl rfl)) (cI (bH (i:=7) kU.nd rfl (Or.inl rfl)) hX)))
     (aE (lI hu (aR (pv 2) rfl) (pv 6) (pv 7) rfl) (aG (lI hu (aR (pv 2) rfl) (pv 6) (pv 3) rfl))))))))))
   (aG (aW (pv 2)))),?_⟩
  intro m dm hmH hdmH hne
  refine ⟨m,dm,rfl,aC,fun H1 s0 o0 wr0 hm1 hs1 ho1 hw1 fs fo fw0 nso sx=>⟨rfl,?_⟩⟩
  have S1:aK H H1:=fun y o e=>sx y o (by rw [aB (aD e hmH),aB (aD e hdmH)];exact e) (aD e hmH)
  have nsm:s0≠m:=fun z=>by rw [z,aC] at fs;cases fs
  have nom:o0≠m:=fun z=>by rw [z,aC] at fo;cases fo
  have nsd:s0≠dm:=fun z=>by rw [z,aB hne,aC] at fs;cases fs
  have nod:o0≠dm:=fun z=>by rw [z,aB hne,aC] at fo;cases fo
  have hsH:H s0=none:=by rw [aB nsm,aB nsd] at fs;exact fs
  have hoH:H o0=none:=by rw [aB nom,aB nod] at fo;exact fo
  have hl2:ts.length=ls.length:=Paired.length hls
  refine ⟨_,rfl,la,_,rfl,dB.of (S1 _ _ hla),?_⟩
  refine Kx (xs:=ts.map V.ref) (fun j σ H'=>∃ sg ow v3 v4 v5 v6 v7,σ=[some (.ref pa),some (.ref la),some (.ref m),v3,v4,v5,v6,v7]/\FW CM H m dm s0 o0 prs ls j sg ow H')
   ⟨[],[],none,none,none,none,none,rfl,S1,⟨wr0,hm1,hw1⟩,hs1,ho1,fun p z=>(by cases z),(by simp),(by simp),rfl,rfl,rfl⟩ ?_ ?_ ?_
  ·rintro i σ H2 hi ⟨sg,ow,v3,v4,v5,v6,v7,rfl,fw⟩
   exact dB.of (fw.sm _ _ hla)
  ·rintro j xv σ H2 T ex ⟨sg,ow,v3,v4,v5,v6,v7,rfl,fw⟩ hT
   have hj:j<ls.length:=by
    have:=(List.getElem?_eq_some_iff.mp ex).1
    rwa [List.length_map,hl2] at this
   obtain ⟨x,elx⟩:∃ x,ls[j]?=some x:=⟨_,List.getElem?_eq_getElem hj⟩
   obtain ⟨t,et,ht,hx6⟩:=cX hls elx
   rw [List.getElem?_map,et] at ex
   cases ex
   obtain ⟨hx0,hx5⟩:=hln x (List.mem_of_getElem? elx)
   have edrop:ls.drop j=x::ls.drop (j+1):=by
    obtain ⟨h0,h1⟩:=List.getElem?_eq_some_iff.mp elx
    rw [List.drop_eq_getElem_cons h0,h1]
   have er:=fw.er
   rw [edrop,cM] at er
   have ezs:=Vq (prs:=prs) elx
   have etk:(ls.take j).length=j:=by rw [List.length_take];omega
   obtain ⟨sr,_⟩:=qS hok hx0.2
   have clnd:=sr.nd
   have ST:=aK.new (o:=.tup [.int (j:Nat),.ref t]) hT
   refine ⟨T,_,rfl,cN.of aC,rfl,_,_,rfl,_,_,rfl,rfl,?_⟩
   have fw3:=fw.same ST
   generalize upd H2 T (.tup [.int (j:Nat),.ref t])=H3 at fw3
   have hps3:dZ CP H3 bs prs:=Paired.mapP hps fun _ _ z=>⟨z.1.same fw3.sm,z.2⟩
   refine ⟨_,rfl,_,rfl,pa,t,bs,prs,x,rfl,dB.of (fw3.sm _ _ hpa),hps3,hok,fw3.sm _ _ ht,hx0,hx5,fun H4 d S4 hd3 hd4=>?_⟩
   have fw4:=fw3.same S4
   have nds:d≠s0:=fun z=>by rw [z,fw3.hs] at hd3;cases hd3
   have ndo:d≠o0:=fun z=>by rw [z,fw3.ho] at hd3;cases hd3
   have clln:(cP prs x).length<20000:=by
    obtain ⟨pr,epr⟩:∃ pr,prs[eB x 0]?=some pr:=⟨_,List.getElem?_eq_getElem hx0.2⟩
    obtain ⟨b,eb,hbp,hbo⟩:=cX hps epr
    have tok:tR (uV pr):=⟨(Vc (hok pr (List.mem_of_getElem? epr))).nd,hbo.len⟩
    have etp:tQ prs x=gC (uV pr) (eB x 5):=by
     unfold tQ
     rw [epr]
     rfl
    unfold cP Cn
    rw [List.length_map,etp]
    exact (tok.turns _).ln
   have hlv:=Fk hok hx0
   generalize cP prs x=cl at er hd4 clnd clln ezs
   have hps4:dZ CP H4 bs prs:=Paired.mapP hps fun _ _ z=>⟨z.1.same fw4.sm,z.2⟩
   obtain ⟨wr,hm4,hwr4⟩:=fw4.hm
   have nmd:m≠d:=fun z=>by rw [z,hd4] at hm4;cases hm4
   refine Wz ?_
   dsimp only
   refine Vn (fun y H5=>∃ (l:Addr) (ws:List Int),y=.ref l/\aK H4 H5/\H4 l=none/\H5 l=some (.lst (ws.map V.int))/\(0<ws.length->cM prs 0 [] [] ls=ws)/\(ws=[]->cM prs 0 [] [] ls=cM prs (j+1) (sg++cl) (ow++cl.map fun c=>(c.1,(j:Int))) (ls.drop (j+1))/\¬0<(fW ow cl).length)) (fun Q2 nxt=>?_) ?_
   ·have hput:aBg H4 t (Ws x):=⟨by rw [<-Za];exact fw4.sm _ _ ht,by unfold Ws;rw [List.length_map];exact hx6⟩
    have hy0:iN (Ws x) 0=(eB x 0:Int):=by
     obtain ⟨a0,a1,a2,a3,a4,a5,rfl⟩:=six hx6
     rfl
    have hy5:iN (Ws x) 5=(eB x 5:Int):=by
     obtain ⟨a0,a1,a2,a3,a4,a5,rfl⟩:=six hx6
     rfl
    refine ⟨_,rfl,_,rfl,pa,t,bs,prs,Ws x,rfl,dB.of (fw4.sm _ _ hpa),hps4,hput,by rw [hy0];omega,by rw [hy0,Int.toNat_natCast];exact hx0.2,by rw [hy5];omega,fun H5 S5=>⟨_,rfl,bX (fun hl=>?_) (fun hl=>?_)⟩⟩
    ·rw [hlv] at hl
     rw [if_pos hl] at er
     refine ⟨_,rfl,_,rfl,by show 3<=sizeLine;decide,fun l hl=>nxt _ _ ⟨l,[1,(j:Int),(j:Int)],rfl,S5.trans (aK.new hl),S5.free hl,aC,fun _=>er,fun z=>(by cases z)⟩⟩
    ·rw [hlv] at hl
     rw [if_neg hl] at er
     refine ⟨_,rfl,_,rfl,_,rfl,d,m,dm,wr,s0,o0,cl,sg,ow,(j:Int),rfl,S5 _ _ hm4,S5 _ _ hd4,S5 _ _ fw4.hs,S5 _ _ fw4.ho,nds,ndo,fw.sub,clln,fun H6 l S6 hlf hl6=>nxt _ _ ⟨l,vI cl sg ow (j:Int),rfl,S5.trans S6,S5.free hlf,hl6,fun hw=>?_,fun hw=>?_⟩⟩
     ·unfold vI at hw ⊢
      by_cases hh:0<(fW ow cl).length
      ·rw [if_pos hh] at er ⊢
       exact er
      ·rw [if_neg hh] at er hw ⊢
       by_cases hb:0<(cK cl sg ow).length
       ·rw [if_pos hb] at er ⊢
        exact er
       ·rw [if_neg hb] at hw
        cases hw
     ·unfold vI at hw
      by_cases hh:0<(fW ow cl).length
      ·rw [if_pos hh] at hw
       cases hw
      ·rw [if_neg hh] at er hw
       by_cases hb:0<(cK cl sg ow).length
       ·rw [if_pos hb] at hw
        cases hw
       ·rw [if_neg hb] at er
        exact ⟨er,hh⟩
   ·rintro y H5 ⟨l,ws,rfl,S5,hlf,hl5,ew1,ew2⟩
    have nlm:l≠m:=fun z=>by rw [z,hm4] at hlf;cases hlf
    refine ⟨_,rfl,m,CM,dm,_,rfl,S5 _ _ hm4,TM.cl,TM.n3,(by show 3<1000;decide),?_⟩
    have hm6:upd H5 m (.ins CM dm (Bz s0 o0 l)) m=some (.ins CM dm (Bz s0 o0 l)):=aC
    have hl6:upd H5 m (.ins CM dm (Bz s0 o0 l)) l=some (.lst (ws.map V.int)):=by rw [aB nlm];exact hl5
    have S6:∀ y o,H4 y=some o->y≠m->upd H5 m (.ins CM dm (Bz s0 o0 l)) y=some o:=fun y o e n=>by rw [aB n];exact S5 _ _ e
    have S6H:aK H (upd H5 m (.ins CM dm (Bz s0 o0 l))):=fun y o e=>S6 y o (fw4.sm _ _ e) (aD e hmH)
    have nsm':s0≠m:=nsm
    have hs6:=S6 _ _ fw4.hs nsm
    have ho6:=S6 _ _ fw4.ho nom
    have hd6:=S6 _ _ hd4 (Ne.symm nmd)
    show Fh _ _ _ _ (upd H5 m (.ins CM dm (Bz s0 o0 l)))
    generalize upd H5 m (.ins CM dm (Bz s0 o0 l))=H6 at hm6 hl6 S6H hs6 ho6 hd6
    refine ⟨_,rfl,m,CM,dm,_,_,rfl,hm6,TM.cl,TM.n3,rfl,l,_,rfl,.inl (dB.of hl6),_,_,rfl,rfl,_,rfl,bX (fun hh=>?_) (fun hh=>?_)⟩
    ·have hh:(0:Int)<((ws.map V.int).length:Int):=of_decide_eq_true hh
     rw [List.length_map] at hh
     have e1:=ew1 (by omega)
     refine ⟨_,rfl,k _ m S6H hmH ⟨dm,s0,o0,l,sg,ow,hm6,by rw [e1];exact hl6,hs6,ho6,nso,fun z=>?_,by have:=fw.l1;omega,by have:=fw.l2;omega⟩⟩
     rw [e1] at z
     rw [z] at hh
     cases hh
    ·have hh:¬(0:Int)<((ws.map V.int).length:Int):=fun z=>hh (decide_eq_true z)
     rw [List.length_map] at hh
     have ews:ws=[]:=List.eq_nil_of_length_eq_zero (by omega)
     obtain ⟨er2,hh2⟩:=ew2 ews
     subst ews
     have frO:=Px hh2
     have frS:∀ c∈cl,aV sg c.1=none:=fun c hc=>by
      cases z:aV sg c.1 with
      |none=>rfl
      |some y=>
       have:=fw.sub c.1 (by rw [z];rfl)
       rw [frO c hc] at this
       cases this
     refine ⟨d,_,hd6,trivial,fun od2=>?_⟩
     have hdM:upd H6 d (.frz od2 (.dT (aI cl))) d=some (.frz od2 (.dT (aI cl))):=aC
     have hsM:upd H6 d (.frz od2 (.dT (aI cl))) s0=some (.dT (aI sg)):=by rw [aB (Ne.symm nds)];exact hs6
     have hoM:upd H6 d (.frz od2 (.dT (aI cl))) o0=some (.dT (aI ow)):=by rw [aB (Ne.symm ndo)];exact ho6
     have hmM:upd H6 d (.frz od2 (.dT (aI cl))) m=some (.ins CM dm (Bz s0 o0 l)):=by rw [aB nmd];exact hm6
     refine ⟨_,rfl,d,od2,_,rfl,hdM,?_⟩
     refine gH (fun i σ H'=>∃ v6 v7,σ=[some (.ref pa),some (.ref la),some (.ref m),some (.int (j:Nat)),some (.ref t),some (.ref d),v6,v7]/\(∀ y ob,upd H6 d (.frz od2 (.dT (aI cl))) y=some ob->y≠s0->y≠o0->H' y=some ob)/\H' s0=some (.dT (aI (sg++(cl.take i).map id)))/\H' o0=some (.dT (aI (ow++Ek j (cl.take i)))))
      ⟨_,_,rfl,fun y ob ey _ _=>ey,by simpa using hsM,by simpa [Ek] using hoM⟩ ?_ ?_ ?_
     ·rintro i σ H8 hi ⟨v6,v7,rfl,S8,_⟩
      exact S8 _ _ hdM nds ndo
     ·rintro i σ H8 T8 kk vv q e8 ⟨v6,v7,rfl,S8,hs8,ho8⟩ hT8 hq
      obtain ⟨p,sv,e9,rfl,rfl⟩:=iC e8
      have hi:i<cl.length:=(List.getElem?_eq_some_iff.mp e9).1
      have ST8:=aK.new (o:=.tup [.ref q,.int sv]) hT8
      refine ⟨T8,_,rfl,cN.of aC,rfl,_,_,rfl,_,_,rfl,rfl,?_⟩
      have hq9:=ST8 _ _ hq
      have hs9:=ST8 _ _ hs8
      have ho9:=ST8 _ _ ho8
      have hm9:=ST8 _ _ (S8 _ _ hmM (Ne.symm nsm) (Ne.symm nom))
      generalize upd H8 T8 (.tup [.ref q,.int sv])=H9 at ST8 hq9 hs9 ho9 hm9
      have nqs:q≠s0:=fun z=>by rw [z,hs9] at hq9;cases hq9
      have hj2:j<=256:=by omega
      have hl1:=fw.l1
      have hl2':=fw.l2
      refine ⟨_,rfl,_,rfl,m,CM,dm,_,_,rfl,hm9,TM.cl,TM.n1,rfl,_,rfl,s0,_,rfl,xG.t (k:=eG p.1 p.2.1 p.2.2) hs9 hq9 (by rw [gL,List.length_append,List.length_map,List.length_take];omega),?_⟩
      have ps:=Iz (dct:=sg) id (fun _=>rfl) clnd frS e9 (v:=sv) rfl
      rw [ps]
      have ho10:upd H9 s0 (.dT (aI (sg++(cl.take (i+1)).map id))) o0=some (.dT (aI (ow++Ek j (cl.take i)))):=by rw [aB (Ne.symm nso)];exact ho9
      have hq10:upd H9 s0 (.dT (aI (sg++(cl.take (i+1)).map id))) q=some (.tup ((eG p.1 p.2.1 p.2.2).map kV)):=by rw [aB nqs];exact hq9
      have hm10:upd H9 s0 (.dT (aI (sg++(cl.take (i+1)).map id))) m=some (.ins CM dm (Bz s0 o0 l)):=by rw [aB (Ne.symm nsm)];exact hm9
      refine ⟨_,rfl,_,rfl,m,CM,dm,_,_,rfl,hm10,TM.cl,TM.n2,rfl,_,rfl,o0,_,rfl,xG.t (k:=eG p.1 p.2.1 p.2.2) ho10 hq10 (by unfold Ek;rw [gL,List.length_append,List.length_map,List.length_take];omega),?_⟩
      have po:=Iz (dct:=ow) (fun c=>(c.1,(j:Int))) (fun _=>rfl) clnd frO e9 (v:=(j:Int)) rfl
      have po:jJ (aI (ow++Ek j (cl.take i))) (eG p.1 p.2.1 p.2.2) (V.int (j:Int))=aI (ow++Ek j (cl.take (i+1))):=po
      refine ⟨_,_,rfl,fun y ob ey n1 n2=>?_,?_,?_⟩
      ·rw [aB n2,aB n1]
       exact ST8 _ _ (S8 _ _ ey n1 n2)
      ·rw [aB nso,aC]
      ·rw [aC]
       exact congrArg (fun z=>some (HO.dT z)) po
     ·rintro σ H8 ⟨v6,v7,rfl,S8,hs8,ho8⟩
      rw [gL,List.take_length] at hs8 ho8
      rw [List.map_id] at hs8
      refine ⟨S8 _ _ hdM nds ndo,?_⟩
      have e9:((j+1) * 20000)=j * 20000+20000:=by omega
      have hl1:=fw.l1
      have hl2':=fw.l2
      have nls:l≠s0:=fun z=>by rw [z,fw4.hs] at hlf;cases hlf
      have nlo:l≠o0:=fun z=>by rw [z,fw4.ho] at hlf;cases hlf
      have nld:l≠d:=fun z=>by rw [z,hd4] at hlf;cases hlf
      refine ⟨sg++cl,ow++Ek j cl,_,_,_,_,_,rfl,fun y ob ey=>?_,⟨l,?_,?_⟩,?_,?_,fun p hp=>?_,?_,?_,?_,?_,?_⟩
      ·have n1:y≠s0:=aD ey hsH
       have n2:y≠o0:=aD ey hoH
       have h7:=S6H _ _ ey
       by_cases hy:y=d
       ·rw [hy] at h7 ⊢
        rw [aC,<-h7,hd6]
       ·rw [aB hy]
        exact S8 _ _ (by rw [aB hy];exact h7) n1 n2
      ·rw [aB nmd]
       exact S8 _ _ hmM (Ne.symm nsm) (Ne.symm nom)
      ·rw [aB nld]
       exact S8 _ _ (by rw [aB nld];exact hl6) nls nlo
      ·rw [aB (Ne.symm nds)]
       exact hs8
      ·rw [aB (Ne.symm ndo)]
       exact ho8
      ·rw [dG] at hp ⊢
       obtain ⟨c,hc,e⟩:=hp
       rcases List.mem_append.mp hc with hc|hc
       ·obtain ⟨c2,hc2,e2⟩:=dG.mp (fw.sub p (dG.mpr ⟨c,hc,e⟩))
        exact ⟨c2,List.mem_append_left _ hc2,e2⟩
       ·exact ⟨(c.1,(j:Int)),List.mem_append_right _ (List.mem_map.mpr ⟨c,hc,rfl⟩),e⟩
      ·rw [List.length_append]
       omega
      ·unfold Ek
       rw [List.length_append,List.length_map]
       omega
      ·exact er2
      ·rw [ezs,uW,<-fw.eg]
      ·rw [ezs,wY,<-fw.eo,Rz,etk]
       rfl
  ·rintro σ H2 ⟨sg,ow,v3,v4,v5,v6,v7,rfl,fw⟩
   have er:=fw.er
   rw [List.length_map,hl2,List.drop_length] at er
   have er:cM prs 0 [] [] ls=[]:=er
   have eg:=fw.eg
   have eo:=fw.eo
   rw [List.length_map,hl2,List.take_length] at eg eo
   have l1:=fw.l1
   have l2:=fw.l2
   rw [List.length_map,hl2] at l1 l2
   obtain ⟨wr,e1,e2⟩:=fw.hm
   exact ⟨_,rfl,k _ m fw.sm hmH ⟨dm,s0,o0,wr,sg,ow,e1,by rw [er];exact e2,fw.hs,fw.ho,nso,fun _=>⟨eg,eo⟩,by omega,by omega⟩⟩
end
theorem Jt {l:List Int}:∀ {ms:List Nat} {p:Nat} {r:List Nat×Nat},cO l ms p=.ok r->∀ (i v m:Nat),r.1[i]?=some v->ms[i]?=some m->v<=m
 |[],p,r,h=>by
  intro i v m h1 h2
  simp at h2
 |m0::ms,p,r,h=>by
  rw [cO] at h
  obtain ⟨p1,_,h⟩:=aL h
  obtain ⟨u,eu,h⟩:=aL h
  obtain ⟨q,eq,rfl⟩:=fN h
  intro i v m h1 h2
  cases i with
  |zero=>
   cases h1
   cases h2
   exact (lJ (lo:=0) eu).2
  |succ i=>exact Jt eq i v m h1 h2
theorem Mp {nss:List (List Int)} {l:List Int} {p:Nat} {q:List Nat×Nat} (h:eL nss l p=.ok q):eB q.1 5<=3:=by
 unfold eL at h
 obtain ⟨p1,_,h⟩:=aL h
 obtain ⟨n,en,h⟩:=aL h
 obtain ⟨r,er,h⟩:=aL h
 obtain ⟨_,_,h⟩:=aL h
 cases h
 have hl:=wQ (r:=r) er
 have hl:r.1.length=5:=hl
 have e:r.1[4]?=some r.1[4]:=List.getElem?_eq_getElem (by omega)
 have:=Jt er 4 r.1[4] 3 e rfl
 show (n.1::r.1).getD 5 0<=3
 rw [List.getD_eq_getElem?_getD]
 show (r.1[4]?).getD 0<=3
 rw [e]
 exact this
theorem vX {nss:List (List Int)} {l:List Int}:∀ {n p:Nat} {q:List (List Nat)×Nat},cD nss l n p=.ok q->∀ x∈q.1,eB x 5<=3
 |0,p,q,h=>by cases h;intro x hx;cases hx
 |n+1,p,q,h=>by
  rw [cD] at h
  split at h
  ·cases h;intro x hx;cases hx
  ·obtain ⟨q1,e1,h⟩:=aL h
   obtain ⟨q2,e2,rfl⟩:=fN h
   intro x hx
   rcases List.mem_cons.mp hx with rfl|hx
   ·exact Mp e1
   ·exact vX e2 x hx
theorem Ih {lc lb:List Int} {prs:List aN} {nm:List Int} {ls:List (List Nat)} (h:cY lc lb=.ok prs nm ls):gS lc=.ok prs/\dH (prs.map (·.name)) lb=.ok (nm,ls):=by
 unfold cY at h
 split at h
 ·cases h
 ·split at h
  ·cases h
  ·rename_i e1
   split at h
   ·split at h
    ·cases h
    ·rename_i e
     cases h
     exact ⟨e1,e⟩
   ·cases h
theorem Cc {lc lb:List Int} {prs:List aN} {nm:List Int} {ls:List (List Nat)} (h:cY lc lb=.ok prs nm ls):∀ x∈ls,eB x 5<=3:=by
 have h:=(Ih h).2
 unfold dH at h
 obtain ⟨_,_,h⟩:=aL h
 obtain ⟨_,_,h⟩:=aL h
 obtain ⟨_,_,h⟩:=aL h
 obtain ⟨r,er,h⟩:=aL h
 split at h
 ·cases h;exact vX er
 ·cases h
def Wx (CG CP CB CM:Addr) (H:Hp) (g:Addr):Vb->Prop
 |.no n=>∃ dx pa,H g=some (.ins CG dx (Fd n 0 pa .non .non))
 |.bad i=>∃ dx pa,H g=some (.ins CG dx (Fd (-5) i pa .non .non))
 |.ok prs nm ls=>∃ dx pa q m bs,H g=some (.ins CG dx (Fd (if cM prs 0 [] [] ls=[] then 0 else -9) 0 pa (.ref q) (.ref m)))/\H pa=some (.lst (bs.map V.ref))/\dZ CP H bs prs/\vK CB H q nm ls/\Gf CM H m prs ls/\prs.length<=64
section
variable {P:Program} {w:World} {K:PySem.W.Frag} {mg:Str->Option Value} {base:Heap} {C CR CP CB CG CM:Addr}
def wS (K:PySem.W.Frag) (CG CP CB CM:Addr):Sp:=fun vs H Q _=>∃ (c b:Addr) (lc lb:List Int),vs=[.ref c,.ref b]/\dB K H c (lc.map V.int)/\dB K H b (lb.map V.int)/\∀ (H':Hp) (g:Addr),aK H H'->H g=none->Wx CG CP CB CM H' g (cY lc lb)->Q (.ref g) H'
theorem pS:aP ["c","b","given"] ["c","b"] (aH lG):=⟨rfl,rfl,rfl,by decide+kernel,rfl,by decide+kernel,by decide+kernel⟩
theorem Au {f:Addr} {fd:FuncData} (F:fD K "read_right" "read_right" lG f fd) (TG:GvT K CG) (TB:BdT K CB) (TM:Tp K CM) (hlen:mg "len"=none) (L1:dJ P w K mg base "read_given" bS 9 ["c","b"] (Ax K CG CP CB)) (L2:dJ P w K mg base "fill_room" bS 6 ["parts","lines"] (Fs K CP CM)):bO P w K mg base bS 10 f fd ["c","b"] (wS K CG CP CB CM):=by
 obtain ⟨g1,gd1,G1,b1,k1,h1⟩:=L1.ex
 obtain ⟨g2,gd2,G2,b2,k2,h2⟩:=L2.ex
 refine F.ok pS (fun vs H Q E h=>?_) (fun cdv A outer s H vs Q E hr h=>?_)
 ·obtain ⟨c,b,lc,lb,rfl,_⟩:=h
  rfl
 ·obtain ⟨c,b,lc,lb,rfl,hc,hb,k⟩:=h
  have hr6:=hr.mono (j:=6) (by decide)
  refine ⟨_,aE (bA (i:=2) pS.nd rfl (Or.inl rfl) (aT G1 hr (by rfl) h1 k1 b1 .nil aY (aA (pv 0) (aA (pv 1) aF))))
   (aE (dS (hJ qR (aR (pv 2) rfl) aJ (gR _))
    (aE (dQ (pv 2) (aT G2 hr6 (by rfl) h2 k2 b2 .nil aY (aA (aR (pv 2) rfl) (aA (aR (aR (pv 2) rfl) rfl) aF))) rfl)
    (aG (dS (dA (qT (bN bJ (by rfl) hlen PySem.boot_len (aA (aR (aR (pv 2) rfl) rfl) aF)) aJ)) (aG (dQ (pv 2) (zQ rZ aJ) rfl)) bW))) bW)
   (aG (aW (pv 2)))),?_⟩
  refine ⟨_,rfl,_,rfl,c,b,lc,lb,rfl,hc,hb,fun H1 g S1 hgH hg=>?_⟩
  cases eg:cY lc lb with
  |no n=>
   rw [eg] at k hg
   obtain ⟨dx,pa,hg⟩:=hg
   have hn:=Qo eg
   refine ⟨_,rfl,g,CG,dx,_,_,rfl,hg,TG.cl,TG.n1,rfl,rfl,_,rfl,bX (fun e=>?_) (fun e=>?_)⟩
   ·rw [gT] at e
    have:=of_decide_eq_true e
    omega
   ·exact ⟨_,rfl,k _ g S1 hgH ⟨dx,pa,hg⟩⟩
  |bad i=>
   rw [eg] at k hg
   obtain ⟨dx,pa,hg⟩:=hg
   refine ⟨_,rfl,g,CG,dx,_,_,rfl,hg,TG.cl,TG.n1,rfl,rfl,_,rfl,bX (fun e=>?_) (fun e=>?_)⟩
   ·rw [gT] at e
    exact absurd (of_decide_eq_true e) (by decide)
   ·exact ⟨_,rfl,k _ g S1 hgH ⟨dx,pa,hg⟩⟩
  |ok prs nm ls=>
   rw [eg] at k hg
   obtain ⟨dx,pa,q,bs,hg,hpa,hps,hbd,hp1,hp64⟩:=hg
   obtain ⟨dxb,na,la,ts,hq,hna,hla,hls,h256,hn16⟩:=id hbd
   have six:=Bx eg
   have trn:=Cc eg
   refine ⟨_,rfl,g,CG,dx,_,_,rfl,hg,TG.cl,TG.n1,rfl,rfl,_,rfl,bX (fun e=>?_) (fun e=>absurd (by decide) e)⟩
   refine ⟨_,rfl,g,CG,dx,_,_,rfl,hg,TG.cl,TG.n3,rfl,_,rfl,g,CG,dx,_,_,rfl,hg,TG.cl,TG.n4,rfl,q,CB,dxb,_,_,rfl,hq,TB.cl,TB.n2,rfl,pa,la,bs,ts,prs,ls,rfl,hpa,hps,hla,hls,Ru (Ih eg).1,fun x hx=>⟨six x hx,trn x hx⟩,h256,fun H2 m S2 hm1 hrm=>?_⟩
   have S12:=S1.trans S2
   obtain ⟨dm,s0,o0,wr,sg,ow,r1,r2,r3,r4,r5⟩:=id hrm
   have ngm:m≠g:=fun z=>by rw [z,hg] at hm1;cases hm1
   have hg2:=S2 _ _ hg
   refine ⟨_,rfl,g,CG,dx,_,rfl,hg2,TG.cl,TG.n5,(by show 5<1000;decide),?_⟩
   have keep:∀ (rf:Int) (bv:V),(∀ y o,H y=some o->upd H2 g (.ins CG dx (Fd rf 0 pa (.ref q) bv)) y=some o):=fun rf bv y o e=>by
    rw [aB (aD e hgH)]
    exact S12 _ _ e
   have oth:∀ (rf:Int) {y:Addr} {o:HO},y≠g->H2 y=some o->upd H2 g (.ins CG dx (Fd rf 0 pa (.ref q) (.ref m))) y=some o:=fun rf y o n e=>by rw [aB n];exact e
   have fin:∀ (rf:Int) (H3:Hp),rf=(if cM prs 0 [] [] ls=[] then 0 else -9)->H3=upd H2 g (.ins CG dx (Fd rf 0 pa (.ref q) (.ref m)))->Q (.ref g) H3:=fun rf H3 er e3=>by
    subst e3
    have n1:∀ {y:Addr} {o:HO},H2 y=some o->(∀ C dx fs,o≠.ins C dx fs)->upd H2 g (.ins CG dx (Fd rf 0 pa (.ref q) (.ref m))) y=some o:=fun {y o} e nn=>oth rf (fun z=>by
     rw [z,hg2] at e
     cases e
     exact nn _ _ _ rfl) e
    have nq:q≠g:=fun z=>by
     rw [z,hg] at hq
     injection hq with hq
     injection hq with _ _ hq
     cases hq
    have hps2:dZ CP (upd H2 g (.ins CG dx (Fd rf 0 pa (.ref q) (.ref m)))) bs prs:=by
     refine Paired.mapP hps fun b' pr z=>⟨?_,z.2⟩
     obtain ⟨dxp,nmp,cc,f1,f2,f3⟩:=z.1
     have nb:b'≠g:=fun z=>by
      rw [z,hg] at f1
      injection f1 with f1
      injection f1 with _ _ f1
      cases f1
     exact ⟨dxp,nmp,cc,oth rf nb (S2 _ _ f1),n1 (S2 _ _ f2) (by intro _ _ _ z;cases z),n1 (S2 _ _ f3) (by intro _ _ _ z;cases z)⟩
    refine k _ g (keep rf _) hgH ⟨dx,pa,q,m,bs,by rw [aC,er],n1 (S2 _ _ hpa) (by intro _ _ _ z;cases z),hps2,⟨dxb,na,la,ts,oth rf nq (S2 _ _ hq),n1 (S2 _ _ hna) (by intro _ _ _ z;cases z),n1 (S2 _ _ hla) (by intro _ _ _ z;cases z),hls.keep fun y xs e=>n1 (S2 _ _ e) (by intro _ _ _ z;cases z),h256,hn16⟩,
     ⟨dm,s0,o0,wr,sg,ow,oth rf ngm r1,n1 r2 (by intro _ _ _ z;cases z),n1 r3 (by intro _ _ _ z;cases z),n1 r4 (by intro _ _ _ z;cases z),r5⟩,hp64⟩
   have hg3:upd H2 g (.ins CG dx (Fd 0 0 pa (.ref q) (.ref m))) g=some (.ins CG dx (Fd 0 0 pa (.ref q) (.ref m))):=aC
   have hm3:=oth 0 ngm r1
   have nwr:wr≠g:=fun z=>by rw [z,hg2] at r2;cases r2
   have hw3:=oth 0 nwr r2
   refine ⟨_,rfl,g,CG,dx,_,_,rfl,hg3,TG.cl,TG.n5,rfl,m,CM,dm,_,_,rfl,hm3,TM.cl,TM.n3,rfl,wr,_,rfl,.inl (dB.of hw3),_,_,rfl,rfl,_,rfl,bX (fun hh=>?_) (fun hh=>?_)⟩
   ·have hh:(0:Int)<(((cM prs 0 [] [] ls).map V.int).length:Int):=of_decide_eq_true hh
    rw [List.length_map] at hh
    refine ⟨_,rfl,_,rfl,g,CG,dx,_,rfl,hg3,TG.cl,TG.n1,(by show 5<1000;decide),_,rfl,fin (-9) _ ?_ ?_⟩
    ·rw [if_neg]
     intro z
     rw [z] at hh
     cases hh
    ·funext y
     by_cases hy:y=g
     ·rw [hy,aC,aC]
      rfl
     ·rw [aB hy,aB hy,aB hy]
   ·have hh:¬(0:Int)<(((cM prs 0 [] [] ls).map V.int).length:Int):=fun z=>hh (decide_eq_true z)
    rw [List.length_map] at hh
    have e0:cM prs 0 [] [] ls=[]:=List.eq_nil_of_length_eq_zero (by omega)
    exact ⟨_,rfl,fin 0 _ (by rw [if_pos e0]) rfl⟩
end
structure aBy (P:Program) (w:World) (K:PySem.W.Frag) (mg:Str->Option Value) (base:Heap) (CG CP CB CM:Addr):Prop where
 TM:Tp K CM
 nB:dJ P w K mg base "turned_sizes" bS 1 ["part","turns"] (qI CP)
 bey:dJ P w K mg base "beyond_room" bS 1 ["x","y","z"] qX
 lea:dJ P w K mg base "leaves_room" bS 2 ["parts","put"] (pO K CP)
 right:dJ P w K mg base "read_right" bS 10 ["c","b"] (wS K CG CP CB CM)
section
variable {P:Program} {w:World} {K:PySem.W.Frag} {h:Heap} {mg:Str->Option Value} {base:Heap}
theorem aAu (X:K.In h) (G:h.Ns mainGlobals mg) (L:Wt P w K mg base (dN K "Part") (dN K "Build") (dN K "Given")) (hK:∀ f∈ftR,f.P K):aBy P w K mg base (dN K "Given") (dN K "Part") (dN K "Build") (dN K "Room"):=by
 have g:∀ (i:Nat) (f:Ft),ftR[i]?=some f->f.P K:=fun i f e=>Ft.nth hK i e
 have ci:∀ {x:Str} {n:Int},Oi K x n->CI mg x n:=fun hk=>hk.ci X G
 have nn:∀ {x:Str},PySem.W.nsIn K mainGlobals x=some none->mg x=none:=fun e=>PySem.W.mg_none_of X G e
 have TM:Tp K (dN K "Room"):=⟨Hf.cl (g 0 (.cl "Room") rfl),(g 1 (.at "Room" "signs") rfl),(g 2 (.at "Room" "owners") rfl),(g 3 (.at "Room" "wrong") rfl)⟩
 have RM:RmM P w K mg base (dN K "Room"):=⟨yI.mk (g 4 (.mt "Room" "__init__" "Room.__init__" Bi) rfl) (g 0 (.cl "Room") rfl) (fun f fd F=>Yv F TM) fun _ _ _ _ _ _ us hl=>(by obtain ⟨a,rfl⟩:=_root_.L2.tM hl;rfl),PySem.W.mg_of X G (Hf.ns (g 0 (.cl "Room") rfl))⟩
 have M1:dJ P w K mg base "turned_once" bS 3 ["part"] (Hv (dN K "Part")):=jI.fn0 (g 5 (.fn "turned_once" Jk) rfl) X G (fun f fd F=>Tt F L.TP L.PM) fun _ _ _ _ _ _ us hl=>(by obtain ⟨a,rfl⟩:=_root_.L2.tM hl;rfl)
 have M2:dJ P w K mg base "turned_part" bS 4 ["part","turns"] (uN (dN K "Part")):=jI.fn0 (g 6 (.fn "turned_part" uC) rfl) X G (fun f fd F=>Ln F (nn (g 7 (.no "range") rfl)) M1) fun _ _ _ _ _ _ us hl=>(by obtain ⟨a,b,rfl⟩:=_root_.L2.Al hl;rfl)
 have M3:dJ P w K mg base "turned_sizes" bS 1 ["part","turns"] (qI (dN K "Part")):=jI.fn0 (g 8 (.fn "turned_sizes" uJ) rfl) X G (fun f fd F=>Mf F L.TP) fun _ _ _ _ _ _ us hl=>(by obtain ⟨a,b,rfl⟩:=_root_.L2.Al hl;rfl)
 have M4:dJ P w K mg base "beyond_room" bS 1 ["x","y","z"] qX:=jI.fn0 (g 9 (.fn "beyond_room" tZ) rfl) X G (fun f fd F=>Mm F (ci (g 10 (.int "ROOM_WIDTH" 64) rfl)) (ci (g 11 (.int "ROOM_DEPTH" 64) rfl)) (ci (g 12 (.int "ROOM_HEIGHT" 96) rfl))) fun _ _ _ _ _ _ us hl=>(by obtain ⟨a,b,c,rfl⟩:=_root_.L2.Yo hl;rfl)
 have M5:dJ P w K mg base "leaves_room" bS 2 ["parts","put"] (pO K (dN K "Part")):=jI.fn0 (g 13 (.fn "leaves_room" uE) rfl) X G (fun f fd F=>Mu F M3 M4) fun _ _ _ _ _ _ us hl=>(by obtain ⟨a,b,rfl⟩:=_root_.L2.Al hl;rfl)
 have M6:dJ P w K mg base "cells_in_room" bS 5 ["parts","put"] (Hx K (dN K "Part")):=jI.fn0 (g 14 (.fn "cells_in_room" Ju) rfl) X G (fun f fd F=>Ui F L.TP M2) fun _ _ _ _ _ _ us hl=>(by obtain ⟨a,b,rfl⟩:=_root_.L2.Al hl;rfl)
 have M7:dJ P w K mg base "blocked_lines" bS 2 ["cells","room"] (rA (dN K "Room")):=jI.fn0 (g 15 (.fn "blocked_lines" qC) rfl) X G (fun f fd F=>Fx F TM L.up L.dn L.stud L.tube) fun _ _ _ _ _ _ us hl=>(by obtain ⟨a,b,rfl⟩:=_root_.L2.Al hl;rfl)
 have M8:dJ P w K mg base "wrong_with" bS 3 ["room","cells","j"] (uT (dN K "Room")):=jI.fn0 (g 16 (.fn "wrong_with" pJ) rfl) X G (fun f fd F=>My F TM (nn (g 17 (.no "len") rfl)) (nn (g 18 (.no "min") rfl)) M7) fun _ _ _ _ _ _ us hl=>(by obtain ⟨a,b,c,rfl⟩:=_root_.L2.Yo hl;rfl)
 have M9:dJ P w K mg base "fill_room" bS 6 ["parts","lines"] (Fs K (dN K "Part") (dN K "Room")):=jI.fn0 (g 19 (.fn "fill_room" Js) rfl) X G (fun f fd F=>Vi F TM RM (nn (g 17 (.no "len") rfl)) (nn (g 20 (.no "enumerate") rfl)) M6 M5 M8) fun _ _ _ _ _ _ us hl=>(by obtain ⟨a,b,rfl⟩:=_root_.L2.Al hl;rfl)
 exact ⟨TM,M3,M4,M5,jI.fn0 (g 21 (.fn "read_right" lG) rfl) X G (fun f fd F=>Au F L.TG L.TB TM (nn (g 17 (.no "len") rfl)) L.given M9) fun _ _ _ _ _ _ us hl=>(by obtain ⟨a,b,rfl⟩:=_root_.L2.Al hl;rfl)⟩
end
def rO (r:List aN->List Int->List (List Nat)->List Int) (lc lb:List Int):List Int:=match cY lc lb with
 |.no n=>[n]
 |.bad _=>[-5]
 |.ok prs nm ls=>if cM prs 0 [] [] ls=[] then r prs nm ls else [-9]
structure aDq (lc lb:List Int) (prs:List aN) (nm:List Int) (ls:List (List Nat)) (d:Br.Build):Prop where
 eg:cY lc lb=.ok prs nm ls
 ok:∀ pr∈prs,eF pr
 ln:∀ x∈ls,Eh prs.length x
 tr:∀ x∈ls,eB x 5<=3
 dl:d.lines=ls.map jN
 dn:aX d.name=nm
 cw:¬(Br.wrong (prs.map dD)).isSome=true
 fr:cM prs 0 [] [] ls=[]
 rm:jV (gN prs ls)
theorem Ho {lc lb:List Int} (hc:Nr lc) (hb:Nr lb) {f:Br.Catalogue->Br.Build->BrB.Answer} {r:List aN->List Int->List (List Nat)->List Int} (hr:∀ prs nm ls d,aDq lc lb prs nm ls d->BuildsNeutral.shown (f (prs.map dD) d)=r prs nm ls):
  BuildsNeutral.shown (BrB.ofRight (Hj lc) (Hj lb) f)=rO r lc lb:=by
 have h:=Dc hc hb
 have h6:= @Bx lc lb
 have h7:= @Cc lc lb
 have he:∀ {prs nm ls},cY lc lb=.ok prs nm ls->cY lc lb=.ok prs nm ls:=fun e=>e
 unfold rO BrB.ofRight BrB.ofBuild BrB.ofCatalogue
 generalize hg:cY lc lb=g at h h6 h7
 cases g with
 |no n=>
  rcases h with ⟨rfl,h⟩|⟨rfl,h,e,h2⟩|⟨rfl,h,k,h2,h3⟩
  ·simp only [if_pos h];rfl
  ·simp only [if_neg h,h2];rfl
  ·simp only [if_neg h,h2,if_pos h3];rfl
 |bad i=>
  obtain ⟨h,k,h2,h3,h4⟩:=h
  simp only [if_neg h,h2,if_neg h3,h4];rfl
 |ok prs nm ls=>
  obtain ⟨h,ok,h2,h3,d,h4,h5,hn⟩:=h
  simp only [if_neg h,h2,if_neg h3,h4]
  have fm:=rK ok (fun x hx=>(h6 rfl x hx).2) h5
  by_cases e0:cM prs 0 [] [] ls=[]
  ·rw [if_pos e0]
   rw [e0] at fm
   have hw:¬(d.wrong (prs.map dD)).isSome=true:=by
    cases e:d.wrong (prs.map dD) with
    |none=>decide
    |some w=>rw [e] at fm;cases fm
   rw [if_neg hw]
   exact hr prs nm ls d ⟨hg,ok,fun x hx=>h6 rfl x hx,fun x hx=>h7 rfl x hx,h5,hn,h3,e0,wI ok (fun x hx=>(h6 rfl x hx).2) e0⟩
  ·rw [if_neg e0]
   have hw:(d.wrong (prs.map dD)).isSome=true:=by
    cases e:d.wrong (prs.map dD) with
    |none=>rw [e] at fm;exact absurd fm e0
    |some w=>rfl
   rw [if_pos hw]
   rfl
theorem Uy {CG CP CB CM:Addr} {H:Hp} {g:Addr} {lc lb:List Int} (h:Wx CG CP CB CM H g (cY lc lb)):∃ (dx pa:Addr) (bv rv:V) (rf ft:Int),H g=some (.ins CG dx (Fd rf ft pa bv rv))/\
  ((rf<0/\∀ r,rO r lc lb=[rf])\/(rf=0/\∃ (prs:List aN) (nm:List Int) (ls:List (List Nat)) (q m:Addr) (bs:List Addr),cY lc lb=.ok prs nm ls/\(∀ r,rO r lc lb=r prs nm ls)/\cM prs 0 [] [] ls=[]/\bv=.ref q/\rv=.ref m/\H pa=some (.lst (bs.map V.ref))/\dZ CP H bs prs/\vK CB H q nm ls/\Gf CM H m prs ls/\prs.length<=64)):=by
 have hn:= @Qo lc lb
 unfold rO
 cases eg:cY lc lb with
 |no n=>
  rw [eg] at h
  obtain ⟨dx,pa,h⟩:=h
  have hn:=hn eg
  exact ⟨dx,pa,.non,.non,n,0,h,.inl ⟨by omega,fun _=>rfl⟩⟩
 |bad i=>
  rw [eg] at h
  obtain ⟨dx,pa,h⟩:=h
  exact ⟨dx,pa,.non,.non, -5,i,h,.inl ⟨by decide,fun _=>rfl⟩⟩
 |ok prs nm ls=>
  rw [eg] at h
  obtain ⟨dx,pa,q,m,bs,h1,h2,h3,h4,h5,h6⟩:=h
  refine ⟨dx,pa,.ref q,.ref m,_,0,h1,?_⟩
  by_cases e:cM prs 0 [] [] ls=[]
  ·rw [if_pos e]
   exact .inr ⟨rfl,prs,nm,ls,q,m,bs,rfl,fun r=>(by show (if _=_ then _ else _)=_;rw [if_pos e]),e,rfl,rfl,h2,h3,h4,h5,h6⟩
  ·rw [if_neg e]
   exact .inl ⟨by decide,fun r=>(by show (if _=_ then _ else _)=_;rw [if_neg e])⟩
end Br1
namespace Br1
abbrev P2:=Int×Int
abbrev CT:=List (P2×Int)
def oA (ct:CT) (p:P2):Option Int:=(ct.find? fun c=>decide (c.1=p)).map (·.2)
def rQ:CT->P2->Int->CT
 |[],p,v=>[(p,v)]
 |c::r,p,v=>if c.1=p then (p,v)::r else c::rQ r p v
def Vw (ct:CT) (p:P2):CT:=rQ ct p ((oA ct p).getD 0+1)
def pD (ps:List P2):CT:=ps.foldl Vw []
theorem fR (c:P2×Int) (r:CT) (p:P2):oA (c::r) p=if c.1=p then some c.2 else oA r p:=by
 unfold oA
 rw [List.find?_cons]
 by_cases h:c.1=p
 ·rw [if_pos h,decide_eq_true h];rfl
 ·rw [if_neg h,decide_eq_false h]
theorem Et:∀ (ct:CT) (p q:P2) (v:Int),oA (rQ ct p v) q=if p=q then some v else oA ct q
 |[],p,q,v=>by
  show oA [(p,v)] q=_
  rw [fR]
 |c::r,p,q,v=>by
  rw [rQ]
  by_cases h:c.1=p
  ·rw [if_pos h,fR,fR,h]
   by_cases hq:p=q
   ·rw [if_pos hq,if_pos hq]
   ·rw [if_neg hq,if_neg hq,if_neg hq]
  ·rw [if_neg h,fR,fR,Et r p q v]
   by_cases hq:p=q
   ·subst hq
    rw [if_neg h,if_pos rfl,if_pos rfl]
   ·rw [if_neg hq,if_neg hq]
theorem Es:∀ (ct:CT) (p:P2) (v:Int),(rQ ct p v).map (·.1)=if p∈ct.map (·.1) then ct.map (·.1) else ct.map (·.1)++[p]
 |[],p,v=>rfl
 |c::r,p,v=>by
  rw [rQ]
  by_cases h:c.1=p
  ·rw [if_pos h,if_pos (by rw [List.map_cons,h];exact List.mem_cons_self),List.map_cons,List.map_cons,h]
  ·rw [if_neg h,List.map_cons,Es r p v,List.map_cons]
   by_cases hm:p∈r.map (·.1)
   ·rw [if_pos hm,if_pos (List.mem_cons_of_mem _ hm)]
   ·rw [if_neg hm,if_neg (fun z=>by
     rcases List.mem_cons.mp z with z|z
     ·exact h z.symm
     ·exact hm z)]
    rfl
theorem Kp:∀ (ct:CT) (p:P2),((rQ ct p ((oA ct p).getD 0+1)).map (·.2)).sum=(ct.map (·.2)).sum+1
 |[],p=>rfl
 |c::r,p=>by
  rw [rQ]
  by_cases h:c.1=p
  ·rw [if_pos h,List.map_cons,List.sum_cons,List.map_cons,List.sum_cons,fR,if_pos h]
   show c.2+1+_=_
   omega
  ·rw [if_neg h,List.map_cons,List.sum_cons,List.map_cons,List.sum_cons,fR,if_neg h,Kp r p]
   omega
structure Tal (ps:List P2) (ct:CT):Prop where
 get:∀ p,oA ct p=if p∈ps then some ((ps.count p:Nat):Int) else none
 nd:(ct.map (·.1)).Nodup
 mem:∀ p,p∈ct.map (·.1)↔p∈ps
 sum:(ct.map (·.2)).sum=(ps.length:Int)
 len:ct.length<=ps.length
theorem Tal.next {ps:List P2} {ct:CT} (h:Tal ps ct) (p:P2):Tal (ps++[p]) (Vw ct p):=by
 unfold Vw
 have hk:=Es ct p ((oA ct p).getD 0+1)
 refine ⟨fun q=>?_,?_,fun q=>?_,?_,?_⟩
 ·rw [Et,List.count_append,h.get q]
  by_cases hq:p=q
  ·subst hq
   rw [if_pos rfl,if_pos (List.mem_append_right _ List.mem_cons_self),h.get p]
   by_cases hm:p∈ps
   ·rw [if_pos hm]
    simp
   ·rw [if_neg hm,List.count_eq_zero.mpr hm]
    simp
  ·rw [if_neg hq]
   have hc:List.count q [p]=0:=List.count_eq_zero.mpr (by rw [List.mem_singleton];exact fun z=>hq z.symm)
   have hm:(q∈ps++[p])↔q∈ps:=by
    rw [List.mem_append,List.mem_singleton]
    exact ⟨fun z=>z.elim id fun z=>absurd z.symm hq,.inl⟩
   rw [hc,Nat.add_zero]
   by_cases hq2:q∈ps
   ·rw [if_pos hq2,if_pos (hm.mpr hq2)]
   ·rw [if_neg hq2,if_neg (fun z=>hq2 (hm.mp z))]
 ·rw [hk]
  split
  ·exact h.nd
  ·rename_i hm
   rw [List.nodup_append]
   exact ⟨h.nd,by simp,fun a ha b hb z=>by rw [List.mem_singleton] at hb;subst hb;subst z;exact hm ha⟩
 ·rw [hk]
  split
  ·rename_i hm
   rw [h.mem,List.mem_append,List.mem_singleton]
   exact ⟨.inl,fun z=>z.elim id fun z=>by subst z;exact (h.mem q).mp hm⟩
  ·rw [List.mem_append,List.mem_append,h.mem]
 ·rw [Kp,h.sum,List.length_append]
  rfl
 ·have:=congrArg List.length hk
  rw [List.length_map] at this
  rw [this,List.length_append]
  have hl:=h.len
  split
  ·rw [List.length_map];simp;omega
  ·rw [List.length_append,List.length_map];simp;omega
theorem Ef (ps:List P2) (p:P2):pD (ps++[p])=Vw (pD ps) p:=by
 unfold pD
 rw [List.foldl_append]
 rfl
theorem Re (ps:List P2):Tal ps (pD ps):=by
 have key:∀ (n:Nat) (ps:List P2),ps.length=n->Tal ps (pD ps):=by
  intro n
  induction n with
  |zero=>
   intro ps h
   have:ps=[]:=List.eq_nil_of_length_eq_zero h
   subst this
   exact ⟨fun p=>rfl,List.nodup_nil,fun p=>Iff.rfl,rfl,Nat.le_refl _⟩
  |succ n ih=>
   intro ps h
   have hne:ps≠[]:=by rintro rfl;cases h
   have e:=List.dropLast_concat_getLast hne
   rw [<-e,Ef]
   exact (ih ps.dropLast (by rw [List.length_dropLast,h];rfl)).next _
 exact key _ ps rfl
end Br1
namespace Br1
open PySem PySem.Spec PyProof.Rows L2
def gM (p:P2):List dR:=[.inl p.1,.inl p.2]
def sN (ct:CT):List (List dR×V):=ct.map fun c=>(gM c.1,V.int c.2)
theorem wR {p q:P2}:gM p=gM q↔p=q:=by
 obtain ⟨a,b⟩:=p
 obtain ⟨x,y⟩:=q
 simp [gM]
theorem By (ct:CT):(sN ct).length=ct.length:=List.length_map _
theorem qP (p:P2):∀ ct:CT,iT (sN ct) (gM p)=(oA ct p).map V.int
 |[]=>rfl
 |c::r=>by
  have ih:=qP p r
  show iT ((gM c.1,V.int c.2)::sN r) (gM p)=_
  rw [fR]
  by_cases h:c.1=p
  ·rw [if_pos h,qF (by rw [h])]
   rfl
  ·rw [if_neg h,pM (fun z=>h (wR.mp z)),ih]
theorem Nw {p:P2} {v:Int}:∀ {ct:CT},p∉ct.map (·.1)->rQ ct p v=ct++[(p,v)]
 |[],_=>rfl
 |c::r,h=>by
  rw [rQ,if_neg (fun z=>h (by rw [List.map_cons,z];exact List.mem_cons_self)),Nw fun z=>h (List.mem_cons_of_mem _ z)]
  rfl
theorem Uo {p:P2} {v:Int}:∀ {ct:CT},(ct.map (·.1)).Nodup->jJ (sN ct) (gM p) (V.int v)=sN (rQ ct p v):=by
 intro ct nd
 by_cases h:p∈ct.map (·.1)
 ·have hs:(iT (sN ct) (gM p)).isSome=true:=by
   rw [qP,Option.isSome_map]
   unfold oA
   rw [Option.isSome_map,List.find?_isSome]
   obtain ⟨c,hc,e⟩:=List.mem_map.mp h
   exact ⟨c,hc,decide_eq_true e⟩
  unfold jJ
  rw [qJ,if_pos hs]
  clear hs
  induction ct with
  |nil=>cases h
  |cons c r ih=>
   have nd':=List.nodup_cons.mp nd
   show (fun kv:List dR×V=>if kv.1=gM p then (kv.1,V.int v) else kv) (gM c.1,V.int c.2)::(sN r).map _=_
   rw [rQ]
   by_cases hc:c.1=p
   ·rw [if_pos hc]
    show (if gM c.1=gM p then (gM c.1,V.int v) else (gM c.1,V.int c.2))::_=(gM p,V.int v)::sN r
    rw [if_pos (by rw [hc]),hc]
    refine congrArg _ ?_
    have:∀ x∈sN r,(if x.1=gM p then (x.1,V.int v) else x)=x:=fun x hx=>by
     obtain ⟨c2,h2,rfl⟩:=List.mem_map.mp hx
     exact if_neg fun z=>nd'.1 (by show c.1∈_;rw [hc,<-wR.mp z];exact List.mem_map_of_mem (f:=fun (x:P2×Int)=>x.1) h2)
    rw [List.map_congr_left this,List.map_id']
   ·rw [if_neg hc]
    show (if gM c.1=gM p then (gM c.1,V.int v) else (gM c.1,V.int c.2))::_=(gM c.1,V.int c.2)::sN (rQ r p v)
    rw [if_neg (fun z=>hc (wR.mp z))]
    refine congrArg _ (ih nd'.2 ?_)
    rcases List.mem_cons.mp h with z|z
    ·exact absurd z.symm hc
    ·exact z
 ·rw [pG]
  ·rw [Nw h]
   unfold sN
   rw [List.map_append]
   rfl
  ·rw [qP]
   unfold oA
   rw [List.find?_eq_none.mpr]
   ·rfl
   ·intro c hc z
    exact h (List.mem_map.mpr ⟨c,hc,of_decide_eq_true z⟩)
theorem uQ {sg ow l:CL} {i:Nat} {c:Pl×Int} (e:l[i]?=some c):(l.take (i+1)).filterMap (dE sg ow)=(l.take i).filterMap (dE sg ow)++(dE sg ow c).toList:=by
 rw [List.take_succ,e,List.filterMap_append]
 refine congrArg _ ?_
 show [c].filterMap (dE sg ow)=_
 cases h:dE sg ow c<;>simp [h]
theorem Mw {H:Hp} {c q:Addr} {od:Obj} {cs:CL} {p:Pl} {v:Int} (hc:H c=some (.frz od (.dT (aI cs)))) (hq:H q=some (.tup [.int p.1,.int p.2.1,.int p.2.2])) (h:aV cs p=some v):mT H c (.ref q) (some (V.int v)):=by
 have:=qG (p:=p) hc hq
 rw [h] at this
 exact this
section
variable {P:Program} {w:World} {K:PySem.W.Frag} {mg:Str->Option Value} {base:Heap} {C CR CP CB CG CM:Addr}
def oP (CM:Addr):Sp:=fun vs H Q _=>∃ (m dm s o wr:Addr) (sg ow:CL),vs=[.ref m]/\H m=some (.ins CM dm (Bz s o wr))/\H s=some (.dT (aI sg))/\H o=some (.dT (aI ow))/\s≠o/\(∀ c∈sg,aV sg c.1=some c.2)/\(∀ p,(aV sg p).isSome=true->(aV ow p).isSome=true)/\sg.length<=5120000/\
 ∀ (H':Hp) (d:Addr),aK H H'->H d=none->H' d=some (.dT (sN (pD (lM sg ow))))->Q (.ref d) H'
theorem fP:aP ["room","counts","place","sign","over","pair"] ["room"] (aH jS):=⟨rfl,rfl,rfl,by decide+kernel,rfl,by decide+kernel,by decide+kernel⟩
theorem Dz {f:Addr} {fd:FuncData} (F:fD K "clutches" "clutches" jS f fd) (TM:Tp K CM) (L1:dJ P w K mg base "above" bS 1 ["place"] lK) (L3:dJ P w K mg base "has_stud" bS 1 ["sign"] sE) (L4:dJ P w K mg base "has_tube" bS 1 ["sign"] rT):bO P w K mg base bS 2 f fd ["room"] (oP CM):=by
 obtain ⟨g1,gd1,G1,b1,k1,h1⟩:=L1.ex
 obtain ⟨g3,gd3,G3,b3,k3,h3⟩:=L3.ex
 obtain ⟨g4,gd4,G4,b4,k4,h4⟩:=L4.ex
 refine F.ok fP (fun vs H Q E h=>?_) (fun cdv A outer s H vs Q E hr h=>?_)
 ·obtain ⟨m,dm,s,o,wr,sg,ow,rfl,_⟩:=h
  rfl
 ·obtain ⟨m,dm,s,o,wr,sg,ow,rfl,hm,hs,ho,nso,hself,sub,ln,k⟩:=h
  have hr1:=hr.mono (j:=1) (by decide)
  have hu:=jW hr
  have hsz:=fC
  refine ⟨_,aE (bA (i:=1) fP.nd rfl (Or.inl rfl) jR)
   (aE (hG (eA PassesOwn.never rfl (iD (aR (pv 0) rfl)) (lB rfl (cI (bH (i:=2) fP.nd rfl (Or.inl rfl)) (cI (bH (i:=3) fP.nd rfl (Or.inl rfl)) hX)))
    (aE (bA (i:=4) fP.nd rfl (Or.inl rfl) (aT G1 hr1 (by rfl) h1 k1 b1 .nil aY (aA (pv 2) aF)))
    (aG (dS (fY (dW (aT G3 hr1 (by rfl) h3 k3 b3 .nil aY (aA (pv 3) aF))) (fY (dA (pC hu (pv 4) (aR (pv 0) rfl))) (gK (dW (aT G4 hr1 (by rfl) h4 k4 b4 .nil aY (aA (iZ hu (aR (pv 0) rfl) (pv 4) (fun _ _=>rfl)) aF)))))).pt
     (aE (bA (i:=5) fP.nd rfl (Or.inl rfl) (eK (aA (iZ hu (aR (pv 0) rfl) (pv 2) (fun _ _=>rfl)) (aA (iZ hu (aR (pv 0) rfl) (pv 4) (fun _ _=>rfl)) aF))))
     (aG (lI hu (pv 1) (pv 5) (cU gQ (Sm hu (pv 1) (pv 5) aJ ⟨rfl,rfl,rfl,rfl⟩) aJ) rfl))) bW)))))
   (aG (aW (pv 1)))),?_⟩
  intro d hd
  have S0:aK H (upd H d (.dT [])):=aK.new hd
  have nsd:s≠d:=aD hs hd
  have nod:o≠d:=aD ho hd
  have nmd:m≠d:=aD hm hd
  have nms:m≠s:=fun z=>by rw [z,hs] at hm;cases hm
  refine ⟨s,_,S0 _ _ hs,trivial,fun od=>?_⟩
  have hsL:upd (upd H d (.dT [])) s (.frz od (.dT (aI sg))) s=some (.frz od (.dT (aI sg))):=aC
  have hoL:upd (upd H d (.dT [])) s (.frz od (.dT (aI sg))) o=some (.dT (aI ow)):=by rw [aB (Ne.symm nso)];exact S0 _ _ ho
  have hmL:upd (upd H d (.dT [])) s (.frz od (.dT (aI sg))) m=some (.ins CM dm (Bz s o wr)):=by rw [aB nms];exact S0 _ _ hm
  have hdL:upd (upd H d (.dT [])) s (.frz od (.dT (aI sg))) d=some (.dT []):=by rw [aB (Ne.symm nsd),aC]
  refine ⟨_,rfl,m,CM,dm,_,_,rfl,hmL,TM.cl,TM.n1,rfl,s,od,_,rfl,hsL,?_⟩
  refine gH (fun i σ H'=>∃ v2 v3 v4 v5,σ=[some (.ref m),some (.ref d),v2,v3,v4,v5]/\SX d (upd (upd H d (.dT [])) s (.frz od (.dT (aI sg)))) H'/\H' d=some (.dT (sN (pD ((sg.take i).filterMap (dE sg ow)))))) ⟨none,none,none,none,rfl,SX.refl _ _,hdL⟩ ?_ ?_ ?_
  ·rintro i σ H1 hi ⟨v2,v3,v4,v5,rfl,S1,_⟩
   exact S1 _ _ hsL nsd
  ·rintro i σ H1 T kk v q e ⟨v2,v3,v4,v5,rfl,S1,hd1⟩ hT hq
   obtain ⟨p,sv,e1,rfl,rfl⟩:=iC e
   have hi:i<sg.length:=(List.getElem?_eq_some_iff.mp e1).1
   have ST:=aK.new (o:=.tup [.ref q,.int sv]) hT
   refine ⟨T,_,rfl,cN.of aC,rfl,_,_,rfl,_,_,rfl,rfl,?_⟩
   have hq2:=ST _ _ hq
   have S2:SX d (upd (upd H d (.dT [])) s (.frz od (.dT (aI sg)))) (upd H1 T (.tup [.ref q,.int sv])):=fun b ob eb nb=>ST _ _ (S1 _ _ eb nb)
   have hd2:=ST _ _ hd1
   generalize upd H1 T (.tup [.ref q,.int sv])=H2 at ST hq2 S2 hd2
   refine ⟨_,rfl,q,p.1,p.2.1,p.2.2,rfl,hq2,fun t ht=>?_⟩
   have SQ:=aK.new (o:=.tup [.int p.1,.int p.2.1,.int (p.2.2+1)]) ht
   have S3:SX d (upd (upd H d (.dT [])) s (.frz od (.dT (aI sg)))) (upd H2 t (.tup [.int p.1,.int p.2.1,.int (p.2.2+1)])):=fun b ob eb nb=>SQ _ _ (S2 _ _ eb nb)
   have hd3:=SQ _ _ hd2
   have hq3:=SQ _ _ hq2
   have ht3:upd H2 t (.tup [.int p.1,.int p.2.1,.int (p.2.2+1)]) t=some (.tup [.int (jG p).1,.int (jG p).2.1,.int (jG p).2.2]):=aC
   generalize upd H2 t (.tup [.int p.1,.int p.2.1,.int (p.2.2+1)])=H3 at S3 hd3 hq3 ht3
   have hs3:=S3 _ _ hsL nsd
   have ho3:=S3 _ _ hoL nod
   have hm3:=S3 _ _ hmL nmd
   have no:dE sg ow (p,sv)=none->H3 d=some (.dT (sN (pD ((sg.take (i+1)).filterMap (dE sg ow))))):=fun z=>by
    rw [uQ e1,z]
    show _=some (HO.dT (sN (pD (_++[]))))
    rw [List.append_nil]
    exact hd3
   refine ⟨_,rfl,sv,rfl,_,rfl,bX (fun hst=>?_) (fun hst=>pX ⟨_,_,_,_,rfl,S3,no ?_⟩)⟩
   ·refine ⟨_,rfl,_,rfl,m,CM,dm,_,_,rfl,hm3,TM.cl,TM.n1,rfl,s,_,rfl,qG (p:=jG p) hs3 ht3,_,rfl,bX (fun hin=>?_) (fun hin=>pX ⟨_,_,_,_,rfl,S3,no ?_⟩)⟩
    ·rw [Option.isSome_map] at hin
     obtain ⟨sv2,es⟩:=Option.isSome_iff_exists.mp hin
     obtain ⟨ov2,eo2⟩:=Option.isSome_iff_exists.mp (sub _ hin)
     obtain ⟨ov1,eo1⟩:=Option.isSome_iff_exists.mp (sub p (by rw [hself _ (List.mem_of_getElem? e1)];rfl))
     refine ⟨_,rfl,m,CM,dm,_,_,rfl,hm3,TM.cl,TM.n1,rfl,_,rfl,s,_,rfl,Mw (p:=jG p) hs3 ht3 es,sv2,rfl,_,rfl,bX (fun htu=>?_) (fun htu=>⟨_,_,_,_,rfl,S3,no ?_⟩)⟩
     ·have ep:dE sg ow (p,sv)=some (ov1,ov2):=by
       unfold dE
       rw [if_pos ⟨hst,by rw [es];exact htu⟩]
       show some ((aV ow p).getD 0,(aV ow (jG p)).getD 0)=_
       rw [eo1,eo2]
       rfl
      refine ⟨_,rfl,m,CM,dm,_,_,rfl,hm3,TM.cl,TM.n2,rfl,_,rfl,o,_,rfl,kQ (p:=p) ho3 hq3 eo1,_,rfl,m,CM,dm,_,_,rfl,hm3,TM.cl,TM.n2,rfl,_,rfl,o,_,rfl,kQ (p:=jG p) ho3 ht3 eo2,(by show 2<=sizeLine;decide),fun tp htp=>?_⟩
      have SP':=aK.new (o:=.tup [.int ov1,.int ov2]) htp
      have hd4:=SP' _ _ hd3
      have htp4:upd H3 tp (.tup [.int ov1,.int ov2]) tp=some (.tup ((gM (ov1,ov2)).map kV)):=aC
      have S4:SX d (upd (upd H d (.dT [])) s (.frz od (.dT (aI sg)))) (upd H3 tp (.tup [.int ov1,.int ov2])):=fun b ob eb nb=>SP' _ _ (S3 _ _ eb nb)
      generalize upd H3 tp (.tup [.int ov1,.int ov2])=H4 at hd4 htp4 S4
      have tk:=Re ((sg.take i).filterMap (dE sg ow))
      have tl:(sN (pD ((sg.take i).filterMap (dE sg ow)))).length<=5120000:=by
       rw [By]
       have h1:=tk.len
       have h2:=List.length_filterMap_le (dE sg ow) (sg.take i)
       rw [List.length_take] at h2
       omega
      refine ⟨_,rfl,d,rfl,.inr ⟨_,.inl hd4⟩,_,rfl,_,mT.t (k:=gM (ov1,ov2)) hd4 htp4,?_⟩
      rw [qP]
      have eg:((oA (pD ((sg.take i).filterMap (dE sg ow))) (ov1,ov2)).map V.int).getD (V.int 0)=V.int ((oA (pD ((sg.take i).filterMap (dE sg ow))) (ov1,ov2)).getD 0):=by
       cases oA (pD ((sg.take i).filterMap (dE sg ow))) (ov1,ov2)<;>rfl
      rw [eg]
      refine ⟨_,_,rfl,rfl,_,rfl,_,rfl,d,_,rfl,xG.t (k:=gM (ov1,ov2)) hd4 htp4 (by omega),?_⟩
      rw [Uo tk.nd]
      refine ⟨_,_,_,_,rfl,fun b ob eb nb=>?_,?_⟩
      ·rw [aB nb]
       exact S4 _ _ eb nb
      ·rw [aC,uQ e1,ep]
       show _=some (HO.dT (sN (pD (_++[(ov1,ov2)]))))
       rw [Ef]
       rfl
     ·unfold dE
      rw [if_neg]
      rintro ⟨_,z⟩
      rw [es] at z
      exact htu z
    ·rw [Option.isSome_map] at hin
     unfold dE
     rw [if_neg]
     rintro ⟨_,z⟩
     cases ez:aV sg (jG p) with
     |none=>rw [ez] at z;cases z
     |some y=>rw [ez] at hin;exact hin rfl
   ·unfold dE
    rw [if_neg]
    rintro ⟨z,_⟩
    exact hst z
  ·rintro σ H1 ⟨v2,v3,v4,v5,rfl,S1,hd1⟩
   rw [gL,List.take_length] at hd1
   refine ⟨S1 _ _ hsL nsd,?_⟩
   have S2:=Bj hs hd S1
   exact ⟨_,rfl,k _ d S2 hd (by rw [aB (Ne.symm nsd)];exact hd1)⟩
end
theorem Og {lc lb:List Int} (hc:Nr lc) (hb:Nr lb) {prs:List aN} {nm:List Int} {ls:List (List Nat)} (hg:cY lc lb=.ok prs nm ls) (h:cM prs 0 [] [] ls=[]):jV (gN prs ls):=by
 have h1:=Dc hc hb
 have h6:= @Bx lc lb
 rw [hg] at h1 h6
 obtain ⟨_,ok,_⟩:=h1
 exact wI ok (fun x hx=>(h6 rfl x hx).2) h
theorem jV.self {zs:ZS} (R:jV zs):∀ c∈xJ zs,aV (xJ zs) c.1=some c.2:=by
 intro c hc
 obtain ⟨z,hz,h⟩:=List.mem_flatMap.mp hc
 obtain ⟨i,hi⟩:=List.mem_iff_getElem?.mp hz
 exact (R.own hi (q:=c.1) (v:=c.2) h).2
theorem jV.sub {zs:ZS} (R:jV zs):∀ p,(aV (xJ zs) p).isSome=true->(aV (xM zs) p).isSome=true:=by
 intro p h
 obtain ⟨v,e⟩:=Option.isSome_iff_exists.mp h
 obtain ⟨i,z,hz,hq⟩:=(R.inv.sgO p v).mp e
 rw [(R.own hz hq).1]
 rfl
def aAf (prs:List aN) (ls:List (List Nat)):List (Int×Int):=lM (xJ (gN prs ls)) (xM (gN prs ls))
end Br1
namespace Br1
def No (f:Nat) (ms:List Nat):Nat:=(ms.filter fun m=>decide (m≠f)).length
theorem Bu {f:Nat}:∀ {ms:List Nat} {k m:Nat},ms[k]?=some m->m≠f->No f (ms.set k f)+1=No f ms
 |[],k,m,h,_=>by simp at h
 |a::r,0,m,h,hn=>by
  cases h
  unfold No
  rw [List.set_cons_zero,List.filter_cons_of_neg (by simp),List.filter_cons_of_pos (by simpa using hn),List.length_cons]
 |a::r,k+1,m,h,hn=>by
  have ih:=Bu (f:=f) (ms:=r) (k:=k) (m:=m) h hn
  unfold No at ih ⊢
  rw [List.set_cons_succ]
  by_cases e:a=f
  ·rw [List.filter_cons_of_neg (by simpa using e),List.filter_cons_of_neg (by simpa using e)]
   exact ih
  ·rw [List.filter_cons_of_pos (by simpa using e),List.filter_cons_of_pos (by simpa using e),List.length_cons,List.length_cons]
   omega
theorem Zz (f:Nat) (ms:List Nat):No f ms<=ms.length:=List.length_filter_le _ _
structure Mk (E:Nat->Nat->Prop) (f n:Nat) (ms0 ms wl:List Nat) (r:Option Nat) (nb:List Nat):Prop where
 len:ms.length=n
 new:∀ i:Nat,ms[i]?=some f->gW E f i
 old:∀ i m:Nat,ms[i]?=some m->m≠f->ms0[i]?=some m
 here:ms[f]?=some f
 wt:∀ i∈wl,ms[i]?=some f
 cl:∀ i j,ms[i]?=some f->i∉wl->r≠some i->E i j->ms[j]?=some f
 nbs:∀ j∈nb,ms[j]?=some f
 rr:∀ i,r=some i->ms[i]?=some f
 few:wl.length+No f ms<=n
theorem Mk.first {E:Nat->Nat->Prop} {f n:Nat} {ms0:List Nat} (hl:ms0.length=n) (hf:f<n) (no:∀ i:Nat,ms0[i]?≠some f):Mk E f n ms0 (ms0.set f f) [f] none []:=by
 have hh:(ms0.set f f)[f]?=some f:=by rw [List.getElem?_set_self (by omega)]
 have e:∀ i:Nat,i≠f->(ms0.set f f)[i]?=ms0[i]?:=fun i hi=>List.getElem?_set_ne (Ne.symm hi)
 refine ⟨by rw [List.length_set];exact hl,fun i h=>?_,fun i m h hm=>?_,hh,fun i hi=>?_,fun i j h hn _ _=>?_,fun j hj=>absurd hj List.not_mem_nil,fun i z=>(by cases z),?_⟩
 ·by_cases z:i=f
  ·subst z;exact .refl
  ·rw [e i z] at h;exact absurd h (no i)
 ·by_cases z:i=f
  ·subst z;rw [hh] at h;exact absurd (Option.some.inj h).symm hm
  ·rw [e i z] at h;exact h
 ·rw [List.mem_singleton.mp hi];exact hh
 ·by_cases z:i=f
  ·exact absurd (List.mem_singleton.mpr z) hn
  ·rw [e i z] at h;exact absurd h (no i)
 ·have h1:ms0[f]?=some ms0[f]:=List.getElem?_eq_getElem (by omega)
  have h2:=Bu (f:=f) h1 (fun z=>no f (by rw [h1,z]))
  have h3:=Zz f ms0
  rw [List.length_singleton]
  omega
theorem Mk.pop {E:Nat->Nat->Prop} {f n:Nat} {ms0 ms wl:List Nat} {r:Nat} (h:Mk E f n ms0 ms (wl++[r]) none []):Mk E f n ms0 ms wl (some r) []/\wl.length+1+No f ms<=n:=by
 have hf:=h.few
 rw [List.length_append,List.length_singleton] at hf
 refine ⟨⟨h.len,h.new,h.old,h.here,fun i hi=>h.wt i (List.mem_append_left _ hi),fun i j hi hn hr e=>h.cl i j hi (fun z=>?_) (fun z=>by cases z) e,fun j hj=>absurd hj List.not_mem_nil,fun i z=>?_,by omega⟩,hf⟩
 ·rcases List.mem_append.mp z with z|z
  ·exact hn z
  ·exact hr (by rw [List.mem_singleton.mp z])
 ·cases z
  exact h.wt _ (List.mem_append_right _ (List.mem_singleton.mpr rfl))
theorem Mk.skip {E:Nat->Nat->Prop} {f n:Nat} {ms0 ms wl nb:List Nat} {r:Option Nat} {k:Nat} (h:Mk E f n ms0 ms wl r nb) (hk:ms[k]?=some f):Mk E f n ms0 ms wl r (nb++[k]):=
 ⟨h.len,h.new,h.old,h.here,h.wt,h.cl,fun j hj=>by
  rcases List.mem_append.mp hj with z|z
  ·exact h.nbs j z
  ·rw [List.mem_singleton.mp z];exact hk,h.rr,h.few⟩
theorem Mk.mark {E:Nat->Nat->Prop} {f n:Nat} {ms0 ms wl nb:List Nat} {r k m:Nat} (h:Mk E f n ms0 ms wl (some r) nb) (hk:ms[k]?=some m) (hm:m≠f) (he:E r k):
  Mk E f n ms0 (ms.set k f) (wl++[k]) (some r) (nb++[k])/\(wl++[k]).length+No f (ms.set k f)=wl.length+No f ms:=by
 have hkl:k<ms.length:=(List.getElem?_eq_some_iff.mp hk).1
 have hh:(ms.set k f)[k]?=some f:=by rw [List.getElem?_set_self hkl]
 have e:∀ i:Nat,i≠k->(ms.set k f)[i]?=ms[i]?:=fun i hi=>List.getElem?_set_ne (Ne.symm hi)
 have up:∀ i:Nat,ms[i]?=some f->(ms.set k f)[i]?=some f:=fun i hi=>by
  by_cases z:i=k
  ·rw [z];exact hh
  ·rw [e i z];exact hi
 have h2:=Bu (f:=f) hk hm
 have hf:=h.few
 have el:(wl++[k]).length=wl.length+1:=by rw [List.length_append,List.length_singleton]
 refine ⟨⟨by rw [List.length_set];exact h.len,fun i hi=>?_,fun i m' hi hm'=>?_,up _ h.here,fun i hi=>?_,fun i j hi hn hr ee=>?_,fun j hj=>?_,fun i z=>up _ (h.rr i z),by omega⟩,by omega⟩
 ·by_cases z:i=k
  ·subst z;exact .step (h.new r (h.rr r rfl)) he
  ·rw [e i z] at hi;exact h.new i hi
 ·by_cases z:i=k
  ·subst z;rw [hh] at hi;exact absurd (Option.some.inj hi).symm hm'
  ·rw [e i z] at hi;exact h.old i m' hi hm'
 ·rcases List.mem_append.mp hi with z|z
  ·exact up _ (h.wt i z)
  ·rw [List.mem_singleton.mp z];exact hh
 ·by_cases z:i=k
  ·exact absurd (List.mem_append_right _ (List.mem_singleton.mpr z)) hn
  ·rw [e i z] at hi;exact up _ (h.cl i j hi (fun y=>hn (List.mem_append_left _ y)) hr ee)
 ·rcases List.mem_append.mp hj with z|z
  ·exact up _ (h.nbs j z)
  ·rw [List.mem_singleton.mp z];exact hh
theorem Mk.fin {E:Nat->Nat->Prop} {f n:Nat} {ms0 ms wl nb:List Nat} {r:Nat} (h:Mk E f n ms0 ms wl (some r) nb) (hE:∀ j,E r j->j∈nb):Mk E f n ms0 ms wl none []:=
 ⟨h.len,h.new,h.old,h.here,h.wt,fun i j hi hn _ e=>by
  by_cases z:i=r
  ·subst z;exact h.nbs j (hE j e)
  ·exact h.cl i j hi hn (fun y=>z (Option.some.inj y).symm) e,fun j hj=>absurd hj List.not_mem_nil,fun i z=>(by cases z),h.few⟩
structure Mkd (E:Nat->Nat->Prop) (f n:Nat) (ms0 ms:List Nat):Prop where
 len:ms.length=n
 is:∀ i m:Nat,ms[i]?=some m->(gW E f i/\m=f)\/(¬gW E f i/\ms0[i]?=some m)
theorem Mk.done {E:Nat->Nat->Prop} {f n:Nat} {ms0 ms:List Nat} (h:Mk E f n ms0 ms [] none []):Mkd E f n ms0 ms:=by
 have c:∀ i,gW E f i->ms[i]?=some f:=fun i hc=>by
  induction hc with
  |refl=>exact h.here
  |step _ e ih=>exact h.cl _ _ ih List.not_mem_nil (fun z=>by cases z) e
 refine ⟨h.len,fun i m hi=>?_⟩
 by_cases z:m=f
 ·subst z;exact .inl ⟨h.new i hi,rfl⟩
 ·exact .inr ⟨fun y=>z (by rw [c i y] at hi;exact (Option.some.inj hi).symm),h.old i m hi z⟩
structure Lo (E:Nat->Nat->Prop) (n k:Nat) (ms:List Nat):Prop where
 len:ms.length=n
 is:∀ i m:Nat,ms[i]?=some m->(m=n/\∀ h,h<k->¬gW E h i)\/(m<k/\oH E i m)
theorem Lo.first {E:Nat->Nat->Prop} {n:Nat}:Lo E n 0 (List.replicate n n):=by
 refine ⟨List.length_replicate,fun i m h=>.inl ⟨?_,fun h hh=>absurd hh (Nat.not_lt_zero _)⟩⟩
 rw [List.getElem?_replicate] at h
 split at h
 ·exact (Option.some.inj h).symm
 ·cases h
theorem Lo.no {E:Nat->Nat->Prop} {n k:Nat} {ms:List Nat} (h:Lo E n k ms) (hk:k<n):∀ i:Nat,ms[i]?≠some k:=fun i z=>by
 rcases h.is i k z with ⟨y,_⟩|⟨y,_⟩<;>omega
theorem Lo.mark {E:Nat->Nat->Prop} {n k:Nat} {ms ms':List Nat} (sy:∀ a b,E a b->E b a) (h:Lo E n k ms) (hk:k<n) (hn:ms[k]?=some n) (hm:Mkd E k n ms ms'):Lo E n (k+1) ms':=by
 have hno:∀ j,j<k->¬gW E j k:=by
  rcases h.is k n hn with ⟨_,y⟩|⟨y,_⟩
  ·exact y
  ·omega
 refine ⟨hm.len,fun i m hi=>?_⟩
 rcases hm.is i m hi with ⟨c,rfl⟩|⟨c,e⟩
 ·refine .inr ⟨Nat.lt_succ_self _,⟨c.symm sy,fun j hj=>?_⟩⟩
  by_cases z:j<m
  ·exact absurd ((hj.symm sy).trans (c.symm sy)) (hno j z)
  ·omega
 ·rcases h.is i m e with ⟨y,y2⟩|⟨y,y2⟩
  ·refine .inl ⟨y,fun j hj=>?_⟩
   by_cases z:j=k
   ·rw [z];exact c
   ·exact y2 j (by omega)
  ·exact .inr ⟨by omega,y2⟩
theorem Lo.skip {E:Nat->Nat->Prop} {n k m:Nat} {ms:List Nat} (sy:∀ a b,E a b->E b a) (h:Lo E n k ms) (hn:ms[k]?=some m) (hm:m≠n):Lo E n (k+1) ms:=by
 refine ⟨h.len,fun i m' hi=>?_⟩
 rcases h.is i m' hi with ⟨y,y2⟩|⟨y,y2⟩
 ·refine .inl ⟨y,fun j hj=>?_⟩
  by_cases z:j=k
  ·subst z
   rcases h.is j m hn with ⟨x,_⟩|⟨x,x2⟩
   ·exact absurd x hm
   ·exact fun c=>y2 m x ((x2.c.symm sy).trans c)
  ·exact y2 j (by omega)
 ·exact .inr ⟨by omega,y2⟩
theorem Lo.done {E:Nat->Nat->Prop} {n:Nat} {ms:List Nat} (h:Lo E n n ms):∀ i m:Nat,ms[i]?=some m->oH E i m:=fun i m hi=>by
 have hl:i<ms.length:=(List.getElem?_eq_some_iff.mp hi).1
 have:=h.len
 rcases h.is i m hi with ⟨_,y⟩|⟨_,y⟩
 ·exact absurd .refl (y i (by omega))
 ·exact y
def qO (g:List (List Nat)) (i j:Nat):List (List Nat):=g.set i (g.getD i []++[j])
theorem pT (g:List (List Nat)) (i j:Nat):(qO g i j).length=g.length:=List.length_set
theorem Er {g:List (List Nat)} {i j a b:Nat} (hi:i<g.length):b∈(qO g i j).getD a []↔b∈g.getD a []\/(a=i/\b=j):=by
 unfold qO
 rw [List.getD_eq_getElem?_getD]
 by_cases z:a=i
 ·subst z
  rw [List.getElem?_set_self hi]
  show b∈g.getD a []++[j]↔_
  rw [List.mem_append,List.mem_singleton]
  exact ⟨fun h=>h.imp_right fun y=>⟨rfl,y⟩,fun h=>h.imp_right fun y=>y.2⟩
 ·rw [List.getElem?_set_ne (Ne.symm z),<-List.getD_eq_getElem?_getD]
  constructor
  ·exact .inl
  ·rintro (h|⟨h,_⟩)
   ·exact h
   ·exact absurd h z
end Br1
namespace Br1
open PySem PySem.Spec PyProof.Rows L2
def vN (n:Nat):V:=V.int n
structure fX (H:Hp) (h:Addr) (as:List Addr) (g:List (List Nat)):Prop where
 hh:H h=some (.lst (as.map V.ref))
 al:Paired (fun a nb=>H a=some (.lst (nb.map vN))) as g
def jH (g:List (List Nat)) (i j:Nat):Prop:=j∈g.getD i []
theorem Jn {n j:Nat} (h:j<n):Sv n (j:Int)=some j:=by
 unfold Sv
 rw [if_pos (by omega),if_pos (by omega)]
 rfl
theorem Oz {ms:List Nat} {k m:Nat} (h:ms[k]?=some m):Sn (ms.map vN) (k:Int)=some (vN m):=hU (by rw [List.getElem?_map,h];rfl)
structure MkS (H:Hp) (l wq:Addr) (ms wl:List Nat) (H':Hp):Prop where
 sx:SX l H H'
 ll:H' l=some (.lst (ms.map vN))
 lw:H' wq=some (.lst (wl.map vN))
section
variable {P:Program} {w:World} {K:PySem.W.Frag} {mg:Str->Option Value} {base:Heap}
def Fv:Sp:=fun vs H Q _=>∃ (f n:Nat) (h l:Addr) (as:List Addr) (g:List (List Nat)) (ms0:List Nat),vs=[vN f,.ref h,.ref l]/\fX H h as g/\H l=some (.lst (ms0.map vN))/\l≠h/\l∉as/\g.length=n/\ms0.length=n/\f<n/\n<=256/\(∀ i:Nat,ms0[i]?≠some f)/\(∀ i j,jH g i j->j<n)/\
 ∀ (H':Hp) (ms:List Nat),SX l H H'->H' l=some (.lst (ms.map vN))->Mkd (jH g) f n ms0 ms->Q .non H'
theorem pV:aP ["first","held","least","waiting","reached_last","k"] ["first","held","least"] (aH wB):=⟨rfl,rfl,rfl,by decide+kernel,rfl,by decide+kernel,by decide+kernel⟩
theorem Sf {f:Addr} {fd:FuncData} (F:fD K "mark_group" "mark_group" wB f fd) (hlen:mg "len"=none):bO P w K mg base bS 1 f fd ["first","held","least"] Fv:=by
 refine F.ok pV (fun vs H Q E h=>?_) (fun cdv A outer s H vs Q E hr h=>?_)
 ·obtain ⟨f,n,h,l,as,g,ms0,rfl,_⟩:=h
  rfl
 ·obtain ⟨f,n,h,l,as,g,ms0,rfl,hh,hl,nlh,nla,gl,ml,fl,n256,no,eb,k⟩:=h
  refine ⟨_,aE (Ow (pv 0) (Qe (pv 2) (pv 0) Ei)) (aE (bA (i:=3) pV.nd rfl (Or.inl rfl) (dL (aA (pv 0) aF)))
   (aG (iQ PassesOwn.never (dA (qT (bN bJ (by rfl) hlen PySem.boot_len (aA (pv 3) aF)) aJ))
    (aE (bA (i:=4) pV.nd rfl (Or.inl rfl) (Qh PySem.F.plainAttrs_list PySem.F.slot_list_pop PySem.F.type_list_pop Pn (pv 3)))
    (aG (eA PassesOwn.never rfl (qN (bV fF (pv 1) (pv 4) (fun _ _=>rfl))) (bH (i:=5) pV.nd rfl (Or.inl rfl))
     (aG (dS (dA (Yl (bV fF (pv 2) (pv 5) (fun _ _=>rfl)) (pv 0)))
      (aE (Ow (pv 0) (Qe (pv 2) (pv 5) Ei)) (aG (bZ (mH PySem.F.plainAttrs_list PySem.F.slot_list_append PySem.F.type_list_append eI (pv 3) (aA (pv 5) aF))))) bW)))))))),?_⟩
  have hsl:=bI
  refine ⟨_,rfl,_,rfl,_,rfl,l,_,f,f,rfl,rfl,hl,Jn (by rw [List.length_map,ml];exact fl),?_⟩
  have e1:(ms0.map vN).set f (vN f)=(ms0.set f f).map vN:=List.map_set.symm
  rw [e1]
  have S1:SX l H (upd H l (.lst ((ms0.set f f).map vN))):=SX.upd _
  have l1:upd H l (.lst ((ms0.set f f).map vN)) l=some (.lst ((ms0.set f f).map vN)):=aC
  generalize upd H l (.lst ((ms0.set f f).map vN))=H1 at S1 l1
  refine ⟨_,rfl,by show 1<=sizeLine;decide,fun wq hwq=>?_⟩
  have nlw:l≠wq:=aD l1 hwq
  have hwH:H wq=none:=by
   cases e:H wq with
   |none=>rfl
   |some o=>rw [S1 _ _ e (Ne.symm nlw)] at hwq;cases hwq
  have M1:Mk (jH g) f n ms0 (ms0.set f f) [f] none []:=Mk.first ml fl no
  have B1:MkS H l wq (ms0.set f f) [f] (upd H1 wq (.lst [vN f])):=⟨fun b o e nb=>by rw [aB (aD (S1 _ _ e nb) hwq)];exact S1 _ _ e nb,by rw [aB nlw];exact l1,aC⟩
  have F1:=M1.few
  generalize upd H1 wq (.lst [vN f])=H2 at B1
  refine ⟨fun m σ H'=>∃ ms wl v4 v5,σ=[some (vN f),some (.ref h),some (.ref l),some (.ref wq),v4,v5]/\MkS H l wq ms wl H'/\Mk (jH g) f n ms0 ms wl none []/\wl.length+No f ms<=m,
   ⟨n,_,_,none,none,rfl,B1,M1,F1⟩,?_⟩
  rintro m σ H3 ⟨ms,wl,v4,v5,rfl,B3,M3,hm⟩
  refine ⟨_,rfl,wq,_,rfl,.inl (dB.of B3.lw),_,_,rfl,rfl,_,rfl,bX (fun hw=>?_) (fun hw=>?_)⟩
  ·have hw:(0:Int)<((wl.map vN).length:Int):=of_decide_eq_true hw
   rw [List.length_map] at hw
   obtain ⟨wl',r,rfl⟩:∃ wl' r,wl=wl'++[r]:=⟨wl.dropLast,wl.getLast (by intro z;rw [z] at hw;cases hw),(List.dropLast_concat_getLast _).symm⟩
   obtain ⟨M4,F4⟩:=M3.pop
   have hr4:=M4.rr r rfl
   have hrn:r<g.length:=by
    have:=(List.getElem?_eq_some_iff.mp hr4).1
    rw [M4.len] at this
    omega
   obtain ⟨nb,enb⟩:∃ nb,g[r]?=some nb:=⟨_,List.getElem?_eq_getElem hrn⟩
   obtain ⟨a,ea,ha⟩:=cX hh.al enb
   have nal:a≠l:=fun z=>nla (by rw [<-z];exact List.mem_of_getElem? ea)
   have eE:∀ j,jH g r j↔j∈nb:=fun j=>by
    unfold jH
    rw [List.getD_eq_getElem?_getD,enb]
    exact Iff.rfl
   rw [List.length_append,List.length_singleton] at hm
   refine ⟨fun σ' H'=>∃ ms wl v4 v5,σ'=[some (vN f),some (.ref h),some (.ref l),some (.ref wq),v4,v5]/\MkS H l wq ms wl H'/\Mk (jH g) f n ms0 ms wl none []/\wl.length+No f ms+1<=m,fun σ' H' ⟨ms,wl,v4,v5,z1,z2,z3,z4⟩=>⟨m - 1,by omega,ms,wl,v4,v5,z1,z2,z3,by omega⟩,?_⟩
   refine ⟨_,rfl,.inl ⟨rfl,_,dB.of B3.lw⟩,wq,_,vN r,rfl,rfl,B3.lw,(by rw [List.map_append,List.length_append,List.getElem?_append_right (by show _<=_+1 - 1;omega)];show [vN r][_+1 - 1 - _]?=_;rw [Nat.add_sub_cancel,Nat.sub_self];rfl),?_⟩
   have ed:((wl'++[r]).map vN).dropLast=wl'.map vN:=by rw [List.map_append];exact List.dropLast_concat
   rw [ed]
   have B4:MkS H l wq ms wl' (upd H3 wq (.lst (wl'.map vN))):=⟨fun b o e nb=>by rw [aB (aD e hwH)];exact B3.sx _ _ e nb,by rw [aB nlw];exact B3.ll,aC⟩
   generalize upd H3 wq (.lst (wl'.map vN))=H4 at B4
   refine ⟨_,rfl,_,rfl,h,_,_,.ref a,rfl,rfl,dB.of (B4.sx _ _ hh.hh (Ne.symm nlh)),hU (by rw [List.getElem?_map,ea];rfl),a,rfl,⟨_,dB.of (B4.sx _ _ ha nal)⟩,?_⟩
   refine Dh (K:=K) (xs:=nb.map vN) (fun i σ H'=>∃ ms wl v5,σ=[some (vN f),some (.ref h),some (.ref l),some (.ref wq),some (vN r),v5]/\MkS H l wq ms wl H'/\Mk (jH g) f n ms0 ms wl (some r) (nb.take i)/\wl.length+No f ms+1<=m)
    ⟨ms,wl',v5,rfl,B4,M4,by omega⟩ (fun i σ H' _ ⟨_,_,_,_,z,_⟩=>dB.of (z.sx _ _ ha nal)) ?_ ?_
   ·rintro i x σ H5 ex ⟨ms5,wl5,v5,rfl,B5,M5,hm5⟩
    rw [List.getElem?_map] at ex
    cases ek:nb[i]? with
    |none=>rw [ek] at ex;cases ex
    |some kk=>
     rw [ek] at ex
     cases ex
     have hk:jH g r kk:=(eE kk).mpr (List.mem_of_getElem? ek)
     have hkn:=eb _ _ hk
     obtain ⟨mk,emk⟩:∃ mk,ms5[kk]?=some mk:=⟨_,List.getElem?_eq_getElem (by rw [M5.len];exact hkn)⟩
     have et:nb.take (i+1)=nb.take i++[kk]:=by rw [List.take_succ,ek];rfl
     refine ⟨_,rfl,_,rfl,l,_,_,_,rfl,rfl,dB.of B5.ll,Oz emk,_,rfl,_,_,rfl,rfl,_,rfl,bX (fun hne=>?_) (fun hne=>?_)⟩
     ·have hne:mk≠f:=fun z=>by
       rw [z] at hne
       exact absurd hne (by simp)
      obtain ⟨M6,e6⟩:=M5.mark emk hne hk
      have hfw:=M5.few
      refine ⟨_,rfl,_,rfl,_,rfl,l,_,kk,kk,rfl,rfl,B5.ll,Jn (by rw [List.length_map,M5.len];exact hkn),?_⟩
      have e7:(ms5.map vN).set kk (vN f)=(ms5.set kk f).map vN:=List.map_set.symm
      rw [e7]
      refine ⟨_,rfl,.inl ⟨rfl,_,dB.of (by rw [aB (Ne.symm nlw)];exact B5.lw)⟩,_,rfl,wq,_,vN kk,rfl,rfl,(by rw [aB (Ne.symm nlw)];exact B5.lw),(by rw [List.length_map];omega),?_⟩
      refine ⟨ms5.set kk f,wl5++[kk],_,rfl,⟨fun b o e nb'=>?_,?_,?_⟩,by rw [et];exact M6,by omega⟩
      ·rw [aB (aD e hwH),aB nb']
       exact B5.sx _ _ e nb'
      ·rw [aB nlw,aC]
      ·rw [aC,List.map_append]
       rfl
     ·have hne:mk=f:=Decidable.byContradiction fun z=>hne (by
       simp
       omega)
      refine ⟨ms5,wl5,_,rfl,B5,?_,hm5⟩
      rw [et]
      exact M5.skip (by rw [emk,hne])
   ·rintro σ H5 ⟨ms5,wl5,v5,rfl,B5,M5,hm5⟩
    rw [List.length_map,List.take_length] at M5
    exact ⟨ms5,wl5,_,_,rfl,B5,M5.fin fun j hj=>(eE j).mp hj,hm5⟩
  ·have hw:¬(0:Int)<((wl.map vN).length:Int):=fun z=>hw (decide_eq_true z)
   rw [List.length_map] at hw
   have:wl=[]:=List.length_eq_zero_iff.mp (by omega)
   subst this
   exact k _ _ B3.sx B3.ll M3.done
end
end Br1
namespace L2
open PySem PySem.Spec PyProof.Rows
theorem Ll {d:Addr} {o:Obj} {aI:List (List dR×V)} {g:TG} {tb:TS} {D:fT} {σ:St} {H:Hp} (Pv:Nat->St->Hp->Prop) (h0:Pv 0 σ H) (hl:∀ i σ H,i<=aI.length->Pv i σ H->H d=some (.frz o (.dT aI)))
  (hs:∀ i σ H k v q,aI[i]?=some (k,v)->Pv i σ H->H q=some (.tup (k.map kV))->g (.ref q) σ H fun σ2 H2=>tb {D with nx:=Pv (i+1),ct:=Pv (i+1),bk:=D.nx} σ2 H2) (hd:∀ σ H,Pv aI.length σ H->D.nx σ H):
  ∃ W:Nat->Nat->St->Hp->Prop,(∃ m,W 0 m σ H)/\∀ i m σ H,W i m σ H->
   ((El d o aI).stop i H/\D.nx σ H)\/((El d o aI).go i H/\∃ N:St->Hp->Prop,(∀ σ' H',N σ' H'->∃ m',m'<m/\W (i+1) m' σ' H')/\∀ x H',(El d o aI).yld i H x H'->g x σ H' fun σ2 H2=>tb {D with nx:=N,ct:=N,bk:=D.nx} σ2 H2):=by
 refine ⟨fun i m σ H=>m=aI.length - i/\i<=aI.length/\Pv i σ H,⟨aI.length,by simp,Nat.zero_le _,h0⟩,?_⟩
 rintro i m σ H ⟨rfl,hi,p⟩
 have q:=hl i σ H hi p
 by_cases hlt:i<aI.length
 ·refine .inr ⟨⟨q,hlt⟩,Pv (i+1),fun σ' H' p'=>⟨aI.length - (i+1),by (clear hi;omega),rfl,hlt,p'⟩,fun x H' y=>?_⟩
  obtain ⟨e,k,v,a,e1,rfl,e2⟩:=y
  subst e
  exact hs i σ _ k v a e1 p e2
 ·have e:i=aI.length:=by omega
  subst e
  exact .inl ⟨⟨q,Nat.le_refl _⟩,hd σ H p⟩
theorem vO {α β:Type} {R R':α->β->Prop} {as:List α} {bs:List β} (h:Paired R as bs) (f:∀ a∈as,∀ b,R a b->R' a b):Paired R' as bs:=by
 induction h with
 |nil=>exact .nil
 |cons r t ih=>exact .cons (f _ List.mem_cons_self _ r) (ih fun a ha b z=>f a (List.mem_cons_of_mem _ ha) b z)
theorem uU {α β:Type} {R R':α->β->Prop} {a:α} {x:β} (hx:R' a x) (ho:∀ a' b,a'≠a->R a' b->R' a' b):∀ {as:List α} {bs:List β},Paired R as bs->as.Nodup->∀ {i:Nat},as[i]?=some a->Paired R' as (bs.set i x)
 |_,_,.nil,_,i,h=>by simp at h
 |a0::as,b0::bs,.cons r t,nd,0,h=>by
  cases h
  have nd:=List.nodup_cons.mp nd
  exact .cons hx (vO t fun a' ha' b z=>ho a' b (fun e=>nd.1 (by rw [<-e];exact ha')) z)
 |a0::as,b0::bs,.cons r t,nd,i+1,h=>by
  have nd:=List.nodup_cons.mp nd
  exact .cons (ho _ _ (fun e=>nd.1 (by rw [e];exact List.mem_of_getElem? h)) r) (uU hx ho t nd.2 h)
end L2
namespace Br1
open PySem PySem.Spec PyProof.Rows L2
theorem fX.sub {H H':Hp} {h:Addr} {as:List Addr} {g:List (List Nat)} (x:fX H h as g) (f:∀ a o,(a=h\/a∈as)->H a=some o->H' a=some o):fX H' h as g:=
 ⟨f _ _ (.inl rfl) x.hh,vO x.al fun a ha b z=>f _ _ (.inr ha) z⟩
theorem fX.put {H:Hp} {h a:Addr} {as:List Addr} {g:List (List Nat)} {i j:Nat} (x:fX H h as g) (nd:as.Nodup) (hn:h∉as) (ea:as[i]?=some a):fX (upd H a (.lst ((g.getD i []).map vN++[vN j]))) h as (qO g i j):=by
 have ha:a∈as:=List.mem_of_getElem? ea
 refine ⟨by rw [aB (fun z=>hn (by rw [z];exact ha))];exact x.hh,?_⟩
 unfold qO
 refine uU ?_ (fun a' b ne z=>by rw [aB ne];exact z) x.al nd ea
 rw [aC,List.map_append]
 rfl
theorem fX.get {H:Hp} {h:Addr} {as:List Addr} {g:List (List Nat)} {i:Nat} (x:fX H h as g) (hi:i<g.length):∃ a,as[i]?=some a/\H a=some (.lst ((g.getD i []).map vN)):=by
 obtain ⟨a,ea,z⟩:=cX x.al (List.getElem?_eq_getElem hi)
 refine ⟨a,ea,?_⟩
 rw [List.getD_eq_getElem?_getD,List.getElem?_eq_getElem hi]
 exact z
theorem Rq {n a b:Nat}:¬jH (List.replicate n []) a b:=by
 unfold jH
 rw [List.getD_eq_getElem?_getD,List.getElem?_replicate]
 split<;>exact List.not_mem_nil
theorem wT {g:List (List Nat)} {t i j:Nat} (h:∀ k,(g.getD k []).length<=t):∀ k,((qO g i j).getD k []).length<=t+1:=fun k=>by
 have hk:=h k
 have hi:=h i
 unfold qO
 rw [List.getD_eq_getElem?_getD] at hk ⊢
 by_cases z:k=i
 ·subst z
  by_cases hl:k<g.length
  ·rw [List.getElem?_set_self hl]
   show (g.getD k []++[j]).length<=_
   rw [List.length_append,List.length_singleton]
   omega
  ·rw [List.getElem?_eq_none (by rw [List.length_set];omega)]
   exact Nat.zero_le _
 ·rw [List.getElem?_set_ne (Ne.symm z)]
  omega
section
variable {P:Program} {w:World} {K:PySem.W.Frag} {mg:Str->Option Value} {base:Heap}
def Bt:Sp:=fun vs H Q _=>∃ (n:Nat) (d:Addr) (ps:List P2),vs=[vN n,.ref d]/\H d=some (.dT (sN (pD ps)))/\n<=256/\(∀ a b:Int,(a,b)∈ps->∃ i j:Nat,a=i/\b=j/\i<n/\j<n)/\ps.length<=5120000/\
 ∀ (H':Hp) (l:Addr) (ms:List Nat),aK H H'->H' l=some (.lst (ms.map vN))->Do ps n ms->Q (.ref l) H'
abbrev Jx:List Str:=["size","counts","held","k","pair","least"]
theorem iF:aP Jx ["size","counts"] (aH nO):=⟨rfl,rfl,rfl,by decide+kernel,rfl,by decide+kernel,by decide+kernel⟩
theorem Ku {f:Addr} {fd:FuncData} (F:fD K "least_of_groups" "least_of_groups" nO f fd) (hrange:mg "range"=none) (L1:dJ P w K mg base "mark_group" bS 1 ["first","held","least"] Fv):bO P w K mg base bS 2 f fd ["size","counts"] Bt:=by
 obtain ⟨g1,gd1,G1,b1,k1,h1⟩:=L1.ex
 refine F.ok iF (fun vs H Q E h=>?_) (fun cdv A outer s H vs Q E hr h=>?_)
 ·obtain ⟨n,d,ps,rfl,_⟩:=h
  rfl
 ·obtain ⟨n,d,ps,rfl,hd,n256,pl,psl,k⟩:=h
  refine ⟨_,aE (wC (i:=2) (te:=aAj hZ) (own:=[("k",3)]) rfl iF.nd rfl rfl rfl (iI rfl hrange (aA (pv 0) aF)) (jO (N:=Jx) (sc:=aH nO) (by decide+kernel))
      (fun _ _ _ _ _=>bH (i:=3) iF.nd rfl (Or.inl rfl)) (fun _ _ _ _ _=>pK) (fun _ _ _ _ _=>dL aF))
   (aE (hG (eA PassesOwn.never rfl (zX (pv 1)) (bH (i:=4) iF.nd rfl (Or.inl rfl))
    (aE (bZ (mH PySem.F.plainAttrs_list PySem.F.slot_list_append PySem.F.type_list_append eI (bV fF (pv 2) (bV bU (pv 4) aJ (fun _ _=>rfl)) (fun _ _=>rfl)) (aA (bV bU (pv 4) aJ (fun _ _=>rfl)) aF)))
    (aG (bZ (mH PySem.F.plainAttrs_list PySem.F.slot_list_append PySem.F.type_list_append eI (bV fF (pv 2) (bV bU (pv 4) aJ (fun _ _=>rfl)) (fun _ _=>rfl)) (aA (bV bU (pv 4) aJ (fun _ _=>rfl)) aF)))))))
   (aE (bA (i:=5) iF.nd rfl (Or.inl rfl) (cU aAe (dL (aA (pv 0) aF)) (pv 0)))
   (aE (eA PassesOwn.never rfl (iI rfl hrange (aA (pv 0) aF)) (bH (i:=3) iF.nd rfl (Or.inl rfl))
    (aG (dS (dA (Xp (bV fF (pv 5) (pv 3) (fun _ _=>rfl)) (pv 0))) (aG (bZ (aT G1 hr (by rfl) h1 k1 b1 .nil aY (aA (pv 3) (aA (pv 2) (aA (pv 5) aF)))))) bW)))
   (aG (aW (pv 5)))))),?_⟩
  have hsl:=fC
  have tk:=Re ps
  refine ⟨_,rfl,(n:Int),rfl,by omega,by omega,fun D hD=>?_⟩
  refine Ry (n:=n) (fun i H'=>∃ as:List Addr,as.length=i/\i<=n/\aK H H'/\H' D=some (.lst (as.map V.ref))/\as.Nodup/\D∉as/\∀ a∈as,H a=none/\H' a=some (.lst []))
   ⟨[],rfl,Nat.zero_le _,aK.new hD,aC,List.nodup_nil,List.not_mem_nil,fun a ha=>absurd ha List.not_mem_nil⟩ ?_ ?_
  ·rintro i H1 hi ⟨as,al,_,S1,hD1,nd,nD,ha⟩
   refine ⟨rfl,by show 0<=sizeLine;omega,fun p hp=>?_⟩
   have hpD:D≠p:=aD hD1 hp
   have hpa:p∉as:=fun z=>by rw [(ha p z).2] at hp;cases hp
   refine ⟨_,by rw [aB hpD];exact hD1,by rw [List.length_map];omega,as++[p],by rw [List.length_append,al];rfl,hi,fun b o e=>?_,?_,?_,?_,?_⟩
   ·rw [aB (aD e hD),aB (aD (S1 _ _ e) hp)]
    exact S1 _ _ e
   ·rw [aC,List.map_append]
    rfl
   ·rw [List.nodup_append]
    refine ⟨nd,List.nodup_cons.mpr ⟨List.not_mem_nil,List.nodup_nil⟩,fun x hx y hy e=>?_⟩
    rw [List.mem_singleton.mp hy] at e
    exact hpa (by rw [<-e];exact hx)
   ·intro z
    rcases List.mem_append.mp z with z|z
    ·exact nD z
    ·exact hpD (List.mem_singleton.mp z)
   ·intro a z
    rcases List.mem_append.mp z with z|z
    ·refine ⟨(ha a z).1,?_⟩
     rw [aB (fun e=>nD (by rw [<-e];exact z)),aB (fun e=>hpa (by rw [<-e];exact z))]
     exact (ha a z).2
    ·rw [List.mem_singleton.mp z]
     refine ⟨S1.free hp,?_⟩
     rw [aB (Ne.symm hpD),aC]
  ·rintro H1 ⟨as,al,_,S1,hD1,nd,nD,ha⟩
   have hdD:d≠D:=aD hd hD
   have hda:d∉as:=fun z=>by rw [(ha d z).1] at hd;cases hd
   have ga:fX H1 D as (List.replicate n []):=by
    refine ⟨hD1,?_⟩
    have key:∀ (as:List Addr),(∀ a∈as,H1 a=some (.lst []))->Paired (fun a nb=>H1 a=some (.lst (nb.map vN))) as (List.replicate as.length []):=by
     intro as
     induction as with
     |nil=>intro _;exact .nil
     |cons a r ih=>intro z;exact .cons (z a List.mem_cons_self) (ih fun b hb=>z b (List.mem_cons_of_mem _ hb))
    have:=key as fun a z=>(ha a z).2
    rwa [al] at this
   have hfr:∀ a,(a=D\/a∈as)->H a=none:=fun a z=>by
    rcases z with z|z
    ·rw [z];exact hD
    ·exact (ha a z).1
   refine ⟨d,_,S1 _ _ hd,trivial,fun od=>?_⟩
   refine ⟨_,rfl,d,od,rfl,.inr ⟨_,aC,?_⟩⟩
   have hnd:∀ a,(a=D\/a∈as)->a≠d:=fun a z e=>by rw [<-e,hfr a z] at hd;cases hd
   refine Ll (fun i σ H'=>∃ g v3 v4,σ=[some (vN n),some (.ref d),some (.ref D),v3,v4,none]/\SX d H H'/\H' d=some (.frz od (.dT (sN (pD ps))))/\fX H' D as g/\g.length=n/\(∀ a b,jH g a b↔Xq (((pD ps).map (·.1)).take i) a b)/\∀ k,(g.getD k []).length<=2 * i)
    ⟨List.replicate n [],none,none,rfl,fun b o e nb=>by rw [aB nb];exact S1 _ _ e,aC,ga.sub fun a o z e=>by rw [aB (hnd a z)];exact e,List.length_replicate,fun a b=>⟨fun z=>absurd z Rq,fun z=>by rcases z with z|z<;>exact absurd z List.not_mem_nil⟩,fun k=>?_⟩ ?_ ?_ ?_
   ·rw [List.getD_eq_getElem?_getD,List.getElem?_replicate]
    split<;>exact Nat.le_refl _
   ·rintro i σ H2 hi ⟨g,v3,v4,rfl,S2,z,_⟩
    exact z
   ·rintro i σ H2 kk v q e ⟨g,v3,v4,rfl,S2,hd2,ga2,gl,ge,gs⟩ hq
    have hil:i<(pD ps).length:=by
     have:=(List.getElem?_eq_some_iff.mp e).1
     rwa [By] at this
    have htl:=tk.len
    obtain ⟨cc,ec⟩:∃ cc,(pD ps)[i]?=some cc:=⟨_,List.getElem?_eq_getElem hil⟩
    obtain ⟨⟨x,y⟩,cv⟩:=cc
    have e':(sN (pD ps))[i]?=some (gM (x,y),V.int cv):=by unfold sN;rw [List.getElem?_map,ec];rfl
    rw [e'] at e
    cases e
    have emap:((pD ps).map (·.1))[i]?=some (x,y):=by rw [List.getElem?_map,ec];rfl
    obtain ⟨x',y',rfl,rfl,hx,hy⟩:=pl x y ((tk.mem _).mp (List.mem_of_getElem? emap))
    have hq:H2 q=some (.tup [vN x',vN y']):=hq
    obtain ⟨a,ea,hha⟩:=ga2.get (i:=x') (by omega)
    have gsx:=gs x'
    refine ⟨_,rfl,_,rfl,q,_,_,vN x',rfl,rfl,cN.of hq,rfl,D,_,_,.ref a,rfl,rfl,dB.of ga2.hh,hU (by rw [List.getElem?_map,ea];rfl),.inl ⟨rfl,_,dB.of hha⟩,_,rfl,q,_,_,vN y',rfl,rfl,cN.of hq,rfl,a,_,_,rfl,rfl,hha,(by rw [List.length_map];omega),?_⟩
    have ma:a∈as:=List.mem_of_getElem? ea
    have nqa:q≠a:=fun z=>by rw [z,hha] at hq;cases hq
    have ga3:fX (upd H2 a (.lst ((g.getD x' []).map vN++[vN y']))) D as (qO g x' y'):=ga2.put nd nD ea
    have S3:SX d H (upd H2 a (.lst ((g.getD x' []).map vN++[vN y']))):=fun b o e nb=>by rw [aB (aD e (hfr a (.inr ma)))];exact S2 _ _ e nb
    have hd3:upd H2 a (.lst ((g.getD x' []).map vN++[vN y'])) d=some (.frz od (.dT (sN (pD ps)))):=by rw [aB (Ne.symm (hnd a (.inr ma)))];exact hd2
    have hq3:upd H2 a (.lst ((g.getD x' []).map vN++[vN y'])) q=some (.tup [vN x',vN y']):=by rw [aB nqa];exact hq
    generalize upd H2 a (.lst ((g.getD x' []).map vN++[vN y']))=H3 at ga3 S3 hd3 hq3
    obtain ⟨a2,ea2,hha2⟩:=ga3.get (i:=y') (by rw [pT];omega)
    have gs3:=wT (i:=x') (j:=y') gs
    have gsy:=gs3 y'
    refine ⟨_,rfl,_,rfl,q,_,_,vN y',rfl,rfl,cN.of hq3,rfl,D,_,_,.ref a2,rfl,rfl,dB.of ga3.hh,hU (by rw [List.getElem?_map,ea2];rfl),.inl ⟨rfl,_,dB.of hha2⟩,_,rfl,q,_,_,vN x',rfl,rfl,cN.of hq3,rfl,a2,_,_,rfl,rfl,hha2,(by rw [List.length_map];omega),?_⟩
    have ma2:a2∈as:=List.mem_of_getElem? ea2
    refine ⟨qO (qO g x' y') y' x',_,_,rfl,fun b o e nb=>by rw [aB (aD e (hfr a2 (.inr ma2)))];exact S3 _ _ e nb,by rw [aB (Ne.symm (hnd a2 (.inr ma2)))];exact hd3,ga3.put nd nD ea2,by rw [pT,pT];exact gl,fun b c=>?_,fun k=>?_⟩
    ·have et:((pD ps).map (·.1)).take (i+1)=((pD ps).map (·.1)).take i++[((x':Int),(y':Int))]:=by rw [List.take_succ,emap];rfl
     have q1:jH (qO (qO g x' y') y' x') b c↔jH (qO g x' y') b c\/(b=y'/\c=x'):=Er (by rw [pT];omega)
     have q2:jH (qO g x' y') b c↔jH g b c\/(b=x'/\c=y'):=Er (by omega)
     rw [q1,q2,ge,et]
     unfold Xq
     rw [List.mem_append,List.mem_append,List.mem_singleton,List.mem_singleton,Prod.mk.injEq,Prod.mk.injEq]
     constructor
     ·rintro (((z|z)|z)|z)
      ·exact .inl (.inl z)
      ·exact .inr (.inl z)
      ·exact .inl (.inr ⟨by rw [z.1],by rw [z.2]⟩)
      ·exact .inr (.inr ⟨by rw [z.2],by rw [z.1]⟩)
     ·rintro ((z|z)|(z|z))
      ·exact .inl (.inl (.inl z))
      ·exact .inl (.inr ⟨by omega,by omega⟩)
      ·exact .inl (.inl (.inr z))
      ·exact .inr ⟨by omega,by omega⟩
    ·have:=wT (i:=y') (j:=x') gs3 k
     omega
   ·rintro σ H2 ⟨g,v3,v4,rfl,S2,hd2,ga2,gl,ge,gs⟩
    refine ⟨hd2,?_⟩
    have eT:((pD ps).map (·.1)).take (sN (pD ps)).length=(pD ps).map (·.1):=by rw [By];exact List.take_of_length_le (by rw [List.length_map];exact Nat.le_refl _)
    rw [eT] at ge
    have ge:∀ a b,jH g a b↔Xq ps a b:=fun a b=>by
     rw [ge]
     unfold Xq
     rw [tk.mem,tk.mem]
    have eb:∀ i j,jH g i j->j<n:=fun i j z=>by
     rcases (ge i j).mp z with z|z
     ·obtain ⟨a,b,e1,e2,q1,q2⟩:=pl _ _ z
      omega
     ·obtain ⟨a,b,e1,e2,q1,q2⟩:=pl _ _ z
      omega
    have sy:∀ a b,jH g a b->jH g b a:=fun a b z=>(ge b a).mpr ((ge a b).mp z).symm
    have S3:aK H (upd H2 d (.dT (sN (pD ps)))):=fun b o e=>by
     by_cases z:b=d
     ·rw [z] at e ⊢
      rw [aC,<-hd,e]
     ·rw [aB z]
      exact S2 _ _ e z
    have ga3:fX (upd H2 d (.dT (sN (pD ps)))) D as g:=ga2.sub fun a o z e=>by rw [aB (hnd a z)];exact e
    generalize upd H2 d (.dT (sN (pD ps)))=H3 at S3 ga3
    refine ⟨_,rfl,by show 1<=sizeLine;omega,fun p1 hp1=>⟨_,rfl,p1,(n:Int),_,rfl,rfl,aC,by omega,by omega,?_,fun l hl=>?_⟩⟩
    ·show 1 * n<=sizeLine
     omega
    have er:(List.replicate (Int.toNat n) [vN n]).flatten=(List.replicate n n).map vN:=by
     show (List.replicate n [vN n]).flatten=_
     rw [List.map_replicate]
     generalize vN n=x
     generalize n=m
     induction m with
     |zero=>rfl
     |succ m ih=>rw [List.replicate_succ,List.flatten_cons,ih,List.replicate_succ];rfl
    have er:(List.replicate (Int.toNat n) ([vN n]:List V)).flatten=(List.replicate n n).map vN:=er
    have S4:aK H3 (upd (upd H3 p1 (.lst [vN n])) l (.lst (List.replicate (Int.toNat n) [vN n]).flatten)):=(aK.new hp1).trans (aK.new hl)
    have l4:upd (upd H3 p1 (.lst [vN n])) l (.lst (List.replicate (Int.toNat n) [vN n]).flatten) l=some (.lst ((List.replicate n n).map vN)):=by rw [aC,er]
    have hl3:H3 l=none:=(aK.new hp1).free hl
    generalize upd (upd H3 p1 (.lst [vN n])) l (.lst (List.replicate (Int.toNat n) [vN n]).flatten)=H4 at S4 l4
    have nlD:l≠D:=fun z=>by rw [z,ga3.hh] at hl3;cases hl3
    have hla:∀ a∈as,a≠l:=fun a z e=>by
     obtain ⟨j,hj⟩:=List.mem_iff_getElem?.mp z
     obtain ⟨a',ea',q⟩:=ga3.get (i:=j) (by rw [gl,<-al];exact (List.getElem?_eq_some_iff.mp hj).1)
     rw [hj] at ea'
     cases ea'
     rw [e,hl3] at q
     cases q
    have hlH:H l=none:=S3.free hl3
    refine ⟨_,rfl,(n:Int),rfl,by omega,by omega,?_⟩
    refine sB (n:=n) (fun i σ H'=>∃ ms v3,σ=[some (vN n),some (.ref d),some (.ref D),v3,v4,some (.ref l)]/\aK H H'/\fX H' D as g/\H' l=some (.lst (ms.map vN))/\Lo (jH g) n i ms)
     ⟨List.replicate n n,_,rfl,S3.trans S4,ga3.sub fun a o _ e=>S4 _ _ e,l4,Lo.first⟩ ?_ ?_
    ·rintro i σ H5 hi ⟨ms,v3',rfl,S5,ga5,l5,lo⟩
     obtain ⟨m,em⟩:∃ m,ms[i]?=some m:=⟨_,List.getElem?_eq_getElem (by rw [lo.len];exact hi)⟩
     have e0:(0:Int)+(i:Int)=i:=Int.zero_add _
     rw [e0]
     refine ⟨_,rfl,_,rfl,l,_,_,_,rfl,rfl,dB.of l5,Oz em,_,rfl,_,_,rfl,rfl,_,rfl,bX (fun he=>?_) (fun he=>?_)⟩
     ·have he:(m:Int)=(n:Int):=of_decide_eq_true he
      have he:m=n:=by omega
      subst he
      refine ⟨_,rfl,_,rfl,_,rfl,i,m,D,l,as,g,ms,rfl,ga5,l5,nlD,fun z=>hla l z rfl,gl,lo.len,hi,n256,lo.no hi,eb,fun H6 ms6 S6 l6 M6=>?_⟩
      refine ⟨ms6,_,rfl,fun b o e=>S6 _ _ (S5 _ _ e) (aD e hlH),ga5.sub fun a o z e=>S6 _ _ e ?_,l6,lo.mark sy hi em M6⟩
      rcases z with z|z
      ·rw [z];exact Ne.symm nlD
      ·exact hla a z
     ·have he:¬(m:Int)=(n:Int):=fun z=>he (decide_eq_true z)
      exact ⟨ms,_,rfl,S5,ga5,l5,lo.skip sy em (by omega)⟩
    ·rintro σ H5 ⟨ms,v3',rfl,S5,ga5,l5,lo⟩
     exact ⟨_,rfl,k H5 l ms S5 l5 ⟨lo.len,fun i m hm=>(lo.done i m hm).of_iff ge⟩⟩
end
def bld (ls:List (List Nat)):Br.Build:=⟨[],ls.map jN⟩
def Gp (i:Int) (lc lb:List Int):List Int:=rO (fun prs _ ls=>if (ls.length:Int)<=i then [-4] else [(((bld ls).head (prs.map dD) i.toNat:Nat):Int)]) lc lb
theorem Fj {i:Int} {lc lb:List Int} (hi:0<=i) (hc:Nr lc) (hb:Nr lb):PyWqasbx.group i lc lb=Gp i lc lb:=by
 show BuildsNeutral.shown (BrB.answer (.group (Hj lc) (Hj lb) i.toNat))=_
 unfold BrB.answer
 refine Ho hc hb fun prs nm ls d R=>?_
 have el:d.lines.length=ls.length:=by rw [R.dl,List.length_map]
 by_cases h:(ls.length:Int)<=i
 ·rw [if_pos h,if_pos (by omega)]
  rfl
 ·rw [if_neg h,if_neg (by omega)]
  have e:=R.dl
  obtain ⟨nm',L⟩:=d
  have e:L=ls.map jN:=e
  subst e
  rfl
theorem Sk {sg ow:CL}:(lM sg ow).length<=sg.length:=List.length_filterMap_le _ _
section
variable {P:Program} {w:World} {K:PySem.W.Frag} {mg:Str->Option Value} {base:Heap} {C CR CP CB CG CM:Addr}
def Bm (K:PySem.W.Frag):Sp:=fun vs H Q _=>∃ (i:Int) (c b:Addr) (lc lb:List Int),vs=[.int i,.ref c,.ref b]/\0<=i/\Nr lc/\Nr lb/\dB K H c (lc.map V.int)/\dB K H b (lb.map V.int)/\∀ (H':Hp) (l:Addr),H' l=some (.lst ((Gp i lc lb).map V.int))->Q (.ref l) H'
theorem Cv:aP ["i","c","b","given"] ["i","c","b"] (aH kX):=⟨rfl,rfl,rfl,by decide+kernel,rfl,by decide+kernel,by decide+kernel⟩
theorem Oa {f:Addr} {fd:FuncData} (F:fD K "group" "group" kX f fd) (T:GvT K CG) (TB:BdT K CB) (TM:Tp K CM) (hlen:mg "len"=none) (L1:dJ P w K mg base "read_right" bS 10 ["c","b"] (wS K CG CP CB CM)) (L2:dJ P w K mg base "clutches" bS 2 ["room"] (oP CM)) (L3:dJ P w K mg base "least_of_groups" bS 2 ["size","counts"] Bt):bO P w K mg base bS 11 f fd ["i","c","b"] (Bm K):=by
 obtain ⟨g1,gd1,G1,b1,k1,h1⟩:=L1.ex
 obtain ⟨g2,gd2,G2,b2,k2,h2⟩:=L2.ex
 obtain ⟨g3,gd3,G3,b3,k3,h3⟩:=L3.ex
 refine F.ok Cv (fun vs H Q E h=>?_) (fun cdv A outer s H vs Q E hr h=>?_)
 ·obtain ⟨i,c,b,lc,lb,rfl,_⟩:=h
  rfl
 ·obtain ⟨i,c,b,lc,lb,rfl,i0,bc,bb,hc,hb,k⟩:=h
  refine ⟨_,aE (bA (i:=3) Cv.nd rfl (Or.inl rfl) (aT G1 hr (by rfl) h1 k1 b1 .nil aY (aA (pv 1) (aA (pv 2) aF))))
   (aE (dS (dA (Je (aR (pv 3) rfl) aJ)) (aG (aW (dL (aA (aR (pv 3) rfl) aF)))) bW)
   (aE (dS (dA (aBb (pv 0) (bN bJ (by rfl) hlen PySem.boot_len (aA (aR (aR (pv 3) rfl) rfl) aF)))) (aG (aW (dL (aA (zQ rZ aJ) aF)))) bW)
   (aG (aW (dL (aA (bV fF (aT G3 (hr.mono (j:=2) (by decide)) (by rfl) h3 k3 b3 .nil aY (aA (bN bJ (by rfl) hlen PySem.boot_len (aA (aR (aR (pv 3) rfl) rfl) aF)) (aA (aT G2 (hr.mono (j:=2) (by decide)) (by rfl) h2 k2 b2 .nil aY (aA (aR (pv 3) rfl) aF)) aF))) (pv 0) (fun _ _=>rfl)) aF)))))),?_⟩
  refine ⟨_,rfl,_,rfl,c,b,lc,lb,rfl,hc,hb,fun H1 g S1 hgH hg=>?_⟩
  obtain ⟨dx,pa,bv,rv,rf,ft,hg,alt⟩:=Uy hg
  unfold Gp at k
  refine ⟨_,rfl,g,CG,dx,_,_,rfl,hg,T.cl,T.n1,rfl,_,_,rfl,rfl,_,rfl,bX (fun e=>?_) (fun e=>?_)⟩
  ·have e:rf<0:=of_decide_eq_true e
   rcases alt with ⟨_,hR⟩|⟨h0,_⟩
   ·rw [hR] at k
    exact ⟨_,rfl,g,CG,dx,_,_,rfl,hg,T.cl,T.n1,rfl,by show 1<=sizeLine;decide,fun l hl=>k _ l aC⟩
   ·omega
  ·have e:¬rf<0:=fun z=>e (decide_eq_true z)
   rcases alt with ⟨hlt,_⟩|⟨h0,prs,nm,ls,q,m,bs,eg,hR,fr,rfl,rfl,hpa,hps,hbd,hrm,hp64⟩
   ·exact absurd hlt e
   ·rw [hR] at k
    have RR:=Og bc bb eg fr
    obtain ⟨dm,s0,o0,wr,sg,ow,hm,hw,hs,ho,nso,eqs,ln,_⟩:=hrm
    obtain ⟨rfl,rfl⟩:=eqs fr
    obtain ⟨dxb,na,la,ts,hq,_,hla,hls,l256,_⟩:=hbd
    have hl:(ts.map V.ref).length=ls.length:=by rw [List.length_map];exact Paired.length hls
    refine ⟨_,rfl,_,rfl,g,CG,dx,_,_,rfl,hg,T.cl,T.n4,rfl,q,CB,dxb,_,_,rfl,hq,TB.cl,TB.n2,rfl,la,_,rfl,.inl (dB.of hla),_,_,rfl,rfl,_,rfl,bX (fun e3=>?_) (fun e3=>?_)⟩
    ·have e3:(((ts.map V.ref).length:Nat):Int)<=i:=of_decide_eq_true e3
     rw [hl] at e3
     rw [if_pos e3] at k
     exact ⟨_,rfl,by show 1<=sizeLine;decide,fun l hlz=>k _ l aC⟩
    ·have e3:¬(((ts.map V.ref).length:Nat):Int)<=i:=fun z=>e3 (decide_eq_true z)
     rw [hl] at e3
     rw [if_neg e3] at k
     refine ⟨_,rfl,g,CG,dx,_,_,rfl,hg,T.cl,T.n4,rfl,q,CB,dxb,_,_,rfl,hq,TB.cl,TB.n2,rfl,la,_,rfl,.inl (dB.of hla),?_⟩
     refine ⟨_,rfl,g,CG,dx,_,_,rfl,hg,T.cl,T.n5,rfl,m,dm,s0,o0,wr,_,_,rfl,hm,hs,ho,nso,RR.self,RR.sub,ln,fun H2 d S2 hdn hd=>?_⟩
     rw [hl]
     refine ⟨ls.length,d,aAf prs ls,rfl,hd,l256,fun a b hab=>?_,Nat.le_trans Sk ln,fun H3 l ms S3 h3 hms=>?_⟩
     ·obtain ⟨x,y,e1,e2,q1,q2⟩:=Jw RR hab
      rw [Rz] at q1 q2
      exact ⟨x,y,e1,e2,q1,q2⟩
     ·obtain ⟨v,ev⟩:∃ v,ms[i.toNat]?=some v:=⟨_,List.getElem?_eq_getElem (by rw [hms.1];omega)⟩
      have hat:=Oz ev
      rw [Int.toNat_of_nonneg i0] at hat
      refine ⟨_,rfl,l,_,_,_,rfl,rfl,dB.of h3,hat,by show 1<=sizeLine;decide,fun l2 hl2=>k _ l2 ?_⟩
      rw [aC,Gx (d:=bld ls) rfl RR hms ev]
      rfl
end
theorem Nh {P:Program} {w:World} {K:PySem.W.Frag} {h:Heap} {mg:Str->Option Value} {fa:Addr} (X:K.In h) (G:h.Ns mainGlobals mg) (hfa:mg "group"=some (.ref fa)) (k:∀ f∈ftC,f.P K) (k2:∀ f∈ftR,f.P K) (nl:PySem.W.nsIn K mainGlobals "len"=some none) (nr:PySem.W.nsIn K mainGlobals "range"=some none) (kc:jI K "clutches" "clutches" jS) (km:jI K "mark_group" "mark_group" wB) (kl:jI K "least_of_groups" "least_of_groups" nO) (kj:jI K "group" "group" kX):
  ∃ fd:FuncData,(∀ (s:Shared) (us:List Value),us.length=(["i","c","b"]:List Str).length->BindsTo s fd ⟨us,[]⟩ ((["i","c","b"]:List Str).zip us))/\∀ base:Heap,K.In base->base.Ns mainGlobals mg->bO P w K mg base bS 11 fa fd ["i","c","b"] (Bm K):=by
 obtain ⟨f,oc,od,kV,doc,pm,an,cdv,ct,osl,a,l,c,kp⟩:=kj
 have e:=hfa.symm.trans (PySem.W.mg_of X G a)
 cases e
 have F:=rC (st:=kX) l c kp
 refine ⟨PySem.W.fnOf "group" "group" (eN kX) (dO kX) (aH kX) .none kV doc pm an cdv ct,fun s us hu=>(by obtain ⟨a,b,c,rfl⟩:=_root_.L2.Yo hu;exact .of_eq rfl),fun base X2 G2=>?_⟩
 have L:=aCq (P:=P) (w:=w) (base:=base) X G k
 have R:=aAu X G L k2
 have M1:dJ P w K mg base "clutches" bS 2 ["room"] (oP (dN K "Room")):=jI.fn0 kc X G (fun f fd F=>Dz F R.TM L.up L.stud L.tube) fun _ _ _ _ _ _ us hl=>(by obtain ⟨a,rfl⟩:=_root_.L2.tM hl;rfl)
 have M2:dJ P w K mg base "mark_group" bS 1 ["first","held","least"] Fv:=jI.fn0 km X G (fun f fd F=>Sf F (PySem.W.mg_none_of X G nl)) fun _ _ _ _ _ _ us hl=>(by obtain ⟨a,b,c,rfl⟩:=_root_.L2.Yo hl;rfl)
 have M3:dJ P w K mg base "least_of_groups" bS 2 ["size","counts"] Bt:=jI.fn0 kl X G (fun f fd F=>Ku F (PySem.W.mg_none_of X G nr) M2) fun _ _ _ _ _ _ us hl=>(by obtain ⟨a,b,rfl⟩:=_root_.L2.Al hl;rfl)
 exact Oa F L.TG L.TB R.TM (PySem.W.mg_none_of X G nl) R.right M1 M3
end Br1
namespace Br1
open PySem PySem.W
end Br1
namespace Br1
open PySem PySem.Spec PyProof.Rows L2
def hkC:PySem.W.Hook:=Yt asC ftZ
theorem Rr {l:List Int} (h:l.all (PySem.W.Codec.inInt 0 255)=true):Nr l:=fun x hx=>PySem.W.Codec.inInt_iff.mp (List.all_eq_true.mp h x hx)
end Br1
open PySem PySem.W PyProof.Rows
set_option maxHeartbeats 0 in
theorem PySem.Challenge.cw_brickrooms_s07_group_holds : PySem.Challenge.rw_brickrooms_s07_group.Holds := by
 refine holds_os (q:=Br1.vwC) (loose:=Br1.Qb) (Xt:=fun _=>true) (XP:=fun _ _=>True) (Yf:=Br1.hkC.obs) (Ya:=Br1.hkC.val) (YP:=Br1.hkC.says) (N:=6114) Br1.aBw Br1.hkC.of Br1.hkC.keeps (fun _ _=>trivial) (fun _ _ _ _ _=>trivial) (by rfl) (by rfl) (by rfl) (fun s _=>recFacts_of (s:=s) (by rfl)) os_shapes (by decide+kernel) (by decide+kernel) ⟨rfl,rfl,rfl,rfl,rfl,by decide+kernel⟩ ⟨[.int 0,.list [],.list []],by decide+kernel,by decide+kernel⟩ ?_
 refine L2.Hz (r:=PySem.Challenge.rw_brickrooms_s07_group) (k:=11) (CX:=L2.bS) (ps:=["i","c","b"]) (sp:=Br1.Bm) (Good:=fun K=>∀ f∈Br1.ftZ,f.P K) (by decide+kernel) rfl rfl ⟨rfl,by decide,by decide⟩ (fun w h Y=>Y) ?F ?S (fun _ _ _ _ z=>z)
 case F=>
  intro w K mg fa h g KX G hmg
  have k0:∀ f∈Br1.ftC,f.P K:=fun f hf=>g f (List.mem_append_left _ hf)
  have g0:=fun (f:Br1.Ft) (hf:f∈_)=>g f (List.mem_append_right _ hf)
  have k1:∀ f∈Br1.ftR,f.P K:=fun f hf=>g0 f (List.mem_append_left _ hf)
  have g1:=fun (f:Br1.Ft) (hf:f∈_)=>g0 f (List.mem_append_right _ hf)
  exact Br1.Nh KX G hmg k0 k1 (Br1.Ft.nth g1 0 (f:=.no "len") rfl) (Br1.Ft.nth g1 1 (f:=.no "range") rfl) (Br1.Ft.nth g1 2 (f:=.fn "clutches" Br1.jS) rfl) (Br1.Ft.nth g1 3 (f:=.fn "mark_group" Br1.wB) rfl) (Br1.Ft.nth g1 4 (f:=.fn "least_of_groups" Br1.nO) rfl) (Br1.Ft.nth g1 5 (f:=.fn "group" Br1.kX) rfl)
 case S=>
  intro K H xs a hO hwi hask hx
  cases hx with
  |cons h0 r0=>
   cases h0
   cases r0 with
   |cons hc rc=>
    cases rc with
    |cons hb rb=>
     cases rb
     cases hc with
     |lst hs1 ha1=>
      cases hb with
      |lst hs2 ha2=>
       have e1:=L2.Ay a.2.1 _ ha1
       subst e1
       have e2:=L2.Ay a.2.2.1 _ ha2
       subst e2
       have q:(Codec.inInt 0 1000000000000000000000000000000 a.1 && ((Codec.inLen 0 100000 a.2.1 && a.2.1.all (Codec.inInt 0 255)) && ((Codec.inLen 0 17000 a.2.2.1 && a.2.2.1.all (Codec.inInt 0 255)) && true)))=true:=hwi
       simp only [Bool.and_eq_true] at q
       have b0:=(Codec.inInt_iff.mp q.1).1
       have bc:=Br1.Rr q.2.1.2
       have bb:=Br1.Rr q.2.2.1.2
       refine ⟨a.1,_,_,a.2.1,a.2.2.1,rfl,b0,bc,bb,hs1,hs2,fun H' p hp=>?_⟩
       have m:=Br1.Fj b0 bc bb
       show L2.Dw K H' (.ref p) (.list ((PyWqasbx.group a.1 a.2.1 a.2.2.1).map WData.int))
       rw [m]
       exact .lst (L2.dB.of hp) (L2.Jm _)
