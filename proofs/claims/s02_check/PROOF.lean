import PyProof.Rows.All
import Wide.All
import OpenK.AllK
import Wide.FinOn
import PyProof.EqAt
import PyProof.EqKinds
import PyProof.TupleCall
import KE.BitLaws
import Open.SpecLaws
import KE.OsHead
import KE.OsGo
import KE.KDictList
import Open.Line
import Open.Tree
import Open.Boot
import PySem.Challenge.RW_brickrooms_s02_check
set_option Elab.async false
set_option linter.all false
set_option maxRecDepth 1000000
namespace Br1
open PySem PySem.W
def topRunT (tb:String→Option Builtin) (p:Program) (w:World) (n₀:Nat) (ann:Option Value):Nat→SharedT→Thread→Option SharedT
 |0,_,_=>none
 |n+1,s,t=>match through t with
  |true=>some s
  |false=>match stepOk n₀ ann t with
   |false=>none
   |true=>match stepT (denote tb) p w s t with
    |some (s',t')=>topRunT tb p w n₀ ann n s' t'
    |none=>none
theorem topRun_tree {tb:String→Option Builtin} {p:Program} {w:World} {n₀:Nat} {ann:Option Value}:∀ {n:Nat} {s s':SharedT} {t:Thread},topRunT tb p w n₀ ann n s t=some s'→topRun tb p w n₀ ann n s.abs t=some s'.abs
 |0,_,_,_,h=>by cases h
 |n+1,s,s',t,h=>by
  unfold topRunT at h
  unfold topRun
  cases he:through t with
  |true=>
   rw [he] at h
   cases h
   rfl
  |false=>
   rw [he] at h
   cases hk:stepOk n₀ ann t with
   |false=>
    rw [hk] at h
    cases h
   |true=>
    rw [hk] at h
    cases hs:stepT (denote tb) p w s t with
    |none=>
     rw [hs] at h
     cases h
    |some r=>
     obtain ⟨s₂,t₂⟩:=r
     rw [hs] at h
     dsimp only
     rw [stepT_spec hs]
     exact topRun_tree h
def treeFrom:Nat→List Obj→BT→BT
 |_,[],t=>t
 |n,o::r,t=>treeFrom (n+1) r (t.ins n o)
noncomputable def bootT (P:Params):BT:=treeFrom 0 (boot_heap P).objs.toList .nil
noncomputable def bootS (P:Params) (os:OsState):SharedT:=⟨bootT P,11,(boot_heap P).life,Array.mk [],boot_drawn,boot_toks,os⟩
theorem boot_abs (P:Params) (os:OsState):(bootS P os).abs=⟨boot_heap P,Array.mk [],boot_drawn,boot_toks,os⟩:=by kernel_rfl
theorem left_tree {p q:Program} {loose:List Str} {Xt:Shared→Bool} {α:Type} {Yf:Shared→α} {Ya:World→α} {N:Nat} {g0:Bool} (e:opening p=plainProg p.main.scope.names) (hN:Nat.ble 600 N=true) (f:∀ s,fenceModules? p s=some s)
  (h1:∀ w:World,((boot_heap w.params).isNs mainGlobals && (Array.mk ([]:List GenState)).size==0)=true)
  (h:∀ (w:World) (os:OsState),(topRunT treeTable p w (boot_heap w.params).objs.size ((boot_heap w.params).nsMap mainGlobals "__annotations__") N (bootS w.params os) (topStub p)).map (fun s=>
   (staticsOk (importedModules p.main.body) (boot_heap w.params) s.abs.heap && namesBound p s.abs.heap && gensDone s.abs && laidKept (boot_heap w.params) s.abs.heap,openSeen q loose (importedModules p.main.body) Xt g0 s.abs,Yf s.abs))=some (true,openGood q loose,Ya w)):LeftO p q loose Xt Yf Ya N g0:=fun w=>by
 obtain ⟨⟨h0,gs,d,k,os⟩,e0,e'⟩:=Option.map_eq_some_iff.mp (boot_open e hN f w)
 obtain ⟨rfl,rfl,rfl,rfl⟩:h0=boot_heap w.params∧gs=Array.mk []∧d=boot_drawn∧k=boot_toks:=by simpa using e'
 obtain ⟨s',e1,e2⟩:=Option.map_eq_some_iff.mp (h w os)
 have e3:=topRun_tree e1
 rw [boot_abs] at e3
 obtain ⟨a1,a2⟩:=Prod.mk.inj e2
 unfold openEnds
 rw [e0]
 show (topFrom treeTable p w N _).map _=_
 have e4:topFrom treeTable p w N ⟨boot_heap w.params,Array.mk [],boot_drawn,boot_toks,os⟩=some s'.abs:=by
  unfold topFrom
  rw [show ((⟨boot_heap w.params,Array.mk [],boot_drawn,boot_toks,os⟩:Shared).heap.isNs mainGlobals && (⟨boot_heap w.params,Array.mk [],boot_drawn,boot_toks,os⟩:Shared).gens.size==0)=true from h1 w]
  dsimp only
  rw [e3]
  dsimp only [Option.bind]
  rw [a1]
 rw [e4]
 exact congrArg some a2
end Br1
namespace L2
open PySem PySem.Spec PyProof.Rows
def inClass (s:Stmt) (j:Nat):Stmt:=match s with
 |.ClassDef _ _ _ body _ _ _ _ _ _ _=>body.getD j (.Pass ⟨0,0,0,0⟩)
 |_=>.Pass ⟨0,0,0,0⟩
def defArgs (s:Stmt):Arguments:=match s with
 |.FunctionDef _ a _ _ _ _ _ _ _ _=>a
 |_=>{posonlyargs:=[],args:=[],vararg:=none,kwonlyargs:=[],kw_defaults:=[],kwarg:=none,defaults:=[]}
def defBody (s:Stmt):List Stmt:=match s with
 |.FunctionDef _ _ b _ _ _ _ _ _ _=>b
 |_=>[]
def defScope (s:Stmt):Scope:=match s with
 |.FunctionDef _ _ _ _ _ _ sc _ _ _=>sc
 |_=>{kind:=.function,names:=[],isGenerator:=false,isCoroutine:=false}
abbrev excMro:List Value:=[.type "Exception",.type "BaseException",.type "object"]
end L2
namespace Br1
open PySem PySem.Spec PyProof.Rows L2
def top (i:Nat):Stmt:=PySem.Challenge.pw_brickrooms_s02_check.main.body.getD i (.Pass ⟨0,0,0,0⟩)
abbrev sIsLetter:Stmt:=top 3
abbrev sIsDigit:Stmt:=top 4
abbrev sStuckI:Stmt:=inClass (top 2) 0
abbrev sRdI:Stmt:=inClass (top 5) 0
abbrev sEnded:Stmt:=inClass (top 5) 1
abbrev sHere:Stmt:=inClass (top 5) 2
abbrev sTake:Stmt:=inClass (top 5) 3
abbrev sOneOf:Stmt:=inClass (top 5) 4
abbrev sWord:Stmt:=inClass (top 5) 5
abbrev sName:Stmt:=inClass (top 5) 6
abbrev sNumber:Stmt:=inClass (top 5) 7
abbrev sEnd:Stmt:=inClass (top 5) 8
abbrev sPartI:Stmt:=inClass (top 18) 0
abbrev sHasStud:Stmt:=top 19
abbrev sHasTube:Stmt:=top 20
abbrev sAbove:Stmt:=top 21
abbrev sBelow:Stmt:=top 22
abbrev sReadCat:Stmt:=top 23
abbrev sReadPart:Stmt:=top 24
abbrev sReadCells:Stmt:=top 25
def SIGNSL:List Int:=[46,35,115,116,98]
abbrev sCatRight:Stmt:=top 26
abbrev sPartRight:Stmt:=top 27
abbrev sStuds:Stmt:=top 28
abbrev sTubes:Stmt:=top 29
abbrev sFills:Stmt:=top 30
abbrev sHangs:Stmt:=top 31
abbrev sNeigh:Stmt:=top 32
abbrev sGrow:Stmt:=top 33
abbrev sReadBuild:Stmt:=top 47
abbrev sReadLine:Stmt:=top 48
abbrev sPartNo:Stmt:=top 49
abbrev sBegins:Stmt:=top 50
abbrev sBuildI:Stmt:=inClass (top 45) 0
abbrev sGivenI:Stmt:=inClass (top 60) 0
abbrev sReadGiven:Stmt:=top 61
abbrev sNamesOf:Stmt:=top 62
abbrev Df:=Arguments×List Stmt×Scope
def dfOf (st:Stmt):Df:=(defArgs st,defBody st,defScope st)
def fnD (K:PySem.W.Frag) (f:Addr) (x qual:Str):Option Df:=match K.lookup f with
 |some ⟨_,_,.func ⟨nm,q,pa,.stmts b,sc,gl,[],.none,_,_,_,_,cd,_,bl⟩,_⟩=>if (nm==x && (q==qual && (gl==mainGlobals && (bl==builtinsNs && (PySem.W.codeIn K cd qual && PySem.W.keepIn K (.ref f))))))=true then some (pa,b,sc) else none
 |_=>none
def clA (K:PySem.W.Frag) (x:Str):Addr:=match PySem.W.nsIn K mainGlobals x with
 |some (some (.ref a))=>a
 |_=>0
inductive Ft
 |no (x:Str)
 |int (x:Str) (n:Int)
 |fn (x:Str) (st:Stmt)
 |cl (x:Str)
 |at (c f:Str)
 |mt (c m q:Str) (st:Stmt)
 |ints (x:Str) (l:List Int)
 |exc (x q:Str) (st:Stmt)
def intOf:Value→Option Int
 |.int n _=>some n
 |_=>none
def excC (K:PySem.W.Frag) (C:Addr):Option Addr:=match K.lookup C with
 |some ⟨c,_,.cls ⟨_,_,mro,N,_,hd,_,_,_,_,hdel⟩,sl⟩=>(match sl.toList with
  |[_,_,_,_,some (.builtin b),_]=>if (c==.type "type" && (mro==.ref C::excMro && (hd && (!hdel && (b=="Exception.__new__" && (PySem.W.nsOkIn K N && (PySem.W.nsIn K N "fault"==some none && (PySem.W.nsIn K N "__setattr__"==some none && (PySem.W.nsIn K N "__getattribute__"==some none && (PySem.W.nsIn K N "__getattr__"==some none && PySem.W.keepIn K (.ref C)))))))))))=true then
    (match PySem.W.nsIn K N "__init__" with
    |some (some (.ref f))=>if PySem.W.isFn K (.ref f)=true then some f else none
    |_=>none) else none
  |_=>none)
 |_=>none
def Ft.D (K:PySem.W.Frag):Ft→Bool×Option Df
 |.no x=>(PySem.W.nsIn K mainGlobals x==some none,none)
 |.int x n=>(match PySem.W.nsIn K mainGlobals x with
  |some (some (.int m _))=>m==n
  |_=>false,none)
 |.fn x _=>match PySem.W.nsIn K mainGlobals x with
  |some (some (.ref f))=>(true,fnD K f x x)
  |_=>(false,none)
 |.cl x=>(PySem.W.nsIn K mainGlobals x==some (some (.ref (clA K x))) && (PySem.W.plainGet K (clA K x) Str.empty && (PySem.W.hasDictIn K (clA K x) && (PySem.W.plainOver K (clA K x) && (PySem.W.findIn K (.ref (clA K x)) "__setattr__"==some (some (.builtin "object.__setattr__")) &&
   (PySem.W.makesIn K (clA K x) && PySem.W.keepIn K (.ref (clA K x))))))),none)
 |.at c f=>(PySem.W.findIn K (.ref (clA K c)) f==some none,none)
 |.mt c m q _=>match PySem.W.findIn K (.ref (clA K c)) m with
  |some (some (.ref f))=>(PySem.W.isFn K (.ref f),fnD K f m q)
  |_=>(false,none)
 |.ints x l=>(match PySem.W.nsIn K mainGlobals x with
  |some (some (.ref a))=>(match K.lookup a with
   |some ⟨c,_,.seq its _,_⟩=>c==.type "tuple" && (its.toList.map intOf==l.map some && decide (l.length≤100))
   |_=>false)
  |_=>false,none)
 |.exc x q _=>match excC K (clA K x) with
  |some f=>(PySem.W.nsIn K mainGlobals x==some (some (.ref (clA K x))),fnD K f "__init__" q)
  |none=>(false,none)
def Ft.X:Ft→Bool×Option Df
 |.fn _ st=>(true,some (dfOf st))
 |.mt _ _ _ st=>(true,some (dfOf st))
 |.exc _ _ st=>(true,some (dfOf st))
 |_=>(true,none)
def frH (as:List Addr) (h:Heap):PySem.W.Frag:=as.filterMap fun a=>(h.get? a).map fun o=>(a,o)
def ftC:List Ft:=[.cl "Reader",.at "Reader" "text",.at "Reader" "position",.cl "Part",.at "Part" "name",.at "Part" "width",.at "Part" "depth",.at "Part" "height",.at "Part" "weight",.at "Part" "cells",.cl "Build",.at "Build" "name",.at "Build" "lines",.cl "Given",.at "Given" "refusal",.at "Given" "fault",.at "Given" "parts",.at "Given" "build",.at "Given" "room",.ints "SIGNS" SIGNSL,.exc "Stuck" "Stuck.__init__" sStuckI,.fn "is_letter" sIsLetter,.no "ord",.fn "is_digit" sIsDigit,.mt "Reader" "__init__" "Reader.__init__" sRdI,.mt "Reader" "ended" "Reader.ended" sEnded,.no "len",.int "NO_BYTE" 256,.mt "Reader" "here" "Reader.here" sHere,.mt "Reader" "take" "Reader.take" sTake,.mt "Reader" "read_one_of" "Reader.read_one_of" sOneOf,.mt "Reader" "read_word" "Reader.read_word" sWord,.mt "Reader" "read_name" "Reader.read_name" sName,.no "tuple",.mt "Reader" "read_number" "Reader.read_number" sNumber,.mt "Reader" "read_end" "Reader.read_end" sEnd,.mt "Part" "__init__" "Part.__init__" sPartI,.mt "Build" "__init__" "Build.__init__" sBuildI,.mt "Given" "__init__" "Given.__init__" sGivenI,.fn "has_stud" sHasStud,.int "STUD" 115,.int "BOTH" 98,.fn "has_tube" sHasTube,.int "TUBE" 116,.fn "above" sAbove,.fn "below" sBelow,.fn "read_cells" sReadCells,.no "range",.int "NO_CELL" 46,.fn "read_part" sReadPart,.int "LONGEST_PART_NAME" 8,.int "MOST_WIDTH" 16,.int "MOST_DEPTH" 16,.int "MOST_HEIGHT" 18,.int "MOST_WEIGHT" 9999,.fn "read_catalogue" sReadCat,.int "MOST_PARTS" 64,.fn "studs_clear" sStuds,.fn "tubes_clear" sTubes,.fn "fills_its_box" sFills,.no "enumerate",.fn "neighbours" sNeigh,.fn "hangs_together" sHangs,.no "list",.fn "names_grow" sGrow,.fn "part_right" sPartRight,.fn "catalogue_right" sCatRight,.no "all",.fn "some_begins" sBegins,.no "any",.fn "read_part_number" sPartNo,.fn "read_line" sReadLine,.int "MOST_COLOUR" 255,.int "ROOM_WIDTH" 64,.int "ROOM_DEPTH" 64,.int "ROOM_HEIGHT" 96,.int "MOST_TURNS" 3,.fn "read_build" sReadBuild,.int "LONGEST_BUILD_NAME" 16,.int "MOST_LINES" 256,.fn "names_of" sNamesOf,.fn "read_given" sReadGiven,.int "MOST_CATALOGUE_BYTES" 1048576,.int "MOST_BUILD_BYTES" 16384]
abbrev sTurned:Stmt:=top 35
abbrev sOnce:Stmt:=top 36
abbrev sTSizes:Stmt:=top 34
abbrev sBeyond:Stmt:=top 54
abbrev sLeaves:Stmt:=top 53
abbrev sRoom:Stmt:=top 55
abbrev sRoomI:Stmt:=inClass (top 46) 0
abbrev sBlocked:Stmt:=top 56
abbrev sWrongW:Stmt:=top 52
abbrev sFill:Stmt:=top 51
abbrev sReadRight:Stmt:=top 63
def ftR:List Ft:=[.cl "Room",.at "Room" "signs",.at "Room" "owners",.at "Room" "wrong",.mt "Room" "__init__" "Room.__init__" sRoomI,.fn "turned_once" sOnce,.fn "turned_part" sTurned,.no "range",.fn "turned_sizes" sTSizes,.fn "beyond_room" sBeyond,.int "ROOM_WIDTH" 64,.int "ROOM_DEPTH" 64,.int "ROOM_HEIGHT" 96,.fn "leaves_room" sLeaves,.fn "cells_in_room" sRoom,.fn "blocked_lines" sBlocked,.fn "wrong_with" sWrongW,.no "len",.no "min",.fn "fill_room" sFill,.no "enumerate",.fn "read_right" sReadRight]
abbrev sCheck:Stmt:=top 64
def ftZ:List Ft:=ftC++(ftR++([.fn "check" sCheck]))
def asC:List Addr:=[3,31,30,28,27,41,40,48,47,121,120,62,61,69,68,76,75,83,82,90,89,97,96,104,103,111,110,118,117,126,143,142,140,139,154,153,161,160,168,167,175,174,182,181,189,188,196,195,201,200,208,207,215,214,222,221,227,226,234,233,241,240,248,247,255,254,262,261,269,268,286,285,283,282,307,306,304,303,318,317,325,324,332,331,337,336,344,343,349,348,356,355,363,362,370,369,377,376,394,393,391,390,405,404,410,409,417,416,424,423]
def looseC:List Str:=[.ofString "NO_BYTE",.ofString "Stuck",.ofString "is_letter",.ofString "is_digit",.ofString "Reader",.ofString "MOST_PARTS",.ofString "LONGEST_PART_NAME",.ofString "MOST_WIDTH",.ofString "MOST_DEPTH",.ofString "MOST_HEIGHT",.ofString "MOST_WEIGHT",.ofString "NO_CELL",.ofString "STUD",.ofString "TUBE",.ofString "BOTH",.ofString "SIGNS",.ofString "Part",.ofString "has_stud",.ofString "has_tube",.ofString "above",.ofString "below",.ofString "read_catalogue",.ofString "read_part",.ofString "read_cells",.ofString "catalogue_right",.ofString "part_right",.ofString "studs_clear",.ofString "tubes_clear",.ofString "fills_its_box",.ofString "hangs_together",.ofString "neighbours",.ofString "names_grow",.ofString "turned_sizes",.ofString "turned_part",.ofString "turned_once",.ofString "ROOM_WIDTH",.ofString "ROOM_DEPTH",.ofString "ROOM_HEIGHT",.ofString "LONGEST_BUILD_NAME",.ofString "MOST_LINES",.ofString "MOST_COLOUR",.ofString "MOST_TURNS",.ofString "Build",.ofString "Room",.ofString "read_build",.ofString "read_line",.ofString "read_part_number",.ofString "some_begins",.ofString "fill_room",.ofString "wrong_with",.ofString "leaves_room",.ofString "beyond_room",.ofString "cells_in_room",.ofString "blocked_lines",.ofString "MOST_CATALOGUE_BYTES",.ofString "MOST_BUILD_BYTES",.ofString "Given",.ofString "read_given",.ofString "names_of",.ofString "read_right"]
def vwC:Program:=PySem.W.view PySem.Challenge.pw_brickrooms_s02_check [64]
theorem leftC:PySem.W.LeftO PySem.Challenge.pw_brickrooms_s02_check vwC looseC (fun _=>true) (fun s=>ftZ.map (Ft.D (frH asC s.heap))) (fun _=>ftZ.map Ft.X) 5906:=by
 refine left_tree ?a ?b ?c ?d ?e
 case a=>kernel_rfl
 case b=>decide
 case c=>intro s;kernel_rfl
 case d=>intro w;kernel_rfl
 case e=>intro w os;kernel_rfl
end Br1
set_option Elab.async false
set_option linter.all false
set_option maxRecDepth 100000
namespace L2
open PySem PySem.Spec PyProof.Rows
abbrev Key:=Sum Int Str
def keyIs:Key→Value→Bool
 |.inl k,v=>Value.isInt k v
 |.inr x,v=>Value.isStrOf x v
def keyH (w:World):Key→Int
 |.inl k=>hashInt k
 |.inr x=>hashStr w x
theorem keyIs_shape:∀ {k:Key} {v:Value},keyIs k v=true→(∃ i t,k=Sum.inl i∧v=Value.int i t)∨(∃ x t,k=Sum.inr x∧v=Value.str x t)
 |.inl i,v,h=>by
  obtain ⟨t,e⟩:=Value.isInt_shape (k:=i) (v:=v) h
  exact .inl ⟨i,t,rfl,e⟩
 |.inr x,v,h=>by
  obtain ⟨t,e⟩:=Value.isStrOf_shape (x:=x) (v:=v) h
  exact .inr ⟨x,t,rfl,e⟩
theorem keyIs_int (i:Int) (t:Tok):keyIs (.inl i) (.int i t)=true:=by simp [keyIs,Value.isInt]
theorem keyIs_str (x:Str) (t:Tok):keyIs (.inr x) (.str x t)=true:=by simp [keyIs,Value.isStrOf]
theorem key_ll (a b:Int):decide ((Sum.inl a:Key)=Sum.inl b)=(a==b):=by
 by_cases e:a=b
 ·subst e;simp
 ·have h:¬(Sum.inl a:Key)=Sum.inl b:=fun q=>e (Sum.inl.inj q)
  rw [decide_eq_false h]
  exact (beq_eq_false_iff_ne.mpr e).symm
theorem key_rr (a b:Str):decide ((Sum.inr a:Key)=Sum.inr b)=decide (a=b):=by
 by_cases e:a=b
 ·subst e;simp
 ·have h:¬(Sum.inr a:Key)=Sum.inr b:=fun q=>e (Sum.inr.inj q)
  rw [decide_eq_false h,decide_eq_false e]
theorem key_lr (a:Int) (b:Str):decide ((Sum.inl a:Key)=Sum.inr b)=false:=decide_eq_false (fun q=>nomatch q)
theorem key_rl (a:Str) (b:Int):decide ((Sum.inr a:Key)=Sum.inl b)=false:=decide_eq_false (fun q=>nomatch q)
def mixKind (prog:Program) (w:World):PySem.KeyKind prog w Key where
 is:=keyIs
 hash:=keyH w
 inj:=fun v a b ha hb=>by
  rcases keyIs_shape ha with ⟨i,t,rfl,rfl⟩|⟨x,t,rfl,rfl⟩
  ·rcases keyIs_shape hb with ⟨j,u,rfl,e⟩|⟨y,u,rfl,e⟩
   ·injection e with e1 _;rw [e1]
   ·exact nomatch e
  ·rcases keyIs_shape hb with ⟨j,u,rfl,e⟩|⟨y,u,rfl,e⟩
   ·exact nomatch e
   ·injection e with e1 _;rw [e1]
 byValue:=fun k v h=>by
  rcases keyIs_shape h with ⟨i,t,rfl,rfl⟩|⟨x,t,rfl,rfl⟩<;>rfl
 pyHash:=fun hv h=>by
  rcases keyIs_shape hv with ⟨i,t,rfl,rfl⟩|⟨x,t,rfl,rfl⟩
  ·exact wpAny_pyHash_int h
  ·exact wpAny_pyHash_str h
 eqBool:=fun hu hv h=>by
  rcases keyIs_shape hu with ⟨i,t,rfl,rfl⟩|⟨x,t,rfl,rfl⟩
  ·rcases keyIs_shape hv with ⟨j,u,rfl,rfl⟩|⟨y,u,rfl,rfl⟩
   ·rw [key_ll] at h;exact wpAny_eqBool_int h
   ·rw [key_lr] at h;exact SeqAt.EqAt.int_str i t y u _ _ _ _ h
  ·rcases keyIs_shape hv with ⟨j,u,rfl,rfl⟩|⟨y,u,rfl,rfl⟩
   ·rw [key_rl] at h;exact SeqAt.EqAt.str_int x t j u _ _ _ _ h
   ·rw [key_rr] at h;exact wpAny_eqBool_str h
 «strs»:=fun k x t v h=>by
  rcases keyIs_shape h with ⟨i,u,rfl,e⟩|⟨y,u,rfl,e⟩
  ·exact nomatch e
  ·injection e with e1 _
   subst e1
   cases v<;>rfl
theorem mixKind_int (prog:Program) (w:World) (i:Int) (t:Tok):(mixKind prog w).is (.inl i) (.int i t)=true:=keyIs_int i t
theorem mixKind_str (prog:Program) (w:World) (x:Str) (t:Tok):(mixKind prog w).is (.inr x) (.str x t)=true:=keyIs_str x t
end L2
namespace L2
open PySem PySem.Spec PyProof.Rows
inductive V where
 |non|bl (b:Bool)|int (i:Int)|str (x:Str)|byt (b:Array UInt8)|flt (b:UInt64)|ref (a:Addr)|ty (n:String)
 deriving DecidableEq
def RelV:V→Value→Prop
 |.non,u=>u=Value.none
 |.bl b,u=>u=Value.bool b
 |.int i,u=>∃ t,u=Value.int i t
 |.str x,u=>∃ t,u=Value.str x t
 |.byt b,u=>∃ t,u=Value.bytes b t
 |.flt b,u=>∃ t,u=Value.float b t
 |.ref a,u=>u=Value.ref a
 |.ty n,u=>u=Value.type n
abbrev Vals:List V→List Value→Prop:=Paired RelV
theorem Vals.length {xs:List V} {us:List Value} (r:Vals xs us):xs.length=us.length:=Paired.length r
theorem Vals.get:∀ {xs:List V} {us:List Value} {i:Nat} {x:V},Vals xs us→xs[i]?=some x→∃ u,us[i]?=some u∧RelV x u
 |_,_,_,_,.nil,e=>by simp at e
 |_,_,0,_,.cons r _,e=>by simp at e;subst e;exact ⟨_,rfl,r⟩
 |_,_,i+1,x,.cons _ t,e=>by
  obtain ⟨u,h1,h2⟩:=Vals.get (i:=i) (x:=x) t (by simpa using e)
  exact ⟨u,by simpa using h1,h2⟩
theorem Vals.append:∀ {xs ys:List V} {us ws:List Value},Vals xs us→Vals ys ws→Vals (xs++ys) (us++ws)
 |_,_,_,_,.nil,s=>s
 |_,_,_,_,.cons r t,s=>.cons r (Vals.append t s)
theorem Vals.take:∀ {xs:List V} {us:List Value} (n:Nat),Vals xs us→Vals (xs.take n) (us.take n)
 |_,_,0,_=>.nil
 |_,_,_+1,.nil=>.nil
 |_,_,n+1,.cons r t=>.cons r (Vals.take n t)
theorem Vals.drop:∀ {xs:List V} {us:List Value} (n:Nat),Vals xs us→Vals (xs.drop n) (us.drop n)
 |_,_,0,r=>r
 |_,_,_+1,.nil=>.nil
 |_,_,n+1,.cons _ t=>Vals.drop n t
def RelO:Option V→Option Value→Prop
 |some v,some u=>RelV v u
 |none,none=>True
 |_,_=>False
def KV {κ:Type}:List (κ×V)→List (κ×Value)→Prop:=Paired fun (p:κ×V) (q:κ×Value)=>p.1=q.1∧RelV p.2 q.2
def kV:Key→V
 |.inl i=>.int i
 |.inr x=>.str x
inductive HO where
  |lst (xs:List V)
  |tup (xs:List V)
  |dK (kvs:List (Key×V))|dT (kvs:List (List Key×V))
  |set (S:Int→Bool) (n:Nat)
  |ins (C dx:Addr) (fs:List (Str×V))
  |own (x:Addr)
  |xd (fs:List (Str×V))
  |met (f x:Addr)
  |rng (lo hi:Int)
  |frz (o:Obj) (u:HO)
  |tbl (ps:Array Value)
  |ext (φ:Heap→Prop)
abbrev Hp:=Addr→Option HO
def upd (H:Hp) (a:Addr) (o:HO):Hp:=fun b=>if b=a then some o else H b
theorem upd_same {H:Hp} {a:Addr} {o:HO}:upd H a o a=some o:=by unfold upd;rw [if_pos rfl]
theorem upd_ne {H:Hp} {a b:Addr} {o:HO} (h:b≠a):upd H a o b=H b:=by unfold upd;rw [if_neg h]
theorem ne_of {H:Hp} {a b:Addr} {o u:HO} (h:H a=some o) (h':H b=some u) (d:o≠u):a≠b:=by
 intro e;subst e;rw [h] at h';exact d (Option.some.inj h')
theorem ne_of_none {H:Hp} {a b:Addr} {o:HO} (h:H a=some o) (h':H b=none):a≠b:=by
 intro e;subst e;rw [h] at h';cases h'
section
variable (P:Program) (w:World)
def ObjOk (H:Hp) (h:Heap) (a:Addr):HO→Prop
 |.lst xs=>xs.length≤sizeLine∧∃ (its:List Value) (n:Nat),Vals xs its∧h.get? a=some {cls:=.type "list",data:=.seq its.toArray n}
 |.tup xs=>xs.length≤sizeLine∧∃ its:List Value,Vals xs its∧IsTup h a its.toArray
 |.dK kvs=>kvs.length≤sizeLine∧(a==sysModules)=false∧∃ vs,KV kvs vs∧h.DictOf (mixKind P w) a vs
 |.dT kvs=>kvs.length≤sizeLine∧(a==sysModules)=false∧∃ xs:List (List Key×Addr×Value),
   Paired (fun (p:List Key×V) (q:List Key×Addr×Value)=>p.1=q.1∧H q.2.1=some (.tup (p.1.map kV))∧RelV p.2 q.2.2) kvs xs∧
   ∃ o es ep,h.get? a=some o∧o.ExactDict∧o.data=.dict es ep∧es.toList=xs.map (entryOfKey (tupleKind (mixKind P w)))∧(xs.map (·.1)).Nodup
 |.set S n=>h.SetOf (intKind P w) a S n
 |.ins C dx fs=>H dx=some (.own a)∧fs.length≤1000∧dx≠a∧h.get? a=some (PySem.W.instObj C dx)∧
   ∃ mA,h.Ns1 dx mA∧(∀ f,RelO (fs.lookup f) (mA f))∧PySem.Within mA (fs.map (·.1))
 |.own _=>∃ o,h.get? a=some o
 |.xd fs=>∃ mA,h.Ns1 a mA∧∀ f,RelO (fs.lookup f) (mA f)
 |.rng lo hi=>∃ t u v,h.get? a=some {cls:=.type "range",data:=.fields #[.int lo t,.int hi u,.int 1 v]}
 |.frz o u=>h.get? a=some o∧ObjOk H h a u
 |.tbl ps=>h.get? a=some {cls:=.none,data:=.fields ps}
 |.met f x=>h.get? a=some (PySem.W.methodObj (.ref f) (.ref x))
 |.ext φ=>φ h∧(∃ o,h.get? a=some o)∧∀ h1 h2:Heap,φ h1→(∀ o,h1.get? a=some o→h2.get? a=some o)→φ h2
def HOk (H:Hp) (h:Heap):Prop:=∀ a o,H a=some o→ObjOk P w H h a o
end
section
variable {P:Program} {w:World} {H H':Hp} {h h':Heap} {a:Addr} {o:HO}
theorem ObjOk.lt (x:ObjOk P w H h a o):a<h.objs.size:=by
 cases o with
 |lst xs=>obtain ⟨_,_,_,_,e⟩:=x;exact Heap.lt_size e
 |tup xs=>obtain ⟨_,_,_,p⟩:=x;exact p.lt
 |dK kvs=>obtain ⟨_,_,_,_,o,_,_,e,_⟩:=x;exact Heap.lt_size e
 |dT kvs=>obtain ⟨_,_,_,_,o,_,_,e,_⟩:=x;exact Heap.lt_size e
 |set S n=>obtain ⟨o,_,_,_,e,_⟩:=x;exact Heap.lt_size e
 |ins C dx fs=>obtain ⟨_,_,_,e,_⟩:=x;exact Heap.lt_size e
 |own y=>obtain ⟨_,e⟩:=x;exact Heap.lt_size e
 |xd fs=>obtain ⟨_,⟨_,_,_,e,_⟩,_⟩:=x;exact Heap.lt_size e
 |rng lo hi=>obtain ⟨_,_,_,e⟩:=x;exact Heap.lt_size e
 |frz ob u=>obtain ⟨e,_⟩:=x;exact Heap.lt_size e
 |tbl ps=>exact Heap.lt_size (show h.get? a=some _ from x)
 |met f y=>exact Heap.lt_size (show h.get? a=some _ from x)
 |ext φ=>obtain ⟨_,⟨_,e⟩,_⟩:=x;exact Heap.lt_size e
theorem Paired.mapP {α β:Type} {F G:α→β→Prop}:∀ {l₁:List α} {l₂:List β},Paired F l₁ l₂→(∀ a b,F a b→G a b)→Paired G l₁ l₂
 |_,_,.nil,_=>.nil
 |_,_,.cons r t,f=>.cons (f _ _ r) (Paired.mapP t f)
theorem ObjOk.stay (x:ObjOk P w H h a o) (k:∀ b u,(b=a∨H b=some (.own a))→h.get? b=some u→h'.get? b=some u)
  (ho:∀ b,H b=some (.own a)→H' b=some (.own a)) (ht:∀ b xs,H b=some (.tup xs)→H' b=some (.tup xs)):ObjOk P w H' h' a o:=by
 induction o with
 |lst xs=>obtain ⟨z,its,n,r,e⟩:=x;exact ⟨z,its,n,r,k _ _ (.inl rfl) e⟩
 |tup xs=>obtain ⟨z,its,r,ob,e,c⟩:=x;exact ⟨z,its,r,ob,k _ _ (.inl rfl) e,c⟩
 |dK kvs=>obtain ⟨z,y,vs,r,ob,es,ep,e,c⟩:=x;exact ⟨z,y,vs,r,ob,es,ep,k _ _ (.inl rfl) e,c⟩
 |dT kvs=>
  obtain ⟨z,y,xs,r,ob,es,ep,e,c⟩:=x
  exact ⟨z,y,xs,Paired.mapP r fun p q z=>⟨z.1,ht _ _ z.2.1,z.2.2⟩,ob,es,ep,k _ _ (.inl rfl) e,c⟩
 |set S n=>obtain ⟨ob,es,ep,t,e,c⟩:=x;exact ⟨ob,es,ep,t,k _ _ (.inl rfl) e,c⟩
 |ins C dx fs=>
  obtain ⟨d,z,ne,e,mA,⟨od,es,ep,e2,c⟩,r⟩:=x
  exact ⟨ho _ d,z,ne,k _ _ (.inl rfl) e,mA,⟨od,es,ep,k _ _ (.inr d) e2,c⟩,r⟩
 |own y=>obtain ⟨ob,e⟩:=x;exact ⟨ob,k _ _ (.inl rfl) e⟩
 |xd fs=>obtain ⟨mA,⟨od,es,ep,e,c⟩,r⟩:=x;exact ⟨mA,⟨od,es,ep,k _ _ (.inl rfl) e,c⟩,r⟩
 |rng lo hi=>obtain ⟨t,u,v,e⟩:=x;exact ⟨t,u,v,k _ _ (.inl rfl) e⟩
 |frz ob u ih=>obtain ⟨e,q⟩:=x;exact ⟨k _ _ (.inl rfl) e,ih q⟩
 |tbl ps=>
  have e:h.get? a=some {cls:=.none,data:=.fields ps}:=x
  show h'.get? a=some {cls:=.none,data:=.fields ps}
  exact k a _ (.inl rfl) e
 |met f y=>
  have e:h.get? a=some (PySem.W.methodObj (.ref f) (.ref y)):=x
  show h'.get? a=some (PySem.W.methodObj (.ref f) (.ref y))
  exact k a _ (.inl rfl) e
 |ext φ=>obtain ⟨p,⟨o,e⟩,st⟩:=x;exact ⟨st _ _ p fun o q=>k _ _ (.inl rfl) q,⟨o,k _ _ (.inl rfl) e⟩,st⟩
theorem HOk.lt (x:HOk P w H h) (e:H a=some o):a<h.objs.size:=(x a o e).lt
theorem HOk.fresh (x:HOk P w H h) (e:h.objs.size≤a):H a=none:=by
 cases q:H a with
 |none=>rfl
 |some u=>exact absurd (Nat.lt_of_lt_of_le (x.lt q) e) (Nat.lt_irrefl _)
theorem HOk.kept (x:HOk P w H h) (k:∀ b u,h.get? b=some u→h'.get? b=some u):HOk P w H h':=fun a o e=>
 (x a o e).stay (fun b u _ q=>k b u q) (fun _ q=>q) fun _ _ q=>q
theorem HOk.laid (x:HOk P w H h) (k:∀ b u,h.get? b=some u→h'.get? b=some u) (hp:h.objs.size≤a) (new:ObjOk P w (upd H a o) h' a o):HOk P w (upd H a o) h':=fun b u e=>by
 have hn:=x.fresh hp
 by_cases hb:b=a
 ·subst hb;rw [upd_same] at e;cases e;exact new
 ·rw [upd_ne hb] at e
  exact (x b u e).stay (fun c v _ q=>k c v q) (fun c q=>by rw [upd_ne (ne_of_none q hn)];exact q) fun c xs q=>by rw [upd_ne (ne_of_none q hn)];exact q
end
def Rd (H:Hp) (a:Addr) (u:HO):Prop:=H a=some u∨∃ o,H a=some (.frz o u)
theorem Rd.ok {P:Program} {w:World} {H:Hp} {h:Heap} {a:Addr} {u:HO} (r:Rd H a u) (x:HOk P w H h):ObjOk P w H h a u:=by
 rcases r with r|⟨o,r⟩
 ·exact x a u r
 ·obtain ⟨_,q⟩:=x a _ r
  exact q
def Mut:Option HO→Prop
 |some (.lst _)=>True
 |some (.dK _)=>True
 |some (.dT _)=>True
 |some (.set _ _)=>True
 |some (.ins _ _ _)=>True
 |some (.ext _)=>True
 |_=>False
section
variable {P:Program} {w:World} {H:Hp} {h h':Heap} {x e:Addr} {o':HO}
theorem HOk.write (ok:HOk P w H h) (mu:Mut (H x)) (he:e=x∨H e=some (.own x)) (k:∀ b u,b≠e→h.get? b=some u→h'.get? b=some u) (heo:∃ u,h'.get? e=some u)
  (new:ObjOk P w (upd H x o') h' x o'):HOk P w (upd H x o') h':=fun b u q=>by
 have nown:∀ c y,H c=some (.own y)→c≠x:=fun c y r z=>by subst z;rw [r] at mu;exact mu
 have ntup:∀ c xs,H c=some (.tup xs)→c≠x:=fun c xs r z=>by subst z;rw [r] at mu;exact mu
 by_cases hb:b=x
 ·subst hb;rw [upd_same] at q;cases q;exact new
 ·rw [upd_ne hb] at q
  by_cases hbe:b=e
  ·have q':H b=some (.own x):=by
    rcases he with z|z
    ·exact absurd (hbe.trans z) hb
    ·rw [hbe];exact z
   rw [q] at q';cases q'
   obtain ⟨v,hv⟩:=heo
   exact ⟨v,by rw [hbe];exact hv⟩
  ·refine (ok b u q).stay (fun c v hc r=>k c v ?_ r) (fun c r=>by rw [upd_ne (nown c b r)];exact r) fun c xs r=>by rw [upd_ne (ntup c xs r)];exact r
   rcases hc with rfl|hc
   ·exact hbe
   ·rintro rfl
    rcases he with z|z
    ·exact nown c b hc z
    ·rw [hc] at z;cases z;exact hb rfl
end
structure Un (fs ex:List Addr) (H H':Hp) (h h':Heap):Prop where
 keep:∀ b o,h.get? b=some o→H b=none→b∉fs→b∉ex→h'.get? b=some o
 slot:∀ b o,h.get? b=some o→H b=none→b∈fs→b∉ex→∃ sl,h'.get? b=some {o with slots:=sl}
 free:∀ b o,h.get? b=some o→H b=none→b∉ex→H' b=none
 there:∀ b o,h.get? b=some o→b∉ex→∃ o',h'.get? b=some o'
 tups:∀ b xs,H b=some (.tup xs)→H' b=some (.tup xs)
 frzs:∀ b o u,H b=some (.frz o u)→H' b=some (.frz o u)
 tbls:∀ b ps,H b=some (.tbl ps)→∃ more,H' b=some (.tbl (ps++more))
section
variable {fs fs' ex ex':List Addr} {H H1 H2:Hp} {h h1 h2 h':Heap} {a x e:Addr} {o:HO}
theorem Un.any (u:Un fs ex H H1 h h1) {b:Addr} {ob:Obj} (q:h.get? b=some ob) (n:H b=none) (hx:b∉ex):∃ sl,h1.get? b=some {ob with slots:=sl}:=by
 by_cases hb:b∈fs
 ·exact u.slot b ob q n hb hx
 ·exact ⟨ob.slots,u.keep b ob q n hb hx⟩
theorem Un.kept (k:∀ b u,h.get? b=some u→h'.get? b=some u):Un fs ex H H h h':=
 ⟨fun b ob q _ _ _=>k b ob q,fun b ob q _ _ _=>⟨ob.slots,k b ob q⟩,fun _ _ _ n _=>n,fun b ob q _=>⟨ob,k b ob q⟩,fun _ _ q=>q,fun _ _ _ q=>q,fun _ ps q=>⟨#[],by rw [q];simp⟩⟩
theorem Un.refl:Un fs ex H H h h:=Un.kept fun _ _ q=>q
theorem Un.laid (k:∀ b u,h.get? b=some u→h'.get? b=some u) (hp:h.objs.size≤a) (hn:H a=none):Un fs ex H (upd H a o) h h' where
 keep:=fun b u q _ _ _=>k b u q
 slot:=fun b u q _ _ _=>⟨u.slots,k b u q⟩
 free:=fun b u q n _=>by rw [upd_ne (Nat.ne_of_lt (Nat.lt_of_lt_of_le (Heap.lt_size q) hp))];exact n
 there:=fun b u q _=>⟨u,k b u q⟩
 tups:=fun b xs q=>by rw [upd_ne (ne_of_none q hn)];exact q
 frzs:=fun b u xs q=>by rw [upd_ne (ne_of_none q hn)];exact q
 tbls:=fun b ps q=>⟨#[],by rw [upd_ne (ne_of_none q hn),q];simp⟩
theorem Un.write (mu:Mut (H x)) (he:e=x∨H e=some (.own x)) (k:∀ b u,b≠e→h.get? b=some u→h'.get? b=some u) (heo:∃ u,h'.get? e=some u):Un fs ex H (upd H x o) h h':=by
 have hx:∀ b,H b=none→b≠x:=fun b n z=>by subst z;rw [n] at mu;exact mu
 have hb:∀ b,H b=none→b≠e:=fun b n z=>by
  subst z
  rcases he with r|r
  ·exact hx b n r
  ·rw [n] at r;cases r
 have hm:∀ b u,H b=some u→¬Mut (some u)→b≠x:=fun b u q nm z=>by subst z;rw [q] at mu;exact nm mu
 refine ⟨fun b u q n _ _=>k b u (hb b n) q,fun b u q n _ _=>⟨u.slots,k b u (hb b n) q⟩,fun b u q n _=>by rw [upd_ne (hx b n)];exact n,fun b u q _=>?_,
  fun b xs q=>by rw [upd_ne (hm b _ q fun z=>z)];exact q,fun b u xs q=>by rw [upd_ne (hm b _ q fun z=>z)];exact q,fun b ps q=>⟨#[],by rw [upd_ne (hm b _ q fun z=>z),q];simp⟩⟩
 by_cases hbe:b=e
 ·subst hbe;exact heo
 ·exact ⟨u,k b u hbe q⟩
end
def trk (h:Heap) (H:Hp):List Addr:=(List.range h.objs.size).filter fun a=>(H a).isSome
def hidT (h:Heap) (H:Hp):Heap:=PySem.W.hideAll h (trk h H)
theorem hidT_size (h:Heap) (H:Hp):(hidT h H).objs.size=h.objs.size:=PySem.W.hideAll_size _ _
theorem hidT_get {h:Heap} {H:Hp} {b:Addr} {o:Obj} (e:h.get? b=some o) (n:H b=none):(hidT h H).get? b=some o:=
 PySem.W.hideAll_get _ e fun hm=>by
  have q:(H b).isSome=true:=(List.mem_filter.mp hm).2
  rw [n] at q;simp at q
theorem of_hidT {h:Heap} {H:Hp} {b:Addr} {o:Obj} (e:(hidT h H).get? b=some o):h.get? b=some o∧H b=none:=by
 have e':h.get? b=some o:=PySem.W.of_hideAll (trk h H) e
 refine ⟨e',?_⟩
 cases q:H b with
 |none=>rfl
 |some x=>
  have hm:b∈trk h H:=List.mem_filter.mpr ⟨List.mem_range.mpr (Heap.lt_size e'),by simp [q]⟩
  have z:(hidT h H).get? b=none:=PySem.W.hideAll_none (trk h H) hm
  rw [z] at e;cases e
end L2
namespace L2
open PySem PySem.Spec PyProof.Rows
structure Mod (K:PySem.W.Frag) (mg:Str→Option Value) (base:Heap):Prop where
 kin:K.In base
 glob:base.Ns mainGlobals mg
 blt:∃ mb,base.Ns builtinsNs mb∧∀ x:Str,x≠"__name__"→mb x=bootBuiltins x
 nolimit:base.NoLimit
structure Cx where
 prog:Program
 w:World
 K:PySem.W.Frag
 mg:Str→Option Value
 base:Heap
 A:Around
 N:List Str
 s_0:Shared
 H_0:Hp
 env:Env
 outer:List Env
 stack:List Env
 ex:List Addr
 fn:Str→Bool
 calm:Bool
 pn:List (Addr×Obj)
 xe:Value→Shared→Prop
def frs (l:List Env):List Addr:=l.filterMap (·.frame)
abbrev Cx.fs (X:Cx):List Addr:=frs X.outer
def Vis (sc:Scope) (x:Str):Prop:=sc.names.lookup x=some .local∨sc.names.lookup x=some .cell∨sc.names.lookup x=some .free
def Loc (sc:Scope) (x:Str):Prop:=sc.names.lookup x=some .local∨sc.names.lookup x=some .cell
def Look (env:Env) (h:Heap) (m:Str→Option Value) (x:Str) (u:Value):Prop:=
 (env.kindOf x=some .local∧m x=some u)∨((env.kindOf x=some .cell∨env.kindOf x=some .free)∧∃ c,env.cells.lookup x=some c∧h.IsCell c (some u))
structure Cx.Ok (X:Cx):Prop where
 mod:Mod X.K X.mg X.base
 kind:X.env.scope.kind=.function
 glob:X.env.globals=mainGlobals
 blt:X.env.builtins=builtinsNs
 above:X.s_0.heap.objs.size≤X.env.locals
 inj:∀ x y c,X.env.cells.lookup x=some c→X.env.cells.lookup y=some c→x=y
 has:∀ x,(X.env.kindOf x=some .cell∨X.env.kindOf x=some .free)→∃ c,X.env.cells.lookup x=some c
 cab:∀ x c,X.fn x=true→X.env.cells.lookup x=some c→X.s_0.heap.objs.size≤c
 hd:X.calm=true→X.A.handled=none
 frames:X.A.frames=some X.stack
 stk:X.stack=X.outer∨(X.stack=X.env::X.outer∧X.env.frame=some X.env.locals)
 exf:∀ b∈X.ex,b≠X.env.locals∧∀ x c,X.env.cells.lookup x=some c→c≠b
 bs:∀ b o,X.base.get? b=some o→X.s_0.heap.get? b=some o∧X.H_0 b=none
 bsz:X.base.objs.size≤X.s_0.heap.objs.size
 noex:∀ b o,X.base.get? b=some o→b∉X.ex
 exfs:∀ b∈X.ex,b∉X.fs
 funs:X.s_0.heap.FunFrames X.base X.outer
 frf:∀ b∈X.fs,X.H_0 b=none
structure Inv (X:Cx) (pins:List (Addr×Obj)) (σ:List (Option V)) (H:Hp) (s:Shared):Prop where
 ok:X.Ok
 os:s.os=X.s_0.os
 bare:AllBare s.gens
 base:Un X.fs X.ex X.H_0 H X.s_0.heap s.heap
 loc:∃ m,s.heap.Ns X.env.locals m∧∀ (i:Nat) (x:Str) (v:V),X.N[i]?=some x→σ[i]?=some (some v)→Vis X.env.scope x→∃ u,RelV v u∧Look X.env s.heap m x u
 cell:∀ x c,X.env.cells.lookup x=some c→∃ v,s.heap.IsCell c v
 free:H X.env.locals=none
 freeC:∀ x c,X.env.cells.lookup x=some c→H c=none
 pin:∀ p∈X.pn++pins,s.heap.get? p.1=some p.2∧H p.1=none∧p.1≠X.env.locals∧p.1∉X.fs∧∀ v,p.2.data≠.cell v
 hok:HOk X.prog X.w H s.heap
 len:σ.length=X.N.length
section
variable {X:Cx} {pins:List (Addr×Obj)} {σ:List (Option V)} {H H':Hp} {s:Shared} {h':Heap}
theorem Cx.Ok.nofr (ok:X.Ok) {b:Addr} {o:Obj} (e:X.base.get? b=some o):b∉X.fs:=fun hb=>by
 have:=(ok.funs.mem hb).1
 rw [e] at this;cases this
theorem Inv.bs (I:Inv X pins σ H s):∀ b o,X.base.get? b=some o→s.heap.get? b=some o∧H b=none:=fun b o e=>
 ⟨I.base.keep b o (I.ok.bs b o e).1 (I.ok.bs b o e).2 (I.ok.nofr e) (I.ok.noex b o e),I.base.free b o (I.ok.bs b o e).1 (I.ok.bs b o e).2 (I.ok.noex b o e)⟩
theorem Inv.bk (I:Inv X pins σ H s):∀ b o,X.base.get? b=some o→s.heap.get? b=some o:=fun b o e=>(I.bs b o e).1
theorem Inv.mod (I:Inv X pins σ H s):Mod X.K X.mg X.base:=I.ok.mod
theorem Inv.kIn (I:Inv X pins σ H s):X.K.In s.heap:=I.ok.mod.kin.keeps I.bk
theorem Inv.lt (I:Inv X pins σ H s):X.env.locals<s.heap.objs.size:=let ⟨_,hn,_⟩:=I.loc;hn.lt
theorem Inv.sz (I:Inv X pins σ H s):X.s_0.heap.objs.size≤s.heap.objs.size:=Nat.le_trans I.ok.above (Nat.le_of_lt I.lt)
theorem Inv.nofs (I:Inv X pins σ H s) {a:Addr} (h:s.heap.objs.size≤a):a∉X.fs:=fun hb=>by
 obtain ⟨_,o,ho,_⟩:=I.ok.funs.mem hb
 exact absurd (Nat.lt_of_lt_of_le (Heap.lt_size ho) (Nat.le_trans I.sz h)) (Nat.lt_irrefl _)
theorem Inv.cne (I:Inv X pins σ H s):∀ x c,X.env.cells.lookup x=some c→c≠X.env.locals:=fun x c e z=>by
 obtain ⟨v,o,ho,hd⟩:=I.cell x c e
 obtain ⟨m,⟨o',es,ep,ho',hd',_⟩,_⟩:=I.loc
 rw [z,ho'] at ho;cases ho;rw [hd'] at hd;cases hd
theorem Inv.funs (I:Inv X pins σ H s):s.heap.FunFrames X.base X.outer:=by
 have all:∀ (l:List Env),(∀ b∈frs l,b∈X.fs)→X.s_0.heap.FunFrames X.base l→s.heap.FunFrames X.base l:=by
  intro l
  induction l with
  |nil=>intro _ _;trivial
  |cons env r ih=>
   intro hs hl
   obtain ⟨hk,⟨L,o,hf,hn,ho,hd⟩,hr⟩:=hl
   have hL:L∈X.fs:=hs L (by unfold frs;rw [List.filterMap_cons,hf];exact List.mem_cons_self)
   obtain ⟨sl,e⟩:=I.base.slot L o ho (I.ok.frf L hL) hL fun z=>I.ok.exfs L z hL
   exact ⟨hk,⟨L,_,hf,hn,e,hd⟩,ih (fun b hb=>hs b (by unfold frs;rw [List.filterMap_cons,hf];exact List.mem_cons_of_mem _ hb)) hr⟩
 exact all X.outer (fun _ hb=>hb) I.ok.funs
theorem Inv.stack (I:Inv X pins σ H s):s.heap.FunFrames X.base X.stack:=by
 rcases I.ok.stk with e|⟨e,hf⟩
 ·rw [e];exact I.funs
 ·rw [e]
  obtain ⟨m,hn,_⟩:=I.loc
  refine .cons (by rw [I.ok.kind];decide) hf hn ?_ I.funs
  exact Heap.get?_none_of_le (Nat.le_trans I.ok.bsz I.ok.above)
theorem Inv.stkSub (I:Inv X pins σ H s):∀ b∈frs X.stack,b∈X.env.locals::X.fs:=fun b hb=>by
 rcases I.ok.stk with e|⟨e,hf⟩
 ·rw [e] at hb;exact List.mem_cons_of_mem _ hb
 ·rw [e] at hb
  unfold frs at hb
  rw [List.filterMap_cons,hf] at hb
  exact hb
theorem Inv.stkFree (I:Inv X pins σ H s):∀ b∈frs X.stack,H b=none:=fun b hb=>by
 rcases List.mem_cons.mp (I.stkSub b hb) with e|hb
 ·rw [e];exact I.free
 ·obtain ⟨_,o,ho,_⟩:=I.ok.funs.mem hb
  exact I.base.free b o ho (I.ok.frf b hb) fun z=>I.ok.exfs b z hb
theorem Inv.step {g':Array GenState} {t':Nat} {d':Drawn} {ch:List Addr} (I:Inv X pins σ H s)
  (hch:∀ b∈ch,(b∈X.ex∨X.s_0.heap.objs.size≤b)∧b≠X.env.locals∧(∀ x c,X.env.cells.lookup x=some c→c≠b)∧∀ p∈X.pn++pins,p.1≠b)
  (keep:∀ b o,b≠X.env.locals→b∉X.fs→b∉ch→s.heap.get? b=some o→H b=none→h'.get? b=some o)
  (slot:∀ b o,b≠X.env.locals→b∈X.fs→b∉ch→s.heap.get? b=some o→H b=none→∃ sl,h'.get? b=some {o with slots:=sl}) (free:∀ b o,b∉ch→s.heap.get? b=some o→H b=none→H' b=none)
  (there:∀ b o,b∉ch→s.heap.get? b=some o→∃ o',h'.get? b=some o')
  (tups:∀ b xs,H b=some (.tup xs)→H' b=some (.tup xs)) (frzs:∀ b o u,H b=some (.frz o u)→H' b=some (.frz o u)) (tbls:∀ b ps,H b=some (.tbl ps)→∃ more,H' b=some (.tbl (ps++more)))
  (ns:∀ m,s.heap.Ns X.env.locals m→h'.Ns X.env.locals m) (hok:HOk X.prog X.w H' h') (hg:AllBare g'):
  Inv X pins σ H' {s with heap:=h',gens:=g',drawn:=d',toks:=t'}:=by
 have neL:∀ b o,X.s_0.heap.get? b=some o→b≠X.env.locals:=fun b o e=>Nat.ne_of_lt (Nat.lt_of_lt_of_le (Heap.lt_size e) I.ok.above)
 have neC:∀ b o,X.s_0.heap.get? b=some o→b∉X.ex→b∉ch:=fun b o e hx hb=>by
  rcases (hch b hb).1 with z|z
  ·exact hx z
  ·exact absurd (Nat.lt_of_lt_of_le (Heap.lt_size e) z) (Nat.lt_irrefl _)
 have cellK:∀ x c,X.env.cells.lookup x=some c→∀ v,s.heap.IsCell c v→h'.IsCell c v:=fun x c e v ⟨o,ho,hd⟩=>by
  have nch:c∉ch:=fun z=>(hch c z).2.2.1 x c e rfl
  by_cases hc:c∈X.fs
  ·obtain ⟨sl,q⟩:=slot c o (I.cne x c e) hc nch ho (I.freeC x c e)
   exact ⟨_,q,hd⟩
  ·exact ⟨o,keep c o (I.cne x c e) hc nch ho (I.freeC x c e),hd⟩
 refine ⟨I.ok,I.os,hg,⟨fun b o e n hb hx=>?_,fun b o e n hb hx=>?_,fun b o e n hx=>?_,fun b o e hx=>?_,fun b xs e=>tups b xs (I.base.tups b xs e),fun b o xs e=>frzs b o xs (I.base.frzs b o xs e),fun b ps e=>?_⟩,?_,fun x c e=>?_,?_,fun x c e=>?_,fun p hp=>?_,hok,I.len⟩
 ·exact keep b o (neL b o e) hb (neC b o e hx) (I.base.keep b o e n hb hx) (I.base.free b o e n hx)
 ·obtain ⟨sl,e1⟩:=I.base.slot b o e n hb hx
  obtain ⟨sl',e2⟩:=slot b _ (neL b o e) hb (neC b o e hx) e1 (I.base.free b o e n hx)
  exact ⟨sl',e2⟩
 ·obtain ⟨o',e1⟩:=I.base.there b o e hx
  exact free b o' (neC b o e hx) e1 (I.base.free b o e n hx)
 ·obtain ⟨o',e1⟩:=I.base.there b o e hx
  exact there b o' (neC b o e hx) e1
 ·obtain ⟨m1,e1⟩:=I.base.tbls b ps e
  obtain ⟨m2,e2⟩:=tbls b _ e1
  exact ⟨m1++m2,by rw [e2,Array.append_assoc]⟩
 ·obtain ⟨m,hn,hl⟩:=I.loc
  refine ⟨m,ns m hn,fun i x v e1 e2 e3=>?_⟩
  obtain ⟨u,r,l⟩:=hl i x v e1 e2 e3
  refine ⟨u,r,?_⟩
  rcases l with l|⟨k,c,e,z⟩
  ·exact .inl l
  ·exact .inr ⟨k,c,e,cellK x c e _ z⟩
 ·obtain ⟨v,z⟩:=I.cell x c e
  exact ⟨v,cellK x c e v z⟩
 ·obtain ⟨m,⟨o,_,_,ho,_⟩,_⟩:=I.loc
  exact free _ o (fun z=>(hch _ z).2.1 rfl) ho I.free
 ·obtain ⟨v,o,ho,hd⟩:=I.cell x c e
  exact free c o (fun z=>(hch c z).2.2.1 x c e rfl) ho (I.freeC x c e)
 ·obtain ⟨e,n,ne,nf,d⟩:=I.pin p hp
  have nch:p.1∉ch:=fun z=>(hch p.1 z).2.2.2 p hp rfl
  exact ⟨keep p.1 p.2 ne nf nch e n,free p.1 p.2 nch e n,ne,nf,d⟩
theorem Inv.un {t':Nat} (I:Inv X pins σ H s) (u:Un X.fs [] H H' s.heap h') (hok:HOk X.prog X.w H' h'):Inv X pins σ H' {s with heap:=h',toks:=t'}:=by
 obtain ⟨m,⟨o,es,ep,ho,r⟩,_⟩:=id I.loc
 obtain ⟨sl,hL⟩:=u.any ho I.free (by simp)
 exact I.step (g':=s.gens) (d':=s.drawn) (ch:=[]) (fun _ z=>nomatch z) (fun b o _ hb _ e n=>u.keep b o e n hb (by simp)) (fun b o _ hb _ e n=>u.slot b o e n hb (by simp)) (fun b o _ e n=>u.free b o e n (by simp)) (fun b o _ e=>u.there b o e (by simp)) u.tups u.frzs u.tbls (fun m' hm=>by
  obtain ⟨o',es',ep',ho',r'⟩:=hm
  rw [ho] at ho';cases ho'
  exact ⟨_,es',ep',hL,r'⟩) hok I.bare
theorem Inv.call {g':Array GenState} {t':Nat} {d':Drawn} {ch:List Addr} (I:Inv X pins σ H s) (u:Un (frs X.stack) ch H H' s.heap h') (hok:HOk X.prog X.w H' h') (hg:AllBare g')
  (hch:∀ b∈ch,(b∈X.ex∨X.s_0.heap.objs.size≤b)∧b≠X.env.locals∧(∀ x c,X.env.cells.lookup x=some c→c≠b)∧∀ p∈X.pn++pins,p.1≠b):
  Inv X pins σ H' {s with heap:=h',gens:=g',drawn:=d',toks:=t'}:=by
 obtain ⟨m,⟨o,es,ep,ho,r⟩,_⟩:=id I.loc
 obtain ⟨sl,hL⟩:=u.any ho I.free fun z=>(hch _ z).2.1 rfl
 exact I.step (ch:=ch) hch (fun b o hL hb hc e n=>u.keep b o e n (fun z=>(List.mem_cons.mp (I.stkSub b z)).elim hL hb) hc) (fun b o _ _ hc e n=>u.any e n hc) (fun b o hc e n=>u.free b o e n hc) (fun b o hc e=>u.there b o e hc) u.tups u.frzs u.tbls (fun m' hm=>by
  obtain ⟨o',es',ep',ho',r'⟩:=hm
  rw [ho] at ho';cases ho'
  exact ⟨_,es',ep',hL,r'⟩) hok hg
theorem Inv.turned {t':Nat} {it:Addr} (I:Inv X pins σ H s) (k:∀ b o,b≠it→s.heap.get? b=some o→h'.get? b=some o) (hn:H it=none) (hL:it≠X.env.locals)
  (h1:it∈X.ex∨X.s_0.heap.objs.size≤it) (h2:∀ x c,X.env.cells.lookup x=some c→c≠it) (h3:∀ p∈X.pn++pins,p.1≠it):Inv X pins σ H {s with heap:=h',toks:=t'}:=by
 have nit:∀ b u,H b=some u→b≠it:=fun b u e z=>by rw [z,hn] at e;cases e
 refine I.step (g':=s.gens) (d':=s.drawn) (ch:=[it]) (fun b hb=>?_) (fun b o _ _ hc e _=>k b o (fun z=>hc (by simp [z])) e) (fun b o _ _ hc e _=>⟨o.slots,k b o (fun z=>hc (by simp [z])) e⟩) (fun _ _ _ _ n=>n)
  (fun b o hc e=>⟨o,k b o (fun z=>hc (by simp [z])) e⟩) (fun _ _ e=>e) (fun _ _ _ e=>e) (fun b ps e=>⟨#[],by rw [e];simp⟩) (fun m hm=>?_) (fun b u e=>?_) I.bare
 ·have e:b=it:=by simpa using hb
  subst e
  exact ⟨h1,hL,h2,h3⟩
 ·obtain ⟨o,es,ep,ho,r⟩:=hm
  exact ⟨o,es,ep,k _ o (Ne.symm hL) ho,r⟩
 ·refine (I.hok b u e).stay (fun c v hc q=>k c v ?_ q) (fun _ q=>q) fun _ _ q=>q
  rcases hc with z|z
  ·rw [z];exact nit b u e
  ·exact nit c _ z
theorem Inv.tok (I:Inv X pins σ H s) (t:Nat):Inv X pins σ H {s with toks:=t}:=I.un (h':=s.heap) (t':=t) Un.refl I.hok
theorem Inv.kept {t':Nat} (I:Inv X pins σ H s) (k:∀ b u,s.heap.get? b=some u→h'.get? b=some u):Inv X pins σ H {s with heap:=h',toks:=t'}:=I.un (Un.kept k) (I.hok.kept k)
theorem Inv.laid {a:Addr} {o:HO} {t':Nat} (I:Inv X pins σ H s) (k:∀ b u,s.heap.get? b=some u→h'.get? b=some u) (hp:s.heap.objs.size≤a) (new:ObjOk X.prog X.w (upd H a o) h' a o):
  Inv X pins σ (upd H a o) {s with heap:=h',toks:=t'}:=I.un (Un.laid k hp (I.hok.fresh hp)) (I.hok.laid k hp new)
theorem Inv.write {x e:Addr} {o:HO} {t':Nat} (I:Inv X pins σ H s) (mu:Mut (H x)) (he:e=x∨H e=some (.own x)) (k:∀ b u,b≠e→s.heap.get? b=some u→h'.get? b=some u) (heo:∃ u,h'.get? e=some u)
  (new:ObjOk X.prog X.w (upd H x o) h' x o):Inv X pins σ (upd H x o) {s with heap:=h',toks:=t'}:=I.un (Un.write mu he k heo) (I.hok.write mu he k heo new)
theorem Inv.weak {σ':List (Option V)} (I:Inv X pins σ H s) (hl:σ'.length=σ.length) (w:∀ (i:Nat) v,σ'[i]?=some (some v)→σ[i]?=some (some v)):Inv X pins σ' H s:=
 ⟨I.ok,I.os,I.bare,I.base,let ⟨m,hn,hl'⟩:=I.loc;⟨m,hn,fun i x v e1 e2 e3=>hl' i x v e1 (w i v e2) e3⟩,I.cell,I.free,I.freeC,I.pin,I.hok,hl.trans I.len⟩
theorem Inv.pins_of {pins':List (Addr×Obj)} (I:Inv X pins σ H s) (h:∀ p∈pins',s.heap.get? p.1=some p.2∧H p.1=none∧p.1≠X.env.locals∧p.1∉X.fs∧∀ v,p.2.data≠.cell v):Inv X pins' σ H s:=
 ⟨I.ok,I.os,I.bare,I.base,I.loc,I.cell,I.free,I.freeC,fun p hp=>(List.mem_append.mp hp).elim (fun z=>I.pin p (List.mem_append_left _ z)) (h p),I.hok,I.len⟩
theorem nodup_ix {N:List Str} (hN:N.Nodup) {i j:Nat} {x:Str} (a:N[i]?=some x) (b:N[j]?=some x):i=j:=by
 obtain ⟨h1,e1⟩:=List.getElem?_eq_some_iff.mp a
 obtain ⟨h2,e2⟩:=List.getElem?_eq_some_iff.mp b
 exact (List.getElem_inj hN).mp (e1.trans e2.symm)
theorem store_ok2 {M:Model} {A:Around} {E:Value→Shared→Prop} {i:Nat} {x:Str} {v:V} {u:Value} {Q:Unit→Shared→Prop} (I:Inv X pins σ H s) (hN:X.N.Nodup) (hi:X.N[i]?=some x) (hx:Loc X.env.scope x) (r:RelV v u)
  (h:∀ s',Inv X pins (σ.set i (some v)) H s'→(∃ a,Heap.SameBut a s.heap s'.heap∧(a=X.env.locals∨X.env.cells.lookup x=some a))→Q () s') (hf:X.fn x=true∨X.env.scope.names.lookup x=some .local:=by first|exact .inl rfl|exact .inr rfl|assumption):wpAny M A (storeName X.env x u) Q E s:=by
 obtain ⟨m,hn,hl⟩:=id I.loc
 have hcls:(X.env.scope.kind==.class||(X.env.scope.kind==.module && X.env.locals !=X.env.globals))=false:=by rw [I.ok.kind];rfl
 have hiσ:i<σ.length:=by rw [I.len];exact (List.getElem?_eq_some_iff.mp hi).1
 have cne:=I.cne
 have tracked:∀ {a:Addr} {h':Heap},(∃ o,s.heap.get? a=some o∧H a=none)→Heap.SameBut a s.heap h'→HOk X.prog X.w H h':=fun {a h'} ha hs b ob e=>by
  obtain ⟨_,_,hfree⟩:=ha
  refine (I.hok b ob e).stay (fun c w' hc q=>(hs.2 c ?_).trans q) (fun _ q=>q) fun _ _ q=>q
  rintro rfl
  rcases hc with rfl|hc
  ·rw [hfree] at e;cases e
  ·rw [hfree] at hc;cases hc
 rcases hx with hk|hk
 ·refine wpAny_storeName_local hk hn (fun h' hn' hs=>?_) hcls
  obtain ⟨oL,_,_,hoL,_⟩:=id hn
  refine h _ ⟨I.ok,I.os,I.bare,⟨fun b o e n hb hx=>?_,fun b o e n hb hx=>?_,I.base.free,fun b o e hx=>?_,I.base.tups,I.base.frzs,I.base.tbls⟩,⟨_,hn',fun j y v' e1 e2 e3=>?_⟩,fun y c e=>?_,I.free,I.freeC,fun p hp=>?_,tracked ⟨oL,hoL,I.free⟩ hs,by simpa using I.len⟩ ⟨_,hs,.inl rfl⟩
  ·exact (hs.2 b (Nat.ne_of_lt (Nat.lt_of_lt_of_le (Heap.lt_size e) I.ok.above))).trans (I.base.keep b o e n hb hx)
  ·obtain ⟨sl,e1⟩:=I.base.slot b o e n hb hx
   exact ⟨sl,(hs.2 b (Nat.ne_of_lt (Nat.lt_of_lt_of_le (Heap.lt_size e) I.ok.above))).trans e1⟩
  ·obtain ⟨o',e1⟩:=I.base.there b o e hx
   exact ⟨o',(hs.2 b (Nat.ne_of_lt (Nat.lt_of_lt_of_le (Heap.lt_size e) I.ok.above))).trans e1⟩
  ·by_cases hj:j=i
   ·subst hj
    rw [hi] at e1;cases e1
    rw [List.getElem?_set_self hiσ] at e2
    cases e2
    exact ⟨u,r,.inl ⟨hk,by simp⟩⟩
   ·rw [List.getElem?_set_ne (Ne.symm hj)] at e2
    obtain ⟨u',r',q⟩:=hl j y v' e1 e2 e3
    refine ⟨u',r',?_⟩
    rcases q with ⟨k,e⟩|⟨k,c,e,z⟩
    ·refine .inl ⟨k,?_⟩
     have:y≠x:=fun e=>hj (nodup_ix hN e1 (e▸hi))
     simp [this,e]
    ·exact .inr ⟨k,c,e,z.sameBut hs (cne y c e)⟩
  ·obtain ⟨w',z⟩:=I.cell y c e
   exact ⟨w',z.sameBut hs (cne y c e)⟩
  ·obtain ⟨e,n,ne,nf,d⟩:=I.pin p hp
   exact ⟨(hs.2 p.1 ne).trans e,n,ne,nf,d⟩
 ·have hfn:X.fn x=true:=by
   rcases hf with z|z
   ·exact z
   ·rw [z] at hk;cases hk
  obtain ⟨c,hc⟩:=I.ok.has x (.inl hk)
  obtain ⟨w',z⟩:=I.cell x c hc
  refine wpAny_storeName_cell I.ok.kind hk hc z (fun h' hc' hs=>?_)
  obtain ⟨oc,hoc,hocd⟩:=id z
  refine h {s with heap:=h'} ⟨I.ok,I.os,I.bare,⟨fun b o e n hb hx=>?_,fun b o e n hb hx=>?_,I.base.free,fun b o e hx=>?_,I.base.tups,I.base.frzs,I.base.tbls⟩,⟨m,hn.sameBut hs (Ne.symm (cne x c hc)),fun j y v' e1 e2 e3=>?_⟩,fun y c' e=>?_,I.free,I.freeC,fun p hp=>?_,tracked ⟨oc,hoc,I.freeC x c hc⟩ hs,by simpa using I.len⟩ ⟨c,hs,.inr hc⟩
  ·exact (hs.2 b (Nat.ne_of_lt (Nat.lt_of_lt_of_le (Heap.lt_size e) (I.ok.cab x c hfn hc)))).trans (I.base.keep b o e n hb hx)
  ·obtain ⟨sl,e1⟩:=I.base.slot b o e n hb hx
   exact ⟨sl,(hs.2 b (Nat.ne_of_lt (Nat.lt_of_lt_of_le (Heap.lt_size e) (I.ok.cab x c hfn hc)))).trans e1⟩
  ·obtain ⟨o',e1⟩:=I.base.there b o e hx
   exact ⟨o',(hs.2 b (Nat.ne_of_lt (Nat.lt_of_lt_of_le (Heap.lt_size e) (I.ok.cab x c hfn hc)))).trans e1⟩
  ·by_cases hj:j=i
   ·subst hj
    rw [hi] at e1;cases e1
    rw [List.getElem?_set_self hiσ] at e2
    cases e2
    exact ⟨u,r,.inr ⟨.inl hk,c,hc,hc'⟩⟩
   ·rw [List.getElem?_set_ne (Ne.symm hj)] at e2
    obtain ⟨u',r',q⟩:=hl j y v' e1 e2 e3
    refine ⟨u',r',?_⟩
    rcases q with q|⟨k,c',e,z'⟩
    ·exact .inl q
    ·refine .inr ⟨k,c',e,z'.sameBut hs ?_⟩
     rintro rfl
     exact hj (nodup_ix hN e1 (I.ok.inj _ _ _ e hc▸hi))
  ·by_cases hcc:c'=c
   ·subst hcc;exact ⟨_,hc'⟩
   ·obtain ⟨w2,z2⟩:=I.cell y c' e
    exact ⟨w2,z2.sameBut hs hcc⟩
  ·obtain ⟨e,n,ne,nf,d⟩:=I.pin p hp
   refine ⟨(hs.2 p.1 ?_).trans e,n,ne,nf,d⟩
   intro q
   rw [q,hoc] at e
   have q':oc=p.2:=Option.some.inj e
   exact d w' (by rw [←q'];exact hocd)
theorem store_ok {M:Model} {A:Around} {E:Value→Shared→Prop} {i:Nat} {x:Str} {v:V} {u:Value} {Q:Unit→Shared→Prop} (I:Inv X pins σ H s) (hN:X.N.Nodup) (hi:X.N[i]?=some x) (hx:Loc X.env.scope x) (r:RelV v u)
  (h:∀ s',Inv X pins (σ.set i (some v)) H s'→Q () s') (hf:X.fn x=true∨X.env.scope.names.lookup x=some .local:=by first|exact .inl rfl|exact .inr rfl|assumption):wpAny M A (storeName X.env x u) Q E s:=
 store_ok2 I hN hi hx r (fun s' I' _=>h s' I') hf
theorem Inv.call' {s':Shared} {ch:List Addr} (I:Inv X pins σ H s) (ho:s'.os=s.os) (u:Un (frs X.stack) ch H H' s.heap s'.heap) (hok:HOk X.prog X.w H' s'.heap) (hg:AllBare s'.gens)
  (hch:∀ b∈ch,(b∈X.ex∨X.s_0.heap.objs.size≤b)∧b≠X.env.locals∧(∀ x c,X.env.cells.lookup x=some c→c≠b)∧∀ p∈X.pn++pins,p.1≠b):Inv X pins σ H' s':=by
 obtain ⟨h',g',d',t',o'⟩:=s'
 have e:o'=s.os:=ho
 subst e
 exact I.call (g':=g') (t':=t') (d':=d') u hok hg hch
end
abbrev XK:=Value→Option Addr→Hp→Prop
abbrev St:=List (Option V)
abbrev VK:=V→Hp→Prop
abbrev TE:=St→Hp→VK→Prop
abbrev TT:=St→Hp→(Bool→Hp→Prop)→Prop
abbrev TA:=St→Hp→(List V→Hp→Prop)→Prop
structure Ends where
 nx:St→Hp→Prop
 rt:VK
 bk:St→Hp→Prop:=fun _ _=>False
 ct:St→Hp→Prop:=fun _ _=>False
abbrev TS:=Ends→St→Hp→Prop
def EP (X:Cx) (pins:List (Addr×Obj)) (σ:St) (Q:VK) (u:Value) (s':Shared):Prop:=∃ v H',Inv X pins σ H' s'∧RelV v u∧Q v H'
def TP (X:Cx) (pins:List (Addr×Obj)) (σ:St) (Q:Bool→Hp→Prop) (b:Bool) (s':Shared):Prop:=∃ H',Inv X pins σ H' s'∧Q b H'
def AP (X:Cx) (pins:List (Addr×Obj)) (σ:St) (Q:List V→Hp→Prop) (us:List Value) (s':Shared):Prop:=∃ vs H',Inv X pins σ H' s'∧Vals vs us∧Q vs H'
def SP (X:Cx) (pins:List (Addr×Obj)) (D:Ends) (f:Flow) (s':Shared):Prop:=
 match f with
 |.next=>∃ σ' H',Inv X pins σ' H' s'∧D.nx σ' H'
 |.brk=>∃ σ' H',Inv X pins σ' H' s'∧D.bk σ' H'
 |.cont=>∃ σ' H',Inv X pins σ' H' s'∧D.ct σ' H'
 |.ret u=>∃ v σ' H',Inv X pins σ' H' s'∧RelV v u∧D.rt v H'
def PE (X:Cx) (e:Expr) (t:TE):Prop:=
 ∀ (pins:List (Addr×Obj)) (s:Shared) (σ:St) (H:Hp) (Q:VK),Inv X pins σ H s→t σ H Q→wpAny (model X.prog X.w) X.A (eval e X.env) (EP X pins σ Q) X.xe s
def PT (X:Cx) (e:Expr) (t:TT):Prop:=
 ∀ (pins:List (Addr×Obj)) (s:Shared) (σ:St) (H:Hp) (Q:Bool→Hp→Prop),Inv X pins σ H s→t σ H Q→wpAny (model X.prog X.w) X.A (isTrue e X.env (eval e X.env)) (TP X pins σ Q) X.xe s
def PW (X:Cx) (e:Expr) (t:TT):Prop:=
 ∀ (whole:Sem Value) (pins:List (Addr×Obj)) (s:Shared) (σ:St) (H:Hp) (Q:Bool→Hp→Prop),Inv X pins σ H s→t σ H Q→wpAny (model X.prog X.w) X.A (isTrue e X.env whole) (TP X pins σ Q) X.xe s
theorem PW.pt {X:Cx} {e:Expr} {t:TT} (h:PW X e t):PT X e t:=h _
def PA (X:Cx) (es:List Expr) (t:TA):Prop:=
 ∀ (pos:Pos) (pins:List (Addr×Obj)) (s:Shared) (σ:St) (H:Hp) (Q:List V→Hp→Prop),Inv X pins σ H s→t σ H Q→wpAny (model X.prog X.w) X.A (spliced (backTo pos (starEach es X.env))) (AP X pins σ Q) X.xe s
def PS (X:Cx) (st:Stmt) (t:TS):Prop:=
 ∀ (pins:List (Addr×Obj)) (s:Shared) (σ:St) (H:Hp) (D:Ends),Inv X pins σ H s→t D σ H→wpAny (model X.prog X.w) X.A (exec st X.env) (SP X pins D) X.xe s
def PSs (X:Cx) (st:List Stmt) (t:TS):Prop:=
 ∀ (pins:List (Addr×Obj)) (s:Shared) (σ:St) (H:Hp) (D:Ends),Inv X pins σ H s→t D σ H→wpAny (model X.prog X.w) X.A (execs st X.env) (SP X pins D) X.xe s
theorem thn {α:Type} {t:Sem α} {Q Q':α→Shared→Prop} {M:Model} {A:Around} {E:Value→Shared→Prop} {s:Shared} (h:wpAny M A t Q E s) (hQ:∀ a s,Q a s→Q' a s):wpAny M A t Q' E s:=wpAny_mono h hQ fun _ _ x=>x
end L2
namespace L2
open PySem PySem.Spec PyProof.Rows
section
variable {X:Cx}
theorem bin {a b:Expr} {ta tb:TE} (ha:PE X a ta) (hb:PE X b tb) {pins:List (Addr×Obj)} {s:Shared} {σ:St} {H:Hp} {R:V→V→Hp→Prop} (I:Inv X pins σ H s) (h:ta σ H fun x H1=>tb σ H1 fun y H2=>R x y H2)
  {α:Type} {Q:α→Shared→Prop} {f:Value→Value→Sem α}
  (hf:∀ v u s2 x y H2,Inv X pins σ H2 s2→RelV x v→RelV y u→R x y H2→wpAny (model X.prog X.w) X.A (f v u) Q X.xe s2):
  wpAny (model X.prog X.w) X.A (eval a X.env) (fun v s₁=>wpAny (model X.prog X.w) X.A (eval b X.env) (fun u s₂=>wpAny (model X.prog X.w) X.A (f v u) Q X.xe s₂) X.xe s₁) X.xe s:=by
 refine thn (ha pins s σ H _ I h) fun v s1 ⟨x,H1,I1,r1,q1⟩=>?_
 refine thn (hb pins s1 σ H1 _ I1 q1) fun u s2 ⟨y,H2,I2,r2,q2⟩=>?_
 exact hf v u s2 x y H2 I2 r1 r2 q2
def tVar (i:Nat):TE:=fun σ H Q=>∃ v,σ[i]?=some (some v)∧Q v H
def tC (v:V):TE:=fun _ H Q=>Q v H
theorem pe_var {i:Nat} {x:Str} {pos:Pos} (hN:X.N[i]?=some x) (hv:Vis X.env.scope x) (hd:(x==("__debug__":Str))=false:=by decide) (hcd:(x==("__classdict__":Str))=false:=by decide):PE X (.Name x pos) (tVar i):=by
 intro pins s σ H Q I h
 obtain ⟨v,e,h⟩:=h
 obtain ⟨m,hn,hl⟩:=I.loc
 obtain ⟨u,r,l⟩:=hl i x v hN e hv
 have fin:EP X pins σ Q u s:=⟨v,H,I,r,h⟩
 rcases l with ⟨hk,hm⟩|⟨hk,c,hc,hcell⟩
 ·exact wpAny_Name (wpAny_loadName_local I.ok.kind hk hn hm fin) hd
 ·rcases hk with hk|hk
  ·exact wpAny_Name (wpAny_loadName_cell I.ok.kind hk hc hcell fin) hd
  ·exact wpAny_Name (wpAny_loadName_free I.ok.kind hk hc hcell fin hcd) hd
theorem pe_int {i j pos}:PE X (.Constant (.int i) j pos) (tC (.int i)):=fun _ _ _ H _ I h=>wpAny_Constant_int ⟨.int i,H,I.tok _,⟨_,rfl⟩,h⟩
theorem pe_bl {b j pos}:PE X (.Constant (.bool b) j pos) (tC (.bl b)):=fun _ _ _ H _ I h=>Constant_bool ⟨.bl b,H,I,rfl,h⟩
theorem pe_non {j pos}:PE X (.Constant .none j pos) (tC .non):=fun _ _ _ H _ I h=>Constant_none ⟨.non,H,I,rfl,h⟩
theorem pe_str {x j pos}:PE X (.Constant (.str x) j pos) (tC (.str x)):=fun _ _ _ H _ I h=>Calls.Constant_str ⟨.str x,H,I.tok _,⟨_,rfl⟩,h⟩
def Gl (X:Cx) (x:Str):Prop:=X.env.kindOf x=some .globalImplicit
theorem ld_glob {E:Value→Shared→Prop} {pins:List (Addr×Obj)} {s:Shared} {σ:St} {H:Hp} {x:Str} {u:Value} {pos:Pos} {Q:Value→Shared→Prop} (I:Inv X pins σ H s) (hg:Gl X x) (hm:X.mg x=some u) (h:Q u s)
  (hd:(x==("__debug__":Str))=false:=by decide):wpAny (model X.prog X.w) X.A (eval (.Name x pos) X.env) Q E s:=
 Calls.Name_function_global I.ok.kind hg (Calls.loadGlobal_global (by rw [I.ok.glob];exact I.mod.glob.keeps I.bk) hm h) hd
theorem ld_blt {E:Value→Shared→Prop} {pins:List (Addr×Obj)} {s:Shared} {σ:St} {H:Hp} {x:Str} {u:Value} {pos:Pos} {Q:Value→Shared→Prop} (I:Inv X pins σ H s) (hg:Gl X x) (hm:X.mg x=none) (hv:bootBuiltins x=some u) (h:Q u s)
  (hn:x≠"__name__":=by decide) (hd:(x==("__debug__":Str))=false:=by decide):wpAny (model X.prog X.w) X.A (eval (.Name x pos) X.env) Q E s:=by
 obtain ⟨mb,h1,h2⟩:=I.mod.blt
 exact Calls.Name_function_global I.ok.kind hg (Calls.loadGlobal_builtin (by rw [I.ok.glob];exact I.mod.glob.keeps I.bk) hm (by rw [I.ok.blt];exact h1.keeps I.bk) ((h2 x hn).trans hv) h) hd
theorem pe_glob {x:Str} {v:V} {u:Value} {pos:Pos} (hg:Gl X x) (hm:X.mg x=some u) (r:RelV v u) (hd:(x==("__debug__":Str))=false:=by decide):PE X (.Name x pos) (tC v):=
 fun _ _ _ H _ I h=>ld_glob I hg hm ⟨v,H,I,r,h⟩ hd
def t2I (ta tb:TE) (k:Int→Int→Hp→Prop):St→Hp→Prop:=fun σ H=>ta σ H fun x H1=>tb σ H1 fun y H2=>∃ i j,x=.int i∧y=.int j∧k i j H2
variable {a b:Expr} {ta tb:TE} {pos:Pos}
def PC (X:Cx) (op:CmpOp) (a b:Expr) (t:TE):Prop:=
 ∀ (pins:List (Addr×Obj)) (s:Shared) (σ:St) (H:Hp) (Q:VK),Inv X pins σ H s→t σ H Q→
  wpAny (model X.prog X.w) X.A (eval a X.env) (fun v s₁=>wpAny (model X.prog X.w) X.A (eval b X.env) (fun u s₂=>wpAny (model X.prog X.w) X.A (compareOp op v u) (EP X pins σ Q) X.xe s₂) X.xe s₁) X.xe s
theorem nobehind (b:Expr) {op:CmpOp} (h:op≠.In) (h2:op≠.NotIn):behindInMarks op b=false:=by
 have e1:(op==CmpOp.In)=false:=by cases op<;>first|rfl|exact absurd rfl h
 have e2:(op==CmpOp.NotIn)=false:=by cases op<;>first|rfl|exact absurd rfl h2
 cases b<;>simp [behindInMarks,e1,e2]
def tCmp (p:Int→Int→Bool) (ta tb:TE):TE:=fun σ H Q=>t2I ta tb (fun i j H2=>Q (.bl (p i j)) H2) σ H
abbrev tLt:TE→TE→TE:=tCmp fun i j=>decide (i<j)
abbrev tLe:TE→TE→TE:=tCmp fun i j=>decide (i≤j)
abbrev tGt:TE→TE→TE:=tCmp fun i j=>decide (j<i)
theorem pc_int {op:CmpOp} {p:Int→Int→Bool} (ha:PE X a ta) (hb:PE X b tb)
  (rule:∀ (i j:Int) (t u:Tok) (Q:Value→Shared→Prop) (s:Shared),Q (.bool (p i j)) s→wpAny (model X.prog X.w) X.A (compareOp op (.int i t) (.int j u)) Q X.xe s):PC X op a b (tCmp p ta tb):=by
 intro pins s σ H Q I h
 refine bin ha hb I h fun v u s2 x y H2 I2 rx ry q=>?_
 obtain ⟨i,j,rfl,rfl,q⟩:=q
 obtain ⟨t,rfl⟩:=rx
 obtain ⟨t',rfl⟩:=ry
 exact rule i j t t' _ s2 ⟨.bl _,H2,I2,rfl,q⟩
theorem pc_lt (ha:PE X a ta) (hb:PE X b tb):PC X .Lt a b (tLt ta tb):=pc_int ha hb fun _ _ _ _ _ _ h=>lt_int h
theorem pc_le (ha:PE X a ta) (hb:PE X b tb):PC X .LtE a b (tLe ta tb):=pc_int ha hb fun _ _ _ _ _ _ h=>le_int h
theorem pc_gt (ha:PE X a ta) (hb:PE X b tb):PC X .Gt a b (tGt ta tb):=pc_int ha hb fun _ _ _ _ _ _ h=>gt_int h
def tB (t:TE):TT:=fun σ H Q=>t σ H fun x H1=>∃ c,x=.bl c∧Q c H1
theorem pt_cmp {op:CmpOp} {t:TE} (h:PC X op a b t) (h1:behindInMarks op b=false:=by first|exact nobehind _ (by decide) (by decide)|rfl):PT X (.Compare a [op] [b] pos) (tB t):=by
 intro pins s σ H Q I hw
 refine wpAny_isTrue_Compare1 (thn (h pins s σ H _ I hw) fun v s1 h1=>thn h1 fun u s2 h2=>thn h2 fun c s3 ⟨x,H1,I1,r1,q1⟩=>?_) h1
 obtain ⟨d,rfl,q⟩:=q1
 cases r1
 exact wpAny_truthy_bool ⟨H1,I1,q⟩
theorem pt_val {e:Expr} {t:TE} (h:PE X e t) (he:∀ whole,isTrue e X.env whole=(do let v ←whole;standAt e.pos;holding [v] (truthy v)):=by intro _;rfl):PT X e (tB t):=by
 intro pins s σ H Q I hw
 refine isTrue_plain (thn (h pins s σ H _ I hw) fun v s1 ⟨x,H1,I1,r1,q1⟩=>?_) (he _)
 obtain ⟨d,rfl,q⟩:=q1
 cases r1
 exact wpAny_truthy_bool ⟨H1,I1,q⟩
variable {tA tB':TT} {rest:List Expr}
def tAnd (t u:TT):TT:=fun σ H Q=>t σ H fun c H1=>if c=true then u σ H1 Q else Q false H1
def tOr (t u:TT):TT:=fun σ H Q=>t σ H fun c H1=>if c=true then Q true H1 else u σ H1 Q
def tNot (t:TT):TT:=fun σ H Q=>t σ H fun c H1=>Q (!c) H1
theorem pw_and1 (ha:PT X a tA):PW X (.BoolOp .And [a] pos) tA:=by
 intro wh pins s σ H Q I h
 refine isTrue_and (thn (ha pins s σ H Q I h) fun c s1 e=>?_)
 cases c with
 |true=>exact isTrue_and_nil e
 |false=>exact e
theorem pw_or1 (ha:PT X a tA):PW X (.BoolOp .Or [a] pos) tA:=by
 intro wh pins s σ H Q I h
 refine isTrue_or (thn (ha pins s σ H Q I h) fun c s1 e=>?_)
 cases c with
 |false=>exact isTrue_or_nil e
 |true=>exact e
theorem pw_and (ha:PT X a tA) (hb:PW X (.BoolOp .And (b::rest) pos) tB'):PW X (.BoolOp .And (a::b::rest) pos) (tAnd tA tB'):=by
 intro wh pins s σ H Q I h
 refine isTrue_and (thn (ha pins s σ H _ I h) fun c s1 ⟨H1,I1,q1⟩=>?_)
 cases c with
 |true=>exact hb wh pins s1 σ H1 Q I1 q1
 |false=>exact ⟨H1,I1,q1⟩
theorem pw_or (ha:PT X a tA) (hb:PW X (.BoolOp .Or (b::rest) pos) tB'):PW X (.BoolOp .Or (a::b::rest) pos) (tOr tA tB'):=by
 intro wh pins s σ H Q I h
 refine isTrue_or (thn (ha pins s σ H _ I h) fun c s1 ⟨H1,I1,q1⟩=>?_)
 cases c with
 |true=>exact ⟨H1,I1,q1⟩
 |false=>exact hb wh pins s1 σ H1 Q I1 q1
theorem pt_not (ha:PT X a tA):PT X (.UnaryOp .Not a pos) (tNot tA):=by
 intro pins s σ H Q I h
 exact isTrue_not (ha pins s σ H (fun c H1=>Q (!c) H1) I h)
def tAndV (ta tb:TE):TE:=fun σ H Q=>ta σ H fun x H1=>∃ c,x=.bl c∧if c=true then tb σ H1 Q else Q (.bl false) H1
def tOrV (ta tb:TE):TE:=fun σ H Q=>ta σ H fun x H1=>∃ c,x=.bl c∧if c=true then Q (.bl true) H1 else tb σ H1 Q
def tNotV (ta:TE):TE:=fun σ H Q=>ta σ H fun x H1=>∃ c,x=.bl c∧Q (.bl (!c)) H1
theorem pe_one {op} {t:TE} (h:PE X a t):PE X (.BoolOp op [a] pos) t:=fun pins s σ H Q I hw=>BoolOp_one (h pins s σ H Q I hw)
theorem pe_and (ha:PE X a ta) (hb:PE X (.BoolOp .And (b::rest) pos) tb):PE X (.BoolOp .And (a::b::rest) pos) (tAndV ta tb):=by
 intro pins s σ H Q I h
 refine BoolOp_and (thn (ha pins s σ H _ I h) fun v s1 ⟨x,H1,I1,r1,q1⟩=>?_)
 obtain ⟨c,rfl,q1⟩:=q1
 cases r1
 refine wpAny_truthy_bool ?_
 cases c with
 |true=>exact hb pins s1 σ H1 Q I1 q1
 |false=>exact ⟨.bl false,H1,I1,rfl,q1⟩
theorem pe_or (ha:PE X a ta) (hb:PE X (.BoolOp .Or (b::rest) pos) tb):PE X (.BoolOp .Or (a::b::rest) pos) (tOrV ta tb):=by
 intro pins s σ H Q I h
 refine BoolOp_or (thn (ha pins s σ H _ I h) fun v s1 ⟨x,H1,I1,r1,q1⟩=>?_)
 obtain ⟨c,rfl,q1⟩:=q1
 cases r1
 refine wpAny_truthy_bool ?_
 cases c with
 |false=>exact hb pins s1 σ H1 Q I1 q1
 |true=>exact ⟨.bl true,H1,I1,rfl,q1⟩
theorem pe_not (ha:PE X a ta):PE X (.UnaryOp .Not a pos) (tNotV ta):=by
 intro pins s σ H Q I h
 refine UnaryOp_ (thn (ha pins s σ H _ I h) fun v s1 ⟨x,H1,I1,r1,q1⟩=>?_)
 obtain ⟨c,rfl,q1⟩:=q1
 cases r1
 exact not_of (wpAny_truthy_bool ⟨.bl (!c),H1,I1,rfl,q1⟩)
def tIf (t:TT) (ta tb:TE):TE:=fun σ H Q=>t σ H fun c H1=>if c=true then ta σ H1 Q else tb σ H1 Q
theorem pe_ifExp {c:Expr} (hc:PT X c tA) (ha:PE X a ta) (hb:PE X b tb):PE X (.IfExp c a b pos) (tIf tA ta tb):=by
 intro pins s σ H Q I h
 refine wpAny_IfExp (thn (hc pins s σ H _ I h) fun d s1 ⟨H1,I1,q1⟩=>?_)
 cases d with
 |true=>exact ha pins s1 σ H1 Q I1 q1
 |false=>exact hb pins s1 σ H1 Q I1 q1
end
end L2
namespace L2
open PySem PySem.Spec PyProof.Rows
def SqL (K:PySem.W.Frag) (H:Hp) (a:Addr) (xs:List V):Prop:=
 Rd H a (.lst xs)∨
  ∃ (o:Obj) (its:Array Value) (n:Nat),K.lookup a=some o∧o.cls=.type "list"∧o.dict=none∧o.data=.seq its n∧its.size≤sizeLine∧Vals xs its.toList
def SqT (K:PySem.W.Frag) (H:Hp) (a:Addr) (xs:List V):Prop:=
 Rd H a (.tup xs)∨
  ∃ (o:Obj) (its:Array Value) (n:Nat),K.lookup a=some o∧o.cls=.type "tuple"∧o.data=.seq its n∧its.size≤sizeLine∧Vals xs its.toList
def absV:Value→Option V
 |.none=>some .non
 |.bool b=>some (.bl b)
 |.int i _=>some (.int i)
 |.str x _=>some (.str x)
 |.bytes b _=>some (.byt b)
 |.float b _=>some (.flt b)
 |.ref a=>some (.ref a)
 |.type n=>some (.ty n)
 |_=>none
theorem RelV.abs {x:V} {u:Value} (r:RelV x u):absV u=some x:=by
 cases x with
 |non=>cases r;rfl
 |bl _=>cases r;rfl
 |int _=>obtain ⟨t,rfl⟩:=r;rfl
 |str _=>obtain ⟨t,rfl⟩:=r;rfl
 |byt _=>obtain ⟨t,rfl⟩:=r;rfl
 |flt _=>obtain ⟨t,rfl⟩:=r;rfl
 |ref _=>cases r;rfl
 |ty _=>cases r;rfl
theorem RelV.inj {x y:V} {u:Value} (r:RelV x u) (q:RelV y u):x=y:=Option.some.inj (r.abs.symm.trans q.abs)
theorem Vals.inj:∀ {xs ys:List V} {us:List Value},Vals xs us→Vals ys us→xs=ys
 |_,_,_,.nil,.nil=>rfl
 |_,_,_,.cons r t,.cons r' t'=>by rw [r.inj r',Vals.inj t t']
section
variable {X:Cx} {pins:List (Addr×Obj)} {σ:St} {H:Hp} {s:Shared} {a:Addr} {xs ys:List V}
theorem SqL.of {K:PySem.W.Frag} (h:H a=some (.lst xs)):SqL K H a xs:=.inl (.inl h)
theorem SqT.of {K:PySem.W.Frag} (h:H a=some (.tup xs)):SqT K H a xs:=.inl (.inl h)
theorem Inv.list (I:Inv X pins σ H s) (h:SqL X.K H a xs):∃ its:List Value,Vals xs its∧PlainL s.heap a its.toArray∧xs.length≤sizeLine:=by
 rcases h with h|⟨o,its,n,hk,hc,hd,hs,hz,r⟩
 ·obtain ⟨z,its,n,r,e⟩:=h.ok I.hok
  exact ⟨its,r,⟨_,n,e,rfl,rfl,rfl⟩,z⟩
 ·refine ⟨its.toList,r,⟨o,n,I.kIn a o hk,hc,hd,by simpa using hs⟩,?_⟩
  have e:=r.length
  simp only [Array.length_toList] at e
  omega
theorem Inv.tuple (I:Inv X pins σ H s) (h:SqT X.K H a xs):∃ its:List Value,Vals xs its∧IsTup s.heap a its.toArray∧xs.length≤sizeLine:=by
 rcases h with h|⟨o,its,n,hk,hc,hs,hz,r⟩
 ·obtain ⟨z,its,r,p⟩:=h.ok I.hok
  exact ⟨its,r,p,z⟩
 ·refine ⟨its.toList,r,⟨o,I.kIn a o hk,hc,n,by simpa using hs⟩,?_⟩
  have e:=r.length
  simp only [Array.length_toList] at e
  omega
theorem Inv.list_inj (I:Inv X pins σ H s) (h:SqL X.K H a xs) (h':SqL X.K H a ys):xs=ys:=by
 obtain ⟨its,r,⟨o,n,e,_,_,d⟩,_⟩:=I.list h
 obtain ⟨its',r',⟨o',n',e',_,_,d'⟩,_⟩:=I.list h'
 rw [e] at e';cases e'
 rw [d] at d'
 injection d' with d1 _
 have:its=its':=by simpa using congrArg Array.toList d1
 subst this
 exact r.inj r'
theorem Inv.tuple_inj (I:Inv X pins σ H s) (h:SqT X.K H a xs) (h':SqT X.K H a ys):xs=ys:=by
 obtain ⟨its,r,⟨o,e,_,n,d⟩,_⟩:=I.tuple h
 obtain ⟨its',r',⟨o',e',_,n',d'⟩,_⟩:=I.tuple h'
 rw [e] at e';cases e'
 rw [d] at d'
 injection d' with d1 _
 have:its=its':=by simpa using congrArg Array.toList d1
 subst this
 exact r.inj r'
end
abbrev Cx.wish (X:Cx) (E:Value→Shared→Prop):Cx:={X with xe:=E}
abbrev Cx.nox (X:Cx):Cx:=X.wish fun _ _=>False
theorem Cx.Ok.wish {X:Cx} (ok:X.Ok) (E:Value→Shared→Prop):(X.wish E).Ok:=
 ⟨ok.mod,ok.kind,ok.glob,ok.blt,ok.above,ok.inj,ok.has,ok.cab,ok.hd,ok.frames,ok.stk,ok.exf,ok.bs,ok.bsz,ok.noex,ok.exfs,ok.funs,ok.frf⟩
theorem Cx.Ok.unwish {X:Cx} {E:Value→Shared→Prop} (ok:(X.wish E).Ok):X.Ok:=
 ⟨ok.mod,ok.kind,ok.glob,ok.blt,ok.above,ok.inj,ok.has,ok.cab,ok.hd,ok.frames,ok.stk,ok.exf,ok.bs,ok.bsz,ok.noex,ok.exfs,ok.funs,ok.frf⟩
section
variable {X:Cx} {pins:List (Addr×Obj)} {σ:St} {H:Hp} {s:Shared} {E:Value→Shared→Prop}
theorem Inv.wish (I:Inv X pins σ H s) (E:Value→Shared→Prop):Inv (X.wish E) pins σ H s:=⟨I.ok.wish E,I.os,I.bare,I.base,I.loc,I.cell,I.free,I.freeC,I.pin,I.hok,I.len⟩
theorem Inv.unwish (I:Inv (X.wish E) pins σ H s):Inv X pins σ H s:=⟨I.ok.unwish,I.os,I.bare,I.base,I.loc,I.cell,I.free,I.freeC,I.pin,I.hok,I.len⟩
theorem SP.unwish {D:Ends} {f:Flow} {s':Shared} (h:SP (X.wish E) pins D f s'):SP X pins D f s':=by
 cases f with
 |next=>obtain ⟨σ',H',I,q⟩:=h;exact ⟨σ',H',I.unwish,q⟩
 |brk=>obtain ⟨σ',H',I,q⟩:=h;exact ⟨σ',H',I.unwish,q⟩
 |cont=>obtain ⟨σ',H',I,q⟩:=h;exact ⟨σ',H',I.unwish,q⟩
 |ret u=>obtain ⟨v,σ',H',I,r,q⟩:=h;exact ⟨v,σ',H',I.unwish,r,q⟩
theorem PSs.nox {st:List Stmt} {t:TS} (h:PSs X.nox st t):PSs X st t:=fun pins s σ H D I hw=>
 wpAny_mono (h pins s σ H D (I.wish _) hw) (fun _ _ q=>q.unwish) fun _ _ z=>False.elim z
end
section
variable {X:Cx} {st:Stmt} {rest:List Stmt} {t u:TS} {e:Expr} {te:TE} {pos:Pos}
def tNext:TS:=fun D σ H=>D.nx σ H
def tSeq (t u:TS):TS:=fun D σ H=>t {D with nx:=u D} σ H
theorem pss_nil:PSs X [] tNext:=fun _ _ σ H _ I h=>wpAny_execs_nil ⟨σ,H,I,h⟩
theorem pss_cons (h1:PS X st t) (h2:PSs X rest u):PSs X (st::rest) (tSeq t u):=by
 intro pins s σ H D I h
 refine wpAny_execs_cons (thn (h1 pins s σ H {D with nx:=u D} I h) fun f s1 q=>?_)
 cases f with
 |next=>
  obtain ⟨σ',H',I',q⟩:=q
  exact h2 pins s1 σ' H' D I' q
 |ret v=>exact q
 |brk=>exact q
 |cont=>exact q
theorem pss_one (h1:PS X st t):PSs X [st] t:=by
 intro pins s σ H D I h
 refine wpAny_execs_cons (thn (h1 pins s σ H D I h) fun f s1 q=>?_)
 cases f with
 |next=>exact wpAny_execs_nil q
 |ret v=>exact q
 |brk=>exact q
 |cont=>exact q
theorem Inv.quiet {pins:List (Addr×Obj)} {σ:St} {H:Hp} {s:Shared} (I:Inv X pins σ H s):interactive X.env=false:=by simp [interactive,I.ok.kind]
def tDrop (te:TE):TS:=fun D σ H=>te σ H fun _ H1=>D.nx σ H1
theorem ps_expr (he:PE X e te) (hs:swapsWith e none pos.line X.env=pure false:=by rfl):PS X (.Expr e pos) (tDrop te):=by
 intro pins s σ H D I h
 exact wpAny_Expr_any (thn (he pins s σ H _ I h) fun v s1 ⟨x,H1,I1,r1,q1⟩=>⟨σ,H1,I1,q1⟩) I.quiet hs
def tRet (te:TE):TS:=fun D σ H=>te σ H D.rt
theorem ps_ret (he:PE X e te):PS X (.Return (some e) pos) (tRet te):=by
 intro pins s σ H D I h
 exact wpAny_Return_some (thn (he pins s σ H _ I h) fun v s1 ⟨x,H1,I1,r1,q1⟩=>⟨x,σ,H1,I1,r1,q1⟩)
def tIfS (c:TT) (t u:TS):TS:=fun D σ H=>c σ H fun b H1=>if b=true then t D σ H1 else u D σ H1
theorem ps_if {c:Expr} {a b:List Stmt} {tc:TT} (hc:PT X c tc) (ha:PSs X a t) (hb:PSs X b u):PS X (.If c a b pos) (tIfS tc t u):=by
 intro pins s σ H D I h
 refine wpAny_If (thn (hc pins s σ H _ I h) fun d s1 ⟨H1,I1,q1⟩=>?_)
 cases d with
 |true=>exact ha pins s1 σ H1 D I1 q1
 |false=>exact hb pins s1 σ H1 D I1 q1
end
abbrev TG:=V→St→Hp→(St→Hp→Prop)→Prop
abbrev TGs:=List V→St→Hp→(St→Hp→Prop)→Prop
def PG (X:Cx) (target:Expr) (t:TG):Prop:=
 ∀ (pins:List (Addr×Obj)) (s:Shared) (σ:St) (H:Hp) (v:V) (u:Value) (Q:St→Hp→Prop),Inv X pins σ H s→RelV v u→t v σ H Q→
  wpAny (model X.prog X.w) X.A (assign target X.env u) (fun _ s'=>∃ σ' H',Inv X pins σ' H' s'∧Q σ' H') X.xe s
def PGs (X:Cx) (ts:List Expr) (t:TGs):Prop:=
 ∀ (pins:List (Addr×Obj)) (s:Shared) (σ:St) (H:Hp) (vs:List V) (us:List Value) (Q:St→Hp→Prop),Inv X pins σ H s→Vals vs us→t vs σ H Q→
  wpAny (model X.prog X.w) X.A (assignInOrder ((assignEach ts X.env).map (·.2)) us) (fun _ s'=>∃ σ' H',Inv X pins σ' H' s'∧Q σ' H') X.xe s
section
variable {X:Cx} {pos:Pos}
def gName (i:Nat):TG:=fun v σ H Q=>Q (σ.set i (some v)) H
theorem pg_name {i:Nat} {x:Str} (hN:X.N.Nodup) (hi:X.N[i]?=some x) (hx:Loc X.env.scope x) (hf:X.fn x=true∨X.env.scope.names.lookup x=some .local:=by first|exact .inl rfl|exact .inr rfl|assumption):PG X (.Name x pos) (gName i):=by
 intro pins s σ H v u Q I r h
 exact wpAny_assign_Name (store_ok I hN hi hx r (fun s' I'=>⟨_,H,I',h⟩) hf)
def gNil:TGs:=fun vs σ H Q=>vs=[]∧Q σ H
def gCons (t:TG) (u:TGs):TGs:=fun vs σ H Q=>∃ v r,vs=v::r∧t v σ H fun σ' H'=>u r σ' H' Q
theorem pgs_nil:PGs X [] gNil:=by
 intro pins s σ H vs us Q I r h
 obtain ⟨e,h⟩:=h
 subst e
 cases r
 exact assignInOrder_nil ⟨σ,H,I,h⟩
theorem pgs_cons {e:Expr} {es:List Expr} {t:TG} {u:TGs} (h1:PG X e t) (h2:PGs X es u)
  (hs:(assignEach (e::es) X.env).map (·.2)=assign e X.env::(assignEach es X.env).map (·.2):=by rfl):PGs X (e::es) (gCons t u):=by
 intro pins s σ H vs us Q I r h
 obtain ⟨v,vr,e1,h⟩:=h
 subst e1
 cases r with
 |cons r rr=>
  rw [hs]
  refine assignInOrder_cons (thn (h1 pins s σ H _ _ _ I r h) fun _ s1 ⟨σ1,H1,I1,q1⟩=>?_)
  exact h2 pins s1 σ1 H1 _ _ Q I1 rr q1
def gTup (K:PySem.W.Frag) (n:Nat) (t:TGs):TG:=fun v σ H Q=>∃ a xs,v=.ref a∧SqT K H a xs∧xs.length=n∧t xs σ H Q
theorem pg_tup {es:List Expr} {k:Nat} {t:TGs} {n:Nat} (hc:X.calm=true) (h:PGs X es t)
  (hn:(assignEach es X.env).length=n:=by rfl) (hst:(assignEach es X.env).findIdx? (·.1)=none:=by rfl):PG X (.Tuple es k pos) (gTup X.K n t):=by
 intro pins s σ H v u Q I r hw
 obtain ⟨a,xs,e1,hq,hl,hw⟩:=hw
 subst e1
 cases r
 obtain ⟨its,rv,ht,hz⟩:=I.tuple hq
 refine assign_Tuple_tuple (I.ok.hd hc) ht (by simp [hn,←hl,rv.length]) hst fun h' hx=>?_
 have I1:Inv X pins σ H {s with heap:=h'}:=I.kept (t':=s.toks) fun b o e=>hx b o (Nat.ne_of_lt (Heap.lt_size e)) e
 exact h pins _ σ H xs _ Q I1 (by simpa using rv) hw
def tAsg (te:TE) (g:TG):TS:=fun D σ H=>te σ H fun x H1=>g x σ H1 D.nx
theorem ps_set {i:Nat} {x:Str} {e:Expr} {te:TE} {pos':Pos} (hN:X.N.Nodup) (hi:X.N[i]?=some x) (hx:Loc X.env.scope x) (he:PE X e te) (hs:swapsWith e (some (.Name x pos')) pos.line X.env=pure false:=by rfl) (hf:X.fn x=true∨X.env.scope.names.lookup x=some .local:=by first|exact .inl rfl|exact .inr rfl|assumption):
  PS X (.Assign [.Name x pos'] e pos) (tAsg te (gName i)):=by
 intro pins s σ H D I h
 refine wpAny_Assign_Name (thn (he pins s σ H _ I h) fun v s1 ⟨y,H1,I1,r1,q1⟩=>?_) hs
 exact store_ok I1 hN hi hx r1 (fun s2 I2=>⟨_,H1,I2,q1⟩) hf
end
section
variable {X:Cx} {pos:Pos}
def tWhile (c:TT) (tb:TS):TS:=fun D σ H=>∃ W:Nat→St→Hp→Prop,(∃ m,W m σ H)∧∀ m σ H,W m σ H→
 c σ H fun b H1=>if b=true then ∃ N:St→Hp→Prop,(∀ σ' H',N σ' H'→∃ m',m'<m∧W m' σ' H')∧tb {D with nx:=N,ct:=N,bk:=D.nx} σ H1 else D.nx σ H1
theorem ps_while {c:Expr} {body:List Stmt} {tc:TT} {tb:TS} (hp:PassesOwn (model X.prog X.w) X.A X.env X.xe) (hc:PT X c tc) (hb:PSs X body tb):PS X (.While c body [] pos) (tWhile tc tb):=by
 intro pins s σ H D I h
 obtain ⟨W,⟨m0,w0⟩,turn⟩:=h
 refine wpAny_While (codeAny_whileLoop (fun n s'=>∃ σ' H',Inv X pins σ' H' s'∧W n σ' H') ?_ m0 ⟨σ,H,I,w0⟩)
 rintro n s1 ⟨σ1,H1,I1,w1⟩
 refine wpAny_passesOwn hp (thn (hc pins s1 σ1 H1 _ I1 (turn n σ1 H1 w1)) fun b s2 ⟨H2,I2,q2⟩=>?_)
 cases b with
 |true=>
  obtain ⟨N,hN,q2⟩:=q2
  rw [if_pos rfl]
  refine wpAny_passesOwn hp (thn (hb pins s2 σ1 H2 _ I2 q2) fun f s3 q3=>?_)
  cases f with
  |next=>
   obtain ⟨σ3,H3,I3,n3⟩:=q3
   obtain ⟨m',hm,w3⟩:=hN σ3 H3 n3
   exact ⟨m',hm,σ3,H3,I3,w3⟩
  |cont=>
   obtain ⟨σ3,H3,I3,n3⟩:=q3
   obtain ⟨m',hm,w3⟩:=hN σ3 H3 n3
   exact ⟨m',hm,σ3,H3,I3,w3⟩
  |brk=>exact q3
  |ret v=>exact q3
 |false=>
  rw [if_neg Bool.false_ne_true]
  exact wpAny_execs_nil ⟨σ1,H2,I2,q2⟩
end
structure It where
 go:Nat→Hp→Prop
 yld:Nat→Hp→V→Hp→Prop
 stop:Nat→Hp→Prop
def FpOk (X:Cx) (pins:List (Addr×Obj)) (H:Hp) (b:Addr):Prop:=
 H b=none∧b≠X.env.locals∧b∉X.fs∧(b∈X.ex∨X.s_0.heap.objs.size≤b)∧(∀ x c,X.env.cells.lookup x=some c→c≠b)∧∀ p∈X.pn++pins,p.1≠b
theorem Inv.fpOk {X:Cx} {pins:List (Addr×Obj)} {σ:St} {H H':Hp} {s:Shared} {b:Addr} (I:Inv X pins σ H s) (hb:s.heap.objs.size≤b) (hn:H' b=none):FpOk X pins H' b:=by
 refine ⟨hn,Nat.ne_of_gt (Nat.lt_of_lt_of_le I.lt hb),I.nofs hb,.inr (Nat.le_trans I.sz hb),fun x c e z=>?_,fun p hp z=>?_⟩
 ·obtain ⟨v,q⟩:=I.cell x c e
  exact absurd (Nat.lt_of_lt_of_le q.lt (by rw [z];exact hb)) (Nat.lt_irrefl _)
 ·exact absurd (Nat.lt_of_lt_of_le (Heap.lt_size (I.pin p hp).1) (by rw [z];exact hb)) (Nat.lt_irrefl _)
structure Turn (P:Program) (w:World) (K:PySem.W.Frag) (tg:Expr) (J:It) (fp:List Addr) (it:Addr) (tn:Nat→Heap→Prop):Prop where
 mem:it∈fp
 obj:∀ i h,tn i h→∀ b∈fp,∃ o,h.get? b=some o∧∀ v,o.data≠.cell v
 keep:∀ i h h',tn i h→(∀ b∈fp,∀ o,h.get? b=some o→h'.get? b=some o)→tn i h'
 item:∀ (X:Cx),X.prog=P→X.w=w→X.K=K→X.calm=true→∀ (i:Nat) (pins:List (Addr×Obj)) (s:Shared) (σ:St) (H:Hp) (E:Value→Shared→Prop),Inv X pins σ H s→(∀ b∈fp,FpOk X pins H b)→tn i s.heap→J.go i H→
  wpAny (model P w) X.A (pyNext (.ref it)) (fun r s1=>∃ u,r=some u∧
   wpAny (model P w) X.A (letOwnedTupleGo tg (.ref it) u) (fun _ s2=>∃ x H',Inv X pins σ H' s2∧RelV x u∧J.yld i H x H'∧tn (i+1) s2.heap∧∀ b∈fp,H' b=none) E s1) E s
 done:∀ (X:Cx),X.prog=P→X.w=w→X.K=K→X.calm=true→∀ (i:Nat) (pins:List (Addr×Obj)) (s:Shared) (σ:St) (H:Hp) (E:Value→Shared→Prop),Inv X pins σ H s→(∀ b∈fp,FpOk X pins H b)→tn i s.heap→J.stop i H→
  wpAny (model P w) X.A (pyNext (.ref it)) (fun r s1=>r=none∧Inv X pins σ H s1) E s
 self:∀ (A:Around) (i:Nat) (s:Shared) (Q:Value→Shared→Prop) (E:Value→Shared→Prop),tn i s.heap→Q (.ref it) s→wpAny (model P w) A (pyIter (.ref it)) Q E s
abbrev TI:=St→Hp→(It→Hp→Prop)→Prop
def PIE (X:Cx) (pins:List (Addr×Obj)) (σ:St) (tg:Expr) (R:It→Hp→Prop) (itv:Value) (s2:Shared):Prop:=
 ∃ (it:Addr) (fp:List Addr) (tn:Nat→Heap→Prop) (J:It) (H':Hp),itv=.ref it∧Inv X pins σ H' s2∧Turn X.prog X.w X.K tg J fp it tn∧tn 0 s2.heap∧(∀ b∈fp,FpOk X pins H' b)∧R J H'
def PI (X:Cx) (tg iter:Expr) (wi:TI):Prop:=
 ∀ (pins:List (Addr×Obj)) (s:Shared) (σ:St) (H:Hp) (R:It→Hp→Prop),Inv X pins σ H s→wi σ H R→
  wpAny (model X.prog X.w) X.A (eval iter X.env) (fun v s1=>wpAny (model X.prog X.w) X.A (pyIter v) (PIE X pins σ tg R) X.xe s1) X.xe s
theorem go_of {M:Model} {A:Around} {E:Value→Shared→Prop} {s:Shared} {tg:Expr} {it:Addr} {u:Value} {o:Obj} {n:String} {vs:Array Value} {Q:Unit→Shared→Prop} (ho:s.heap.get? it=some o) (hc:o.cls=.type n) (hd:o.data=.fields vs)
  (hn:["enumerate","zip","dict_itemiterator","dict_reverseitemiterator","odict_iterator","itertools.zip_longest","itertools.pairwise"].contains n=false) (hQ:Q () s):wpAny M A (letOwnedTupleGo tg (.ref it) u) Q E s:=by
 unfold letOwnedTupleGo
 cases tg<;>first
  |exact wpAny_pure hQ
  |(cases u<;>first
    |exact wpAny_pure hQ
    |(refine wpAny_bind (wpAny_load ho ?_)
      rw [hc,hd]
      show wpAny M A (if (["enumerate","zip","dict_itemiterator","dict_reverseitemiterator","odict_iterator","itertools.zip_longest","itertools.pairwise"].contains n && vs[0]?==some (rawInt _))=true then _ else _) Q E s
      rw [if_neg (by intro h;rw [hn,Bool.false_and] at h;cases h)]
      exact wpAny_pure hQ))
def Itl (K:PySem.W.Frag) (a:Addr):It:=
 ⟨fun i H=>∃ xs x,SqL K H a xs∧xs[i]?=some x,fun i H x H'=>H'=H∧∀ xs,SqL K H a xs→xs[i]?=some x,fun i H=>∃ xs,SqL K H a xs∧xs.length≤i⟩
def Itt (K:PySem.W.Frag) (a:Addr):It:=
 ⟨fun i H=>∃ xs x,SqT K H a xs∧xs[i]?=some x,fun i H x H'=>H'=H∧∀ xs,SqT K H a xs→xs[i]?=some x,fun i H=>∃ xs,SqT K H a xs∧xs.length≤i⟩
def Itr (lo:Int) (n:Nat):It:=⟨fun i _=>i<n,fun i H x H'=>H'=H∧x=.int (lo+i),fun i _=>n≤i⟩
theorem turn_list {P:Program} {w:World} {K:PySem.W.Frag} {tg:Expr} (a it:Addr):Turn P w K tg (Itl K a) [it] it (fun i h=>h.IsListIter it a i) where
 mem:=by simp
 obj:=fun i h st b hb=>by
  have e:b=it:=by simpa using hb
  subst e
  obtain ⟨o,e,c,d⟩:=st
  exact ⟨o,e,fun v z=>by rw [d] at z;cases z⟩
 keep:=fun i h h' st k=>st.at fun o e=>k it (by simp) o e
 item:=by
  intro X hP hw hK hc i pins s σ H E I hf st hg
  subst hP hw hK
  obtain ⟨xs,x,hq,hx⟩:=hg
  obtain ⟨its,rv,p,hz⟩:=I.list hq
  obtain ⟨u,hu,ru⟩:=rv.get hx
  obtain ⟨f0,f1,f2,f3,f4,f5⟩:=hf it (by simp)
  refine wpAny_pyNext_list_item st p.isList (x:=u) (by simpa using hu) fun h' st' sb=>?_
  have I1:Inv X pins σ H {s with heap:=h'}:=I.turned (t':=s.toks) (fun b o hb e=>(sb.2 b hb).trans e) f0 f1 f3 f4 f5
  obtain ⟨o,e,c,d⟩:=id st'
  exact ⟨u,rfl,go_of (s:={s with heap:=h'}) e c d (by decide) ⟨x,H,I1,ru,⟨rfl,fun ys hy=>by rw [I.list_inj hy hq];exact hx⟩,st',fun b hb=>(hf b hb).1⟩⟩
 done:=by
  intro X hP hw hK hc i pins s σ H E I hf st hg
  subst hP hw hK
  obtain ⟨xs,hq,hx⟩:=hg
  obtain ⟨its,rv,p,hz⟩:=I.list hq
  obtain ⟨f0,f1,f2,f3,f4,f5⟩:=hf it (by simp)
  have hl:=rv.length
  exact wpAny_pyNext_list_end (I.ok.hd hc) st p.isList (by simp;omega) fun h' eb=>⟨rfl,I.turned (t':=s.toks) (fun b o hb e=>eb b o hb e) f0 f1 f3 f4 f5⟩
 self:=fun _ _ _ _ _ st h=>wpAny_pyIter_listiter st h
theorem turn_tuple {P:Program} {w:World} {K:PySem.W.Frag} {tg:Expr} (a it:Addr):Turn P w K tg (Itt K a) [it] it (fun i h=>h.IsTupleIter it a i) where
 mem:=by simp
 obj:=fun i h st b hb=>by
  have e:b=it:=by simpa using hb
  subst e
  obtain ⟨o,e,c,d⟩:=st
  exact ⟨o,e,fun v z=>by rw [d] at z;cases z⟩
 keep:=fun i h h' st k=>st.at fun o e=>k it (by simp) o e
 item:=by
  intro X hP hw hK hc i pins s σ H E I hf st hg
  subst hP hw hK
  obtain ⟨xs,x,hq,hx⟩:=hg
  obtain ⟨its,rv,p,hz⟩:=I.tuple hq
  obtain ⟨u,hu,ru⟩:=rv.get hx
  obtain ⟨f0,f1,f2,f3,f4,f5⟩:=hf it (by simp)
  refine wpAny_pyNext_tuple_item st (show s.heap.IsTuple a its.toArray from p) (x:=u) (by simpa using hu) fun h' st' sb=>?_
  have I1:Inv X pins σ H {s with heap:=h'}:=I.turned (t':=s.toks) (fun b o hb e=>(sb.2 b hb).trans e) f0 f1 f3 f4 f5
  obtain ⟨o,e,c,d⟩:=id st'
  exact ⟨u,rfl,go_of (s:={s with heap:=h'}) e c d (by decide) ⟨x,H,I1,ru,⟨rfl,fun ys hy=>by rw [I.tuple_inj hy hq];exact hx⟩,st',fun b hb=>(hf b hb).1⟩⟩
 done:=by
  intro X hP hw hK hc i pins s σ H E I hf st hg
  subst hP hw hK
  obtain ⟨xs,hq,hx⟩:=hg
  obtain ⟨its,rv,p,hz⟩:=I.tuple hq
  obtain ⟨f0,f1,f2,f3,f4,f5⟩:=hf it (by simp)
  have hl:=rv.length
  exact wpAny_pyNext_tuple_end (I.ok.hd hc) st (show s.heap.IsTuple a its.toArray from p) (by simp;omega) fun h' eb=>⟨rfl,I.turned (t':=s.toks) (fun b o hb e=>eb b o hb e) f0 f1 f3 f4 f5⟩
 self:=fun _ _ _ _ _ st h=>wpAny_pyIter_tupleiter st h
theorem turn_range {P:Program} {w:World} {K:PySem.W.Frag} {tg:Expr} (it:Addr) (lo:Int) (n:Nat):Turn P w K tg (Itr lo n) [it] it (fun i h=>IsRangeIter h it (lo+(i:Nat) * 1) ((n:Int) - (i:Nat)) 1) where
 mem:=by simp
 obj:=fun i h st b hb=>by
  have e:b=it:=by simpa using hb
  subst e
  exact ⟨_,st,fun v z=>by
   have z':Data.fields _=Data.cell v:=z
   cases z'⟩
 keep:=fun i h h' st k=>k it (by simp) _ st
 item:=by
  intro X hP hw hK hc i pins s σ H E I hf st hg
  subst hP hw hK
  obtain ⟨f0,f1,f2,f3,f4,f5⟩:=hf it (by simp)
  have W:=Walks.range (prog:=X.prog) (w:=X.w) (I.ok.hd hc) it lo 1 n
  refine W.item i s _ _ hg st fun v h' tk hv st' kk=>?_
  obtain ⟨t,rfl⟩:=hv
  have I1:Inv X pins σ H {s with heap:=h',toks:=tk}:=I.turned (fun b o hb e=>kk b o (by simpa using hb) e) f0 f1 f3 f4 f5
  refine ⟨_,rfl,go_of (s:={s with heap:=h',toks:=tk}) (n:="range_iterator") st' rfl rfl (by decide) ⟨.int (lo+i),H,I1,⟨t,?_⟩,⟨rfl,rfl⟩,st',fun b hb=>(hf b hb).1⟩⟩
  rw [Int.mul_one]
 done:=by
  intro X hP hw hK hc i pins s σ H E I hf st hg
  subst hP hw hK
  obtain ⟨f0,f1,f2,f3,f4,f5⟩:=hf it (by simp)
  exact wpAny_pyNext_range_end (I.ok.hd hc) st (by have:n≤i:=hg;omega) fun h' eb=>⟨rfl,I.turned (t':=s.toks) (fun b o hb e=>eb b o hb e) f0 f1 f3 f4 f5⟩
 self:=fun _ _ _ _ _ st h=>wpAny_pyIter_rangeiter st h
end L2
namespace L2
open PySem PySem.Spec PyProof.Rows
section
variable {X:Cx} {tg:Expr}
def iList (K:PySem.W.Frag) (tl:TE):TI:=fun σ H R=>tl σ H fun x H1=>∃ a,x=.ref a∧(∃ xs,SqL K H1 a xs)∧R (Itl K a) H1
def iTup (K:PySem.W.Frag) (tl:TE):TI:=fun σ H R=>tl σ H fun x H1=>∃ a,x=.ref a∧(∃ xs,SqT K H1 a xs)∧R (Itt K a) H1
theorem pi_list {l:Expr} {tl:TE} (hl:PE X l tl):PI X tg l (iList X.K tl):=by
 intro pins s σ H R I h
 refine thn (hl pins s σ H _ I h) fun v s1 ⟨x,H1,I1,r1,q1⟩=>?_
 obtain ⟨a,e,⟨xs,hq⟩,q⟩:=q1
 subst e
 cases r1
 obtain ⟨its,rv,p,hz⟩:=I1.list hq
 refine wpAny_pyIter_list p.isList ?_
 refine ⟨s1.heap.objs.size,[s1.heap.objs.size],_,_,H1,rfl,I1.kept (t':=s1.toks) fun b o e=>Heap.get?_push_of_some _ e,turn_list a _,⟨_,Heap.get?_push_size _ rfl,rfl,rfl⟩,fun b hb=>?_,q⟩
 have e:b=s1.heap.objs.size:=by simpa using hb
 subst e
 exact I1.fpOk (Nat.le_refl _) (I1.hok.fresh (Nat.le_refl _))
theorem pi_tup {l:Expr} {tl:TE} (hl:PE X l tl):PI X tg l (iTup X.K tl):=by
 intro pins s σ H R I h
 refine thn (hl pins s σ H _ I h) fun v s1 ⟨x,H1,I1,r1,q1⟩=>?_
 obtain ⟨a,e,⟨xs,hq⟩,q⟩:=q1
 subst e
 cases r1
 obtain ⟨its,rv,p,hz⟩:=I1.tuple hq
 refine wpAny_pyIter_tuple (show s1.heap.IsTuple a its.toArray from p) ?_
 refine ⟨s1.heap.objs.size,[s1.heap.objs.size],_,_,H1,rfl,I1.kept (t':=s1.toks) fun b o e=>Heap.get?_push_of_some _ e,turn_tuple a _,⟨_,Heap.get?_push_size _ rfl,rfl,rfl⟩,fun b hb=>?_,q⟩
 have e:b=s1.heap.objs.size:=by simpa using hb
 subst e
 exact I1.fpOk (Nat.le_refl _) (I1.hok.fresh (Nat.le_refl _))
theorem range_it {pins:List (Addr×Obj)} {σ:St} {H:Hp} {s:Shared} {R:It→Hp→Prop} {E:Value→Shared→Prop} {lo hi:Int} {t u v:Tok} {tk:Nat} (I:Inv X pins σ H s) (h1: -(2 ^ 62)≤lo) (h2:lo<2 ^ 62) (h3: -(2 ^ 62)≤hi) (h4:hi<2 ^ 62)
  (q:R (Itr lo (hi - lo).toNat) H):wpAny (model X.prog X.w) X.A (pyIter (.ref s.heap.objs.size)) (PIE X pins σ tg R) E {s with heap:=s.heap.push {cls:=.type "range",data:=.fields #[.int lo t,.int hi u,.int 1 v]},toks:=tk}:=by
 refine wpAny_pyIter_range (IsRange.new ..) (small_one h1 h2 h3 h4) ?_
 have I1:Inv X pins σ H {s with heap:=s.heap.push {cls:=.type "range",data:=.fields #[.int lo t,.int hi u,.int 1 v]},toks:=tk}:=I.kept fun b o e=>Heap.get?_push_of_some _ e
 refine ⟨(s.heap.push {cls:=.type "range",data:=.fields #[.int lo t,.int hi u,.int 1 v]}).objs.size,[(s.heap.push {cls:=.type "range",data:=.fields #[.int lo t,.int hi u,.int 1 v]}).objs.size],_,_,H,rfl,
  I1.kept (t':=tk) fun b o e=>Heap.get?_push_of_some _ e,turn_range _ lo (hi - lo).toNat,?_,fun b hb=>?_,q⟩
 ·have e1:lo+((0:Nat):Int) * 1=lo:=by simp
  have e2:(((hi - lo).toNat:Nat):Int) - ((0:Nat):Int)=Builtin.Range.rangeSize lo hi 1:=by rw [rangeSize_one];split<;>omega
  show IsRangeIter _ _ (lo+((0:Nat):Int) * 1) ((((hi - lo).toNat:Nat):Int) - ((0:Nat):Int)) 1
  rw [e1,e2]
  exact Heap.get?_push_size _ rfl
 ·have e:b=(s.heap.push {cls:=.type "range",data:=.fields #[.int lo t,.int hi u,.int 1 v]}).objs.size:=by simpa using hb
  subst e
  exact I1.fpOk (Nat.le_refl _) (I1.hok.fresh (Nat.le_refl _))
def iRng1 (ta:TA):TI:=fun σ H R=>ta σ H fun vs H1=>∃ j:Int,vs=[.int j]∧ -(2 ^ 62)≤j∧j<2 ^ 62∧R (Itr 0 j.toNat) H1
def iRng2 (ta:TA):TI:=fun σ H R=>ta σ H fun vs H1=>∃ i j:Int,vs=[.int i,.int j]∧(-(2 ^ 62)≤i∧i<2 ^ 62∧ -(2 ^ 62)≤j∧j<2 ^ 62)∧R (Itr i (j - i).toNat) H1
theorem pi_range1 {a:Expr} {ta:TA} {p pos:Pos} (hg:Gl X "range") (hm:X.mg "range"=none) (ha:PA X [a] ta) (hs:starEach [a] X.env=[(false,eval a X.env)]:=by rfl):PI X tg (.Call (.Name "range" p) [a] [] pos) (iRng1 ta):=by
 intro pins s σ H R I h
 refine Call_ (ld_blt I hg hm boot_range (PyProof.Rows.callWith_type1 (thn (ha pos pins s σ H _ I h) fun us s1 ⟨vs,H1,I1,r1,q1⟩=>?_) hs rfl))
 obtain ⟨j,e,q1,q2,q⟩:=q1
 subst e
 cases r1 with
 |cons r rr=>
  cases rr
  obtain ⟨t,rfl⟩:=r
  exact call_range_1 (range_it I1 (by omega) (by omega) q1 q2 (by simpa using q))
theorem pi_range2 {a b:Expr} {ta:TA} {p pos:Pos} (hg:Gl X "range") (hm:X.mg "range"=none) (ha:PA X [a,b] ta) (hs:starEach [a,b] X.env=[(false,eval a X.env),(false,eval b X.env)]:=by rfl) (hs2:starEach [b] X.env=[(false,eval b X.env)]:=by rfl):
  PI X tg (.Call (.Name "range" p) [a,b] [] pos) (iRng2 ta):=by
 intro pins s σ H R I h
 refine Call_ (ld_blt I hg hm boot_range (PyProof.Rows.callWith_type1 (thn (ha pos pins s σ H _ I h) fun us s1 ⟨vs,H1,I1,r1,q1⟩=>?_) (by rw [hs,hs2]) (by rw [hs2];rfl)))
 obtain ⟨i,j,e,⟨q1,q2,q3,q4⟩,q⟩:=q1
 subst e
 cases r1 with
 |cons r rr=>
  cases rr with
  |cons r' rr=>
   cases rr
   obtain ⟨t,rfl⟩:=r
   obtain ⟨t',rfl⟩:=r'
   exact call_range_2 (range_it I1 q1 q2 q3 q4 q)
def tFor (wi:TI) (g:TG) (tb:TS):TS:=fun D σ H=>wi σ H fun J H1=>∃ W:Nat→Nat→St→Hp→Prop,(∃ m,W 0 m σ H1)∧∀ i m σ H,W i m σ H→
 (J.stop i H∧D.nx σ H)∨(J.go i H∧∃ N:St→Hp→Prop,(∀ σ' H',N σ' H'→∃ m',m'<m∧W (i+1) m' σ' H')∧∀ x H',J.yld i H x H'→g x σ H' fun σ2 H2=>tb {D with nx:=N,ct:=N,bk:=D.nx} σ2 H2)
def pinsAt (fp:List Addr) (h:Heap):List (Addr×Obj):=fp.filterMap fun b=>(h.get? b).map fun o=>(b,o)
theorem mem_pinsAt {fp:List Addr} {h:Heap} {b:Addr} {o:Obj} (hb:b∈fp) (e:h.get? b=some o):(b,o)∈pinsAt fp h:=List.mem_filterMap.mpr ⟨b,hb,by rw [e];rfl⟩
theorem of_pinsAt {fp:List Addr} {h:Heap} {p:Addr×Obj} (hp:p∈pinsAt fp h):p.1∈fp∧h.get? p.1=some p.2:=by
 obtain ⟨b,hb,e⟩:=List.mem_filterMap.mp hp
 cases q:h.get? b with
 |none=>rw [q] at e;cases e
 |some o=>
  rw [q] at e
  have e':(b,o)=p:=Option.some.inj e
  subst e'
  exact ⟨hb,q⟩
theorem Inv.pinned {pins:List (Addr×Obj)} {σ:St} {H:Hp} {s:Shared} {fp:List Addr} (I:Inv X pins σ H s) (hf:∀ b∈fp,FpOk X pins H b) (ho:∀ b∈fp,∃ o,s.heap.get? b=some o∧∀ v,o.data≠.cell v):Inv X (pins++pinsAt fp s.heap) σ H s:=
 I.pins_of fun p hp=>(List.mem_append.mp hp).elim (fun z=>I.pin p (List.mem_append_right _ z)) fun z=>by
  obtain ⟨hb,e⟩:=of_pinsAt z
  obtain ⟨f0,f1,f2,_⟩:=hf p.1 hb
  obtain ⟨o,e',d⟩:=ho p.1 hb
  rw [e] at e';cases e'
  exact ⟨e,f0,f1,f2,d⟩
theorem Inv.unpinned {pins pl:List (Addr×Obj)} {σ:St} {H:Hp} {s:Shared} (I:Inv X (pins++pl) σ H s):Inv X pins σ H s:=I.pins_of fun p hp=>I.pin p (List.mem_append_right _ (List.mem_append_left _ hp))
theorem ps_for {iter:Expr} {body:List Stmt} {wi:TI} {g:TG} {tb:TS} {pos:Pos} (hp:PassesOwn (model X.prog X.w) X.A X.env X.xe) (hc:X.calm=true) (hi:PI X tg iter wi) (hg:PG X tg g) (hb:PSs X body tb)
  (hs:∀ x,foldedSetIterable iter X.env x=pure x:=by intro _;rfl):PS X (.For tg iter body [] pos) (tFor wi g tb):=by
 intro pins s σ H D I h
 refine wpAny_For (thn (hi pins s σ H _ I h) fun v s1 h1=>thn h1 fun itv s2 h2=>?_) hs
 obtain ⟨it,fp,tn,J,H2,e,I2,T,st2,f2,W,⟨m0,w0⟩,turn⟩:=h2
 subst e
 have stat:∀ {H':Hp},(∀ b∈fp,H' b=none)→∀ b∈fp,FpOk X pins H' b:=fun hn b hb=>⟨hn b hb,(f2 b hb).2⟩
 refine codeAny_forLoop_any (fun n s'=>∃ i σ' H',Inv X pins σ' H' s'∧tn i s'.heap∧(∀ b∈fp,H' b=none)∧W i n σ' H') ?_ m0 ⟨0,σ,H2,I2,st2,fun b hb=>(f2 b hb).1,w0⟩
 rintro n s3 ⟨i,σ3,H3,I3,st3,fr3,w3⟩
 rcases turn i n σ3 H3 w3 with ⟨stop,qn⟩|⟨go,N,hN,step⟩
 ·refine wpAny_passesOwn hp (thn (T.done X rfl rfl rfl hc i pins s3 σ3 H3 X.xe I3 (stat fr3) st3 stop) fun r s4 ⟨hr,I4⟩=>?_)
  subst hr
  exact wpAny_execs_nil ⟨σ3,H3,I4,qn⟩
 ·refine wpAny_passesOwn hp (thn (T.item X rfl rfl rfl hc i pins s3 σ3 H3 X.xe I3 (stat fr3) st3 go) fun r s4 ⟨u,hr,h4⟩=>?_)
  subst hr
  refine wpAny_passesOwn hp (thn h4 fun _ s5 ⟨x,H5,I5,r5,y5,st5,fr5⟩=>?_)
  have I5':=I5.pinned (stat fr5) (T.obj _ _ st5)
  refine wpAny_passesOwn hp (thn (hg _ s5 σ3 H5 x u _ I5' r5 (step x H5 y5)) fun _ s6 ⟨σ6,H6,I6,q6⟩=>?_)
  refine wpAny_passesOwn hp (thn (hb _ s6 σ6 H6 _ I6 q6) fun f s7 q7=>?_)
  have again:∀ {σ7:St} {H7:Hp},Inv X (pins++pinsAt fp s5.heap) σ7 H7 s7→N σ7 H7→∃ m,m<n∧∃ i σ' H',Inv X pins σ' H' s7∧tn i s7.heap∧(∀ b∈fp,H' b=none)∧W i m σ' H':=fun {σ7 H7} I7 n7=>by
   obtain ⟨m',hm,w7⟩:=hN σ7 H7 n7
   refine ⟨m',hm,i+1,σ7,H7,I7.unpinned,T.keep _ _ _ st5 fun b hb o e=>(I7.pin (b,o) (List.mem_append_right _ (List.mem_append_right _ (mem_pinsAt hb e)))).1,fun b hb=>?_,w7⟩
   obtain ⟨o,e,d⟩:=T.obj _ _ st5 b hb
   exact (I7.pin (b,o) (List.mem_append_right _ (List.mem_append_right _ (mem_pinsAt hb e)))).2.1
  cases f with
  |next=>obtain ⟨σ7,H7,I7,n7⟩:=q7;exact again I7 n7
  |cont=>obtain ⟨σ7,H7,I7,n7⟩:=q7;exact again I7 n7
  |brk=>obtain ⟨σ7,H7,I7,q7⟩:=q7;exact ⟨σ7,H7,I7.unpinned,q7⟩
  |ret v=>obtain ⟨x7,σ7,H7,I7,r7,q7⟩:=q7;exact ⟨x7,σ7,H7,I7.unpinned,r7,q7⟩
end
theorem for_list {K:PySem.W.Frag} {a:Addr} {xs:List V} {g:TG} {tb:TS} {D:Ends} {σ:St} {H:Hp} (Pv:Nat→St→Hp→Prop) (h0:Pv 0 σ H) (hl:∀ i σ H,i≤xs.length→Pv i σ H→SqL K H a xs)
  (hs:∀ i x σ H,xs[i]?=some x→Pv i σ H→g x σ H fun σ2 H2=>tb {D with nx:=Pv (i+1),ct:=Pv (i+1),bk:=D.nx} σ2 H2) (hd:∀ σ H,Pv xs.length σ H→D.nx σ H):
  ∃ W:Nat→Nat→St→Hp→Prop,(∃ m,W 0 m σ H)∧∀ i m σ H,W i m σ H→
   ((Itl K a).stop i H∧D.nx σ H)∨((Itl K a).go i H∧∃ N:St→Hp→Prop,(∀ σ' H',N σ' H'→∃ m',m'<m∧W (i+1) m' σ' H')∧∀ x H',(Itl K a).yld i H x H'→g x σ H' fun σ2 H2=>tb {D with nx:=N,ct:=N,bk:=D.nx} σ2 H2):=by
 refine ⟨fun i m σ H=>m=xs.length - i∧i≤xs.length∧Pv i σ H,⟨xs.length,by simp,Nat.zero_le _,h0⟩,?_⟩
 rintro i m σ H ⟨rfl,hi,p⟩
 have q:=hl i σ H hi p
 by_cases hlt:i<xs.length
 ·refine .inr ⟨⟨xs,xs[i],q,by simp [hlt]⟩,Pv (i+1),fun σ' H' p'=>⟨xs.length - (i+1),by omega,rfl,hlt,p'⟩,fun x H' y=>?_⟩
  obtain ⟨e,y⟩:=y
  subst e
  exact hs i x σ _ (y xs q) p
 ·have e:i=xs.length:=by omega
  subst e
  exact .inl ⟨⟨xs,q,Nat.le_refl _⟩,hd σ H p⟩
theorem for_tup {K:PySem.W.Frag} {a:Addr} {xs:List V} {g:TG} {tb:TS} {D:Ends} {σ:St} {H:Hp} (Pv:Nat→St→Hp→Prop) (h0:Pv 0 σ H) (hl:∀ i σ H,i≤xs.length→Pv i σ H→SqT K H a xs)
  (hs:∀ i x σ H,xs[i]?=some x→Pv i σ H→g x σ H fun σ2 H2=>tb {D with nx:=Pv (i+1),ct:=Pv (i+1),bk:=D.nx} σ2 H2) (hd:∀ σ H,Pv xs.length σ H→D.nx σ H):
  ∃ W:Nat→Nat→St→Hp→Prop,(∃ m,W 0 m σ H)∧∀ i m σ H,W i m σ H→
   ((Itt K a).stop i H∧D.nx σ H)∨((Itt K a).go i H∧∃ N:St→Hp→Prop,(∀ σ' H',N σ' H'→∃ m',m'<m∧W (i+1) m' σ' H')∧∀ x H',(Itt K a).yld i H x H'→g x σ H' fun σ2 H2=>tb {D with nx:=N,ct:=N,bk:=D.nx} σ2 H2):=by
 refine ⟨fun i m σ H=>m=xs.length - i∧i≤xs.length∧Pv i σ H,⟨xs.length,by simp,Nat.zero_le _,h0⟩,?_⟩
 rintro i m σ H ⟨rfl,hi,p⟩
 have q:=hl i σ H hi p
 by_cases hlt:i<xs.length
 ·refine .inr ⟨⟨xs,xs[i],q,by simp [hlt]⟩,Pv (i+1),fun σ' H' p'=>⟨xs.length - (i+1),by omega,rfl,hlt,p'⟩,fun x H' y=>?_⟩
  obtain ⟨e,y⟩:=y
  subst e
  exact hs i x σ _ (y xs q) p
 ·have e:i=xs.length:=by omega
  subst e
  exact .inl ⟨⟨xs,q,Nat.le_refl _⟩,hd σ H p⟩
theorem for_range {lo:Int} {n:Nat} {g:TG} {tb:TS} {D:Ends} {σ:St} {H:Hp} (Pv:Nat→St→Hp→Prop) (h0:Pv 0 σ H)
  (hs:∀ i σ H,i<n→Pv i σ H→g (.int (lo+i)) σ H fun σ2 H2=>tb {D with nx:=Pv (i+1),ct:=Pv (i+1),bk:=D.nx} σ2 H2) (hd:∀ σ H,Pv n σ H→D.nx σ H):
  ∃ W:Nat→Nat→St→Hp→Prop,(∃ m,W 0 m σ H)∧∀ i m σ H,W i m σ H→
   ((Itr lo n).stop i H∧D.nx σ H)∨((Itr lo n).go i H∧∃ N:St→Hp→Prop,(∀ σ' H',N σ' H'→∃ m',m'<m∧W (i+1) m' σ' H')∧∀ x H',(Itr lo n).yld i H x H'→g x σ H' fun σ2 H2=>tb {D with nx:=N,ct:=N,bk:=D.nx} σ2 H2):=by
 refine ⟨fun i m σ H=>m=n - i∧i≤n∧Pv i σ H,⟨n,by simp,Nat.zero_le _,h0⟩,?_⟩
 rintro i m σ H ⟨rfl,hi,p⟩
 by_cases hlt:i<n
 ·refine .inr ⟨hlt,Pv (i+1),fun σ' H' p'=>⟨n - (i+1),by omega,rfl,hlt,p'⟩,fun x H' y=>?_⟩
  obtain ⟨e,y⟩:=y
  subst e y
  exact hs i σ _ hlt p
 ·have e:i=n:=by omega
  subst e
  exact .inl ⟨Nat.le_refl _,hd σ H p⟩
end L2
namespace L2
open PySem PySem.Spec PyProof.Rows
abbrev R2:=V→V→Hp→VK→Prop
def OpR (X:Cx) (f:Value→Value→Sem Value) (r:R2):Prop:=
 ∀ (pins:List (Addr×Obj)) (s:Shared) (σ:St) (H:Hp) (x y:V) (v u:Value) (Q:VK),Inv X pins σ H s→RelV x v→RelV y u→r x y H Q→
  wpAny (model X.prog X.w) X.A (f v u) (EP X pins σ Q) X.xe s
def UnR (X:Cx) (f:Value→Sem Value) (r:V→Hp→VK→Prop):Prop:=
 ∀ (pins:List (Addr×Obj)) (s:Shared) (σ:St) (H:Hp) (x:V) (v:Value) (Q:VK),Inv X pins σ H s→RelV x v→r x H Q→
  wpAny (model X.prog X.w) X.A (f v) (EP X pins σ Q) X.xe s
def CallR (X:Cx) (f:Value) (r:List V→Hp→VK→Prop):Prop:=
 ∀ (pins:List (Addr×Obj)) (s:Shared) (σ:St) (H:Hp) (xs:List V) (us:List Value) (Q:VK),Inv X pins σ H s→Vals xs us→r xs H Q→
  wpAny (model X.prog X.w) X.A (call f us) (EP X pins σ Q) X.xe s
def tOp (r:R2) (ta tb:TE):TE:=fun σ H Q=>ta σ H fun x H1=>tb σ H1 fun y H2=>r x y H2 Q
def tUn (r:V→Hp→VK→Prop) (ta:TE):TE:=fun σ H Q=>ta σ H fun x H1=>r x H1 Q
def rI (C:Int→Int→Prop) (g:Int→Int→V):R2:=fun x y H Q=>∃ i j,x=.int i∧y=.int j∧C i j∧Q (g i j) H
def rI0 (g:Int→Int→V):R2:=fun x y H Q=>∃ i j,x=.int i∧y=.int j∧Q (g i j) H
def rU (g:Int→V):V→Hp→VK→Prop:=fun x H Q=>∃ i,x=.int i∧Q (g i) H
section
variable {X:Cx} {a b c:Expr} {ta tb tc:TE} {pos:Pos}
theorem binT (ha:PE X a ta) (hb:PE X b tb) {pins:List (Addr×Obj)} {s:Shared} {σ:St} {H:Hp} {R:V→V→Hp→Prop} (I:Inv X pins σ H s)
  (h:ta σ H fun x H1=>tb σ H1 fun y H2=>R x y H2) {Q:Value→Shared→Prop} {f:Value→Value→Sem Value}
  (hf:∀ v u s2 x y H2,Inv X pins σ H2 s2→RelV x v→RelV y u→R x y H2→wpAny (model X.prog X.w) X.A (f v u) Q X.xe s2):
  wpAny (model X.prog X.w) X.A (eval a X.env) (fun v s₁=>wpAny (model X.prog X.w) X.A (eval b X.env) (fun u s₂=>wpAny (model X.prog X.w) X.A (f v u) Q X.xe s₂) X.xe s₁) X.xe s:=by
 refine thn (ha pins s σ H _ I h) fun v s1 ⟨x,H1,I1,r1,q1⟩=>?_
 refine thn (hb pins s1 σ H1 _ I1 q1) fun u s2 ⟨y,H2,I2,r2,q2⟩=>?_
 exact hf v u s2 x y H2 I2 r1 r2 q2
theorem pe_op {op:Operator} {r:R2} (ho:OpR X (binaryOp op) r) (ha:PE X a ta) (hb:PE X b tb):PE X (.BinOp a op b pos) (tOp r ta tb):=by
 intro pins s σ H Q I h
 exact wpAny_BinOp (binT ha hb I h fun v u s2 x y H2 I2 rx ry q=>ho pins s2 σ H2 x y v u Q I2 rx ry q)
theorem pe_un {op:UnaryOp} {r:V→Hp→VK→Prop} (ho:UnR X (unaryOp op) r) (ha:PE X a ta):PE X (.UnaryOp op a pos) (tUn r ta):=by
 intro pins s σ H Q I h
 exact UnaryOp_ (thn (ha pins s σ H _ I h) fun v s1 ⟨x,H1,I1,r1,q1⟩=>ho pins s1 σ H1 x v Q I1 r1 q1)
theorem opI {f:Value→Value→Sem Value} {C:Int→Int→Prop} {g:Int→Int→Int}
  (rule:∀ (i j:Int) (t u:Tok) (s:Shared) (Q:Value→Shared→Prop) (E:Value→Shared→Prop),C i j→Q (.int (g i j) s.toks) {s with toks:=s.toks+1}→wpAny (model X.prog X.w) X.A (f (.int i t) (.int j u)) Q E s):
  OpR X f (rI C fun i j=>.int (g i j)):=by
 intro pins s σ H x y v u Q I rx ry h
 obtain ⟨i,j,rfl,rfl,hc,q⟩:=h
 obtain ⟨t,rfl⟩:=rx
 obtain ⟨t',rfl⟩:=ry
 exact rule i j t t' s _ _ hc ⟨.int (g i j),H,I.tok _,⟨_,rfl⟩,q⟩
theorem opI0 {f:Value→Value→Sem Value} {g:Int→Int→Int}
  (rule:∀ (i j:Int) (t u:Tok) (s:Shared) (Q:Value→Shared→Prop) (E:Value→Shared→Prop),Q (.int (g i j) s.toks) {s with toks:=s.toks+1}→wpAny (model X.prog X.w) X.A (f (.int i t) (.int j u)) Q E s):
  OpR X f (rI0 fun i j=>.int (g i j)):=by
 intro pins s σ H x y v u Q I rx ry h
 obtain ⟨i,j,rfl,rfl,q⟩:=h
 obtain ⟨t,rfl⟩:=rx
 obtain ⟨t',rfl⟩:=ry
 exact rule i j t t' s _ _ ⟨.int (g i j),H,I.tok _,⟨_,rfl⟩,q⟩
theorem opB0 {f:Value→Value→Sem Value} {g:Int→Int→Bool}
  (rule:∀ (i j:Int) (t u:Tok) (s:Shared) (Q:Value→Shared→Prop) (E:Value→Shared→Prop),Q (.bool (g i j)) s→wpAny (model X.prog X.w) X.A (f (.int i t) (.int j u)) Q E s):
  OpR X f (rI0 fun i j=>.bl (g i j)):=by
 intro pins s σ H x y v u Q I rx ry h
 obtain ⟨i,j,rfl,rfl,q⟩:=h
 obtain ⟨t,rfl⟩:=rx
 obtain ⟨t',rfl⟩:=ry
 exact rule i j t t' s _ _ ⟨.bl (g i j),H,I,rfl,q⟩
def CMul (i j:Int):Prop:=(-(2 ^ 64)<i∧i<2 ^ 64)∨(-(2 ^ 64)<j∧j<2 ^ 64)
theorem CMul.ok {i j:Int} (h:CMul i j):IntMulOk i j:=by
 rcases h with ⟨h1,h2⟩|⟨h1,h2⟩
 ·exact .of_left (intBits_le_64 h1 h2)
 ·exact .of_right (intBits_le_64 h1 h2)
theorem op_add:OpR X (binaryOp .Add) (rI0 fun i j=>.int (i+j)):=opI0 fun _ _ _ _ _ _ _ q=>add_int q
theorem op_sub:OpR X (binaryOp .Sub) (rI0 fun i j=>.int (i - j)):=opI0 fun _ _ _ _ _ _ _ q=>sub_int q
theorem op_mul:OpR X (binaryOp .Mult) (rI CMul fun i j=>.int (i * j)):=opI fun _ _ _ _ _ _ _ hc q=>mul_int q hc.ok
theorem op_mod:OpR X (binaryOp .Mod) (rI (fun _ j=>0<j) fun i j=>.int (i % j)):=opI fun i j _ _ _ _ _ hc q=>by
 have h1:(0:Int)<j:=hc
 exact mod_int' (by omega) (by rw [Int.fmod_eq_emod_of_nonneg i (by omega)];exact q)
theorem unI {f:Value→Sem Value} {g:Int→Int}
  (rule:∀ (i:Int) (t:Tok) (s:Shared) (Q:Value→Shared→Prop) (E:Value→Shared→Prop),Q (.int (g i) s.toks) {s with toks:=s.toks+1}→wpAny (model X.prog X.w) X.A (f (.int i t)) Q E s):
  UnR X f (rU fun i=>.int (g i)):=by
 intro pins s σ H x v Q I rx h
 obtain ⟨i,rfl,q⟩:=h
 obtain ⟨t,rfl⟩:=rx
 exact rule i t s _ _ ⟨.int (g i),H,I.tok _,⟨_,rfl⟩,q⟩
theorem un_neg:UnR X (unaryOp .USub) (rU fun i=>.int (-i)):=unI fun _ _ _ _ _ q=>neg_int q
end
def scal:V→V→Bool
 |.non,.non=>true|.non,.int _=>true|.int _,.non=>true|.non,.bl _=>true|.bl _,.non=>true|.non,.str _=>true|.str _,.non=>true
 |.int _,.int _=>true|.bl _,.bl _=>true|.str _,.str _=>true|.byt _,.byt _=>true
 |.int _,.str _=>true|.str _,.int _=>true|.bl _,.str _=>true|.str _,.bl _=>true
 |_,_=>false
def rEq:R2:=fun x y H Q=>scal x y=true∧Q (.bl (decide (x=y))) H
def rNe:R2:=fun x y H Q=>scal x y=true∧Q (.bl (!decide (x=y))) H
theorem dec_int {i j:Int}:decide (V.int i=V.int j)=(i==j):=by
 rw [Bool.eq_iff_iff]
 simp
theorem dec_bl {i j:Bool}:decide (V.bl i=V.bl j)=(i==j):=by
 rw [Bool.eq_iff_iff]
 simp
theorem dec_str {i j:Str}:decide (V.str i=V.str j)=(i==j):=by
 rw [Bool.eq_iff_iff]
 simp
theorem dec_byt {i j:Array UInt8}:decide (V.byt i=V.byt j)=(i.toList==j.toList):=by
 rw [Bool.eq_iff_iff]
 cases i
 cases j
 simp
section
variable {X:Cx} {a b c:Expr} {ta tb tc:TE} {pos:Pos}
theorem fin_bl {pins:List (Addr×Obj)} {σ:St} {H:Hp} {s:Shared} {Q:VK} {k k':Bool} (I:Inv X pins σ H s) (q:Q (.bl k) H) (e:k=k'):EP X pins σ Q (.bool k') s:=by
 subst e
 exact ⟨.bl k,H,I,rfl,q⟩
theorem op_eq:OpR X (compareOp .Eq) rEq:=by
 intro pins s σ H x y v u Q I rx ry h
 obtain ⟨hs,q⟩:=h
 cases x with
 |non=>
  cases rx
  cases y with
  |non=>cases ry;exact PySem.EqNone.eq_none_none (fin_bl I q (by simp))
  |bl j=>cases ry;exact PySem.EqNone.eq_none_bool (fin_bl I q (by simp))
  |int j=>obtain ⟨t',rfl⟩:=ry;exact PySem.EqNone.eq_none_int (fin_bl I q (by simp))
  |str j=>obtain ⟨t',rfl⟩:=ry;exact PySem.EqNone.eq_none_str (fin_bl I q (by simp))
  |_=>exact absurd (show false=true from hs) Bool.false_ne_true
 |bl i=>
  cases rx
  cases y with
  |non=>cases ry;exact PySem.EqNone.eq_bool_none (fin_bl I q (by simp))
  |bl j=>cases ry;exact eq_bool (fin_bl I q dec_bl)
  |str j=>obtain ⟨t',rfl⟩:=ry;exact PySem.EqMixed.eq_bool_str (fin_bl I q (by simp))
  |_=>exact absurd (show false=true from hs) Bool.false_ne_true
 |int i=>
  obtain ⟨t,rfl⟩:=rx
  cases y with
  |non=>cases ry;exact PySem.EqNone.eq_int_none (fin_bl I q (by simp))
  |int j=>obtain ⟨t',rfl⟩:=ry;exact eq_int (fin_bl I q dec_int)
  |str j=>obtain ⟨t',rfl⟩:=ry;exact PySem.EqMixed.eq_int_str (fin_bl I q (by simp))
  |_=>exact absurd (show false=true from hs) Bool.false_ne_true
 |str i=>
  obtain ⟨t,rfl⟩:=rx
  cases y with
  |non=>cases ry;exact PySem.EqNone.eq_str_none (fin_bl I q (by simp))
  |bl j=>cases ry;exact PySem.EqMixed.eq_str_bool (fin_bl I q (by simp))
  |int j=>obtain ⟨t',rfl⟩:=ry;exact PySem.EqMixed.eq_str_int (fin_bl I q (by simp))
  |str j=>obtain ⟨t',rfl⟩:=ry;exact eq_str (fin_bl I q dec_str)
  |_=>exact absurd (show false=true from hs) Bool.false_ne_true
 |byt i=>
  obtain ⟨t,rfl⟩:=rx
  cases y with
  |byt j=>obtain ⟨t',rfl⟩:=ry;exact PySem.W.eq_bytes (fin_bl I q dec_byt)
  |_=>exact absurd (show false=true from hs) Bool.false_ne_true
 |_=>cases y<;>exact absurd (show false=true from hs) Bool.false_ne_true
theorem op_ne:OpR X (compareOp .NotEq) rNe:=by
 intro pins s σ H x y v u Q I rx ry h
 obtain ⟨hs,q⟩:=h
 cases x with
 |non=>
  cases rx
  cases y with
  |non=>cases ry;exact PySem.EqNone.ne_none_none (fin_bl I q (by simp))
  |bl j=>cases ry;exact PySem.EqNone.ne_none_bool (fin_bl I q (by simp))
  |int j=>obtain ⟨t',rfl⟩:=ry;exact PySem.EqNone.ne_none_int (fin_bl I q (by simp))
  |str j=>obtain ⟨t',rfl⟩:=ry;exact PySem.EqNone.ne_none_str (fin_bl I q (by simp))
  |_=>exact absurd (show false=true from hs) Bool.false_ne_true
 |bl i=>
  cases rx
  cases y with
  |non=>cases ry;exact PySem.EqNone.ne_bool_none (fin_bl I q (by simp))
  |bl j=>cases ry;exact ne_bool (fin_bl I q (congrArg not dec_bl))
  |str j=>obtain ⟨t',rfl⟩:=ry;exact PySem.EqMixed.ne_bool_str (fin_bl I q (by simp))
  |_=>exact absurd (show false=true from hs) Bool.false_ne_true
 |int i=>
  obtain ⟨t,rfl⟩:=rx
  cases y with
  |non=>cases ry;exact PySem.EqNone.ne_int_none (fin_bl I q (by simp))
  |int j=>obtain ⟨t',rfl⟩:=ry;exact ne_int (fin_bl I q (congrArg not dec_int))
  |str j=>obtain ⟨t',rfl⟩:=ry;exact PySem.EqMixed.ne_int_str (fin_bl I q (by simp))
  |_=>exact absurd (show false=true from hs) Bool.false_ne_true
 |str i=>
  obtain ⟨t,rfl⟩:=rx
  cases y with
  |non=>cases ry;exact PySem.EqNone.ne_str_none (fin_bl I q (by simp))
  |bl j=>cases ry;exact PySem.EqMixed.ne_str_bool (fin_bl I q (by simp))
  |int j=>obtain ⟨t',rfl⟩:=ry;exact PySem.EqMixed.ne_str_int (fin_bl I q (by simp))
  |str j=>obtain ⟨t',rfl⟩:=ry;exact ne_str (fin_bl I q (congrArg not dec_str))
  |_=>exact absurd (show false=true from hs) Bool.false_ne_true
 |byt i=>
  obtain ⟨t,rfl⟩:=rx
  cases y with
  |byt j=>obtain ⟨t',rfl⟩:=ry;exact PySem.W.ne_bytes (fin_bl I q (congrArg not dec_byt))
  |_=>exact absurd (show false=true from hs) Bool.false_ne_true
 |_=>cases y<;>exact absurd (show false=true from hs) Bool.false_ne_true
theorem op_lt:OpR X (compareOp .Lt) (rI0 fun i j=>.bl (decide (i<j))):=opB0 fun _ _ _ _ _ _ _ q=>lt_int q
theorem op_le:OpR X (compareOp .LtE) (rI0 fun i j=>.bl (decide (i≤j))):=opB0 fun _ _ _ _ _ _ _ q=>le_int q
theorem nomark (b:Expr) {op:CmpOp} (h:op≠.In:=by decide) (h2:op≠.NotIn:=by decide):behindInMarks op b=false:=by
 have e1:(op==CmpOp.In)=false:=by cases op<;>first|rfl|exact absurd rfl h
 have e2:(op==CmpOp.NotIn)=false:=by cases op<;>first|rfl|exact absurd rfl h2
 cases b<;>simp [behindInMarks,e1,e2]
theorem pe_cmpR {op:CmpOp} {r:R2} (ho:OpR X (compareOp op) r) (ha:PE X a ta) (hb:PE X b tb) (hm:behindInMarks op b=false):PE X (.Compare a [op] [b] pos) (tOp r ta tb):=by
 intro pins s σ H Q I h
 exact wpAny_Compare1 (binT ha hb I h fun v u s2 x y H2 I2 rx ry q=>ho pins s2 σ H2 x y v u Q I2 rx ry q) hm
def tTest (t:TE):TT:=fun σ H Q=>t σ H fun x H'=>∃ k,x=.bl k∧Q k H'
theorem pt_cmpR {op:CmpOp} {r:R2} (ho:OpR X (compareOp op) r) (ha:PE X a ta) (hb:PE X b tb) (hm:behindInMarks op b=false):PT X (.Compare a [op] [b] pos) (tTest (tOp r ta tb)):=by
 intro pins s σ H Q I h
 refine wpAny_isTrue_Compare1 (thn (ha pins s σ H _ I h) fun v s1 ⟨x,H1,I1,r1,q1⟩=>thn (hb pins s1 σ H1 _ I1 q1) fun u s2 ⟨y,H2,I2,r2,q2⟩=>
  thn (ho pins s2 σ H2 x y v u _ I2 r1 r2 q2) fun c s3 ⟨z,H3,I3,r3,k,e,q3⟩=>?_) hm
 subst e
 cases r3
 exact wpAny_truthy_bool ⟨H3,I3,q3⟩
def tChain (r r':R2) (ta tb tc:TE):TE:=fun σ H Q=>ta σ H fun x H1=>tb σ H1 fun y H2=>r x y H2 fun z H3=>∃ k,z=.bl k∧
 (if k=true then tc σ H3 fun w' H4=>r' y w' H4 Q else Q (.bl false) H3)
theorem pe_chain {op op':CmpOp} {r r':R2} (ho:OpR X (compareOp op) r) (ho':OpR X (compareOp op') r') (ha:PE X a ta) (hb:PE X b tb) (hc:PE X c tc)
  (hm:lastMarks [op,op'] [b,c]=false:=by with_unfolding_all rfl):PE X (.Compare a [op,op'] [b,c] pos) (tChain r r' ta tb tc):=by
 intro pins s σ H Q I h
 refine Compare_chain (thn (ha pins s σ H _ I h) fun v s1 ⟨x,H1,I1,r1,q1⟩=>chain_link (thn (hb pins s1 σ H1 _ I1 q1) fun u s2 ⟨y,H2,I2,r2,q2⟩=>
  thn (ho pins s2 σ H2 x y v u _ I2 r1 r2 q2) fun d s3 ⟨z,H3,I3,r3,k,e,q3⟩=>?_)) hm
 subst e
 cases r3
 refine wpAny_truthy_bool ?_
 cases k with
 |false=>exact ite_ff ⟨.bl false,H3,I3,rfl,q3⟩
 |true=>exact ite_tt (chain_last (thn (hc pins s3 σ H3 _ I3 q3) fun w' s4 ⟨z',H4,I4,r4,q4⟩=>ho' pins s4 σ H4 y z' u w' Q I4 r2 r4 q4))
theorem pt_chain {op op':CmpOp} {r r':R2} (ho:OpR X (compareOp op) r) (ho':OpR X (compareOp op') r') (ha:PE X a ta) (hb:PE X b tb) (hc:PE X c tc)
  (hm:lastMarks [op,op'] [b,c]=false:=by with_unfolding_all rfl):PT X (.Compare a [op,op'] [b,c] pos) (tTest (tChain r r' ta tb tc)):=by
 intro pins s σ H Q I h
 refine isTrue_chain (thn (ha pins s σ H _ I h) fun v s1 ⟨x,H1,I1,r1,q1⟩=>test_link (thn (hb pins s1 σ H1 _ I1 q1) fun u s2 ⟨y,H2,I2,r2,q2⟩=>
  thn (ho pins s2 σ H2 x y v u _ I2 r1 r2 q2) fun d s3 ⟨z,H3,I3,r3,k,e,q3⟩=>?_)) hm
 subst e
 cases r3
 refine wpAny_truthy_bool ?_
 cases k with
 |false=>
  obtain ⟨k',e',q'⟩:=q3
  cases e'
  exact ite_ff ⟨H3,I3,q'⟩
 |true=>
  refine ite_tt (test_last (thn (hc pins s3 σ H3 _ I3 q3) fun w' s4 ⟨z',H4,I4,r4,q4⟩=>thn (ho' pins s4 σ H4 y z' u w' _ I4 r2 r4 q4) fun d' s5 ⟨z2,H5,I5,r5,k2,e2,q5⟩=>?_))
  subst e2
  cases r5
  exact wpAny_truthy_bool ⟨H5,I5,q5⟩
theorem line63:(sizeLine:Nat)<2 ^ 63:=by rw [sizeLine_eq];decide
theorem vals1 {x:V} {us:List Value} (r:Vals [x] us):∃ u,us=[u]∧RelV x u:=by
 cases r with
 |cons r1 r2=>cases r2;exact ⟨_,rfl,r1⟩
theorem call_ord:CallR X (.builtin "ord") (fun xs H Q=>∃ x,xs=[.str x]∧x.length=1∧Q (.int (x.cps.getD 0 0:Nat)) H):=by
 intro pins s σ H xs us Q I r h
 obtain ⟨x,rfl,hz,q⟩:=h
 obtain ⟨u,rfl,t,rfl⟩:=vals1 r
 exact ord_of_one hz ⟨.int _,H,I.tok _,⟨_,rfl⟩,q⟩
end
end L2
namespace L2
open PySem PySem.Spec PyProof.Rows
structure ObjM (h:Heap) (x dx C:Addr) (mA:Str→Option Value):Prop where
 obj:h.get? x=some (PySem.W.instObj C dx)
 ns:h.Ns1 dx mA
 ne:dx≠x
theorem lookIn_ns {h:Heap} {dx:Addr} {mA:Str→Option Value} (n:h.Ns1 dx mA):∃ od,h.get? dx=some od∧∀ name,PySem.W.lookIn name od=some (mA name):=by
 obtain ⟨o,es,ep,ho,hd,hk,_,hm⟩:=n
 refine ⟨o,ho,fun name=>?_⟩
 have e:=hm name
 unfold nsFind findBy at e
 rw [←Array.find?_toList] at e
 unfold PySem.W.lookIn
 rw [hd]
 dsimp only
 split
 ·rename_i y q
  rw [q] at e
  exact congrArg some e
 ·rename_i q
  rw [q] at e
  have a:es.toList.any (·.refKey)=false:=by
   rw [List.any_eq_false]
   intro y hy
   obtain ⟨z,t,hkey⟩:=hk y (Array.mem_toList_iff.mp hy)
   simp [DictEntry.refKey,hkey]
  have a':¬es.toList.any (·.refKey)=true:=by rw [a];exact Bool.false_ne_true
  rw [if_neg a']
  exact congrArg some e
theorem ObjM.look {h:Heap} {x dx C:Addr} {mA:Str→Option Value} (I:ObjM h x dx C mA):∃ od,PySem.W.InstAt h x (PySem.W.instObj C dx) C (some od)∧∀ name,PySem.W.lookIn name od=some (mA name):=
 let ⟨od,ho,hl⟩:=lookIn_ns I.ns
 ⟨od,⟨I.obj,rfl,rfl,ho⟩,hl⟩
section
variable {prog:Program} {w:World} {A:Around} {E:Value→Shared→Prop} {s:Shared} {K:PySem.W.Frag} {x dx C f:Addr} {mA:Str→Option Value} {name:Str} {v:Value}
theorem get_map {expr:Bool} {Q:Value→Shared→Prop} (X:K.In s.heap) (I:ObjM s.heap x dx C mA) (hg:PySem.W.plainGet K C name=true) (hh:PySem.W.hasDictIn K C=true)
  (ha:PySem.W.findIn K (.ref C) name=some none) (hv:mA name=some v) (hv':PySem.W.handedIn v=true) (h:Q v {s with toks:=s.toks+1}):
  wpAny (model prog w) A (getAttr (.ref x) name expr) Q E s:=by
 obtain ⟨od,J,hl⟩:=I.look
 exact PySem.W.get_value X J (PySem.W.plainGet_of hg).1 (PySem.W.findObj_own hh ha rfl (by rw [hl,hv])) hv' h
theorem get_meth {pl:Sem Bool} {Q:Value×List Value→Shared→Prop} (X:K.In s.heap) (I:ObjM s.heap x dx C mA) (hg:PySem.W.plainGet K C name=true)
  (hf:PySem.W.findIn K (.ref C) name=some (some (.ref f))) (ht:PySem.W.isFn K (.ref f)=true) (hv:mA name=none) (h:Q (.ref f,[.ref x]) s):
  wpAny (model prog w) A (getMethod (.ref x) name pl) Q E s:=by
 obtain ⟨od,J,hl⟩:=I.look
 exact PySem.W.method_fn X J (PySem.W.plainGet_of hg).1 (PySem.W.plainGet_of hg).2 hf (beq_iff_eq.mp ht) (by show (PySem.W.lookIn name od).map (·.isSome)=some false;rw [hl,hv];rfl) h
theorem set_map {ns:List Str} {Q:Unit→Shared→Prop} (X:K.In s.heap) (I:ObjM s.heap x dx C mA)
  (hs:PySem.W.findIn K (.ref C) "__setattr__"=some (some (.builtin "object.__setattr__"))) (hp:PySem.W.plainOver K C=true) (ht:PySem.W.takerIn K C name=some none) (hh:PySem.W.hasDictIn K C=true)
  (hw:PySem.Within mA ns) (hsz:ns.length≤sizeLine)
  (h:∀ h',ObjM h' x dx C (fun y=>if y=name then some v else mA y)→Heap.SameBut dx s.heap h'→Q () {s with heap:=h',toks:=s.toks+2}):
  wpAny (model prog w) A (setAttr (.ref x) name v) Q E s:=by
 obtain ⟨od,J,hl⟩:=I.look
 refine PySem.W.set_plain X J hs (PySem.W.osa_open (s:={s with toks:=s.toks+1}) (r:=none) X J hp ht fun b=>?_)
 obtain ⟨cd,hc,hd'⟩:=PySem.W.any_some hh
 have hx:s.heap.get? x=some ⟨.ref C,some dx,.plain,#[]⟩:=I.obj
 refine wpAny_bind (wpAny_pure (wpAny_bind (wpAny_bind (wpAny_loadPart hx (wpAny_bind (PySem.W.Looks.here (s:={s with toks:=s.toks+1}) (PySem.W.looks_clsIn X hc) ?_))))))
 rw [hd']
 refine wpAny_pure (a:=some dx) (wpAny_bind (wpAny_pure (wpAny_bind ?_)))
 refine wpAny_nsSet1 (s:={s with toks:=s.toks+1}) I.ns fun h' hn2 hs2=>?_
 obtain ⟨oD,esD,epD,hoD,hdD,hcD⟩:=hn2.count (PySem.Within.cons name v hw)
 refine wpAny_bind (wpAny_lookBehind hoD (by rw [hdD];exact pastItsLine_dict (Nat.le_trans hcD (by rw [List.length_cons];omega))) ?_)
 exact wpAny_pure (h _ ⟨(hs2.2 _ (Ne.symm I.ne)).trans I.obj,hn2,I.ne⟩ hs2)
theorem make_map {R:Result→Shared→Prop} {vs:List Value} {kw:List (Str×Value)} (X:K.In s.heap) (hm:PySem.W.makesIn K C=true)
  (hi:PySem.W.findIn K (.ref C) "__init__"=some (some (.ref f))) (hf:PySem.W.typeIn K (.ref f)=some (.type "function"))
  (h:codeAny (model prog w) (A.under (.builtin "type.__call__" ⟨.ref C::vs,kw⟩)) (.call (.ref f) ⟨.ref (s.heap.objs.size+1)::vs,kw⟩) (PySem.W.InitBack (s.heap.objs.size+1) R)
   {s with heap:=(s.heap.push PySem.W.emptyDict).push (PySem.W.instObj C s.heap.objs.size)}):
  codeAny (model prog w) A (.call (.ref C) ⟨vs,kw⟩) R s:=by
 obtain ⟨hh,g,d,t,os⟩:=s
 exact PySem.W.make_core (PySem.W.makes_of X hm) (PySem.W.looks_findIn X hi) (fun self=>PySem.W.bind_fn X self hf) (.inl rfl) h
end
def putF (f:Str) (v:V):List (Str×V)→List (Str×V)
 |[]=>[(f,v)]
 |(g,x)::r=>if g=f then (g,v)::r else (g,x)::putF f v r
theorem lookup_putF (f g:Str) (v:V):∀ fs:List (Str×V),(putF f v fs).lookup g=if g=f then some v else fs.lookup g
 |[]=>by
  show List.lookup g [(f,v)]=_
  by_cases h:g=f
  ·have hb:(g==f)=true:=beq_iff_eq.mpr h
   simp only [List.lookup,hb,if_pos h]
  ·have hb:(g==f)=false:=beq_eq_false_iff_ne.mpr h
   simp only [List.lookup,hb,if_neg h]
 |(k,x)::r=>by
  have ih:=lookup_putF f g v r
  rw [show putF f v ((k,x)::r)=(if k=f then (k,v)::r else (k,x)::putF f v r) from rfl]
  by_cases hk:k=f
  ·rw [if_pos hk]
   by_cases h:g=k
   ·have hb:(g==k)=true:=beq_iff_eq.mpr h
    simp only [List.lookup,hb,if_pos (h.trans hk)]
   ·have hb:(g==k)=false:=beq_eq_false_iff_ne.mpr h
    simp only [List.lookup,hb,if_neg (fun e:g=f=>h (e.trans hk.symm))]
  ·rw [if_neg hk]
   by_cases h:g=k
   ·have hb:(g==k)=true:=beq_iff_eq.mpr h
    simp only [List.lookup,hb,if_neg (fun e:g=f=>hk (h.symm.trans e))]
   ·have hb:(g==k)=false:=beq_eq_false_iff_ne.mpr h
    simp only [List.lookup,hb]
    exact ih
theorem keys_putF (f:Str) (v:V):∀ fs:List (Str×V),f∈(putF f v fs).map (·.1)∧∀ g,g∈fs.map (·.1)→g∈(putF f v fs).map (·.1)
 |[]=>⟨by simp [putF],fun g h=>by simp at h⟩
 |(k,x)::r=>by
  obtain ⟨i1,i2⟩:=keys_putF f v r
  rw [show putF f v ((k,x)::r)=(if k=f then (k,v)::r else (k,x)::putF f v r) from rfl]
  by_cases hk:k=f
  ·rw [if_pos hk]
   subst hk
   exact ⟨by simp,fun g h=>by simpa using h⟩
  ·rw [if_neg hk]
   refine ⟨?_,fun g h=>?_⟩
   ·rw [List.map_cons]
    exact List.mem_cons_of_mem _ i1
   ·rw [List.map_cons] at h ⊢
    rcases List.mem_cons.mp h with e|e
    ·exact List.mem_cons.mpr (.inl e)
    ·exact List.mem_cons_of_mem _ (i2 g e)
theorem length_putF (f:Str) (v:V):∀ fs:List (Str×V),(putF f v fs).length≤fs.length+1
 |[]=>by simp [putF]
 |(k,x)::r=>by
  have ih:=length_putF f v r
  rw [show putF f v ((k,x)::r)=(if k=f then (k,v)::r else (k,x)::putF f v r) from rfl]
  by_cases hk:k=f
  ·rw [if_pos hk,List.length_cons,List.length_cons];omega
  ·rw [if_neg hk,List.length_cons,List.length_cons];omega
theorem RelO.some_of {v:V} {o:Option Value} (r:RelO (some v) o):∃ u,o=some u∧RelV v u:=by
 cases o with
 |none=>exact (show False from r).elim
 |some u=>exact ⟨u,rfl,r⟩
theorem RelO.none_of {o:Option Value} (r:RelO none o):o=none:=by
 cases o with
 |none=>rfl
 |some u=>exact (show False from r).elim
theorem handed_of {v:V} {u:Value} (r:RelV v u):PySem.W.handedIn u=true:=by
 cases v with
 |non=>cases (show u=Value.none from r);rfl
 |bl b=>cases (show u=Value.bool b from r);rfl
 |int i=>obtain ⟨t,e⟩:=(show ∃ t,u=Value.int i t from r);cases e;rfl
 |str x=>obtain ⟨t,e⟩:=(show ∃ t,u=Value.str x t from r);cases e;rfl
 |byt b=>obtain ⟨t,e⟩:=(show ∃ t,u=Value.bytes b t from r);cases e;rfl
 |flt b=>obtain ⟨t,e⟩:=(show ∃ t,u=Value.float b t from r);cases e;rfl
 |ref a=>cases (show u=Value.ref a from r);rfl
 |ty n=>cases (show u=Value.type n from r);rfl
section
variable {P:Program} {w:World} {H H':Hp} {h h':Heap} {a C dx:Addr} {fs fs':List (Str×V)}
theorem ins_get (hok:HOk P w H h) (e:H a=some (.ins C dx fs)):∃ mA,ObjM h a dx C mA∧(∀ f,RelO (fs.lookup f) (mA f))∧PySem.Within mA (fs.map (·.1))∧fs.length≤1000∧H dx=some (.own a):=by
 obtain ⟨d,z,ne,ob,mA,n,r,q⟩:=(show ObjOk P w H h a (.ins C dx fs) from hok a _ e)
 exact ⟨mA,⟨ob,n,ne⟩,r,q,z,d⟩
end
structure Cls (K:PySem.W.Frag) (C:Addr):Prop where
 pg:PySem.W.plainGet K C Str.empty=true
 hd:PySem.W.hasDictIn K C=true
 po:PySem.W.plainOver K C=true
 sa:PySem.W.findIn K (.ref C) "__setattr__"=some (some (.builtin "object.__setattr__"))
theorem Cls.get {K:PySem.W.Frag} {C:Addr} (c:Cls K C) (f:Str):PySem.W.plainGet K C f=true:=c.pg
def NoAttr (K:PySem.W.Frag) (C:Addr) (f:Str):Prop:=PySem.W.findIn K (.ref C) f=some none
theorem NoAttr.taker {K:PySem.W.Frag} {C:Addr} {f:Str} (n:NoAttr K C f):PySem.W.takerIn K C f=some none:=by
 unfold PySem.W.takerIn
 rw [show PySem.W.findIn K (.ref C) f=some none from n]
 rfl
structure Meth (K:PySem.W.Frag) (C:Addr) (m:Str) (f:Addr):Prop where
 at_:PySem.W.findIn K (.ref C) m=some (some (.ref f))
 fn:PySem.W.isFn K (.ref f)=true
 kp:PySem.W.keepIn K (.ref f)=true
section
variable {X:Cx} {pins:List (Addr×Obj)} {σ:St} {H:Hp} {s:Shared} {a C dx:Addr} {fs:List (Str×V)} {f:Str} {v:V} {A:Around} {E:Value→Shared→Prop}
theorem getattr_ok {b:Bool} {Q:Value→Shared→Prop} (I:Inv X pins σ H s) (e:H a=some (.ins C dx fs)) (c:Cls X.K C) (n:NoAttr X.K C f) (l:fs.lookup f=some v)
  (h:∀ u s',Inv X pins σ H s'→RelV v u→Q u s'):wpAny (model X.prog X.w) A (getAttr (.ref a) f b) Q E s:=by
 obtain ⟨mA,O,r,_,_,_⟩:=ins_get I.hok e
 obtain ⟨u,hu,ru⟩:=RelO.some_of (v:=v) (o:=mA f) (by rw [←l];exact r f)
 exact get_map I.kIn O (c.get f) c.hd n hu (handed_of ru) (h u _ (I.tok _) ru)
theorem getmeth_ok {m:Str} {g:Addr} {pl:Sem Bool} {Q:Value×List Value→Shared→Prop} (I:Inv X pins σ H s) (e:H a=some (.ins C dx fs)) (c:Cls X.K C) (k:Meth X.K C m g) (l:fs.lookup m=none)
  (h:Q (.ref g,[.ref a]) s):wpAny (model X.prog X.w) A (getMethod (.ref a) m pl) Q E s:=by
 obtain ⟨mA,O,r,_,_,_⟩:=ins_get I.hok e
 have hn:mA m=none:=RelO.none_of (by rw [←l];exact r m)
 exact get_meth I.kIn O (c.get m) k.at_ k.fn hn h
theorem setattr_ok {y:V} {u:Value} {Q:Unit→Shared→Prop} (I:Inv X pins σ H s) (e:H a=some (.ins C dx fs)) (c:Cls X.K C) (n:NoAttr X.K C f) (hl:fs.length<1000) (ry:RelV y u)
  (h:∀ s',Inv X pins σ (upd H a (.ins C dx (putF f y fs))) s'→Q () s'):wpAny (model X.prog X.w) A (setAttr (.ref a) f u) Q E s:=by
 obtain ⟨mA,O,r,wi,_,ho⟩:=ins_get I.hok e
 have hz:(fs.map (·.1)).length≤sizeLine:=by rw [List.length_map,sizeLine_eq];omega
 refine set_map I.kIn O c.sa c.po n.taker c.hd wi hz fun h' O' sb=>h _ ?_
 have hd:∃ o,h'.get? dx=some o:=let ⟨o,_,_,e',_⟩:=O'.ns;⟨o,e'⟩
 refine I.write (x:=a) (e:=dx) (by rw [e];exact True.intro) (.inr ho) (fun b q hb z=>(sb.2 b hb).trans z) hd ?_
 refine ⟨by rw [upd_ne O.ne];exact ho,?_,O.ne,O'.obj,_,O'.ns,fun g=>?_,fun g hg=>?_⟩
 ·have:=length_putF f y fs;omega
 ·show RelO ((putF f y fs).lookup g) (if g=f then some u else mA g)
  rw [lookup_putF]
  by_cases q:g=f
  ·rw [if_pos q,if_pos q];exact ry
  ·rw [if_neg q,if_neg q];exact r g
 ·by_cases q:g=f
  ·rw [q];exact (keys_putF f y fs).1
  ·refine (keys_putF f y fs).2 g (wi g fun z=>hg ?_)
   show (if g=f then some u else mA g)=none
   rw [if_neg q];exact z
theorem Inv.made (I:Inv X pins σ H s):Inv X pins σ (upd (upd H s.heap.objs.size (.own (s.heap.objs.size+1))) (s.heap.objs.size+1) (.ins C s.heap.objs.size []))
  {s with heap:=(s.heap.push PySem.W.emptyDict).push (PySem.W.instObj C s.heap.objs.size)}:=by
 have e1:(s.heap.push PySem.W.emptyDict).get? s.heap.objs.size=some PySem.W.emptyDict:=Heap.get?_push_size s.heap rfl
 have e2:((s.heap.push PySem.W.emptyDict).push (PySem.W.instObj C s.heap.objs.size)).get? (s.heap.objs.size+1)=some (PySem.W.instObj C s.heap.objs.size):=by
  have:=Heap.get?_push_size (s.heap.push PySem.W.emptyDict) (o:=PySem.W.instObj C s.heap.objs.size) rfl
  rwa [Heap.size_push] at this
 have e3:(s.heap.push PySem.W.emptyDict).Ns s.heap.objs.size (fun _=>none):=⟨PySem.W.emptyDict,#[],_,e1,rfl,(fun e he=>absurd he (by simp)),fun _=>rfl⟩
 have I1:=I.laid (a:=s.heap.objs.size) (o:=.own (s.heap.objs.size+1)) (h':=s.heap.push PySem.W.emptyDict) (t':=s.toks) (fun b u q=>Heap.get?_push_of_some _ q) (Nat.le_refl _) ⟨_,e1⟩
 refine I1.laid (a:=s.heap.objs.size+1) (o:=.ins C s.heap.objs.size []) (t':=s.toks) (fun b u q=>Heap.get?_push_of_some _ q) (Nat.le_of_eq (Heap.size_push _ _)) ?_
 have ne:s.heap.objs.size≠s.heap.objs.size+1:=Nat.ne_of_lt (Nat.lt_succ_self _)
 refine ⟨by rw [upd_ne ne,upd_same],Nat.zero_le _,ne,e2,fun _=>none,(Heap.Ns1.of_empty e3).at fun o q=>Heap.get?_push_of_some _ q,fun _=>True.intro,fun y hy=>absurd rfl hy⟩
theorem attr_of {prog:Program} {w:World} {env:Env} {e:Expr} {f:Str} {pos:Pos} {s:Shared} {Q:Value→Shared→Prop} (hb:attributeBase e f env (eval e env)=eval e env)
  (h:wpAny (model prog w) A (eval e env) (fun o s₁=>wpAny (model prog w) A (getAttr o f true) Q E s₁) E s):wpAny (model prog w) A (eval (.Attribute e f pos) env) Q E s:=
 Attribute_any_ h (by rw [arm_eval_Attribute,hb])
end
def tFld (K:PySem.W.Frag) (ta:TE) (f:Str):TE:=fun σ H Q=>ta σ H fun x H1=>∃ a C dx fs v,x=.ref a∧H1 a=some (.ins C dx fs)∧Cls K C∧NoAttr K C f∧fs.lookup f=some v∧Q v H1
def sFld (K:PySem.W.Frag) (ta tv:TE) (f:Str):TS:=fun D σ H=>tv σ H fun y H1=>ta σ H1 fun x H2=>∃ a C dx fs,x=.ref a∧H2 a=some (.ins C dx fs)∧Cls K C∧NoAttr K C f∧fs.length<1000∧
 D.nx σ (upd H2 a (.ins C dx (putF f y fs)))
def InOp (X:Cx) (op:Operator) (rd:V→V→Hp→VK→Prop):Prop:=
 ∀ (pins:List (Addr×Obj)) (s:Shared) (σ:St) (H:Hp) (x y:V) (u v:Value) (Q:VK),Inv X pins σ H s→RelV x u→RelV y v→rd x y H Q→wpAny (model X.prog X.w) X.A (inplaceOp op u v) (EP X pins σ Q) X.xe s
def sFldAug (K:PySem.W.Frag) (ta tv:TE) (rd:V→V→Hp→VK→Prop) (f:Str):TS:=fun D σ H=>ta σ H fun x H1=>∃ a C dx fs v,x=.ref a∧H1 a=some (.ins C dx fs)∧Cls K C∧NoAttr K C f∧fs.lookup f=some v∧
 tv σ H1 fun y H2=>rd v y H2 fun z H3=>∃ dx' fs',H3 a=some (.ins C dx' fs')∧fs'.length<1000∧D.nx σ (upd H3 a (.ins C dx' (putF f z fs')))
section
variable {X:Cx} {o e value:Expr} {f:Str} {pos pos' tpos:Pos} {ta tv:TE}
theorem pe_fld (he:PE X e ta) (hb:attributeBase e f X.env (eval e X.env)=eval e X.env):PE X (.Attribute e f pos) (tFld X.K ta f):=by
 intro pins s σ H Q I h
 refine attr_of hb (thn (he pins s σ H _ I h) fun u s1 ⟨x,H1,I1,rx,a,C,dx,fs,v,ex,ea,c,n,l,q⟩=>?_)
 subst ex
 obtain rfl:u=Value.ref a:=rx
 exact getattr_ok I1 ea c n l fun u' s2 I2 ru=>⟨v,H1,I2,ru,q⟩
theorem ps_fld (ha:PE X o ta) (hv:PE X value tv) (hs:swapsWith value (some (.Attribute o f pos')) pos.line X.env=pure false):PS X (.Assign [.Attribute o f pos'] value pos) (sFld X.K ta tv f):=by
 intro pins s σ H D I h
 refine plainObj_wpAny_Assign_Attribute (thn (hv pins s σ H _ I h) fun u s1 ⟨y,H1,I1,ry,q⟩=>thn (ha pins s1 σ H1 _ I1 q) fun ov s2 ⟨x,H2,I2,rx,a,C,dx,fs,ex,ea,c,n,l,q2⟩=>?_) hs
 subst ex
 obtain rfl:ov=Value.ref a:=rx
 exact setattr_ok I2 ea c n l ry fun s3 I3=>⟨σ,_,I3,q2⟩
theorem ps_fldaug {op:Operator} {rd:V→V→Hp→VK→Prop} (ha:PE X o ta) (hv:PE X value tv) (hop:InOp X op rd):PS X (.AugAssign (.Attribute o f tpos) op value pos) (sFldAug X.K ta tv rd f):=by
 intro pins s σ H D I h
 refine wpAny_AugAssign_AttributeAny (thn (ha pins s σ H _ I h) fun ov s1 ⟨x,H1,I1,rx,a,C,dx,fs,v,ex,ea,c,n,l,q⟩=>?_)
 subst ex
 obtain rfl:ov=Value.ref a:=rx
 refine getattr_ok I1 ea c n l fun u s2 I2 ru=>thn (hv pins s2 σ H1 _ I2 q) fun w3 s3 ⟨y,H2,I3,ry,q3⟩=>thn (hop pins s3 σ H2 v y u w3 _ I3 ru ry q3) fun w4 s4 ⟨z,H3,I4,rz,dx',fs',ea',l',q4⟩=>?_
 exact setattr_ok I4 ea' c n l' rz fun s5 I5=>⟨σ,_,I5,q4⟩
def rAdd:V→V→Hp→VK→Prop:=fun x y H Q=>∃ i j,x=.int i∧y=.int j∧Q (.int (i+j)) H
theorem in_add:InOp X .Add rAdd:=by
 rintro pins s σ H x y u v Q I rx ry ⟨i,j,rfl,rfl,q⟩
 obtain ⟨t,rfl⟩:=(show ∃ t,u=Value.int i t from rx)
 obtain ⟨t',rfl⟩:=(show ∃ t',v=Value.int j t' from ry)
 exact PyProof.Rows.iadd_int ⟨.int (i+j),H,I.tok _,⟨_,rfl⟩,q⟩
end
section
variable {X:Cx} {pins:List (Addr×Obj)} {σ:St} {H:Hp} {s:Shared} {A:Around} {E:Value→Shared→Prop} {Q:Value→Shared→Prop} {c:Value} {b:Bool}
end
end L2
namespace L2
open PySem PySem.Spec PyProof.Rows
structure Room (k:Nat) (A:Around):Prop where
 hd:A.handled=none
 dp:A.depth+3 * k+5<recursionLimit
 un:A.units+16 * k+200<cLine
theorem Room.mono {j k:Nat} {A:Around} (r:Room k A) (h:j≤k):Room j A:=⟨r.hd,by have:=r.dp;omega,by have:=r.un;omega⟩
theorem Room.deeper {k:Nat} {A:Around} (r:Room (k+1) A) (env:Env):Room k (A.deeper env):=
 ⟨r.hd,by have:=r.dp;show A.depth+1+3 * k+5<_;omega,by have:=r.un;show A.units+3+16 * k+200<_;omega⟩
theorem make_depth {A:Around} {C:Addr} {us:List Value} {kw:List (Str×Value)}:(A.under (.builtin "type.__call__" ⟨.ref C::us,kw⟩)).depth=A.depth+1:=by
 first|rfl|simp [Around.under,Code.weight,Code.isCreation,Code.isGuard,Code.isCaller,Code.frames,Code.isFrame,guardIds]
theorem make_units {A:Around} {C:Addr} {us:List Value} {kw:List (Str×Value)}:(A.under (.builtin "type.__call__" ⟨.ref C::us,kw⟩)).units=A.units+1:=by
 first|rfl|simp [Around.under,Code.cUnits,Code.frames,Code.isFrame]
theorem Room.make {k:Nat} {A:Around} (r:Room (k+1) A) (C:Addr) (us:List Value) (kw:List (Str×Value)):Room k (A.under (.builtin "type.__call__" ⟨.ref C::us,kw⟩)):=
 ⟨r.hd,by have:=r.dp;rw [make_depth];omega,by have:=r.un;rw [make_units];omega⟩
theorem Room.depth {k:Nat} {A:Around} (r:Room k A):A.depth<recursionLimit:=by have:=r.dp;omega
theorem Room.units {k:Nat} {A:Around} (r:Room k A):A.units+64<cLine:=by have:=r.un;omega
def tNil:TA:=fun _ H Q=>Q [] H
def tCons (ta:TE) (tr:TA):TA:=fun σ H Q=>ta σ H fun x H1=>tr σ H1 fun xs H2=>Q (x::xs) H2
section
variable {X:Cx} {e:Expr} {es:List Expr} {te:TE} {t:TA} {pos:Pos}
theorem pa_nil:PA X [] tNil:=fun _ _ _ _ H Q I h=>Calls.spliced_nil ⟨[],H,I,.nil,h⟩
theorem pa_cons (ha:PE X e te) (hr:PA X es t) (hs:starEach (e::es) X.env=(false,eval e X.env)::starEach es X.env:=by rfl):PA X (e::es) (tCons te t):=by
 intro pos pins s σ H Q I h
 rw [hs]
 show wpAny _ _ (spliced ((false,eval e X.env)::backTo pos (starEach es X.env))) _ _ s
 refine Calls.spliced_cons (thn (ha pins s σ H _ I h) fun u s1 ⟨x,H1,I1,r1,q1⟩=>?_)
 exact thn (hr pos pins s1 σ H1 _ I1 q1) fun us s2 ⟨xs,H2,I2,r2,q2⟩=>⟨x::xs,H2,I2,.cons r1 r2,q2⟩
def tTup (t:TA):TE:=fun σ H Q=>t σ H fun xs H1=>xs.length≤sizeLine∧∀ p,H1 p=none→Q (.ref p) (upd H1 p (.tup xs))
def tLst (t:TA):TE:=fun σ H Q=>t σ H fun xs H1=>xs.length≤sizeLine∧∀ p,H1 p=none→Q (.ref p) (upd H1 p (.lst xs))
theorem pe_tup {x1} (h:PA X es t):PE X (.Tuple es x1 pos) (tTup t):=by
 intro pins s σ H Q I hq
 refine wpAny_Tuple_spliced (thn (h pos pins s σ H _ I hq) fun us s1 ⟨xs,H1,I1,r,z,q⟩=>⟨by rw [←r.length];exact z,?_⟩)
 have hf:H1 s1.heap.objs.size=none:=I1.hok.fresh (Nat.le_refl _)
 refine ⟨.ref s1.heap.objs.size,upd H1 s1.heap.objs.size (.tup xs),I1.laid (t':=s1.toks) (fun b u e=>Heap.get?_push_of_some _ e) (Nat.le_refl _) ?_,rfl,q _ hf⟩
 exact ⟨z,us,r,⟨_,Heap.get?_push_size _ rfl,rfl,_,rfl⟩⟩
theorem pe_lst (h:PA X es t):PE X (.List es pos) (tLst t):=by
 intro pins s σ H Q I hq
 refine wpAny_List_spliced (thn (h pos pins s σ H _ I hq) fun us s1 ⟨xs,H1,I1,r,z,q⟩=>⟨by rw [←r.length];exact z,?_⟩)
 have hf:H1 s1.heap.objs.size=none:=I1.hok.fresh (Nat.le_refl _)
 refine ⟨.ref s1.heap.objs.size,upd H1 s1.heap.objs.size (.lst xs),I1.laid (t':=s1.toks) (fun b u e=>Heap.get?_push_of_some _ e) (Nat.le_refl _) ?_,rfl,q _ hf⟩
 exact ⟨z,us,0,r,Heap.get?_push_size _ rfl⟩
end
abbrev Sp:=List V→Hp→VK→XK→Prop
abbrev CXT:=List Env→Hp→Shared→XK→Value→Shared→Prop
structure Env0 (P:Program) (w:World) (K:PySem.W.Frag) (mg:Str→Option Value) (base:Heap) (A:Around) (outer:List Env) (s:Shared) (H:Hp):Prop where
 frames:A.frames=some outer
 mod:Mod K mg base
 bs:∀ b o,base.get? b=some o→s.heap.get? b=some o∧H b=none
 bsz:base.objs.size≤s.heap.objs.size
 funs:s.heap.FunFrames base outer
 frf:∀ b∈frs outer,H b=none
 hok:HOk P w H s.heap
 bare:AllBare s.gens
def CE (outer:List Env) (P:Program) (w:World) (H:Hp) (s:Shared) (Q:VK) (u:Value) (s':Shared):Prop:=
 ∃ v H',s'.os=s.os∧AllBare s'.gens∧Un (frs outer) [] H H' s.heap s'.heap∧HOk P w H' s'.heap∧RelV v u∧Q v H'
def CR (CX:CXT) (outer:List Env) (P:Program) (w:World) (H:Hp) (s:Shared) (Q:VK) (E:XK) (r:Result) (s':Shared):Prop:=
 match r with
 |.ok (.ret u)=>CE outer P w H s Q u s'
 |.ok _=>False
 |.error e=>CX outer H s E e s'
structure FnOk (P:Program) (w:World) (K:PySem.W.Frag) (mg:Str→Option Value) (base:Heap) (CX:CXT) (k:Nat) (f:Addr) (fd:FuncData) (ps:List Str) (sp:Sp):Prop where
 len:∀ vs H Q E,sp vs H Q E→vs.length=ps.length
 run:∀ (A:Around) (outer:List Env) (s:Shared) (H:Hp) (args:Args) (us:List Value) (vs:List V) (Q:VK) (E:XK),Room k A→Env0 P w K mg base A outer s H→BindsTo s fd args (ps.zip us)→Vals vs us→sp vs H Q E→
  codeAny (model P w) A (.call (.ref f) args) (CR CX outer P w H s Q E) s
theorem Env0.make {P:Program} {w:World} {K:PySem.W.Frag} {mg:Str→Option Value} {base:Heap} {A:Around} {outer:List Env} {s:Shared} {H:Hp} (e:Env0 P w K mg base A outer s H) (C:Addr) (us:List Value) (kw:List (Str×Value)):
  Env0 P w K mg base (A.under (.builtin "type.__call__" ⟨.ref C::us,kw⟩)) outer s H:=⟨by first|exact e.frames|(simpa [Around.under,Code.envs,Code.isFrame,pushEnvs] using e.frames),e.mod,e.bs,e.bsz,e.funs,e.frf,e.hok,e.bare⟩
section
variable {X:Cx} {pins:List (Addr×Obj)} {σ:St} {H:Hp} {s s':Shared}
theorem Inv.env0 (I:Inv X pins σ H s):Env0 X.prog X.w X.K X.mg X.base X.A X.stack s H:=
 ⟨I.ok.frames,I.ok.mod,I.bs,Nat.le_trans I.ok.bsz I.sz,I.stack,I.stkFree,I.hok,I.bare⟩
theorem Inv.after {Q:VK} {u:Value} (I:Inv X pins σ H s) (h:CE X.stack X.prog X.w H s Q u s'):EP X pins σ Q u s':=by
 obtain ⟨v,H',os,bare,un,hok,r,q⟩:=h
 obtain ⟨hh,g,d,t,os'⟩:=s'
 obtain rfl:os'=s.os:=os
 exact ⟨v,H',I.call (h':=hh) (g':=g) (d':=d) (t':=t) (ch:=[]) un hok bare (fun b z=>absurd z (by simp)),r,q⟩
end
def tCall (sp:Sp) (dvs:List V) (E:XK) (t:TA):TE:=fun σ H Q=>t σ H fun vs H1=>sp (vs++dvs) H1 Q E
def tMeth (C:Addr) (m:Str) (sp:Sp) (dvs:List V) (E:XK) (ta:TE) (t:TA):TE:=fun σ H Q=>ta σ H fun x H1=>∃ a dx fs,x=.ref a∧H1 a=some (.ins C dx fs)∧fs.lookup m=none∧
 t σ H1 fun vs H2=>sp (x::(vs++dvs)) H2 Q E
def tMake (C:Addr) (sp:Sp) (dvs:List V) (E:XK) (t:TA):TE:=fun σ H Q=>t σ H fun vs H1=>∀ x dx,H1 x=none→H1 dx=none→dx≠x→
 sp (.ref x::(vs++dvs)) (upd (upd H1 dx (.own x)) x (.ins C dx [])) (fun v H2=>v=.non∧Q (.ref x) H2) E
def Binds (K:PySem.W.Frag) (fd:FuncData) (ps:List Str) (ds:List Value):Prop:=
 ∀ (s:Shared) (us:List Value),K.In s.heap→(us++ds).length=ps.length→BindsTo s fd ⟨us,[]⟩ (ps.zip (us++ds))
theorem Binds.all {K:PySem.W.Frag} {fd:FuncData} {ps:List Str} (h:∀ us:List Value,us.length=ps.length→bindArgs fd ⟨us,[]⟩=pure (ps.zip us)):Binds K fd ps []:=fun s us _ hl=>by
 rw [List.append_nil] at hl ⊢
 exact .of_eq (h us hl)
def Passes (CX:CXT) (X:Cx) (E:XK):Prop:=∀ (pins:List (Addr×Obj)) (σ:St) (H:Hp) (s:Shared) (e:Value) (s':Shared),Inv X pins σ H s→CX X.stack H s E e s'→X.xe e s'
section
variable {X:Cx} {CX:CXT} {k:Nat} {f C:Addr} {fd:FuncData} {ps:List Str} {sp:Sp} {dvs:List V} {ds:List Value} {E:XK} {x m:Str} {p pos apos:Pos} {e o:Expr} {es:List Expr} {ta:TE} {t:TA}
theorem run_fn {pins:List (Addr×Obj)} {σ:St} {H:Hp} {s:Shared} {Q:VK} {us:List Value} {vs:List V} (F:FnOk X.prog X.w X.K X.mg X.base CX k f fd ps sp) (hr:Room k X.A) (hb:Binds X.K fd ps ds) (hd:Vals dvs ds) (hx:Passes CX X E)
  (I:Inv X pins σ H s) (r:Vals vs us) (h:sp (vs++dvs) H Q E):wpAny (model X.prog X.w) X.A (call (.ref f) us) (EP X pins σ Q) X.xe s:=by
 have r2:Vals (vs++dvs) (us++ds):=r.append hd
 have hl:(us++ds).length=ps.length:=by rw [←r2.length];exact F.len _ _ _ _ h
 refine wpAny_call (codeAny_mono (F.run X.A X.stack s H ⟨us,[]⟩ (us++ds) (vs++dvs) Q E hr I.env0 (hb s us I.kIn hl) r2 h) fun r s' hq=>?_)
 cases r with
 |error e=>exact hx pins σ H s e s' I hq
 |ok fl=>
  cases fl with
  |ret u=>exact I.after hq
  |next=>exact False.elim hq
  |brk=>exact False.elim hq
  |cont=>exact False.elim hq
theorem pe_call (F:FnOk X.prog X.w X.K X.mg X.base CX k f fd ps sp) (hr:Room k X.A) (hg:Gl X x) (hm:X.mg x=some (.ref f)) (hk:PySem.W.keepIn X.K (.ref f)=true) (hb:Binds X.K fd ps ds) (hd:Vals dvs ds) (hx:Passes CX X E)
  (ha:PA X (e::es) t) (hdb:(x==("__debug__":Str))=false:=by decide) (he:starEach (e::es) X.env=(false,eval e X.env)::starEach es X.env:=by rfl) (hpl:(backTo pos (starEach es X.env)).any (·.1)=false:=by rfl):
  PE X (.Call (.Name x p) (e::es) [] pos) (tCall sp dvs E t):=by
 intro pins s σ H Q I h
 refine wpAny_Call_Name_kw (ld_glob I hg hm ?_ hdb)
 refine PySem.W.callWith_K (h₀:=X.base) I.ok.mod.kin hk (thn (ha pos pins s σ H _ I h) fun us s1 ⟨vs,H1,I1,r,q⟩=>⟨I1.kIn,?_⟩) he hpl
 exact run_fn F hr hb hd hx I1 r q
theorem pe_meth {pl:Sem Bool} (he:PE X o ta) (c:Cls X.K C) (hm:Meth X.K C m f) (F:FnOk X.prog X.w X.K X.mg X.base CX k f fd ps sp) (hr:Room k X.A) (hb:Binds X.K fd ps ds) (hd:Vals dvs ds) (hx:Passes CX X E) (ha:PA X (e::es) t)
  (hst:starEach (e::es) X.env=(false,eval e X.env)::starEach es X.env:=by rfl) (hpl:(backTo pos (starEach es X.env)).any (·.1)=false:=by rfl)
  (ht:eval (.Call (.Attribute o m apos) (e::es) [] pos) X.env=(do
   let ov ←eval o X.env
   standAt apos.atName
   let (f,first) ←holding [ov] (getMethod ov m pl)
   callWith pos f first (backTo pos (starEach (e::es) X.env)) (backToKw pos (keywordEach [] X.env))):=by rfl):
  PE X (.Call (.Attribute o m apos) (e::es) [] pos) (tMeth C m sp dvs E ta t):=by
 intro pins s σ H Q I h
 refine PySem.W.methodCall_KW (pl:=pl) (thn (he pins s σ H _ I h) fun u s1 ⟨x,H1,I1,rx,a,dx,fs,ex,ea,l,q⟩=>?_) ht
 subst ex
 obtain rfl:u=Value.ref a:=rx
 refine getmeth_ok I1 ea c hm l ?_
 refine PySem.W.callWith_K (first:=[.ref a]) (h₀:=X.base) I.ok.mod.kin hm.kp (thn (ha pos pins s1 σ H1 _ I1 q) fun us s2 ⟨vs,H2,I2,r,q2⟩=>⟨I2.kIn,?_⟩) hst hpl
 exact run_fn (us:=.ref a::us) (vs:=.ref a::vs) F hr hb hd hx I2 (.cons rfl r) q2
theorem pe_meth0 {pl:Sem Bool} (he:PE X o ta) (c:Cls X.K C) (hm:Meth X.K C m f) (F:FnOk X.prog X.w X.K X.mg X.base CX k f fd ps sp) (hr:Room k X.A) (hb:Binds X.K fd ps ds) (hd:Vals dvs ds) (hx:Passes CX X E)
  (ht:eval (.Call (.Attribute o m apos) [] [] pos) X.env=(do
   let ov ←eval o X.env
   standAt apos.atName
   let (f,first) ←holding [ov] (getMethod ov m pl)
   callWith pos f first (backTo pos (starEach [] X.env)) (backToKw pos (keywordEach [] X.env))):=by rfl):
  PE X (.Call (.Attribute o m apos) [] [] pos) (tMeth C m sp dvs E ta tNil):=by
 intro pins s σ H Q I h
 refine PySem.W.methodCall_KW (pl:=pl) (thn (he pins s σ H _ I h) fun u s1 ⟨x,H1,I1,rx,a,dx,fs,ex,ea,l,q⟩=>?_) ht
 subst ex
 obtain rfl:u=Value.ref a:=rx
 refine getmeth_ok I1 ea c hm l ?_
 exact PySem.W.callWith_K0 (first:=[.ref a]) I1.kIn hm.kp (run_fn (us:=[.ref a]) (vs:=[.ref a]) F hr hb hd hx I1 (.cons rfl .nil) q)
structure Mk (K:PySem.W.Frag) (C f:Addr):Prop where
 makes:PySem.W.makesIn K C=true
 init:PySem.W.findIn K (.ref C) "__init__"=some (some (.ref f))
 fn:PySem.W.isFn K (.ref f)=true
 kp:PySem.W.keepIn K (.ref C)=true
theorem run_make {pins:List (Addr×Obj)} {σ:St} {H:Hp} {s:Shared} {Q:VK} {us:List Value} {vs:List V} (M:Mk X.K C f) (F:FnOk X.prog X.w X.K X.mg X.base CX k f fd ps sp) (hr:Room (k+1) X.A) (hb:Binds X.K fd ps ds) (hd:Vals dvs ds)
  (hx:Passes CX X E) (I:Inv X pins σ H s) (r:Vals vs us)
  (h:∀ x dx,H x=none→H dx=none→dx≠x→sp (.ref x::(vs++dvs)) (upd (upd H dx (.own x)) x (.ins C dx [])) (fun v H2=>v=.non∧Q (.ref x) H2) E):
  wpAny (model X.prog X.w) X.A (call (.ref C) us) (EP X pins σ Q) X.xe s:=by
 have hq:=h (s.heap.objs.size+1) s.heap.objs.size (I.hok.fresh (Nat.le_succ _)) (I.hok.fresh (Nat.le_refl _)) (Nat.ne_of_lt (Nat.lt_succ_self _))
 have I2:=Inv.made (C:=C) I
 have r2:Vals (V.ref (s.heap.objs.size+1)::(vs++dvs)) (Value.ref (s.heap.objs.size+1)::(us++ds)):=.cons rfl (r.append hd)
 have hl:(Value.ref (s.heap.objs.size+1)::us++ds).length=ps.length:=by
  have e:=r2.length
  rw [F.len _ _ _ _ hq] at e
  exact e.symm
 refine wpAny_call (make_map (f:=f) I.kIn M.makes M.init (beq_iff_eq.mp M.fn) (codeAny_mono (F.run _ X.stack _ _ ⟨Value.ref (s.heap.objs.size+1)::us,[]⟩ (Value.ref (s.heap.objs.size+1)::(us++ds)) _ _ E (hr.make C us [])
  (I2.env0.make C us []) (hb _ (Value.ref (s.heap.objs.size+1)::us) I2.kIn hl) r2 hq) fun r s' hq'=>?_))
 cases r with
 |error e=>exact hx pins σ _ _ e s' I2 hq'
 |ok fl=>
  cases fl with
  |ret u=>
   obtain ⟨v,H',I3,rv,ev,q3⟩:=I2.after hq'
   subst ev
   exact ⟨rv,⟨V.ref (s.heap.objs.size+1),H',I3,rfl,q3⟩⟩
  |next=>exact False.elim hq'
  |brk=>exact False.elim hq'
  |cont=>exact False.elim hq'
theorem pe_make (M:Mk X.K C f) (F:FnOk X.prog X.w X.K X.mg X.base CX k f fd ps sp) (hr:Room (k+1) X.A) (hg:Gl X x) (hm:X.mg x=some (.ref C)) (hb:Binds X.K fd ps ds) (hd:Vals dvs ds) (hx:Passes CX X E)
  (ha:PA X (e::es) t) (hdb:(x==("__debug__":Str))=false:=by decide) (he:starEach (e::es) X.env=(false,eval e X.env)::starEach es X.env:=by rfl) (hpl:(backTo pos (starEach es X.env)).any (·.1)=false:=by rfl):
  PE X (.Call (.Name x p) (e::es) [] pos) (tMake C sp dvs E t):=by
 intro pins s σ H Q I h
 refine wpAny_Call_Name_kw (ld_glob I hg hm ?_ hdb)
 refine PySem.W.callWith_K (h₀:=X.base) I.ok.mod.kin M.kp (thn (ha pos pins s σ H _ I h) fun us s1 ⟨vs,H1,I1,r,q⟩=>⟨I1.kIn,?_⟩) he hpl
 exact run_make M F hr hb hd hx I1 r q
theorem pe_make0 (M:Mk X.K C f) (F:FnOk X.prog X.w X.K X.mg X.base CX k f fd ps sp) (hr:Room (k+1) X.A) (hg:Gl X x) (hm:X.mg x=some (.ref C)) (hb:Binds X.K fd ps ds) (hd:Vals dvs ds) (hx:Passes CX X E)
  (hdb:(x==("__debug__":Str))=false:=by decide):PE X (.Call (.Name x p) [] [] pos) (tMake C sp dvs E tNil):=by
 intro pins s σ H Q I h
 refine wpAny_Call_Name_kw (ld_glob I hg hm ?_ hdb)
 exact PySem.W.callWith_K0 I.kIn M.kp (run_make (us:=[]) M F hr hb hd hx I .nil h)
end
section
variable {X:Cx} {CX:CXT} {k:Nat} {f C:Addr} {fd:FuncData} {ps ks:List Str} {sp:Sp} {E:XK} {x m:Str} {p pos apos kpos:Pos} {e o:Expr} {es:List Expr} {kws:List Keyword} {te ta:TE} {t tk:TA} {nm:Option Str}
variable {g:List Value→List Value→List Value} {gV:List V→List V→List V}
end
structure FnScope (N P:List Str) (sc:Scope):Prop where
 kind:sc.kind=.function
 co:sc.isCoroutine=false
 gen:sc.isGenerator=false
 nd:N.Nodup
 pre:N.take P.length=P
 par:∀ x∈P,sc.names.lookup x=some .local∨sc.names.lookup x=some .cell
 nofree:∀ y∈sc.names,y.2≠.free
theorem bindL_out {kindOf:Str→Option NameKind} {x:Str}:∀ {binds:List (Str×Value)} {m:Str→Option Value},(∀ v,(x,v)∉binds)→bindL kindOf binds m x=m x
 |[],_,_=>rfl
 |(n,v)::r,m,h=>by
  unfold bindL
  rw [bindL_out fun w hw=>h w (List.mem_cons_of_mem _ hw)]
  split
  ·have:x≠n:=by rintro rfl;exact h v List.mem_cons_self
   simp [this]
  ·rfl
theorem bindC_out {kindOf:Str→Option NameKind} {x:Str}:∀ {binds:List (Str×Value)} {m:Str→Option Value},(∀ v,(x,v)∉binds)→bindC kindOf binds m x=m x
 |[],_,_=>rfl
 |(n,v)::r,m,h=>by
  unfold bindC
  rw [bindC_out fun w hw=>h w (List.mem_cons_of_mem _ hw)]
  split
  ·rfl
  ·have:x≠n:=by rintro rfl;exact h v List.mem_cons_self
   simp [this]
theorem bindL_get {kindOf:Str→Option NameKind} {x:Str} {v:Value}:∀ {P:List Str} {vs:List Value} {i:Nat} {m:Str→Option Value},P.Nodup→P[i]?=some x→vs[i]?=some v→kindOf x=some .local→
  bindL kindOf (P.zip vs) m x=some v
 |[],_,_,_,_,h,_,_=>by simp at h
 |_::_,[],_,_,_,_,h,_=>by simp at h
 |p::P,w::vs,0,m,nd,h1,h2,hk=>by
  simp at h1 h2;subst h1;subst h2
  show bindL kindOf ((p,w)::P.zip vs) m p=_
  unfold bindL
  rw [bindL_out fun v hv=>(List.nodup_cons.mp nd).1 (List.of_mem_zip hv).1,if_pos hk]
  simp
 |p::P,w::vs,i+1,m,nd,h1,h2,hk=>by
  show bindL kindOf ((p,w)::P.zip vs) m x=_
  unfold bindL
  exact bindL_get (i:=i) (List.nodup_cons.mp nd).2 (by simpa using h1) (by simpa using h2) hk
theorem bindC_get {kindOf:Str→Option NameKind} {x:Str} {v:Value}:∀ {P:List Str} {vs:List Value} {i:Nat} {m:Str→Option Value},P.Nodup→P[i]?=some x→vs[i]?=some v→kindOf x≠some .local→
  bindC kindOf (P.zip vs) m x=some v
 |[],_,_,_,_,h,_,_=>by simp at h
 |_::_,[],_,_,_,_,h,_=>by simp at h
 |p::P,w::vs,0,m,nd,h1,h2,hk=>by
  simp at h1 h2;subst h1;subst h2
  show bindC kindOf ((p,w)::P.zip vs) m p=_
  unfold bindC
  rw [bindC_out fun v hv=>(List.nodup_cons.mp nd).1 (List.of_mem_zip hv).1,if_neg hk]
  simp
 |p::P,w::vs,i+1,m,nd,h1,h2,hk=>by
  show bindC kindOf ((p,w)::P.zip vs) m x=_
  unfold bindC
  exact bindC_get (i:=i) (List.nodup_cons.mp nd).2 (by simpa using h1) (by simpa using h2) hk
def start (N:List Str) (vs:List V):St:=vs.map some++List.replicate (N.length - vs.length) none
def cxOf (CX:CXT) (P:Program) (w:World) (K:PySem.W.Frag) (mg:Str→Option Value) (base:Heap) (N:List Str) (qual:Str) (scope:Scope) (f:Addr) (cd:Value) (A:Around) (outer:List Env) (s:Shared) (H:Hp) (E:XK):Cx where
 prog:=P
 w:=w
 K:=K
 mg:=mg
 base:=base
 A:=A.deeper (envOfC qual scope s.heap.objs.size f cd)
 N:=N
 s_0:=s
 H_0:=H
 env:=envOfC qual scope s.heap.objs.size f cd
 outer:=outer
 stack:=envOfC qual scope s.heap.objs.size f cd::outer
 ex:=[]
 calm:=true
 fn:=fun _=>true
 pn:=[]
 xe:=fun e s'=>wpAny (model P w) (A.deeper (envOfC qual scope s.heap.objs.size f cd)) (leaving (envOfC qual scope s.heap.objs.size f cd) e) (fun _ s''=>CX outer H s E e s'') (fun e' s''=>CX outer H s E e' s'') s'
theorem cell_has {sc:Scope} {n:Nat} {x:Str} (h:sc.names.lookup x=some .cell):∃ c,(cellsFrom n sc.names []).lookup x=some c:=by
 have q:=PySem.W.cellsFrom_some sc.names n [] (.inl h)
 exact Option.isSome_iff_exists.mp q
theorem inv_start {CX:CXT} {P:Program} {w:World} {K:PySem.W.Frag} {mg:Str→Option Value} {base:Heap} {N ps:List Str} {qual:Str} {scope:Scope} {f:Addr} {cd:Value} {A:Around} {outer:List Env} {s s1:Shared} {H:Hp} {E:XK} {us:List Value} {vs:List V}
  (S:FnScope N ps scope) (hd:A.handled=none) (e0:Env0 P w K mg base A outer s H) (hl:vs.length=ps.length) (r:Vals vs us)
  (x:InCallC s s.heap.objs.size (bindL (envOfC qual scope s.heap.objs.size f cd).kindOf (ps.zip us) fun _=>none) (cellsFrom (s.heap.objs.size+1) scope.names []) (bindC (envOfC qual scope s.heap.objs.size f cd).kindOf (ps.zip us) fun _=>none) s1):
  Inv (cxOf CX P w K mg base N qual scope f cd A outer s H E) [] (start N vs) H s1:=by
 have hpl:ps.length≤N.length:=by have:=congrArg List.length S.pre;rw [List.length_take] at this;omega
 obtain ⟨h1,tk,rfl,hk⟩:=x.done
 have noA:∀ b:Addr,b∉(cxOf CX P w K mg base N qual scope f cd A outer s H E).ex:=fun b z=>absurd (show b∈([]:List Addr) from z) (by simp)
 refine ⟨⟨e0.mod,S.kind,rfl,rfl,Nat.le_refl _,fun y z c h1 h2=>?_,fun y hy=>?_,fun y c _ h=>?_,fun _=>hd,Around.frames_deeper e0.frames,.inr ⟨rfl,rfl⟩,fun b z=>absurd z (noA b),e0.bs,e0.bsz,fun b _ _=>noA b,fun b z=>absurd z (noA b),e0.funs,e0.frf⟩,
  rfl,e0.bare,Un.kept hk,⟨_,x.toInCall.ns,fun i y v h1 h2 h3=>?_⟩,fun y c h=>⟨_,x.cell y c h⟩,e0.hok.fresh (Nat.le_refl _),fun y c h=>?_,fun p hp=>absurd (show p∈([]:List (Addr×Obj)) from hp) (by simp),e0.hok.kept hk,?_⟩
 ·exact name_of_addr x.apart (PySem.mem_of_lookup h1) (PySem.mem_of_lookup h2)
 ·have hy:scope.names.lookup y=some .cell∨scope.names.lookup y=some .free:=hy
  rcases hy with hy|hy
  ·exact cell_has hy
  ·exact absurd rfl (S.nofree _ (PySem.mem_of_lookup hy))
 ·exact Nat.le_of_lt (x.above y c (PySem.mem_of_lookup h))
 ·have hi:i<vs.length:=by
   unfold start at h2
   by_cases hi:i<vs.length
   ·exact hi
   ·rw [List.getElem?_append_right (by simpa using hi)] at h2
    rw [List.getElem?_replicate] at h2
    split at h2<;>cases h2
  have ha:vs[i]?=some v:=by
   unfold start at h2
   rw [List.getElem?_append_left (by simpa using hi),List.getElem?_map] at h2
   cases e:vs[i]? with
   |none=>rw [e] at h2;cases h2
   |some a=>rw [e] at h2;cases h2;rfl
  obtain ⟨u,hu,rv⟩:=r.get ha
  have hp:ps[i]?=some y:=by
   rw [←S.pre,List.getElem?_take_of_lt (by omega)];exact h1
  have ndP:ps.Nodup:=by rw [←S.pre];exact S.nd.sublist (List.take_sublist _ _)
  refine ⟨u,rv,?_⟩
  rcases S.par y (List.mem_of_getElem? hp) with k|k
  ·exact .inl ⟨k,bindL_get ndP hp hu k⟩
  ·obtain ⟨c,e⟩:=cell_has (n:=s.heap.objs.size+1) k
   refine .inr ⟨.inl k,c,e,?_⟩
   have q:=x.cell y c e
   rw [bindC_get ndP hp hu (by show scope.names.lookup y≠_;rw [k];decide)] at q
   exact q
 ·exact e0.hok.fresh (Nat.le_of_lt (x.above y c (PySem.mem_of_lookup h)))
 ·unfold start
  show _=N.length
  rw [List.length_append,List.length_map,List.length_replicate]
  omega
theorem fn_of {CX:CXT} {P:Program} {w:World} {K:PySem.W.Frag} {mg:Str→Option Value} {base:Heap} {k:Nat} {f:Addr} {name qual:Str} {params:Arguments} {body:List Stmt} {scope:Scope} {dV kV doc pm cdv ct oc:Value} {an od:Option Addr}
  {osl:Array (Option Value)} {N ps:List Str} {sp:Sp} (lk:K.lookup f=some ⟨oc,od,.func (PySem.W.fnOf name qual params body scope dV kV doc pm an cdv ct),osl⟩) (hcd:PySem.W.codeIn K cdv qual=true) (S:FnScope N ps scope)
  (len:∀ vs H Q E,sp vs H Q E→vs.length=ps.length)
  (hbody:∀ (A:Around) (outer:List Env) (s:Shared) (H:Hp) (vs:List V) (Q:VK) (E:XK),Room k (A.deeper (envOfC qual scope s.heap.objs.size f cdv))→sp vs H Q E→
   ∃ t,PSs (cxOf CX P w K mg base N qual scope f cdv A outer s H E) body t∧t {nx:=fun _ H'=>Q .non H',rt:=Q} (start N vs) H):
  FnOk P w K mg base CX (k+1) f (PySem.W.fnOf name qual params body scope dV kV doc pm an cdv ct) ps sp:=by
 refine ⟨len,fun A outer s H args us vs Q E hr e0 hb r hsp=>?_⟩
 have hl:=len _ _ _ _ hsp
 have KX:K.In s.heap:=e0.mod.kin.keeps fun b o e=>(e0.bs b o e).1
 have lim:s.heap.NoLimit:=e0.mod.nolimit.keeps fun b o e=>(e0.bs b o e).1
 have hkind:∀ y∈ps.zip us,scope.names.lookup y.1=some .local∨(scope.names.lookup y.1=some .cell∧((cellsFrom (s.heap.objs.size+1) scope.names []).lookup y.1).isSome=true):=fun ⟨n,v⟩ hy=>by
  rcases S.par n (List.of_mem_zip hy).1 with q|q
  ·exact .inl q
  ·exact .inr ⟨q,PySem.W.cellsFrom_some _ _ _ (.inl q)⟩
 refine codeAny_call_function hr.depth (KX _ _ lk) rfl S.co S.gen rfl (PySem.W.codeRec_of KX hcd) (hb _ _ _ _ ?_)
 refine wpAny_newFunctionEnv_cells S.kind hkind fun env he s1 x=>?_
 subst he
 refine ⟨lim.keeps x.toInCall.keep,codeAny_func ?_⟩
 obtain ⟨t,ht,hq⟩:=hbody A outer s H vs Q E (hr.deeper _) hsp
 have I:Inv (cxOf CX P w K mg base N qual scope f cdv A outer s H E) [] (start N vs) H s1:=inv_start S hr.hd e0 hl r x
 refine wpAny_mono (ht [] s1 (start N vs) H _ I hq) (fun fl s' hs=>?_) fun e s' hs=>hs
 have fin:∀ {σ':St} {H':Hp} {v:V} {u:Value},Inv (cxOf CX P w K mg base N qual scope f cdv A outer s H E) [] σ' H' s'→RelV v u→Q v H'→CE outer P w H s Q u s':=
  fun {σ' H' v u} J rv q=>⟨v,H',J.os,J.bare,J.base,J.hok,rv,q⟩
 cases fl with
 |ret u=>
  obtain ⟨v,σ',H',J,rv,q⟩:=hs
  exact fin J rv q
 |next=>
  obtain ⟨σ',H',J,q⟩:=hs
  exact fin (v:=V.non) (u:=Value.none) J rfl q
 |brk=>
  obtain ⟨_,_,_,q⟩:=hs
  exact False.elim q
 |cont=>
  obtain ⟨_,_,_,q⟩:=hs
  exact False.elim q
end L2
namespace L2
open PySem PySem.Spec PyProof.Rows
section
variable {X:Cx} {x:Str} {p pos:Pos} {e:Expr} {es:List Expr} {t:TA} {id T:String} {r:List V→Hp→VK→Prop}
def tCB (r:List V→Hp→VK→Prop) (t:TA):TE:=fun σ H Q=>t σ H fun vs H1=>r vs H1 Q
theorem pe_callB (hc:CallR X (.builtin id) r) (hg:Gl X x) (hm:X.mg x=none) (hv:bootBuiltins x=some (.builtin id)) (ha:PA X (e::es) t) (hn:x≠"__name__":=by decide) (hdb:(x==("__debug__":Str))=false:=by decide)
  (he:starEach (e::es) X.env=(false,eval e X.env)::starEach es X.env:=by rfl) (hpl:(backTo pos (starEach es X.env)).any (·.1)=false:=by rfl):PE X (.Call (.Name x p) (e::es) [] pos) (tCB r t):=by
 intro pins s σ H Q I h
 refine wpAny_Call_Name_kw (ld_blt I hg hm hv ?_ hn hdb)
 exact PyProof.Rows.callWith_builtin1 (thn (ha pos pins s σ H _ I h) fun us s1 ⟨vs,H1,I1,r1,q1⟩=>hc pins s1 σ H1 vs us Q I1 r1 q1) he hpl
theorem pe_callTy (hc:CallR X (.type T) r) (hg:Gl X x) (hm:X.mg x=none) (hv:bootBuiltins x=some (.type T)) (ha:PA X (e::es) t) (hn:x≠"__name__":=by decide) (hdb:(x==("__debug__":Str))=false:=by decide)
  (he:starEach (e::es) X.env=(false,eval e X.env)::starEach es X.env:=by rfl) (hpl:(backTo pos (starEach es X.env)).any (·.1)=false:=by rfl):PE X (.Call (.Name x p) (e::es) [] pos) (tCB r t):=by
 intro pins s σ H Q I h
 refine wpAny_Call_Name_kw (ld_blt I hg hm hv ?_ hn hdb)
 exact PyProof.Rows.callWith_type1 (thn (ha pos pins s σ H _ I h) fun us s1 ⟨vs,H1,I1,r1,q1⟩=>hc pins s1 σ H1 vs us Q I1 r1 q1) he hpl
end
end L2
namespace HT
open PySem PyProof.Rows
theorem eqAt_int (A:Around) (s:Shared) (a:Int) (t:Tok) (c:Int) (u:Tok):∃ e,SeqAt.EqAt A s (.int a t) (.int c u) e∧(e=true↔a=c):=
 ⟨(a==c),SeqAt.EqAt.int_int a t c u,by simp⟩
section
open PySem.SeqAt
open PySem.AutoSeq1 (wpAny_loadPart')
open PySem.MeetsSeq PySem.MeetsSeq2 PySem.MeetsSeq3
end
section
variable {prog:Program} {w:World} {A:Around} {E:Value→Shared→Prop} {s:Shared}
theorem cat_tup {t b:Addr} {vs ws:List Value} {Q:Value→Shared→Prop} (ht:IsTup s.heap t vs.toArray) (hb:IsTup s.heap b ws.toArray) (hv:vs≠[])
  (h1:ws=[]→Q (.ref t) s) (h2:ws≠[]→Q (.ref s.heap.objs.size) {s with heap:=s.heap.push {cls:=.type "tuple",data:=.seq (vs++ws).toArray}})
  (hsz:vs.length+ws.length≤sizeLine):wpAny (model prog w) A (binaryOp .Add (.ref t) (.ref b)) Q E s:=by
 obtain ⟨⟨cls,dd,data,sl⟩,ho,hc,n,hd⟩:=id ht
 obtain ⟨⟨cls2,dd2,data2,sl2⟩,ho2,hc2,n2,hd2⟩:=id hb
 simp only at hc hd hc2 hd2
 subst hc hd hc2 hd2
 have e:vs.toArray++ws.toArray=(vs++ws).toArray:=by simp
 by_cases hw:ws=[]
 ·exact concat_meets ⟨_,ho,rfl⟩ ⟨_,ho2,rfl⟩ noFill_tuple_add seq_tuple_add PySem.F.slot_tuple_add PySem.F.entry_tuple_add (PySem.F.args_tuple_add_2 _ _)
   (tuple_addW1 t b vs.toArray ws.toArray n n2 dd dd2 sl sl2 (by simpa using hv) (by simp [hw])) ⟨ho,ho2,h1 hw⟩
 ·refine concat_meets ⟨_,ho,rfl⟩ ⟨_,ho2,rfl⟩ noFill_tuple_add seq_tuple_add PySem.F.slot_tuple_add PySem.F.entry_tuple_add (PySem.F.args_tuple_add_2 _ _)
   (tuple_addW2 t b vs.toArray ws.toArray n n2 dd dd2 sl sl2 (by simpa using hv) (by simpa using hw) (by rw [List.size_toArray,List.size_toArray];exact hsz)) ⟨ho,ho2,?_⟩
  rw [e]
  exact h2 hw
def sIx (n d:Nat):Option Int→Nat
 |none=>d
 |some v=>if v<0 then (v+(n:Int)).toNat else min v.toNat n
theorem sIx_none (n d:Nat):sIx n d none=d:=rfl
theorem sIx_nat (n d k:Nat):sIx n d (some (k:Int))=min k n:=by
 show (if (k:Int)<0 then ((k:Int)+(n:Int)).toNat else min (k:Int).toNat n)=min k n
 rw [if_neg (by omega),Int.toNat_natCast]
theorem sIx_le (n d:Nat) (hd:d≤n) (o:Option Int):sIx n d o≤n:=by
 cases o with
 |none=>exact hd
 |some v=>
  show (if v<0 then (v+(n:Int)).toNat else min v.toNat n)≤n
  by_cases hv:v<0
  ·rw [if_pos hv];omega
  ·rw [if_neg hv];exact Nat.min_le_right _ _
theorem clip_eq (v:Int) (n d:Nat):(if v<0 then max (v+(n:Int)) 0 else min v (n:Int))=((sIx n d (some v):Nat):Int):=by
 show (if v<0 then max (v+(n:Int)) 0 else min v (n:Int))=(((if v<0 then (v+(n:Int)).toNat else min v.toNat n):Nat):Int)
 by_cases hv:v<0
 ·simp only [if_pos hv];omega
 ·simp only [if_neg hv];omega
theorem adjust_gen (lo hi:Option Int) (n:Nat):Builtin.Slice.sliceAdjust lo hi 1 (n:Int)=(((sIx n 0 lo:Nat):Int),((sIx n n hi:Nat):Int)):=by
 have h1:¬((1:Int)<0):=by omega
 unfold Builtin.Slice.sliceAdjust
 simp only [h1,if_false]
 refine Prod.ext ?_ ?_
 ·cases lo with
  |none=>rfl
  |some v=>exact clip_eq v n 0
 ·cases hi with
  |none=>rfl
  |some v=>exact clip_eq v n n
theorem places_gen (i j:Nat):Builtin.Slice.slicePlaces (i:Int) (j:Int) 1=j - i:=by
 unfold Builtin.Slice.slicePlaces
 have h1:(1:Int)>0:=by omega
 simp only [h1,if_true,Int.ediv_one]
 split<;>omega
theorem slicePart_ {v:Value} {o:Option Int} {Q:Option Int→Shared→Prop} (p:IsPart v o) (h:Q o s):wpAny (model prog w) A (Builtin.Slice.slicePartIndex v) Q E s:=by
 cases p with
 |none=>exact slicePart_none h
 |int i t=>exact slicePart_int h
theorem sliceApplied_gen {sl:Addr} {vl vu:Value} {lo hi:Option Int} {n:Nat} {Q:Int×Int×Nat→Shared→Prop} (hs:s.heap.IsSliceOf sl vl vu .none) (pl:IsPart vl lo) (pu:IsPart vu hi)
  (h:Q (((sIx n 0 lo:Nat):Int),1,sIx n n hi - sIx n 0 lo) s):wpAny (model prog w) A (Builtin.Slice.sliceApplied (.ref sl) (pure (n:Int))) Q E s:=by
 obtain ⟨os,hos,hcs,hds⟩:=id hs
 unfold Builtin.Slice.sliceApplied Builtin.Slice.sliceFields
 refine wpAny_bind (wpAny_bind (wpAny_field hos hds (x:=vl) rfl (wpAny_bind (wpAny_field hos hds (x:=vu) rfl (wpAny_bind (wpAny_field hos hds (x:=.none) rfl (wpAny_pure ?_)))))))
 refine wpAny_bind (slicePart_none ?_)
 show wpAny _ _ (if ((1:Int)==0)=true then _ else _) _ _ s
 rw [if_neg (by decide)]
 refine wpAny_bind (slicePart_ pl (wpAny_bind (slicePart_ pu (wpAny_bind (wpAny_pure ?_)))))
 show wpAny _ _ (match Builtin.Slice.sliceAdjust lo hi 1 (n:Int) with|(lo,hi)=>pure (lo,(1:Int),Builtin.Slice.slicePlaces lo hi 1)) _ _ s
 rw [adjust_gen lo hi n]
 show wpAny _ _ (pure (((sIx n 0 lo:Nat):Int),(1:Int),Builtin.Slice.slicePlaces ((sIx n 0 lo:Nat):Int) ((sIx n n hi:Nat):Int) 1)) _ _ s
 rw [places_gen]
 exact wpAny_pure h
theorem pick_gen (xs:Array Value) (i k:Nat):((List.range k).filterMap fun (m:Nat)=>xs[((i:Int)+(m:Int) * 1).toNat]?).toArray=((xs.toList.drop i).take k).toArray:=by
 have e:(fun (m:Nat)=>xs[((i:Int)+(m:Int) * 1).toNat]?)=fun m=>xs[i+m]?:=by
  funext m
  have:((i:Int)+(m:Int) * 1).toNat=i+m:=by omega
  rw [this]
 rw [e]
 have:=pick_run xs i k
 rw [List.filterMap_map] at this
 have e2:((fun x=>xs[x]?)∘fun x=>i+x)=fun m=>xs[i+m]?:=rfl
 rw [e2] at this
 rw [this]
theorem getItem_tuple_cut {t sl:Addr} {items:Array Value} {vl vu:Value} {lo hi:Option Int} {Q:Value→Shared→Prop} (ht:IsTup s.heap t items) (hs:s.heap.IsSliceOf sl vl vu .none) (pl:IsPart vl lo) (pu:IsPart vu hi)
  (hw:¬(sIx items.size 0 lo=0∧sIx items.size items.size hi=items.size))
  (h:Q (.ref s.heap.objs.size) {s with heap:=s.heap.push {cls:=.type "tuple",data:=.seq ((items.toList.drop (sIx items.size 0 lo)).take (sIx items.size items.size hi - sIx items.size 0 lo)).toArray}})
  (hsz:items.size≤sizeLine):wpAny (model prog w) A (getItem (.ref t) (.ref sl)) Q E s:=by
 have htake:sizeOk (.seq ((items.toList.drop (sIx items.size 0 lo)).take (sIx items.size items.size hi - sIx items.size 0 lo)).toArray):=by
  show ((items.toList.drop (sIx items.size 0 lo)).take (sIx items.size items.size hi - sIx items.size 0 lo)).toArray.size≤sizeLine
  rw [List.size_toArray,List.length_take,List.length_drop,Array.length_toList]
  omega
 have hj:sIx items.size items.size hi≤items.size:=sIx_le _ _ (Nat.le_refl _) hi
 obtain ⟨os,hos,hcs,hds⟩:=id hs
 have hTs:s.TypeIs (.ref sl) "slice":=⟨os,hos,hcs⟩
 unfold getItem
 try with_reducible refine wpAny_holding ?_
 first|refine wpAny_bind (wpAny_pure ?_)|skip
 refine wpAny_bind (wpAny_sequenceKey ht.typeIs (by decide) ?_)
 refine wpAny_bind (wpAny_callSpecial?_slot (name:=Str.ofString "__getitem__") ht.typeIs PyProof.Rows.slot_tuple_getitem
  (wpAny_call_entry PyProof.Rows.slot_tuple_getitem ht.typeIs entry_tuple_getitem ?_ (args_tuple_getitem _ _)))
 show wpAny _ _ (Builtin.Tuple.tupleItemsOf (.ref t)>>=_) _ _ s
 refine wpAny_bind (tupleItemsOf_ ht ?_)
 refine wpAny_bind (wpAny_typeOf hTs ?_)
 rw [if_pos (by decide)]
 refine wpAny_bind (sliceApplied_gen hs pl pu ?_)
 have hno:¬((((sIx items.size 0 lo:Nat):Int)==0 && (1:Int)==1 && (sIx items.size items.size hi - sIx items.size 0 lo)==items.size)=true):=by
  intro q
  rw [Bool.and_eq_true,Bool.and_eq_true] at q
  have q1:((sIx items.size 0 lo:Nat):Int)=0:=eq_of_beq q.1.1
  have q2:sIx items.size items.size hi - sIx items.size 0 lo=items.size:=eq_of_beq q.2
  exact hw ⟨by omega,by omega⟩
 show wpAny _ _ (if (((sIx items.size 0 lo:Nat):Int)==0 && (1:Int)==1 && (sIx items.size items.size hi - sIx items.size 0 lo)==items.size)=true then _ else _) _ _ s
 rw [if_neg hno,pick_gen]
 first
  |exact wpAny_bind (m:=Builtin.Tuple.tupleExact _) (wpAny_newObj_type (wpAny_pure ⟨_,rfl,wpAny_pure h⟩) htake)
  |exact wpAny_bind (m:=Builtin.Tuple.tupleExact _) (wpAny_newObj_type (wpAny_bind (wpAny_pure (wpAny_pure ⟨_,rfl,wpAny_pure h⟩))) htake)
  |exact wpAny_bind (wpAny_bind (m:=Builtin.Tuple.tupleExact _) (wpAny_newObj_type (wpAny_pure (wpAny_pure ⟨_,rfl,wpAny_pure h⟩)) htake))
  |exact wpAny_bind (wpAny_bind (m:=Builtin.Tuple.tupleExact _) (wpAny_newObj_type (wpAny_pure ⟨_,rfl,wpAny_pure h⟩) htake))
end
end HT
namespace L2
open PySem PySem.Spec PyProof.Rows
abbrev TO:=St→Hp→(Option Int→Hp→Prop)→Prop
def PO (X:Cx) (e:Option Expr) (t:TO):Prop:=
 ∀ (pins:List (Addr×Obj)) (s:Shared) (σ:St) (H:Hp) (Q:Option Int→Hp→Prop),Inv X pins σ H s→t σ H Q→
  wpAny (model X.prog X.w) X.A (evalPart e X.env) (fun u s'=>∃ o H',Inv X pins σ H' s'∧IsPart u o∧Q o H') X.xe s
def tNoPart:TO:=fun _ H Q=>Q none H
def tPart (t:TE):TO:=fun σ H Q=>t σ H fun x H1=>∃ i,x=.int i∧Q (some i) H1
theorem intsAre_of {ns:List Int}:∀ {us:List Value},Vals (ns.map V.int) us→IntsAre us ns:=by
 induction ns with
 |nil=>intro us r;rw [List.map_nil] at r;cases r;exact .nil
 |cons n ns ih=>
  intro us r
  rw [List.map_cons] at r
  cases r with
  |cons r1 r2=>
   obtain ⟨t,e⟩:=r1
   subst e
   exact .cons n t (ih r2)
section
variable {X:Cx} {e:Expr} {te:TE} {lo hi:Option Expr} {tl th:TO} {pos p2:Pos}
theorem po_none:PO X none tNoPart:=by
 intro pins s σ H Q I h
 rw [evalPart_none]
 exact wpAny_pure ⟨none,H,I,.none,h⟩
theorem po_some (h:PE X e te):PO X (some e) (tPart te):=by
 intro pins s σ H Q I hw
 rw [evalPart_some]
 refine thn (h pins s σ H _ I hw) fun u s1 ⟨x,H1,I1,r1,q1⟩=>?_
 obtain ⟨i,rfl,q⟩:=q1
 obtain ⟨t,rfl⟩:=r1
 exact ⟨some i,H1,I1,.int i t,q⟩
def SlR (X:Cx) (r:V→Option Int→Option Int→Hp→VK→Prop):Prop:=
 ∀ (pins:List (Addr×Obj)) (s:Shared) (σ:St) (H:Hp) (x:V) (v vl vu:Value) (lo hi:Option Int) (sl:Addr) (Q:VK),Inv X pins σ H s→RelV x v→s.heap.IsSliceOf sl vl vu .none→IsPart vl lo→IsPart vu hi→r x lo hi H Q→
  ∃ T id,typeLookup (.type T) "__getitem__"=pure (some (.builtin id))∧s.TypeIs v T∧wpAny (model X.prog X.w) X.A (getItem v (.ref sl)) (EP X pins σ Q) X.xe s
def tSl (r:V→Option Int→Option Int→Hp→VK→Prop) (te:TE) (tl th:TO):TE:=fun σ H Q=>te σ H fun x H1=>tl σ H1 fun l H2=>th σ H2 fun u H3=>r x l u H3 Q
theorem pe_slice {r:V→Option Int→Option Int→Hp→VK→Prop} (hr:SlR X r) (he:PE X e te) (hl:PO X lo tl) (hu:PO X hi th):PE X (.Subscript e (.Slice lo hi none p2) pos) (tSl r te tl th):=by
 intro pins s σ H Q I h
 refine Subscript_ (thn (he pins s σ H _ I h) fun v s1 ⟨x,H1,I1,r1,q1⟩=>?_)
 refine wpAny_Slice (thn (hl pins s1 σ H1 _ I1 q1) fun vl s2 ⟨l,H2,I2,pl,q2⟩=>thn (hu pins s2 σ H2 _ I2 q2) fun vu s3 ⟨u,H3,I3,pu,q3⟩=>?_)
 rw [evalPart_none]
 refine wpAny_pure ?_
 have I4:Inv X pins σ H3 {s3 with heap:=s3.heap.push {cls:=.type "slice",data:=.fields #[vl,vu,.none]}}:=I3.kept (t':=s3.toks) fun b ob q=>Heap.get?_push_of_some _ q
 obtain ⟨T,id,hT,ht,hg⟩:=hr pins {s3 with heap:=s3.heap.push {cls:=.type "slice",data:=.fields #[vl,vu,.none]}} σ H3 x v vl vu l u s3.heap.objs.size Q I4 r1 (Heap.IsSliceOf.new ..) pl pu q3
 show wpAny (model X.prog X.w) X.A (subscriptTail e (.Slice lo hi none p2) v (.ref s3.heap.objs.size)) (EP X pins σ Q) X.xe {s3 with heap:=s3.heap.push {cls:=.type "slice",data:=.fields #[vl,vu,.none]}}
 exact tail_any (ops:=[.ref s3.heap.objs.size,v]) ht hT hg (by with_unfolding_all rfl)
def cutV (xs:List V) (lo hi:Option Int):List V:=(xs.drop (HT.sIx xs.length 0 lo)).take (HT.sIx xs.length xs.length hi - HT.sIx xs.length 0 lo)
theorem cutV_length (xs:List V) (lo hi:Option Int):(cutV xs lo hi).length≤xs.length:=by
 unfold cutV
 rw [List.length_take,List.length_drop]
 omega
def rSlT (K:PySem.W.Frag):V→Option Int→Option Int→Hp→VK→Prop:=fun x lo hi H Q=>∃ a xs,x=.ref a∧SqT K H a xs∧
 ¬(HT.sIx xs.length 0 lo=0∧HT.sIx xs.length xs.length hi=xs.length)∧∀ p,H p=none→Q (.ref p) (upd H p (.tup (cutV xs lo hi)))
theorem sl_tup:SlR X (rSlT X.K):=by
 intro pins s σ H x v vl vu lo hi sl Q I rx hs pl pu h
 obtain ⟨a,xs,rfl,hx,hw,q⟩:=h
 cases rx
 obtain ⟨its,r,ht,hz⟩:=I.tuple hx
 have hlen:its.toArray.size=xs.length:=by rw [List.size_toArray];exact r.length.symm
 refine ⟨"tuple",_,PyProof.Rows.slot_tuple_getitem.lookup,ht.typeIs,?_⟩
 refine HT.getItem_tuple_cut ht hs pl pu (by rw [hlen];exact hw) ?_ (by rw [hlen];exact hz)
 rw [hlen]
 refine ⟨.ref s.heap.objs.size,_,I.laid (t':=s.toks) (o:=.tup (cutV xs lo hi)) (fun b ob q=>Heap.get?_push_of_some _ q) (Nat.le_refl _) ?_,rfl,q _ (I.hok.fresh (Nat.le_refl _))⟩
 exact ⟨Nat.le_trans (cutV_length xs lo hi) hz,_,(r.drop (HT.sIx xs.length 0 lo)).take (HT.sIx xs.length xs.length hi - HT.sIx xs.length 0 lo),IsTup.new _ _⟩
def rCatT (K:PySem.W.Frag):R2:=fun x y H Q=>∃ a b xs ys,x=.ref a∧y=.ref b∧SqT K H a xs∧SqT K H b ys∧xs≠[]∧xs.length+ys.length≤sizeLine∧
 (ys=[]→Q (.ref a) H)∧(ys≠[]→∀ p,H p=none→Q (.ref p) (upd H p (.tup (xs++ys))))
theorem Vals.nil_iff {xs:List V} {us:List Value} (r:Vals xs us):us=[]↔xs=[]:=by
 cases r with
 |nil=>simp
 |cons _ _=>simp
theorem op_catT:OpR X (binaryOp .Add) (rCatT X.K):=by
 intro pins s σ H x y v u Q I rx ry h
 obtain ⟨a,b,xs,ys,rfl,rfl,ha,hb,hx,hz,q1,q2⟩:=h
 cases rx
 cases ry
 obtain ⟨its,r1,p1,_⟩:=I.tuple ha
 obtain ⟨its2,r2,p2,_⟩:=I.tuple hb
 refine HT.cat_tup p1 p2 (fun z=>hx (r1.nil_iff.mp z)) (fun z=>⟨.ref a,H,I,rfl,q1 (r2.nil_iff.mp z)⟩) (fun z=>?_) (by rw [←r1.length,←r2.length];exact hz)
 refine ⟨.ref s.heap.objs.size,_,I.laid (t':=s.toks) (o:=.tup (xs++ys)) (fun b ob q=>Heap.get?_push_of_some _ q) (Nat.le_refl _) ?_,rfl,q2 (fun w=>z (r2.nil_iff.mpr w)) _ (I.hok.fresh (Nat.le_refl _))⟩
 exact ⟨by rw [List.length_append];exact hz,_,r1.append r2,IsTup.new _ _⟩
end
end L2
namespace L2
open PySem PySem.Spec PyProof.Rows
def ixN (n:Nat) (i:Int):Option Nat:=if 0≤i then (if i<n then some i.toNat else none) else if -(n:Int)≤i then some (i+n).toNat else none
def atI {α:Type} (xs:List α) (i:Int):Option α:=(ixN xs.length i).bind fun j=>xs[j]?
theorem ixN_seq {n:Nat} {i:Int} {j:Nat} (h:ixN n i=some j):seqIndex? i n=some j∧j<n∧ -(n:Int)≤i∧i<n:=by
 unfold ixN at h
 by_cases h0:0≤i
 ·rw [if_pos h0] at h
  by_cases h1:i<n
  ·rw [if_pos h1] at h
   have e:i.toNat=j:=Option.some.inj h
   exact ⟨by rw [seqIndex_of h0 h1,e],by omega,by omega,h1⟩
  ·rw [if_neg h1] at h;cases h
 ·rw [if_neg h0] at h
  by_cases h1: -(n:Int)≤i
  ·rw [if_pos h1] at h
   have e:(i+n).toNat=j:=Option.some.inj h
   exact ⟨by rw [seqIndex_neg (by omega) h1,e],by omega,h1,by omega⟩
  ·rw [if_neg h1] at h;cases h
theorem atI_get {α:Type} {xs:List α} {i:Int} {v:α} (h:atI xs i=some v):∃ j,seqIndex? i xs.length=some j∧xs[j]?=some v∧j<xs.length∧ -(xs.length:Int)≤i∧i<xs.length:=by
 unfold atI at h
 cases e:ixN xs.length i with
 |none=>rw [e] at h;cases h
 |some j=>
  rw [e] at h
  obtain ⟨h1,h2,h3,h4⟩:=ixN_seq e
  exact ⟨j,h1,h,h2,h3,h4⟩
theorem atI_nat {α:Type} {xs:List α} {j:Nat} {v:α} (h:xs[j]?=some v):atI xs (j:Int)=some v:=by
 have hj:j<xs.length:=(List.getElem?_eq_some_iff.mp h).1
 have e:ixN xs.length (j:Int)=some j:=by
  unfold ixN
  rw [if_pos (by omega),if_pos (by omega)];simp
 unfold atI;rw [e];exact h
def PlainIx (b:Expr):Prop:=∀ o i,subscripted b false o i=operate [o,i] (getItem o i)
def IxR (X:Cx) (r:R2):Prop:=
 ∀ (value slice:Expr) (pins:List (Addr×Obj)) (s:Shared) (σ:St) (H:Hp) (x y:V) (v u:Value) (Q:VK),Inv X pins σ H s→RelV x v→RelV y u→r x y H Q→
  subscripted slice false v u=operate [v,u] (getItem v u)→wpAny (model X.prog X.w) X.A (subscriptTail value slice v u) (EP X pins σ Q) X.xe s
def MtR (X:Cx) (id:String) (r:V→List V→Hp→VK→Prop):Prop:=
 ∀ (pins:List (Addr×Obj)) (s:Shared) (σ:St) (H:Hp) (x:V) (xs:List V) (v:Value) (us:List Value) (Q:VK),Inv X pins σ H s→RelV x v→Vals xs us→r x xs H Q→
  wpAny (model X.prog X.w) X.A (call (.builtin id) (v::us)) (EP X pins σ Q) X.xe s
section
variable {X:Cx} {a b:Expr} {ta tb:TE} {pos:Pos}
theorem pe_ix {r:R2} (hr:IxR X r) (ha:PE X a ta) (hb:PE X b tb) (hs:PlainIx b):PE X (.Subscript a b pos) (tOp r ta tb):=by
 intro pins s σ H Q I h
 exact Subscript_ (binT ha hb I h fun v u s2 x y H2 I2 rx ry q=>hr a b pins s2 σ H2 x y v u Q I2 rx ry q (hs _ _))
def rIxL (K:PySem.W.Frag):R2:=fun x y H Q=>∃ p xs i v,x=.ref p∧y=.int i∧SqL K H p xs∧atI xs i=some v∧Q v H
def rIxT (K:PySem.W.Frag):R2:=fun x y H Q=>∃ p xs i v,x=.ref p∧y=.int i∧SqT K H p xs∧atI xs i=some v∧Q v H
theorem ix_list:IxR X (rIxL X.K):=by
 intro value slice pins s σ H x y v u Q I rx ry h hs
 obtain ⟨p,xs,i,z,rfl,rfl,hq,he,q⟩:=h
 cases rx
 obtain ⟨t,rfl⟩:=ry
 obtain ⟨its,r,pl,hz⟩:=I.list hq
 obtain ⟨j,h1,h2,h3,h4,h5⟩:=atI_get he
 obtain ⟨w,ew,rw'⟩:=r.get h2
 have hl:=r.length
 have hn:=line63
 have fin:EP X pins σ Q w s:=⟨z,H,I,rw',q⟩
 by_cases h0:0≤i
 ·have hj:i.toNat=j:=by
   rw [seqIndex_of h0 h5] at h1
   exact Option.some.inj h1
  exact item_listR pl.isList h0 (by omega) (by rw [hj];simpa using ew) fin hs
 ·have hj:(i+(its.toArray.size:Int)).toNat=j:=by
   rw [seqIndex_neg (by omega) h4] at h1
   rw [List.size_toArray,←hl]
   exact Option.some.inj h1
  exact subscriptTail_builtinR (x:=w) pl.isList.typeIs slot_list_getitem.lookup
   (wpAny_getItem_list_neg (Q:=fun r s'=>r=w∧EP X pins σ Q r s') pl.isList (by omega) (by rw [List.size_toArray]<;>omega) (by omega) (by rw [hj];simpa using ew) ⟨rfl,fin⟩) hs
theorem ix_tup:IxR X (rIxT X.K):=by
 intro value slice pins s σ H x y v u Q I rx ry h hs
 obtain ⟨p,xs,i,z,rfl,rfl,hq,he,q⟩:=h
 cases rx
 obtain ⟨t,rfl⟩:=ry
 obtain ⟨its,r,pl,hz⟩:=I.tuple hq
 obtain ⟨j,h1,h2,h3,h4,h5⟩:=atI_get he
 obtain ⟨w,ew,rw'⟩:=r.get h2
 have hl:=r.length
 have hn:=line63
 have fin:EP X pins σ Q w s:=⟨z,H,I,rw',q⟩
 exact subscriptTail_builtinR (x:=w) pl.typeIs slot_tuple_getitem.lookup
  (getItem_tuple (j:=j) (Q:=fun r s'=>r=w∧EP X pins σ Q r s') pl (by omega) (by omega) (by rw [List.size_toArray,←hl];exact h1) (by simpa using ew) ⟨rfl,fin⟩) hs
def flatV:V→Bool
 |.non=>true
 |.bl _=>true
 |.int _=>true
 |.str _=>true
 |_=>false
def eqV:V→V→Bool
 |.non,.non=>true
 |.bl a,.bl b=>a==b
 |.bl a,.int b=>(if a then 1 else 0)==b
 |.int a,.bl b=>a==(if b then 1 else 0)
 |.int a,.int b=>a==b
 |.str a,.str b=>a==b
 |_,_=>false
theorem eqAt_V {A:Around} {s:Shared} {y x:V} {u v:Value} (ry:RelV y u) (rx:RelV x v) (fy:flatV y=true) (fx:flatV x=true):SeqAt.EqAt A s u v (eqV y x):=by
 cases y with
 |non=>
  cases ry
  cases x with
  |non=>cases rx;exact SeqAt.EqAt.same _
  |bl b=>cases rx;exact SeqAt.EqAt.none_bool b
  |int b=>obtain ⟨t,rfl⟩:=rx;exact SeqAt.EqAt.none_int b t
  |str b=>obtain ⟨t,rfl⟩:=rx;exact SeqAt.EqAt.none_str b t
  |_=>exact absurd (show false=true from fx) Bool.false_ne_true
 |bl a=>
  cases ry
  cases x with
  |non=>cases rx;exact SeqAt.EqAt.bool_none a
  |bl b=>cases rx;exact SeqAt.EqAt.bool_bool a b
  |int b=>obtain ⟨t,rfl⟩:=rx;exact SeqAt.EqAt.bool_int a b t
  |str b=>obtain ⟨t,rfl⟩:=rx;exact SeqAt.EqAt.bool_str a b t
  |_=>exact absurd (show false=true from fx) Bool.false_ne_true
 |int a=>
  obtain ⟨t',rfl⟩:=ry
  cases x with
  |non=>cases rx;exact SeqAt.EqAt.int_none a t'
  |bl b=>cases rx;exact SeqAt.EqAt.int_bool a t' b
  |int b=>obtain ⟨t,rfl⟩:=rx;exact SeqAt.EqAt.int_int a t' b t
  |str b=>obtain ⟨t,rfl⟩:=rx;exact SeqAt.EqAt.int_str a t' b t
  |_=>exact absurd (show false=true from fx) Bool.false_ne_true
 |str a=>
  obtain ⟨t',rfl⟩:=ry
  cases x with
  |non=>cases rx;exact SeqAt.EqAt.str_none a t'
  |bl b=>cases rx;exact SeqAt.EqAt.str_bool a t' b
  |int b=>obtain ⟨t,rfl⟩:=rx;exact SeqAt.EqAt.str_int a t' b t
  |str b=>obtain ⟨t,rfl⟩:=rx;exact SeqAt.EqAt.str_str a t' b t
  |_=>exact absurd (show false=true from fx) Bool.false_ne_true
 |_=>exact absurd (show false=true from fy) Bool.false_ne_true
def eqU (x:V) (u:Value):Bool:=match u with
 |.none=>eqV .non x
 |.bool b=>eqV (.bl b) x
 |.int i _=>eqV (.int i) x
 |.str z _=>eqV (.str z) x
 |_=>false
theorem eqU_of {x y:V} {u:Value} (r:RelV y u) (f:flatV y=true):eqU x u=eqV y x:=by
 cases y with
 |non=>cases r;rfl
 |bl b=>cases r;rfl
 |int i=>obtain ⟨t,rfl⟩:=r;rfl
 |str z=>obtain ⟨t,rfl⟩:=r;rfl
 |_=>exact absurd (show false=true from f) Bool.false_ne_true
theorem any_eqU {x:V}:∀ {xs:List V} {us:List Value},Vals xs us→xs.all flatV=true→us.any (eqU x)=xs.any fun y=>eqV y x
 |_,_,.nil,_=>rfl
 |y::xs,u::us,.cons r t,f=>by
  rw [List.all_cons,Bool.and_eq_true] at f
  rw [List.any_cons,List.any_cons,eqU_of r f.1,any_eqU t f.2]
theorem mem_eqAt {A:Around} {s:Shared} {x:V} {v:Value} (rx:RelV x v) (fx:flatV x=true):∀ {xs:List V} {us:List Value},Vals xs us→xs.all flatV=true→∀ u∈us,SeqAt.EqAt A s u v (eqU x u)
 |_,_,.nil,_=>fun u hu=>by cases hu
 |y::xs,u::us,.cons r t,f=>fun u' hu=>by
  rw [List.all_cons,Bool.and_eq_true] at f
  rcases List.mem_cons.mp hu with rfl|hu
  ·rw [eqU_of r f.1];exact eqAt_V r rx f.1 fx
  ·exact mem_eqAt rx fx t f.2 u' hu
def inV (x:V) (xs:List V):Bool:=xs.any fun y=>eqV y x
def rIn (K:PySem.W.Frag) (neg:Bool):R2:=fun x y H Q=>∃ p xs,y=.ref p∧(SqL K H p xs∨SqT K H p xs)∧flatV x=true∧xs.all flatV=true∧Q (.bl (if neg then !inV x xs else inV x xs)) H
theorem op_notIn_seq:OpR X (compareOp .NotIn) (rIn X.K true):=by
 intro pins s σ H x y v u Q I rx ry h
 obtain ⟨p,xs,rfl,hq,fx,fs,q⟩:=h
 cases ry
 rcases hq with hq|hq
 ·obtain ⟨its,r,pl,hz⟩:=I.list hq
  refine SeqAt.notIn_listAt (eqU x) pl.isList (fun w hw=>mem_eqAt rx fx r fs w (by simpa using hw)) ⟨.bl _,H,I,rfl,?_⟩
  rw [show its.toArray.any (eqU x)=its.any (eqU x) by simp,any_eqU r fs]
  exact q
 ·obtain ⟨its,r,pl,hz⟩:=I.tuple hq
  refine SeqAt.notIn_tupleAt (eqU x) pl (fun w hw=>mem_eqAt rx fx r fs w (by simpa using hw)) ⟨.bl _,H,I,rfl,?_⟩
  rw [show its.toArray.any (eqU x)=its.any (eqU x) by simp,any_eqU r fs]
  exact q
theorem call_len_seq:CallR X (.builtin "len") (fun xs H Q=>∃ p ys,xs=[.ref p]∧(SqL X.K H p ys∨SqT X.K H p ys)∧Q (.int ys.length) H):=by
 intro pins s σ H xs us Q I r h
 obtain ⟨p,ys,rfl,hq,q⟩:=h
 obtain ⟨u,rfl,rx⟩:=vals1 r
 cases rx
 have hn:=line63
 rcases hq with hq|hq
 ·obtain ⟨its,r',pl,hz⟩:=I.list hq
  have hlen:=r'.length
  exact Calls.call_len_list pl.isList (by simp only [List.size_toArray]<;>omega) ⟨.int ys.length,H,I.tok _,⟨s.toks+1,by rw [List.size_toArray,hlen]⟩,q⟩
 ·obtain ⟨its,r',pl,hz⟩:=I.tuple hq
  have hlen:=r'.length
  exact len_tuple pl (by simp only [List.size_toArray]<;>omega) ⟨.int ys.length,H,I.tok _,⟨s.toks+1,by rw [List.size_toArray,hlen]⟩,q⟩
theorem call_tuple_of:CallR X (.type "tuple") (fun xs H Q=>∃ p ys,xs=[.ref p]∧((SqL X.K H p ys∧∀ l,H l=none→Q (.ref l) (upd H l (.tup ys)))∨(SqT X.K H p ys∧Q (.ref p) H))):=by
 intro pins s σ H xs us Q I r h
 obtain ⟨p,ys,rfl,h⟩:=h
 obtain ⟨u,rfl,rx⟩:=vals1 r
 cases rx
 rcases h with ⟨hq,q⟩|⟨hq,q⟩
 ·obtain ⟨its,r',pl,hz⟩:=I.list hq
  have hlen:=r'.length
  refine call_tuple_list pl.isList (fun h' kp=>?_) (by simp only [List.size_toArray]<;>omega)
  have I1:Inv X pins σ H {s with heap:=h'}:=I.kept (t':=s.toks) kp
  have I2:Inv X pins σ (upd H h'.objs.size (.tup ys)) {s with heap:=h'.push {cls:=.type "tuple",data:=.seq its.toArray}}:=
   I1.laid (t':=s.toks) (fun b o e=>Heap.get?_push_of_some _ e) (Nat.le_refl _) (show ObjOk X.prog X.w _ _ _ (.tup ys) from ⟨hz,its,r',IsTup.new _ _⟩)
  exact ⟨.ref h'.objs.size,_,I2,rfl,q _ (I1.hok.fresh (Nat.le_refl _))⟩
 ·obtain ⟨its,r',pl,hz⟩:=I.tuple hq
  exact call_tuple_same pl ⟨.ref p,H,I,rfl,q⟩
def tyV (K:PySem.W.Frag) (T:String) (x:V) (H:Hp):Prop:=match x with
 |.str _=>T="str"
 |.int _=>T="int"
 |.ref p=>(T="list"∧∃ xs,SqL K H p xs)∨(T="tuple"∧∃ o,K.lookup p=some o∧o.cls=.type "tuple"∧o.dict=none)∨
   (T="dict"∧((∃ kvs,H p=some (.dK kvs))∨∃ kvs,H p=some (.dT kvs)))∨(T="set"∧∃ S n,H p=some (.set S n))
 |_=>False
theorem tyV_is {pins:List (Addr×Obj)} {σ:St} {H:Hp} {s:Shared} {T:String} {x:V} {v:Value} (I:Inv X pins σ H s) (r:RelV x v) (ty:tyV X.K T x H):
  s.TypeIs v T∧∀ a,v=.ref a→∃ ob,s.heap.get? a=some ob∧ob.dict=none:=by
 cases x with
 |str z=>
  obtain ⟨t,rfl⟩:=r
  cases (show T="str" from ty)
  exact ⟨typeIs_str s z t,fun _ e=>nomatch e⟩
 |int i=>
  obtain ⟨t,rfl⟩:=r
  cases (show T="int" from ty)
  exact ⟨typeIs_int s i t,fun _ e=>nomatch e⟩
 |ref p=>
  cases r
  rcases ty with ⟨rfl,xs,hq⟩|⟨rfl,o,hk,hc,hd⟩|⟨rfl,hk⟩|⟨rfl,S,n,hk⟩
  ·obtain ⟨its,_,pl,_⟩:=I.list hq
   refine ⟨pl.isList.typeIs,fun a e=>?_⟩
   cases e
   obtain ⟨o,n,e,c,hd,_⟩:=pl
   exact ⟨o,e,hd⟩
  ·refine ⟨⟨o,I.kIn p o hk,hc⟩,fun a e=>?_⟩
   cases e
   exact ⟨o,I.kIn _ o hk,hd⟩
  ·have z:∃ o,s.heap.get? p=some o∧o.ExactDict:=by
    rcases hk with ⟨kvs,hk⟩|⟨kvs,hk⟩
    ·obtain ⟨_,_,_,_,o,_,_,e,ex,_⟩:=I.hok p _ hk
     exact ⟨o,e,ex⟩
    ·obtain ⟨_,_,_,_,o,_,_,e,ex,_⟩:=I.hok p _ hk
     exact ⟨o,e,ex⟩
   obtain ⟨o,e,ex⟩:=z
   refine ⟨⟨o,e,ex.1⟩,fun a e2=>?_⟩
   cases e2
   exact ⟨o,e,ex.2.1⟩
  ·obtain ⟨o,_,_,_,e,ex,_⟩:=I.hok p _ hk
   refine ⟨⟨o,e,ex.1⟩,fun a e2=>?_⟩
   cases e2
   exact ⟨o,e,ex.2.1⟩
 |_=>exact False.elim ty
def tBM0 (K:PySem.W.Frag) (T:String) (r:V→List V→Hp→VK→Prop) (to:TE):TE:=fun σ H Q=>to σ H fun x H1=>tyV K T x H1∧r x [] H1 Q
def tBM (K:PySem.W.Frag) (T:String) (r:V→List V→Hp→VK→Prop) (to:TE) (t:TA):TE:=fun σ H Q=>to σ H fun x H1=>tyV K T x H1∧t σ H1 fun xs H2=>r x xs H2 Q
variable {o e:Expr} {es:List Expr} {to:TE} {t:TA} {name:Str} {apos cpos:Pos} {T id:String} {r:V→List V→Hp→VK→Prop}
theorem pe_bm0 (pa:PlainAttrs T) (slot:Slot T name id) (hty:typeOf (.builtin id)=pure (.type "method_descriptor")) (hm:MtR X id r) (ho:PE X o to)
  (hbase:attributeBase o name X.env (eval o X.env)=eval o X.env:=by rfl) (hline:(apos.endLine==cpos.line)=true:=by rfl):PE X (.Call (.Attribute o name apos) [] [] cpos) (tBM0 X.K T r to):=by
 intro pins s σ H Q I h
 refine wpAny_Call_method0_late hbase hline (thn (ho pins s σ H _ I h) fun v s1 ⟨x,H1,I1,r1,ty,q1⟩=>?_)
 obtain ⟨h1,h2⟩:=tyV_is I1 r1 ty
 exact ⟨T,id,pa,slot,hty,h1,h2,Calls.callWith_builtin rfl (PySem.evalArgs_none (hm pins s1 σ H1 x [] v [] Q I1 r1 .nil q1))⟩
theorem pe_bm (pa:PlainAttrs T) (slot:Slot T name id) (hty:typeOf (.builtin id)=pure (.type "method_descriptor")) (hm:MtR X id r) (ho:PE X o to) (ha:PA X (e::es) t)
  (hbase:attributeBase o name X.env (eval o X.env)=eval o X.env:=by rfl)
  (hfew:((backTo cpos (starEach (e::es) X.env)).all (fun x=> !x.1) && (backToKw cpos (keywordEach [] X.env)).all (fun x=>x.1.isSome)
   && decide ((e::es).length+([]:List Keyword).length+(if ([]:List Keyword).isEmpty then 0 else 1)<30))=true:=by rfl)
  (hline:(apos.endLine==cpos.line)=true:=by rfl) (hs:starEach (e::es) X.env=(false,eval e X.env)::starEach es X.env:=by rfl) (hplain:(backTo cpos (starEach es X.env)).any (·.1)=false:=by rfl):
  PE X (.Call (.Attribute o name apos) (e::es) [] cpos) (tBM X.K T r to t):=by
 intro pins s σ H Q I h
 refine wpAny_Call_method_late hbase hfew hline rfl (thn (ho pins s σ H _ I h) fun v s1 ⟨x,H1,I1,r1,ty,q1⟩=>?_)
 obtain ⟨h1,h2⟩:=tyV_is I1 r1 ty
 refine ⟨T,id,pa,slot,hty,h1,h2,?_⟩
 have hA:=ha cpos pins s1 σ H1 _ I1 q1
 rw [hs] at hA ⊢
 refine Calls.callWith_builtin (by show (false||(backTo cpos (starEach es X.env)).any (·.1))=false;rw [hplain]<;>rfl) (Calls.evalArgs_plain ?_)
 exact thn hA fun us s2 ⟨vs,H2,I2,r2,q2⟩=>hm pins s2 σ H2 x vs v us Q I2 r1 r2 q2
end
end L2
namespace L2
open PySem PySem.Spec PyProof.Rows
def MtM (X:Cx) (id:String) (r:V→List V→Hp→VK→Prop):Prop:=
 ∀ (pins:List (Addr×Obj)) (s:Shared) (σ:St) (H:Hp) (x:V) (xs:List V) (v:Value) (us:List Value) (Q:VK),Inv X pins σ H s→RelV x v→Vals xs us→r x xs H Q→
  wpAny (model X.prog X.w) X.A (call (.builtin id) (v::us)) (EP X pins σ Q) X.xe s
theorem Vals.one:∀ {x:V} {us:List Value},Vals [x] us→∃ u,us=[u]∧RelV x u
 |_,_,.cons r .nil=>⟨_,rfl,r⟩
theorem Vals.zero:∀ {us:List Value},Vals [] us→us=[]
 |_,.nil=>rfl
theorem Vals.dropLast {xs:List V} {us:List Value} (h:Vals xs us):Vals xs.dropLast us.dropLast:=by
 induction h with
 |nil=>exact .nil
 |cons r t ih=>
  cases t with
  |nil=>exact .nil
  |cons q t'=>exact .cons r ih
theorem erase_last {α:Type} (l:List α):l.eraseIdx (l.length - 1)=l.dropLast:=by
 induction l with
 |nil=>rfl
 |cons a r ih=>
  cases r with
  |nil=>rfl
  |cons b r=>
   have e:(a::b::r).length - 1=((b::r).length - 1)+1:=by
    have h1:(a::b::r).length=r.length+2:=rfl
    have h2:(b::r).length=r.length+1:=rfl
    omega
   rw [e,List.eraseIdx_cons_succ,ih]
   all_goals rfl
section
variable {X:Cx} {pins:List (Addr×Obj)} {σ:St} {H:Hp} {s:Shared} {l b:Addr} {xs ys zs:List V}
theorem Inv.lset {its its':List Value} {n:Nat} {f:Array Value→Array Value} {t':Nat} (I:Inv X pins σ H s) (hH:H l=some (.lst xs))
  (e:s.heap.get? l=some {cls:=.type "list",data:=.seq its.toArray n}) (hf:f its.toArray=its'.toArray) (hv:Vals ys its') (hz:ys.length≤sizeLine):
  Inv X pins σ (upd H l (.lst ys)) {s with heap:=s.heap.update l (Obj.mapSeq f),toks:=t'}:=by
 have q:=PySem.IsL.update e f
 rw [hf] at q
 refine I.write (x:=l) (e:=l) (by rw [hH];exact trivial) (.inl rfl) (fun b' u hb hu=>(Heap.get?_update_other s.heap (Obj.mapSeq f) (Ne.symm hb)).trans hu) ⟨_,q⟩ ?_
 exact ⟨hz,its',_,hv,q⟩
theorem Inv.lnew {its:List Value} {t':Nat} (I:Inv X pins σ H s) (hv:Vals ys its) (hz:ys.length≤sizeLine):
  Inv X pins σ (upd H s.heap.objs.size (.lst ys)) {s with heap:=s.heap.push {cls:=.type "list",data:=.seq its.toArray},toks:=t'}:=
 I.laid (fun _ _ q=>Heap.get?_push_of_some _ q) (Nat.le_refl _) ⟨hz,its,0,hv,Heap.get?_push_size _ rfl⟩
theorem Inv.fresh (I:Inv X pins σ H s):H s.heap.objs.size=none:=I.hok.fresh (Nat.le_refl _)
theorem Inv.lstM (I:Inv X pins σ H s) (hH:H l=some (.lst xs)):xs.length≤sizeLine∧∃ (its:List Value) (n:Nat),Vals xs its∧xs.length=its.length∧s.heap.get? l=some {cls:=.type "list",data:=.seq its.toArray n}:=by
 obtain ⟨z,its,n,r,e⟩:=I.hok l _ hH
 exact ⟨z,its,n,r,r.length,e⟩
end
section
variable {X:Cx}
def rAppend:V→List V→Hp→VK→Prop:=fun x vs H Q=>∃ l xs y,x=.ref l∧vs=[y]∧H l=some (.lst xs)∧xs.length<sizeLine∧Q .non (upd H l (.lst (xs++[y])))
theorem mt_append:MtM X "list.append" rAppend:=by
 intro pins s σ H x vs v us Q I rx rv h
 obtain ⟨l,xs,y,rfl,rfl,hH,hz,q⟩:=h
 cases rx
 obtain ⟨u,rfl,ru⟩:=rv.one
 obtain ⟨z,its,n,r,hl,e⟩:=I.lstM hH
 refine call_meets F.slot_list_append ⟨_,e,rfl⟩ F.entry_list_append (F.args_list_append_2 _ _) (PySem.list_append l its.toArray n u (by rw [List.size_toArray];omega)) ⟨e,?_⟩
 refine ⟨.non,_,I.lset (its':=its++[u]) hH e (by simp) (r.append (.cons ru .nil)) ?_,rfl,q⟩
 rw [List.length_append,List.length_singleton]
 omega
def rPop:V→List V→Hp→VK→Prop:=fun x vs H Q=>∃ l xs y,x=.ref l∧vs=[]∧H l=some (.lst xs)∧xs[xs.length - 1]?=some y∧Q y (upd H l (.lst xs.dropLast))
theorem mt_pop:MtM X "list.pop" rPop:=by
 intro pins s σ H x vs v us Q I rx rv h
 obtain ⟨l,xs,y,rfl,rfl,hH,hy,q⟩:=h
 cases rx
 have hus:=rv.zero
 subst hus
 obtain ⟨z,its,n,r,hl,e⟩:=I.lstM hH
 obtain ⟨u,hu,ru⟩:=r.get hy
 have hy':its.toArray[its.toArray.size - 1]?=some u:=by
  show its.toArray[its.length - 1]?=some u
  rw [←Array.getElem?_toList,←hl]
  exact hu
 refine call_meets F.slot_list_pop ⟨_,e,rfl⟩ F.entry_list_pop (F.args_list_pop_1 _) (MeetsSeq.list_pop_last l its.toArray n u hy' (by rw [List.size_toArray];omega)) ⟨e,?_⟩
 refine ⟨y,_,I.lset (its':=its.dropLast) hH e ?_ r.dropLast ?_,ru,q⟩
 ·show its.toArray.eraseIdxIfInBounds (its.toArray.size - 1)=its.dropLast.toArray
  rw [List.size_toArray,List.eraseIdxIfInBounds_toArray,erase_last]
 ·rw [List.length_dropLast]
  omega
def rCat:R2:=fun x y H Q=>∃ l b xs zs,x=.ref l∧y=.ref b∧H l=some (.lst xs)∧H b=some (.lst zs)∧xs.length+zs.length≤sizeLine∧∀ p,H p=none→Q (.ref p) (upd H p (.lst (xs++zs)))
theorem op_cat:OpR X (binaryOp .Add) rCat:=by
 intro pins s σ H x y v u Q I rx ry h
 obtain ⟨l,b,xs,zs,rfl,rfl,hH,hB,hz,q⟩:=h
 cases rx
 cases ry
 obtain ⟨z,its,n,r,hl,e⟩:=I.lstM hH
 obtain ⟨z2,its2,n2,r2,hl2,e2⟩:=I.lstM hB
 refine PySem.P.add_list e e2 ?_ (by rw [List.size_toArray,List.size_toArray];omega)
 have ea:its.toArray++its2.toArray=(its++its2).toArray:=by simp
 rw [ea]
 exact ⟨.ref _,_,I.lnew (t':=s.toks) (r.append r2) (by rw [List.length_append];omega),rfl,q _ I.fresh⟩
end
section
variable {prog:Program} {w:World} {A:Around} {E:Value→Shared→Prop} {s:Shared}
end
section
variable {X:Cx}
end
end L2
namespace L2
open PySem PySem.Spec PyProof.Rows
theorem Vals.ints:∀ {ns:List Int} {us:List Value},Vals (ns.map V.int) us→IntsAre us ns
 |[],us,h=>by
  rw [List.map_nil] at h
  cases h
  exact IntsAre.nil
 |n::ns,us,h=>by
  rw [List.map_cons] at h
  cases h with
  |cons r t=>
   obtain ⟨k,rfl⟩:=r
   exact IntsAre.cons n k (Vals.ints t)
theorem Vals.bls:∀ {bs:List Bool} {us:List Value},Vals (bs.map V.bl) us→us=bs.map Value.bool
 |[],us,h=>by
  rw [List.map_nil] at h
  cases h
  rfl
 |b::bs,us,h=>by
  rw [List.map_cons] at h
  cases h with
  |cons r t=>
   cases r
   rw [Vals.bls t,List.map_cons]
theorem Vals.ref1 {a:Addr} {us:List Value} (r:Vals [V.ref a] us):us=[Value.ref a]:=by
 cases r with
 |cons r t=>
  cases t
  cases r
  rfl
section
variable {prog:Program} {w:World} {A:Around} {E:Value→Shared→Prop} {s:Shared} {l:Addr} {its:List Value} {ns:List Int} {Q:Value→Shared→Prop}
theorem min_raw (hh:A.handled=none) (hl:s.heap.IsList l its.toArray) (hi:IntsAre its ns) (hne:0<ns.length)
  (h:∀ h' tk M t',(∀ b o,s.heap.get? b=some o→h'.get? b=some o)→M∈ns→(∀ a,a∈ns→M≤a)→Q (.int M t') {s with heap:=h',toks:=tk}):wpAny (model prog w) A (call (.builtin "min") [.ref l]) Q E s:=by
 obtain ⟨xs,e⟩:=hi.allInts.items
 have hn:numsOf (intItems xs).toList=ns:=by rw [←e];exact hi.numsOf
 rw [nums_intItems] at hn
 subst hn
 rw [e] at hl
 have hsz:0<xs.size:=by simpa using hne
 refine PySem.min_intList hh hl hsz fun v h' tk hv hk=>?_
 obtain ⟨t,rfl⟩:=intItems_at hv
 obtain ⟨h1,h2⟩:=argBest_lt (numAt xs) (xs.size - 1)
 refine h h' tk _ t hk ?_ fun a ha=>?_
 ·rw [numAt_eq];exact PySem.getD_mem (by rw [List.length_map,Array.length_toList];omega)
 ·obtain ⟨j,hj,rfl⟩:=mem_getD ha
  rw [List.length_map,Array.length_toList] at hj
  rw [←numAt_eq];exact h2 j (by omega)
end
section
variable {X:Cx}
def rMin (K:PySem.W.Frag):List V→Hp→VK→Prop:=fun vs H Q=>∃ (a:Addr) (ns:List Int),vs=[V.ref a]∧SqL K H a (ns.map V.int)∧0<ns.length∧∀ m,m∈ns→(∀ y,y∈ns→m≤y)→Q (.int m) H
theorem cr_min (hc:X.calm=true):CallR X (.builtin "min") (rMin X.K):=by
 intro pins s σ H vs us Q I r h
 obtain ⟨a,ns,rfl,hs,hne,q⟩:=h
 obtain ⟨its,rv,hl,_⟩:=I.list hs
 rw [Vals.ref1 r]
 exact min_raw (I.ok.hd hc) hl.isList rv.ints hne fun h' tk m t' hk h1 h2=>⟨.int _,H,I.kept hk,⟨_,rfl⟩,q m h1 h2⟩
end
section
variable {X:Cx}
end
section
variable {X:Cx}
end
theorem iter_any {prog:Program} {w:World} {A:Around} {E:Value→Shared→Prop} {s:Shared} {l:Addr} {items:Array Value} {Q:Value→Shared→Prop} (hl:s.heap.IsList l items)
  (h:∀ s₂:Shared,s₂={s with heap:=s.heap.push {cls:=.type "list_iterator",data:=.fields #[.ref l,.int 0 0]}}→
   (s₂.heap.IsListIter s.heap.objs.size l 0∧s₂.heap.IsList l items)→l≠s.heap.objs.size→Q (.ref s.heap.objs.size) s₂):wpAny (model prog w) A (pyIter (.ref l)) Q E s:=by
 have hlt:l<s.heap.objs.size:=by obtain ⟨_,e,_⟩:=hl;exact Heap.lt_size e
 exact wpAny_pyIter_list hl (h _ rfl ⟨⟨_,Heap.get?_push_size _ rfl,rfl,rfl⟩,hl.push _⟩ (Nat.ne_of_lt hlt))
theorem truth_bools {prog:Program} {w:World} {A:Around} {bs:List Bool} {its:List Value} (e:its=bs.map Value.bool):
  TruthOf prog w A (fun i v=>its.toArray[i]?=some v) (fun i=>bs.getD i false):=fun i v s Q E hv hq=>by
 have hv':its[i]?=some v:=by simpa using hv
 rw [e,List.getElem?_map] at hv'
 obtain ⟨b,hb,rfl⟩:=Option.map_eq_some_iff.mp hv'
 have hg:bs.getD i false=b:=by rw [List.getD_eq_getElem?_getD,hb]<;>rfl
 have hq':Q (bs.getD i false) s:=hq
 rw [hg] at hq'
 exact wpAny_truthy_bool hq'
theorem any_range:∀ bs:List Bool,(List.range bs.length).any (fun i=>bs.getD i false)=bs.any id
 |[]=>rfl
 |b::bs=>by
  rw [List.length_cons,List.range_succ_eq_map,List.any_cons,List.any_map,List.any_cons,←any_range bs]
  all_goals rfl
theorem all_range:∀ bs:List Bool,(List.range bs.length).all (fun i=>bs.getD i false)=bs.all id
 |[]=>rfl
 |b::bs=>by
  rw [List.length_cons,List.range_succ_eq_map,List.all_cons,List.all_map,List.all_cons,←all_range bs]
  all_goals rfl
section
variable {X:Cx}
def rAny (K:PySem.W.Frag):List V→Hp→VK→Prop:=fun vs H Q=>∃ (a:Addr) (bs:List Bool),vs=[V.ref a]∧SqL K H a (bs.map V.bl)∧Q (.bl (bs.any id)) H
def rAll (K:PySem.W.Frag):List V→Hp→VK→Prop:=fun vs H Q=>∃ (a:Addr) (bs:List Bool),vs=[V.ref a]∧SqL K H a (bs.map V.bl)∧Q (.bl (bs.all id)) H
theorem cr_any (hc:X.calm=true):CallR X (.builtin "any") (rAny X.K):=by
 intro pins s σ H vs us Q I r h
 obtain ⟨a,bs,rfl,hs,q⟩:=h
 obtain ⟨its,rv,hl,_⟩:=I.list hs
 rw [Vals.ref1 r]
 have hb:=rv.bls
 refine call_any_walk (iter_any hl.isList fun s₂ e2 st hne=>?_)
 subst e2
 refine ⟨_,_,_,_,_,_,_,rfl,Walks.list (A:=X.A.in1) (I.ok.hd hc) _ a hne its.toArray,st,truth_bools hb,fun h' tk hk=>?_⟩
 refine ⟨.bl _,H,I.kept fun b o eo=>hk b o (fun hmem=>?_) (Heap.get?_push_of_some _ eo),?_,q⟩
 ·rcases List.mem_cons.mp hmem with e1|hmem
  ·exact absurd (e1▸Heap.lt_size eo) (Nat.lt_irrefl _)
  ·cases hmem
 ·show Value.bool _=Value.bool _
  rw [←any_range,hb,List.size_toArray,List.length_map]
theorem cr_all (hc:X.calm=true):CallR X (.builtin "all") (rAll X.K):=by
 intro pins s σ H vs us Q I r h
 obtain ⟨a,bs,rfl,hs,q⟩:=h
 obtain ⟨its,rv,hl,_⟩:=I.list hs
 rw [Vals.ref1 r]
 have hb:=rv.bls
 refine call_all_walk (iter_any hl.isList fun s₂ e2 st hne=>?_)
 subst e2
 refine ⟨_,_,_,_,_,_,_,rfl,Walks.list (A:=X.A.in1) (I.ok.hd hc) _ a hne its.toArray,st,truth_bools hb,fun h' tk hk=>?_⟩
 refine ⟨.bl _,H,I.kept fun b o eo=>hk b o (fun hmem=>?_) (Heap.get?_push_of_some _ eo),?_,q⟩
 ·rcases List.mem_cons.mp hmem with e1|hmem
  ·exact absurd (e1▸Heap.lt_size eo) (Nat.lt_irrefl _)
  ·cases hmem
 ·show Value.bool _=Value.bool _
  rw [←all_range,hb,List.size_toArray,List.length_map]
end
mutual
inductive Dp (K:PySem.W.Frag) (H:Hp):V→PyData→Prop
 |non:Dp K H .non .none
 |bl (b:Bool):Dp K H (.bl b) (.bool b)
 |int (i:Int):Dp K H (.int i) (.int i)
 |str (x:Str):Dp K H (.str x) (.str x)
 |lst {a:Addr} {xs:List V} {ds:List PyData}:SqL K H a xs→DpAll K H xs ds→Dp K H (.ref a) (.list ds)
 |tup {a:Addr} {xs:List V} {ds:List PyData}:SqT K H a xs→DpAll K H xs ds→Dp K H (.ref a) (.tuple ds)
inductive DpAll (K:PySem.W.Frag) (H:Hp):List V→List PyData→Prop
 |nil:DpAll K H [] []
 |cons {v:V} {vs:List V} {d:PyData} {ds:List PyData}:Dp K H v d→DpAll K H vs ds→DpAll K H (v::vs) (d::ds)
end
section
variable {X:Cx} {pins:List (Addr×Obj)} {σ:St} {H:Hp} {s:Shared}
mutual
theorem Dp.reads (I:Inv X pins σ H s):∀ (d:PyData) (v:V) (u:Value),Dp X.K H v d→RelV v u→∃ as,Reads s.heap u d as
 |.none,_,_,h,r=>by
  cases h
  cases r
  exact ⟨_,Reads.none⟩
 |.bool b,_,_,h,r=>by
  cases h
  cases r
  exact ⟨_,Reads.bool b⟩
 |.int i,_,_,h,r=>by
  cases h
  obtain ⟨t,rfl⟩:=r
  exact ⟨_,Reads.int i t⟩
 |.str x,_,_,h,r=>by
  cases h
  obtain ⟨t,rfl⟩:=r
  exact ⟨_,Reads.str x t⟩
 |.list ds,_,_,h,r=>by
  cases h with
  |lst hs ha=>
   cases r
   obtain ⟨its,rv,⟨o,n,ho,hc,_,hd⟩,_⟩:=I.list hs
   obtain ⟨as,hr⟩:=Dp.readsAll I ds _ its ha rv
   exact ⟨_,Reads.list ho hc hd hr⟩
 |.tuple ds,_,_,h,r=>by
  cases h with
  |tup hs ha=>
   cases r
   obtain ⟨its,rv,⟨o,ho,hc,n,hd⟩,_⟩:=I.tuple hs
   obtain ⟨as,hr⟩:=Dp.readsAll I ds _ its ha rv
   exact ⟨_,Reads.tuple ho hc hd hr⟩
 |.dict _,_,_,h,_=>by cases h
theorem Dp.readsAll (I:Inv X pins σ H s):∀ (ds:List PyData) (vs:List V) (us:List Value),DpAll X.K H vs ds→Vals vs us→∃ as,ReadsAll s.heap us ds as
 |[],_,_,h,r=>by
  cases h
  cases r
  exact ⟨_,ReadsAll.nil⟩
 |d::ds,_,_,h,r=>by
  cases h with
  |cons h1 h2=>
   cases r with
   |cons r1 r2=>
    obtain ⟨as,q1⟩:=Dp.reads I d _ _ h1 r1
    obtain ⟨bs,q2⟩:=Dp.readsAll I ds _ _ h2 r2
    exact ⟨_,ReadsAll.cons q1 q2⟩
end
end
section
variable {X:Cx}
end
end L2
namespace L2
open PySem PySem.Spec PyProof.Rows
abbrev CellAt (h:Heap) (c:Addr) (v:Option Value):Prop:=h.IsCell c v
def relS (scope sc:Scope):Scope:=
 {scope with names:=scope.names.map fun (n,k)=>if (k==.free && sc.kind==.function && sc.names.lookup n==some .cell) then (n,.cell) else (n,k)}
def cloFrom (cells:List (Str×Addr)):List (Str×NameKind)→List (Str×Addr)→List (Str×Addr)
 |[],acc=>acc
 |(n,k)::r,acc=>if k==.free then cloFrom cells r ((n,(cells.lookup n).getD 0)::acc) else cloFrom cells r acc
theorem closure_loop (env:Env) (f:Str×NameKind→List (Str×Addr)→Sem (ForInStep (List (Str×Addr))))
  (hf:∀ n k c,f (n,k) c=if k==.free then (do let a ←cellOf env n;pure (.yield ((n,a)::c))) else pure (.yield c)):
  ∀ (names:List (Str×NameKind)) (acc:List (Str×Addr)),(∀ y∈names,y.2=.free→∃ c,env.cells.lookup y.1=some c)→forIn names acc f=pure (cloFrom env.cells names acc)
 |[],acc,_=>by rw [List.forIn_nil];rfl
 |(n,k)::r,acc,h=>by
  rw [List.forIn_cons,hf]
  have ih:=fun acc=>closure_loop env f hf r acc fun y hy=>h y (List.mem_cons_of_mem _ hy)
  unfold cloFrom
  by_cases hk:(k==NameKind.free)=true
  ·rw [if_pos hk,if_pos hk]
   obtain ⟨c,hc⟩:=h (n,k) List.mem_cons_self (by simpa using hk)
   have e:cellOf env n=pure c:=by unfold cellOf;rw [hc]
   rw [e]
   have e2:(env.cells.lookup n).getD 0=c:=by rw [hc];rfl
   rw [e2]
   exact ih _
  ·rw [if_neg hk,if_neg hk]
   exact ih _
theorem closure_ok {scope:Scope} {env:Env} (h:∀ y∈scope.names,y.2=.free→∃ c,env.cells.lookup y.1=some c):closureFor scope env=pure (cloFrom env.cells scope.names []):=by
 simp only [closureFor]
 rw [closure_loop env _ (fun n k c=>rfl) scope.names [] h]
 rfl
theorem mem_lookup {α:Type}:∀ {l:List (Str×α)} {n:Str} {c:α},(n,c)∈l→∃ c',l.lookup n=some c'
 |(k,v)::r,n,c,h=>by
  rw [List.lookup_cons]
  cases hb:n==k with
  |true=>exact ⟨_,rfl⟩
  |false=>
   rcases List.mem_cons.mp h with e|h
   ·cases e;simp at hb
   ·exact mem_lookup h
theorem cloFrom_mem {cells:List (Str×Addr)}:∀ {names:List (Str×NameKind)} {acc:List (Str×Addr)} {n:Str} {c:Addr},(n,c)∈cloFrom cells names acc→(n,c)∈acc∨((n,.free)∈names∧c=(cells.lookup n).getD 0)
 |[],_,_,_,h=>.inl h
 |(m,k)::r,acc,n,c,h=>by
  unfold cloFrom at h
  split at h
  ·rename_i hk
   have hk:k=.free:=by simpa using hk
   rcases cloFrom_mem h with h|⟨h1,h2⟩
   ·rcases List.mem_cons.mp h with e|h
    ·cases e;exact .inr ⟨hk▸List.mem_cons_self,rfl⟩
    ·exact .inl h
   ·exact .inr ⟨List.mem_cons_of_mem _ h1,h2⟩
  ·rcases cloFrom_mem h with h|⟨h1,h2⟩
   ·exact .inl h
   ·exact .inr ⟨List.mem_cons_of_mem _ h1,h2⟩
theorem cloFrom_acc {cells:List (Str×Addr)}:∀ {names:List (Str×NameKind)} {acc:List (Str×Addr)} {p:Str×Addr},p∈acc→p∈cloFrom cells names acc
 |[],_,_,h=>h
 |(m,k)::r,acc,p,h=>by
  unfold cloFrom
  split
  ·exact cloFrom_acc (List.mem_cons_of_mem _ h)
  ·exact cloFrom_acc h
theorem cloFrom_has {cells:List (Str×Addr)}:∀ {names:List (Str×NameKind)} {acc:List (Str×Addr)} {n:Str},(n,.free)∈names→(n,(cells.lookup n).getD 0)∈cloFrom cells names acc
 |(m,k)::r,acc,n,h=>by
  unfold cloFrom
  rcases List.mem_cons.mp h with e|h
  ·cases e
   exact cloFrom_acc List.mem_cons_self
  ·split
   ·exact cloFrom_has h
   ·exact cloFrom_has h
theorem cells_mem:∀ {names:List (Str×NameKind)} {h:Heap} {acc:List (Str×Addr)} {x:Str} {c:Addr},(x,c)∈cellsFrom h.objs.size names acc→
  (x,c)∈acc∨((x,.cell)∈names∧h.objs.size≤c∧CellAt (pushCells h names) c none)
 |[],_,_,_,_,h=>.inl h
 |(n,k)::r,h,acc,x,c,hm=>by
  unfold cellsFrom at hm
  unfold pushCells
  split at hm
  ·rename_i hk
   rw [if_pos hk]
   have hk:k=.cell:=by simpa using hk
   rw [←Heap.size_push h {cls:=.type "cell",data:=.cell none}] at hm
   rcases cells_mem hm with hm|⟨h1,h2,h3⟩
   ·rcases List.mem_cons.mp hm with e|hm
    ·cases e
     exact .inr ⟨hk▸List.mem_cons_self,Nat.le_refl _,_,pushCells_keeps r _ _ _ (Heap.get?_push_size _ rfl),rfl⟩
    ·exact .inl hm
   ·rw [Heap.size_push] at h2
    exact .inr ⟨List.mem_cons_of_mem _ h1,Nat.le_of_succ_le h2,h3⟩
  ·rename_i hk
   rw [if_neg hk]
   rcases cells_mem hm with hm|⟨h1,h2,h3⟩
   ·exact .inl hm
   ·exact .inr ⟨List.mem_cons_of_mem _ h1,h2,h3⟩
theorem cells_acc:∀ {names:List (Str×NameKind)} {n:Nat} {acc:List (Str×Addr)} {p:Str×Addr},p∈acc→p∈cellsFrom n names acc
 |[],_,_,_,h=>h
 |(m,k)::r,n,acc,p,h=>by
  unfold cellsFrom
  split
  ·exact cells_acc (List.mem_cons_of_mem _ h)
  ·exact cells_acc h
theorem cells_has:∀ {names:List (Str×NameKind)} {n:Nat} {acc:List (Str×Addr)} {x:Str},(x,.cell)∈names→∃ c,(x,c)∈cellsFrom n names acc
 |(m,k)::r,n,acc,x,h=>by
  unfold cellsFrom
  rcases List.mem_cons.mp h with e|h
  ·cases e
   exact ⟨n,cells_acc List.mem_cons_self⟩
  ·split
   ·exact cells_has h
   ·exact cells_has h
theorem cells_inj:∀ {names:List (Str×NameKind)} {h:Heap} {acc:List (Str×Addr)} {x y:Str} {c:Addr},(∀ p∈acc,p.2<h.objs.size)→(∀ x y c,(x,c)∈acc→(y,c)∈acc→x=y)→
  (x,c)∈cellsFrom h.objs.size names acc→(y,c)∈cellsFrom h.objs.size names acc→x=y
 |[],_,_,_,_,_,_,hi,h1,h2=>hi _ _ _ h1 h2
 |(n,k)::r,h,acc,x,y,c,hl,hi,h1,h2=>by
  unfold cellsFrom at h1 h2
  split at h1
  ·rename_i hk
   rw [if_pos hk] at h2
   rw [←Heap.size_push h {cls:=.type "cell",data:=.cell none}] at h1 h2
   refine cells_inj (h:=h.push _) (fun p hp=>?_) (fun x y c a b=>?_) h1 h2
   ·rw [Heap.size_push]
    rcases List.mem_cons.mp hp with rfl|hp
    ·exact Nat.lt_succ_self _
    ·exact Nat.lt_succ_of_lt (hl p hp)
   ·rcases List.mem_cons.mp a with e|a<;>rcases List.mem_cons.mp b with e'|b
    ·cases e;cases e';rfl
    ·cases e;exact absurd (hl _ b) (Nat.lt_irrefl _)
    ·cases e';exact absurd (hl _ a) (Nat.lt_irrefl _)
    ·exact hi _ _ _ a b
  ·rename_i hk
   rw [if_neg hk] at h2
   exact cells_inj hl hi h1 h2
theorem newEnv_comp {M:Model} {A:Around} {E:Value→Shared→Prop} {s:Shared} {scope:Scope} {globals:Addr} {closure:List (Str×Addr)} {qual:Str} {func:Option Addr} {code:Value} {around:Env} {builtins:Addr} {Q:Env→Shared→Prop}
  (h:Q (newEnv scope s.heap.objs.size globals (cellsFrom (s.heap.objs.size+1) scope.names closure) qual func code (some around) builtins)
   {s with heap:=pushCells (s.heap.push {cls:=.type "dict",data:=.dict #[]}) scope.names}):
  wpAny M A (newFunctionEnv scope globals closure [] qual func code (some around) builtins) Q E s:=by
 simp only [newFunctionEnv,Option.isSome_some,if_true]
 refine wpAny_bind (wpAny_alloc ?_)
 refine wpAny_bind (wpAny_layCells _ (fun n k c=>rfl) scope.names closure _ _ ?_)
 rw [show ({s with heap:=s.heap.push {cls:=.type "dict",data:=.dict #[]}}:Shared).heap.objs.size=s.heap.objs.size+1 from Heap.size_push ..]
 rw [List.forIn_nil]
 exact wpAny_bind (wpAny_pure (wpAny_pure h))
theorem lookup_relS {sc:Scope}:∀ {names:List (Str×NameKind)} {x:Str} {k:NameKind},
  (names.map fun (n,k)=>if (k==NameKind.free && sc.kind==.function && sc.names.lookup n==some .cell) then (n,NameKind.cell) else (n,k)).lookup x=some k→
  ∃ k',names.lookup x=some k'∧(k=k'∨(k'=.free∧k=.cell))
 |[],_,_,h=>by simp at h
 |(n,k₀)::r,x,k,h=>by
  have ih:= @lookup_relS sc r x k
  have h':List.lookup x ((if (k₀==NameKind.free && sc.kind==.function && sc.names.lookup n==some .cell)=true then (n,NameKind.cell) else (n,k₀))::(r.map _))=some k:=h
  cases hx:x==n with
  |true=>
   simp only [List.lookup_cons,hx]
   by_cases hc:(k₀==NameKind.free && sc.kind==.function && sc.names.lookup n==some .cell)=true
   ·rw [if_pos hc] at h'
    simp only [List.lookup_cons,hx] at h'
    cases h'
    simp only [Bool.and_eq_true,beq_iff_eq] at hc
    exact ⟨k₀,rfl,.inr ⟨hc.1.1,rfl⟩⟩
   ·rw [if_neg hc] at h'
    simp only [List.lookup_cons,hx] at h'
    cases h'
    exact ⟨_,rfl,.inl rfl⟩
  |false=>
   simp only [List.lookup_cons,hx]
   by_cases hc:(k₀==NameKind.free && sc.kind==.function && sc.names.lookup n==some .cell)=true
   ·rw [if_pos hc] at h'
    simp only [List.lookup_cons,hx] at h'
    exact ih h'
   ·rw [if_neg hc] at h'
    simp only [List.lookup_cons,hx] at h'
    exact ih h'
structure BlkOk (N:List Str) (sc scope:Scope) (own:List (Str×Nat)):Prop where
 kind:scope.kind=.function
 uniq:∀ y∈scope.names,scope.names.lookup y.1=some y.2
 ix:∀ p∈own,N[p.2]?=some p.1
 free:∀ y∈scope.names,y.2=.free→sc.names.lookup y.1=some .cell∨sc.names.lookup y.1=some .free
 own:∀ y∈scope.names,y.2=.local∨y.2=.cell→y.1∈own.map (·.1)∨y.1∉N
def wipe (σ:St):List Nat→St
 |[]=>σ
 |v::vs=>(wipe σ vs).set v none
theorem wipe_length (σ:St):∀ vs:List Nat,(wipe σ vs).length=σ.length
 |[]=>rfl
 |v::vs=>by unfold wipe;rw [List.length_set,wipe_length σ vs]
theorem wipe_some {σ:St} {i:Nat} {x:V}:∀ {vs:List Nat},(wipe σ vs)[i]?=some (some x)→σ[i]?=some (some x)∧i∉vs
 |[],h=>⟨h,by simp⟩
 |v::vs,h=>by
  unfold wipe at h
  by_cases hi:v=i
  ·subst hi
   by_cases hv:v<(wipe σ vs).length
   ·rw [List.getElem?_set_self hv] at h;cases h
   ·rw [List.getElem?_eq_none (by simpa using hv)] at h;cases h
  ·rw [List.getElem?_set_ne hi] at h
   obtain ⟨h1,h2⟩:=wipe_some h
   exact ⟨h1,by simp only [List.mem_cons,not_or];exact ⟨fun e=>hi e.symm,h2⟩⟩
abbrev Cx.blk (X:Cx) (s:Shared) (H:Hp) (scope:Scope) (cenv:Env) (fp:List Addr):Cx:={X with s_0:=s,H_0:=H,env:=cenv,outer:=X.stack,ex:=fp,fn:=fun x=>scope.names.lookup x==some .cell,pn:=[],xe:=fun _ _=>False}
section
variable {X:Cx} {pins:List (Addr×Obj)} {σ:St} {H:Hp} {s:Shared}
theorem block_start {scope:Scope} {own:List (Str×Nat)} {fp:List Addr} (I:Inv X pins σ H s) (ok:BlkOk X.N X.env.scope scope own) (hN:X.N.Nodup) (hfp:∀ b∈fp,FpOk X pins H b∧b<s.heap.objs.size):
  Inv (X.blk s H scope (compEnvC scope (cellsFrom (s.heap.objs.size+1) scope.names (cloFrom X.env.cells scope.names [])) s.heap.objs.size X.env) fp) [] (wipe σ (own.map (·.2))) H {s with heap:=pushCells (s.heap.push {cls:=.type "dict",data:=.dict #[]}) scope.names}:=by
 have hfree:∀ y∈scope.names,y.2=.free→∃ c,X.env.cells.lookup y.1=some c:=fun y hy e=>by
  rcases ok.free y hy e with k|k
  ·exact I.ok.has _ (.inl k)
  ·exact I.ok.has _ (.inr k)
 generalize hcenv:compEnvC scope (cellsFrom (s.heap.objs.size+1) scope.names (cloFrom X.env.cells scope.names [])) s.heap.objs.size X.env=cenv
 have kp:∀ b o,s.heap.get? b=some o→(pushCells (s.heap.push {cls:=.type "dict",data:=.dict #[]}) scope.names).get? b=some o:=fun b o e=>pushCells_keeps _ _ _ _ (Heap.get?_push_of_some _ e)
 have hL:cenv.locals=s.heap.objs.size:=by rw [←hcenv];rfl
 have hcl:cenv.cells=cellsFrom (s.heap.objs.size+1) scope.names (cloFrom X.env.cells scope.names []):=by rw [←hcenv];rfl
 have hsc:cenv.scope=relS scope X.env.scope:=by rw [←hcenv];rfl
 rw [←Heap.size_push s.heap {cls:=.type "dict",data:=.dict #[]}] at hcl
 have cm:∀ {y c},(y,c)∈cloFrom X.env.cells scope.names []→X.env.cells.lookup y=some c∧c<s.heap.objs.size:=fun {y c} hm=>by
  rcases cloFrom_mem hm with hm|⟨h1,rfl⟩
  ·cases hm
  ·obtain ⟨c,hc⟩:=hfree _ h1 rfl
   rw [hc]
   obtain ⟨w,z⟩:=I.cell _ _ hc
   exact ⟨rfl,z.lt⟩
 have mem:∀ {y c},cenv.cells.lookup y=some c→(X.env.cells.lookup y=some c∧c<s.heap.objs.size)∨(s.heap.objs.size+1≤c∧CellAt (pushCells (s.heap.push {cls:=.type "dict",data:=.dict #[]}) scope.names) c none):=fun {y c} e=>by
  rw [hcl] at e
  rcases cells_mem (PySem.mem_of_lookup e) with hm|⟨_,h2,h3⟩
  ·exact .inl (cm hm)
  ·rw [Heap.size_push] at h2;exact .inr ⟨h2,h3⟩
 have look:∀ {y},scope.names.lookup y=some .free→∃ c,cenv.cells.lookup y=some c∧X.env.cells.lookup y=some c:=fun {y} hl=>by
  have hy:(y,NameKind.free)∈scope.names:=PySem.mem_of_lookup hl
  obtain ⟨c',e'⟩:=mem_lookup (cells_acc (names:=scope.names) (n:=(s.heap.push {cls:=.type "dict",data:=.dict #[]}).objs.size) (cloFrom_has (cells:=X.env.cells) (acc:=[]) hy))
  rw [←hcl] at e'
  refine ⟨c',e',?_⟩
  rw [hcl] at e'
  rcases cells_mem (PySem.mem_of_lookup e') with hm|⟨h1,_,_⟩
  ·exact (cm hm).1
  ·have:=ok.uniq _ h1
   rw [hl] at this;cases this
 have okB:(X.blk s H scope cenv fp).Ok:=by
  refine ⟨I.ok.mod,by show cenv.scope.kind=_;rw [hsc];exact ok.kind,by show cenv.globals=_;rw [←hcenv];exact I.ok.glob,by show cenv.builtins=_;rw [←hcenv];exact I.ok.blt,by show s.heap.objs.size≤cenv.locals;rw [hL];exact Nat.le_refl _,
   fun y z c e1 e2=>?_,fun y hy=>?_,fun y c z e=>?_,I.ok.hd,I.ok.frames,.inl rfl,fun b hb=>⟨?_,fun y c e z=>?_⟩,I.bs,Nat.le_trans I.ok.bsz I.sz,fun b o e hb=>?_,fun b hb z=>?_,I.stack,I.stkFree⟩
  ·have e1:cenv.cells.lookup y=some c:=e1
   have e2:cenv.cells.lookup z=some c:=e2
   rw [hcl] at e1 e2
   refine cells_inj (fun p hp=>?_) (fun y z c a b=>I.ok.inj y z c (cm a).1 (cm b).1) (PySem.mem_of_lookup e1) (PySem.mem_of_lookup e2)
   rw [Heap.size_push]
   exact Nat.lt_succ_of_lt (cm (y:=p.1) (c:=p.2) hp).2
  ·show ∃ c,cenv.cells.lookup y=some c
   have key:∀ k,cenv.kindOf y=some k→(k=.cell∨k=.free)→∃ c,cenv.cells.lookup y=some c:=fun k hk hk'=>by
    unfold Env.kindOf at hk
    rw [hsc] at hk
    obtain ⟨k',e,r⟩:=lookup_relS hk
    have:k'=.cell∨k'=.free:=by
     rcases r with rfl|⟨rfl,_⟩
     ·exact hk'
     ·exact .inr rfl
    rcases this with rfl|rfl
    ·obtain ⟨c,hm⟩:=cells_has (n:=(s.heap.push {cls:=.type "dict",data:=.dict #[]}).objs.size) (acc:=cloFrom X.env.cells scope.names []) (PySem.mem_of_lookup e)
     obtain ⟨c',e'⟩:=mem_lookup hm
     exact ⟨c',by rw [hcl];exact e'⟩
    ·obtain ⟨c,h1,_⟩:=look e
     exact ⟨c,h1⟩
   rcases hy with hy|hy
   ·exact key _ hy (.inl rfl)
   ·exact key _ hy (.inr rfl)
  ·have z:(scope.names.lookup y==some NameKind.cell)=true:=z
   have z:scope.names.lookup y=some .cell:=by simpa using z
   have e:cenv.cells.lookup y=some c:=e
   rw [hcl] at e
   rcases cells_mem (PySem.mem_of_lookup e) with hm|⟨_,h2,_⟩
   ·rcases cloFrom_mem hm with hm|⟨h1,_⟩
    ·cases hm
    ·have q:=ok.uniq _ h1
     rw [z] at q;cases q
   ·rw [Heap.size_push] at h2
    exact Nat.le_of_succ_le h2
  ·show b≠cenv.locals
   rw [hL];exact Nat.ne_of_lt (hfp b hb).2
  ·have e:cenv.cells.lookup y=some c:=e
   rcases mem e with ⟨h1,_⟩|⟨h1,_⟩
   ·exact (hfp b hb).1.2.2.2.2.1 y c h1 z
   ·have h2:s.heap.objs.size+1≤b:=by rw [←z];exact h1
    exact absurd (Nat.lt_of_lt_of_le (hfp b hb).2 (Nat.le_of_succ_le h2)) (Nat.lt_irrefl _)
  ·rcases (hfp b hb).1.2.2.2.1 with z|z
   ·exact I.ok.noex b o e z
   ·exact absurd (Nat.lt_of_lt_of_le (Heap.lt_size e) (Nat.le_trans I.ok.bsz z)) (Nat.lt_irrefl _)
  ·rcases List.mem_cons.mp (I.stkSub b z) with z|z
   ·exact (hfp b hb).1.2.1 z
   ·exact (hfp b hb).1.2.2.1 z
 refine ⟨okB,rfl,I.bare,Un.kept kp,⟨fun _=>none,?_,fun i y av e1 e2 e3=>?_⟩,fun y c e=>?_,?_,fun y c e=>?_,fun p hp=>?_,I.hok.kept kp,by rw [wipe_length];exact I.len⟩
 ·show Heap.Ns _ cenv.locals _
  rw [hL]
  exact Heap.Ns.keeps (Heap.Ns.new ..) fun b o e=>pushCells_keeps _ _ _ _ e
 ·obtain ⟨e2,hne⟩:=wipe_some e2
  have hfr:scope.names.lookup y=some .free∧(cenv.kindOf y=some .cell∨cenv.kindOf y=some .free):=by
   have key:∀ k,cenv.scope.names.lookup y=some k→k=.local∨k=.cell∨k=.free→scope.names.lookup y=some .free∧(cenv.kindOf y=some .cell∨cenv.kindOf y=some .free):=fun k hk hk'=>by
    have hk0:=hk
    rw [hsc] at hk
    obtain ⟨k',e,r⟩:=lookup_relS hk
    have no:¬(k'=.local∨k'=.cell):=fun hh=>by
     rcases ok.own _ (PySem.mem_of_lookup e) hh with e'|e'
     ·obtain ⟨p,hp,hpy⟩:=List.mem_map.mp e'
      have e3:=ok.ix p hp
      have:p.1=y:=hpy
      rw [this] at e3
      exact hne (List.mem_map.mpr ⟨p,hp,nodup_ix hN e3 e1⟩)
     ·exact e' (List.mem_of_getElem? e1)
    rcases r with rfl|⟨rfl,rfl⟩
    ·rcases hk' with rfl|rfl|rfl
     ·exact absurd (.inl rfl) no
     ·exact absurd (.inr rfl) no
     ·exact ⟨e,.inr hk0⟩
    ·exact ⟨e,.inl hk0⟩
   have e3:Vis cenv.scope y:=e3
   rcases e3 with e3|e3|e3
   ·exact key _ e3 (.inl rfl)
   ·exact key _ e3 (.inr (.inl rfl))
   ·exact key _ e3 (.inr (.inr rfl))
  obtain ⟨m,hn,hl⟩:=I.loc
  have hvis:Vis X.env.scope y:=(ok.free _ (PySem.mem_of_lookup hfr.1) rfl).elim (fun k=>.inr (.inl k)) (fun k=>.inr (.inr k))
  obtain ⟨w,r,q⟩:=hl i y av e1 e2 hvis
  refine ⟨w,r,.inr ⟨hfr.2,?_⟩⟩
  obtain ⟨c,h1,h2⟩:=look hfr.1
  rcases q with ⟨k,_⟩|⟨_,c',e',z⟩
  ·have k:X.env.scope.names.lookup y=some .local:=k
   rcases ok.free _ (PySem.mem_of_lookup hfr.1) rfl with k'|k'<;>rw [show X.env.scope.names.lookup y=_ from k'] at k<;>cases k
  ·rw [h2] at e';cases e'
   exact ⟨c,h1,z.keeps kp⟩
 ·have e:cenv.cells.lookup y=some c:=e
  rcases mem e with ⟨h1,_⟩|⟨_,z⟩
  ·obtain ⟨w,z⟩:=I.cell y c h1
   exact ⟨w,z.keeps kp⟩
  ·exact ⟨_,z⟩
 ·show H cenv.locals=none
  rw [hL];exact I.hok.fresh (Nat.le_refl _)
 ·have e:cenv.cells.lookup y=some c:=e
  rcases mem e with ⟨h1,_⟩|⟨h1,_⟩
  ·exact I.freeC y c h1
  ·exact I.hok.fresh (Nat.le_of_succ_le h1)
 ·exact absurd (show p∈([]:List (Addr×Obj))++[] from hp) (by simp)
theorem app_ok {E:Value→Shared→Prop} {D:Addr} {xs:List V} {y:V} {v:Value} {Q:Value→Shared→Prop} (I:Inv X pins σ H s) (hD:H D=some (.lst xs)) (hz:xs.length<sizeLine) (r:RelV y v)
  (h:∀ s',Inv X pins σ (upd H D (.lst (xs++[y]))) s'→Q .none s'):wpAny (model X.prog X.w) X.A (call (.builtin "list.append") [.ref D,v]) Q E s:=by
 obtain ⟨hz',its,n,ri,e⟩:=I.hok D _ hD
 have hl:=ri.length
 refine append_at (hsz:=by rw [List.size_toArray];omega) e fun h' sb ho'=>?_
 refine h {s with heap:=h'} (I.write (t':=s.toks) (by rw [hD];trivial) (.inl rfl) (fun b u hb q=>(sb.2 b hb).trans q) ⟨_,ho'⟩ ⟨by rw [List.length_append];exact hz,its++[v],n+1,ri.append (.cons r .nil),?_⟩)
 rw [ho']
 simp
def PTs (X:Cx) (ifs:List Expr) (t:TT):Prop:=
 ∀ (pins:List (Addr×Obj)) (s:Shared) (σ:St) (H:Hp) (Q:Bool→Hp→Prop),Inv X pins σ H s→t σ H Q→
  wpAny (model X.prog X.w) X.A (forIn ifs true fun c r=>if r=true then do let ok ←isTrue c X.env (eval c X.env);pure (ForInStep.yield ok) else pure (ForInStep.yield r)) (TP X pins σ Q) X.xe s
def tYes:TT:=fun _ H Q=>Q true H
theorem pts_nil:PTs X [] tYes:=fun _ _ _ H _ I h=>wpAny_tests_nil ⟨H,I,h⟩
theorem pts_one {c:Expr} {t:TT} (h:PT X c t):PTs X [c] t:=fun pins s σ H Q I hw=>wpAny_tests_one (h pins s σ H Q I hw)
end
theorem thnF {α:Type} {t:Sem α} {Q Q':α→Shared→Prop} {M:Model} {A:Around} {E:Value→Shared→Prop} {s:Shared} (h:wpAny M A t Q (fun _ _=>False) s) (hQ:∀ a s,Q a s→Q' a s):wpAny M A t Q' E s:=wpAny_mono h hQ fun _ _ z=>False.elim z
theorem compLoop_any {prog:Program} {w:World} {A:Around} {R:Result→Shared→Prop} {s:Shared} {elt target iter:Expr} {ifs:List Expr} {scope:Scope} {pos:Pos} {it acc:Value} {env:Env} (I:Nat→Shared→Prop)
  (turn:∀ n s,I n s→wpAny (model prog w) A (pyNext it) (fun r s₁=>match r with
   |none=>R (.ok .next) s₁
   |some v=>wpAny (model prog w) A (letOwnedTupleGo target it v) (fun _ s₁'=>wpAny (model prog w) A (assign target env v) (fun _ s₂=>
     wpAny (model prog w) A (forIn ifs true fun c r=>if r=true then do let ok ←isTrue c env (eval c env);pure (ForInStep.yield ok) else pure (ForInStep.yield r)) (fun ok s₃=>
      if ok=true then wpAny (model prog w) A (eval elt env) (fun x s₄=>
       wpAny (model prog w) A (call (.builtin "list.append") [acc,x]) (fun _ s₅=>∃ m,m<n∧I m s₅) (notedBy (model prog w) A env fun e s'=>R (.error e) s') s₄) (notedBy (model prog w) A env fun e s'=>R (.error e) s') s₃
      else ∃ m,m<n∧I m s₃) (notedBy (model prog w) A env fun e s'=>R (.error e) s') s₂) (notedBy (model prog w) A env fun e s'=>R (.error e) s') s₁') (notedBy (model prog w) A env fun e s'=>R (.error e) s') s₁) (notedBy (model prog w) A env fun e s'=>R (.error e) s') s)
  (n:Nat) (h:I n s):
  codeAny (model prog w) A (.compLoop (.ListComp elt [⟨target,iter,ifs,0⟩] scope pos) 0 it acc env) R s:=by
 refine codeAny_loop rfl I (fun n s hI=>?_) n h
 show wpAny _ A ((compTurn (.ListComp elt [⟨target,iter,ifs,0⟩] scope pos) 0 it acc env).onRaise (fun x=>do noteFrame x env;theTreesLotGoes x)) _ _ s
 refine wpAny_noted ?_
 rw [compTurn_list]
 refine wpAny_bind (wpAny_standAt (wpAny_bind (wpAny_mono (turn n s hI) (fun r s₁ h₁=>?_) fun _ _ h'=>h')))
 cases r with
 |none=>exact wpAny_pure h₁
 |some v=>
  refine wpAny_bind (wpAny_mono h₁ (fun _ s₁' h₁'=>?_) fun _ _ h'=>h')
  refine wpAny_bind (wpAny_mono h₁' (fun _ s₂ h₂=>wpAny_bind (wpAny_mono h₂ (fun ok s₃ h₃=>?_) fun _ _ h'=>h')) fun _ _ h'=>h')
  cases ok with
  |false=>exact wpAny_pure ⟨rfl,h₃⟩
  |true=>
   exact wpAny_bind (wpAny_bind (wpAny_mono h₃ (fun x s₄ h₄=>wpAny_bind (wpAny_mono h₄ (fun _ s₅ h₅=>wpAny_pure (wpAny_pure ⟨rfl,h₅⟩)) fun _ _ h'=>h')) fun _ _ h'=>h'))
section
variable {X:Cx}
def tLc (wi:TI) (g:TG) (tt:TT) (te:TE) (vs:List Nat):TE:=fun σ H Q=>wi σ H fun J H1=>∀ D,H1 D=none→∃ W:Nat→Nat→Hp→Prop,(∃ m,W 0 m (upd H1 D (.lst [])))∧∀ i m H,W i m H→
 (J.stop i H∧Q (.ref D) H)∨(J.go i H∧∃ Nx:Hp→Prop,(∀ H',Nx H'→∃ m',m'<m∧W (i+1) m' H')∧∀ x H',J.yld i H x H'→g x (wipe σ vs) H' fun σ2 H2=>wipe σ2 vs=wipe σ vs∧tt σ2 H2 fun b H3=>
  if b=true then te σ2 H3 fun y H4=>∃ acc,H4 D=some (.lst acc)∧acc.length<sizeLine∧Nx (upd H4 D (.lst (acc++[y]))) else Nx H3)
theorem lc_core {pins:List (Addr×Obj)} {s:Shared} {σ:St} {H:Hp} {Q:VK} {elt tg iter:Expr} {ifs:List Expr} {scope:Scope} {own:List (Str×Nat)} {pos pos':Pos} {wi:TI} {g:TG} {tt:TT} {te:TE} {use:Option (Value→Sem Unit)} {Qf:Value→Shared→Prop}
  (hc:X.calm=true) (hN:X.N.Nodup) (I:Inv X pins σ H s) (hi:PI X tg iter wi) (ok:BlkOk X.N X.env.scope scope own)
  (hg:∀ (s:Shared) (H:Hp) (C:Addr) (cl:List (Str×Addr)) (fp:List Addr),PG (X.blk s H scope (compEnvC scope cl C X.env) fp) tg g) (ht:∀ (s:Shared) (H:Hp) (C:Addr) (cl:List (Str×Addr)) (fp:List Addr),PTs (X.blk s H scope (compEnvC scope cl C X.env) fp) ifs tt)
  (he:∀ (s:Shared) (H:Hp) (C:Addr) (cl:List (Str×Addr)) (fp:List Addr),PE (X.blk s H scope (compEnvC scope cl C X.env) fp) elt te) (hs:∀ x,foldedSetIterable iter X.env x=pure x)
  (h:tLc wi g tt te (own.map (·.2)) σ H Q)
  (hRR:∀ D C s' m H',Inv X pins σ H' s'→Q (.ref D) H'→s'.heap.Ns C m→FpOk X pins H' C→compPost (model X.prog X.w) X.A X.xe use Qf (.ref D) C (.ok .next) s'):
  wpAny (model X.prog X.w) X.A (comprehension (.ListComp elt [⟨tg,iter,ifs,0⟩] scope pos) scope X.env pos' (newList []) false (eval iter X.env) use) Qf X.xe s:=by
 have hfree:∀ y∈scope.names,y.2=.free→∃ c,X.env.cells.lookup y.1=some c:=fun y hy e=>by
  rcases ok.free y hy e with k|k
  ·exact I.ok.has _ (.inl k)
  ·exact I.ok.has _ (.inr k)
 refine wpAny_comprehension_free (use:=use) rfl hs (closure_ok hfree) ok.kind (fun y hy e=>by rw [ok.uniq y hy,e])
  (thn (hi pins s σ H _ I h) fun xv s1 hx=>thn hx fun itv s2 h2=>?_)
 obtain ⟨it,fp,tn,J,H2,e,I2,T,st2,f2,q⟩:=h2
 subst e
 refine wpAny_newObj_type (newEnv_comp ?_) (by show 0≤sizeLine;decide)
 generalize hD:s2.heap.objs.size=D
 have hDn:H2 D=none:=I2.hok.fresh (Nat.le_of_eq hD)
 obtain ⟨W,⟨m0,w0⟩,turn⟩:=q D hDn
 generalize hs3:({s2 with heap:=s2.heap.push {cls:=.type "list",data:=.seq ([]:List Value).toArray}}:Shared)=s3
 have I3:Inv X pins σ (upd H2 D (.lst [])) s3:=by
  rw [←hs3]
  refine I2.laid (t':=s2.toks) (fun b o e=>Heap.get?_push_of_some _ e) (Nat.le_of_eq hD) ⟨Nat.zero_le _,[],0,.nil,?_⟩
  rw [←hD]
  exact Heap.get?_push_size _ rfl
 have h3:s3.heap=s2.heap.push {cls:=.type "list",data:=.seq ([]:List Value).toArray}:=by rw [←hs3]
 have sz:∀ b∈fp,b<s2.heap.objs.size:=fun b hb=>by
  obtain ⟨o,e,_⟩:=T.obj _ _ st2 b hb
  exact Heap.lt_size e
 have f3:∀ b∈fp,FpOk X pins (upd H2 D (.lst [])) b∧b<s3.heap.objs.size:=fun b hb=>by
  have hlt:=sz b hb
  refine ⟨⟨?_,(f2 b hb).2⟩,by rw [h3,Heap.size_push];exact Nat.lt_succ_of_lt hlt⟩
  rw [upd_ne (by rw [←hD];exact Nat.ne_of_lt hlt)]
  exact (f2 b hb).1
 have st3:tn 0 s3.heap:=T.keep _ _ _ st2 fun b _ o e=>by rw [h3];exact Heap.get?_push_of_some _ e
 have I4:=block_start I3 ok hN f3
 have pg:=hg s3 (upd H2 D (.lst [])) s3.heap.objs.size (cellsFrom (s3.heap.objs.size+1) scope.names (cloFrom X.env.cells scope.names [])) fp
 have pt:=ht s3 (upd H2 D (.lst [])) s3.heap.objs.size (cellsFrom (s3.heap.objs.size+1) scope.names (cloFrom X.env.cells scope.names [])) fp
 have pe:=he s3 (upd H2 D (.lst [])) s3.heap.objs.size (cellsFrom (s3.heap.objs.size+1) scope.names (cloFrom X.env.cells scope.names [])) fp
 show codeAny _ _ (.compStart (.ListComp elt [⟨tg,iter,ifs,0⟩] scope pos) 0 (.ref it) (.ref D) (compEnvC scope (cellsFrom (s3.heap.objs.size+1) scope.names (cloFrom X.env.cells scope.names [])) s3.heap.objs.size X.env)) (compPost (model X.prog X.w) X.A X.xe use Qf (.ref D) s3.heap.objs.size) {s3 with heap:=pushCells (s3.heap.push {cls:=.type "dict",data:=.dict #[]}) scope.names}
 have nfp:∀ b∈fp,(upd H2 D (.lst [])) b=none:=fun b hb=>(f3 b hb).1.1
 generalize hce:compEnvC scope (cellsFrom (s3.heap.objs.size+1) scope.names (cloFrom X.env.cells scope.names [])) s3.heap.objs.size X.env=ce at I4 pg pt pe ⊢
 have cL:ce.locals=s3.heap.objs.size:=by subst hce;rfl
 generalize hH3:upd H2 D (.lst [])=H3 at I3 I4 pg pt pe w0 nfp f3
 generalize hs4:({s3 with heap:=pushCells (s3.heap.push {cls:=.type "dict",data:=.dict #[]}) scope.names}:Shared)=s4 at I4 ⊢
 have st4:tn 0 s4.heap:=T.keep _ _ _ st3 fun b _ o e=>by rw [←hs4];exact pushCells_keeps _ _ _ _ (Heap.get?_push_of_some _ e)
 have stat:∀ {σ':St} {H':Hp} {s':Shared},Inv (X.blk s3 H3 scope ce fp) [] σ' H' s'→(∀ b∈fp,H' b=none)→∀ b∈fp,FpOk (X.blk s3 H3 scope ce fp) [] H' b:=fun {σ' H' s'} I' hn b hb=>
  ⟨hn b hb,(I'.ok.exf b hb).1,I'.ok.exfs b hb,.inl hb,fun x c e=>(I'.ok.exf b hb).2 x c e,fun p hp=>absurd (show p∈([]:List (Addr×Obj))++[] from hp) (by simp)⟩
 have loop:codeAny (model X.prog X.w) X.A (.compLoop (.ListComp elt [⟨tg,iter,ifs,0⟩] scope pos) 0 (.ref it) (.ref D) ce) (compPost (model X.prog X.w) X.A X.xe use Qf (.ref D) s3.heap.objs.size) s4:=by
  refine compLoop_any (fun n s'=>∃ i H',Inv (X.blk s3 H3 scope ce fp) [] (wipe σ (own.map (·.2))) H' s'∧tn i s'.heap∧(∀ b∈fp,H' b=none)∧W i n H') ?_ m0 ⟨0,H3,I4,st4,nfp,w0⟩
  rintro n s5 ⟨i,H5,I5,st5,n5,w5⟩
  rcases turn i n H5 w5 with ⟨stop,qq⟩|⟨go,Nx,hNx,step⟩
  ·have td:=T.done (X.blk s3 H3 scope ce fp) rfl rfl rfl hc i [] s5 _ H5 (fun _ _=>False) I5 (stat I5 n5) st5 stop
   refine thnF td fun r s6 ⟨hr,I6⟩=>?_
   subst hr
   have I7:Inv X pins σ H5 s6:=I3.call' (ch:=fp) I6.os I6.base I6.hok I6.bare fun b hb=>⟨(f3 b hb).1.2.2.2.1,(f3 b hb).1.2.1,(f3 b hb).1.2.2.2.2.1,(f3 b hb).1.2.2.2.2.2⟩
   have nC:H5 s3.heap.objs.size=none:=by
    have z:H5 ce.locals=none:=I6.free
    rw [cL] at z
    exact z
   obtain ⟨m,hn,_⟩:=I6.loc
   have hn:s6.heap.Ns ce.locals m:=hn
   rw [cL] at hn
   exact hRR D s3.heap.objs.size s6 m H5 I7 qq hn (I3.fpOk (Nat.le_refl _) nC)
  ·have ti:=T.item (X.blk s3 H3 scope ce fp) rfl rfl rfl hc i [] s5 _ H5 (fun _ _=>False) I5 (stat I5 n5) st5 go
   refine thnF ti fun r s6 ⟨u,hr,h6⟩=>?_
   subst hr
   refine thnF h6 fun _ s7 ⟨x,H7,I7,r7,y7,st7,n7⟩=>?_
   have I7':=I7.pinned (stat I7 n7) (T.obj _ _ st7)
   refine thnF (pg _ s7 _ H7 x u _ I7' r7 (step x H7 y7)) fun _ s8 ⟨σ8,H8,I8,hw8,q8⟩=>?_
   refine thnF (pt _ s8 σ8 H8 _ I8 q8) fun b s9 ⟨H9,I9,q9⟩=>?_
   have fin:∀ {s':Shared} {H':Hp},Inv (X.blk s3 H3 scope ce fp) ([]++pinsAt fp s7.heap) σ8 H' s'→Nx H'→∃ m,m<n∧∃ i H',Inv (X.blk s3 H3 scope ce fp) [] (wipe σ (own.map (·.2))) H' s'∧tn i s'.heap∧(∀ b∈fp,H' b=none)∧W i m H':=fun {s' H'} I' nx=>by
    obtain ⟨m',hm,w'⟩:=hNx H' nx
    have pin':∀ b∈fp,∀ o,s7.heap.get? b=some o→s'.heap.get? b=some o∧H' b=none:=fun b hb o e=>
     let z:=I'.pin (b,o) (List.mem_append_right _ (List.mem_append_right _ (mem_pinsAt hb e)))
     ⟨z.1,z.2.1⟩
    have hl:(wipe σ (own.map (·.2))).length=σ8.length:=by rw [←hw8,wipe_length]
    refine ⟨m',hm,i+1,H',(I'.unpinned (pins:=[])).weak hl (fun j v e=>?_),T.keep _ _ _ st7 fun b hb o e=>(pin' b hb o e).1,fun b hb=>?_,w'⟩
    ·rw [←hw8] at e
     exact (wipe_some e).1
    ·obtain ⟨o,e,_⟩:=T.obj _ _ st7 b hb
     exact (pin' b hb o e).2
   cases b with
   |false=>
    simp only [Bool.false_eq_true,if_false] at q9 ⊢
    exact fin I9 q9
   |true=>
    simp only [if_true] at q9 ⊢
    refine thnF (pe _ s9 σ8 H9 _ I9 q9) fun z s10 ⟨yv,H10,I10,r10,acc,hD10,hz10,nx⟩=>?_
    exact app_ok (X:=X.blk s3 H3 scope ce fp) I10 hD10 hz10 r10 fun s11 I11=>fin I11 nx
 exact codeAny_compStart_list loop (T.self X.A 0 _ _ _ st4 loop)
theorem pe_lc {elt tg iter:Expr} {ifs:List Expr} {scope:Scope} {own:List (Str×Nat)} {pos:Pos} {wi:TI} {g:TG} {tt:TT} {te:TE} (hc:X.calm=true) (hN:X.N.Nodup) (hi:PI X tg iter wi) (ok:BlkOk X.N X.env.scope scope own)
  (hg:∀ (s:Shared) (H:Hp) (C:Addr) (cl:List (Str×Addr)) (fp:List Addr),PG (X.blk s H scope (compEnvC scope cl C X.env) fp) tg g) (ht:∀ (s:Shared) (H:Hp) (C:Addr) (cl:List (Str×Addr)) (fp:List Addr),PTs (X.blk s H scope (compEnvC scope cl C X.env) fp) ifs tt)
  (he:∀ (s:Shared) (H:Hp) (C:Addr) (cl:List (Str×Addr)) (fp:List Addr),PE (X.blk s H scope (compEnvC scope cl C X.env) fp) elt te) (hs:∀ x,foldedSetIterable iter X.env x=pure x:=by intro _;rfl):
  PE X (.ListComp elt [⟨tg,iter,ifs,0⟩] scope pos) (tLc wi g tt te (own.map (·.2))):=by
 intro pins s σ H Q I h
 rw [eval_ListComp]
 refine lc_core hc hN I hi ok hg ht he hs h fun D C s' m H' I' q hn f=>⟨m,hn,fun h'' sb=>?_⟩
 obtain ⟨f0,f1,f2,f3,f4,f5⟩:=f
 exact ⟨.ref D,H',I'.turned (t':=s'.toks) (fun b o hb e=>(sb.2 b hb).trans e) f0 f1 f3 f4 f5,rfl,q⟩
theorem ps_setLc {i:Nat} {y:Str} {py:Pos} {elt tg iter:Expr} {ifs:List Expr} {scope:Scope} {own:List (Str×Nat)} {pos spos:Pos} {wi:TI} {g:TG} {tt:TT} {te:TE} (hc:X.calm=true) (hN:X.N.Nodup) (hy:X.N[i]?=some y) (hyl:X.env.scope.names.lookup y=some .local)
  (hsw:swapsWith (.ListComp elt [⟨tg,iter,ifs,0⟩] scope pos) (some (.Name y py)) spos.line X.env=pure true) (hi:PI X tg iter wi) (ok:BlkOk X.N X.env.scope scope own)
  (hg:∀ (s:Shared) (H:Hp) (C:Addr) (cl:List (Str×Addr)) (fp:List Addr),PG (X.blk s H scope (compEnvC scope cl C X.env) fp) tg g) (ht:∀ (s:Shared) (H:Hp) (C:Addr) (cl:List (Str×Addr)) (fp:List Addr),PTs (X.blk s H scope (compEnvC scope cl C X.env) fp) ifs tt)
  (he:∀ (s:Shared) (H:Hp) (C:Addr) (cl:List (Str×Addr)) (fp:List Addr),PE (X.blk s H scope (compEnvC scope cl C X.env) fp) elt te) (hs:∀ x,foldedSetIterable iter X.env x=pure x:=by intro _;rfl):
  PS X (.Assign [.Name y py] (.ListComp elt [⟨tg,iter,ifs,0⟩] scope pos) spos) (tAsg (tLc wi g tt te (own.map (·.2))) (gName i)):=by
 intro pins s σ H D I h
 rw [exec_Assign_Name_used _ _ _ _ hsw]
 refine wpAny_bind (wpAny_standAt (wpAny_bind ?_))
 show wpAny _ X.A (do let _ ←comprehension (.ListComp elt [⟨tg,iter,ifs,0⟩] scope pos) scope X.env (firstIterPos [⟨tg,iter,ifs,0⟩] pos) (newList []) false (eval iter X.env) (some (assign (.Name y py) X.env))) _ _ s
 have h:tLc wi g tt te (own.map (·.2)) σ H (fun x H1=>gName i x σ H1 D.nx):=h
 refine wpAny_bind (thn (lc_core (Qf:=fun _ s'=>SP X pins D .next s') hc hN I hi ok hg ht he hs h fun L C s' m H' I' q hn f=>?_) fun _ s' hq=>wpAny_pure (wpAny_pure hq))
 show wpAny _ _ (assign (.Name y py) X.env (.ref L)) _ _ _
 refine wpAny_assign_Name (store_ok2 (v:=V.ref L) I' hN hy (.inl hyl) rfl (fun s2 I2 ⟨a,sb,ha⟩=>?_) (.inr hyl))
 obtain ⟨f0,f1,f2,f3,f4,f5⟩:=f
 have haC:C≠a:=by
  rcases ha with z|z
  ·rw [z];exact f1
  ·exact fun e=>f4 y a z e.symm
 refine ⟨m,hn.sameBut sb haC,fun h3 sb3=>?_⟩
 exact ⟨_,H',I2.turned (t':=s2.toks) (fun b o hb e=>(sb3.2 b hb).trans e) f0 f1 f3 f4 f5,q⟩
end
theorem lc_list {K:PySem.W.Frag} {a:Addr} {xs:List V} {g:TG} {tt:TT} {te:TE} {vs:List Nat} {σ:St} {H1:Hp} {D:Addr} {Qd:Hp→Prop} (Pv:Nat→Hp→Prop) (h0:Pv 0 (upd H1 D (.lst []))) (hl:∀ i H,i≤xs.length→Pv i H→SqL K H a xs)
  (hs:∀ i x H,xs[i]?=some x→Pv i H→g x (wipe σ vs) H fun σ2 H2=>wipe σ2 vs=wipe σ vs∧tt σ2 H2 fun b H3=>
   if b=true then te σ2 H3 fun y H4=>∃ acc,H4 D=some (.lst acc)∧acc.length<sizeLine∧Pv (i+1) (upd H4 D (.lst (acc++[y]))) else Pv (i+1) H3) (hd:∀ H,Pv xs.length H→Qd H):
  ∃ W:Nat→Nat→Hp→Prop,(∃ m,W 0 m (upd H1 D (.lst [])))∧∀ i m H,W i m H→
   ((Itl K a).stop i H∧Qd H)∨((Itl K a).go i H∧∃ Nx:Hp→Prop,(∀ H',Nx H'→∃ m',m'<m∧W (i+1) m' H')∧∀ x H',(Itl K a).yld i H x H'→g x (wipe σ vs) H' fun σ2 H2=>wipe σ2 vs=wipe σ vs∧tt σ2 H2 fun b H3=>
    if b=true then te σ2 H3 fun y H4=>∃ acc,H4 D=some (.lst acc)∧acc.length<sizeLine∧Nx (upd H4 D (.lst (acc++[y]))) else Nx H3):=by
 refine ⟨fun i m H=>m=xs.length - i∧i≤xs.length∧Pv i H,⟨xs.length,by simp,Nat.zero_le _,h0⟩,?_⟩
 rintro i m H ⟨rfl,hi,p⟩
 have q:=hl i H hi p
 by_cases hlt:i<xs.length
 ·refine .inr ⟨⟨xs,xs[i],q,by simp [hlt]⟩,Pv (i+1),fun H' p'=>⟨xs.length - (i+1),by omega,rfl,hlt,p'⟩,fun x H' y=>?_⟩
  obtain ⟨e,y⟩:=y
  subst e
  exact hs i x _ (y xs q) p
 ·have e:i=xs.length:=by omega
  subst e
  exact .inl ⟨⟨xs,q,Nat.le_refl _⟩,hd H p⟩
def blkC (N:List Str) (sc scope:Scope) (own:List (Str×Nat)):Bool:=
 (match scope.kind with|.function=>true|_=>false) && (scope.names.all fun y=>decide (scope.names.lookup y.1=some y.2)) && (own.all fun p=>decide (N[p.2]?=some p.1)) &&
  (scope.names.all fun y=>match y.2 with
   |.free=>(match sc.names.lookup y.1 with|some .cell=>true|some .free=>true|_=>false)
   |.local=>decide (y.1∈own.map (·.1))||decide (y.1∉N)
   |.cell=>decide (y.1∈own.map (·.1))||decide (y.1∉N)
   |_=>true)
theorem blkOk_by {N:List Str} {sc scope:Scope} {own:List (Str×Nat)} (h:blkC N sc scope own=true):BlkOk N sc scope own:=by
 unfold blkC at h
 simp only [Bool.and_eq_true,List.all_eq_true,decide_eq_true_eq] at h
 obtain ⟨⟨⟨h1,h2⟩,h3⟩,h4⟩:=h
 refine ⟨?_,h2,h3,fun y hy e=>?_,fun y hy e=>?_⟩
 ·split at h1
  ·assumption
  ·cases h1
 ·have q:=h4 y hy
  simp only [e] at q
  split at q<;>first|exact .inl (by assumption)|exact .inr (by assumption)|cases q
 ·have q:=h4 y hy
  rcases e with e|e<;>(simp only [e,Bool.or_eq_true,decide_eq_true_eq] at q;exact q)
end L2
namespace L2
open PySem PySem.Spec PyProof.Rows
section
variable {prog:Program} {w:World} {A:Around} {R:Result→Shared→Prop} {s:Shared} {elt t0 i0 t1 i1:Expr} {ifs0 ifs1:List Expr} {scope:Scope} {pos:Pos} {it acc:Value} {env:Env}
end
section
variable {X:Cx}
end
end L2
namespace L2
open PySem PySem.Spec PyProof.Rows
section
variable {κ:Type} [DecidableEq κ]
def valV (kvs:List (κ×V)) (k:κ):Option V:=(kvs.find? fun kv=>decide (kv.1=k)).map (·.2)
def putK (kvs:List (κ×V)) (k:κ) (v:V):List (κ×V):=
 if (kvs.any fun kv=>decide (kv.1=k))=true then kvs.map (fun kv=>if kv.1=k then (kv.1,v) else kv) else kvs++[(k,v)]
theorem valV_pos {p:κ×V} {r:List (κ×V)} {k:κ} (e:p.1=k):valV (p::r) k=some p.2:=by simp [valV,List.find?_cons,e]
theorem valV_neg {p:κ×V} {r:List (κ×V)} {k:κ} (e:¬p.1=k):valV (p::r) k=valV r k:=by simp [valV,List.find?_cons,e]
theorem valV_any (k:κ):∀ kvs:List (κ×V),(kvs.any fun kv=>decide (kv.1=k))=(valV kvs k).isSome
 |[]=>rfl
 |p::r=>by
  rw [List.any_cons]
  by_cases e:p.1=k
  ·simp only [valV_pos e,decide_eq_true e,Bool.true_or,Option.isSome_some]
  ·rw [valV_neg e,decide_eq_false e,Bool.false_or];exact valV_any k r
theorem length_putK (kvs:List (κ×V)) (k:κ) (v:V):(putK kvs k v).length≤kvs.length+1:=by
 unfold putK
 split
 ·rw [List.length_map];omega
 ·rw [List.length_append,List.length_cons,List.length_nil];omega
theorem putK_new {kvs:List (κ×V)} {k:κ} (v:V) (h:valV kvs k=none):putK kvs k v=kvs++[(k,v)]:=by
 unfold putK
 rw [valV_any,h]
 exact if_neg (by decide)
theorem RelO.isSome_eq {o:Option V} {u:Option Value} (r:RelO o u):o.isSome=u.isSome:=by
 cases o with
 |none=>cases u with
  |none=>rfl
  |some _=>exact (show False from r).elim
 |some _=>cases u with
  |none=>exact (show False from r).elim
  |some _=>rfl
theorem KV.val {kvs:List (κ×V)} {vs:List (κ×Value)} (r:KV kvs vs) (k:κ):RelO (valV kvs k) (valueAt vs k):=by
 unfold KV at r
 induction r with
 |nil=>exact True.intro
 | @cons p q ps qs h t ih=>
  obtain ⟨h1,h2⟩:=h
  by_cases e:p.1=k
  ·have e':q.1=k:=h1.symm.trans e
   have b:valueAt (q::qs) k=some q.2:=by simp [valueAt,List.find?_cons,e']
   rw [valV_pos e,b];exact h2
  ·have e':¬q.1=k:=fun z=>e (h1.trans z)
   have b:valueAt (q::qs) k=valueAt qs k:=by simp [valueAt,List.find?_cons,e']
   rw [valV_neg e,b];exact ih
theorem KV.any {kvs:List (κ×V)} {vs:List (κ×Value)} (r:KV kvs vs) (k:κ):(kvs.any fun kv=>decide (kv.1=k))=vs.any fun kv=>decide (kv.1=k):=by
 unfold KV at r
 induction r with
 |nil=>rfl
 |cons h t ih=>rw [List.any_cons,List.any_cons,ih,h.1]
theorem KV.repl {kvs:List (κ×V)} {vs:List (κ×Value)} (r:KV kvs vs) (k:κ) {y:V} {u:Value} (ry:RelV y u):
  KV (kvs.map fun kv=>if kv.1=k then (kv.1,y) else kv) (vs.map fun kv=>if kv.1=k then (kv.1,u) else kv):=by
 unfold KV at r ⊢
 induction r with
 |nil=>exact .nil
 | @cons p q ps qs h t ih=>
  rw [List.map_cons,List.map_cons]
  refine .cons ?_ ih
  obtain ⟨h1,h2⟩:=h
  by_cases e:p.1=k
  ·rw [if_pos e,if_pos (h1.symm.trans e)];exact ⟨h1,ry⟩
  ·rw [if_neg e,if_neg (fun z=>e (h1.trans z))];exact ⟨h1,h2⟩
theorem KV.put {kvs:List (κ×V)} {vs:List (κ×Value)} (r:KV kvs vs) (k:κ) {y:V} {u:Value} (ry:RelV y u):KV (putK kvs k y) (stored vs k u):=by
 unfold putK stored
 rw [r.any k]
 by_cases e:(vs.any fun kv=>decide (kv.1=k))=true
 ·rw [if_pos e,if_pos e];exact r.repl k ry
 ·rw [if_neg e,if_neg e];exact Paired.snoc r ⟨rfl,ry⟩
theorem KV.length {kvs:List (κ×V)} {vs:List (κ×Value)} (r:KV kvs vs):kvs.length=vs.length:=Paired.length r
end
theorem kV_is {P:Program} {w:World} {k:Key} {u:Value} (r:RelV (kV k) u):(mixKind P w).is k u=true:=by
 cases k with
 |inl i=>obtain ⟨t,e⟩:=(show ∃ t,u=Value.int i t from r);subst e;exact mixKind_int P w i t
 |inr x=>obtain ⟨t,e⟩:=(show ∃ t,u=Value.str x t from r);subst e;exact mixKind_str P w x t
theorem items_are {P:Program} {w:World}:∀ {ks:List Key} {us:List Value},Vals (ks.map kV) us→ItemsAre (mixKind P w) ks us
 |[],_,r=>by rw [List.map_nil] at r;cases r;exact .nil
 |k::ks,_,r=>by
  rw [List.map_cons] at r
  cases r with
  |cons h t=>exact .cons (kV_is h) (items_are t)
abbrev KT (H:Hp):List (List Key×V)→List (List Key×Addr×Value)→Prop:=Paired fun p q=>p.1=q.1∧H q.2.1=some (.tup (p.1.map kV))∧RelV p.2 q.2.2
theorem KT.val {H:Hp} {kvs:List (List Key×V)} {xs:List (List Key×Addr×Value)} (r:KT H kvs xs) (k:List Key):RelO (valV kvs k) ((atKey xs k).map (·.2)):=by
 induction r with
 |nil=>exact True.intro
 | @cons p q ps qs h t ih=>
  obtain ⟨h1,_,h2⟩:=h
  by_cases e:p.1=k
  ·have e':q.1=k:=h1.symm.trans e
   have b:atKey (q::qs) k=some q.2:=by simp [atKey,List.find?_cons,e']
   rw [valV_pos e,b];exact h2
  ·have e':¬q.1=k:=fun z=>e (h1.trans z)
   have b:atKey (q::qs) k=atKey qs k:=by simp [atKey,List.find?_cons,e']
   rw [valV_neg e,b];exact ih
theorem KT.repl {H:Hp} {kvs:List (List Key×V)} {xs:List (List Key×Addr×Value)} (r:KT H kvs xs) (k:List Key) {y:V} {u:Value} (ry:RelV y u):
  KT H (kvs.map fun kv=>if kv.1=k then (kv.1,y) else kv) (xs.map (putAt k u)):=by
 induction r with
 |nil=>exact .nil
 | @cons p q ps qs h t ih=>
  rw [List.map_cons,List.map_cons]
  refine .cons ?_ ih
  obtain ⟨h1,h2,h3⟩:=h
  unfold putAt
  by_cases e:p.1=k
  ·rw [if_pos e,if_pos (h1.symm.trans e)];exact ⟨h1,h2,ry⟩
  ·rw [if_neg e,if_neg (fun z=>e (h1.trans z))];exact ⟨h1,h2,h3⟩
theorem KT.put {H:Hp} {kvs:List (List Key×V)} {xs:List (List Key×Addr×Value)} (r:KT H kvs xs) (k:List Key) {b:Addr} {y:V} {u:Value} (hb:H b=some (.tup (k.map kV))) (ry:RelV y u):
  KT H (putK kvs k y) (storedH xs k b u):=by
 have e:(kvs.any fun kv=>decide (kv.1=k))=(atKey xs k).isSome:=by
  rw [valV_any,(r.val k).isSome_eq,Option.isSome_map]
 unfold putK storedH
 rw [e]
 by_cases q:(atKey xs k).isSome=true
 ·rw [if_pos q,if_pos q];exact r.repl k ry
 ·rw [if_neg q,if_neg q];exact Paired.snoc r ⟨rfl,hb,ry⟩
theorem KT.keeps {H H':Hp} {kvs:List (List Key×V)} {xs:List (List Key×Addr×Value)} (r:KT H kvs xs) (ht:∀ b ys,H b=some (.tup ys)→H' b=some (.tup ys)):KT H' kvs xs:=
 Paired.mapP r fun _ _ z=>⟨z.1,ht _ _ z.2.1,z.2.2⟩
section
variable {P:Program} {w:World} {H:Hp} {h:Heap} {a:Addr}
theorem rd_of {u:HO} (ok:HOk P w H h) (e:Rd H a u):ObjOk P w H h a u:=e.ok ok
theorem dk_rd {kvs:List (Key×V)} (ok:HOk P w H h) (e:Rd H a (.dK kvs)):kvs.length≤sizeLine∧(a==sysModules)=false∧∃ vs,KV kvs vs∧h.DictOf (mixKind P w) a vs:=
 show ObjOk P w H h a (.dK kvs) from rd_of ok e
theorem dk_of {kvs:List (Key×V)} (ok:HOk P w H h) (e:H a=some (.dK kvs)):kvs.length≤sizeLine∧(a==sysModules)=false∧∃ vs,KV kvs vs∧h.DictOf (mixKind P w) a vs:=dk_rd ok (.inl e)
theorem key_of {ks:List Key} (ok:HOk P w H h) (e:H a=some (.tup (ks.map kV))):(tupleKind (mixKind P w)).is h ks a:=by
 obtain ⟨_,its,r,o,h1,h2,n,h3⟩:=(show ObjOk P w H h a (.tup (ks.map kV)) from ok a _ e)
 exact ⟨o,its.toArray,n,h1,h2,h3,by simpa using items_are r⟩
theorem dt_rd {kvs:List (List Key×V)} (ok:HOk P w H h) (e:Rd H a (.dT kvs)):kvs.length≤sizeLine∧(a==sysModules)=false∧
  ∃ xs,KT H kvs xs∧h.DictOfH (tupleKind (mixKind P w)) a xs:=by
 obtain ⟨z,y,xs,r,o,es,ep,h1,h2,h3,h4,h5⟩:=(show ObjOk P w H h a (.dT kvs) from rd_of ok e)
 refine ⟨z,y,xs,r,o,es,ep,h1,h2,h3,h4,fun x hx=>?_,h5⟩
 have all:∀ {l:List (List Key×V)} {m:List (List Key×Addr×Value)},KT H l m→∀ x∈m,(tupleKind (mixKind P w)).is h x.1 x.2.1:=by
  intro l m q
  induction q with
  |nil=>intro x hx;exact nomatch hx
  | @cons p q ps qs hq t ih=>
   intro x hx
   rcases List.mem_cons.mp hx with e|hx
   ·subst e
    exact key_of ok (by rw [←hq.1];exact hq.2.1)
   ·exact ih x hx
 exact all r x hx
theorem dt_of {kvs:List (List Key×V)} (ok:HOk P w H h) (e:H a=some (.dT kvs)):kvs.length≤sizeLine∧(a==sysModules)=false∧
  ∃ xs,KT H kvs xs∧h.DictOfH (tupleKind (mixKind P w)) a xs:=dt_rd ok (.inl e)
end
def DGet (H:Hp) (a:Addr) (y:V) (r:Option V):Prop:=
 (∃ kvs k,Rd H a (.dK kvs)∧y=kV k∧r=valV kvs k)∨∃ kvs k b,Rd H a (.dT kvs)∧y=.ref b∧H b=some (.tup (k.map kV))∧r=valV kvs k
def DPut (H:Hp) (a:Addr) (y v:V) (H':Hp):Prop:=
 (∃ kvs k,H a=some (.dK kvs)∧y=kV k∧kvs.length<sizeLine∧H'=upd H a (.dK (putK kvs k v)))∨
 ∃ kvs k b,H a=some (.dT kvs)∧y=.ref b∧H b=some (.tup (k.map kV))∧kvs.length<sizeLine∧H'=upd H a (.dT (putK kvs k v))
theorem DGet.t {H:Hp} {a b:Addr} {kvs:List (List Key×V)} {k:List Key} (e:H a=some (.dT kvs)) (eb:H b=some (.tup (k.map kV))):DGet H a (.ref b) (valV kvs k):=.inr ⟨kvs,k,b,.inl e,rfl,eb,rfl⟩
theorem DPut.t {H:Hp} {a b:Addr} {kvs:List (List Key×V)} {k:List Key} {v:V} (e:H a=some (.dT kvs)) (eb:H b=some (.tup (k.map kV))) (hl:kvs.length<sizeLine):
  DPut H a (.ref b) v (upd H a (.dT (putK kvs k v))):=.inr ⟨kvs,k,b,e,rfl,eb,hl,rfl⟩
section
variable {X:Cx} {pins:List (Addr×Obj)} {σ:St} {H:Hp} {s:Shared} {a:Addr} {y v:V} {u r:Value} {o:Option V} {A:Around} {E:Value→Shared→Prop}
theorem Inv.big (I:Inv X pins σ H s):sysModules<s.heap.objs.size:=by
 have h:mainGlobals<s.heap.objs.size:=(I.mod.glob.keeps I.bk).lt
 exact Nat.lt_trans (by decide) h
theorem d_getItem {Q:Value→Shared→Prop} (hu:A.units+1<cLine) (I:Inv X pins σ H s) (g:DGet H a y (some v)) (ry:RelV y u) (h:∀ w' s',Inv X pins σ H s'→RelV v w'→Q w' s'):
  wpAny (model X.prog X.w) A (getItem (.ref a) u) Q E s:=by
 rcases g with ⟨kvs,k,e,ey,l⟩|⟨kvs,k,b,e,ey,eb,l⟩
 ·subst ey
  obtain ⟨z,hd,vs,rel,dd⟩:=dk_rd I.hok e
  obtain ⟨w',hw,rw'⟩:=RelO.some_of (v:=v) (o:=valueAt vs k) (by rw [l];exact rel.val k)
  exact wpAny_getItem_of (kV_is ry) dd.mapOf hw (h w' _ (I.tok _) rw')
 ·subst ey
  cases (show u=Value.ref b from ry)
  obtain ⟨z,hd,xs,rel,dd⟩:=dt_rd I.hok e
  obtain ⟨w',hw,rw'⟩:=RelO.some_of (v:=v) (o:=(atKey xs k).map (·.2)) (by rw [l];exact rel.val k)
  obtain ⟨p,hp,hp2⟩:=Option.map_eq_some_iff.mp hw
  refine wpAny_getItem_heap (tupleKind_room_in1 hu) (key_of I.hok eb) dd hp ?_
  rw [hp2]
  exact h w' _ (I.tok _) rw'
theorem d_in {Q:Value→Shared→Prop} (hu:A.units+1<cLine) (I:Inv X pins σ H s) (g:DGet H a y o) (ry:RelV y u) (h:∀ s',Inv X pins σ H s'→Q (.bool o.isSome) s'):
  wpAny (model X.prog X.w) A (compareOp .In u (.ref a)) Q E s:=by
 rcases g with ⟨kvs,k,e,ey,l⟩|⟨kvs,k,b,e,ey,eb,l⟩
 ·subst ey
  obtain ⟨z,hd,vs,rel,dd⟩:=dk_rd I.hok e
  refine wpAny_in_of (kV_is ry) hd dd.mapOf ?_
  rw [←(rel.val k).isSome_eq,←l]
  exact h _ (I.tok _)
 ·subst ey
  cases (show u=Value.ref b from ry)
  obtain ⟨z,hd,xs,rel,dd⟩:=dt_rd I.hok e
  refine wpAny_in_heap (tupleKind_room_in1 hu) (key_of I.hok eb) hd dd ?_
  have q:=(rel.val k).isSome_eq
  rw [Option.isSome_map] at q
  rw [←q,←l]
  exact h _ (I.tok _)
theorem d_notIn {Q:Value→Shared→Prop} (hu:A.units+1<cLine) (I:Inv X pins σ H s) (g:DGet H a y o) (ry:RelV y u) (h:∀ s',Inv X pins σ H s'→Q (.bool (!o.isSome)) s'):
  wpAny (model X.prog X.w) A (compareOp .NotIn u (.ref a)) Q E s:=by
 rcases g with ⟨kvs,k,e,ey,l⟩|⟨kvs,k,b,e,ey,eb,l⟩
 ·subst ey
  obtain ⟨z,hd,vs,rel,dd⟩:=dk_rd I.hok e
  refine wpAny_notIn_of (kV_is ry) hd dd.mapOf ?_
  rw [←(rel.val k).isSome_eq,←l]
  exact h _ (I.tok _)
 ·subst ey
  cases (show u=Value.ref b from ry)
  obtain ⟨z,hd,xs,rel,dd⟩:=dt_rd I.hok e
  refine wpAny_notIn_heap (tupleKind_room_in1 hu) (key_of I.hok eb) hd dd ?_
  have q:=(rel.val k).isSome_eq
  rw [Option.isSome_map] at q
  rw [←q,←l]
  exact h _ (I.tok _)
theorem d_write {h':Heap} {t':Nat} {ob:HO} (I:Inv X pins σ H s) (mu:Mut (H a)) (hs:Heap.SameBut a s.heap h') (he:∃ q,h'.get? a=some q) (new:ObjOk X.prog X.w (upd H a ob) h' a ob):
  Inv X pins σ (upd H a ob) {s with heap:=h',toks:=t'}:=
 I.write (x:=a) (e:=a) mu (.inl rfl) (fun b q hb z=>(hs.2 b hb).trans z) he new
theorem dk_new {P:Program} {w:World} {H':Hp} {h':Heap} {kvs:List (Key×V)} {vs:List (Key×Value)} (z:kvs.length≤sizeLine) (hd:(a==sysModules)=false) (rel:KV kvs vs) (dd:h'.DictOf (mixKind P w) a vs):
  ObjOk P w H' h' a (.dK kvs):=⟨z,hd,vs,rel,dd⟩
theorem d_setItem {H':Hp} {Q:Unit→Shared→Prop} (hu:A.units+1<cLine) (I:Inv X pins σ H s) (g:DPut H a y v H') (ry:RelV y u) (rv:RelV v r) (h:∀ s',Inv X pins σ H' s'→Q () s'):
  wpAny (model X.prog X.w) A (setItem (.ref a) u r) Q E s:=by
 rcases g with ⟨kvs,k,e,ey,l,eH⟩|⟨kvs,k,b,e,ey,eb,l,eH⟩
 ·subst ey eH
  obtain ⟨z,hd,vs,rel,dd⟩:=dk_of I.hok e
  have hz:vs.length≤sizeLine:=by rw [←rel.length];exact z
  have hl:(putK kvs k v).length≤sizeLine:=by have:=length_putK kvs k v;omega
  refine wpAny_setItem_pairs (hsz:=hz) (kV_is ry) dd fun h' dd' hs=>h _ ?_
  have he:∃ q,h'.get? a=some q:=let ⟨q,_,_,hq,_⟩:=dd';⟨q,hq⟩
  exact d_write I (by rw [e];exact True.intro) hs he (dk_new hl hd (rel.put k rv) dd')
 ·subst ey eH
  cases (show u=Value.ref b from ry)
  obtain ⟨z,hd,xs,rel,dd⟩:=dt_of I.hok e
  have hz:xs.length≤sizeLine:=by rw [←Paired.length rel];exact z
  have hl:(putK kvs k v).length≤sizeLine:=by have:=length_putK kvs k v;omega
  refine wpAny_setItem_heap (hsz:=hz) (tupleKind_room_in1 hu) (key_of I.hok eb) dd fun h' dd' hs=>h _ ?_
  obtain ⟨q,es,ep,hq,h2,h3,h4,_,h5⟩:=dd'
  refine d_write I (by rw [e];exact True.intro) hs ⟨q,hq⟩ ⟨hl,hd,_,(rel.put k eb rv).keeps fun c ys ec=>?_,q,es,ep,hq,h2,h3,h4,h5⟩
  rw [upd_ne (ne_of ec e (fun z=>nomatch z))]
  exact ec
end
section
variable {X:Cx} {pins:List (Addr×Obj)} {σ:St} {H:Hp} {s:Shared} {a:Addr} {kvs:List (Key×V)} {k:Key} {u:Value} {A:Around} {E:Value→Shared→Prop}
end
def NoSl (i:Expr):Prop:=∀ ov iv,subscripted i false ov iv=operate [ov,iv] (getItem ov iv)
theorem subD_of {prog:Program} {w:World} {A:Around} {E:Value→Shared→Prop} {s:Shared} {env:Env} {value slice:Expr} {pos:Pos} {T id:String} {Q:Value→Shared→Prop}
  (hl:typeLookup (.type T) "__getitem__"=pure (some (.builtin id))) (hs:NoSl slice)
  (h:wpAny (model prog w) A (eval value env) (fun o s₁=>wpAny (model prog w) A (eval slice env) (fun i s₂=>s₂.TypeIs o T∧wpAny (model prog w) A (getItem o i) Q E s₂) E s₁) E s):
  wpAny (model prog w) A (eval (.Subscript value slice pos) env) Q E s:=by
 refine Subscript_ (wpAny_mono h (fun o s₁ h₁=>wpAny_mono h₁ (fun i s₂ h₂=>?_) fun _ _ x=>x) fun _ _ x=>x)
 obtain ⟨hT,h₂⟩:=h₂
 unfold subscriptTail
 refine wpAny_bind ?_
 rw [getitemInPython_of_ne hT.not_modules]
 refine wpAny_bind (wpAny_specialOf hT hl ?_)
 have fin:wpAny (model prog w) A (subscripted slice false o i) (fun r s₃=>wpAny (model prog w) A (letTemporaryGo value o r>>=fun _=>pure r) Q E s₃) E s₂:=by
  rw [hs o i]
  exact wpAny_operating (wpAny_mono h₂ (fun r s₃ h₃=>wpAny_bind (wpAny_letTemporaryGo (wpAny_pure h₃))) fun _ _ x=>x)
 first
  |exact wpAny_pure (wpAny_bind fin)
  |exact wpAny_bind (wpAny_pure (wpAny_bind fin))
  |exact wpAny_bind fin
theorem dict_typeIs {X:Cx} {pins:List (Addr×Obj)} {σ:St} {H:Hp} {s:Shared} {a:Addr} {y:V} {o:Option V} (I:Inv X pins σ H s) (g:DGet H a y o):s.TypeIs (.ref a) "dict":=by
 rcases g with ⟨kvs,k,e,_,_⟩|⟨kvs,k,b,e,_,_,_⟩
 ·obtain ⟨_,_,vs,_,dd⟩:=dk_rd I.hok e
  exact dd.typeIs
 ·obtain ⟨_,_,xs,_,dd⟩:=dt_rd I.hok e
  exact dd.typeIs
def tDGet (td ty:TE):TE:=fun σ H Q=>td σ H fun x H1=>ty σ H1 fun y H2=>∃ a v,x=.ref a∧DGet H2 a y (some v)∧Q v H2
def tDIn (ty td:TE):TE:=fun σ H Q=>ty σ H fun y H1=>td σ H1 fun x H2=>∃ a o,x=.ref a∧DGet H2 a y o∧Q (.bl o.isSome) H2
def tDNotIn (ty td:TE):TE:=fun σ H Q=>ty σ H fun y H1=>td σ H1 fun x H2=>∃ a o,x=.ref a∧DGet H2 a y o∧Q (.bl (!o.isSome)) H2
def sDPut (td ty tv:TE):TS:=fun D σ H=>tv σ H fun v H1=>td σ H1 fun x H2=>ty σ H2 fun y H3=>∃ a H4,x=.ref a∧DPut H3 a y v H4∧D.nx σ H4
section
variable {X:Cx} {o i e value:Expr} {pos pos' tpos:Pos} {td ty tv:TE}
theorem pe_dget (hu:X.A.units+1<cLine) (ho:PE X o td) (hi:PE X i ty) (hs:NoSl i):PE X (.Subscript o i pos) (tDGet td ty):=by
 intro pins s σ H Q I h
 refine subD_of PySem.F.slot_dict_getitem.lookup hs (thn (ho pins s σ H _ I h) fun u s1 ⟨x,H1,I1,rx,q1⟩=>thn (hi pins s1 σ H1 _ I1 q1) fun iv s2 ⟨y,H2,I2,ry,a,v,ex,g,q2⟩=>?_)
 subst ex
 obtain rfl:u=Value.ref a:=rx
 exact ⟨dict_typeIs I2 g,d_getItem hu I2 g ry fun w' s3 I3 rw'=>⟨v,H2,I3,rw',q2⟩⟩
theorem pc_din (hu:X.A.units+1<cLine) (hi:PE X i ty) (ho:PE X o td):PC X .In i o (tDIn ty td):=by
 intro pins s σ H Q I h
 refine thn (hi pins s σ H _ I h) fun iv s1 ⟨y,H1,I1,ry,q1⟩=>thn (ho pins s1 σ H1 _ I1 q1) fun u s2 ⟨x,H2,I2,rx,a,ov,ex,g,q2⟩=>?_
 subst ex
 obtain rfl:u=Value.ref a:=rx
 exact d_in hu I2 g ry fun s3 I3=>⟨.bl ov.isSome,H2,I3,rfl,q2⟩
theorem pc_dnotin (hu:X.A.units+1<cLine) (hi:PE X i ty) (ho:PE X o td):PC X .NotIn i o (tDNotIn ty td):=by
 intro pins s σ H Q I h
 refine thn (hi pins s σ H _ I h) fun iv s1 ⟨y,H1,I1,ry,q1⟩=>thn (ho pins s1 σ H1 _ I1 q1) fun u s2 ⟨x,H2,I2,rx,a,ov,ex,g,q2⟩=>?_
 subst ex
 obtain rfl:u=Value.ref a:=rx
 exact d_notIn hu I2 g ry fun s3 I3=>⟨.bl (!ov.isSome),H2,I3,rfl,q2⟩
theorem ps_dput (hu:X.A.units+1<cLine) (ho:PE X o td) (hi:PE X i ty) (hv:PE X value tv) (hs:swapsWith value (some (.Subscript o i pos')) pos.line X.env=pure false):
  PS X (.Assign [.Subscript o i pos'] value pos) (sDPut td ty tv):=by
 intro pins s σ H D I h
 refine wpAny_Assign_Subscript (thn (hv pins s σ H _ I h) fun r s1 ⟨v,H1,I1,rv,q1⟩=>thn (ho pins s1 σ H1 _ I1 q1) fun u s2 ⟨x,H2,I2,rx,q2⟩=>thn (hi pins s2 σ H2 _ I2 q2) fun iv s3 ⟨y,H3,I3,ry,a,H4,ex,g,q3⟩=>?_) hs
 subst ex
 obtain rfl:u=Value.ref a:=rx
 exact d_setItem hu I3 g ry rv fun s4 I4=>⟨σ,H4,I4,q3⟩
end
theorem dt_empty {P:Program} {w:World} {H:Hp} (h:Heap) (hb:sysModules<h.objs.size):ObjOk P w H (h.push {cls:=.type "dict",data:=.dict #[]}) h.objs.size (.dT []):=
 ⟨Nat.zero_le _,beq_eq_false_iff_ne.mpr (Ne.symm (Nat.ne_of_lt hb)),[],.nil,_,#[],0,Heap.get?_push_size _ rfl,⟨rfl,rfl,rfl⟩,rfl,rfl,List.nodup_nil⟩
def tDNewT:TE:=fun _ H Q=>∀ p,H p=none→Q (.ref p) (upd H p (.dT []))
section
variable {X:Cx} {pos:Pos}
theorem pe_dnewT:PE X (.Dict [] [] pos) tDNewT:=fun pins s σ H Q I h=>
 wpAny_Dict_empty ⟨.ref s.heap.objs.size,_,I.laid (a:=s.heap.objs.size) (o:=.dT []) (t':=s.toks) (fun _ _ q=>Heap.get?_push_of_some _ q) (Nat.le_refl _) (dt_empty s.heap I.big),rfl,h _ (I.hok.fresh (Nat.le_refl _))⟩
end
section
variable {X:Cx} {pins:List (Addr×Obj)} {σ:St} {H:Hp} {s:Shared} {a:Addr} {y d:V} {u r:Value} {o:Option V} {A:Around} {E:Value→Shared→Prop}
end
section
variable {X:Cx} {o e f:Expr} {apos cpos:Pos} {td ty tx:TE}
end
section
variable {X:Cx} {pins:List (Addr×Obj)} {σ:St} {H:Hp} {s:Shared} {a:Addr} {kvs:List (Key×V)} {A:Around} {E:Value→Shared→Prop}
end
section
variable {X:Cx} {pins:List (Addr×Obj)} {σ:St} {H:Hp} {s:Shared} {a:Addr} {y:V} {u:Value} {A:Around} {E:Value→Shared→Prop}
end
end L2
namespace L2
open PySem PySem.Spec PyProof.Rows
section
variable {prog:Program} {w:World} {A:Around} {E:Value→Shared→Prop}
end
section
variable {X:Cx}
end
end L2
namespace L2
open PySem PySem.Spec PyProof.Rows
section
variable {X:Cx} {pins:List (Addr×Obj)} {σ:St} {H:Hp} {s:Shared} {h':Heap}
theorem Inv.turnedNew {t':Nat} {ch:List Addr} {T:Addr} {ob:HO} (I:Inv X pins σ H s) (k:∀ b o,b∉ch→s.heap.get? b=some o→h'.get? b=some o) (hf:∀ b∈ch,FpOk X pins H b) (hT:s.heap.objs.size≤T)
  (new:ObjOk X.prog X.w (upd H T ob) h' T ob):Inv X pins σ (upd H T ob) {s with heap:=h',toks:=t'}:=by
 have hn:H T=none:=I.hok.fresh hT
 have nit:∀ b u,H b=some u→b∉ch:=fun b u e z=>by
  have q:=(hf b z).1
  rw [q] at e;cases e
 refine I.step (g':=s.gens) (d':=s.drawn) (ch:=ch) (fun b hb=>⟨(hf b hb).2.2.2.1,(hf b hb).2.1,(hf b hb).2.2.2.2.1,(hf b hb).2.2.2.2.2⟩) (fun b o _ _ hc e _=>k b o hc e) (fun b o _ _ hc e _=>⟨o.slots,k b o hc e⟩)
  (fun b o _ e n=>?_) (fun b o hc e=>⟨o,k b o hc e⟩) (fun b xs e=>?_) (fun b o u e=>?_) (fun b ps e=>⟨#[],?_⟩) (fun m hm=>?_) (fun b u e=>?_) I.bare
 ·rw [upd_ne (Nat.ne_of_lt (Nat.lt_of_lt_of_le (Heap.lt_size e) hT))];exact n
 ·rw [upd_ne (ne_of_none e hn)];exact e
 ·rw [upd_ne (ne_of_none e hn)];exact e
 ·rw [upd_ne (ne_of_none e hn),e];simp
 ·obtain ⟨o,es,ep,ho,r⟩:=hm
  exact ⟨o,es,ep,k _ o (fun z=>(hf _ z).2.1 rfl) ho,r⟩
 ·by_cases hb:b=T
  ·subst hb
   rw [upd_same] at e
   cases e
   exact new
  ·rw [upd_ne hb] at e
   refine (I.hok b u e).stay (fun c v hc q=>k c v ?_ q) (fun c q=>by rw [upd_ne (ne_of_none q hn)];exact q) fun c xs q=>by rw [upd_ne (ne_of_none q hn)];exact q
   rcases hc with z|z
   ·rw [z];exact nit b u e
   ·exact nit c _ z
theorem Inv.lock {d:Addr} {u:HO} (I:Inv X pins σ H s) (h:H d=some u) (mu:Mut (some u)):∃ od,Inv X pins σ (upd H d (.frz od u)) s:=by
 have x:=I.hok d u h
 have ex:∃ od,s.heap.get? d=some od:=by
  cases u with
  |lst xs=>obtain ⟨_,_,_,_,e⟩:=x;exact ⟨_,e⟩
  |dK kvs=>obtain ⟨_,_,_,_,o,_,_,e,_⟩:=x;exact ⟨o,e⟩
  |dT kvs=>obtain ⟨_,_,_,_,o,_,_,e,_⟩:=x;exact ⟨o,e⟩
  |set S n=>obtain ⟨o,_,_,_,e,_⟩:=x;exact ⟨o,e⟩
  |ins C dx fs=>obtain ⟨_,_,_,e,_⟩:=x;exact ⟨_,e⟩
  |ext φ=>obtain ⟨_,⟨_,e⟩,_⟩:=x;exact ⟨_,e⟩
  |_=>exact False.elim mu
 obtain ⟨od,e⟩:=ex
 have new:ObjOk X.prog X.w (upd H d (.frz od u)) s.heap d (.frz od u):=by
  refine ⟨e,x.stay (fun b v _ q=>q) (fun b q=>?_) fun b xs q=>?_⟩
  ·rw [upd_ne (fun z=>by rw [z,h] at q;cases q;exact mu)];exact q
  ·rw [upd_ne (fun z=>by rw [z,h] at q;cases q;exact mu)];exact q
 exact ⟨od,I.write (x:=d) (e:=d) (t':=s.toks) (h':=s.heap) (by rw [h];exact mu) (.inl rfl) (fun b v _ q=>q) ⟨od,e⟩ new⟩
theorem Inv.nofrz {d:Addr} {u:HO} (I:Inv X pins σ H s) (h:H d=some u) (mu:Mut (some u)):∀ o' u',X.H_0 d≠some (.frz o' u'):=fun o' u' e=>by
 have q:=I.base.frzs d o' u' e
 rw [h] at q
 cases q
 exact mu
theorem Inv.unlock {d:Addr} {od:Obj} {u:HO} (I:Inv X pins σ H s) (h:H d=some (.frz od u)) (hn:∀ o' u',X.H_0 d≠some (.frz o' u')):Inv X pins σ (upd H d u) s:=by
 have neH:∀ b o,H b=some o→(∀ o' u',o≠.frz o' u')→b≠d:=fun b o e hne z=>by
  rw [z,h] at e
  cases e
  exact hne _ _ rfl
 have neN:∀ b,H b=none→b≠d:=fun b e z=>by rw [z,h] at e;cases e
 refine ⟨I.ok,I.os,I.bare,⟨I.base.keep,I.base.slot,fun b o e n hx=>?_,I.base.there,fun b xs e=>?_,fun b o x e=>?_,fun b ps e=>?_⟩,I.loc,I.cell,?_,fun x c e=>?_,fun p hp=>?_,fun b o e=>?_,I.len⟩
 ·rw [upd_ne (neN b (I.base.free b o e n hx))];exact I.base.free b o e n hx
 ·have q:=I.base.tups b xs e
  rw [upd_ne (neH b _ q (fun _ _ z=>nomatch z))];exact q
 ·have q:=I.base.frzs b o x e
  rw [upd_ne (fun z=>by rw [z] at e;exact hn _ _ e)];exact q
 ·obtain ⟨m,q⟩:=I.base.tbls b ps e
  exact ⟨m,by rw [upd_ne (neH b _ q (fun _ _ z=>nomatch z))];exact q⟩
 ·rw [upd_ne (neN _ I.free)];exact I.free
 ·rw [upd_ne (neN c (I.freeC x c e))];exact I.freeC x c e
 ·obtain ⟨e,n,r⟩:=I.pin p hp
  exact ⟨e,by rw [upd_ne (neN _ n)];exact n,r⟩
 ·by_cases hb:b=d
  ·rw [hb,upd_same] at e
   cases e
   rw [hb]
   obtain ⟨_,x⟩:=I.hok d _ h
   exact x.stay (fun c v _ q=>q) (fun c q=>by rw [upd_ne (neH c _ q (fun _ _ z=>nomatch z))];exact q) fun c xs q=>by rw [upd_ne (neH c _ q (fun _ _ z=>nomatch z))];exact q
  ·rw [upd_ne hb] at e
   exact (I.hok b o e).stay (fun c v _ q=>q) (fun c q=>by rw [upd_ne (neH c _ q (fun _ _ z=>nomatch z))];exact q) fun c xs q=>by rw [upd_ne (neH c _ q (fun _ _ z=>nomatch z))];exact q
end
def tLock (t:TS):TS:=fun D σ H=>∃ d u,H d=some u∧Mut (some u)∧∀ od,t ⟨fun σ' H'=>H' d=some (.frz od u)∧D.nx σ' (upd H' d u),fun v H'=>H' d=some (.frz od u)∧D.rt v (upd H' d u),fun σ' H'=>H' d=some (.frz od u)∧D.bk σ' (upd H' d u),fun σ' H'=>H' d=some (.frz od u)∧D.ct σ' (upd H' d u)⟩ σ (upd H d (.frz od u))
section
variable {X:Cx}
theorem ps_lock {st:Stmt} {t:TS} (h:PS X st t):PS X st (tLock t):=by
 intro pins s σ H D I hw
 obtain ⟨d,u,hd,mu,hw⟩:=hw
 obtain ⟨od,I1⟩:=I.lock hd mu
 refine thn (h pins s σ _ _ I1 (hw od)) fun f s1 q=>?_
 cases f with
 |next=>obtain ⟨σ',H',I2,e,q⟩:=q;exact ⟨σ',_,I2.unlock e (I.nofrz hd mu),q⟩
 |brk=>obtain ⟨σ',H',I2,e,q⟩:=q;exact ⟨σ',_,I2.unlock e (I.nofrz hd mu),q⟩
 |cont=>obtain ⟨σ',H',I2,e,q⟩:=q;exact ⟨σ',_,I2.unlock e (I.nofrz hd mu),q⟩
 |ret v=>obtain ⟨x,σ',H',I2,r,e,q⟩:=q;exact ⟨x,σ',_,I2.unlock e (I.nofrz hd mu),r,q⟩
theorem pi_one {tg:Expr} {pins:List (Addr×Obj)} {σ:St} {H:Hp} {s:Shared} {R:It→Hp→Prop} {J:It} {tn:Nat→Heap→Prop} {tk:Nat} (I:Inv X pins σ H s) (o:Obj)
  (T:Turn X.prog X.w X.K tg J [s.heap.objs.size] s.heap.objs.size tn) (st:tn 0 (s.heap.push o)) (q:R J H):PIE X pins σ tg R (.ref s.heap.objs.size) {s with heap:=s.heap.push o,toks:=tk}:=by
 refine ⟨s.heap.objs.size,[s.heap.objs.size],tn,J,H,rfl,I.kept fun b ob e=>Heap.get?_push_of_some _ e,T,st,fun b hb=>?_,q⟩
 have e:b=s.heap.objs.size:=by simpa using hb
 subst e
 exact I.fpOk (Nat.le_refl _) (I.hok.fresh (Nat.le_refl _))
end
section
variable {X:Cx} {tg:Expr}
end
section
variable {X:Cx} {tg:Expr}
end
def Its (x:Str):It:=⟨fun i _=>i<x.cps.size,fun i H v H'=>H'=H∧∃ c,x.cps[i]?=some c∧v=.str ⟨#[c]⟩,fun i _=>x.cps.size≤i⟩
theorem turn_str {P:Program} {w:World} {K:PySem.W.Frag} {tg:Expr} (it:Addr) (x:Str) (t:Tok) (ty:String) (hty:ty="str_ascii_iterator"∨ty="str_iterator"):
  Turn P w K tg (Its x) [it] it (fun i h=>h.IsStrIter it ty x t i) where
 mem:=by simp
 obj:=fun i h st b hb=>by
  have e:b=it:=by simpa using hb
  subst e
  obtain ⟨o,e,c,d⟩:=st
  exact ⟨o,e,fun v z=>by rw [d] at z;cases z⟩
 keep:=fun i h h' st k=>let ⟨o,ho,r⟩:=st;⟨o,k it (by simp) o ho,r⟩
 item:=by
  intro X hP hw hK hc i pins s σ H E I hf st hg
  subst hP hw hK
  obtain ⟨f0,f1,f2,f3,f4,f5⟩:=hf it (by simp)
  have W:Walks X.prog X.w X.A it [it] [it] x.cps.size (SignAt x) (fun i h=>h.IsStrIter it ty x t i):=by
   rcases hty with e|e
   ·rw [e];exact Walks.strAscii (I.ok.hd hc) it x t
   ·rw [e];exact Walks.strWide (I.ok.hd hc) it x t
  have hno:["enumerate","zip","dict_itemiterator","dict_reverseitemiterator","odict_iterator","itertools.zip_longest","itertools.pairwise"].contains ty=false:=by
   rcases hty with e|e
   ·rw [e];decide
   ·rw [e];decide
  refine W.item i s _ _ hg st fun v h' tk hv st' kk=>?_
  obtain ⟨c,u,hcx,rfl⟩:=hv
  have I1:Inv X pins σ H {s with heap:=h',toks:=tk}:=I.turned (fun b o hb e=>kk b o (by simpa using hb) e) f0 f1 f3 f4 f5
  obtain ⟨oi,e,cc,dd⟩:=id st'
  exact ⟨_,rfl,go_of (s:={s with heap:=h',toks:=tk}) e cc dd hno ⟨.str ⟨#[c]⟩,H,I1,⟨u,rfl⟩,⟨rfl,c,hcx,rfl⟩,st',fun b hb=>(hf b hb).1⟩⟩
 done:=by
  intro X hP hw hK hc i pins s σ H E I hf st hg
  subst hP hw hK
  obtain ⟨f0,f1,f2,f3,f4,f5⟩:=hf it (by simp)
  have hx:x.cps[i]?=none:=Array.getElem?_eq_none hg
  rcases hty with e|e
  ·rw [e] at st
   exact wpAny_pyNext_ascii_end (I.ok.hd hc) st hx fun h' eb=>⟨rfl,I.turned (t':=s.toks) (fun b o hb e=>eb b o hb e) f0 f1 f3 f4 f5⟩
  ·rw [e] at st
   exact wpAny_pyNext_wide_end (I.ok.hd hc) st hx fun h' eb=>⟨rfl,I.turned (t':=s.toks) (fun b o hb e=>eb b o hb e) f0 f1 f3 f4 f5⟩
 self:=fun A i s Q E st h=>by
  rcases hty with e|e
  ·rw [e] at st;exact wpAny_pyIter_striter_ascii st h
  ·rw [e] at st;exact wpAny_pyIter_striter_wide st h
def iStr (te:TE):TI:=fun σ H R=>te σ H fun v H1=>∃ x,v=.str x∧R (Its x) H1
theorem pi_str {X:Cx} {tg e:Expr} {te:TE} (he:PE X e te):PI X tg e (iStr te):=by
 intro pins s σ H R I h
 refine thn (he pins s σ H _ I h) fun v s1 ⟨y,H1,I1,r1,x,ex,q⟩=>?_
 subst ex
 obtain ⟨t,rfl⟩:=r1
 cases ha:x.cps.all (· <128)
 ·exact wpAny_pyIter_wide ha (pi_one (tk:=s1.toks) I1 _ (turn_str _ x t "str_iterator" (.inr rfl)) ⟨_,Heap.get?_push_size _ rfl,rfl,rfl⟩ q)
 ·exact wpAny_pyIter_ascii ha (pi_one (tk:=s1.toks) I1 _ (turn_str _ x t "str_ascii_iterator" (.inl rfl)) ⟨_,Heap.get?_push_size _ rfl,rfl,rfl⟩ q)
section
variable {prog:Program} {w:World} {A:Around} {E:Value→Shared→Prop} {s:Shared}
theorem iter_keys {d:Addr} {o:Obj} {es:Array DictEntry} {ep:Nat} {Q:Value→Shared→Prop} (hd:(d==sysModules)=false) (ho:s.heap.get? d=some o) (hc:o.ExactDict) (hdat:o.data=.dict es ep)
  (hQ:Q (.ref s.heap.objs.size) {s with heap:=s.heap.push {cls:=.type "dict_keyiterator",data:=.fields #[.ref d,.int 0 0,.int es.size 0,.int ep 0]}}):
  wpAny (model prog w) A (pyIter (.ref d)) Q E s:=by
 have hT:s.TypeIs (.ref d) "dict":=⟨o,ho,hc.1⟩
 refine wpAny_pyIter_slot hT F.slot_dict_iter (wpAny_call_entry F.slot_dict_iter hT F.entry_dict_iter ?_ (F.args_dict_iter_1 _))
 unfold Builtin.«dict.__iter__»
 refine wpAny_bind ?_
 unfold Builtin.Dict.dictSlotNone
 refine wpAny_bind (wpAny_notOrdered_dict hT ?_)
 show wpAny _ _ (pure (Value.ref d)) _ _ s
 refine wpAny_pure ?_
 show wpAny _ _ (Builtin.Dict.showsAll d>>=_) _ _ s
 unfold Builtin.Dict.showsAll
 rw [if_neg (by rw [hd];exact Bool.false_ne_true)]
 refine wpAny_bind (wpAny_pure ?_)
 refine wpAny_bind (wpAny_dictEntries ho hdat ?_)
 refine wpAny_bind (wpAny_dictEpoch ho hdat ?_)
 refine wpAny_bind (wpAny_newObj_type (wpAny_pure ⟨_,rfl,"dict_keyiterator",_,⟨_,Heap.get?_push_size _ rfl,rfl⟩,F.slot_dict_keyiterator_next.lookup,?_⟩))
 simpa [rawInt] using hQ
theorem next_key_item {it d:Addr} {i n ep:Nat} {od:Obj} {es:Array DictEntry} {en:DictEntry} {Q:Option Value→Shared→Prop} (hit:s.heap.IsKeyIter it d i n ep) (hod:s.heap.get? d=some od) (hdd:od.data=.dict es ep)
  (hsz:es.size=n) (hx:es[i]?=some en) (hQ:∀ h',h'.IsKeyIter it d (i+1) n ep→Heap.SameBut it s.heap h'→Q (some en.key) {s with heap:=h'}):wpAny (model prog w) A (pyNext (.ref it)) Q E s:=by
 obtain ⟨o,ho,hc,hd⟩:=id hit
 unfold pyNext
 refine wpAny_bind (wpAny_attempt (wpAny_callSpecial?_slot (name:=Str.ofString "__next__") hit.typeIs F.slot_dict_keyiterator_next
  (wpAny_call_entry F.slot_dict_keyiterator_next hit.typeIs F.entry_dict_keyiterator_next ?_ (F.args_dict_keyiterator_next_1 _))))
 refine wpAny_bind (wpAny_pure ?_)
 refine wpAny_bind ?_
 refine wpAny_bind ?_
 first|refine wpAny_bind (wpAny_typeNameOfWhole_keyiter hit.typeIs (wpAny_pure ?_))|refine wpAny_bind (wpAny_typeNameOf_keyiter hit.typeIs (wpAny_pure ?_))
 refine wpAny_bind (wpAny_fieldsOf ho hd ?_)
 have hown:Builtin.Dict_items.ownsTuple "dict_keyiterator"=false:=by decide
 simp only [hown,Bool.false_eq_true,if_false]
 show wpAny _ _ (if (Value.ref d==Value.none)=true then _ else _) _ _ s
 rw [if_neg (show ¬((Value.ref d==Value.none)=true) from Bool.false_ne_true)]
 refine wpAny_bind (wpAny_pure ?_)
 refine wpAny_bind (wpAny_dictEntries hod hdd ?_)
 rw [if_neg (by rw [hsz];simp)]
 refine wpAny_bind (wpAny_pure ?_)
 refine wpAny_bind (wpAny_dictEpoch hod hdd ?_)
 rw [if_neg (by simp)]
 refine wpAny_pure ?_
 obtain ⟨hlt',hen⟩:=Array.getElem?_eq_some_iff.mp hx
 simp only [show ¬((i:Int)<0) from by omega,if_false,Int.toNat_natCast,Array.getElem?_eq_getElem hlt']
 refine wpAny_bind ?_
 first|refine wpAny_bind (wpAny_typeNameOfWhole_keyiter hit.typeIs (wpAny_pure ?_))|refine wpAny_bind (wpAny_typeNameOf_keyiter hit.typeIs (wpAny_pure ?_))
 refine wpAny_bind (wpAny_isOneOf_keyiter hit.typeIs ?_)
 show wpAny _ _ (setField (.ref it) 1 (rawInt ((i:Int)+1))>>=_) _ _ s
 refine wpAny_bind (wpAny_setField ho hd (by simp) ?_)
 have hit':(s.heap.update it (Obj.mapFields (·.setIfInBounds 1 (rawInt ((i:Int)+1))))).IsKeyIter it d (i+1) n ep:=
  ⟨_,Heap.get?_update_self _ ho (Obj.isFreed_of_fields (Obj.data_mapFields hd _)),(Obj.cls_mapFields ..).trans hc,by rw [Obj.data_mapFields hd];simp [rawInt]⟩
 refine wpAny_bind (wpAny_holding ?_)
 refine wpAny_bind (wpAny_isOneOf_keyiter (s:={s with heap:=s.heap.update it (Obj.mapFields (·.setIfInBounds 1 (rawInt ((i:Int)+1))))}) hit'.typeIs ?_)
 show wpAny _ _ (pure es[i].key) _ _ _
 rw [hen]
 exact wpAny_pure (wpAny_pure ⟨_,rfl,wpAny_pure (hQ _ hit' (Heap.SameBut.update ..))⟩)
theorem next_key_end {it d:Addr} {i n ep:Nat} {od:Obj} {es:Array DictEntry} {Q:Option Value→Shared→Prop} (hh:A.handled=none) (hit:s.heap.IsKeyIter it d i n ep) (hod:s.heap.get? d=some od) (hdd:od.data=.dict es ep)
  (hsz:es.size=n) (hge:n≤i) (hQ:∀ h',Heap.ExtBut it s.heap h'→Q none {s with heap:=h'}):wpAny (model prog w) A (pyNext (.ref it)) Q E s:=by
 obtain ⟨o,ho,hc,hd⟩:=id hit
 unfold pyNext
 refine wpAny_bind (wpAny_attempt (wpAny_callSpecial?_slot (name:=Str.ofString "__next__") hit.typeIs F.slot_dict_keyiterator_next
  (wpAny_call_entry F.slot_dict_keyiterator_next hit.typeIs F.entry_dict_keyiterator_next ?_ (F.args_dict_keyiterator_next_1 _))))
 refine wpAny_bind (wpAny_pure ?_)
 refine wpAny_bind ?_
 refine wpAny_bind ?_
 first|refine wpAny_bind (wpAny_typeNameOfWhole_keyiter hit.typeIs (wpAny_pure ?_))|refine wpAny_bind (wpAny_typeNameOf_keyiter hit.typeIs (wpAny_pure ?_))
 refine wpAny_bind (wpAny_fieldsOf ho hd ?_)
 have hown:Builtin.Dict_items.ownsTuple "dict_keyiterator"=false:=by decide
 simp only [hown,Bool.false_eq_true,if_false]
 show wpAny _ _ (if (Value.ref d==Value.none)=true then _ else _) _ _ s
 rw [if_neg (show ¬((Value.ref d==Value.none)=true) from Bool.false_ne_true)]
 refine wpAny_bind (wpAny_pure ?_)
 refine wpAny_bind (wpAny_dictEntries hod hdd ?_)
 rw [if_neg (by rw [hsz];simp)]
 refine wpAny_bind (wpAny_pure ?_)
 refine wpAny_bind (wpAny_dictEpoch hod hdd ?_)
 rw [if_neg (by simp)]
 refine wpAny_pure ?_
 have hge':es.size≤i:=by rw [hsz];exact hge
 simp only [show ¬((i:Int)<0) from by omega,if_false,Int.toNat_natCast,Array.getElem?_eq_none hge']
 refine wpAny_bind ?_
 first|refine wpAny_bind (wpAny_typeNameOfWhole_keyiter hit.typeIs (wpAny_pure ?_))|refine wpAny_bind (wpAny_typeNameOf_keyiter hit.typeIs (wpAny_pure ?_))
 show wpAny _ _ (setField (.ref it) 0 .none>>=_) _ _ s
 refine wpAny_bind (wpAny_setField ho hd (by simp) ?_)
 show wpAny _ _ (newExc (.type "StopIteration") []>>=_) _ _ _
 refine wpAny_bind ?_
 simp only [newExc,newTuple]
 refine wpAny_bind (wpAny_newObj_type ?_ (by size_fits))
 refine wpAny_bind (m:=firstArgMember _ _) (wpAny_of_eq (a:=Value.none) (by first|rfl|(simp only [firstArgMember];rfl)) ?_)
 refine wpAny_newObj_type ?_ (by size_fits)
 simp only [raiseNew]
 refine wpAny_bind (wpAny_handled ?_)
 rw [show A.in1.handled=none from hh]
 refine wpAny_bind (wpAny_pure (wpAny_throw ?_))
 refine wpAny_bind (wpAny_isInstance (T:="StopIteration") (b:=true) ⟨_,Heap.get?_push_size _ rfl,rfl⟩ isSubtype_stop ?_)
 exact wpAny_pure (hQ _ (((Heap.SameBut.update ..).extBut.push _).push _))
end
theorem kv_get {κ:Type} {kvs:List (κ×V)} {vs:List (κ×Value)} (h:KV kvs vs):∀ {i:Nat} {k:κ} {v:V},kvs[i]?=some (k,v)→∃ u,vs[i]?=some (k,u)∧RelV v u:=by
 unfold KV at h
 induction h with
 |nil=>intro i k v e;simp at e
 | @cons a b l₁ l₂ r t ih=>
  intro i k v e
  cases i with
  |zero=>
   simp only [List.getElem?_cons_zero,Option.some.injEq] at e
   subst e
   refine ⟨b.2,?_,r.2⟩
   simp only [List.getElem?_cons_zero]
   exact congrArg some (Prod.ext r.1.symm rfl)
  |succ j=>
   simp only [List.getElem?_cons_succ] at e ⊢
   exact ih e
theorem paired_get {α β:Type} {G:α→β→Prop} {l₁:List α} {l₂:List β} (h:Paired G l₁ l₂):∀ {i:Nat} {a:α},l₁[i]?=some a→∃ b,l₂[i]?=some b∧G a b:=by
 induction h with
 |nil=>intro i a e;simp at e
 | @cons a b l₁ l₂ r t ih=>
  intro i a' e
  cases i with
  |zero=>
   simp only [List.getElem?_cons_zero,Option.some.injEq] at e
   subst e
   exact ⟨b,rfl,r⟩
  |succ j=>
   simp only [List.getElem?_cons_succ] at e ⊢
   exact ih e
theorem relV_key {k:Key} {u:Value} (h:keyIs k u=true):RelV (kV k) u:=by
 rcases keyIs_shape h with ⟨i,t,rfl,rfl⟩|⟨x,t,rfl,rfl⟩
 ·exact ⟨t,rfl⟩
 ·exact ⟨t,rfl⟩
section
variable {X:Cx} {pins:List (Addr×Obj)} {σ:St} {H:Hp} {s:Shared} {d:Addr} {o:Obj}
theorem Inv.frzK {kvs:List (Key×V)} (I:Inv X pins σ H s) (h:H d=some (.frz o (.dK kvs))):
  (d==sysModules)=false∧s.heap.get? d=some o∧o.ExactDict∧∃ (es:Array DictEntry) (ep:Nat) (vs:List (Key×Value)),o.data=.dict es ep∧es.size=kvs.length∧KV kvs vs∧s.heap.DictAt (mixKind X.prog X.w) d vs ep:=by
 obtain ⟨hd,z,hs,vs,kv,o',es,ep,ho,hx,hdt,r⟩:=I.hok d _ h
 rw [hd] at ho
 cases ho
 refine ⟨hs,hd,hx,es,ep,vs,hdt,?_,kv,o,es,hd,hx,hdt,r⟩
 have l1:=r.2.1.length
 have l2:kvs.length=vs.length:=Paired.length kv
 rw [Array.length_toList] at l1
 omega
theorem Inv.frzT {kvs:List (List Key×V)} (I:Inv X pins σ H s) (h:H d=some (.frz o (.dT kvs))):
  (d==sysModules)=false∧s.heap.get? d=some o∧o.ExactDict∧∃ (es:Array DictEntry) (ep:Nat),o.data=.dict es ep∧es.size=kvs.length∧
   ∀ (i:Nat) (k:List Key) (v:V),kvs[i]?=some (k,v)→∃ (en:DictEntry) (q:Addr),es[i]?=some en∧en.key=.ref q∧H q=some (.tup (k.map kV)):=by
 obtain ⟨hd,z,hs,xs,pr,o',es,ep,ho,hx,hdt,he,_⟩:=I.hok d _ h
 rw [hd] at ho
 cases ho
 refine ⟨hs,hd,hx,es,ep,hdt,?_,fun i k v e=>?_⟩
 ·have l1:es.size=xs.length:=size_of_entries he
  have l2:kvs.length=xs.length:=Paired.length pr
  omega
 ·obtain ⟨b,hb,e1,e2,_⟩:=paired_get pr e
  have q:=entry_at he i
  rw [hb] at q
  exact ⟨_,b.2.1,q,rfl,e2⟩
end
def Itk (d:Addr) (o:Obj) (kvs:List (Key×V)):It:=
 ⟨fun i H=>H d=some (.frz o (.dK kvs))∧i<kvs.length,fun i H x H'=>H'=H∧∃ k v,kvs[i]?=some (k,v)∧x=kV k,fun i H=>H d=some (.frz o (.dK kvs))∧kvs.length≤i⟩
def Itkt (d:Addr) (o:Obj) (kvs:List (List Key×V)):It:=
 ⟨fun i H=>H d=some (.frz o (.dT kvs))∧i<kvs.length,fun i H x H'=>H'=H∧∃ (k:List Key) (v:V) (q:Addr),kvs[i]?=some (k,v)∧x=.ref q∧H q=some (.tup (k.map kV)),fun i H=>H d=some (.frz o (.dT kvs))∧kvs.length≤i⟩
theorem dict_ep {o:Obj} {es es':Array DictEntry} {ep ep':Nat} (h:o.data=.dict es ep) (h':o.data=.dict es' ep'):es'=es∧ep'=ep:=by
 rw [h] at h'
 cases h'
 exact ⟨rfl,rfl⟩
section
variable {P:Program} {w:World} {K:PySem.W.Frag} {tg:Expr} {d:Addr} {o:Obj} {es:Array DictEntry} {ep:Nat}
theorem turn_keys {kvs:List (Key×V)} (it:Addr) (hod:o.data=.dict es ep):Turn P w K tg (Itk d o kvs) [it] it (fun i h=>h.IsKeyIter it d i kvs.length ep) where
 mem:=by simp
 obj:=fun i h st b hb=>by
  have e:b=it:=by simpa using hb
  subst e
  obtain ⟨oi,e,c,dd⟩:=st
  exact ⟨oi,e,fun v z=>by rw [dd] at z;cases z⟩
 keep:=fun i h h' st k=>st.at fun oi e=>k it (by simp) oi e
 item:=by
  intro X hP hw hK hc i pins s σ H E I hf st hg
  subst hP hw hK
  obtain ⟨hd,hi⟩:=hg
  obtain ⟨f0,f1,f2,f3,f4,f5⟩:=hf it (by simp)
  obtain ⟨hs,hgd,hx,es',ep',vs,hdt,hsz,kv,hm⟩:=I.frzK hd
  obtain ⟨rfl,rfl⟩:=dict_ep hod hdt
  obtain ⟨⟨k,v⟩,hkv⟩:∃ p,kvs[i]?=some p:=⟨kvs[i],List.getElem?_eq_getElem hi⟩
  obtain ⟨u,hu,ru⟩:=kv_get kv hkv
  have hl:kvs.length=vs.length:=Paired.length kv
  rw [hl] at st
  refine wpAny_pyNext_dict_item st hm hu fun key h' hkey st' sb=>?_
  have I1:Inv X pins σ H {s with heap:=h'}:=I.turned (t':=s.toks) (fun b ob hb e=>(sb.2 b hb).trans e) f0 f1 f3 f4 f5
  obtain ⟨oi,e,c,dd⟩:=id st'
  refine ⟨key,rfl,go_of (s:={s with heap:=h'}) e c dd (by decide) ⟨kV k,H,I1,relV_key (show keyIs k key=true from hkey),⟨rfl,k,v,hkv,rfl⟩,?_,fun b hb=>(hf b hb).1⟩⟩
  show h'.IsKeyIter it d (i+1) kvs.length _
  rw [hl]
  exact st'
 done:=by
  intro X hP hw hK hc i pins s σ H E I hf st hg
  subst hP hw hK
  obtain ⟨hd,hi⟩:=hg
  obtain ⟨f0,f1,f2,f3,f4,f5⟩:=hf it (by simp)
  obtain ⟨hs,hgd,hx,es',ep',vs,hdt,hsz,kv,hm⟩:=I.frzK hd
  obtain ⟨rfl,rfl⟩:=dict_ep hod hdt
  exact next_key_end (I.ok.hd hc) st hgd hdt hsz hi fun h' eb=>⟨rfl,I.turned (t':=s.toks) (fun b ob hb e=>eb b ob hb e) f0 f1 f3 f4 f5⟩
 self:=fun A i s Q E st h=>wpAny_pyIter_keyiter st h
theorem turn_keysT {kvs:List (List Key×V)} (it:Addr) (hod:o.data=.dict es ep):Turn P w K tg (Itkt d o kvs) [it] it (fun i h=>h.IsKeyIter it d i kvs.length ep) where
 mem:=by simp
 obj:=fun i h st b hb=>by
  have e:b=it:=by simpa using hb
  subst e
  obtain ⟨oi,e,c,dd⟩:=st
  exact ⟨oi,e,fun v z=>by rw [dd] at z;cases z⟩
 keep:=fun i h h' st k=>st.at fun oi e=>k it (by simp) oi e
 item:=by
  intro X hP hw hK hc i pins s σ H E I hf st hg
  subst hP hw hK
  obtain ⟨hd,hi⟩:=hg
  obtain ⟨f0,f1,f2,f3,f4,f5⟩:=hf it (by simp)
  obtain ⟨hs,hgd,hx,es',ep',hdt,hsz,ent⟩:=I.frzT hd
  obtain ⟨rfl,rfl⟩:=dict_ep hod hdt
  obtain ⟨⟨k,v⟩,hkv⟩:∃ p,kvs[i]?=some p:=⟨kvs[i],List.getElem?_eq_getElem hi⟩
  obtain ⟨en,q,hen,hkey,hq⟩:=ent i k v hkv
  refine next_key_item st hgd hdt hsz hen fun h' st' sb=>?_
  have I1:Inv X pins σ H {s with heap:=h'}:=I.turned (t':=s.toks) (fun b ob hb e=>(sb.2 b hb).trans e) f0 f1 f3 f4 f5
  obtain ⟨oi,e,c,dd⟩:=id st'
  exact ⟨en.key,rfl,go_of (s:={s with heap:=h'}) e c dd (by decide) ⟨.ref q,H,I1,hkey,⟨rfl,k,v,q,hkv,rfl,hq⟩,st',fun b hb=>(hf b hb).1⟩⟩
 done:=by
  intro X hP hw hK hc i pins s σ H E I hf st hg
  subst hP hw hK
  obtain ⟨hd,hi⟩:=hg
  obtain ⟨f0,f1,f2,f3,f4,f5⟩:=hf it (by simp)
  obtain ⟨hs,hgd,hx,es',ep',hdt,hsz,ent⟩:=I.frzT hd
  obtain ⟨rfl,rfl⟩:=dict_ep hod hdt
  exact next_key_end (I.ok.hd hc) st hgd hdt hsz hi fun h' eb=>⟨rfl,I.turned (t':=s.toks) (fun b ob hb e=>eb b ob hb e) f0 f1 f3 f4 f5⟩
 self:=fun A i s Q E st h=>by
  refine wpAny_pyIter_slot st.typeIs F.slot_dict_keyiterator_iter (wpAny_call_entry F.slot_dict_keyiterator_iter st.typeIs F.entry_dict_keyiterator_iter ?_ (F.args_dict_keyiterator_iter_1 _))
  show wpAny _ _ (ret (.ref it)) _ _ s
  exact wpAny_pure ⟨_,rfl,"dict_keyiterator",_,st.typeIs,F.slot_dict_keyiterator_next.lookup,h⟩
end
def iKeys (td:TE):TI:=fun σ H R=>td σ H fun x H1=>∃ d o,x=.ref d∧((∃ kvs,H1 d=some (.frz o (.dK kvs))∧R (Itk d o kvs) H1)∨∃ kvs,H1 d=some (.frz o (.dT kvs))∧R (Itkt d o kvs) H1)
section
variable {X:Cx} {tg e:Expr} {td:TE} {apos cpos:Pos}
theorem pi_keys (he:PE X e td):PI X tg e (iKeys td):=by
 intro pins s σ H R I h
 refine thn (he pins s σ H _ I h) fun u s1 ⟨x,H1,I1,rx,d,o,ex,q⟩=>?_
 subst ex
 obtain rfl:u=Value.ref d:=rx
 rcases q with ⟨kvs,hd,q⟩|⟨kvs,hd,q⟩
 ·obtain ⟨hs,hgd,hx,es,ep,vs,hdt,hsz,kv,hm⟩:=I1.frzK hd
  refine iter_keys hs hgd hx hdt (pi_one (tk:=s1.toks) I1 _ (turn_keys _ hdt) ⟨_,Heap.get?_push_size _ rfl,rfl,?_⟩ q)
  rw [hsz]<;>rfl
 ·obtain ⟨hs,hgd,hx,es,ep,hdt,hsz,ent⟩:=I1.frzT hd
  refine iter_keys hs hgd hx hdt (pi_one (tk:=s1.toks) I1 _ (turn_keysT _ hdt) ⟨_,Heap.get?_push_size _ rfl,rfl,?_⟩ q)
  rw [hsz]<;>rfl
end
def Ite (K:PySem.W.Frag) (a:Addr):It:=
 ⟨fun i H=>∃ (xs:List V) (x:V),SqL K H a xs∧xs[i]?=some x,fun i H v H'=>∃ T x,v=.ref T∧H T=none∧H'=upd H T (.tup [.int (i:Nat),x])∧∀ xs,SqL K H a xs→xs[i]?=some x,fun i H=>∃ xs:List V,SqL K H a xs∧xs.length≤i⟩
theorem turn_enum {P:Program} {w:World} {K:PySem.W.Frag} {elts:List Expr} {kk:Nat} {tpos:Pos} (a e it:Addr):
  Turn P w K (.Tuple elts kk tpos) (Ite K a) [e,it] e (fun i h=>(∃ old,IsEnum h e it ((i:Nat):Int) old)∧h.IsListIter it a i∧e≠it) where
 mem:=by simp
 obj:=fun i h st b hb=>by
  obtain ⟨⟨old,he⟩,⟨o,ho,hc,hd⟩,_⟩:=st
  have e':b=e∨b=it:=by simpa using hb
  rcases e' with z|z
  ·rw [z];exact ⟨_,he,fun v q=>nomatch q⟩
  ·rw [z];exact ⟨o,ho,fun v q=>by rw [hd] at q;cases q⟩
 keep:=fun i h h' st k=>let ⟨⟨old,he⟩,hi,hne⟩:=st;⟨⟨old,k e (by simp) _ he⟩,hi.at fun o q=>k it (by simp) o q,hne⟩
 item:=by
  intro X hP hw hK hc i pins s σ H E I hf st hg
  subst hP hw hK
  obtain ⟨⟨old,he⟩,hit,hne⟩:=st
  obtain ⟨xs,x,hq,hx⟩:=hg
  obtain ⟨its,rv,p,hz⟩:=I.list hq
  obtain ⟨u,hu,ru⟩:=rv.get hx
  have hel:e<s.heap.objs.size:=Heap.lt_size he
  have hil:it<s.heap.objs.size:=by obtain ⟨_,q,_⟩:=hit;exact Heap.lt_size q
  refine wpAny_pyNext_enum_item he hit p.isList (x:=u) (by simpa using hu) hne fun h' ho hit' hT hsz hk=>?_
  refine ⟨_,rfl,wpAny_letOwnedTupleGo_enum (s:={s with heap:=h',toks:=s.toks+1}) ho fun h'' he' sb=>?_⟩
  have hT2:h''.get? s.heap.objs.size=some {cls:=.type "tuple",data:=.seq #[.int i s.toks,u]}:=(sb.2 _ (Nat.ne_of_gt hel)).trans hT
  have new:ObjOk X.prog X.w (upd H s.heap.objs.size (.tup [.int (i:Nat),x])) h'' s.heap.objs.size (.tup [.int (i:Nat),x]):=
   ⟨by show 2≤sizeLine;decide,[.int i s.toks,u],.cons ⟨_,rfl⟩ (.cons ru .nil),⟨_,hT2,rfl,_,rfl⟩⟩
  have I1:Inv X pins σ (upd H s.heap.objs.size (.tup [.int (i:Nat),x])) {s with heap:=h'',toks:=s.toks+1}:=
   I.turnedNew (ch:=[e,it]) (fun b ob hb q=>(sb.2 b (fun z=>hb (by simp [z]))).trans (hk b ob (fun z=>hb (by simp [z])) (fun z=>hb (by simp [z])) q)) hf (Nat.le_refl _) new
  refine ⟨.ref s.heap.objs.size,_,I1,rfl,⟨_,x,rfl,I.hok.fresh (Nat.le_refl _),rfl,fun ys hy=>by rw [I.list_inj hy hq];exact hx⟩,⟨⟨u,?_⟩,hit'.at fun o q=>(sb.2 it (Ne.symm hne)).trans q,hne⟩,fun b hb=>?_⟩
  ·have e1:((i+1:Nat):Int)=(i:Int)+1:=by omega
   rw [e1];exact he'
  ·have hb':b<s.heap.objs.size:=by
    have e':b=e∨b=it:=by simpa using hb
    rcases e' with z|z
    ·rw [z];exact hel
    ·rw [z];exact hil
   rw [upd_ne (Nat.ne_of_lt hb')]
   exact (hf b hb).1
 done:=by
  intro X hP hw hK hc i pins s σ H E I hf st hg
  subst hP hw hK
  obtain ⟨⟨old,he⟩,hit,hne⟩:=st
  obtain ⟨xs,hq,hx⟩:=hg
  obtain ⟨its,rv,p,hz⟩:=I.list hq
  obtain ⟨f0,f1,f2,f3,f4,f5⟩:=hf it (by simp)
  have hl:=rv.length
  exact wpAny_pyNext_enum_end (I.ok.hd hc) he hit p.isList (by simp;omega) fun h' eb=>⟨rfl,I.turned (t':=s.toks) (fun b o hb q=>eb b o hb q) f0 f1 f3 f4 f5⟩
 self:=fun A i s Q E st h=>let ⟨⟨_,he⟩,_⟩:=st;wpAny_pyIter_enum he h
def iEnum (K:PySem.W.Frag) (ta:TA):TI:=fun σ H R=>ta σ H fun vs H1=>∃ a xs,vs=[.ref a]∧SqL K H1 a xs∧R (Ite K a) H1
theorem pi_enum {X:Cx} {e:Expr} {ta:TA} {p pos tpos:Pos} {elts:List Expr} {kk:Nat} (hg:Gl X "enumerate") (hm:X.mg "enumerate"=none) (ha:PA X [e] ta) (hs:starEach [e] X.env=[(false,eval e X.env)]:=by rfl):
  PI X (.Tuple elts kk tpos) (.Call (.Name "enumerate" p) [e] [] pos) (iEnum X.K ta):=by
 intro pins s σ H R I h
 refine Call_ (ld_blt I hg hm boot_enumerate (PyProof.Rows.callWith_type1 (thn (ha pos pins s σ H _ I h) fun us s1 ⟨vs,H1,I1,r1,q1⟩=>?_) hs rfl))
 obtain ⟨a,xs,ex,hq,q⟩:=q1
 subst ex
 cases r1 with
 |cons r rr=>
  cases rr
  cases r
  obtain ⟨its,rv,p',hz⟩:=I1.list hq
  refine call_enumerate_list p'.isList fun h' he hit hsz hk=>wpAny_pyIter_enum he ?_
  have I2:Inv X pins σ H1 {s1 with heap:=h'}:=I1.kept (t':=s1.toks) hk
  refine ⟨s1.heap.objs.size+1,[s1.heap.objs.size+1,s1.heap.objs.size],_,_,H1,rfl,I2,turn_enum a (s1.heap.objs.size+1) s1.heap.objs.size,⟨⟨.none,he⟩,hit,Nat.succ_ne_self _⟩,fun b hb=>?_,q⟩
  have e':b=s1.heap.objs.size+1∨b=s1.heap.objs.size:=by simpa using hb
  have hle:s1.heap.objs.size≤b:=by
   rcases e' with z|z
   ·rw [z];exact Nat.le_add_right _ _
   ·rw [z];exact Nat.le_refl _
  exact I1.fpOk hle (I1.hok.fresh hle)
end L2
section
namespace Bits
open PySem PyProof.Rows
end Bits
end
section
namespace TL
open PySem PySem.Builtin PySem.Builtin.Str PySem.StrLaws
end TL
end
namespace L2
open PySem PySem.Spec PyProof.Rows
section
variable {X:Cx} {pins:List (Addr×Obj)} {σ:St} {H:Hp} {s:Shared} {Q:VK}
end
section
variable {X:Cx}
end
section
variable {X:Cx} {o e:Expr} {to te:TE}
end
end L2
namespace L2
open PySem PySem.Spec PyProof.Rows
section
variable {X:Cx}
end
end L2
namespace Att
open PySem PySem.W PySem.Calls PyProof.Rows
section
variable {prog:Program} {w:World} {A:Around} {E:Value→Shared→Prop} {s:Shared} {K:Frag}
end
end Att
namespace L2
open PySem PySem.Spec PyProof.Rows
end L2
namespace L2
open PySem PySem.Spec PyProof.Rows
end L2
namespace L2
open PySem PySem.Spec PyProof.Rows
abbrev CX0:CXT:=fun _ _ _ _ _ _=>False
abbrev E0:XK:=fun _ _ _=>False
theorem pass0 {X:Cx}:Passes CX0 X E0:=fun _ _ _ _ _ _ _ h=>h.elim
structure Fun (K:PySem.W.Frag) (x qual:Str) (st:Stmt) (f:Addr) (fd:FuncData):Prop where
 ex:∃ (oc:Value) (od:Option Addr) (kV doc pm:Value) (an:Option Addr) (cdv ct:Value) (osl:Array (Option Value)),
  fd=PySem.W.fnOf x qual (defArgs st) (defBody st) (defScope st) .none kV doc pm an cdv ct∧K.lookup f=some ⟨oc,od,.func fd,osl⟩∧PySem.W.codeIn K cdv qual=true
 kp:PySem.W.keepIn K (.ref f)=true
section
variable {P:Program} {w:World} {K:PySem.W.Frag} {mg:Str→Option Value} {base:Heap}
theorem Fun.ok {x qual:Str} {st:Stmt} {f:Addr} {fd:FuncData} {N ps:List Str} {k:Nat} {sp:Sp} (F:Fun K x qual st f fd) (S:FnScope N ps (defScope st)) (len:∀ vs H Q E,sp vs H Q E→vs.length=ps.length)
  (hbody:∀ (cdv:Value) (A:Around) (outer:List Env) (s:Shared) (H:Hp) (vs:List V) (Q:VK) (E:XK),Room k (A.deeper (envOfC qual (defScope st) s.heap.objs.size f cdv))→sp vs H Q E→
   ∃ t,PSs (cxOf CX0 P w K mg base N qual (defScope st) f cdv A outer s H E).nox (defBody st) t∧t {nx:=fun _ H'=>Q .non H',rt:=Q} (start N vs) H):FnOk P w K mg base CX0 (k+1) f fd ps sp:=by
 obtain ⟨oc,od,kV,doc,pm,an,cdv,ct,osl,rfl,lk,hcd⟩:=F.ex
 refine fn_of lk hcd S len fun A outer s H vs Q E hr hsp=>?_
 obtain ⟨t,h,q⟩:=hbody cdv A outer s H vs Q E hr hsp
 exact ⟨t,h.nox,q⟩
theorem Fun.binds {x qual:Str} {st:Stmt} {f:Addr} {fd:FuncData} {ps:List Str} (F:Fun K x qual st f fd)
  (h:∀ (kV doc pm:Value) (an:Option Addr) (cdv ct:Value) (us:List Value),us.length=ps.length→bindArgs (PySem.W.fnOf x qual (defArgs st) (defBody st) (defScope st) .none kV doc pm an cdv ct) ⟨us,[]⟩=pure (ps.zip us)):Binds K fd ps []:=by
 obtain ⟨oc,od,kV,doc,pm,an,cdv,ct,osl,rfl,lk,hcd⟩:=F.ex
 exact .all (h kV doc pm an cdv ct)
theorem fun_mk {x qual:Str} {st:Stmt} {f:Addr} {oc:Value} {od an:Option Addr} {osl:Array (Option Value)} {kV doc pm cdv ct:Value} (l:K.lookup f=some ⟨oc,od,.func (PySem.W.fnOf x qual (defArgs st) (defBody st) (defScope st) .none kV doc pm an cdv ct),osl⟩)
  (c:PySem.W.codeIn K cdv qual=true) (k:PySem.W.keepIn K (.ref f)=true):Fun K x qual st f (PySem.W.fnOf x qual (defArgs st) (defBody st) (defScope st) .none kV doc pm an cdv ct):=⟨⟨oc,od,kV,doc,pm,an,cdv,ct,osl,rfl,l,c⟩,k⟩
end
theorem hu_of {A:Around} {k:Nat} (hr:Room k A):A.units+1<cLine:=Nat.lt_of_le_of_lt (Nat.add_le_add_left (by decide:1≤64) _) hr.units
section
variable {X:Cx}
theorem pv (i:Nat) {x:Str} {pos:Pos} (hN:X.N[i]?=some x:=by rfl) (hv:Vis X.env.scope x:=by first|exact Or.inl rfl|exact Or.inr (Or.inl rfl)|exact Or.inr (Or.inr rfl)) (hd:(x==("__debug__":Str))=false:=by decide)
  (hcd:(x==("__classdict__":Str))=false:=by decide):PE X (.Name x pos) (tVar i):=pe_var hN hv hd hcd
end
theorem iteF {A B:Prop} (h:B):if false=true then A else B:=by
 rw [if_neg Bool.false_ne_true]
 exact h
theorem iteT {A B:Prop} (h:A):if true=true then A else B:=by
 rw [if_pos rfl]
 exact h
theorem ite2 {c A B:Prop} [Decidable c] (h1:c→A) (h2:¬c→B):if c then A else B:=by
 by_cases h:c
 ·rw [if_pos h]
  exact h1 h
 ·rw [if_neg h]
  exact h2 h
def Same (H H':Hp):Prop:=∀ b o,H b=some o→H' b=some o
theorem Same.trans {H H1 H2:Hp} (a:Same H H1) (b:Same H1 H2):Same H H2:=fun c o h=>b c o (a c o h)
theorem Same.free {H H':Hp} (e:Same H H') {l:Addr} (h:H' l=Option.none):H l=Option.none:=by
 cases q:H l with
 |none=>rfl
 |some o=>
  rw [e l o q] at h
  cases h
theorem Same.seq {K:PySem.W.Frag} {H H':Hp} {a:Addr} {xs:List V} (e:Same H H') (h:SqL K H a xs):SqL K H' a xs:=by
 rcases h with (h|⟨o,h⟩)|h
 ·exact .inl (.inl (e _ _ h))
 ·exact .inl (.inr ⟨o,e _ _ h⟩)
 ·exact .inr h
section
variable {κ:Type} [DecidableEq κ]
end
end L2
section
set_option Elab.async false
set_option linter.all false
set_option maxRecDepth 100000
set_option maxHeartbeats 2000000
namespace L2
open PySem PySem.Spec PyProof.Rows
open PySem.W (WData Codec OpenSpec Well WellAll ReadsW ReadsAllW)
mutual
inductive Dw (K:PySem.W.Frag) (H:Hp):V→WData→Prop
 |non:Dw K H .non .none
 |bl (b:Bool):Dw K H (.bl b) (.bool b)
 |int (i:Int):Dw K H (.int i) (.int i)
 |str (x:Str):Dw K H (.str x) (.str x)
 |byt (b:Array UInt8):Dw K H (.byt b) (.bytes b.toList)
 |lst {a:Addr} {xs:List V} {ds:List WData}:SqL K H a xs→DwAll K H xs ds→Dw K H (.ref a) (.list ds)
 |tup {a:Addr} {xs:List V} {ds:List WData}:SqT K H a xs→DwAll K H xs ds→Dw K H (.ref a) (.tuple ds)
inductive DwAll (K:PySem.W.Frag) (H:Hp):List V→List WData→Prop
 |nil:DwAll K H [] []
 |cons {v:V} {vs:List V} {d:WData} {ds:List WData}:Dw K H v d→DwAll K H vs ds→DwAll K H (v::vs) (d::ds)
end
theorem dw_ints {K:PySem.W.Frag} {H:Hp}:∀ ns:List Int,DwAll K H (ns.map V.int) (ns.map WData.int)
 |[]=>.nil
 |n::r=>.cons (.int n) (dw_ints r)
theorem ints_dw {K:PySem.W.Frag} {H:Hp}:∀ (ns:List Int) (xs:List V),DwAll K H xs (ns.map WData.int)→xs=ns.map V.int
 |[],xs,h=>by
  cases h
  rfl
 |n::r,xs,h=>by
  cases h with
  |cons h1 h2=>
   cases h1
   rw [ints_dw r _ h2]<;>rfl
section
variable {P:Program} {w:World} {K:PySem.W.Frag} {H:Hp} {h:Heap} {R:PySem.W.WRecords} {cl:Str→Option Addr}
theorem sqL_at {a:Addr} {xs:List V} (hok:HOk P w H h) (KX:K.In h) (q:SqL K H a xs):∃ (its:List Value) (o:Obj) (n:Nat),Vals xs its∧h.get? a=some o∧o.cls=.type "list"∧o.data=.seq its.toArray n:=by
 rcases q with q|⟨o,its,n,e,hc,_,hd,_,hv⟩
 ·obtain ⟨_,its,n,hv,e⟩:=(show ObjOk P w H h a (.lst xs) from q.ok hok)
  exact ⟨its,_,n,hv,e,rfl,rfl⟩
 ·exact ⟨its.toList,o,n,hv,KX _ _ e,hc,by simp [hd]⟩
theorem sqT_at {a:Addr} {xs:List V} (hok:HOk P w H h) (KX:K.In h) (q:SqT K H a xs):∃ (its:List Value) (o:Obj) (n:Nat),Vals xs its∧h.get? a=some o∧o.cls=.type "tuple"∧o.data=.seq its.toArray n:=by
 rcases q with q|⟨o,its,n,e,hc,hd,_,hv⟩
 ·obtain ⟨_,its,hv,o,e,hc,n,hd⟩:=(show ObjOk P w H h a (.tup xs) from q.ok hok)
  exact ⟨its,o,n,hv,e,hc,hd⟩
 ·exact ⟨its.toList,o,n,hv,KX _ _ e,hc,by simp [hd]⟩
mutual
theorem Dw.reads (hok:HOk P w H h) (KX:K.In h):∀ (d:WData) (v:V) (u:Value),Dw K H v d→RelV v u→∃ as,ReadsW R cl h u d as
 |.none,_,_,x,r=>by
  cases x
  cases r
  exact ⟨_,ReadsW.none⟩
 |.bool b,_,_,x,r=>by
  cases x
  cases r
  exact ⟨_,ReadsW.bool b⟩
 |.int i,_,_,x,r=>by
  cases x
  obtain ⟨t,rfl⟩:=r
  exact ⟨_,ReadsW.int i t⟩
 |.str s,_,_,x,r=>by
  cases x
  obtain ⟨t,rfl⟩:=r
  exact ⟨_,ReadsW.str s t⟩
 |.bytes b,_,_,x,r=>by
  cases x
  obtain ⟨t,rfl⟩:=r
  exact ⟨_,ReadsW.bytes _ t⟩
 |.list ds,_,_,x,r=>by
  cases x with
  |lst hs ha=>
   cases r
   obtain ⟨its,o,n,rv,ho,hc,hd⟩:=sqL_at hok KX hs
   obtain ⟨as,hr⟩:=Dw.readsAll hok KX ds _ its ha rv
   exact ⟨_,ReadsW.list ho hc hd hr⟩
 |.tuple ds,_,_,x,r=>by
  cases x with
  |tup hs ha=>
   cases r
   obtain ⟨its,o,n,rv,ho,hc,hd⟩:=sqT_at hok KX hs
   obtain ⟨as,hr⟩:=Dw.readsAll hok KX ds _ its ha rv
   exact ⟨_,ReadsW.tuple ho hc hd hr⟩
 |.float _,_,_,x,_=>by cases x
 |.dict _,_,_,x,_=>by cases x
 |.bytearray _,_,_,x,_=>by cases x
 |.set _,_,_,x,_=>by cases x
 |.frozenset _,_,_,x,_=>by cases x
 |.obj _ _,_,_,x,_=>by cases x
theorem Dw.readsAll (hok:HOk P w H h) (KX:K.In h):∀ (ds:List WData) (vs:List V) (us:List Value),DwAll K H vs ds→Vals vs us→∃ as,ReadsAllW R cl h us ds as
 |[],_,_,x,r=>by
  cases x
  cases r
  exact ⟨_,ReadsAllW.nil⟩
 |d::ds,_,_,x,r=>by
  cases x with
  |cons h1 h2=>
   cases r with
   |cons r1 r2=>
    obtain ⟨as,q1⟩:=Dw.reads hok KX d _ _ h1 r1
    obtain ⟨bs,q2⟩:=Dw.readsAll hok KX ds _ _ h2 r2
    exact ⟨_,ReadsAllW.cons q1 q2⟩
end
end
mutual
def plW:WData→Bool
 |.none=>true
 |.bool _=>true
 |.int _=>true
 |.str _=>true
 |.bytes _=>true
 |.list xs=>plWs xs
 |.tuple xs=>plWs xs
 |_=>false
def plWs:List WData→Bool
 |[]=>true
 |x::r=>plW x && plWs r
end
theorem plWs_map {α:Type} {f:α→WData} (h:∀ a,plW (f a)=true):∀ l:List α,plWs (l.map f)=true
 |[]=>rfl
 |x::r=>by
  show (plW (f x) && plWs (r.map f))=true
  rw [h x,plWs_map h r]<;>rfl
theorem pl_enc:∀ (c:Codec) (a:c.denote),plW (c.enc a)=true
 |.unit,_=>rfl
 |.bool,_=>rfl
 |.int _ _,_=>rfl
 |.nat _ _,_=>rfl
 |.u8,_=>rfl
 |.bytes _ _,_=>rfl
 |.text _ _ _ _,_=>rfl
 |.list _ _ c,a=>plWs_map (fun x=>pl_enc c x) a
 |.pair c d,a=>by
  show (plW (c.enc a.1) && (plW (d.enc a.2) && true))=true
  rw [pl_enc c a.1,pl_enc d a.2]<;>rfl
 |.triple c d e,a=>by
  show (plW (c.enc a.1) && (plW (d.enc a.2.1) && (plW (e.enc a.2.2) && true)))=true
  rw [pl_enc c a.1,pl_enc d a.2.1,pl_enc e a.2.2]<;>rfl
 |.option c,none=>rfl
 |.option c,some x=>pl_enc c x
theorem pl_encAll:∀ (cs:List Codec) (a:Codec.denoteAll cs),plWs (Codec.encAll cs a)=true
 |[],_=>rfl
 |c::cs,a=>by
  show (plW (c.enc a.1) && plWs (Codec.encAll cs a.2))=true
  rw [pl_enc c a.1,pl_encAll cs a.2]<;>rfl
theorem weight_mem:∀ {xs:List WData} {d:WData},d∈xs→d.weight≤WData.weightAll xs
 |[],d,h=>absurd h (by simp)
 |x::r,d,h=>by
  show d.weight≤x.weight+1+WData.weightAll r
  rcases List.mem_cons.mp h with e|m
  ·rw [e]
   omega
  ·have z:=weight_mem m
   omega
def toV:Value→V
 |.none=>.non
 |.bool b=>.bl b
 |.int i _=>.int i
 |.str x _=>.str x
 |.bytes b _=>.byt b
 |.ref a=>.ref a
 |_=>.non
def OkU (A:List Addr):Value→Prop
 |.none=>True
 |.bool _=>True
 |.int _ _=>True
 |.str _ _=>True
 |.bytes _ _=>True
 |.ref a=>a∈A
 |_=>False
theorem OkU.mono {A B:List Addr} (h:∀ a∈A,a∈B):∀ {u:Value},OkU A u→OkU B u:=fun {u} x=>by
 cases u with
 |ref a=>exact h a x
 |none=>trivial
 |bool b=>trivial
 |int i t=>trivial
 |str s t=>trivial
 |bytes b t=>trivial
 |_=>exact False.elim x
theorem relV_toV {A:List Addr} {u:Value} (x:OkU A u):RelV (toV u) u:=by
 cases u with
 |ref a=>rfl
 |none=>rfl
 |bool b=>rfl
 |int i t=>exact ⟨t,rfl⟩
 |str s t=>exact ⟨t,rfl⟩
 |bytes b t=>exact ⟨t,rfl⟩
 |_=>exact False.elim x
theorem vals_toV {A:List Addr}:∀ {vs:List Value},(∀ u∈vs,OkU A u)→Vals (vs.map toV) vs
 |[],_=>.nil
 |u::r,h=>.cons (relV_toV (h u (List.mem_cons_self ..))) (vals_toV fun x hx=>h x (List.mem_cons_of_mem _ hx))
def ArgOb (h:Heap) (A:List Addr) (a:Addr):Prop:=∃ vs:List Value,vs.length≤sizeLine∧(∀ u∈vs,OkU A u)∧
 (h.get? a=some {cls:=.type "list",data:=.seq vs.toArray}∨h.get? a=some {cls:=.type "tuple",data:=.seq vs.toArray})
theorem ArgOb.mono {h:Heap} {A B:List Addr} {a:Addr} (k:∀ a∈A,a∈B) (x:ArgOb h A a):ArgOb h B a:=by
 obtain ⟨vs,h1,h2,h3⟩:=x
 exact ⟨vs,h1,fun u hu=>(h2 u hu).mono k,h3⟩
theorem wellAll_len {P:Params} {h:Heap}:∀ {vs:List Value} {ds:List WData},WellAll P h vs ds→vs.length=ds.length
 |_,_,.nil=>rfl
 |_,_,.cons _ b=>by
  show _+1=_+1
  rw [wellAll_len b]
theorem well_list {P:Params} {h:Heap} {v:Value} {ds:List WData} (x:Well P h v (.list ds)):∃ (a:Addr) (vs:List Value),v=.ref a∧h.get? a=some {cls:=.type "list",data:=.seq vs.toArray}∧WellAll P h vs ds:=by
 cases x with
 |list ho hall=>exact ⟨_,_,rfl,ho,hall⟩
theorem well_tuple {P:Params} {h:Heap} {v:Value} {ds:List WData} (x:Well P h v (.tuple ds)):∃ (a:Addr) (vs:List Value),v=.ref a∧h.get? a=some {cls:=.type "tuple",data:=.seq vs.toArray}∧WellAll P h vs ds:=by
 cases x with
 |tuple ho hall=>exact ⟨_,_,rfl,ho,hall⟩
theorem well_cons {P:Params} {h:Heap} {us:List Value} {d:WData} {ds:List WData} (x:WellAll P h us (d::ds)):∃ (v:Value) (vs:List Value),us=v::vs∧Well P h v d∧WellAll P h vs ds:=by
 cases x with
 |cons a b=>exact ⟨_,_,rfl,a,b⟩
theorem line_of {n:Nat} (h:n≤1048576):n≤sizeLine:=Nat.le_trans h (by decide)
section
variable {P:Params} {h:Heap}
mutual
theorem area_one:∀ (d:WData) (v:Value),Well P h v d→plW d=true→d.weight≤1048576→∃ A:List Addr,OkU A v∧∀ a∈A,ArgOb h A a
 |.none,_,x,_,_=>by
  cases x
  exact ⟨[],trivial,fun a m=>absurd m (by simp)⟩
 |.bool b,_,x,_,_=>by
  cases x
  exact ⟨[],trivial,fun a m=>absurd m (by simp)⟩
 |.int i,_,x,_,_=>by
  cases x
  exact ⟨[],trivial,fun a m=>absurd m (by simp)⟩
 |.str s,_,x,_,_=>by
  cases x
  exact ⟨[],trivial,fun a m=>absurd m (by simp)⟩
 |.bytes b,_,x,_,_=>by
  cases x
  exact ⟨[],trivial,fun a m=>absurd m (by simp)⟩
 |.list ds,_,x,p,z=>by
  obtain ⟨a,vs,rfl,ho,hall⟩:=well_list x
  have z2:WData.weightAll ds≤1048576:=z
  obtain ⟨A,h1,h2⟩:=area_all ds _ hall p fun d hd=>Nat.le_trans (weight_mem hd) z2
  have k:∀ b∈A,b∈a::A:=fun b hb=>List.mem_cons_of_mem _ hb
  refine ⟨a::A,List.mem_cons_self ..,fun b hb=>?_⟩
  rcases List.mem_cons.mp hb with e|m
  ·rw [e]
   exact ⟨vs,line_of (by rw [wellAll_len hall];exact Nat.le_trans (PySem.W.length_le_weightAllW ds) z2),fun u hu=>(h1 u hu).mono k,.inl ho⟩
  ·exact (h2 b m).mono k
 |.tuple ds,_,x,p,z=>by
  obtain ⟨a,vs,rfl,ho,hall⟩:=well_tuple x
  have z2:WData.weightAll ds≤1048576:=z
  obtain ⟨A,h1,h2⟩:=area_all ds _ hall p fun d hd=>Nat.le_trans (weight_mem hd) z2
  have k:∀ b∈A,b∈a::A:=fun b hb=>List.mem_cons_of_mem _ hb
  refine ⟨a::A,List.mem_cons_self ..,fun b hb=>?_⟩
  rcases List.mem_cons.mp hb with e|m
  ·rw [e]
   exact ⟨vs,line_of (by rw [wellAll_len hall];exact Nat.le_trans (PySem.W.length_le_weightAllW ds) z2),fun u hu=>(h1 u hu).mono k,.inr ho⟩
  ·exact (h2 b m).mono k
 |.float _,_,_,p,_=>Bool.noConfusion (show false=true from p)
 |.dict _,_,_,p,_=>Bool.noConfusion (show false=true from p)
 |.bytearray _,_,_,p,_=>Bool.noConfusion (show false=true from p)
 |.set _,_,_,p,_=>Bool.noConfusion (show false=true from p)
 |.frozenset _,_,_,p,_=>Bool.noConfusion (show false=true from p)
 |.obj _ _,_,_,p,_=>Bool.noConfusion (show false=true from p)
theorem area_all:∀ (ds:List WData) (vs:List Value),WellAll P h vs ds→plWs ds=true→(∀ d∈ds,d.weight≤1048576)→∃ A:List Addr,(∀ u∈vs,OkU A u)∧∀ a∈A,ArgOb h A a
 |[],_,x,_,_=>by
  cases x
  exact ⟨[],fun u m=>absurd m (by simp),fun a m=>absurd m (by simp)⟩
 |d::ds,_,x,p,z=>by
  obtain ⟨v,vs,rfl,x1,x2⟩:=well_cons x
  have q:plW d=true∧plWs ds=true:=Bool.and_eq_true_iff.mp p
  obtain ⟨A,a1,a2⟩:=area_one d v x1 q.1 (z d (List.mem_cons_self ..))
  obtain ⟨B,b1,b2⟩:=area_all ds vs x2 q.2 fun e he=>z e (List.mem_cons_of_mem _ he)
  have kA:∀ b∈A,b∈A++B:=fun b hb=>List.mem_append.mpr (.inl hb)
  have kB:∀ b∈B,b∈A++B:=fun b hb=>List.mem_append.mpr (.inr hb)
  refine ⟨A++B,fun u hu=>?_,fun b hb=>?_⟩
  ·rcases List.mem_cons.mp hu with e|m
   ·rw [e]
    exact a1.mono kA
   ·exact (b1 u m).mono kB
  ·rcases List.mem_append.mp hb with m|m
   ·exact (a2 b m).mono kA
   ·exact (b2 b m).mono kB
end
end
def hoOf (o:Obj):Option HO:=match o.data with
 |.seq vs _=>if (o.cls==Value.type "list")=true then some (.frz o (.lst (vs.toList.map toV))) else some (.frz o (.tup (vs.toList.map toV)))
 |_=>none
def argH (K:PySem.W.Frag) (h:Heap) (A:List Addr):Hp:=fun b=>if b∈A then (if (K.lookup b).isNone=true then (h.get? b).bind hoOf else none) else none
def OnlyF (H:Hp):Prop:=∀ b,H b=none∨∃ o u,H b=some (.frz o u)
theorem hoOf_lst (vs:List Value):hoOf {cls:=.type "list",data:=.seq vs.toArray}=some (.frz {cls:=.type "list",data:=.seq vs.toArray} (.lst (vs.map toV))):=by
 show (if (Value.type "list"==Value.type "list")=true then some (HO.frz {cls:=.type "list",data:=.seq vs.toArray} (.lst (vs.toArray.toList.map toV))) else some (HO.frz {cls:=.type "list",data:=.seq vs.toArray} (.tup (vs.toArray.toList.map toV))))=_
 rw [if_pos (beq_self_eq_true _)]
theorem hoOf_tup (vs:List Value):hoOf {cls:=.type "tuple",data:=.seq vs.toArray}=some (.frz {cls:=.type "tuple",data:=.seq vs.toArray} (.tup (vs.map toV))):=by
 show (if (Value.type "tuple"==Value.type "list")=true then some (HO.frz {cls:=.type "tuple",data:=.seq vs.toArray} (.lst (vs.toArray.toList.map toV))) else some (HO.frz {cls:=.type "tuple",data:=.seq vs.toArray} (.tup (vs.toArray.toList.map toV))))=_
 rw [if_neg (by decide)]
section
variable {P:Program} {w:World} {K:PySem.W.Frag} {h:Heap} {A:List Addr}
theorem argH_at {b:Addr} {o:Obj} (hb:b∈A) (hk:K.lookup b=none) (e:h.get? b=some o):argH K h A b=hoOf o:=by
 unfold argH
 rw [if_pos hb,hk,if_pos (show (none:Option Obj).isNone=true from rfl),e]<;>rfl
theorem of_argH {b:Addr} {u:HO} (q:argH K h A b=some u):b∈A∧K.lookup b=none:=by
 unfold argH at q
 by_cases hb:b∈A
 ·rw [if_pos hb] at q
  cases hk:K.lookup b with
  |none=>exact ⟨hb,rfl⟩
  |some o=>
   rw [hk,if_neg (by simp)] at q
   cases q
 ·rw [if_neg hb] at q
  cases q
theorem argH_is (ar:∀ a∈A,ArgOb h A a) {b:Addr} {u:HO} (q:argH K h A b=some u):K.lookup b=none∧∃ vs:List Value,vs.length≤sizeLine∧(∀ u∈vs,OkU A u)∧
  ((h.get? b=some {cls:=.type "list",data:=.seq vs.toArray}∧u=.frz {cls:=.type "list",data:=.seq vs.toArray} (.lst (vs.map toV)))∨
   (h.get? b=some {cls:=.type "tuple",data:=.seq vs.toArray}∧u=.frz {cls:=.type "tuple",data:=.seq vs.toArray} (.tup (vs.map toV)))):=by
 obtain ⟨hb,hk⟩:=of_argH q
 obtain ⟨vs,h1,h2,h3⟩:=ar b hb
 refine ⟨hk,vs,h1,h2,?_⟩
 rcases h3 with e|e
 ·rw [argH_at hb hk e,hoOf_lst] at q
  exact .inl ⟨e,(Option.some.inj q).symm⟩
 ·rw [argH_at hb hk e,hoOf_tup] at q
  exact .inr ⟨e,(Option.some.inj q).symm⟩
theorem argH_only (ar:∀ a∈A,ArgOb h A a):OnlyF (argH K h A):=fun b=>by
 cases q:argH K h A b with
 |none=>exact .inl rfl
 |some u=>
  obtain ⟨_,vs,_,_,⟨_,e⟩|⟨_,e⟩⟩:=argH_is ar q
  ·exact .inr ⟨_,_,by rw [e]⟩
  ·exact .inr ⟨_,_,by rw [e]⟩
theorem argH_ok (ar:∀ a∈A,ArgOb h A a):HOk P w (argH K h A) h:=fun b u q=>by
 obtain ⟨_,vs,h1,h2,⟨e,rfl⟩|⟨e,rfl⟩⟩:=argH_is ar q
 ·exact ⟨e,by rw [List.length_map];exact h1,vs,_,vals_toV h2,e⟩
 ·exact ⟨e,by rw [List.length_map];exact h1,vs,vals_toV h2,_,e,rfl,_,rfl⟩
theorem seq_inj {c c':Value} {vs us:List Value} (e:(some {cls:=c,data:=.seq vs.toArray}:Option Obj)=some {cls:=c',data:=.seq us.toArray}):c=c'∧vs=us:=by
 have e1:=Option.some.inj e
 have e2:c=c':=congrArg Obj.cls e1
 have e3:Data.seq vs.toArray=Data.seq us.toArray:=congrArg Obj.data e1
 injection e3 with e4
 refine ⟨e2,?_⟩
 have e5:=congrArg Array.toList e4
 simpa using e5
theorem argL (KX:K.In h) (ar:∀ a∈A,ArgOb h A a) {a:Addr} {vs:List Value} (ha:a∈A) (e:h.get? a=some {cls:=.type "list",data:=.seq vs.toArray}):(∀ u∈vs,OkU A u)∧SqL K (argH K h A) a (vs.map toV):=by
 obtain ⟨us,h1,h2,h3⟩:=ar a ha
 have hu:us=vs:=by
  rcases h3 with q|q
  ·rw [e] at q
   exact (seq_inj q).2.symm
  ·rw [e] at q
   exact absurd (Value.type.inj (seq_inj q).1) (by decide)
 subst hu
 refine ⟨h2,?_⟩
 cases hk:K.lookup a with
 |none=>exact .inl (.inr ⟨_,by rw [argH_at ha hk e,hoOf_lst]⟩)
 |some o=>
  have e2:=KX a o hk
  rw [e] at e2
  obtain rfl:=Option.some.inj e2
  exact .inr ⟨_,us.toArray,_,hk,rfl,rfl,rfl,by rw [List.size_toArray];exact h1,by simpa using vals_toV h2⟩
theorem argT (KX:K.In h) (ar:∀ a∈A,ArgOb h A a) {a:Addr} {vs:List Value} (ha:a∈A) (e:h.get? a=some {cls:=.type "tuple",data:=.seq vs.toArray}):(∀ u∈vs,OkU A u)∧SqT K (argH K h A) a (vs.map toV):=by
 obtain ⟨us,h1,h2,h3⟩:=ar a ha
 have hu:us=vs:=by
  rcases h3 with q|q
  ·rw [e] at q
   exact absurd (Value.type.inj (seq_inj q).1) (by decide)
  ·rw [e] at q
   exact (seq_inj q).2.symm
 subst hu
 refine ⟨h2,?_⟩
 cases hk:K.lookup a with
 |none=>exact .inl (.inr ⟨_,by rw [argH_at ha hk e,hoOf_tup]⟩)
 |some o=>
  have e2:=KX a o hk
  rw [e] at e2
  obtain rfl:=Option.some.inj e2
  exact .inr ⟨_,us.toArray,_,hk,rfl,rfl,by rw [List.size_toArray];exact h1,by simpa using vals_toV h2⟩
mutual
theorem dw_one {Pm:Params} (KX:K.In h) (ar:∀ a∈A,ArgOb h A a):∀ (d:WData) (v:Value),Well Pm h v d→plW d=true→OkU A v→Dw K (argH K h A) (toV v) d
 |.none,_,x,_,_=>by
  cases x
  exact .non
 |.bool b,_,x,_,_=>by
  cases x
  exact .bl b
 |.int i,_,x,_,_=>by
  cases x
  exact .int i
 |.str s,_,x,_,_=>by
  cases x
  exact .str s
 |.bytes b,_,x,_,_=>by
  cases x
  have z:=Dw.byt (K:=K) (H:=argH K h A) b.toArray
  exact z
 |.list ds,_,x,p,hu=>by
  obtain ⟨a,vs,rfl,ho,hall⟩:=well_list x
  obtain ⟨h2,hs⟩:=argL KX ar hu ho
  exact .lst hs (dw_all KX ar ds _ hall p h2)
 |.tuple ds,_,x,p,hu=>by
  obtain ⟨a,vs,rfl,ho,hall⟩:=well_tuple x
  obtain ⟨h2,hs⟩:=argT KX ar hu ho
  exact .tup hs (dw_all KX ar ds _ hall p h2)
 |.float _,_,_,p,_=>Bool.noConfusion (show false=true from p)
 |.dict _,_,_,p,_=>Bool.noConfusion (show false=true from p)
 |.bytearray _,_,_,p,_=>Bool.noConfusion (show false=true from p)
 |.set _,_,_,p,_=>Bool.noConfusion (show false=true from p)
 |.frozenset _,_,_,p,_=>Bool.noConfusion (show false=true from p)
 |.obj _ _,_,_,p,_=>Bool.noConfusion (show false=true from p)
theorem dw_all {Pm:Params} (KX:K.In h) (ar:∀ a∈A,ArgOb h A a):∀ (ds:List WData) (vs:List Value),WellAll Pm h vs ds→plWs ds=true→(∀ u∈vs,OkU A u)→DwAll K (argH K h A) (vs.map toV) ds
 |[],_,x,_,_=>by
  cases x
  exact .nil
 |d::ds,_,x,p,hu=>by
  obtain ⟨v,vs,rfl,x1,x2⟩:=well_cons x
  have q:plW d=true∧plWs ds=true:=Bool.and_eq_true_iff.mp p
  exact .cons (dw_one KX ar d v x1 q.1 (hu _ (List.mem_cons_self ..))) (dw_all KX ar ds vs x2 q.2 fun u m=>hu u (List.mem_cons_of_mem _ m))
end
end
theorem spec_call {P:Program} {w:World} {K:PySem.W.Frag} {mg mb:Str→Option Value} {CX:CXT} {k:Nat} {fa:Addr} {fd:FuncData} {ps:List Str} {sp:Sp} {s₁:Shared} {vals:List Value} {ds:List WData} {R:PySem.W.WRecords} {cl:Str→Option Addr} {d0:WData}
  (KX:K.In s₁.heap) (hns:s₁.heap.Ns mainGlobals mg) (hb:s₁.heap.Ns builtinsNs mb) (hbb:∀ x:Str,x≠"__name__"→mb x=bootBuiltins x) (hlim:s₁.heap.NoLimit) (hg:s₁.gens=#[])
  (hwl:WellAll w.params s₁.heap vals ds) (hpl:plWs ds=true) (hwt:∀ d∈ds,d.weight≤1048576) (hr:Room k callerA)
  (F:∀ base:Heap,K.In base→base.Ns mainGlobals mg→FnOk P w K mg base CX k fa fd ps sp) (hbind:∀ (s:Shared) (us:List Value),us.length=ps.length→BindsTo s fd ⟨us,[]⟩ (ps.zip us)) (hlen:ds.length=ps.length)
  (hsp:∀ (H:Hp) (xs:List V),OnlyF H→DwAll K H xs ds→sp xs H (fun v H'=>Dw K H' v d0) fun _ _ _=>False)
  (hCX:∀ H e s',CX [] H s₁ (fun _ _ _=>False) e s'→False):
  codeAny (model P w) callerA (.call (.ref fa) ⟨vals,[]⟩) (fun r s'=>∃ u as,r=.ok (.ret u)∧ReadsW R cl s'.heap u d0 as∧OldK s₁.heap s'.heap∧s'.os=s₁.os∧AllBare s'.gens) s₁:=by
 obtain ⟨A,ho,ar⟩:=area_all ds vals hwl hpl hwt
 have hO:OnlyF (argH K s₁.heap A):=argH_only ar
 have hok:HOk P w (argH K s₁.heap A) s₁.heap:=argH_ok ar
 have hS:=dw_all KX ar ds vals hwl hpl ho
 have hV:=vals_toV ho
 have hK:∀ b u,argH K s₁.heap A b=some u→K.lookup b=none:=fun b u q=>(argH_is ar q).1
 have noA:∀ {b:Addr} {o:Obj} {es:Array DictEntry} {ep:Nat},s₁.heap.get? b=some o→o.data=.dict es ep→argH K s₁.heap A b=none:=fun {b o es ep} e d=>by
  cases q:argH K s₁.heap A b with
  |none=>rfl
  |some u=>
   obtain ⟨_,vs,_,_,⟨e2,_⟩|⟨e2,_⟩⟩:=argH_is ar q
   ·rw [e2] at e
    cases e
    have d':Data.seq vs.toArray _=Data.dict es ep:=d
    cases d'
   ·rw [e2] at e
    cases e
    have d':Data.seq vs.toArray _=Data.dict es ep:=d
    cases d'
 generalize argH K s₁.heap A=H at hO hok hS hK noA
 have base_of:∀ {b:Addr} {o:Obj},s₁.heap.get? b=some o→H b=none→(hidT s₁.heap H).get? b=some o:=fun e n=>hidT_get e n
 have nsK:∀ {b:Addr} {m:Str→Option Value},s₁.heap.Ns b m→(hidT s₁.heap H).Ns b m:=fun {b m} ⟨o,es,ep,e,d,r⟩=>⟨o,es,ep,base_of e (noA e d),d,r⟩
 have nK:∀ b o,K.lookup b=some o→H b=none:=fun b o e=>by
  cases q:H b with
  |none=>rfl
  |some u=>
   rw [hK b u q] at e
   cases e
 have hKb:K.In (hidT s₁.heap H):=fun b o e=>base_of (KX b o e) (nK b o e)
 have hM:Mod K mg (hidT s₁.heap H):=⟨hKb,nsK hns,⟨mb,nsK hb,hbb⟩,let ⟨mc,h1,h2⟩:=hlim;⟨mc,nsK h1,h2⟩⟩
 have e0:Env0 P w K mg (hidT s₁.heap H) callerA [] s₁ H:=⟨rfl,hM,fun b o e=>of_hidT e,Nat.le_of_eq (hidT_size _ _),trivial,fun b hb=>absurd (show b∈([]:List Addr) from hb) (by simp),hok,.of_eq hg⟩
 have hl:vals.length=ps.length:=by rw [wellAll_len hwl];exact hlen
 refine codeAny_mono ((F _ hKb (nsK hns)).run callerA [] s₁ H ⟨vals,[]⟩ vals (vals.map toV) _ _ hr e0 (hbind s₁ vals hl) hV (hsp H _ hO hS)) fun r s' x=>?_
 cases r with
 |error e=>exact (hCX H e s' x).elim
 |ok fl=>
  cases fl with
  |next=>exact False.elim x
  |brk=>exact False.elim x
  |cont=>exact False.elim x
  |ret u=>
   obtain ⟨v,H',os,bare,un,hok',r',q⟩:=x
   have kept:∀ b o,s₁.heap.get? b=some o→s'.heap.get? b=some o:=fun b o e=>by
    cases q2:H b with
    |none=>exact un.keep b o e q2 (by intro z;exact absurd (show b∈([]:List Addr) from z) (by simp)) (by simp)
    |some u2=>
     rcases hO b with z|⟨ob,u3,z⟩
     ·rw [q2] at z
      cases z
     ·have z2:=un.frzs b ob _ z
      obtain ⟨e1,_⟩:=hok b _ z
      obtain ⟨e2,_⟩:=hok' b _ z2
      rw [e] at e1
      cases e1
      exact e2
   have KX':K.In s'.heap:=fun b o e=>kept b o (KX b o e)
   obtain ⟨as,hrd⟩:=Dw.reads (R:=R) (cl:=cl) hok' KX' d0 v u q r'
   exact ⟨u,as,rfl,hrd,OldK.of_keep kept,os,bare⟩
theorem layable_weight {ds:List WData} (h:WData.layableAll ds=true):∀ d∈ds,d.weight≤1048576:=fun d hd=>
 (PySem.W.layableW_iff.mp (List.all_eq_true.mp h d hd)).2.2
theorem encAll_len:∀ (cs:List Codec) (a:Codec.denoteAll cs),(Codec.encAll cs a).length=cs.length
 |[],_=>rfl
 |c::cs,a=>by
  show (Codec.encAll cs a.2).length+1=cs.length+1
  rw [encAll_len cs a.2]
end L2
end
set_option Elab.async false
set_option linter.all false
set_option maxRecDepth 100000
set_option maxHeartbeats 1000000
namespace L2
open PySem PySem.Spec PyProof.Rows
structure Noted (fr:List Addr) (e T0 T:Addr) (h h':Heap):Prop where
 keep:∀ b o,b∉fr→b≠e→b≠T0→h.get? b=some o→h'.get? b=some o
 slot:∀ b o,b∈fr→h.get? b=some o→∃ sl,h'.get? b=some {o with slots:=sl}
 big:h.objs.size≤T
 self:∀ oe vs,h.get? e=some oe→oe.data=.fields vs→1<vs.size→∃ oe' vs',h'.get? e=some oe'∧oe'.cls=oe.cls∧oe'.dict=oe.dict∧oe'.data=.fields vs'∧vs'.size=vs.size∧vs'[1]?=some (.ref T)
 head:∃ oT ts,h'.get? T=some oT∧oT.data=.fields ts∧ts[3]?=some .none
 old:∀ o,h.get? T0=some o→∃ o',h'.get? T0=some o'
theorem mapFields_parts (o:Obj) (f:Array Value→Array Value):(o.mapFields f).cls=o.cls∧(o.mapFields f).dict=o.dict:=by
 obtain ⟨c,d,dt,sl⟩:=o
 cases dt<;>exact ⟨rfl,rfl⟩
section
variable {M:Model} {A:Around} {E:Value→Shared→Prop} {s:Shared}
theorem newEntry_x {base:Heap} {env:Env} {outer:List Env} {L e:Addr} {oe:Obj} {vs:Array Value} {head:Value} {hadNext:Bool} {Q:Unit→Shared→Prop}
  (hfr:A.frames=some (env::outer)) (hl:s.heap.FunFrames base (env::outer)) (hf:env.frame=some L)
  (he:s.heap.get? e=some oe) (hd:oe.data=.fields vs) (hsz:1<vs.size)
  (h:∀ h' T,Noted ((env::outer).filterMap (·.frame)) e e T s.heap h'→Q () {s with heap:=h'}):
  wpAny M A (do let a ←frameOf env;let pl ←entryPlaceOf L hadNext;let b ←EntryCells.newEntry head a .none (rawInt L) .none pl;setField (.ref e) 1 b) (fun _ s'=>wpAny M A (setFlight (.ref e) none) Q E s') E s:=by
 have hene:e∉(env::outer).filterMap (·.frame):=fun hm=>by
  obtain ⟨_,o,ho,hnf⟩:=hl.mem hm
  rw [he] at ho;injection ho with ho;subst ho;exact hnf vs hd
 refine wpAny_bind (wpAny_frameOf_fun hfr hl hf fun h₁ hs₁=>?_)
 refine wpAny_bind (wpAny_entryPlaceOf fun pl hpl=>?_)
 unfold EntryCells.newEntry newFields
 refine wpAny_bind (wpAny_newObj_type ?_ (hpl.sizeOk5 _ _ _ _ _))
 have he₁:h₁.get? e=some oe:=(hs₁.2.1 e hene).trans he
 have he₂:=Heap.get?_push_of_some (h:=h₁) {cls:=.type "traceback",dict:=none,data:=.fields ([head,.ref L,.none,rawInt L,.none]++(if pl.isEmpty then List.replicate 6 Value.none else pl)).toArray} he₁
 refine wpAny_setField he₂ hd hsz ?_
 have hTe:h₁.objs.size≠e:=Nat.ne_of_gt (Heap.lt_size he₁)
 have hd₃:=Obj.data_mapFields hd (·.setIfInBounds 1 (Value.ref h₁.objs.size))
 have he₃:=Heap.get?_update_self (Obj.mapFields (·.setIfInBounds 1 (Value.ref h₁.objs.size))) he₂ (Obj.isFreed_of_fields hd₃)
 have hT₃:=(Heap.get?_update_other (h₁.push {cls:=.type "traceback",dict:=none,data:=.fields ([head,.ref L,.none,rawInt L,.none]++(if pl.isEmpty then List.replicate 6 Value.none else pl)).toArray})
  (Obj.mapFields (·.setIfInBounds 1 (Value.ref h₁.objs.size))) (Ne.symm hTe)).trans (Heap.get?_push_size h₁ rfl)
 unfold setFlight
 refine wpAny_bind (wpAny_field he₃ hd₃ (x:=.ref h₁.objs.size) (by simp [hsz]) ?_)
 rw [if_pos (show (Value.ref h₁.objs.size !=Value.none)=true from by simp)]
 refine wpAny_setField hT₃ rfl (by simp only [List.size_toArray,List.length_append,List.length_cons,List.length_nil]<;>(clear hTe hene hsz;omega)) (h _ h₁.objs.size ?_)
 have keep:∀ b o,b≠e→h₁.get? b=some o→
   (((h₁.push {cls:=.type "traceback",dict:=none,data:=.fields ([head,.ref L,.none,rawInt L,.none]++(if pl.isEmpty then List.replicate 6 Value.none else pl)).toArray}).update e (Obj.mapFields (·.setIfInBounds 1 (Value.ref h₁.objs.size)))).update h₁.objs.size
    (Obj.mapFields (·.setIfInBounds 3 ((none:Option Addr).elim Value.none fun f=>rawInt f)))).get? b=some o:=fun b o hbe hb=>by
  have hbT:h₁.objs.size≠b:=Nat.ne_of_gt (Heap.lt_size hb)
  rw [Heap.get?_update_other _ _ hbT,Heap.get?_update_other _ _ (Ne.symm hbe)]
  exact Heap.get?_push_of_some _ hb
 have he₄:=(Heap.get?_update_other ((h₁.push {cls:=.type "traceback",dict:=none,data:=.fields ([head,.ref L,.none,rawInt L,.none]++(if pl.isEmpty then List.replicate 6 Value.none else pl)).toArray}).update e (Obj.mapFields (·.setIfInBounds 1 (Value.ref h₁.objs.size))))
  (Obj.mapFields (·.setIfInBounds 3 ((none:Option Addr).elim Value.none fun f=>rawInt f))) hTe).trans he₃
 refine ⟨fun b o hb hbe _ hbo=>keep b o hbe ((hs₁.2.1 b hb).trans hbo),fun b o hb hbo=>?_,Nat.le_of_eq hs₁.1.symm,fun oe' vs' h1 h2 _=>?_,?_,fun o ho=>⟨_,he₄⟩⟩
 ·obtain ⟨sl,hs⟩:=hs₁.2.2 b o hbo
  exact ⟨sl,keep b _ (fun q=>hene (q▸hb)) hs⟩
 ·rw [he] at h1;cases h1
  rw [hd] at h2;cases h2
  exact ⟨_,_,he₄,(mapFields_parts _ _).1,(mapFields_parts _ _).2,hd₃,by simp,by simp [hsz]⟩
 ·exact ⟨_,_,Heap.get?_update_self _ hT₃ (Obj.isFreed_of_fields (Obj.data_mapFields rfl _)),Obj.data_mapFields rfl _,by first|(simp;done)|(rcases hpl with rfl|⟨_,_,_,_,_,_,_,rfl⟩<;>simp)⟩
theorem note_first {base:Heap} {env:Env} {outer:List Env} {L e:Addr} {oe:Obj} {vs:Array Value} {Q:Unit→Shared→Prop}
  (hfr:A.frames=some (env::outer)) (hl:s.heap.FunFrames base (env::outer)) (hf:env.frame=some L)
  (he:s.heap.get? e=some oe) (hd:oe.data=.fields vs) (h1:vs[1]?=some .none)
  (h:∀ h' T,Noted ((env::outer).filterMap (·.frame)) e e T s.heap h'→Q () {s with heap:=h'}):
  wpAny M A (noteFrame (.ref e) env) (fun _ s'=>wpAny M A (setFlight (.ref e) none) Q E s') E s:=by
 unfold noteFrame
 simp only [hf]
 refine wpAny_bind (wpAny_field he hd h1 ?_)
 rw [if_neg (by decide)]
 exact newEntry_x hfr hl hf he hd (Array.getElem?_eq_some_iff.mp h1).1 h
theorem note_next {base:Heap} {env:Env} {outer:List Env} {L e T oeT:Addr} {oe oT:Obj} {vs ts:Array Value} {Q:Unit→Shared→Prop}
  (hfr:A.frames=some (env::outer)) (hl:s.heap.FunFrames base (env::outer)) (hf:env.frame=some L)
  (he:s.heap.get? e=some oe) (hd:oe.data=.fields vs) (h1:vs[1]?=some (.ref T)) (hTe:T≠e) (hT:s.heap.get? T=some oT) (hdT:oT.data=.fields ts) (h3:ts[3]?=some .none)
  (h:∀ h' T',Noted ((env::outer).filterMap (·.frame)) e T T' s.heap h'→Q () {s with heap:=h'}):
  wpAny M A (noteFrame (.ref e) env) (fun _ s'=>wpAny M A (setFlight (.ref e) none) Q E s') E s:=by
 unfold noteFrame
 simp only [hf]
 refine wpAny_bind (wpAny_field he hd h1 ?_)
 rw [if_pos (show (Value.ref T !=Value.none)=true from by simp)]
 refine wpAny_bind (wpAny_field hT hdT h3 ?_)
 rw [if_neg (show ¬((Value.none==rawInt L)=true) from by simp [rawInt])]
 refine wpAny_bind (wpAny_setField hT hdT (Array.getElem?_eq_some_iff.mp h3).1 ?_)
 have other:∀ b,b≠T→(s.heap.update T (Obj.mapFields (·.setIfInBounds 3 Value.none))).get? b=s.heap.get? b:=fun b hb=>Heap.get?_update_other _ _ (Ne.symm hb)
 have noRecord:∀ b o,s.heap.get? b=some o→(∀ vs,o.data≠.fields vs)→b≠T:=fun b o hb hnf q=>by
  rw [q,hT] at hb;injection hb with hb;subst hb;exact hnf ts hdT
 have hfT:∀ b∈(env::outer).filterMap (·.frame),b≠T:=fun b hb=>by
  obtain ⟨_,o,ho,hnf⟩:=hl.mem hb
  exact noRecord b o ho hnf
 have hTself:=Heap.get?_update_self (Obj.mapFields (·.setIfInBounds 3 Value.none)) hT (Obj.isFreed_of_fields (Obj.data_mapFields hdT _))
 refine newEntry_x (base:=base) hfr (hl.of_keeps fun b o hb hnf=>⟨o,(other b (noRecord b o hb hnf)).trans hb,rfl⟩) hf ((other e (Ne.symm hTe)).trans he) hd (Array.getElem?_eq_some_iff.mp h1).1 fun h' T' N=>h h' T' ?_
 refine ⟨fun b o hb hbe hbT hbo=>N.keep b o hb hbe hbe ((other b hbT).trans hbo),fun b o hb hbo=>N.slot b o hb ((other b (hfT b hb)).trans hbo),?_,fun oe' vs' q1 q2 q3=>N.self oe' vs' ((other e (Ne.symm hTe)).trans q1) q2 q3,N.head,fun o _=>?_⟩
 ·have:=N.big
  rwa [Heap.size_after_update] at this
 ·by_cases hb:T∈(env::outer).filterMap (·.frame)
  ·exact absurd rfl (hfT T hb)
  ·exact ⟨_,N.keep T _ hb hTe hTe hTself⟩
end
end L2
set_option Elab.async false
set_option linter.all false
set_option maxRecDepth 100000
set_option maxHeartbeats 1000000
namespace L2
open PySem PySem.Spec PyProof.Rows
section
variable {X:Cx} {pins:List (Addr×Obj)} {σ:List (Option V)} {H H':Hp} {s:Shared} {h':Heap}
theorem Inv.step2 {g':Array GenState} {t':Nat} {d':Drawn} {ch:List Addr} (I:Inv X pins σ H s)
  (hch:∀ b∈ch,(b∈X.ex∨X.s_0.heap.get? b=none)∧b≠X.env.locals∧(∀ x c,X.env.cells.lookup x=some c→c≠b)∧∀ p∈X.pn++pins,p.1≠b)
  (keep:∀ b o,b≠X.env.locals→b∉X.fs→b∉ch→s.heap.get? b=some o→H b=none→h'.get? b=some o)
  (slot:∀ b o,b≠X.env.locals→b∈X.fs→b∉ch→s.heap.get? b=some o→H b=none→∃ sl,h'.get? b=some {o with slots:=sl}) (free:∀ b o,b∉ch→s.heap.get? b=some o→H b=none→H' b=none)
  (there:∀ b o,b∉ch→s.heap.get? b=some o→∃ o',h'.get? b=some o')
  (tups:∀ b xs,H b=some (.tup xs)→H' b=some (.tup xs)) (frzs:∀ b o u,H b=some (.frz o u)→H' b=some (.frz o u)) (tbls:∀ b ps,H b=some (.tbl ps)→∃ more,H' b=some (.tbl (ps++more)))
  (ns:∀ m,s.heap.Ns X.env.locals m→h'.Ns X.env.locals m) (hok:HOk X.prog X.w H' h') (hg:AllBare g'):
  Inv X pins σ H' {s with heap:=h',gens:=g',drawn:=d',toks:=t'}:=by
 have neL:∀ b o,X.s_0.heap.get? b=some o→b≠X.env.locals:=fun b o e=>Nat.ne_of_lt (Nat.lt_of_lt_of_le (Heap.lt_size e) I.ok.above)
 have neC:∀ b o,X.s_0.heap.get? b=some o→b∉X.ex→b∉ch:=fun b o e hx hb=>by
  rcases (hch b hb).1 with z|z
  ·exact hx z
  ·rw [e] at z;cases z
 have cellK:∀ x c,X.env.cells.lookup x=some c→∀ v,s.heap.IsCell c v→h'.IsCell c v:=fun x c e v ⟨o,ho,hd⟩=>by
  have nch:c∉ch:=fun z=>(hch c z).2.2.1 x c e rfl
  by_cases hc:c∈X.fs
  ·obtain ⟨sl,q⟩:=slot c o (I.cne x c e) hc nch ho (I.freeC x c e)
   exact ⟨_,q,hd⟩
  ·exact ⟨o,keep c o (I.cne x c e) hc nch ho (I.freeC x c e),hd⟩
 refine ⟨I.ok,I.os,hg,⟨fun b o e n hb hx=>?_,fun b o e n hb hx=>?_,fun b o e n hx=>?_,fun b o e hx=>?_,fun b xs e=>tups b xs (I.base.tups b xs e),fun b o xs e=>frzs b o xs (I.base.frzs b o xs e),fun b ps e=>?_⟩,?_,fun x c e=>?_,?_,fun x c e=>?_,fun p hp=>?_,hok,I.len⟩
 ·exact keep b o (neL b o e) hb (neC b o e hx) (I.base.keep b o e n hb hx) (I.base.free b o e n hx)
 ·obtain ⟨sl,e1⟩:=I.base.slot b o e n hb hx
  obtain ⟨sl',e2⟩:=slot b _ (neL b o e) hb (neC b o e hx) e1 (I.base.free b o e n hx)
  exact ⟨sl',e2⟩
 ·obtain ⟨o',e1⟩:=I.base.there b o e hx
  exact free b o' (neC b o e hx) e1 (I.base.free b o e n hx)
 ·obtain ⟨o',e1⟩:=I.base.there b o e hx
  exact there b o' (neC b o e hx) e1
 ·obtain ⟨m1,e1⟩:=I.base.tbls b ps e
  obtain ⟨m2,e2⟩:=tbls b _ e1
  exact ⟨m1++m2,by rw [e2,Array.append_assoc]⟩
 ·obtain ⟨m,hn,hl⟩:=I.loc
  refine ⟨m,ns m hn,fun i x v e1 e2 e3=>?_⟩
  obtain ⟨u,r,l⟩:=hl i x v e1 e2 e3
  refine ⟨u,r,?_⟩
  rcases l with l|⟨k,c,e,z⟩
  ·exact .inl l
  ·exact .inr ⟨k,c,e,cellK x c e _ z⟩
 ·obtain ⟨v,z⟩:=I.cell x c e
  exact ⟨v,cellK x c e v z⟩
 ·obtain ⟨m,⟨o,_,_,ho,_⟩,_⟩:=I.loc
  exact free _ o (fun z=>(hch _ z).2.1 rfl) ho I.free
 ·obtain ⟨v,o,ho,hd⟩:=I.cell x c e
  exact free c o (fun z=>(hch c z).2.2.1 x c e rfl) ho (I.freeC x c e)
 ·obtain ⟨e,n,ne,nf,d⟩:=I.pin p hp
  have nch:p.1∉ch:=fun z=>(hch p.1 z).2.2.2 p hp rfl
  exact ⟨keep p.1 p.2 ne nf nch e n,free p.1 p.2 nch e n,ne,nf,d⟩
end
structure Xn (C:Addr) (H:Hp) (h h0:Heap) (e:Addr) (n:Int) (tb:Value):Prop where
 at_:∃ oe vs d mA,h.get? e=some oe∧oe.cls=.ref C∧oe.dict=some d∧oe.data=.fields vs∧vs[1]?=some tb∧h.Ns1 d mA∧(∀ f,RelO (([("fault",V.int n)]:List (Str×V)).lookup f) (mA f))∧H d=none∧h0.get? d=none∧d≠e
 he:H e=none
 lo:h0.get? e=none
def Flies (C:Addr) (H:Hp) (h h0:Heap) (e:Addr) (n:Int):Prop:=
 ∃ T,Xn C H h h0 e n (.ref T)∧T≠e∧h0.get? T=none∧H T=none∧∃ oT ts,h.get? T=some oT∧oT.data=.fields ts∧ts[3]?=some .none
def Sub (h0 h1:Heap):Prop:=∀ b o,h0.get? b=some o→∃ o',h1.get? b=some o'
theorem Sub.no {h0 h1:Heap} (x:Sub h0 h1) {b:Addr} (e:h1.get? b=none):h0.get? b=none:=by
 cases q:h0.get? b with
 |none=>rfl
 |some o=>
  obtain ⟨o',z⟩:=x b o q
  rw [e] at z;cases z
theorem Xn.mono {C:Addr} {H:Hp} {h h0 h1:Heap} {e:Addr} {n:Int} {tb:Value} (x:Xn C H h h1 e n tb) (hl:Sub h0 h1):Xn C H h h0 e n tb:=by
 obtain ⟨oe,vs,d,mA,g1,g2,g3,g4,g5,g6,g7,g8,g9,g10⟩:=x.at_
 exact ⟨⟨oe,vs,d,mA,g1,g2,g3,g4,g5,g6,g7,g8,hl.no g9,g10⟩,x.he,hl.no x.lo⟩
theorem Flies.mono {C:Addr} {H:Hp} {h h0 h1:Heap} {e:Addr} {n:Int} (x:Flies C H h h1 e n) (hl:Sub h0 h1):Flies C H h h0 e n:=by
 obtain ⟨T,x,g1,g2,g3⟩:=x
 exact ⟨T,x.mono hl,g1,hl.no g2,g3⟩
def CXF (C:Addr) (P:Program) (w:World):CXT:=fun outer H s E e s'=>
 ∃ (ea:Addr) (n:Int) (H':Hp),e=.ref ea∧s'.os=s.os∧AllBare s'.gens∧Un (frs outer) [] H H' s.heap s'.heap∧HOk P w H' s'.heap∧Flies C H' s'.heap s.heap ea n∧E (.int n 0) none H'
section
variable {X:Cx} {pins:List (Addr×Obj)} {σ:St} {H:Hp} {s:Shared} {h' h0:Heap} {e T0 T:Addr}
structure Below (X:Cx) (pins:List (Addr×Obj)) (h0:Heap):Prop where
 s0:∀ b o,X.s_0.heap.get? b=some o→b∉X.ex→∃ o',h0.get? b=some o'
 loc:∃ o,h0.get? X.env.locals=some o
 cell:∀ x c,X.env.cells.lookup x=some c→∃ o,h0.get? c=some o
 pin:∀ p∈X.pn++pins,∃ o,h0.get? p.1=some o
 fr:∀ b∈frs X.stack,∃ o,h0.get? b=some o
theorem ne_of_new {h0:Heap} {a b:Addr} (x:∃ o,h0.get? a=some o) (e:h0.get? b=none):a≠b:=by
 rintro rfl
 obtain ⟨o,q⟩:=x
 rw [e] at q;cases q
theorem Inv.below (I:Inv X pins σ H s):Below X pins s.heap where
 s0:=I.base.there
 loc:=let ⟨_,⟨o,_,_,ho,_⟩,_⟩:=I.loc;⟨o,ho⟩
 cell:=fun x c e=>let ⟨_,o,z,_⟩:=I.cell x c e;⟨o,z⟩
 pin:=fun p hp=>⟨_,(I.pin p hp).1⟩
 fr:=fun b hb=>let ⟨_,o,ho,_⟩:=I.stack.mem hb;⟨o,ho⟩
theorem Inv.noted (I:Inv X pins σ H s) (N:Noted (frs X.stack) e T0 T s.heap h') (B:Below X pins h0) (he:h0.get? e=none) (ht:h0.get? T0=none) (ne:H e=none) (nt:H T0=none):Inv X pins σ H {s with heap:=h'}:=by
 have hch:∀ b∈[e,T0],h0.get? b=none:=fun b hb=>by
  rcases List.mem_cons.mp hb with rfl|hb
  ·exact he
  ·rw [List.mem_singleton.mp hb];exact ht
 have keep:∀ b o,b∉frs X.stack→b∉[e,T0]→s.heap.get? b=some o→h'.get? b=some o:=fun b o h1 h2 h3=>N.keep b o h1 (fun z=>h2 (by simp [z])) (fun z=>h2 (by simp [z])) h3
 have any:∀ b o,b∉[e,T0]→s.heap.get? b=some o→∃ sl,h'.get? b=some {o with slots:=sl}:=fun b o h2 h3=>by
  by_cases hb:b∈frs X.stack
  ·exact N.slot b o hb h3
  ·exact ⟨o.slots,keep b o hb h2 h3⟩
 refine I.step2 (g':=s.gens) (d':=s.drawn) (t':=s.toks) (ch:=[e,T0]) (fun b hb=>?_) (fun b o h1 h2 h3 h4 _=>?_) (fun b o _ _ h3 h4 _=>any b o h3 h4) (fun _ _ _ _ n=>n) (fun b o h3 h4=>?_) (fun _ _ q=>q) (fun _ _ _ q=>q) (fun b ps q=>⟨#[],by rw [q];simp⟩) (fun m hm=>?_) (fun b u q=>?_) I.bare
 ·have hb:=hch b hb
  refine ⟨?_,Ne.symm (ne_of_new B.loc hb),fun x c q=>ne_of_new (B.cell x c q) hb,fun p hp=>ne_of_new (B.pin p hp) hb⟩
  by_cases hx:b∈X.ex
  ·exact .inl hx
  ·refine .inr ?_
   cases q:X.s_0.heap.get? b with
   |none=>rfl
   |some o=>exact absurd rfl (ne_of_new (B.s0 b o q hx) hb)
 ·refine keep b o (fun z=>?_) h3 h4
  rcases List.mem_cons.mp (I.stkSub b z) with z|z
  ·exact h1 z
  ·exact h2 z
 ·obtain ⟨sl,q⟩:=any b o h3 h4
  exact ⟨_,q⟩
 ·obtain ⟨o,es,ep,ho,hd,r⟩:=hm
  obtain ⟨sl,q⟩:=any X.env.locals o (fun z=>absurd rfl (ne_of_new B.loc (hch _ z))) ho
  exact ⟨_,es,ep,q,hd,r⟩
 ·have tr:∀ c v,H c=some v→c∉frs X.stack∧c∉[e,T0]:=fun c v q=>by
   refine ⟨fun z=>?_,fun z=>?_⟩
   ·rw [I.stkFree c z] at q;cases q
   ·rcases List.mem_cons.mp z with rfl|z
    ·rw [ne] at q;cases q
    ·rw [List.mem_singleton.mp z,nt] at q;cases q
  refine (I.hok b u q).stay (fun c v hc r=>?_) (fun _ z=>z) fun _ _ z=>z
  rcases hc with rfl|hc
  ·exact keep c v (tr c u q).1 (tr c u q).2 r
  ·exact keep c v (tr c _ hc).1 (tr c _ hc).2 r
theorem Xn.noted {C:Addr} {n:Int} {tb:Value} (I:Inv X pins σ H s) (N:Noted (frs X.stack) e T0 T s.heap h') (B:Below X pins h0) (hs:Sub h0 s.heap) (x:Xn C H s.heap h0 e n tb) (hk:∀ o es ep,s.heap.get? T0=some o→o.data≠.dict es ep):Flies C H h' h0 e n:=by
 obtain ⟨oe,vs,d,mA,h1,h2,h3,h4,h5,h6,h7,h8,h9,h10⟩:=x.at_
 obtain ⟨oe',vs',g1,g2,g3,g4,g5,g6⟩:=N.self oe vs h1 h4 (Array.getElem?_eq_some_iff.mp h5).1
 have hTs:e<s.heap.objs.size:=Heap.lt_size h1
 refine ⟨T,⟨⟨oe',vs',d,mA,g1,g2.trans h2,g3.trans h3,g4,g6,h6.at fun o q=>N.keep d o (fun z=>absurd rfl (ne_of_new (B.fr d z) h9)) h10 (fun z=>?_) q,h7,h8,h9,h10⟩,x.he,x.lo⟩,fun z=>?_,hs.no (Heap.get?_none_of_le N.big),I.hok.fresh N.big,N.head⟩
 ·obtain ⟨o',es,ep,q1,q2,_⟩:=h6
  rw [z] at q1
  exact hk o' es ep q1 q2
 ·exact absurd (Nat.lt_of_lt_of_le hTs N.big) (by rw [z];exact Nat.lt_irrefl _)
end
structure Leaves (C:Addr) (X:Cx) (E:XK):Prop where
 pass:Passes (CXF C X.prog X.w) X E
 new:∀ (pins:List (Addr×Obj)) (σ:St) (H:Hp) (s:Shared) (ea:Addr) (n:Int) (h0:Heap),Inv X pins σ H s→Below X pins h0→Sub h0 s.heap→Xn C H s.heap h0 ea n .none→E (.int n 0) none H→X.xe (.ref ea) s
 own:PassesOwn (model X.prog X.w) X.A X.env X.xe
theorem leaves_cx {C:Addr} {P:Program} {w:World} {K:PySem.W.Frag} {mg:Str→Option Value} {base:Heap} {N:List Str} {qual:Str} {scope:Scope} {f:Addr} {cd:Value} {A:Around} {outer:List Env} {s:Shared} {H:Hp} {E:XK}:
  Leaves C (cxOf (CXF C P w) P w K mg base N qual scope f cd A outer s H E) E where
 pass:=by
  intro pins σ H1 s1 e s' I ⟨ea,n,H',he,hos,hb,un,hok,fl,hE⟩
  subst he
  have I':=I.call' (ch:=[]) hos un hok hb (fun _ z=>nomatch z)
  have B:=I.below
  obtain ⟨T,x,hTe,hTl,hTn,oT,ts,t1,t2,t3⟩:=fl
  obtain ⟨oe,vs,d,mA,h1,h2,h3,h4,h5,h6,h7,h8,h9,h10⟩:=id x.at_
  show wpAny _ _ (leaving _ _) _ _ _
  unfold leaving
  refine wpAny_bind (note_next (oeT:=0) I'.ok.frames I'.stack rfl h1 h4 h5 hTe t1 t2 t3 fun h' T' Nt=>?_)
  have I2:=I'.noted Nt B x.lo hTl x.he hTn
  have fl2:=Xn.noted (C:=C) I' Nt B (fun b o q=>un.there b o q (by simp)) x (fun o es ep q z=>by rw [t1] at q;cases q;rw [t2] at z;cases z)
  exact ⟨ea,n,H',rfl,I2.os,I2.bare,I2.base,I2.hok,(fl2.mono fun b o q=>B.s0 b o q (fun z=>nomatch (show b∈([]:List Addr) from z))),hE⟩
 new:=by
  intro pins σ H1 s1 ea n h0 I B hs x hE
  obtain ⟨oe,vs,d,mA,h1,h2,h3,h4,h5,h6,h7,h8,h9,h10⟩:=id x.at_
  show wpAny _ _ (leaving _ _) _ _ _
  unfold leaving
  refine wpAny_bind (note_first I.ok.frames I.stack rfl h1 h4 h5 fun h' T' Nt=>?_)
  have I2:=I.noted Nt B x.lo x.lo x.he x.he
  have fl2:=Xn.noted (C:=C) I Nt B hs x (fun o es ep q z=>by rw [h1] at q;cases q;rw [h4] at z;cases z)
  exact ⟨ea,n,H1,rfl,I2.os,I2.bare,I2.base,I2.hok,(fl2.mono fun b o q=>B.s0 b o q (fun z=>nomatch (show b∈([]:List Addr) from z))),hE⟩
 own:=PassesOwn.leaving
end L2
set_option Elab.async false
set_option linter.all false
set_option maxRecDepth 100000
set_option maxHeartbeats 1000000
namespace L2
open PySem PySem.Spec PyProof.Rows
section
open Builtin Builtin.ObjectAttr
variable {prog:Program} {w:World} {A:Around} {E:Value→Shared→Prop} {h:Heap} {g:Array GenState} {d:Drawn} {t:Nat} {os:OsState}
variable {nm q:Str} {C N x:Addr} {bs bm:List Value} {sn:List Str} {sub:List Value} {ab:Bool} {col:Option Bool} {dd:Option Addr} {k0 k1 k2 k3 k5:Option Value} {B newId sa owner:String}
 {mN:Str→Option Value} {name:Str} {v:Value} {o:Obj}
structure FirstAttr (h h':Heap) (x:Addr) (o:Obj) (name:Str) (v:Value):Prop where
 obj:h'.get? x=some {o with dict:=some h.objs.size}
 ns:h'.Ns1 h.objs.size (fun y=>if y=name then some v else none)
 keep:∀ b ob,b≠x→h.get? b=some ob→h'.get? b=some ob
theorem first_entry {tk:Tok} {Q:Fin→Shared→Prop} (SF:StoreFacts B bm sa owner)
  (hC:h.get? C=some (excClassObj nm q C N bs bm true sn sub ab col dd k0 k1 k2 k3 k5 newId)) (hn:h.Ns N mN) (hna:mN name=none)
  (hB:typeLookup (.type B) name=pure none) (hx:h.get? x=some o) (hc:o.cls=.ref C) (hnc:∀ c,o.data≠.cls c) (hdn:o.dict=none)
  (hq:∀ h' tk',FirstAttr h h' x o name v→Q (.done (.ret .none)) ⟨h',g,d,tk',os⟩):
  wpAny (model prog w) A (Builtin.«object.__setattr__» ⟨[.ref x,.str name tk,v],[]⟩) Q E ⟨h,g,d,t,os⟩:=by
 have hpass:=SF.passes (.ref x)
 unfold Builtin.«object.__setattr__»
 repeat (first|rw [refuse_eq]|(rw [refuseLoop_ref,hpass])|(with_reducible refine wpAny_loadPart_at hx ?_;rw [hc])|with_reducible refine wpAny_mroOf_exc hC ?_|(with_reducible refine wpAny_typeLookup_exc hC hn SF.mro hB ?_;rw [hna])|wp_step)
 rw [hdn,if_neg (by simp [typeHasDict])]
 split
 ·rename_i hcd
  cases hcd
 split
 ·rename_i c hcd
  exact absurd hcd (hnc c)
 ·have hx1:(h.push {cls:=.type "dict",data:=.dict #[]}).get? x=some o:=Heap.get?_push_of_some _ hx
  have hxs:x≠h.objs.size:=Nat.ne_of_lt (Heap.lt_size hx)
  refine wpAny_bind (wpAny_alloc' (wpAny_bind (wpAny_update' hx1 (wpAny_pure ?_))))
  have hgd:((h.push {cls:=.type "dict",data:=.dict #[]}).update x fun o=>{cls:=o.cls,dict:=some h.objs.size,data:=o.data,slots:=o.slots}).get? h.objs.size
    =some {cls:=.type "dict",data:=.dict #[]}:=(Heap.get?_update_ne _ _ _ _ hxs.symm).trans (Heap.get?_push_at rfl rfl)
  have hnd:((h.push {cls:=.type "dict",data:=.dict #[]}).update x fun o=>{cls:=o.cls,dict:=some h.objs.size,data:=o.data,slots:=o.slots}).Ns h.objs.size (fun _=>none):=
   ⟨_,#[],_,hgd,rfl,fun e he=>absurd he (by simp),fun _=>rfl⟩
  show wpAny _ _ (storeInDict h.objs.size (.str name tk) name v) _ _ _
  unfold storeInDict newKeyGuard
  refine wpAny_bind (wpAny_pure (wpAny_bind (wpAny_nsSet1 (Heap.Ns1.of_empty hnd) fun h' hn' hs=>?_)))
  obtain ⟨oD,esD,epD,hoD,hdD,hcD⟩:=hn'.count (Within.cons name v Within.nil)
  refine wpAny_bind (wpAny_lookBehind hoD (by rw [hdD];exact pastItsLine_dict (Nat.le_trans hcD (by rw [List.length_cons,List.length_nil,sizeLine_eq];(clear hcD;omega)))) ?_)
  wp_walk
  refine hq h' _ ⟨?_,hn',fun b ob hbx hb=>(hs.2 b (Nat.ne_of_lt (Heap.lt_size hb))).trans ((Heap.get?_update_ne _ _ _ _ hbx).trans (Heap.get?_push_of_some _ hb))⟩
  refine (hs.2 x hxs).trans (Heap.get?_update_self _ hx1 ?_)
  have hfr:=(Heap.get?_some_iff.mp hx).2
  obtain ⟨oc,od,odt,osl⟩:=o
  cases odt<;>first|rfl|exact hfr
theorem first_attr {Q:Unit→Shared→Prop} (SF:StoreFacts B bm sa owner)
  (hC:h.get? C=some (excClassObj nm q C N bs bm true sn sub ab col dd k0 k1 k2 k3 k5 newId)) (hn:h.Ns N mN) (hns:mN "__setattr__"=none) (hna:mN name=none)
  (hB:typeLookup (.type B) name=pure none) (hx:h.get? x=some o) (hc:o.cls=.ref C) (hnc:∀ c,o.data≠.cls c) (hdn:o.dict=none)
  (hq:∀ h' tk',FirstAttr h h' x o name v→Q () ⟨h',g,d,tk',os⟩):
  wpAny (model prog w) A (setAttr (.ref x) name v) Q E ⟨h,g,d,t,os⟩:=by
 have f3:=SF.slot.bind (.ref x)
 unfold setAttr callSpecial? specialOf
 repeat (any_goals (first|assumption|(with_reducible refine wpAny_loadPart_at hx ?_;rw [hc])|(with_reducible refine wpAny_typeLookup_exc hC hn SF.mro SF.slot.lookup ?_;rw [hns])|wp_step))
 refine codeAny_call_builtin SF.slot.plain SF.entry (wpAny_check_sa SF hC hx hc (first_entry SF hC hn hna hB hx hc hnc hdn fun h' tk' I'=>?_))
 repeat (any_goals (first|assumption|wp_step))
 exact hq h' tk' I'
end
section
open Builtin Builtin.ObjectAttr
variable {prog:Program} {w:World} {A:Around} {E:Value→Shared→Prop} {h:Heap} {g:Array GenState} {d:Drawn} {t:Nat} {os:OsState}
variable {nm q:Str} {C N x dx:Addr} {bs bm:List Value} {sn:List Str} {sub:List Value} {ab:Bool} {col:Option Bool} {dd:Option Addr} {k0 k1 k2 k3 k5:Option Value} {B newId:String}
 {mN mA:Str→Option Value} {name:Str} {v:Value} {o:Obj}
theorem own_entry {tk:Tok} {Q:Fin→Shared→Prop} (FB:ExcAttrBase B bm)
  (hC:h.get? C=some (excClassObj nm q C N bs bm true sn sub ab col dd k0 k1 k2 k3 k5 newId)) (hn:h.Ns N mN) (hna:mN name=none)
  (hB:typeLookup (.type B) name=pure none) (hx:h.get? x=some o) (hc:o.cls=.ref C) (hnc:∀ c,o.data≠.cls c) (hdx:o.dict=some dx) (hA:h.Ns1 dx mA) (hv:mA name=some v) (hq:Q (.done (.ret v)) ⟨h,g,d,t,os⟩):
  wpAny (model prog w) A (Builtin.«object.__getattribute__» ⟨[.ref x,.str name tk],[]⟩) Q E ⟨h,g,d,t,os⟩:=by
 unfold Builtin.«object.__getattribute__»
 repeat (first|(with_reducible refine wpAny_loadPart_at hx ?_;rw [hc])|(with_reducible refine wpAny_typeLookup_exc hC hn FB.mro hB ?_;rw [hna])|wp_step)
 split
 ·rename_i c hcd
  exact absurd hcd (hnc c)
 unfold instanceDict
 repeat (first|(with_reducible refine wpAny_loadPart_at hx ?_;rw [hc])|with_reducible refine wpAny_loadPart_at hC ?_|wp_step)
 rw [hdx]
 repeat (first|(with_reducible refine wpAny_nsGet hA.ns ?_;rw [hv])|wp_step)
 exact hq
theorem own_by {tk:Tok} {fill expr:Bool} {Q:Value→Shared→Prop} (FB:ExcAttrBase B bm)
  (hC:h.get? C=some (excClassObj nm q C N bs bm true sn sub ab col dd k0 k1 k2 k3 k5 newId)) (hn:h.Ns N mN) (hng:mN "__getattribute__"=none) (hnh:mN "__getattr__"=none) (hna:mN name=none)
  (hB:typeLookup (.type B) name=pure none) (hx:h.get? x=some o) (hc:o.cls=.ref C) (hnc:∀ c,o.data≠.cls c) (hdx:o.dict=some dx) (hA:h.Ns1 dx mA) (hv:mA name=some v) (hh:handedOut v=pure v) (hq:Q v ⟨h,g,d,t,os⟩):
  wpAny (model prog w) A (getAttrBy (.ref x) (.str name tk) fill expr) Q E ⟨h,g,d,t,os⟩:=by
 have f3:=FB.ga.bind (.ref x)
 have hx0:(expr && onTheHeap (Value.builtin "BaseException.__getattribute__"))=false:=by cases expr<;>rfl
 have hx2:(Value.builtin "BaseException.__getattribute__"==Value.builtin "object.__getattribute__")=false:=by decide+kernel
 have hx1:(onTheHeap (Value.ref C) && Value.builtin "BaseException.__getattribute__"==Value.builtin "object.__getattribute__")=false:=by rw [hx2];rfl
 repeat (any_goals (first|assumption|(with_reducible refine wpAny_loadPart_at hx ?_;rw [hc])|(with_reducible refine wpAny_typeLookup_exc hC hn FB.mro FB.ga.lookup ?_;rw [hng])|(with_reducible refine wpAny_typeLookup_exc hC hn FB.mro FB.noGetattr ?_;rw [hnh])|wp_step))
 refine codeAny_call_builtin FB.ga.plain F.entry_bexc_ga (wpAny_check_ga_own FB hC .base hx hc (own_entry FB hC hn hna hB hx hc hnc hdx hA hv ?_))
 repeat (any_goals (first|assumption|wp_step))
theorem own_attr {expr:Bool} {Q:Value→Shared→Prop} (FB:ExcAttrBase B bm)
  (hC:h.get? C=some (excClassObj nm q C N bs bm true sn sub ab col dd k0 k1 k2 k3 k5 newId)) (hn:h.Ns N mN) (hng:mN "__getattribute__"=none) (hnh:mN "__getattr__"=none) (hna:mN name=none)
  (hB:typeLookup (.type B) name=pure none) (hx:h.get? x=some o) (hc:o.cls=.ref C) (hnc:∀ c,o.data≠.cls c) (hdx:o.dict=some dx) (hA:h.Ns1 dx mA) (hv:mA name=some v) (hh:handedOut v=pure v) (hq:Q v ⟨h,g,d,t+1,os⟩):
  wpAny (model prog w) A (getAttr (.ref x) name expr) Q E ⟨h,g,d,t,os⟩:=by
 unfold getAttr
 repeat (any_goals (first|assumption|with_reducible apply own_by FB hC hn hng hnh hna hB hx hc hnc hdx hA hv hh|wp_step))
end
end L2
set_option Elab.async false
set_option linter.all false
set_option maxRecDepth 100000
set_option maxHeartbeats 1000000
namespace L2
open PySem PySem.Spec PyProof.Rows
structure XCls (K:PySem.W.Frag) (C fI:Addr):Prop where
 cls:∃ nm q N bs sn sub ab col dd k0 k1 k2 k3 k5,K.lookup C=some (excClassObj nm q C N bs excMro true sn sub ab col dd k0 k1 k2 k3 k5 "Exception.__new__")∧PySem.W.nsOkIn K N=true∧PySem.W.nsIn K N "__init__"=some (some (.ref fI))∧
  PySem.W.nsIn K N "fault"=some none∧PySem.W.nsIn K N "__setattr__"=some none∧PySem.W.nsIn K N "__getattribute__"=some none∧PySem.W.nsIn K N "__getattr__"=some none
 fn:PySem.W.isFn K (.ref fI)=true
 kp:PySem.W.keepIn K (.ref C)=true
theorem ns_some {K:PySem.W.Frag} {h:Heap} {N:Addr} {m:Str→Option Value} {x:Str} {v:Value} (X:K.In h) (G:h.Ns N m) (e:PySem.W.nsIn K N x=some (some v)):m x=some v:=by
 obtain ⟨o,es,ep,ho,hd,_,hf⟩:=G
 unfold PySem.W.nsIn at e
 split at e
 ·rename_i q
  have z:=X _ _ q
  rw [ho] at z
  cases z
  cases hd
  split at e
  ·rename_i en he
   cases e
   rw [←hf]
   unfold nsFind findBy
   rw [←Array.find?_toList,he]
   rfl
  ·split at e<;>cases e
 ·cases e
theorem fault_base:typeLookup (.type "Exception") "fault"=pure none:=by rw [typeLookup_type,builtinLookup_eq_fast];kernel_rfl
theorem fn_obj {K:PySem.W.Frag} {f:Addr} (h:PySem.W.isFn K (.ref f)=true):∃ o,K.lookup f=some o∧o.cls=.type "function":=by
 have h:((K.lookup f).map (·.cls)==some (.type "function"))=true:=h
 cases q:K.lookup f with
 |none=>rw [q] at h;cases h
 |some o=>
  rw [q] at h
  exact ⟨o,rfl,Option.some.inj (beq_iff_eq.mp h)⟩
theorem ObjOk.there {P:Program} {w:World} {H:Hp} {h:Heap} {a:Addr} {o:HO} (x:ObjOk P w H h a o):∃ ob,h.get? a=some ob:=by
 cases o with
 |lst xs=>obtain ⟨_,_,_,_,e⟩:=x;exact ⟨_,e⟩
 |tup xs=>obtain ⟨_,_,_,o,e,_⟩:=x;exact ⟨_,e⟩
 |dK kvs=>obtain ⟨_,_,_,_,o,_,_,e,_⟩:=x;exact ⟨_,e⟩
 |dT kvs=>obtain ⟨_,_,_,_,o,_,_,e,_⟩:=x;exact ⟨_,e⟩
 |set S n=>obtain ⟨o,_,_,_,e,_⟩:=x;exact ⟨_,e⟩
 |ins C dx fs=>obtain ⟨_,_,_,e,_⟩:=x;exact ⟨_,e⟩
 |own y=>exact x
 |xd fs=>obtain ⟨_,⟨_,_,_,e,_⟩,_⟩:=x;exact ⟨_,e⟩
 |rng lo hi=>obtain ⟨_,_,_,e⟩:=x;exact ⟨_,e⟩
 |frz ob u=>obtain ⟨e,_⟩:=x;exact ⟨_,e⟩
 |tbl ps=>exact ⟨_,(show h.get? a=some _ from x)⟩
 |met f y=>exact ⟨_,(show h.get? a=some _ from x)⟩
 |ext φ=>obtain ⟨_,e,_⟩:=x;exact e
theorem HOk.none_of {P:Program} {w:World} {H:Hp} {h:Heap} {a:Addr} (x:HOk P w H h) (e:h.get? a=none):H a=none:=by
 cases q:H a with
 |none=>rfl
 |some o=>
  obtain ⟨ob,z⟩:=(x a o q).there
  rw [e] at z;cases z
section
variable {X:Cx} {pins:List (Addr×Obj)} {σ:St} {H H':Hp} {s:Shared} {h':Heap} {a:Addr} {o:HO}
theorem Inv.laidN {t':Nat} (I:Inv X pins σ H s) (k:∀ b u,s.heap.get? b=some u→h'.get? b=some u) (hp:s.heap.get? a=none) (new:ObjOk X.prog X.w (upd H a o) h' a o):
  Inv X pins σ (upd H a o) {s with heap:=h',toks:=t'}:=by
 have hn:=I.hok.none_of hp
 have ne:∀ b u,s.heap.get? b=some u→b≠a:=fun b u q z=>by rw [z,hp] at q;cases q
 refine I.un ⟨fun b u q _ _ _=>k b u q,fun b u q _ _ _=>⟨u.slots,k b u q⟩,fun b u q n _=>by rw [upd_ne (ne b u q)];exact n,fun b u q _=>⟨u,k b u q⟩,
  fun b xs q=>by rw [upd_ne (ne_of_none q hn)];exact q,fun b u xs q=>by rw [upd_ne (ne_of_none q hn)];exact q,fun b ps q=>⟨#[],by rw [upd_ne (ne_of_none q hn),q];simp⟩⟩ fun b u q=>?_
 by_cases hb:b=a
 ·subst hb;rw [upd_same] at q;cases q;exact new
 ·rw [upd_ne hb] at q
  exact (I.hok b u q).stay (fun c v _ z=>k c v z) (fun c z=>by rw [upd_ne (ne_of_none z hn)];exact z) fun c xs z=>by rw [upd_ne (ne_of_none z hn)];exact z
theorem Inv.untrack {pins0:List (Addr×Obj)} {σ0:St} {s0:Shared} (I:Inv X pins σ H' s) (I0:Inv X pins0 σ0 H s0) (sub:∀ b o,H b=some o→H' b=some o)
  (own:∀ b a,H' b=some (.own a)→H b=some (.own a)) (tup:∀ b xs,H' b=some (.tup xs)→H b=some (.tup xs)):Inv X pins σ H s:=by
 have no:∀ b,H' b=none→H b=none:=fun b e=>by
  cases q:H b with
  |none=>rfl
  |some o=>rw [sub b o q] at e;cases e
 refine ⟨I.ok,I.os,I.bare,⟨I.base.keep,I.base.slot,fun b o e n hx=>no b (I.base.free b o e n hx),I.base.there,I0.base.tups,I0.base.frzs,I0.base.tbls⟩,I.loc,I.cell,no _ I.free,fun x c e=>no c (I.freeC x c e),fun p hp=>?_,fun b o e=>?_,I.len⟩
 ·obtain ⟨h1,h2,h3⟩:=I.pin p hp
  exact ⟨h1,no _ h2,h3⟩
 ·exact (I.hok b o (sub b o e)).stay (fun _ _ _ q=>q) (fun c q=>own c b q) fun c xs q=>tup c xs q
end
def XO (C t e:Addr) (od:Option Addr):HO:=.ext fun h=>h.get? e=some {cls:=.ref C,dict:=od,data:=.fields #[.ref t,.none,.none,.none,.bool false,.none]}
theorem XO.ok {P:Program} {w:World} {H:Hp} {h:Heap} {C t e:Addr} {od:Option Addr} (q:h.get? e=some {cls:=.ref C,dict:=od,data:=.fields #[.ref t,.none,.none,.none,.bool false,.none]}):ObjOk P w H h e (XO C t e od):=
 ⟨q,⟨_,q⟩,fun _ _ z k=>k _ z⟩
def spXI (C:Addr):Sp:=fun vs H Q _=>∃ e t n,vs=[.ref e,.int n]∧H e=some (XO C t e none)∧∀ d,H d=none→d≠e→Q .non (upd (upd H d (.xd [("fault",.int n)])) e (XO C t e (some d)))
def sXF (C:Addr) (ta tv:TE):TS:=fun D σ H=>tv σ H fun y H1=>ta σ H1 fun x H2=>∃ e t n,y=.int n∧x=.ref e∧H2 e=some (XO C t e none)∧∀ d,H2 d=none→d≠e→D.nx σ (upd (upd H2 d (.xd [("fault",.int n)])) e (XO C t e (some d)))
theorem ps_xfld {X:Cx} {o value:Expr} {pos pos':Pos} {ta tv:TE} {C fI:Addr} (T:XCls X.K C fI) (ha:PE X o ta) (hv:PE X value tv) (hs:swapsWith value (some (.Attribute o "fault" pos')) pos.line X.env=pure false):
  PS X (.Assign [.Attribute o "fault" pos'] value pos) (sXF C ta tv):=by
 intro pins s σ H D I h
 refine plainObj_wpAny_Assign_Attribute (thn (hv pins s σ H _ I h) fun u s1 ⟨y,H1,I1,ry,q⟩=>thn (ha pins s1 σ H1 _ I1 q) fun ov s2 ⟨x,H2,I2,rx,e,t,n,ey,ex,ee,q2⟩=>?_) hs
 subst ex ey
 obtain rfl:ov=Value.ref e:=rx
 obtain ⟨tk,rfl⟩:=(show ∃ t,u=Value.int n t from ry)
 obtain ⟨nm,qn,N,bs,sn,sub,ab,col,dd,k0,k1,k2,k3,k5,lk,nok,ni,nf,ns,ng,nh⟩:=T.cls
 have hC:=I2.kIn _ _ lk
 have hN:s2.heap.Ns N (s2.heap.nsMap N):=.of_isNs (PySem.W.isNs_of_in I2.kIn nok)
 obtain ⟨obj,_,_⟩:=(show ObjOk X.prog X.w H2 s2.heap e (XO C t e none) from I2.hok e _ ee)
 obtain ⟨hp,g,dr,tks,os⟩:=s2
 refine first_attr F.store_Exception hC hN (PySem.W.ns_none_of I2.kIn hN ns) (PySem.W.ns_none_of I2.kIn hN nf) fault_base obj rfl (fun c z=>nomatch z) rfl fun h' tk' A=>?_
 have hde:hp.objs.size≠e:=Nat.ne_of_gt (Heap.lt_size obj)
 have hdn:H2 hp.objs.size=none:=I2.hok.fresh (Nat.le_refl _)
 refine ⟨σ,_,?_,q2 hp.objs.size hdn hde⟩
 have nb:∀ b (u:Obj),H2 b=none→b≠e:=fun b u z y=>by rw [y,ee] at z;cases z
 have nd:∀ b u,hp.get? b=some u→b≠hp.objs.size:=fun b u z=>Nat.ne_of_lt (Heap.lt_size z)
 have other:∀ b u,H2 b=some u→b≠e→upd (upd H2 hp.objs.size (.xd [("fault",.int n)])) e (XO C t e (some hp.objs.size)) b=some u:=fun b u z y=>by
  rw [upd_ne y,upd_ne (ne_of_none z hdn)];exact z
 refine I2.un (t':=tk') ⟨fun b u z y _ _=>A.keep b u (nb b u y) z,fun b u z y _ _=>⟨u.slots,A.keep b u (nb b u y) z⟩,fun b u z y _=>by rw [upd_ne (nb b u y),upd_ne (nd b u z)];exact y,fun b u z _=>?_,fun b xs z=>other b _ z ?_,fun b u xs z=>other b _ z ?_,fun b ps z=>⟨#[],by rw [other b _ z (by rintro rfl;rw [ee] at z;cases z)];simp⟩⟩ fun b u z=>?_
 ·by_cases y:b=e
  ·exact ⟨_,by rw [y];exact A.obj⟩
  ·exact ⟨u,A.keep b u y z⟩
 ·rintro rfl;rw [ee] at z;cases z
 ·rintro rfl;rw [ee] at z;cases z
 ·by_cases y:b=e
  ·subst y
   rw [upd_same] at z
   cases z
   exact XO.ok A.obj
  ·rw [upd_ne y] at z
   by_cases y2:b=hp.objs.size
   ·subst y2
    rw [upd_same] at z
    cases z
    refine ⟨_,A.ns,fun f=>?_⟩
    show RelO ((putF "fault" (V.int n) []).lookup f) (if f="fault" then some (Value.int n tk) else none)
    rw [lookup_putF]
    by_cases y3:f="fault"
    ·rw [if_pos y3,if_pos y3];exact ⟨tk,rfl⟩
    ·rw [if_neg y3,if_neg y3];exact True.intro
   ·rw [upd_ne y2] at z
    refine (I2.hok b u z).stay (fun c v hc q=>A.keep c v ?_ q) (fun c q=>other c _ q ?_) fun c xs q=>other c _ q ?_
    ·rcases hc with rfl|hc
     ·exact y
     ·rintro rfl;rw [ee] at hc;cases hc
    ·rintro rfl;rw [ee] at q;cases q
    ·rintro rfl;rw [ee] at q;cases q
section
variable {M:Model} {A:Around} {E:Value→Shared→Prop} {env:Env}
variable {nm q:Str} {C N:Addr} {bs bm:List Value} {hdct:Bool} {sn:List Str} {sub:List Value} {ab:Bool} {col:Option Bool} {dd:Option Addr} {k0 k1 k2 k3 k5:Option Value} {newId:String}
theorem raise_made {s:Shared} {x:Sem Value} {Q:Flow→Shared→Prop} (hbase:bm.contains (.type "BaseException")=true) (hh:A.handled=none)
  (h:wpAny M A x (fun v s1=>∃ e oe vs,v=.ref e∧s1.heap.get? C=some (excClassObj nm q C N bs bm hdct sn sub ab col dd k0 k1 k2 k3 k5 newId)∧s1.heap.get? e=some oe∧oe.cls=.ref C∧oe.data=.fields vs∧vs[1]?=some .none∧E (.ref e) s1) E s):
  wpAny M A (raiseStmt env (some x) none) Q E s:=by
 have hcB:(Value.ref C::bm).contains (.type "BaseException")=true:=by rw [List.contains_cons,hbase,Bool.or_true]
 unfold raiseStmt
 refine wpAny_bind (wpAny_mono h (fun v s1 h1=>?_) fun _ _ x=>x)
 obtain ⟨e,oe,vs,rfl,hC,he,hcl,hd,h1,hE⟩:=h1
 obtain ⟨hp,g,d,tk,os⟩:=s1
 repeat (first|(with_reducible refine wpAny_loadPart_at he ?_;rw [hcl])|with_reducible refine wpAny_loadPart_at hC ?_|(with_reducible refine wpAny_isSubtype_exc hC ?_;rw [hcB])|with_reducible refine wpAny_field he hd h1 ?_|wp_step)
 exact wpAny_raiseNew_none hh hE
end
end L2
set_option Elab.async false
set_option linter.all false
set_option maxRecDepth 100000
set_option maxHeartbeats 1000000
namespace L2
open PySem PySem.Spec PyProof.Rows
def oneInt (E:XK):List V→Hp→Prop:=fun vs H=>match vs with
 |[x]=>∃ n,x=.int n∧E (.int n 0) none H
 |_=>False
def tRaise (E:XK) (te:TE):TS:=fun _ σ H=>te σ H fun v H1=>∃ n,v=.int n∧E (.int n 0) none H1
theorem ps_raise {X:Cx} {C fI:Addr} {fd:FuncData} {k:Nat} {E:XK} {x:Str} {np cpos pos:Pos} {e:Expr} {te:TE} (L:Leaves C X E) (hc:X.calm=true) (T:XCls X.K C fI)
  (G:FnOk X.prog X.w X.K X.mg X.base CX0 k fI fd ["self","fault"] (spXI C)) (hr:Room (k+1) X.A) (hg:Gl X x) (hm:X.mg x=some (.ref C)) (hb:Binds X.K fd ["self","fault"] []) (he:PE X e te)
  (hdb:(x==("__debug__":Str))=false:=by decide) (hst:starEach [e] X.env=(false,eval e X.env)::starEach [] X.env:=by rfl):
  PS X (.Raise (some (.Call (.Name x np) [e] [] cpos)) none pos) (tRaise E te):=by
 intro pins s σ H D I h
 have ha:PA X [e] (tCons te tNil):=pa_cons he pa_nil hst
 have h':tCons te tNil σ H (oneInt E):=h
 obtain ⟨nm,qn,N,bs,sn,sub,ab,col,dd,k0,k1,k2,k3,k5,lk,nok,ni,nf,ns,ng,nh⟩:=id T.cls
 rw [arm_exec_Raise]
 refine wpAny_bind (wpAny_standAt (raise_made (C:=C) (nm:=nm) (q:=qn) (N:=N) (bs:=bs) (bm:=excMro) (hdct:=true) (sn:=sn) (sub:=sub) (ab:=ab) (col:=col) (dd:=dd) (k0:=k0) (k1:=k1) (k2:=k2) (k3:=k3) (k5:=k5) (newId:="Exception.__new__")
  F.excBase_Exception.hasBase (I.ok.hd hc) (wpAny_bind (thn (Q:=fun v s3=>∃ ea oe vs,v=.ref ea∧s3.heap.get? C=some (excClassObj nm qn C N bs excMro true sn sub ab col dd k0 k1 k2 k3 k5 "Exception.__new__")∧s3.heap.get? ea=some oe∧oe.cls=.ref C∧oe.data=.fields vs∧vs[1]?=some .none∧X.xe (.ref ea) s3) ?_ fun v s3 h3=>wpAny_bind (wpAny_standAt (wpAny_pure h3))))))
 refine wpAny_Call_Name_kw (ld_glob I hg hm ?_ hdb)
 refine PySem.W.callWith_K (h₀:=X.base) I.ok.mod.kin T.kp (thn (ha cpos pins s σ H _ I h') fun us s1 ⟨vs,H1,I1,r,q⟩=>⟨I1.kIn,?_⟩) hst rfl
 match vs,r,q with
 |[x1],.cons (b:=u) r1 .nil,q=>
  obtain ⟨n,rfl,hE⟩:=q
  obtain ⟨tk,rfl⟩:=(show ∃ t,u=Value.int n t from r1)
  obtain ⟨oI,hoI,hfc⟩:=fn_obj T.fn
  have hC:=I1.kIn _ _ lk
  have hN:s1.heap.Ns N (s1.heap.nsMap N):=.of_isNs (PySem.W.isNs_of_in I1.kIn nok)
  have B:=I1.below
  obtain ⟨hp,g,dr,tks,os⟩:=s1
  refine wpAny_call_exc_init F.excBase_Exception hC hN (ns_some I1.kIn hN ni) (I1.kIn _ _ hoI) hfc (fun h1 ea hm=>?_)
  obtain ⟨t,ht,htn,htt⟩:=hm.there
  have I2:Inv X pins σ (upd H1 ea (XO C t ea none)) ⟨h1,g,dr,tks,os⟩:=I1.laidN (t':=tks) hm.keeps hm.new (XO.ok ht)
  refine wpAny_call (codeAny_mono (G.run (X.A.under (.builtin "type.__call__" ⟨.ref C::[.int n tk],[]⟩)) X.stack ⟨h1,g,dr,tks,os⟩ (upd H1 ea (XO C t ea none)) ⟨.ref ea::[.int n tk],[]⟩ [.ref ea,.int n tk] [.ref ea,.int n]
   (fun v H2=>v=.non∧∃ d,d≠ea∧H1 d=none∧H2=upd (upd (upd H1 ea (XO C t ea none)) d (.xd [("fault",.int n)])) ea (XO C t ea (some d))) E0 (hr.make C [.int n tk] []) (I2.env0.make C [.int n tk] [])
   (hb _ [.ref ea,.int n tk] I2.kIn rfl) (.cons rfl (.cons ⟨tk,rfl⟩ .nil)) ⟨ea,t,n,rfl,upd_same,fun d hd hde=>⟨rfl,d,hde,by rw [upd_ne hde] at hd;exact hd,rfl⟩⟩) fun r s' hq'=>?_)
  cases r with
  |error e=>exact False.elim hq'
  |ok fl=>
   cases fl with
   |ret u=>
    obtain ⟨v,H',hos,hbare,un,hok,rv,ev,d,hde,hdn,hH⟩:=hq'
    subst ev
    have I3:Inv X pins σ H' s':=I2.call' (ch:=[]) hos un hok hbare (fun _ z=>nomatch z)
    have hobj:=(show ObjOk X.prog X.w H' s'.heap ea (XO C t ea (some d)) from I3.hok ea _ (by rw [hH];exact upd_same)).1
    refine ⟨rv,ea,_,_,rfl,I3.kIn _ _ lk,hobj,rfl,rfl,rfl,?_⟩
    have hea:H1 ea=none:=I1.hok.none_of hm.new
    have hHd:H' d=some (.xd [("fault",.int n)]):=by rw [hH,upd_ne hde,upd_same]
    have hHe:H' ea=some (XO C t ea (some d)):=by rw [hH];exact upd_same
    have oth:∀ b,b≠ea→b≠d→H' b=H1 b:=fun b z1 z2=>by rw [hH,upd_ne z1,upd_ne z2,upd_ne z1]
    have hnew:h1.get? d=none:=by
     cases z:h1.get? d with
     |none=>rfl
     |some ob=>
      have y:=un.free d ob z (by rw [upd_ne hde];exact hdn) (by simp)
      rw [hHd] at y;cases y
    have hnp:hp.get? d=none:=by
     cases z:hp.get? d with
     |none=>rfl
     |some ob=>rw [hm.keeps d ob z] at hnew;cases hnew
    have I4:Inv X pins σ H1 s':=I3.untrack I1 (fun b o z=>by rw [oth b (ne_of_none z hea) (ne_of_none z hdn)];exact z)
     (fun b a z=>by rw [←oth b (by rintro rfl;rw [hHe] at z;cases z) (by rintro rfl;rw [hHd] at z;cases z)];exact z)
     (fun b a z=>by rw [←oth b (by rintro rfl;rw [hHe] at z;cases z) (by rintro rfl;rw [hHd] at z;cases z)];exact z)
    obtain ⟨mA,nsd,rel⟩:=(show ObjOk X.prog X.w H' s'.heap d (.xd [("fault",.int n)]) from I3.hok d _ hHd)
    exact L.new pins σ H1 s' ea n hp I4 B (fun b o z=>un.there b o (hm.keeps b o z) (by simp)) ⟨⟨_,_,d,mA,hobj,rfl,rfl,rfl,rfl,nsd,rel,hdn,hnp,hde⟩,hea,hm.new⟩ hE
   |next=>exact False.elim hq'
   |brk=>exact False.elim hq'
   |cont=>exact False.elim hq'
end L2
set_option Elab.async false
set_option linter.all false
set_option maxRecDepth 100000
set_option maxHeartbeats 1000000
namespace L2
open PySem PySem.Spec PyProof.Rows
abbrev Cx.tryIn (X:Cx) (xe:Value→Shared→Prop) (pn:List (Addr×Obj)):Cx:={X with xe:=xe,pn:=pn}
abbrev Cx.inH (X:Cx) (ea:Addr):Cx:={X with A:=X.A.mark (some (.ref ea)),calm:=false,xe:=fun _ _=>False}
section
variable {X:Cx} {pins pins':List (Addr×Obj)} {σ:St} {H:Hp} {s:Shared} {xe:Value→Shared→Prop} {ea:Addr}
theorem Cx.Ok.tryIn (ok:X.Ok) (xe:Value→Shared→Prop) (pn:List (Addr×Obj)):(X.tryIn xe pn).Ok:=
 ⟨ok.mod,ok.kind,ok.glob,ok.blt,ok.above,ok.inj,ok.has,ok.cab,ok.hd,ok.frames,ok.stk,ok.exf,ok.bs,ok.bsz,ok.noex,ok.exfs,ok.funs,ok.frf⟩
theorem Cx.Ok.inH (ok:X.Ok) (ea:Addr):(X.inH ea).Ok:=
 ⟨ok.mod,ok.kind,ok.glob,ok.blt,ok.above,ok.inj,ok.has,ok.cab,(fun z=>nomatch (show false=true from z)),ok.frames,ok.stk,ok.exf,ok.bs,ok.bsz,ok.noex,ok.exfs,ok.funs,ok.frf⟩
theorem Inv.tryIn (I:Inv X pins σ H s) (xe:Value→Shared→Prop):Inv (X.tryIn xe (X.pn++pins)) [] σ H s:=
 ⟨I.ok.tryIn _ _,I.os,I.bare,I.base,I.loc,I.cell,I.free,I.freeC,fun p hp=>I.pin p (by rw [List.append_nil] at hp;exact hp),I.hok,I.len⟩
theorem Inv.untry (ok:X.Ok) (I:Inv (X.tryIn xe (X.pn++pins)) pins' σ H s):Inv X pins σ H s:=
 ⟨ok,I.os,I.bare,I.base,I.loc,I.cell,I.free,I.freeC,fun p hp=>I.pin p (List.mem_append_left _ hp),I.hok,I.len⟩
theorem Inv.inH (I:Inv X pins σ H s) (ea:Addr):Inv (X.inH ea) pins σ H s:=⟨I.ok.inH ea,I.os,I.bare,I.base,I.loc,I.cell,I.free,I.freeC,I.pin,I.hok,I.len⟩
theorem Inv.outH (ok:X.Ok) (I:Inv (X.inH ea) pins σ H s):Inv X pins σ H s:=⟨ok,I.os,I.bare,I.base,I.loc,I.cell,I.free,I.freeC,I.pin,I.hok,I.len⟩
theorem SP.untry {D:Ends} {f:Flow} (ok:X.Ok) (h:SP (X.tryIn xe (X.pn++pins)) pins' D f s):SP X pins D f s:=by
 cases f with
 |next=>obtain ⟨σ',H',I,q⟩:=h;exact ⟨σ',H',I.untry ok,q⟩
 |brk=>obtain ⟨σ',H',I,q⟩:=h;exact ⟨σ',H',I.untry ok,q⟩
 |cont=>obtain ⟨σ',H',I,q⟩:=h;exact ⟨σ',H',I.untry ok,q⟩
 |ret u=>obtain ⟨v,σ',H',I,r,q⟩:=h;exact ⟨v,σ',H',I.untry ok,r,q⟩
theorem SP.outH {D:Ends} {f:Flow} (ok:X.Ok) (h:SP (X.inH ea) pins D f s):SP X pins D f s:=by
 cases f with
 |next=>obtain ⟨σ',H',I,q⟩:=h;exact ⟨σ',H',I.outH ok,q⟩
 |brk=>obtain ⟨σ',H',I,q⟩:=h;exact ⟨σ',H',I.outH ok,q⟩
 |cont=>obtain ⟨σ',H',I,q⟩:=h;exact ⟨σ',H',I.outH ok,q⟩
 |ret u=>obtain ⟨v,σ',H',I,r,q⟩:=h;exact ⟨v,σ',H',I.outH ok,r,q⟩
theorem note_caught {C:Addr} {Q:Shared→Prop} {E:Value→Shared→Prop} {H':Hp} {s':Shared} {n:Int} (hst:X.stack=X.env::X.outer) (hfr:X.env.frame=some X.env.locals) (I:Inv X pins σ H s) (hos:s'.os=s.os) (hb:AllBare s'.gens)
  (un:Un (frs X.stack) [] H H' s.heap s'.heap) (hok:HOk X.prog X.w H' s'.heap) (fl:Flies C H' s'.heap s.heap ea n)
  (h:∀ s3,Inv X pins σ H' s3→Flies C H' s3.heap s.heap ea n→Q s3):
  wpAny (model X.prog X.w) X.A (noteFrame (.ref ea) X.env) (fun _ s2=>wpAny (model X.prog X.w) X.A (setFlight (.ref ea) none) (fun _ s3=>Q s3) E s2) E s':=by
 have I':=I.call' (ch:=[]) hos un hok hb (fun _ z=>nomatch z)
 have B:=I.below
 obtain ⟨T,x,hTe,hTl,hTn,oT,ts,t1,t2,t3⟩:=fl
 obtain ⟨oe,vs,d,mA,h1,h2,h3,h4,h5,h6,h7,h8,h9,h10⟩:=id x.at_
 have fe:frs X.stack=(X.env::X.outer).filterMap (·.frame):=by rw [hst];rfl
 refine note_next (outer:=X.outer) (base:=X.base) (oeT:=0) (by rw [I'.ok.frames,hst]) (by rw [←hst];exact I'.stack) hfr h1 h4 h5 hTe t1 t2 t3 fun h' T' Nt=>?_
 rw [←fe] at Nt
 have I2:=I'.noted Nt B x.lo hTl x.he hTn
 have fl2:=Xn.noted (C:=C) I' Nt B (fun b o q=>un.there b o q (by simp)) x (fun o es ep q z=>by rw [t1] at q;cases q;rw [t2] at z;cases z)
 exact h _ I2 fl2
theorem flight_none {M:Model} {A:Around} {C:Addr} {h0:Heap} {n:Int} {Q:Unit→Shared→Prop} {E:Value→Shared→Prop} (fl:Flies C H s.heap h0 ea n) (h:Q () s):wpAny M A (setFlight (.ref ea) none) Q E s:=by
 obtain ⟨T,x,hTe,hTl,hTn,oT,ts,t1,t2,t3⟩:=fl
 obtain ⟨oe,vs,d,mA,h1,h2,h3,h4,h5,h6,h7,h8,h9,h10⟩:=id x.at_
 refine wpAny_setFlight_none h1 h4 h5 t1 t2 (Array.getElem?_eq_some_iff.mp t3).1 ?_
 rw [Heap.update_setField_same s.heap T oT ts 3 .none t1 t2 t3]
 exact h
end
def tTry (n:Nat) (tb:XK→TS) (ts:TS):TS:=fun D σ H=>tb (fun _ _ H'=>∀ σ':St,σ'.length=n→ts D σ' H') D σ H
theorem ps_try {X:Cx} {C fI:Addr} {x:Str} {np hpos pos:Pos} {body:List Stmt} {b0:Stmt} {suite:List Stmt} {tb:XK→TS} {ts:TS} (T:XCls X.K C fI) (hst:X.stack=X.env::X.outer) (hfr:X.env.frame=some X.env.locals) (hg:Gl X x) (hm:X.mg x=some (.ref C))
  (hb:∀ xe pn E',Passes (CXF C X.prog X.w) (X.tryIn xe pn) E'→PSs (X.tryIn xe pn) body (tb E')) (hs:∀ ea,PSs (X.inH ea) (b0::suite) ts) (hdb:(x==("__debug__":Str))=false:=by decide):
  PS X (.Try body [.ExceptHandler (some (.Name x np)) none (b0::suite) hpos] [] [] pos) (tTry X.N.length tb ts):=by
 intro pins s σ H D I h
 have ok:=I.ok
 refine wpAny_Try_except (thn (hb _ (X.pn++pins) _ ?_ [] s σ H D (I.tryIn _) h) fun f s1 q=>?_)
 ·intro pins' σ' H1 s1 e s' I1 ⟨ea,n,H',he,hos,hbare,un,hok,fl,hE⟩
  subst he
  refine note_caught hst hfr (I1.untry ok) hos hbare un hok fl fun s3 I3 fl3=>?_
  obtain ⟨nm,qn,N,bs,sn,sub,ab,col,dd,k0,k1,k2,k3,k5,lk,nok,ni,nf,ns,ng,nh⟩:=id T.cls
  refine wpAny_handleBy_cons (codeAny_handlers_test (ld_glob (X:=X.inH ea) (I3.inH ea) hg hm ?_ hdb)) (fun z=>nomatch z)
  obtain ⟨oe,vs,d,mA,h1,h2,h3,h4,h5,h6⟩:=fl3.choose_spec.1.at_
  have hC:=I3.kIn _ _ lk
  obtain ⟨hp,g,dr,tks,os⟩:=s3
  refine wpAny_excMatches_sub_self hC h1 h2 F.excBase_Exception.hasBase ?_
  refine codeAny_handlers_suite (flight_none fl3 ?_)
  exact wpAny_mono (hs ea pins _ σ' H' D (I3.inH ea) (hE σ' I3.len)) (fun f s4 q=>q.outH ok) fun _ _ z=>False.elim z
 ·have q':=q.untry ok
  cases f with
  |next=>exact wpAny_execs_nil q'
  |brk=>exact q'
  |cont=>exact q'
  |ret u=>exact q'
end L2
set_option Elab.async false
set_option linter.all false
set_option maxRecDepth 100000
set_option maxHeartbeats 1000000
namespace L2
open PySem PySem.Spec PyProof.Rows
section
variable {X:Cx} {pins:List (Addr×Obj)} {σ:St} {H:Hp} {s:Shared} {h' h0:Heap} {a:Addr} {o:HO}
theorem Inv.track (I:Inv X pins σ H s) (B:Below X pins h0) (hn:h0.get? a=none) (hH:H a=none) (ok:ObjOk X.prog X.w (upd H a o) s.heap a o):Inv X pins σ (upd H a o) s:=by
 refine ⟨I.ok,I.os,I.bare,⟨I.base.keep,I.base.slot,fun b ob e n hx=>?_,I.base.there,fun b xs e=>?_,fun b ob xs e=>?_,fun b ps e=>?_⟩,I.loc,I.cell,?_,fun x c e=>?_,fun p hp=>?_,fun b u e=>?_,I.len⟩
 ·rw [upd_ne (ne_of_new (B.s0 b ob e hx) hn)]
  exact I.base.free b ob e n hx
 ·have e:=I.base.tups b xs e
  rw [upd_ne (ne_of_none e hH)];exact e
 ·have e:=I.base.frzs b ob xs e
  rw [upd_ne (ne_of_none e hH)];exact e
 ·obtain ⟨m,e⟩:=I.base.tbls b ps e
  exact ⟨m,by rw [upd_ne (ne_of_none e hH)];exact e⟩
 ·rw [upd_ne (ne_of_new B.loc hn)];exact I.free
 ·rw [upd_ne (ne_of_new (B.cell x c e) hn)];exact I.freeC x c e
 ·obtain ⟨h1,h2,h3⟩:=I.pin p hp
  exact ⟨h1,by rw [upd_ne (ne_of_new (B.pin p hp) hn)];exact h2,h3⟩
 ·by_cases hb:b=a
  ·subst hb;rw [upd_same] at e;cases e;exact ok
  ·rw [upd_ne hb] at e
   exact (I.hok b u e).stay (fun _ _ _ q=>q) (fun c q=>by rw [upd_ne (ne_of_none q hH)];exact q) fun c xs q=>by rw [upd_ne (ne_of_none q hH)];exact q
theorem Inv.forget {m':Str→Option Value} {t':Nat} (I:Inv X pins σ H s) (hn:h'.Ns X.env.locals m') (hs:Heap.SameBut X.env.locals s.heap h'):Inv X pins (List.replicate X.N.length none) H {s with heap:=h',toks:=t'}:=by
 have old:∀ b ob,X.s_0.heap.get? b=some ob→b≠X.env.locals:=fun b ob e=>Nat.ne_of_lt (Nat.lt_of_lt_of_le (Heap.lt_size e) I.ok.above)
 refine ⟨I.ok,I.os,I.bare,⟨fun b ob e n hb hx=>(hs.2 b (old b ob e)).trans (I.base.keep b ob e n hb hx),fun b ob e n hb hx=>?_,I.base.free,fun b ob e hx=>?_,I.base.tups,I.base.frzs,I.base.tbls⟩,⟨_,hn,fun j y v e1 e2 e3=>?_⟩,fun y c e=>?_,I.free,I.freeC,fun p hp=>?_,fun b ob e=>?_,by simp⟩
 ·obtain ⟨sl,e1⟩:=I.base.slot b ob e n hb hx
  exact ⟨sl,(hs.2 b (old b ob e)).trans e1⟩
 ·obtain ⟨o',e1⟩:=I.base.there b ob e hx
  exact ⟨o',(hs.2 b (old b ob e)).trans e1⟩
 ·rw [List.getElem?_replicate] at e2
  split at e2<;>cases e2
 ·obtain ⟨w',z⟩:=I.cell y c e
  exact ⟨w',z.sameBut hs (I.cne y c e)⟩
 ·obtain ⟨e,n,ne,nf,d⟩:=I.pin p hp
  exact ⟨(hs.2 p.1 ne).trans e,n,ne,nf,d⟩
 ·refine (I.hok b ob e).stay (fun c w' hc q=>(hs.2 c ?_).trans q) (fun _ q=>q) fun _ _ q=>q
  rintro rfl
  rcases hc with rfl|hc
  ·rw [I.free] at e;cases e
  ·rw [I.free] at hc;cases hc
end
def XR (C d e:Addr):HO:=.ext fun h=>∃ oe vs,h.get? e=some oe∧oe.cls=.ref C∧oe.dict=some d∧oe.data=.fields vs
theorem XR.ok {P:Program} {w:World} {H:Hp} {h:Heap} {C d e:Addr} {oe:Obj} {vs:Array Value} (h1:h.get? e=some oe) (h2:oe.cls=.ref C) (h3:oe.dict=some d) (h4:oe.data=.fields vs):ObjOk P w H h e (XR C d e):=
 ⟨⟨oe,vs,h1,h2,h3,h4⟩,⟨_,h1⟩,fun _ _ ⟨oe,vs,z,r⟩ k=>⟨oe,vs,k _ z,r⟩⟩
def tXget (C:Addr) (ta:TE):TE:=fun σ H Q=>ta σ H fun x H1=>∃ e d n,x=.ref e∧H1 e=some (XR C d e)∧H1 d=some (.xd [("fault",.int n)])∧Q (.int n) H1
theorem pe_xget {X:Cx} {C fI:Addr} {e:Expr} {pos:Pos} {ta:TE} (T:XCls X.K C fI) (he:PE X e ta) (hb:attributeBase e "fault" X.env (eval e X.env)=eval e X.env):PE X (.Attribute e "fault" pos) (tXget C ta):=by
 intro pins s σ H Q I h
 refine attr_of hb (thn (he pins s σ H _ I h) fun u s1 ⟨x,H1,I1,rx,ea,d,n,ex,h1,h2,q⟩=>?_)
 subst ex
 obtain rfl:u=Value.ref ea:=rx
 obtain ⟨nm,qn,N,bs,sn,sub,ab,col,dd,k0,k1,k2,k3,k5,lk,nok,ni,nf,ns,ng,nh⟩:=id T.cls
 have hC:=I1.kIn _ _ lk
 have hN:s1.heap.Ns N (s1.heap.nsMap N):=.of_isNs (PySem.W.isNs_of_in I1.kIn nok)
 obtain ⟨⟨oe,vs,g1,g2,g3,g4⟩,_,_⟩:=(show ObjOk X.prog X.w H1 s1.heap ea (XR C d ea) from I1.hok ea _ h1)
 obtain ⟨mA,nsd,rel⟩:=(show ObjOk X.prog X.w H1 s1.heap d (.xd [("fault",.int n)]) from I1.hok d _ h2)
 obtain ⟨uf,hf,tk',rfl⟩:=RelO.some_of (v:=V.int n) (o:=mA "fault") (rel "fault")
 have I2:=I1.tok (s1.toks+1)
 obtain ⟨hp,g,dr,tks,os⟩:=s1
 exact own_attr F.attrBase_Exception hC hN (PySem.W.ns_none_of I1.kIn hN ng) (PySem.W.ns_none_of I1.kIn hN nh) (PySem.W.ns_none_of I1.kIn hN nf) fault_base g1 g2 (fun c z=>by rw [g4] at z;cases z) g3 nsd hf rfl ⟨.int n,H1,I2,⟨_,rfl⟩,q⟩
def tTryAs (C:Addr) (i n:Nat) (tb:XK→TS) (ts:TS):TS:=fun D σ H=>tb (fun v _ H'=>∃ f,v=.int f 0∧∀ (σ':St) (e d:Addr),σ'.length=n→H' e=none→H' d=none→d≠e→
 ts {nx:=fun _ _=>False,rt:=D.rt} (σ'.set i (some (.ref e))) (upd (upd H' d (.xd [("fault",.int f)])) e (XR C d e))) D σ H
theorem ps_tryAs {X:Cx} {C fI:Addr} {x y:Str} {i:Nat} {np hpos pos:Pos} {body:List Stmt} {b0:Stmt} {suite:List Stmt} {tb:XK→TS} {ts:TS} (T:XCls X.K C fI) (hst:X.stack=X.env::X.outer) (hfr:X.env.frame=some X.env.locals) (hg:Gl X x) (hm:X.mg x=some (.ref C))
  (hN:X.N.Nodup) (hi:X.N[i]?=some y) (hy:X.env.kindOf y=some .local)
  (hb:∀ xe pn E',Passes (CXF C X.prog X.w) (X.tryIn xe pn) E'→PSs (X.tryIn xe pn) body (tb E')) (hs:∀ ea,PSs (X.inH ea) (b0::suite) ts) (hdb:(x==("__debug__":Str))=false:=by decide):
  PS X (.Try body [.ExceptHandler (some (.Name x np)) (some y) (b0::suite) hpos] [] [] pos) (tTryAs C i X.N.length tb ts):=by
 intro pins s σ H D I h
 have ok:=I.ok
 refine wpAny_Try_except (thn (hb _ (X.pn++pins) _ ?_ [] s σ H D (I.tryIn _) h) fun f s1 q=>?_)
 ·intro pins' σ' H1 s1 e s' I1 ⟨ea,n,H',he,hos,hbare,un,hok,fl,fn,hfn,hE⟩
  subst he
  obtain rfl:n=fn:=by cases hfn;rfl
  have B:=(I1.untry ok).below
  refine note_caught hst hfr (I1.untry ok) hos hbare un hok fl fun s3 I3 fl3=>?_
  obtain ⟨nm,qn,N,bs,sn,sub,ab,col,dd,k0,k1,k2,k3,k5,lk,nok,ni,nf,ns,ng,nh⟩:=id T.cls
  refine wpAny_handleBy_cons (codeAny_handlers_test (ld_glob (X:=X.inH ea) (I3.inH ea) hg hm ?_ hdb)) (fun z=>nomatch z)
  have fl4:=fl3
  obtain ⟨TT,xn,_⟩:=fl4
  obtain ⟨oe,vs,d,mA,h1,h2,h3,h4,h5,h6,h7,h8,h9,h10⟩:=id xn.at_
  have hC:=I3.kIn _ _ lk
  have It:Inv X pins σ' (upd (upd H' d (.xd [("fault",.int n)])) ea (XR C d ea)) s3:=by
   have J:=I3.track (a:=d) (o:=.xd [("fault",.int n)]) B h9 h8 ?_
   ·exact J.track (a:=ea) (o:=XR C d ea) B xn.lo (by rw [upd_ne (Ne.symm h10)];exact xn.he) (XR.ok h1 h2 h3 h4)
   ·exact ⟨mA,h6,h7⟩
  obtain ⟨hp,g,dr,tks,os⟩:=s3
  refine wpAny_excMatches_sub_self hC h1 h2 F.excBase_Exception.hasBase ?_
  refine codeAny_handlers_suite_as (flight_none fl3 ?_)
  refine store_ok (X:=X.inH ea) (v:=.ref ea) (It.inH ea) hN hi (.inl hy) rfl (fun s4 I4=>?_) (.inr hy)
  refine wpAny_mono (hs ea pins _ _ _ _ I4 (hE σ' ea d I3.len xn.he h8 h10)) (fun f s5 q=>?_) fun _ _ z=>False.elim z
  cases f with
  |next=>obtain ⟨_,_,_,z⟩:=q;exact False.elim z
  |brk=>obtain ⟨_,_,_,z⟩:=q;exact False.elim z
  |cont=>obtain ⟨_,_,_,z⟩:=q;exact False.elim z
  |ret u=>
   obtain ⟨v,σ6,H6,I6,r,q⟩:=q
   have I6:=I6.outH ok
   obtain ⟨m,hns,_⟩:=id I6.loc
   refine wpAny_nameGoes hy hns (by rw [ok.kind];rfl) fun h' m' hn' hs'=>?_
   exact ⟨v,_,H6,I6.forget hn' hs',r,q⟩
 ·have q':=q.untry ok
  cases f with
  |next=>exact wpAny_execs_nil q'
  |brk=>exact q'
  |cont=>exact q'
  |ret u=>exact q'
end L2
set_option Elab.async false
set_option linter.all false
set_option maxRecDepth 100000
set_option maxHeartbeats 1000000
namespace L2
open PySem PySem.Spec PyProof.Rows
structure RoomN (k:Nat) (A:Around):Prop where
 dp:A.depth+3 * k+5<recursionLimit
 un:A.units+16 * k+200<cLine
theorem Room.n {k:Nat} {A:Around} (r:Room k A):RoomN k A:=⟨r.dp,r.un⟩
theorem RoomN.mark {k:Nat} {A:Around} (r:RoomN k A) (h:Option Value):RoomN k (A.mark h):=⟨r.dp,r.un⟩
theorem RoomN.make {k:Nat} {A:Around} (r:RoomN (k+1) A) (C:Addr) (us:List Value) (kw:List (Str×Value)):RoomN k (A.under (.builtin "type.__call__" ⟨.ref C::us,kw⟩)):=
 ⟨by have:=r.dp;rw [make_depth];omega,by have:=r.un;rw [make_units];omega⟩
theorem RoomN.deeper {k:Nat} {A:Around} (r:RoomN (k+1) A) (env:Env):RoomN k (A.deeper env):=
 ⟨by have:=r.dp;show A.depth+1+3 * k+5<_;omega,by have:=r.un;show A.units+3+16 * k+200<_;omega⟩
theorem RoomN.depth {k:Nat} {A:Around} (r:RoomN k A):A.depth<recursionLimit:=by have:=r.dp;omega
structure FnOkN (P:Program) (w:World) (K:PySem.W.Frag) (mg:Str→Option Value) (base:Heap) (CX:CXT) (k:Nat) (f:Addr) (fd:FuncData) (ps:List Str) (sp:Sp):Prop where
 len:∀ vs H Q E,sp vs H Q E→vs.length=ps.length
 run:∀ (A:Around) (outer:List Env) (s:Shared) (H:Hp) (args:Args) (us:List Value) (vs:List V) (Q:VK) (E:XK),RoomN k A→Env0 P w K mg base A outer s H→BindsTo s fd args (ps.zip us)→Vals vs us→sp vs H Q E→
  codeAny (model P w) A (.call (.ref f) args) (CR CX outer P w H s Q E) s
abbrev cxN (P:Program) (w:World) (K:PySem.W.Frag) (mg:Str→Option Value) (base:Heap) (N:List Str) (qual:Str) (scope:Scope) (f:Addr) (cd:Value) (A:Around) (outer:List Env) (s:Shared) (H:Hp) (E:XK):Cx:=
 {cxOf CX0 P w K mg base N qual scope f cd A outer s H E with calm:=false}
theorem Fun.okN {P:Program} {w:World} {K:PySem.W.Frag} {mg:Str→Option Value} {base:Heap} {x qual:Str} {st:Stmt} {f:Addr} {fd:FuncData} {N ps:List Str} {k:Nat} {sp:Sp} (F:Fun K x qual st f fd) (S:FnScope N ps (defScope st))
  (len:∀ vs H Q E,sp vs H Q E→vs.length=ps.length)
  (hbody:∀ (cdv:Value) (A:Around) (outer:List Env) (s:Shared) (H:Hp) (vs:List V) (Q:VK) (E:XK),RoomN k (A.deeper (envOfC qual (defScope st) s.heap.objs.size f cdv))→sp vs H Q E→
   ∃ t,PSs (cxN P w K mg base N qual (defScope st) f cdv A outer s H E).nox (defBody st) t∧t {nx:=fun _ H'=>Q .non H',rt:=Q} (start N vs) H):FnOkN P w K mg base CX0 (k+1) f fd ps sp:=by
 obtain ⟨oc,od,kV,doc,pm,an,cdv,ct,osl,rfl,lk,hcd⟩:=F.ex
 refine ⟨len,fun A outer s H args us vs Q E hr e0 hb r hsp=>?_⟩
 have hl:=len _ _ _ _ hsp
 have KX:K.In s.heap:=e0.mod.kin.keeps fun b o e=>(e0.bs b o e).1
 have lim:s.heap.NoLimit:=e0.mod.nolimit.keeps fun b o e=>(e0.bs b o e).1
 have hkind:∀ y∈ps.zip us,(defScope st).names.lookup y.1=some .local∨((defScope st).names.lookup y.1=some .cell∧((cellsFrom (s.heap.objs.size+1) (defScope st).names []).lookup y.1).isSome=true):=fun ⟨n,v⟩ hy=>by
  rcases S.par n (List.of_mem_zip hy).1 with q|q
  ·exact .inl q
  ·exact .inr ⟨q,PySem.W.cellsFrom_some _ _ _ (.inl q)⟩
 refine codeAny_call_function hr.depth (KX _ _ lk) rfl S.co S.gen rfl (PySem.W.codeRec_of KX hcd) (hb _ _ _ _ ?_)
 refine wpAny_newFunctionEnv_cells S.kind hkind fun env he s1 x=>?_
 subst he
 refine ⟨lim.keeps x.toInCall.keep,codeAny_func ?_⟩
 obtain ⟨t,ht,hq⟩:=hbody cdv A outer s H vs Q E (hr.deeper _) hsp
 have I0:=inv_start (CX:=CX0) (P:=P) (w:=w) (K:=K) (mg:=mg) (base:=base) (N:=N) (qual:=qual) (f:=f) (cd:=cdv) (A:={A with handled:=none}) (outer:=outer) (H:=H) (E:=E) S rfl ⟨e0.frames,e0.mod,e0.bs,e0.bsz,e0.funs,e0.frf,e0.hok,e0.bare⟩ hl r x
 have ok:=I0.ok
 have I:Inv (cxN P w K mg base N qual (defScope st) f cdv A outer s H E).nox [] (start N vs) H s1:=
  ⟨⟨ok.mod,ok.kind,ok.glob,ok.blt,ok.above,ok.inj,ok.has,ok.cab,(fun z=>nomatch (show false=true from z)),ok.frames,ok.stk,ok.exf,ok.bs,ok.bsz,ok.noex,ok.exfs,ok.funs,ok.frf⟩,I0.os,I0.bare,I0.base,I0.loc,I0.cell,I0.free,I0.freeC,I0.pin,I0.hok,I0.len⟩
 refine wpAny_mono (ht [] s1 (start N vs) H _ I hq) (fun fl s' hs=>?_) fun e s' hs=>False.elim hs
 have fin:∀ {σ':St} {H':Hp} {v:V} {u:Value},Inv (cxN P w K mg base N qual (defScope st) f cdv A outer s H E).nox [] σ' H' s'→RelV v u→Q v H'→CE outer P w H s Q u s':=
  fun {σ' H' v u} J rv q=>⟨v,H',J.os,J.bare,J.base,J.hok,rv,q⟩
 cases fl with
 |ret u=>
  obtain ⟨v,σ',H',J,rv,q⟩:=hs
  exact fin J rv q
 |next=>
  obtain ⟨σ',H',J,q⟩:=hs
  exact fin (v:=V.non) (u:=Value.none) J rfl q
 |brk=>
  obtain ⟨_,_,_,q⟩:=hs
  exact False.elim q
 |cont=>
  obtain ⟨_,_,_,q⟩:=hs
  exact False.elim q
section
variable {X:Cx} {k:Nat} {f C:Addr} {fd:FuncData} {ps:List Str} {sp:Sp} {x:Str} {p pos:Pos} {e:Expr} {es:List Expr} {t:TA}
theorem pe_makeN (M:Mk X.K C f) (F:FnOkN X.prog X.w X.K X.mg X.base CX0 k f fd ps sp) (hr:RoomN (k+1) X.A) (hg:Gl X x) (hm:X.mg x=some (.ref C)) (hb:Binds X.K fd ps [])
  (ha:PA X (e::es) t) (hdb:(x==("__debug__":Str))=false:=by decide) (he:starEach (e::es) X.env=(false,eval e X.env)::starEach es X.env:=by rfl) (hpl:(backTo pos (starEach es X.env)).any (·.1)=false:=by rfl):
  PE X (.Call (.Name x p) (e::es) [] pos) (tMake C sp [] E0 t):=by
 intro pins s σ H Q I h
 refine wpAny_Call_Name_kw (ld_glob I hg hm ?_ hdb)
 refine PySem.W.callWith_K (h₀:=X.base) I.ok.mod.kin M.kp (thn (ha pos pins s σ H _ I h) fun us s1 ⟨vs,H1,I1,r,q⟩=>⟨I1.kIn,?_⟩) he hpl
 have hq:=q (s1.heap.objs.size+1) s1.heap.objs.size (I1.hok.fresh (Nat.le_succ _)) (I1.hok.fresh (Nat.le_refl _)) (Nat.ne_of_lt (Nat.lt_succ_self _))
 rw [List.append_nil] at hq
 have I2:=Inv.made (C:=C) I1
 have r2:Vals (V.ref (s1.heap.objs.size+1)::vs) (Value.ref (s1.heap.objs.size+1)::us):=.cons rfl r
 have hl:(Value.ref (s1.heap.objs.size+1)::us++[]).length=ps.length:=by
  have e:=r2.length
  rw [F.len _ _ _ _ hq] at e
  rw [List.append_nil]
  exact e.symm
 have hb2:=hb _ (Value.ref (s1.heap.objs.size+1)::us) I2.kIn hl
 rw [List.append_nil] at hb2
 refine wpAny_call (make_map (f:=f) I1.kIn M.makes M.init (beq_iff_eq.mp M.fn) (codeAny_mono (F.run _ X.stack _ _ ⟨Value.ref (s1.heap.objs.size+1)::us,[]⟩ (Value.ref (s1.heap.objs.size+1)::us) _ _ E0 (hr.make C us [])
  (I2.env0.make C us []) hb2 r2 hq) fun r s' hq'=>?_))
 cases r with
 |error e=>exact False.elim hq'
 |ok fl=>
  cases fl with
  |ret u=>
   obtain ⟨v,H',I3,rv,ev,q3⟩:=I2.after hq'
   subst ev
   exact ⟨rv,⟨V.ref (s1.heap.objs.size+1),H',I3,rfl,q3⟩⟩
  |next=>exact False.elim hq'
  |brk=>exact False.elim hq'
  |cont=>exact False.elim hq'
end
theorem Fun.okX {P:Program} {w:World} {K:PySem.W.Frag} {mg:Str→Option Value} {base:Heap} {C:Addr} {x qual:Str} {st:Stmt} {f:Addr} {fd:FuncData} {N ps:List Str} {k:Nat} {sp:Sp} (F:Fun K x qual st f fd) (S:FnScope N ps (defScope st))
  (len:∀ vs H Q E,sp vs H Q E→vs.length=ps.length)
  (hbody:∀ (cdv:Value) (A:Around) (outer:List Env) (s:Shared) (H:Hp) (vs:List V) (Q:VK) (E:XK),Room k (A.deeper (envOfC qual (defScope st) s.heap.objs.size f cdv))→sp vs H Q E→
   ∃ t,PSs (cxOf (CXF C P w) P w K mg base N qual (defScope st) f cdv A outer s H E) (defBody st) t∧t {nx:=fun _ H'=>Q .non H',rt:=Q} (start N vs) H):FnOk P w K mg base (CXF C P w) (k+1) f fd ps sp:=by
 obtain ⟨oc,od,kV,doc,pm,an,cdv,ct,osl,rfl,lk,hcd⟩:=F.ex
 exact fn_of lk hcd S len fun A outer s H vs Q E hr hsp=>hbody cdv A outer s H vs Q E hr hsp
end L2
set_option Elab.async false
set_option linter.all false
set_option maxRecDepth 100000
set_option maxHeartbeats 2000000
namespace L2
open PySem PySem.Spec PyProof.Rows
theorem pe_ordc {X:Cx} {x:Str} (n:Int) {j:Nat} {p pp pos:Pos} (hm:X.mg "ord"=none) (hg:Gl X "ord":=by rfl) (hl:x.length=1:=by decide+kernel) (hn:((x.cps.getD 0 0:Nat):Int)=n:=by decide+kernel)
  (he:starEach [.Constant (.str x) j pp] X.env=(false,eval (.Constant (.str x) j pp) X.env)::starEach [] X.env:=by rfl):PE X (.Call (.Name "ord" p) [.Constant (.str x) j pp] [] pos) (tC (.int n)):=by
 intro pins s σ H Q I h
 refine pe_callB (r:=fun xs H Q=>∃ x,xs=[.str x]∧x.length=1∧Q (.int (x.cps.getD 0 0:Nat)) H) call_ord hg hm boot_ord (pa_cons pe_str pa_nil he) (by decide) (by decide) he rfl pins s σ H Q I ?_
 refine ⟨x,rfl,hl,?_⟩
 rw [hn]
 exact h
end L2
namespace Br1
open PySem PySem.Spec PyProof.Rows L2
section
variable {P:Program} {w:World} {K:PySem.W.Frag} {mg:Str→Option Value} {base:Heap}
def isLet (b:Int):Bool:=decide (97≤b) && decide (b≤122)
def isDig (b:Int):Bool:=decide (48≤b) && decide (b≤57)
def spIsLetter:Sp:=fun vs H Q _=>∃ b:Int,vs=[.int b]∧Q (.bl (isLet b)) H
def spIsDigit:Sp:=fun vs H Q _=>∃ b:Int,vs=[.int b]∧Q (.bl (isDig b)) H
theorem sc_isLetter:FnScope ["byte"] ["byte"] (defScope sIsLetter):=⟨rfl,rfl,rfl,by decide+kernel,rfl,by decide+kernel,by decide+kernel⟩
theorem ok_isLetter {f:Addr} {fd:FuncData} (F:Fun K "is_letter" "is_letter" sIsLetter f fd) (hord:mg "ord"=none):FnOk P w K mg base CX0 1 f fd ["byte"] spIsLetter:=by
 refine F.ok sc_isLetter (fun vs H Q E h=>?_) (fun cdv A outer s H vs Q E hr h=>?_)
 ·obtain ⟨b,rfl,_⟩:=h
  rfl
 ·obtain ⟨b,rfl,k⟩:=h
  refine ⟨_,pss_one (ps_ret (pe_chain op_le op_le (pe_ordc 97 hord) (pv 0) (pe_ordc 122 hord))),?_⟩
  refine ⟨_,rfl,_,_,rfl,rfl,_,rfl,ite2 (fun h1=>⟨_,_,rfl,rfl,?_⟩) (fun h1=>?_)⟩
  ·have e:isLet b=decide (b≤122):=by unfold isLet;rw [h1,Bool.true_and]
   rw [e] at k
   exact k
  ·have e:isLet b=false:=by unfold isLet;rw [eq_false_of_ne_true h1,Bool.false_and]
   rw [e] at k
   exact k
theorem sc_isDigit:FnScope ["byte"] ["byte"] (defScope sIsDigit):=⟨rfl,rfl,rfl,by decide+kernel,rfl,by decide+kernel,by decide+kernel⟩
theorem ok_isDigit {f:Addr} {fd:FuncData} (F:Fun K "is_digit" "is_digit" sIsDigit f fd) (hord:mg "ord"=none):FnOk P w K mg base CX0 1 f fd ["byte"] spIsDigit:=by
 refine F.ok sc_isDigit (fun vs H Q E h=>?_) (fun cdv A outer s H vs Q E hr h=>?_)
 ·obtain ⟨b,rfl,_⟩:=h
  rfl
 ·obtain ⟨b,rfl,k⟩:=h
  refine ⟨_,pss_one (ps_ret (pe_chain op_le op_le (pe_ordc 48 hord) (pv 0) (pe_ordc 57 hord))),?_⟩
  refine ⟨_,rfl,_,_,rfl,rfl,_,rfl,ite2 (fun h1=>⟨_,_,rfl,rfl,?_⟩) (fun h1=>?_)⟩
  ·have e:isDig b=decide (b≤57):=by unfold isDig;rw [h1,Bool.true_and]
   rw [e] at k
   exact k
  ·have e:isDig b=false:=by unfold isDig;rw [eq_false_of_ne_true h1,Bool.false_and]
   rw [e] at k
   exact k
end
end Br1
set_option Elab.async false
set_option linter.all false
set_option maxRecDepth 100000
set_option maxHeartbeats 2000000
namespace Br1
open PySem PySem.Spec PyProof.Rows L2
def RdF (a:Addr) (p:Int):List (Str×V):=[("text",.ref a),("position",.int p)]
theorem rdf_text (a:Addr) (p:Int):(RdF a p).lookup ("text":Str)=some (V.ref a):=rfl
theorem rdf_pos (a:Addr) (p:Int):(RdF a p).lookup ("position":Str)=some (V.int p):=rfl
def RdAt (CR:Addr) (H:Hp) (r a:Addr) (p:Nat):Prop:=∃ dx,H r=some (.ins CR dx (RdF a p))
def SX (r:Addr) (H H':Hp):Prop:=∀ b o,H b=some o→b≠r→H' b=some o
theorem SX.refl (r:Addr) (H:Hp):SX r H H:=fun _ _ e _=>e
theorem SX.trans {r:Addr} {H H1 H2:Hp} (a:SX r H H1) (b:SX r H1 H2):SX r H H2:=fun c o e n=>b c o (a c o e n) n
theorem SX.upd {r:Addr} {H:Hp} (o:HO):SX r H (upd H r o):=fun b u e n=>by rw [upd_ne n];exact e
theorem Same.sx {r:Addr} {H H':Hp} (s:Same H H'):SX r H H':=fun b o e _=>s b o e
theorem SX.seq {K:PySem.W.Frag} {r a:Addr} {H H':Hp} {xs:List V} {C dx:Addr} {fs:List (Str×V)} (s:SX r H H') (hr:H r=some (.ins C dx fs)) (h:SqL K H a xs):SqL K H' a xs:=by
 rcases h with (h|⟨o,h⟩)|h
 ·exact .inl (.inl (s _ _ h (by rintro rfl;rw [hr] at h;cases h)))
 ·exact .inl (.inr ⟨o,s _ _ h (by rintro rfl;rw [hr] at h;cases h)⟩)
 ·exact .inr h
theorem SX.seqT {K:PySem.W.Frag} {r a:Addr} {H H':Hp} {xs:List V} {C dx:Addr} {fs:List (Str×V)} (s:SX r H H') (hr:H r=some (.ins C dx fs)) (h:SqT K H a xs):SqT K H' a xs:=by
 rcases h with (h|⟨o,h⟩)|h
 ·exact .inl (.inl (s _ _ h (by rintro rfl;rw [hr] at h;cases h)))
 ·exact .inl (.inr ⟨o,s _ _ h (by rintro rfl;rw [hr] at h;cases h)⟩)
 ·exact .inr h
structure RdT (K:PySem.W.Frag) (CR:Addr):Prop where
 cl:Cls K CR
 nT:NoAttr K CR "text"
 nP:NoAttr K CR "position"
def hereI (l:List Int) (p:Nat):Int:=(l[p]?).getD 256
structure Txa (K:PySem.W.Frag) (CR:Addr) (H:Hp) (r a:Addr) (l:List Int) (p:Nat):Prop where
 rd:RdAt CR H r a p
 tx:SqL K H a (l.map V.int)
 le:p≤l.length
theorem Txa.same {K:PySem.W.Frag} {CR:Addr} {H H':Hp} {r a:Addr} {l:List Int} {p q:Nat} (x:Txa K CR H r a l p) (s:SX r H H') (hr:RdAt CR H' r a q) (hq:q≤l.length):Txa K CR H' r a l q:=
 let ⟨_,e⟩:=x.rd
 ⟨hr,s.seq e x.tx,hq⟩
section
variable {P:Program} {w:World} {K:PySem.W.Frag} {mg:Str→Option Value} {base:Heap}
theorem sc_stuckI:FnScope ["self","fault"] ["self","fault"] (defScope sStuckI):=⟨rfl,rfl,rfl,by decide+kernel,rfl,by decide+kernel,by decide+kernel⟩
theorem ok_stuckI {f C:Addr} {fd:FuncData} (F:Fun K "__init__" "Stuck.__init__" sStuckI f fd) (T:XCls K C f):FnOk P w K mg base CX0 1 f fd ["self","fault"] (spXI C):=by
 refine F.ok sc_stuckI (fun vs H Q E h=>?_) (fun cdv A outer s H vs Q E hr h=>?_)
 ·obtain ⟨e,t,n,rfl,_⟩:=h
  rfl
 ·obtain ⟨e,t,n,rfl,he,k⟩:=h
  refine ⟨_,pss_one (ps_xfld T (pv 0) (pv 1) rfl),?_⟩
  exact ⟨_,rfl,_,rfl,e,t,n,rfl,rfl,he,k⟩
def spRI (CR:Addr):Sp:=fun vs H Q _=>∃ r dx a:Addr,vs=[.ref r,.ref a]∧H r=some (.ins CR dx [])∧∀ H':Hp,RdAt CR H' r a 0→SX r H H'→Q .non H'
theorem sc_rdI:FnScope ["self","text"] ["self","text"] (defScope sRdI):=⟨rfl,rfl,rfl,by decide+kernel,rfl,by decide+kernel,by decide+kernel⟩
theorem ok_rdI {f CR:Addr} {fd:FuncData} (F:Fun K "__init__" "Reader.__init__" sRdI f fd) (T:RdT K CR):FnOk P w K mg base CX0 1 f fd ["self","text"] (spRI CR):=by
 refine F.ok sc_rdI (fun vs H Q E h=>?_) (fun cdv A outer s H vs Q E hr h=>?_)
 ·obtain ⟨r,dx,a,rfl,_⟩:=h
  rfl
 ·obtain ⟨r,dx,a,rfl,hp,k⟩:=h
  refine ⟨_,pss_cons (ps_fld (pv 0) (pv 1) rfl) (pss_one (ps_fld (pv 0) pe_int rfl)),?_⟩
  refine ⟨_,rfl,_,rfl,r,CR,dx,[],rfl,hp,T.cl,T.nT,(by show 0<1000;decide),?_⟩
  refine ⟨_,rfl,r,CR,dx,_,rfl,upd_same,T.cl,T.nP,(by show 1<1000;decide),?_⟩
  exact k _ ⟨dx,upd_same⟩ fun b o e hb=>by rw [upd_ne hb,upd_ne hb];exact e
def spEnded (K:PySem.W.Frag) (CR:Addr):Sp:=fun vs H Q _=>∃ (r a:Addr) (l:List Int) (p:Nat),vs=[.ref r]∧Txa K CR H r a l p∧Q (.bl (decide (p=l.length))) H
theorem sc_ended:FnScope ["self"] ["self"] (defScope sEnded):=⟨rfl,rfl,rfl,by decide+kernel,rfl,by decide+kernel,by decide+kernel⟩
theorem ok_ended {f CR:Addr} {fd:FuncData} (F:Fun K "ended" "Reader.ended" sEnded f fd) (T:RdT K CR) (hlen:mg "len"=none):FnOk P w K mg base CX0 1 f fd ["self"] (spEnded K CR):=by
 refine F.ok sc_ended (fun vs H Q E h=>?_) (fun cdv A outer s H vs Q E hr h=>?_)
 ·obtain ⟨r,a,l,p,rfl,_⟩:=h
  rfl
 ·obtain ⟨r,a,l,p,rfl,⟨⟨dx,h1⟩,tx,le⟩,k⟩:=h
  refine ⟨_,pss_one (ps_ret (pe_cmpR op_eq (pe_fld (pv 0) rfl) (pe_callB call_len_seq (by rfl) hlen PySem.boot_len (pa_cons (pe_fld (pv 0) rfl) pa_nil)) (nomark _))),?_⟩
  refine ⟨_,rfl,r,CR,dx,_,_,rfl,h1,T.cl,T.nP,rdf_pos _ _,_,rfl,r,CR,dx,_,_,rfl,h1,T.cl,T.nT,rdf_text _ _,a,_,rfl,.inl tx,rfl,?_⟩
  have e:decide (V.int (p:Int)=V.int ((l.map V.int).length:Int))=decide (p=l.length):=by
   rw [List.length_map,dec_int,Bool.eq_iff_iff,beq_iff_eq,decide_eq_true_iff]
   (clear le;omega)
  show Q (.bl (decide (V.int (p:Int)=V.int ((l.map V.int).length:Int)))) H
  rw [e]
  exact k
structure RdM (P:Program) (w:World) (K:PySem.W.Frag) (mg:Str→Option Value) (base:Heap) (CR:Addr) (m:Str) (CX:CXT) (k:Nat) (ps:List Str) (sp:Sp):Prop where
 ex:∃ f fd,Meth K CR m f∧FnOk P w K mg base CX k f fd ps sp∧Binds K fd ps []
def spHere (K:PySem.W.Frag) (CR:Addr):Sp:=fun vs H Q _=>∃ (r a:Addr) (l:List Int) (p:Nat),vs=[.ref r]∧Txa K CR H r a l p∧Q (.int (hereI l p)) H
theorem sc_here:FnScope ["self"] ["self"] (defScope sHere):=⟨rfl,rfl,rfl,by decide+kernel,rfl,by decide+kernel,by decide+kernel⟩
theorem ok_here {f CR:Addr} {fd:FuncData} {tk:Tok} (F:Fun K "here" "Reader.here" sHere f fd) (T:RdT K CR) (hno:mg "NO_BYTE"=some (.int 256 tk)) (M:RdM P w K mg base CR "ended" CX0 1 ["self"] (spEnded K CR)):FnOk P w K mg base CX0 2 f fd ["self"] (spHere K CR):=by
 obtain ⟨fe,fde,me,Ge,be⟩:=M.ex
 refine F.ok sc_here (fun vs H Q E h=>?_) (fun cdv A outer s H vs Q E hr h=>?_)
 ·obtain ⟨r,a,l,p,rfl,_⟩:=h
  rfl
 ·obtain ⟨r,a,l,p,rfl,x,k⟩:=h
  obtain ⟨⟨dx,h1⟩,tx,le⟩:=id x
  refine ⟨_,pss_cons (ps_if (pt_val (pe_meth0 (pv 0) T.cl me Ge hr be .nil pass0)) (pss_one (ps_ret (pe_glob (v:=.int 256) (by rfl) hno ⟨tk,rfl⟩))) pss_nil) (pss_one (ps_ret (pe_ix ix_list (pe_fld (pv 0) rfl) (pe_fld (pv 0) rfl) (fun _ _=>rfl)))),?_⟩
  refine ⟨_,rfl,r,dx,_,rfl,h1,rfl,r,a,l,p,rfl,x,_,rfl,ite2 (fun hc=>?_) (fun hc=>?_)⟩
  ·have e:p=l.length:=of_decide_eq_true hc
   have e2:hereI l p=256:=by unfold hereI;rw [List.getElem?_eq_none (Nat.le_of_eq e.symm)];rfl
   rw [e2] at k
   exact k
  ·have e:p<l.length:=Nat.lt_of_le_of_ne le fun z=>hc (decide_eq_true z)
   refine ⟨_,rfl,r,CR,dx,_,_,rfl,h1,T.cl,T.nT,rdf_text _ _,_,rfl,r,CR,dx,_,_,rfl,h1,T.cl,T.nP,rdf_pos _ _,a,_,_,_,rfl,rfl,tx,atI_nat (j:=p) (v:=V.int (hereI l p)) ?_,k⟩
   unfold hereI
   rw [List.getElem?_map,List.getElem?_eq_getElem e]
   rfl
def spTake (K:PySem.W.Frag) (CR:Addr):Sp:=fun vs H Q _=>∃ (r a:Addr) (l:List Int) (p:Nat),vs=[.ref r]∧Txa K CR H r a l p∧∀ H':Hp,RdAt CR H' r a (p+1)→SX r H H'→Q (.int (hereI l p)) H'
theorem sc_take:FnScope ["self","byte"] ["self"] (defScope sTake):=⟨rfl,rfl,rfl,by decide+kernel,rfl,by decide+kernel,by decide+kernel⟩
theorem ok_take {f CR:Addr} {fd:FuncData} (F:Fun K "take" "Reader.take" sTake f fd) (T:RdT K CR) (M:RdM P w K mg base CR "here" CX0 2 ["self"] (spHere K CR)):FnOk P w K mg base CX0 3 f fd ["self"] (spTake K CR):=by
 obtain ⟨fe,fde,me,Ge,be⟩:=M.ex
 refine F.ok sc_take (fun vs H Q E h=>?_) (fun cdv A outer s H vs Q E hr h=>?_)
 ·obtain ⟨r,a,l,p,rfl,_⟩:=h
  rfl
 ·obtain ⟨r,a,l,p,rfl,x,k⟩:=h
  obtain ⟨⟨dx,h1⟩,tx,le⟩:=id x
  refine ⟨_,pss_cons (ps_set (i:=1) sc_take.nd rfl (Or.inl rfl) (pe_meth0 (pv 0) T.cl me Ge hr be .nil pass0)) (pss_cons (ps_fldaug (pv 0) pe_int in_add) (pss_one (ps_ret (pv 1)))),?_⟩
  refine ⟨_,rfl,r,dx,_,rfl,h1,rfl,r,a,l,p,rfl,x,?_⟩
  refine ⟨_,rfl,r,CR,dx,_,_,rfl,h1,T.cl,T.nP,rdf_pos _ _,_,_,rfl,rfl,dx,_,h1,(by show 2<1000;decide),?_⟩
  refine ⟨_,rfl,k _ ⟨dx,?_⟩ (SX.upd _)⟩
  rw [upd_same]
  rfl
end
end Br1
set_option Elab.async false
set_option linter.all false
set_option maxRecDepth 100000
set_option maxHeartbeats 2000000
namespace Br1
open PySem PySem.Spec PyProof.Rows L2
structure StT (P:Program) (w:World) (K:PySem.W.Frag) (mg:Str→Option Value) (base:Heap) (C:Addr):Prop where
 ex:∃ f fd,XCls K C f∧FnOk P w K mg base CX0 1 f fd ["self","fault"] (spXI C)∧Binds K fd ["self","fault"] []
 mg:mg "Stuck"=some (.ref C)
theorem hereI_lt {l:List Int} {p:Nat} (h:hereI l p≠256):p<l.length:=by
 by_cases z:p<l.length
 ·exact z
 ·refine absurd ?_ h
  unfold hereI
  rw [List.getElem?_eq_none (Nat.le_of_not_lt z)]
  rfl
theorem inV_ints (x:Int):∀ l:List Int,inV (.int x) (l.map V.int)=decide (x∈l)
 |[]=>by simp [inV]
 |y::r=>by
  have ih:=inV_ints x r
  unfold inV at ih ⊢
  rw [List.map_cons,List.any_cons,ih,Bool.eq_iff_iff]
  show ((y==x)||decide (x∈r))=true↔_
  rw [Bool.or_eq_true,beq_iff_eq,decide_eq_true_iff,decide_eq_true_iff,List.mem_cons]
  constructor
  ·rintro (h|h)
   ·exact .inl h.symm
   ·exact .inr h
  ·rintro (h|h)
   ·exact .inl h.symm
   ·exact .inr h
theorem flat_ints:∀ l:List Int,(l.map V.int).all flatV=true
 |[]=>rfl
 |_::r=>by rw [List.map_cons,List.all_cons,flat_ints r];rfl
section
variable {P:Program} {w:World} {K:PySem.W.Frag} {mg:Str→Option Value} {base:Heap} {C CR:Addr}
def spOneOf (K:PySem.W.Frag) (CR:Addr):Sp:=fun vs H Q E=>∃ (r a g:Addr) (l sl:List Int) (p:Nat),vs=[.ref r,.ref g]∧Txa K CR H r a l p∧SqT K H g (sl.map V.int)∧256∉sl∧
 (hereI l p∈sl→∀ H':Hp,RdAt CR H' r a (p+1)→SX r H H'→Q (.int (hereI l p)) H')∧(hereI l p∉sl→E (.int p 0) none H)
theorem sc_oneOf:FnScope ["self","signs"] ["self","signs"] (defScope sOneOf):=⟨rfl,rfl,rfl,by decide+kernel,rfl,by decide+kernel,by decide+kernel⟩
theorem ok_oneOf {f:Addr} {fd:FuncData} (F:Fun K "read_one_of" "Reader.read_one_of" sOneOf f fd) (T:RdT K CR) (S:StT P w K mg base C) (M1:RdM P w K mg base CR "here" CX0 2 ["self"] (spHere K CR)) (M2:RdM P w K mg base CR "take" CX0 3 ["self"] (spTake K CR)):
  FnOk P w K mg base (CXF C P w) 4 f fd ["self","signs"] (spOneOf K CR):=by
 obtain ⟨f1,fd1,m1,G1,b1⟩:=M1.ex
 obtain ⟨f2,fd2,m2,G2,b2⟩:=M2.ex
 obtain ⟨fx,fdx,XT,GX,bx⟩:=S.ex
 refine F.okX sc_oneOf (fun vs H Q E h=>?_) (fun cdv A outer s H vs Q E hr h=>?_)
 ·obtain ⟨r,a,g,l,sl,p,rfl,_⟩:=h
  rfl
 ·obtain ⟨r,a,g,l,sl,p,rfl,x,hg,h256,k1,k2⟩:=h
  obtain ⟨⟨dx,h1⟩,tx,le⟩:=id x
  have hr2:=hr.mono (j:=2) (by decide)
  refine ⟨_,pss_cons (ps_if (pt_cmpR op_notIn_seq (pe_meth0 (pv 0) T.cl m1 G1 hr2 b1 .nil pass0) (pv 1) (by with_unfolding_all rfl)) (pss_one (ps_raise leaves_cx rfl XT GX hr2 (by rfl) S.mg bx (pe_fld (pv 0) rfl))) pss_nil)
   (pss_one (ps_ret (pe_meth0 (pv 0) T.cl m2 G2 hr b2 .nil pass0))),?_⟩
  refine ⟨_,rfl,r,dx,_,rfl,h1,rfl,r,a,l,p,rfl,x,_,rfl,g,_,rfl,.inr hg,rfl,flat_ints sl,_,rfl,ite2 (fun hc=>?_) (fun hc=>?_)⟩
  ·have hc:(!inV (.int (hereI l p)) (sl.map V.int))=true:=hc
   rw [inV_ints,Bool.not_eq_true',decide_eq_false_iff_not] at hc
   exact ⟨_,rfl,r,CR,dx,_,_,rfl,h1,T.cl,T.nP,rdf_pos _ _,_,rfl,k2 hc⟩
  ·have hc:¬(!inV (.int (hereI l p)) (sl.map V.int))=true:=hc
   rw [inV_ints,Bool.not_eq_true',decide_eq_false_iff_not,Classical.not_not] at hc
   exact ⟨_,rfl,r,dx,_,rfl,h1,rfl,r,a,l,p,rfl,x,k1 hc⟩
end
end Br1
set_option Elab.async false
set_option linter.all false
set_option maxRecDepth 100000
set_option maxHeartbeats 2000000
namespace L2
open PySem PySem.Spec PyProof.Rows
theorem for_str {x:Str} {g:TG} {tb:TS} {D:Ends} {σ:St} {H:Hp} (Pv:Nat→St→Hp→Prop) (h0:Pv 0 σ H)
  (hs:∀ i c σ H,x.cps[i]?=some c→Pv i σ H→g (.str ⟨#[c]⟩) σ H fun σ2 H2=>tb {D with nx:=Pv (i+1),ct:=Pv (i+1),bk:=D.nx} σ2 H2) (hd:∀ σ H,Pv x.cps.size σ H→D.nx σ H):
  ∃ W:Nat→Nat→St→Hp→Prop,(∃ m,W 0 m σ H)∧∀ i m σ H,W i m σ H→
   ((Its x).stop i H∧D.nx σ H)∨((Its x).go i H∧∃ N:St→Hp→Prop,(∀ σ' H',N σ' H'→∃ m',m'<m∧W (i+1) m' σ' H')∧∀ v H',(Its x).yld i H v H'→g v σ H' fun σ2 H2=>tb {D with nx:=N,ct:=N,bk:=D.nx} σ2 H2):=by
 refine ⟨fun i m σ H=>m=x.cps.size - i∧i≤x.cps.size∧Pv i σ H,⟨x.cps.size,by simp,Nat.zero_le _,h0⟩,?_⟩
 rintro i m σ H ⟨rfl,hi,p⟩
 by_cases hlt:i<x.cps.size
 ·refine .inr ⟨hlt,Pv (i+1),fun σ' H' p'=>⟨x.cps.size - (i+1),by (clear hi;omega),rfl,hlt,p'⟩,fun v H' y=>?_⟩
  obtain ⟨e,c,hc,rfl⟩:=y
  subst e
  exact hs i c σ _ hc p
 ·have e:i=x.cps.size:=by omega
  subst e
  exact .inl ⟨Nat.le_refl _,hd σ H p⟩
end L2
namespace Br1
open PySem PySem.Spec PyProof.Rows L2
def wordRun (l:List Int):Nat→List Nat→Except Nat Nat
 |p,[]=>.ok p
 |p,c::r=>if hereI l p=c then wordRun l (p+1) r else .error p
def alnum (b:Int):Bool:=isLet b||isDig b
def nameRun (l:List Int):Nat→Nat→List Int
 |_,0=>[]
 |p,n+1=>if alnum (hereI l p)=true then hereI l p::nameRun l (p+1) n else []
def numMore (l:List Int) (hi:Int):Nat→Nat→Int→Int×Nat
 |0,p,v=>(v,p)
 |n+1,p,v=>if 0<v∧isDig (hereI l p)=true∧v * 10+hereI l p - 48≤hi then numMore l hi n (p+1) (v * 10+hereI l p - 48) else (v,p)
def numOk (l:List Int) (p:Nat) (lo hi:Int):Prop:=isDig (hereI l p)=true∧lo≤hereI l p - 48∧hereI l p - 48≤hi
def numRun (l:List Int) (p:Nat) (hi:Int):Int×Nat:=numMore l hi (l.length - (p+1)) (p+1) (hereI l p - 48)
theorem alnum_lt {l:List Int} {p:Nat} (h:alnum (hereI l p)=true):p<l.length:=hereI_lt fun z=>by rw [z] at h;revert h;decide
theorem dig_lt {l:List Int} {p:Nat} (h:isDig (hereI l p)=true):p<l.length:=hereI_lt fun z=>by rw [z] at h;revert h;decide
theorem dig_range {b:Int} (h:isDig b=true):48≤b∧b≤57:=by
 unfold isDig at h
 rw [Bool.and_eq_true,decide_eq_true_iff,decide_eq_true_iff] at h
 exact h
section
variable {P:Program} {w:World} {K:PySem.W.Frag} {mg:Str→Option Value} {base:Heap} {C CR:Addr}
def spWord (K:PySem.W.Frag) (CR:Addr):Sp:=fun vs H Q E=>∃ (r a:Addr) (l:List Int) (p:Nat) (x:Str),vs=[.ref r,.str x]∧Txa K CR H r a l p∧(∀ c∈x.cps.toList,c<256)∧
 match wordRun l p x.cps.toList with
 |.ok p'=>∀ H':Hp,RdAt CR H' r a p'→p'≤l.length→SX r H H'→Q .non H'
 |.error i=>∀ H':Hp,SX r H H'→E (.int i 0) none H'
theorem sc_word:FnScope ["self","word","sign"] ["self","word"] (defScope sWord):=⟨rfl,rfl,rfl,by decide+kernel,rfl,by decide+kernel,by decide+kernel⟩
theorem ok_word {f:Addr} {fd:FuncData} (F:Fun K "read_word" "Reader.read_word" sWord f fd) (T:RdT K CR) (hord:mg "ord"=none) (M1:RdM P w K mg base CR "read_one_of" (CXF C P w) 4 ["self","signs"] (spOneOf K CR)):
  FnOk P w K mg base (CXF C P w) 5 f fd ["self","word"] (spWord K CR):=by
 obtain ⟨f1,fd1,m1,G1,b1⟩:=M1.ex
 refine F.okX sc_word (fun vs H Q E h=>?_) (fun cdv A outer s H vs Q E hr h=>?_)
 ·obtain ⟨r,a,l,p,x,rfl,_⟩:=h
  rfl
 ·obtain ⟨r,a,l,p,x,rfl,tx,hx,k⟩:=h
  refine ⟨_,pss_one (ps_for leaves_cx.own rfl (pi_str (pv 1)) (pg_name (i:=2) sc_word.nd rfl (Or.inl rfl))
   (pss_one (ps_expr (pe_meth (pv 0) T.cl m1 G1 hr b1 .nil leaves_cx.pass (pa_cons (pe_tup (pa_cons (pe_callB call_ord (by rfl) hord boot_ord (pa_cons (pv 2) pa_nil)) pa_nil)) pa_nil))))),?_⟩
  refine ⟨_,rfl,x,rfl,for_str (fun i σ H'=>∃ v2:Option V,σ=[some (.ref r),some (.str x),v2]∧SX r H H'∧Txa K CR H' r a l (p+i)∧wordRun l p x.cps.toList=wordRun l (p+i) (x.cps.toList.drop i))
   ⟨none,rfl,SX.refl r H,tx,rfl⟩ ?_ ?_⟩
  ·rintro i c σ H1 hc ⟨v2,rfl,s1,x1,e1⟩
   have hcl:x.cps.toList[i]?=some c:=by rw [Array.getElem?_toList];exact hc
   have hdr:x.cps.toList.drop i=c::x.cps.toList.drop (i+1):=by
    obtain ⟨hlt,e⟩:=List.getElem?_eq_some_iff.mp hcl
    rw [←e]
    exact List.drop_eq_getElem_cons hlt
   rw [hdr] at e1
   have c256:c<256:=hx c (List.mem_of_getElem? hcl)
   obtain ⟨⟨dx,h1⟩,_,_⟩:=id x1
   refine ⟨_,rfl,r,dx,_,rfl,h1,rfl,⟨_,rfl,⟨#[c]⟩,rfl,rfl,(by show 1≤sizeLine;decide),fun g hg=>?_⟩⟩
   have sg:Same H1 (upd H1 g (.tup [.int c])):=fun b o e=>by rw [upd_ne (ne_of_none e hg)];exact e
   have x2:Txa K CR (upd H1 g (.tup [.int c])) r a l (p+i):=x1.same (Same.sx sg) ⟨dx,sg _ _ h1⟩ x1.le
   refine ⟨r,a,g,l,[(c:Int)],p+i,rfl,x2,.inl (.inl upd_same),by simp;omega,fun hin H2 hr2 s2=>?_,fun hin=>?_⟩
   ·have hin:hereI l (p+i)=c:=by simpa using hin
    have lt:p+i<l.length:=hereI_lt (by rw [hin];(clear hin;omega))
    refine ⟨_,rfl,(s1.trans (Same.sx sg)).trans s2,x2.same s2 hr2 lt,?_⟩
    rw [e1]
    show (if hereI l (p+i)=c then _ else _)=_
    rw [if_pos hin]
    rfl
   ·have hin:¬hereI l (p+i)=c:=by simpa using hin
    have e2:wordRun l p x.cps.toList=.error (p+i):=by
     rw [e1]
     show (if hereI l (p+i)=c then _ else _)=_
     rw [if_neg hin]
    rw [e2] at k
    exact k _ (s1.trans (Same.sx sg))
  ·rintro σ H1 ⟨v2,rfl,s1,x1,e1⟩
   have e2:wordRun l p x.cps.toList=.ok (p+x.cps.size):=by
    rw [e1,List.drop_eq_nil_of_le (by simp)]
    rfl
   rw [e2] at k
   exact k H1 x1.rd x1.le s1
def spEnd (K:PySem.W.Frag) (CR:Addr):Sp:=fun vs H Q E=>∃ (r a:Addr) (l:List Int) (p:Nat),vs=[.ref r]∧Txa K CR H r a l p∧(p=l.length→Q .non H)∧(p≠l.length→E (.int p 0) none H)
theorem sc_end:FnScope ["self"] ["self"] (defScope sEnd):=⟨rfl,rfl,rfl,by decide+kernel,rfl,by decide+kernel,by decide+kernel⟩
theorem ok_end {f:Addr} {fd:FuncData} (F:Fun K "read_end" "Reader.read_end" sEnd f fd) (T:RdT K CR) (S:StT P w K mg base C) (M1:RdM P w K mg base CR "ended" CX0 1 ["self"] (spEnded K CR)):
  FnOk P w K mg base (CXF C P w) 3 f fd ["self"] (spEnd K CR):=by
 obtain ⟨f1,fd1,m1,G1,b1⟩:=M1.ex
 obtain ⟨fx,fdx,XT,GX,bx⟩:=S.ex
 refine F.okX sc_end (fun vs H Q E h=>?_) (fun cdv A outer s H vs Q E hr h=>?_)
 ·obtain ⟨r,a,l,p,rfl,_⟩:=h
  rfl
 ·obtain ⟨r,a,l,p,rfl,x,k1,k2⟩:=h
  obtain ⟨⟨dx,h1⟩,tx,le⟩:=id x
  refine ⟨_,pss_one (ps_if (pt_not (pt_val (pe_meth0 (pv 0) T.cl m1 G1 (hr.mono (by decide)) b1 .nil pass0))) (pss_one (ps_raise leaves_cx rfl XT GX hr (by rfl) S.mg bx (pe_fld (pv 0) rfl))) pss_nil),?_⟩
  refine ⟨_,rfl,r,dx,_,rfl,h1,rfl,r,a,l,p,rfl,x,_,rfl,ite2 (fun hc=>?_) (fun hc=>?_)⟩
  ·rw [Bool.not_eq_true',decide_eq_false_iff_not] at hc
   exact ⟨_,rfl,r,CR,dx,_,_,rfl,h1,T.cl,T.nP,rdf_pos _ _,_,rfl,k2 hc⟩
  ·rw [Bool.not_eq_true',decide_eq_false_iff_not,Classical.not_not] at hc
   exact k1 hc
end
end Br1
set_option Elab.async false
set_option linter.all false
set_option maxRecDepth 100000
set_option maxHeartbeats 2000000
namespace Br1
open PySem PySem.Spec PyProof.Rows L2
theorem sizeLine_big:20000<sizeLine:=by rw [sizeLine_eq];decide
theorem bool_not {b:Bool} (h:¬b=true):b=false:=by cases b<;>simp_all
section
variable {P:Program} {w:World} {K:PySem.W.Frag} {mg:Str→Option Value} {base:Heap} {C CR:Addr}
structure Fn0 (P:Program) (w:World) (K:PySem.W.Frag) (mg:Str→Option Value) (base:Heap) (x:Str) (CX:CXT) (k:Nat) (ps:List Str) (sp:Sp):Prop where
 ex:∃ f fd,FnOk P w K mg base CX k f fd ps sp∧Binds K fd ps []∧PySem.W.keepIn K (.ref f)=true∧mg x=some (.ref f)
theorem nameRun_snoc {l:List Int} {p i n:Nat} {xs:List Int} (e:nameRun l p (i+(n+1))=xs++nameRun l (p+i) (n+1)) (h:alnum (hereI l (p+i))=true):nameRun l p (i+(n+1))=(xs++[hereI l (p+i)])++nameRun l (p+(i+1)) n:=by
 rw [e,List.append_assoc]
 congr 1
 show (if alnum (hereI l (p+i))=true then _ else _)=_
 rw [if_pos h]
 rfl
def NameW (CR:Addr) (H:Hp) (r a q:Addr) (l:List Int) (p L:Nat) (m:Nat) (σ:List (Option V)) (H':Hp):Prop:=
 ∃ i,m+i=L∧∃ xs:List Int,σ=[some (.ref r),some (.int L),some (.ref q)]∧xs.length=i∧SX r H H'∧RdAt CR H' r a (p+i)∧p+i≤l.length∧H' q=some (.lst (xs.map V.int))∧nameRun l p L=xs++nameRun l (p+i) m
theorem name_turn {H H1:Hp} {r a q:Addr} {l:List Int} {p i n:Nat} {xs:List Int} {D:Ends} (x:Txa K CR H r a l p) (hq:H q=none) (nrq:r≠q) (hxl:xs.length=i) (hL:i+(n+1)≤1000) (s1:SX r H H1) (hr1:RdAt CR H1 r a (p+i)) (le1:p+i≤l.length)
  (hq1:H1 q=some (.lst (xs.map V.int))) (e1:nameRun l p (i+(n+1))=xs++nameRun l (p+i) (n+1)) (ha:alnum (hereI l (p+i))=true) (hD:∀ σ H',NameW CR H r a q l p (i+(n+1)) n σ H'→D.nx σ H'):
  tDrop (tBM K "list" rAppend (tVar 2) (tCons (tMeth CR "take" (spTake K CR) [] E0 (tVar 0) tNil) tNil)) D [some (.ref r),some (.int ((i+(n+1):Nat):Int)),some (.ref q)] H1:=by
 have lt:=alnum_lt ha
 obtain ⟨dx1,g1⟩:=id hr1
 refine ⟨_,rfl,.inl ⟨rfl,_,SqL.of hq1⟩,_,rfl,r,dx1,_,rfl,g1,rfl,r,a,l,p+i,rfl,x.same s1 hr1 le1,fun H2 hr2 s2=>?_⟩
 have hq2:H2 q=some (.lst (xs.map V.int)):=s2 _ _ hq1 (Ne.symm nrq)
 refine ⟨q,_,_,rfl,rfl,hq2,?_,?_⟩
 ·rw [List.length_map]
  have:=sizeLine_big
  (clear lt le1;omega)
 ·obtain ⟨dx2,g2⟩:=hr2
  have s3:SX r H (upd H2 q (.lst (xs.map V.int++[V.int (hereI l (p+i))]))):=fun b o e hb=>by
   rw [upd_ne (ne_of_none e hq)]
   exact s2 b o (s1 b o e hb) hb
  refine hD _ _ ⟨i+1,by (clear lt le1 hL hxl;omega),xs++[hereI l (p+i)],rfl,by simp [hxl],s3,⟨dx2,by rw [upd_ne nrq];exact g2⟩,lt,?_,nameRun_snoc e1 ha⟩
  rw [upd_same,List.map_append]
  rfl
def spName (K:PySem.W.Frag) (CR:Addr):Sp:=fun vs H Q E=>∃ (r a:Addr) (l:List Int) (p L:Nat),vs=[.ref r,.int L]∧Txa K CR H r a l p∧L≤1000∧
 (isLet (hereI l p)=true→∀ (H':Hp) (q:Addr),RdAt CR H' r a (p+(nameRun l p L).length)→p+(nameRun l p L).length≤l.length→SX r H H'→H' q=some (.tup ((nameRun l p L).map V.int))→Q (.ref q) H')∧
 (isLet (hereI l p)=false→E (.int p 0) none H)
theorem sc_name:FnScope ["self","longest","name"] ["self","longest"] (defScope sName):=⟨rfl,rfl,rfl,by decide+kernel,rfl,by decide+kernel,by decide+kernel⟩
theorem ok_name {f:Addr} {fd:FuncData} (F:Fun K "read_name" "Reader.read_name" sName f fd) (T:RdT K CR) (S:StT P w K mg base C) (hlen:mg "len"=none) (htup:mg "tuple"=none)
  (M1:RdM P w K mg base CR "here" CX0 2 ["self"] (spHere K CR)) (M2:RdM P w K mg base CR "take" CX0 3 ["self"] (spTake K CR)) (L1:Fn0 P w K mg base "is_letter" CX0 1 ["byte"] spIsLetter) (L2:Fn0 P w K mg base "is_digit" CX0 1 ["byte"] spIsDigit):
  FnOk P w K mg base (CXF C P w) 4 f fd ["self","longest"] (spName K CR):=by
 obtain ⟨f1,fd1,m1,G1,b1⟩:=M1.ex
 obtain ⟨f2,fd2,m2,G2,b2⟩:=M2.ex
 obtain ⟨g1,gd1,GL,bL,kL,hL⟩:=L1.ex
 obtain ⟨g2,gd2,GD,bD,kD,hD⟩:=L2.ex
 obtain ⟨fx,fdx,XT,GX,bx⟩:=S.ex
 refine F.okX sc_name (fun vs H Q E h=>?_) (fun cdv A outer s H vs Q E hr h=>?_)
 ·obtain ⟨r,a,l,p,L,rfl,_⟩:=h
  rfl
 ·obtain ⟨r,a,l,p,L,rfl,x,hL1000,k1,k2⟩:=h
  obtain ⟨⟨dx,h1⟩,tx,le⟩:=id x
  have hr2:=hr.mono (j:=2) (by decide)
  have hr1:=hr.mono (j:=1) (by decide)
  refine ⟨_,pss_cons (ps_if (pt_not (pt_val (pe_call GL hr1 (by rfl) hL kL bL .nil pass0 (pa_cons (pe_meth0 (pv 0) T.cl m1 G1 hr2 b1 .nil pass0) pa_nil)))) (pss_one (ps_raise leaves_cx rfl XT GX hr2 (by rfl) S.mg bx (pe_fld (pv 0) rfl))) pss_nil)
   (pss_cons (ps_set (i:=2) sc_name.nd rfl (Or.inl rfl) (pe_lst pa_nil))
   (pss_cons (ps_while leaves_cx.own (pw_and (pt_cmp (pc_lt (pe_callB call_len_seq (by rfl) hlen PySem.boot_len (pa_cons (pv 2) pa_nil)) (pv 1)))
     (pw_and1 (pw_or (pt_val (pe_call GL hr1 (by rfl) hL kL bL .nil pass0 (pa_cons (pe_meth0 (pv 0) T.cl m1 G1 hr2 b1 .nil pass0) pa_nil))) (pw_or1 (pt_val (pe_call GD hr1 (by rfl) hD kD bD .nil pass0 (pa_cons (pe_meth0 (pv 0) T.cl m1 G1 hr2 b1 .nil pass0) pa_nil))))).pt)).pt
    (pss_one (ps_expr (pe_bm PySem.F.plainAttrs_list PySem.F.slot_list_append PySem.F.type_list_append mt_append (pv 2) (pa_cons (pe_meth0 (pv 0) T.cl m2 G2 hr b2 .nil pass0) pa_nil)))))
   (pss_one (ps_ret (pe_callTy call_tuple_of (by rfl) htup boot_tuple (pa_cons (pv 2) pa_nil)))))),?_⟩
  refine ⟨_,rfl,r,dx,_,rfl,h1,rfl,r,a,l,p,rfl,x,_,rfl,_,rfl,ite2 (fun hc=>?_) (fun hc=>?_)⟩
  ·rw [Bool.not_eq_true'] at hc
   exact ⟨_,rfl,r,CR,dx,_,_,rfl,h1,T.cl,T.nP,rdf_pos _ _,_,rfl,k2 hc⟩
  ·rw [Bool.not_eq_true',Bool.not_eq_false] at hc
   refine ⟨Nat.zero_le _,fun q hq=>?_⟩
   have sq:Same H (upd H q (.lst [])):=fun b o e=>by rw [upd_ne (ne_of_none e hq)];exact e
   have nrq:r≠q:=ne_of_none h1 hq
   refine ⟨NameW CR H r a q l p L,⟨L,0,rfl,[],rfl,rfl,Same.sx sq,⟨dx,sq _ _ h1⟩,le,upd_same,rfl⟩,?_⟩
   rintro m σ H1 ⟨i,hmi,xs,rfl,hxl,s1,hr1,le1,hq1,e1⟩
   have x1:=x.same s1 hr1 le1
   obtain ⟨dx1,g1⟩:=id hr1
   have fin:nameRun l p L=xs→∀ t,H1 t=none→Q (.ref t) (upd H1 t (.tup (xs.map V.int))):=by
    intro e2 t ht
    have st:Same H1 (upd H1 t (.tup (xs.map V.int))):=fun b o e=>by rw [upd_ne (ne_of_none e ht)];exact e
    refine k1 hc _ t ⟨dx1,?_⟩ ?_ (s1.trans (Same.sx st)) ?_
    ·rw [e2,hxl];exact st _ _ g1
    ·rw [e2,hxl];exact le1
    ·rw [e2];exact upd_same
   refine ⟨_,rfl,q,_,rfl,.inl (SqL.of hq1),_,rfl,_,_,rfl,rfl,_,rfl,ite2 (fun hlt=>?_) (fun hlt=>?_)⟩
   ·have hlt:((xs.map V.int).length:Int)<(L:Int):=of_decide_eq_true hlt
    rw [List.length_map] at hlt
    obtain ⟨n,rfl⟩:∃ n,m=n+1:=⟨m - 1,by (clear le1 le hL1000;omega)⟩
    obtain rfl:L=i+(n+1):=by (clear hlt le1 hxl le hL1000;omega)
    refine ⟨_,rfl,r,dx1,_,rfl,g1,rfl,r,a,l,p+i,rfl,x1,_,rfl,_,rfl,ite2 (fun hl=>iteT ?_) (fun hl=>?_)⟩
    ·exact ⟨NameW CR H r a q l p (i+(n+1)) n,fun _ _ z=>⟨n,Nat.lt_succ_self n,z⟩,name_turn x hq nrq hxl hL1000 s1 hr1 le1 hq1 e1 (by unfold alnum;rw [hl];rfl) fun _ _ z=>z⟩
    ·refine ⟨_,rfl,r,dx1,_,rfl,g1,rfl,r,a,l,p+i,rfl,x1,_,rfl,_,rfl,ite2 (fun hd=>?_) (fun hd=>?_)⟩
     ·exact ⟨NameW CR H r a q l p (i+(n+1)) n,fun _ _ z=>⟨n,Nat.lt_succ_self n,z⟩,name_turn x hq nrq hxl hL1000 s1 hr1 le1 hq1 e1 (by unfold alnum;rw [hd,Bool.or_true]) fun _ _ z=>z⟩
     ·refine ⟨_,rfl,q,_,rfl,.inl ⟨SqL.of hq1,fin ?_⟩⟩
      rw [e1]
      show xs++(if alnum (hereI l (p+i))=true then _ else _)=xs
      rw [if_neg (by unfold alnum;rw [bool_not hl,bool_not hd];decide),List.append_nil]
   ·have hlt:¬((xs.map V.int).length:Int)<(L:Int):=fun z=>hlt (decide_eq_true z)
    rw [List.length_map] at hlt
    refine iteF ⟨_,rfl,q,_,rfl,.inl ⟨SqL.of hq1,fin ?_⟩⟩
    rw [e1,show m=0 by (clear le1 le hL1000;omega)]
    exact List.append_nil _
end
end Br1
set_option Elab.async false
set_option linter.all false
set_option maxRecDepth 100000
set_option maxHeartbeats 2000000
namespace Br1
open PySem PySem.Spec PyProof.Rows L2
section
variable {P:Program} {w:World} {K:PySem.W.Frag} {mg:Str→Option Value} {base:Heap} {C CR:Addr}
def NumW (CR:Addr) (H:Hp) (r a:Addr) (l:List Int) (p:Nat) (lo hi:Int) (m:Nat) (σ:List (Option V)) (H':Hp):Prop:=
 ∃ (q:Nat) (v:Int),m+q=l.length∧σ=[some (.ref r),some (.int lo),some (.int hi),some (.int v)]∧SX r H H'∧RdAt CR H' r a q∧0≤v∧v≤hi∧numRun l p hi=numMore l hi m q v
def spNumber (K:PySem.W.Frag) (CR:Addr):Sp:=fun vs H Q E=>∃ (r a:Addr) (l:List Int) (p:Nat) (lo hi:Int),vs=[.ref r,.int lo,.int hi]∧Txa K CR H r a l p∧0≤lo∧hi≤100000∧
 (numOk l p lo hi→∀ H':Hp,RdAt CR H' r a (numRun l p hi).2→(numRun l p hi).2≤l.length→0≤(numRun l p hi).1→(numRun l p hi).1≤hi→SX r H H'→Q (.int (numRun l p hi).1) H')∧(¬numOk l p lo hi→E (.int p 0) none H)
theorem sc_number:FnScope ["self","least","most","value"] ["self","least","most"] (defScope sNumber):=⟨rfl,rfl,rfl,by decide+kernel,rfl,by decide+kernel,by decide+kernel⟩
theorem ok_number {f:Addr} {fd:FuncData} (F:Fun K "read_number" "Reader.read_number" sNumber f fd) (T:RdT K CR) (S:StT P w K mg base C) (hord:mg "ord"=none)
  (M1:RdM P w K mg base CR "here" CX0 2 ["self"] (spHere K CR)) (M2:RdM P w K mg base CR "take" CX0 3 ["self"] (spTake K CR)) (L2:Fn0 P w K mg base "is_digit" CX0 1 ["byte"] spIsDigit):
  FnOk P w K mg base (CXF C P w) 4 f fd ["self","least","most"] (spNumber K CR):=by
 obtain ⟨f1,fd1,m1,G1,b1⟩:=M1.ex
 obtain ⟨f2,fd2,m2,G2,b2⟩:=M2.ex
 obtain ⟨g2,gd2,GD,bD,kD,hD⟩:=L2.ex
 obtain ⟨fx,fdx,XT,GX,bx⟩:=S.ex
 refine F.okX sc_number (fun vs H Q E h=>?_) (fun cdv A outer s H vs Q E hr h=>?_)
 ·obtain ⟨r,a,l,p,lo,hi,rfl,_⟩:=h
  rfl
 ·obtain ⟨r,a,l,p,lo,hi,rfl,x,hlo,hhi,k1,k2⟩:=h
  obtain ⟨⟨dx,h1⟩,tx,le⟩:=id x
  have hr2:=hr.mono (j:=2) (by decide)
  have hr1:=hr.mono (j:=1) (by decide)
  refine ⟨_,pss_cons (ps_if (pw_or (pt_not (pt_val (pe_call GD hr1 (by rfl) hD kD bD .nil pass0 (pa_cons (pe_meth0 (pv 0) T.cl m1 G1 hr2 b1 .nil pass0) pa_nil))))
     (pw_or1 (pt_not (pt_chain op_le op_le (pv 1) (pe_op op_sub (pe_meth0 (pv 0) T.cl m1 G1 hr2 b1 .nil pass0) (pe_ordc 48 hord)) (pv 2))))).pt (pss_one (ps_raise leaves_cx rfl XT GX hr2 (by rfl) S.mg bx (pe_fld (pv 0) rfl))) pss_nil)
   (pss_cons (ps_set (i:=3) sc_number.nd rfl (Or.inl rfl) (pe_op op_sub (pe_meth0 (pv 0) T.cl m2 G2 hr b2 .nil pass0) (pe_ordc 48 hord)))
   (pss_cons (ps_while leaves_cx.own (pw_and (pt_cmp (pc_gt (pv 3) pe_int)) (pw_and (pt_val (pe_call GD hr1 (by rfl) hD kD bD .nil pass0 (pa_cons (pe_meth0 (pv 0) T.cl m1 G1 hr2 b1 .nil pass0) pa_nil)))
     (pw_and1 (pt_cmp (pc_le (pe_op op_sub (pe_op op_add (pe_op op_mul (pv 3) pe_int) (pe_meth0 (pv 0) T.cl m1 G1 hr2 b1 .nil pass0)) (pe_ordc 48 hord)) (pv 2)))))).pt
    (pss_one (ps_set (i:=3) sc_number.nd rfl (Or.inl rfl) (pe_op op_sub (pe_op op_add (pe_op op_mul (pv 3) pe_int) (pe_meth0 (pv 0) T.cl m2 G2 hr b2 .nil pass0)) (pe_ordc 48 hord)))))
   (pss_one (ps_ret (pv 3))))),?_⟩
  refine ⟨_,rfl,r,dx,_,rfl,h1,rfl,r,a,l,p,rfl,x,_,rfl,_,rfl,ite2 (fun hc=>iteT ?_) (fun hc=>?_)⟩
  ·rw [Bool.not_eq_true'] at hc
   exact ⟨_,rfl,r,CR,dx,_,_,rfl,h1,T.cl,T.nP,rdf_pos _ _,_,rfl,k2 fun z=>by rw [z.1] at hc;cases hc⟩
  ·rw [Bool.not_eq_true',Bool.not_eq_false] at hc
   refine ⟨_,rfl,_,rfl,r,dx,_,rfl,h1,rfl,r,a,l,p,rfl,x,_,_,rfl,rfl,_,_,rfl,rfl,_,rfl,ite2 (fun h3=>⟨_,rfl,_,_,rfl,rfl,_,rfl,ite2 (fun h4=>?_) (fun h4=>?_)⟩) (fun h3=>⟨_,rfl,iteT ?_⟩)⟩
   ·rw [Bool.not_eq_true',decide_eq_false_iff_not] at h4
    exact ⟨_,rfl,r,CR,dx,_,_,rfl,h1,T.cl,T.nP,rdf_pos _ _,_,rfl,k2 fun z=>h4 z.2.2⟩
   ·rw [Bool.not_eq_true',decide_eq_false_iff_not,Classical.not_not] at h4
    have h3:=of_decide_eq_true h3
    have hn:numOk l p lo hi:=⟨hc,h3,h4⟩
    have lt:=dig_lt hc
    have dr:=dig_range hc
    refine ⟨_,rfl,r,dx,_,rfl,h1,rfl,r,a,l,p,rfl,x,fun H1 hr1 s1=>⟨_,_,rfl,rfl,?_⟩⟩
    refine ⟨NumW CR H r a l p lo hi,⟨l.length - (p+1),p+1,hereI l p - 48,by (clear dr h3 h4 le hhi hlo;omega),rfl,s1,hr1,by (clear dr lt h4 le hhi;omega),h4,rfl⟩,?_⟩
    rintro m σ H2 ⟨q,v,hmq,rfl,s2,hr2,v0,vh,e2⟩
    have x2:=x.same s2 hr2 (by (clear vh v0 dr lt h3 h4 le hhi hlo;omega))
    obtain ⟨dx2,g2⟩:=id hr2
    have fin:numRun l p hi=(v,q)→Q (.int v) H2:=fun e3=>by
     have z:=k1 hn H2
     rw [e3] at z
     exact z hr2 (by show q≤l.length;(clear vh v0 dr lt h3 h4 le hhi hlo;omega)) v0 vh s2
    refine ⟨_,rfl,_,_,rfl,rfl,_,rfl,ite2 (fun h5=>?_) (fun h5=>iteF ⟨_,rfl,fin ?_⟩)⟩
    ·have h5:=of_decide_eq_true h5
     refine ⟨_,rfl,r,dx2,_,rfl,g2,rfl,r,a,l,q,rfl,x2,_,rfl,_,rfl,ite2 (fun h6=>?_) (fun h6=>iteF ⟨_,rfl,fin ?_⟩)⟩
     ·have lt2:=dig_lt h6
      have dr2:=dig_range h6
      obtain ⟨n,rfl⟩:∃ n,m=n+1:=⟨m - 1,by (clear dr2 h5 vh v0 dr lt h3 h4 le hhi hlo;omega)⟩
      refine ⟨_,rfl,_,_,rfl,rfl,.inl ⟨by (clear hmq dr2 lt2 h5 vh dr lt h3 h4 le hhi hlo;omega),by (clear hmq dr2 lt2 h5 v0 dr lt h3 h4 le hlo;omega)⟩,_,rfl,r,dx2,_,rfl,g2,rfl,r,a,l,q,rfl,x2,_,_,rfl,rfl,_,_,rfl,rfl,_,rfl,_,_,rfl,rfl,_,rfl,ite2 (fun h7=>?_) (fun h7=>⟨_,rfl,fin ?_⟩)⟩
      ·have h7:=of_decide_eq_true h7
       refine ⟨NumW CR H r a l p lo hi n,fun _ _ z=>⟨n,Nat.lt_succ_self n,z⟩,?_⟩
       refine ⟨_,rfl,_,_,rfl,rfl,.inl ⟨by (clear h7 hmq dr2 lt2 h5 vh dr lt h3 h4 le hhi hlo;omega),by (clear h7 hmq dr2 lt2 h5 v0 dr lt h3 h4 le hlo;omega)⟩,_,rfl,r,dx2,_,rfl,g2,rfl,r,a,l,q,rfl,x2,fun H3 hr3 s3=>⟨_,_,rfl,rfl,_,_,rfl,rfl,?_⟩⟩
       refine ⟨q+1,v * 10+hereI l q - 48,by (clear h7 dr2 lt2 h5 vh v0 dr lt h3 h4 le hhi hlo;omega),rfl,s2.trans s3,hr3,by (clear h7 hmq lt2 h5 vh dr lt h3 h4 le hhi hlo;omega),h7,?_⟩
       rw [e2]
       show (if _ then _ else _)=_
       rw [if_pos ⟨h5,h6,h7⟩]
      ·rw [e2]
       show (if _ then _ else _)=_
       rw [if_neg fun z=>h7 (decide_eq_true z.2.2)]
     ·rw [e2]
      cases m with
      |zero=>rfl
      |succ n=>
       show (if _ then _ else _)=_
       rw [if_neg fun z=>h6 z.2.1]
    ·rw [e2]
     cases m with
     |zero=>rfl
     |succ n=>
      show (if _ then _ else _)=_
      rw [if_neg fun z=>h5 (decide_eq_true z.1)]
   ·exact ⟨_,rfl,r,CR,dx,_,_,rfl,h1,T.cl,T.nP,rdf_pos _ _,_,rfl,k2 fun z=>h3 (decide_eq_true z.2.1)⟩
end
end Br1
set_option Elab.async false
set_option linter.all false
set_option maxRecDepth 100000
set_option maxHeartbeats 2000000
namespace Br1
open PySem PySem.Spec PyProof.Rows L2
def consR {α:Type} (x:α):Except Nat (List α×Nat)→Except Nat (List α×Nat)
 |.ok r=>.ok (x::r.1,r.2)
 |.error i=>.error i
def signsRun (l:List Int):Nat→Nat→Except Nat (List Int×Nat)
 |0,p=>.ok ([],p)
 |n+1,p=>if hereI l p∈SIGNSL then consR (hereI l p) (signsRun l n (p+1)) else .error p
def rowRun (l:List Int) (w p:Nat):Except Nat (List Int×Nat):=match signsRun l w p with
 |.ok r=>if hereI l r.2=10 then .ok (r.1,r.2+1) else .error r.2
 |.error i=>.error i
def rowsRun (l:List Int) (w:Nat):Nat→Nat→Except Nat (List (List Int)×Nat)
 |0,p=>.ok ([],p)
 |n+1,p=>match rowRun l w p with
  |.ok r=>consR r.1 (rowsRun l w n r.2)
  |.error i=>.error i
def ahead {α:Type} (xs:List α):Except Nat (List α×Nat)→Except Nat (List α×Nat)
 |.ok r=>.ok (xs++r.1,r.2)
 |.error i=>.error i
theorem ahead_nil {α:Type} (r:Except Nat (List α×Nat)):ahead [] r=r:=by cases r<;>rfl
theorem ahead_snoc {α:Type} (xs:List α) (x:α) (r:Except Nat (List α×Nat)):ahead xs (consR x r)=ahead (xs++[x]) r:=by
 cases r with
 |error i=>rfl
 |ok r=>unfold ahead consR;simp
abbrev key3 (x y z:Int):List Key:=[Sum.inl x,Sum.inl y,Sum.inl z]
def kvRow (y z:Nat):Nat→List Int→List (List Key×V)
 |_,[]=>[]
 |x,s::r=>(if s=46 then [] else [(key3 x y z,V.int s)])++kvRow y z (x+1) r
def kvRows (d:Nat):Nat→List (List Int)→List (List Key×V)
 |_,[]=>[]
 |j,r::rs=>kvRow (j % d) (j / d) 0 r++kvRows d (j+1) rs
theorem kvRow_snoc (y z:Nat) (s:Int):∀ (xs:List Int) (x:Nat),kvRow y z x (xs++[s])=kvRow y z x xs++(if s=46 then [] else [(key3 ((x+xs.length:Nat):Int) y z,V.int s)])
 |[],x=>by simp [kvRow]
 |a::r,x=>by
  show _++kvRow y z (x+1) (r++[s])=(_++kvRow y z (x+1) r)++_
  rw [kvRow_snoc y z s r (x+1),←List.append_assoc,List.length_cons,show x+1+r.length=x+(r.length+1) by omega]
theorem kvRows_snoc (d:Nat) (r:List Int):∀ (rs:List (List Int)) (j:Nat),kvRows d j (rs++[r])=kvRows d j rs++kvRow ((j+rs.length) % d) ((j+rs.length) / d) 0 r
 |[],j=>by simp [kvRows]
 |a::rs,j=>by
  show _++kvRows d (j+1) (rs++[r])=(_++kvRows d (j+1) rs)++_
  rw [kvRows_snoc d r rs (j+1),←List.append_assoc,List.length_cons,show j+1+rs.length=j+(rs.length+1) by omega]
theorem kvRow_key {y z:Nat} {kv:List Key×V}:∀ {xs:List Int} {x:Nat},kv∈kvRow y z x xs→∃ x':Nat,kv.1=key3 x' y z∧x≤x'∧x'<x+xs.length
 |[],x,h=>by simp [kvRow] at h
 |a::r,x,h=>by
  have h:kv∈(if a=46 then [] else [(key3 x y z,V.int a)])++kvRow y z (x+1) r:=h
  rcases List.mem_append.mp h with h|h
  ·split at h
   ·cases h
   ·rw [List.mem_singleton.mp h]
    exact ⟨x,rfl,Nat.le_refl _,by simp⟩
  ·obtain ⟨x',e,h1,h2⟩:=kvRow_key h
   exact ⟨x',e,by (clear h2;omega),by rw [List.length_cons];(clear h1;omega)⟩
theorem kvRows_key {d:Nat} {kv:List Key×V}:∀ {rs:List (List Int)} {j:Nat},kv∈kvRows d j rs→∃ x' j':Nat,kv.1=key3 x' ((j' % d:Nat):Int) ((j' / d:Nat):Int)∧j≤j'∧j'<j+rs.length
 |[],j,h=>by simp [kvRows] at h
 |a::rs,j,h=>by
  have h:kv∈kvRow (j % d) (j / d) 0 a++kvRows d (j+1) rs:=h
  rcases List.mem_append.mp h with h|h
  ·obtain ⟨x',e,_⟩:=kvRow_key h
   exact ⟨x',j,e,Nat.le_refl _,by simp⟩
  ·obtain ⟨x',j',e,h1,h2⟩:=kvRows_key h
   exact ⟨x',j',e,by (clear h2;omega),by rw [List.length_cons];(clear h1;omega)⟩
theorem kvRow_len (y z:Nat):∀ (xs:List Int) (x:Nat),(kvRow y z x xs).length≤xs.length
 |[],x=>by simp [kvRow]
 |a::r,x=>by
  show (_++kvRow y z (x+1) r).length≤_
  rw [List.length_append,List.length_cons]
  have:=kvRow_len y z r (x+1)
  split<;>simp<;>omega
theorem kvRows_len (d w:Nat):∀ (rs:List (List Int)) (j:Nat),(∀ r∈rs,r.length=w)→(kvRows d j rs).length≤rs.length * w
 |[],j,_=>by simp [kvRows]
 |a::rs,j,h=>by
  show (kvRow (j % d) (j / d) 0 a++kvRows d (j+1) rs).length≤_
  have h1:=kvRow_len (j % d) (j / d) a 0
  have h2:=kvRows_len d w rs (j+1) fun r hr=>h r (List.mem_cons_of_mem _ hr)
  have h3:=h a List.mem_cons_self
  rw [List.length_append,List.length_cons,Nat.succ_mul]
  omega
theorem valV_none {κ:Type} [DecidableEq κ] {kvs:List (κ×V)} {k:κ} (h:∀ kv∈kvs,kv.1≠k):valV kvs k=none:=by
 unfold valV
 rw [List.find?_eq_none.mpr fun kv hkv=>by simpa using h kv hkv]
 rfl
theorem key_new {d:Nat} {rs:List (List Int)} {xs:List Int} (hd:0<d):valV (kvRows d 0 rs++kvRow (rs.length % d) (rs.length / d) 0 xs) (key3 (xs.length:Int) ((rs.length % d:Nat):Int) ((rs.length / d:Nat):Int))=none:=by
 refine valV_none fun kv hkv e=>?_
 rcases List.mem_append.mp hkv with h|h
 ·obtain ⟨x',j',e',h1,h2⟩:=kvRows_key h
  rw [e'] at e
  simp only [key3,List.cons.injEq,Sum.inl.injEq,and_true] at e
  obtain ⟨_,e1,e2⟩:=e
  have q1:=Nat.div_add_mod j' d
  have q2:=Nat.div_add_mod rs.length d
  have e1':j' % d=rs.length % d:=by (clear q2 q1 e2 h2 h1 hd;omega)
  have e2':j' / d=rs.length / d:=by (clear e1' q2 q1 e1 h2 h1 hd;omega)
  rw [e1',e2'] at q1
  (clear e2' e1' e2 e1 h1 hd;omega)
 ·obtain ⟨x',e',h1,h2⟩:=kvRow_key h
  rw [e'] at e
  simp only [key3,List.cons.injEq,Sum.inl.injEq,and_true] at e
  obtain ⟨e1,_⟩:=e
  (clear h1 hd;omega)
end Br1
set_option Elab.async false
set_option linter.all false
set_option maxRecDepth 100000
set_option maxHeartbeats 2000000
namespace Br1
open PySem PySem.Spec PyProof.Rows L2
section
variable {P:Program} {w:World} {K:PySem.W.Frag} {mg:Str→Option Value} {base:Heap} {C CR CP:Addr}
def CI (mg:Str→Option Value) (x:Str) (n:Int):Prop:=∃ tk,mg x=some (.int n tk)
theorem pe_ci {X:Cx} {x:Str} {n:Int} {pos:Pos} (h:CI X.mg x n) (hg:Gl X x:=by rfl) (hd:(x==("__debug__":Str))=false:=by decide):PE X (.Name x pos) (tC (.int n)):=by
 obtain ⟨tk,h⟩:=h
 exact pe_glob hg h ⟨tk,rfl⟩ hd
def studI (s:Int):Bool:=decide (s=115)||decide (s=98)
def tubeI (s:Int):Bool:=decide (s=116)||decide (s=98)
def spStud:Sp:=fun vs H Q _=>∃ s:Int,vs=[.int s]∧Q (.bl (studI s)) H
def spTube:Sp:=fun vs H Q _=>∃ s:Int,vs=[.int s]∧Q (.bl (tubeI s)) H
theorem dec_eq (i j:Int):decide (V.int i=V.int j)=decide (i=j):=by rw [dec_int,Bool.beq_eq_decide_eq]
theorem sc_stud:FnScope ["sign"] ["sign"] (defScope sHasStud):=⟨rfl,rfl,rfl,by decide+kernel,rfl,by decide+kernel,by decide+kernel⟩
theorem ok_stud {f:Addr} {fd:FuncData} (F:Fun K "has_stud" "has_stud" sHasStud f fd) (h1:CI mg "STUD" 115) (h2:CI mg "BOTH" 98):FnOk P w K mg base CX0 1 f fd ["sign"] spStud:=by
 refine F.ok sc_stud (fun vs H Q E h=>?_) (fun cdv A outer s H vs Q E hr h=>?_)
 ·obtain ⟨b,rfl,_⟩:=h
  rfl
 ·obtain ⟨b,rfl,k⟩:=h
  refine ⟨_,pss_one (ps_ret (pe_or (pe_cmpR op_eq (pv 0) (pe_ci h1) (nomark _)) (pe_one (pe_cmpR op_eq (pv 0) (pe_ci h2) (nomark _))))),?_⟩
  unfold studI at k
  rw [←dec_eq,←dec_eq] at k
  refine ⟨_,rfl,rfl,_,rfl,ite2 (fun h=>?_) (fun h=>⟨_,rfl,rfl,?_⟩)⟩
  ·rw [h] at k;exact k
  ·rw [bool_not h] at k;exact k
theorem sc_tube:FnScope ["sign"] ["sign"] (defScope sHasTube):=⟨rfl,rfl,rfl,by decide+kernel,rfl,by decide+kernel,by decide+kernel⟩
theorem ok_tube {f:Addr} {fd:FuncData} (F:Fun K "has_tube" "has_tube" sHasTube f fd) (h1:CI mg "TUBE" 116) (h2:CI mg "BOTH" 98):FnOk P w K mg base CX0 1 f fd ["sign"] spTube:=by
 refine F.ok sc_tube (fun vs H Q E h=>?_) (fun cdv A outer s H vs Q E hr h=>?_)
 ·obtain ⟨b,rfl,_⟩:=h
  rfl
 ·obtain ⟨b,rfl,k⟩:=h
  refine ⟨_,pss_one (ps_ret (pe_or (pe_cmpR op_eq (pv 0) (pe_ci h1) (nomark _)) (pe_one (pe_cmpR op_eq (pv 0) (pe_ci h2) (nomark _))))),?_⟩
  unfold tubeI at k
  rw [←dec_eq,←dec_eq] at k
  refine ⟨_,rfl,rfl,_,rfl,ite2 (fun h=>?_) (fun h=>⟨_,rfl,rfl,?_⟩)⟩
  ·rw [h] at k;exact k
  ·rw [bool_not h] at k;exact k
def spAbove:Sp:=fun vs H Q _=>∃ (g:Addr) (x y z:Int),vs=[.ref g]∧H g=some (.tup [.int x,.int y,.int z])∧∀ q,H q=none→Q (.ref q) (upd H q (.tup [.int x,.int y,.int (z+1)]))
def spBelow:Sp:=fun vs H Q _=>∃ (g:Addr) (x y z:Int),vs=[.ref g]∧H g=some (.tup [.int x,.int y,.int z])∧∀ q,H q=none→Q (.ref q) (upd H q (.tup [.int x,.int y,.int (z - 1)]))
theorem sc_above:FnScope ["place"] ["place"] (defScope sAbove):=⟨rfl,rfl,rfl,by decide+kernel,rfl,by decide+kernel,by decide+kernel⟩
theorem ok_above {f:Addr} {fd:FuncData} (F:Fun K "above" "above" sAbove f fd):FnOk P w K mg base CX0 1 f fd ["place"] spAbove:=by
 refine F.ok sc_above (fun vs H Q E h=>?_) (fun cdv A outer s H vs Q E hr h=>?_)
 ·obtain ⟨g,x,y,z,rfl,_⟩:=h
  rfl
 ·obtain ⟨g,x,y,z,rfl,hg,k⟩:=h
  refine ⟨_,pss_one (ps_ret (pe_tup (pa_cons (pe_ix ix_tup (pv 0) pe_int (fun _ _=>rfl)) (pa_cons (pe_ix ix_tup (pv 0) pe_int (fun _ _=>rfl)) (pa_cons (pe_op op_add (pe_ix ix_tup (pv 0) pe_int (fun _ _=>rfl)) pe_int) pa_nil))))),?_⟩
  refine ⟨_,rfl,g,_,_,_,rfl,rfl,SqT.of hg,rfl,_,rfl,g,_,_,_,rfl,rfl,SqT.of hg,rfl,_,rfl,g,_,_,_,rfl,rfl,SqT.of hg,rfl,_,_,rfl,rfl,(by show 3≤sizeLine;decide),k⟩
theorem sc_below:FnScope ["place"] ["place"] (defScope sBelow):=⟨rfl,rfl,rfl,by decide+kernel,rfl,by decide+kernel,by decide+kernel⟩
theorem ok_below {f:Addr} {fd:FuncData} (F:Fun K "below" "below" sBelow f fd):FnOk P w K mg base CX0 1 f fd ["place"] spBelow:=by
 refine F.ok sc_below (fun vs H Q E h=>?_) (fun cdv A outer s H vs Q E hr h=>?_)
 ·obtain ⟨g,x,y,z,rfl,_⟩:=h
  rfl
 ·obtain ⟨g,x,y,z,rfl,hg,k⟩:=h
  refine ⟨_,pss_one (ps_ret (pe_tup (pa_cons (pe_ix ix_tup (pv 0) pe_int (fun _ _=>rfl)) (pa_cons (pe_ix ix_tup (pv 0) pe_int (fun _ _=>rfl)) (pa_cons (pe_op op_sub (pe_ix ix_tup (pv 0) pe_int (fun _ _=>rfl)) pe_int) pa_nil))))),?_⟩
  refine ⟨_,rfl,g,_,_,_,rfl,rfl,SqT.of hg,rfl,_,rfl,g,_,_,_,rfl,rfl,SqT.of hg,rfl,_,rfl,g,_,_,_,rfl,rfl,SqT.of hg,rfl,_,_,rfl,rfl,(by show 3≤sizeLine;decide),k⟩
def PtF (nm:Addr) (W D Hh g:Int) (cells:Addr):List (Str×V):=[("name",.ref nm),("width",.int W),("depth",.int D),("height",.int Hh),("weight",.int g),("cells",.ref cells)]
structure PtT (K:PySem.W.Frag) (CP:Addr):Prop where
 cl:Cls K CP
 n1:NoAttr K CP "name"
 n2:NoAttr K CP "width"
 n3:NoAttr K CP "depth"
 n4:NoAttr K CP "height"
 n5:NoAttr K CP "weight"
 n6:NoAttr K CP "cells"
def spPartI (CP:Addr):Sp:=fun vs H Q _=>∃ (r dx nm cells:Addr) (W D Hh g:Int),vs=[.ref r,.ref nm,.int W,.int D,.int Hh,.int g,.ref cells]∧H r=some (.ins CP dx [])∧∀ H':Hp,H' r=some (.ins CP dx (PtF nm W D Hh g cells))→SX r H H'→Q .non H'
theorem sc_partI:FnScope ["self","name","width","depth","height","weight","cells"] ["self","name","width","depth","height","weight","cells"] (defScope sPartI):=⟨rfl,rfl,rfl,by decide+kernel,rfl,by decide+kernel,by decide+kernel⟩
theorem ok_partI {f:Addr} {fd:FuncData} (F:Fun K "__init__" "Part.__init__" sPartI f fd) (T:PtT K CP):FnOk P w K mg base CX0 1 f fd ["self","name","width","depth","height","weight","cells"] (spPartI CP):=by
 refine F.ok sc_partI (fun vs H Q E h=>?_) (fun cdv A outer s H vs Q E hr h=>?_)
 ·obtain ⟨r,dx,nm,cells,W,D,Hh,g,rfl,_⟩:=h
  rfl
 ·obtain ⟨r,dx,nm,cells,W,D,Hh,g,rfl,hp,k⟩:=h
  refine ⟨_,pss_cons (ps_fld (pv 0) (pv 1) rfl) (pss_cons (ps_fld (pv 0) (pv 2) rfl) (pss_cons (ps_fld (pv 0) (pv 3) rfl) (pss_cons (ps_fld (pv 0) (pv 4) rfl) (pss_cons (ps_fld (pv 0) (pv 5) rfl) (pss_one (ps_fld (pv 0) (pv 6) rfl)))))),?_⟩
  refine ⟨_,rfl,_,rfl,r,CP,dx,_,rfl,hp,T.cl,T.n1,(by show 0<1000;decide),?_⟩
  refine ⟨_,rfl,_,rfl,r,CP,dx,_,rfl,upd_same,T.cl,T.n2,(by show 1<1000;decide),?_⟩
  refine ⟨_,rfl,_,rfl,r,CP,dx,_,rfl,upd_same,T.cl,T.n3,(by show 2<1000;decide),?_⟩
  refine ⟨_,rfl,_,rfl,r,CP,dx,_,rfl,upd_same,T.cl,T.n4,(by show 3<1000;decide),?_⟩
  refine ⟨_,rfl,_,rfl,r,CP,dx,_,rfl,upd_same,T.cl,T.n5,(by show 4<1000;decide),?_⟩
  refine ⟨_,rfl,_,rfl,r,CP,dx,_,rfl,upd_same,T.cl,T.n6,(by show 5<1000;decide),?_⟩
  exact k _ upd_same fun b o e hb=>by rw [upd_ne hb,upd_ne hb,upd_ne hb,upd_ne hb,upd_ne hb,upd_ne hb];exact e
end
end Br1
set_option Elab.async false
set_option linter.all false
set_option maxRecDepth 100000
set_option maxHeartbeats 2000000
namespace L2
open PySem PySem.Spec PyProof.Rows
theorem for_range0 {n:Nat} {g:TG} {tb:TS} {D:Ends} {σ:St} {H:Hp} (Pv:Nat→St→Hp→Prop) (h0:Pv 0 σ H)
  (hs:∀ i σ H,i<n→Pv i σ H→g (.int (i:Int)) σ H fun σ2 H2=>tb {D with nx:=Pv (i+1),ct:=Pv (i+1),bk:=D.nx} σ2 H2) (hd:∀ σ H,Pv n σ H→D.nx σ H):
  ∃ W:Nat→Nat→St→Hp→Prop,(∃ m,W 0 m σ H)∧∀ i m σ H,W i m σ H→
   ((Itr 0 ((n:Int)).toNat).stop i H∧D.nx σ H)∨((Itr 0 ((n:Int)).toNat).go i H∧∃ N:St→Hp→Prop,(∀ σ' H',N σ' H'→∃ m',m'<m∧W (i+1) m' σ' H')∧∀ x H',(Itr 0 ((n:Int)).toNat).yld i H x H'→g x σ H' fun σ2 H2=>tb {D with nx:=N,ct:=N,bk:=D.nx} σ2 H2):=by
 rw [Int.toNat_natCast]
 refine for_range (lo:=0) (n:=n) Pv h0 (fun i σ H hi p=>?_) hd
 rw [Int.zero_add]
 exact hs i σ H hi p
end L2
namespace Br1
open PySem PySem.Spec PyProof.Rows L2
theorem signs_err {l:List Int} {w n pr i:Nat} {rs:List (List Int)} (h:signsRun l w pr=.error i):ahead rs (rowsRun l w (n+1) pr)=.error i:=by
 have e:rowRun l w pr=.error i:=by
  unfold rowRun
  rw [h]
 unfold rowsRun
 rw [e]
 rfl
theorem row_err {l:List Int} {w n pr q:Nat} {rs:List (List Int)} {xs:List Int} (h:signsRun l w pr=.ok (xs,q)) (h2:¬hereI l q=10):ahead rs (rowsRun l w (n+1) pr)=.error q:=by
 have e:rowRun l w pr=.error q:=by
  unfold rowRun
  rw [h]
  exact if_neg h2
 unfold rowsRun
 rw [e]
 rfl
theorem row_ok {l:List Int} {w n pr q:Nat} {rs:List (List Int)} {xs:List Int} (h:signsRun l w pr=.ok (xs,q)) (h2:hereI l q=10):ahead rs (rowsRun l w (n+1) pr)=ahead (rs++[xs]) (rowsRun l w n (q+1)):=by
 have e:rowRun l w pr=.ok (xs,q+1):=by
  unfold rowRun
  rw [h]
  exact if_pos h2
 rw [←ahead_snoc]
 show ahead rs (rowsRun l w (n+1) pr)=_
 rw [rowsRun,e]
theorem lf_word:("\n":Str).cps.toList=[10]:=by decide+kernel
section
variable {P:Program} {w:World} {K:PySem.W.Frag} {mg:Str→Option Value} {base:Heap} {C CR CP:Addr}
def spCells (K:PySem.W.Frag) (CR:Addr):Sp:=fun vs H Q E=>∃ (r a:Addr) (l:List Int) (p W D Hh:Nat),vs=[.ref r,.int W,.int D,.int Hh]∧Txa K CR H r a l p∧W≤16∧D≤16∧Hh≤18∧0<D∧
 match rowsRun l W (D * Hh) p with
 |.ok q=>∀ (H':Hp) (c:Addr),RdAt CR H' r a q.2→q.2≤l.length→SX r H H'→H c=none→H' c=some (.dT (kvRows D 0 q.1))→(∀ x∈q.1,x.length=W)→Q (.ref c) H'
 |.error i=>∀ H':Hp,SX r H H'→E (.int i 0) none H'
structure CS (CR:Addr) (H:Hp) (r a c:Addr) (l:List Int) (d:Nat) (rs:List (List Int)) (xs:List Int) (p':Nat) (H':Hp):Prop where
 sx:SX r H H'
 rd:RdAt CR H' r a p'
 le:p'≤l.length
 dc:H' c=some (.dT (kvRows d 0 rs++kvRow (rs.length % d) (rs.length / d) 0 xs))
def SgC (r c:Addr) (W D Hh z y:Nat) (v7 v8:Option V):List (Option V):=[some (.ref r),some (.int W),some (.int D),some (.int Hh),some (.ref c),some (.int z),some (.int y),v7,v8]
abbrev tXbody (K:PySem.W.Frag) (CR aS:Addr) (E:XK):TS:=tSeq (tAsg (tMeth CR "read_one_of" (spOneOf K CR) [] E (tVar 0) (tCons (tC (.ref aS)) tNil)) (gName 8)) (tIfS (tTest (tOp rNe (tVar 8) (tC (.int 46)))) (sDPut (tVar 4) (tTup (tCons (tVar 7) (tCons (tVar 6) (tCons (tVar 5) tNil)))) (tVar 8)) tNext)
theorem cells_turn {H H1:Hp} {r a c aS:Addr} {l:List Int} {p W D Hh z y i pr p':Nat} {rs:List (List Int)} {xs:List Int} {v8:Option V} {E:XK} {Dn:Ends} (x:Txa K CR H r a l p) (hc:H c=none) (nrc:r≠c) (hS:∀ H,SqT K H aS (SIGNSL.map V.int)) (hW:W≤16)
  (hrs:rs.length≤300) (hrw:∀ q∈rs,q.length=W) (hD:0<D) (hz:z=rs.length / D) (hy:y=rs.length % D) (hi:i<W) (hx:xs.length=i) (cs:CS CR H r a c l D rs xs p' H1) (e1:signsRun l W pr=ahead xs (signsRun l (W - i) p'))
  (kE:∀ q,signsRun l W pr=.error q→∀ H',SX r H H'→E (.int q 0) none H')
  (kN:∀ (v8:Option V) (H':Hp) (xs':List Int) (q:Nat),xs'.length=i+1→CS CR H r a c l D rs xs' q H'→signsRun l W pr=ahead xs' (signsRun l (W - (i+1)) q)→Dn.nx (SgC r c W D Hh z y (some (.int i)) v8) H'):
  tXbody K CR aS E Dn (SgC r c W D Hh z y (some (.int i)) v8) H1:=by
 subst hz hy
 obtain ⟨dx,h1⟩:=id cs.rd
 have x1:=x.same cs.sx cs.rd cs.le
 obtain ⟨n,hn⟩:∃ n,W - i=n+1:=⟨W - i - 1,by (clear hx hD hrs hW;omega)⟩
 have hn2:W - (i+1)=n:=by (clear hx hi hD hrs hW;omega)
 rw [hn] at e1
 refine ⟨_,rfl,r,dx,_,rfl,h1,rfl,⟨r,a,aS,l,SIGNSL,p',rfl,x1,hS H1,by decide,fun hin H2 hr2 s2=>?_,fun hin=>?_⟩⟩
 ·have lt:p'<l.length:=hereI_lt fun q=>by rw [q] at hin;revert hin;decide
  have e2:signsRun l W pr=ahead (xs++[hereI l p']) (signsRun l n (p'+1)):=by
   rw [e1,←ahead_snoc]
   show ahead xs (if hereI l p'∈SIGNSL then _ else _)=_
   rw [if_pos hin]
  have c2:H2 c=some (.dT (kvRows D 0 rs++kvRow (rs.length % D) (rs.length / D) 0 xs)):=s2 _ _ cs.dc (Ne.symm nrc)
  have ls:(xs++[hereI l p']).length=i+1:=by simp [hx]
  have ek:=kvRow_snoc (rs.length % D) (rs.length / D) (hereI l p') xs 0
  rw [Nat.zero_add] at ek
  refine ⟨_,rfl,rfl,_,rfl,ite2 (fun hne=>?_) (fun hne=>?_)⟩
  ·have hne:¬hereI l p'=46:=by
    intro q
    rw [q] at hne
    revert hne
    decide
   rw [if_neg hne,hx] at ek
   refine ⟨_,rfl,_,rfl,_,rfl,_,rfl,_,rfl,(by show 3≤sizeLine;decide),fun g hg=>?_⟩
   have sg:Same H2 (upd H2 g (.tup [.int i,.int ((rs.length % D:Nat):Int),.int ((rs.length / D:Nat):Int)])):=fun b o e=>by rw [upd_ne (ne_of_none e hg)];exact e
   refine ⟨c,_,rfl,DPut.t (k:=key3 i ((rs.length % D:Nat):Int) ((rs.length / D:Nat):Int)) (sg _ _ c2) upd_same ?_,?_⟩
   ·have h1:=kvRows_len D W rs 0 hrw
    have h2:=kvRow_len (rs.length % D) (rs.length / D) xs 0
    have h3:rs.length * W≤300 * 16:=Nat.mul_le_mul hrs hW
    have:=sizeLine_big
    rw [List.length_append]
    (clear hne ls lt hn2 hn hD hrs;omega)
   ·have kn:=key_new (d:=D) (rs:=rs) (xs:=xs) hD
    rw [hx] at kn
    have kp:=putK_new (V.int (hereI l p')) kn
    refine kN _ _ (xs++[hereI l p']) (p'+1) ls ⟨fun b o e hb=>?_,?_,lt,?_⟩ (by rw [hn2];exact e2)
    ·rw [upd_ne (ne_of_none e hc)]
     exact sg b o (s2 b o (cs.sx b o e hb) hb)
    ·obtain ⟨dx2,g2⟩:=hr2
     exact ⟨dx2,by rw [upd_ne nrc];exact sg _ _ g2⟩
    ·rw [upd_same,kp,List.append_assoc,ek]
  ·have hne:hereI l p'=46:=by
    refine Classical.byContradiction fun q=>hne ?_
    show (!decide (V.int (hereI l p')=V.int 46))=true
    rw [dec_eq,decide_eq_false q]
    rfl
   rw [if_pos hne,List.append_nil] at ek
   refine kN _ _ (xs++[hereI l p']) (p'+1) ls ⟨cs.sx.trans s2,hr2,lt,?_⟩ (by rw [hn2];exact e2)
   rw [ek]
   exact c2
 ·refine kE p' ?_ _ cs.sx
  rw [e1]
  show ahead xs (if hereI l p'∈SIGNSL then _ else _)=_
  rw [if_neg hin]
  rfl
end
end Br1
set_option Elab.async false
set_option linter.all false
set_option maxRecDepth 100000
set_option maxHeartbeats 2000000
namespace Br1
open PySem PySem.Spec PyProof.Rows L2
theorem signs_len {l:List Int}:∀ {n p:Nat} {r:List Int×Nat},signsRun l n p=.ok r→r.1.length=n
 |0,p,r,h=>by cases h;rfl
 |n+1,p,r,h=>by
  rw [signsRun] at h
  split at h
  ·cases e:signsRun l n (p+1) with
   |error i=>rw [e] at h;cases h
   |ok q=>
    rw [e] at h
    cases h
    show (_::q.1).length=n+1
    rw [List.length_cons,signs_len e]
  ·cases h
section
variable {P:Program} {w:World} {K:PySem.W.Frag} {mg:Str→Option Value} {base:Heap} {C CR CP:Addr}
theorem sc_cells:FnScope ["reader","width","depth","height","cells","z","y","x","sign"] ["reader","width","depth","height"] (defScope sReadCells):=⟨rfl,rfl,rfl,by decide+kernel,rfl,by decide+kernel,by decide+kernel⟩
theorem ok_cells {f aS:Addr} {fd:FuncData} (F:Fun K "read_cells" "read_cells" sReadCells f fd) (T:RdT K CR) (hrange:mg "range"=none) (hS:∀ H,SqT K H aS (SIGNSL.map V.int)) (hSg:mg "SIGNS"=some (.ref aS)) (hNC:CI mg "NO_CELL" 46)
  (M1:RdM P w K mg base CR "read_one_of" (CXF C P w) 4 ["self","signs"] (spOneOf K CR)) (M2:RdM P w K mg base CR "read_word" (CXF C P w) 5 ["self","word"] (spWord K CR)):
  FnOk P w K mg base (CXF C P w) 6 f fd ["reader","width","depth","height"] (spCells K CR):=by
 obtain ⟨f1,fd1,m1,G1,b1⟩:=M1.ex
 obtain ⟨f2,fd2,m2,G2,b2⟩:=M2.ex
 refine F.okX sc_cells (fun vs H Q E h=>?_) (fun cdv A outer s H vs Q E hr h=>?_)
 ·obtain ⟨r,a,l,p,W,D,Hh,rfl,_⟩:=h
  rfl
 ·obtain ⟨r,a,l,p,W,D,Hh,rfl,x,hW,hD,hH,hD0,k⟩:=h
  obtain ⟨⟨dx,h1⟩,tx,le⟩:=id x
  have hr4:=hr.mono (j:=4) (by decide)
  have hu:=hu_of hr
  refine ⟨_,pss_cons (ps_set (i:=4) sc_cells.nd rfl (Or.inl rfl) pe_dnewT)
   (pss_cons (ps_for leaves_cx.own rfl (pi_range1 rfl hrange (pa_cons (pv 3) pa_nil)) (pg_name (i:=5) sc_cells.nd rfl (Or.inl rfl))
    (pss_one (ps_for leaves_cx.own rfl (pi_range1 rfl hrange (pa_cons (pv 2) pa_nil)) (pg_name (i:=6) sc_cells.nd rfl (Or.inl rfl))
     (pss_cons (ps_for leaves_cx.own rfl (pi_range1 rfl hrange (pa_cons (pv 1) pa_nil)) (pg_name (i:=7) sc_cells.nd rfl (Or.inl rfl))
      (pss_cons (ps_set (i:=8) sc_cells.nd rfl (Or.inl rfl) (pe_meth (pv 0) T.cl m1 G1 hr4 b1 .nil leaves_cx.pass (pa_cons (pe_glob (v:=.ref aS) (by rfl) hSg rfl) pa_nil)))
      (pss_one (ps_if (pt_cmpR op_ne (pv 8) (pe_ci hNC) (nomark _)) (pss_one (ps_dput hu (pv 4) (pe_tup (pa_cons (pv 7) (pa_cons (pv 6) (pa_cons (pv 5) pa_nil)))) (pv 8) rfl)) pss_nil))))
     (pss_one (ps_expr (pe_meth (pv 0) T.cl m2 G2 hr b2 .nil leaves_cx.pass (pa_cons pe_str pa_nil))))))))
   (pss_one (ps_ret (pv 4)))),?_⟩
  intro c hc
  have nrc:r≠c:=ne_of_none h1 hc
  have sc0:Same H (upd H c (.dT [])):=fun b o e=>by rw [upd_ne (ne_of_none e hc)];exact e
  refine ⟨_,rfl,_,rfl,by (clear hu le hD0 hH hD hW;omega),by (clear hu le hD0 hD hW;omega),for_range0 (n:=Hh) (fun z σ H'=>∃ (rs:List (List Int)) (p':Nat) (v5 v6 v7 v8:Option V),σ=[some (.ref r),some (.int W),some (.int D),some (.int Hh),some (.ref c),v5,v6,v7,v8]∧
   rs.length=z * D∧(∀ q∈rs,q.length=W)∧CS CR H r a c l D rs [] p' H'∧rowsRun l W (D * Hh) p=ahead rs (rowsRun l W (D * Hh - z * D) p'))
   ⟨[],p,none,none,none,none,rfl,by simp,(fun q hq=>nomatch hq),⟨Same.sx sc0,⟨dx,sc0 _ _ h1⟩,le,upd_same⟩,by rw [ahead_nil,Nat.zero_mul,Nat.sub_zero]⟩ ?_ ?_⟩
  ·rintro z σ H1 hz ⟨rs,p1,v5,v6,v7,v8,rfl,hrl,hrw,cs,e1⟩
   have zD:z * D+D≤D * Hh:=by
    rw [Nat.mul_comm D Hh,←Nat.succ_mul]
    exact Nat.mul_le_mul_right D hz
   have DH:D * Hh≤16 * 18:=Nat.mul_le_mul hD hH
   refine ⟨_,rfl,_,rfl,by (clear DH zD hrl hz hu le hD0 hH hD hW;omega),by (clear DH zD hrl hz hu le hD0 hH hW;omega),for_range0 (n:=D) (fun y σ H'=>∃ (rs:List (List Int)) (p':Nat) (v6 v7 v8:Option V),σ=[some (.ref r),some (.int W),some (.int D),some (.int Hh),some (.ref c),some (.int z),v6,v7,v8]∧
    rs.length=z * D+y∧(∀ q∈rs,q.length=W)∧CS CR H r a c l D rs [] p' H'∧rowsRun l W (D * Hh) p=ahead rs (rowsRun l W (D * Hh - (z * D+y)) p'))
    ⟨rs,p1,v6,v7,v8,rfl,hrl,hrw,cs,e1⟩ ?_ ?_⟩
   ·rintro y σ H2 hy ⟨rs,pr,v6,v7,v8,rfl,hrl,hrw,cs,e1⟩
    obtain ⟨n,hn⟩:∃ n,D * Hh - (z * D+y)=n+1:=⟨D * Hh - (z * D+y) - 1,by (clear hrl DH hz hu le hD0 hH hD hW;omega)⟩
    have hn2:D * Hh - (z * D+(y+1))=n:=by (clear hrl hy DH zD hz hu le hD0 hH hD hW;omega)
    rw [hn] at e1
    have ey:y=rs.length % D:=by
     rw [hrl,Nat.add_comm,Nat.add_mul_mod_self_right,Nat.mod_eq_of_lt hy]
    have ez:z=rs.length / D:=by
     rw [hrl,Nat.add_comm,Nat.add_mul_div_right _ _ hD0,Nat.div_eq_of_lt hy,Nat.zero_add]
    have kE:∀ q,rowsRun l W (D * Hh) p=.error q→∀ H',SX r H H'→E (.int q 0) none H':=fun q e H' s'=>by
     rw [e] at k
     exact k H' s'
    refine ⟨_,rfl,_,rfl,by (clear ez ey hn2 hn hrl hy DH zD hz hu le hD0 hH hD hW;omega),by (clear ez ey hn2 hn hrl hy DH zD hz hu le hD0 hH hD;omega),for_range0 (n:=W) (fun i σ H'=>∃ (xs:List Int) (p':Nat) (v7 v8:Option V),σ=SgC r c W D Hh z y v7 v8∧xs.length=i∧CS CR H r a c l D rs xs p' H'∧signsRun l W pr=ahead xs (signsRun l (W - i) p'))
     ⟨[],pr,v7,v8,rfl,rfl,cs,by rw [ahead_nil,Nat.sub_zero]⟩ ?_ ?_⟩
    ·rintro i σ H3 hi ⟨xs,p',v7,v8,rfl,hx,cs,e2⟩
     exact cells_turn x hc nrc hS hW (by (clear hx hi ez ey hn2 hn hz hu le hD0 hH hD hW;omega)) hrw hD0 ez ey hi hx cs e2 (fun q e H' s'=>kE q (by rw [e1];exact signs_err e) H' s') fun v8 H' xs' q g1 g2 g3=>⟨xs',q,_,v8,rfl,g1,g2,g3⟩
    ·rintro σ H3 ⟨xs,p',v7,v8,rfl,hx,cs,e2⟩
     have e3:signsRun l W pr=.ok (xs,p'):=by
      rw [e2,Nat.sub_self]
      show Except.ok (xs++[],p')=_
      rw [List.append_nil]
     obtain ⟨dx3,g3⟩:=id cs.rd
     refine ⟨_,rfl,r,dx3,_,rfl,g3,rfl,r,a,l,p',"\n",rfl,x.same cs.sx cs.rd cs.le,?_,?_⟩
     ·rw [lf_word]
      intro q hq
      rw [List.mem_singleton.mp hq]
      decide
     ·rw [lf_word]
      have ew:wordRun l p' [10]=if hereI l p'=10 then .ok (p'+1) else .error p':=rfl
      rw [ew]
      by_cases h10:hereI l p'=10
      ·rw [if_pos h10]
       intro H4 hr4 le4 s4
       have c4:H4 c=some (.dT (kvRows D 0 rs++kvRow (rs.length % D) (rs.length / D) 0 xs)):=s4 _ _ cs.dc (Ne.symm nrc)
       refine ⟨rs++[xs],p'+1,_,v7,v8,rfl,by simp [hrl];(clear le4 h10 hx ez ey hn2 hn hrl hy DH zD hz hu le hD0 hH hD hW;omega),fun q hq=>?_,⟨cs.sx.trans s4,hr4,le4,?_⟩,?_⟩
       ·rcases List.mem_append.mp hq with hq|hq
        ·exact hrw q hq
        ·rw [List.mem_singleton.mp hq];exact hx
       ·have ek:=kvRows_snoc D xs rs 0
        rw [Nat.zero_add] at ek
        rw [ek,c4]
        show _=some (HO.dT ((_++_)++[]))
        rw [List.append_nil]
       ·rw [e1,row_ok e3 h10,hn2]
      ·rw [if_neg h10]
       intro H4 s4
       exact kE p' (by rw [e1];exact row_err e3 h10) H4 (cs.sx.trans s4)
   ·rintro σ H2 ⟨rs,p',v6,v7,v8,rfl,hrl,hrw,cs,e1⟩
    exact ⟨rs,p',_,v6,v7,v8,rfl,by rw [hrl,Nat.succ_mul],hrw,cs,by rw [Nat.succ_mul];exact e1⟩
  ·rintro σ H1 ⟨rs,p',v5,v6,v7,v8,rfl,hrl,hrw,cs,e1⟩
   have e2:rowsRun l W (D * Hh) p=.ok (rs,p'):=by
    rw [e1,Nat.mul_comm Hh D,Nat.sub_self]
    show Except.ok (rs++[],p')=_
    rw [List.append_nil]
   rw [e2] at k
   refine ⟨_,rfl,k H1 c cs.rd cs.le cs.sx hc ?_ hrw⟩
   rw [cs.dc]
   show some (HO.dT (_++[]))=_
   rw [List.append_nil]
end
end Br1
set_option Elab.async false
set_option linter.all false
set_option maxRecDepth 100000
set_option maxHeartbeats 2000000
namespace Br1
open PySem PySem.Spec PyProof.Rows L2
def bnd {α β:Type} (r:Except Nat α) (f:α→Except Nat β):Except Nat β:=match r with
 |.ok a=>f a
 |.error i=>.error i
theorem bnd_ok {α β:Type} (a:α) (f:α→Except Nat β):bnd (.ok a) f=f a:=rfl
theorem bnd_err {α β:Type} (i:Nat) (f:α→Except Nat β):bnd (.error i) f=.error i:=rfl
instance {l:List Int} {p:Nat} {lo hi:Int}:Decidable (numOk l p lo hi):=by unfold numOk;infer_instance
def nameE (l:List Int) (p L:Nat):Except Nat (List Int×Nat):=if isLet (hereI l p)=true then .ok (nameRun l p L,p+(nameRun l p L).length) else .error p
def numE (l:List Int) (p:Nat) (lo hi:Int):Except Nat (Nat×Nat):=if numOk l p lo hi then .ok ((numRun l p hi).1.toNat,(numRun l p hi).2) else .error p
structure PartR where
 name:List Int
 w:Nat
 d:Nat
 h:Nat
 g:Nat
 rows:List (List Int)
def partRun (l:List Int) (p:Nat):Except Nat (PartR×Nat):=
 bnd (wordRun l p [112,97,114,116,32]) fun p1=>bnd (nameE l p1 8) fun nm=>bnd (wordRun l nm.2 [32]) fun p3=>bnd (numE l p3 1 16) fun w=>bnd (wordRun l w.2 [32]) fun p5=>bnd (numE l p5 1 16) fun d=>
 bnd (wordRun l d.2 [32]) fun p7=>bnd (numE l p7 1 18) fun h=>bnd (wordRun l h.2 [32]) fun p9=>bnd (numE l p9 1 9999) fun g=>bnd (wordRun l g.2 [10]) fun p11=>bnd (rowsRun l w.1 (d.1 * h.1) p11) fun rs=>.ok (⟨nm.1,w.1,d.1,h.1,g.1,rs.1⟩,rs.2)
theorem part_word:("part ":Str).cps.toList=[112,97,114,116,32]:=by decide+kernel
theorem blank_word:(" ":Str).cps.toList=[32]:=by decide+kernel
theorem num_lo:∀ {l:List Int} {hi:Int} {n p:Nat} {v:Int},1≤v→1≤(numMore l hi n p v).1
 |l,hi,0,p,v,h=>h
 |l,hi,n+1,p,v,h=>by
  rw [numMore]
  split
  ·rename_i q
   have:=dig_range q.2.1
   exact num_lo (by (clear q;omega))
  ·exact h
theorem numE_ok {l:List Int} {p:Nat} {lo hi:Int} (h:numOk l p lo hi):numE l p lo hi=.ok ((numRun l p hi).1.toNat,(numRun l p hi).2):=if_pos h
theorem numE_err {l:List Int} {p:Nat} {lo hi:Int} (h:¬numOk l p lo hi):numE l p lo hi=.error p:=if_neg h
section
variable {P:Program} {w:World} {K:PySem.W.Frag} {mg:Str→Option Value} {base:Heap} {C CR CP:Addr}
theorem word_then {H:Hp} {r a:Addr} {l:List Int} {p:Nat} {x:Str} {cs:List Nat} {Q:V→Hp→Prop} {E:XK} (hx:x.cps.toList=cs) (h256:∀ c∈cs,c<256) (tx:Txa K CR H r a l p)
  (k1:∀ p',wordRun l p cs=.ok p'→∀ H',Txa K CR H' r a l p'→SX r H H'→Q .non H') (k2:∀ i,wordRun l p cs=.error i→∀ H',SX r H H'→E (.int i 0) none H'):spWord K CR [.ref r,.str x] H Q E:=by
 refine ⟨r,a,l,p,x,rfl,tx,by rw [hx];exact h256,?_⟩
 rw [hx]
 cases e:wordRun l p cs with
 |ok p'=>exact fun H' hr hl s=>k1 p' e H' (tx.same s hr hl) s
 |error i=>exact fun H' s=>k2 i e H' s
theorem num_then {H:Hp} {r a:Addr} {l:List Int} {p:Nat} {lo:Int} {hi:Nat} {Q:V→Hp→Prop} {E:XK} (tx:Txa K CR H r a l p) (hlo:0≤lo) (hhi:hi≤100000)
  (k1:∀ v:Nat×Nat,numE l p lo hi=.ok v→v.1≤hi→(1≤lo→1≤v.1)→∀ H',Txa K CR H' r a l v.2→SX r H H'→Q (.int v.1) H') (k2:numE l p lo hi=.error p→E (.int p 0) none H):spNumber K CR [.ref r,.int lo,.int hi] H Q E:=by
 refine ⟨r,a,l,p,lo,hi,rfl,tx,hlo,by (clear hlo;omega),fun ok H' hr hl h0 hh s=>?_,fun no=>k2 (numE_err no)⟩
 have e:=k1 _ (numE_ok ok) (by show (numRun l p hi).1.toNat≤hi;(clear h0 hl hhi hlo;omega)) (fun h1=>by
  have z:=num_lo (l:=l) (hi:=hi) (n:=l.length - (p+1)) (p:=p+1) (v:=hereI l p - 48) (by have:=ok.2.1;(clear hh h0 hl hhi hlo;omega))
  show 1≤(numRun l p hi).1.toNat
  unfold numRun
  (clear h1 hh h0 hl hhi hlo;omega)) H' (tx.same s hr hl) s
 have z:(((numRun l p hi).1.toNat:Nat):Int)=(numRun l p hi).1:=by (clear hh hl hhi hlo;omega)
 rw [←z]
 exact e
def PartAt (CP:Addr) (H:Hp) (b:Addr) (pr:PartR):Prop:=∃ dx nm c,H b=some (.ins CP dx (PtF nm pr.w pr.d pr.h pr.g c))∧H nm=some (.tup (pr.name.map V.int))∧H c=some (.dT (kvRows pr.d 0 pr.rows))
structure PartOk (pr:PartR):Prop where
 w1:1≤pr.w
 w2:pr.w≤16
 d1:1≤pr.d
 d2:pr.d≤16
 h1:1≤pr.h
 h2:pr.h≤18
 g2:pr.g≤9999
 rw:∀ q∈pr.rows,q.length=pr.w
 rl:pr.rows.length=pr.d * pr.h
 nm:pr.name.length≤8
def spPart (K:PySem.W.Frag) (CR CP:Addr):Sp:=fun vs H Q E=>∃ (r a:Addr) (l:List Int) (p:Nat),vs=[.ref r]∧Txa K CR H r a l p∧
 match partRun l p with
 |.ok q=>∀ (H':Hp) (b:Addr),Txa K CR H' r a l q.2→SX r H H'→H b=none→PartAt CP H' b q.1→PartOk q.1→Q (.ref b) H'
 |.error i=>∀ H':Hp,SX r H H'→E (.int i 0) none H'
theorem rows_len {l:List Int} {w:Nat}:∀ {n p:Nat} {r:List (List Int)×Nat},rowsRun l w n p=.ok r→r.1.length=n
 |0,p,r,h=>by cases h;rfl
 |n+1,p,r,h=>by
  rw [rowsRun] at h
  cases e:rowRun l w p with
  |error i=>rw [e] at h;cases h
  |ok q=>
   rw [e] at h
   cases e2:rowsRun l w n q.2 with
   |error i=>
    have h:consR q.1 (rowsRun l w n q.2)=.ok r:=h
    rw [e2] at h;cases h
   |ok q2=>
    have h:consR q.1 (rowsRun l w n q.2)=.ok r:=h
    rw [e2] at h
    cases h
    show (_::q2.1).length=n+1
    rw [List.length_cons,rows_len e2]
theorem nameRun_len {l:List Int}:∀ {n p:Nat},(nameRun l p n).length≤n
 |0,p=>Nat.le_refl _
 |n+1,p=>by
  rw [nameRun]
  split
  ·rw [List.length_cons];exact Nat.succ_le_succ nameRun_len
  ·exact Nat.zero_le _
theorem sc_part:FnScope ["reader","name","width","depth","height","weight"] ["reader"] (defScope sReadPart):=⟨rfl,rfl,rfl,by decide+kernel,rfl,by decide+kernel,by decide+kernel⟩
end
end Br1
set_option Elab.async false
set_option linter.all false
set_option maxRecDepth 100000
set_option maxHeartbeats 4000000
namespace Br1
open PySem PySem.Spec PyProof.Rows L2
section
variable {P:Program} {w:World} {K:PySem.W.Frag} {mg:Str→Option Value} {base:Heap} {C CR CP:Addr}
theorem name_then {H:Hp} {r a:Addr} {l:List Int} {p L:Nat} {Q:V→Hp→Prop} {E:XK} (tx:Txa K CR H r a l p) (hL:L≤1000)
  (k1:∀ v:List Int×Nat,nameE l p L=.ok v→∀ (H':Hp) (q:Addr),Txa K CR H' r a l v.2→SX r H H'→H' q=some (.tup (v.1.map V.int))→v.1.length≤L→Q (.ref q) H') (k2:nameE l p L=.error p→E (.int p 0) none H):spName K CR [.ref r,.int L] H Q E:=by
 refine ⟨r,a,l,p,L,rfl,tx,hL,fun ok H' q hr hl s hq=>?_,fun no=>k2 ?_⟩
 ·exact k1 (nameRun l p L,p+(nameRun l p L).length) (if_pos ok) H' q (tx.same s hr hl) s hq nameRun_len
 ·exact if_neg (by rw [no];decide)
theorem seq_in {t u:TS} {D:Ends} {σ:List (Option V)} {H:Hp} (h:t {D with nx:=u D} σ H):tSeq t u D σ H:=h
theorem word_st {H:Hp} {r a:Addr} {l:List Int} {p:Nat} {x:Str} {cs:List Nat} {D:Ends} {σ:List (Option V)} {E:XK} (hσ:σ[0]?=some (some (.ref r))) (hx:x.cps.toList=cs) (h256:∀ c∈cs,c<256) (tx:Txa K CR H r a l p)
  (k2:∀ i,wordRun l p cs=.error i→∀ H',SX r H H'→E (.int i 0) none H') (k1:∀ p',wordRun l p cs=.ok p'→∀ H',Txa K CR H' r a l p'→SX r H H'→D.nx σ H'):tDrop (tMeth CR "read_word" (spWord K CR) [] E (tVar 0) (tCons (tC (.str x)) tNil)) D σ H:=by
 obtain ⟨⟨dx,h1⟩,_,_⟩:=id tx
 exact ⟨_,hσ,r,dx,_,rfl,h1,rfl,word_then (Q:=fun _ H1=>D.nx σ H1) hx h256 tx (fun p' e H' x' s'=>k1 p' e H' x' s') k2⟩
theorem num_st {H:Hp} {r a:Addr} {l:List Int} {p i:Nat} {lo hiI:Int} {hi:Nat} {D:Ends} {σ:List (Option V)} {E:XK} (hh:hiI=(hi:Int)) (hσ:σ[0]?=some (some (.ref r))) (tx:Txa K CR H r a l p) (hlo:0≤lo) (hhi:hi≤100000)
  (k2:numE l p lo hiI=.error p→E (.int p 0) none H) (k1:∀ v:Nat×Nat,numE l p lo hiI=.ok v→v.1≤hi→(1≤lo→1≤v.1)→∀ H',Txa K CR H' r a l v.2→SX r H H'→D.nx (σ.set i (some (.int v.1))) H'):
  tAsg (tMeth CR "read_number" (spNumber K CR) [] E (tVar 0) (tCons (tC (.int lo)) (tCons (tC (.int hiI)) tNil))) (gName i) D σ H:=by
 subst hh
 obtain ⟨⟨dx,h1⟩,_,_⟩:=id tx
 exact ⟨_,hσ,r,dx,_,rfl,h1,rfl,num_then (Q:=fun y H1=>D.nx (σ.set i (some y)) H1) tx hlo hhi (fun v e g1 g2 H' x' s'=>k1 v e g1 g2 H' x' s') k2⟩
theorem name_st {H:Hp} {r a:Addr} {l:List Int} {p L i:Nat} {D:Ends} {σ:List (Option V)} {E:XK} (hσ:σ[0]?=some (some (.ref r))) (tx:Txa K CR H r a l p) (hL:L≤1000) (k2:nameE l p L=.error p→E (.int p 0) none H)
  (k1:∀ v:List Int×Nat,nameE l p L=.ok v→∀ (H':Hp) (q:Addr),Txa K CR H' r a l v.2→SX r H H'→H' q=some (.tup (v.1.map V.int))→v.1.length≤L→D.nx (σ.set i (some (.ref q))) H'):
  tAsg (tMeth CR "read_name" (spName K CR) [] E (tVar 0) (tCons (tC (.int L)) tNil)) (gName i) D σ H:=by
 obtain ⟨⟨dx,h1⟩,_,_⟩:=id tx
 exact ⟨_,hσ,r,dx,_,rfl,h1,rfl,name_then (Q:=fun y H1=>D.nx (σ.set i (some y)) H1) tx hL (fun v e H' q x' s' g1 g2=>k1 v e H' q x' s' g1 g2) k2⟩
theorem SX.tup {CR r q:Addr} {H H':Hp} {xs:List V} {a:Addr} {p:Nat} (s:SX r H H') (hr:RdAt CR H r a p) (h:H q=some (.tup xs)):H' q=some (.tup xs):=by
 obtain ⟨dx,g⟩:=hr
 exact s _ _ h (by rintro rfl;rw [g] at h;cases h)
theorem b32:∀ c∈([32]:List Nat),c<256:=by decide
theorem b10:∀ c∈([10]:List Nat),c<256:=by decide
structure PtM (P:Program) (w:World) (K:PySem.W.Frag) (mg:Str→Option Value) (base:Heap) (CP:Addr):Prop where
 ex:∃ f fd,Mk K CP f∧FnOk P w K mg base CX0 1 f fd ["self","name","width","depth","height","weight","cells"] (spPartI CP)∧Binds K fd ["self","name","width","depth","height","weight","cells"] []
 mg:mg "Part"=some (.ref CP)
theorem ok_part {f:Addr} {fd:FuncData} (F:Fun K "read_part" "read_part" sReadPart f fd) (T:RdT K CR) (PM:PtM P w K mg base CP) (c1:CI mg "LONGEST_PART_NAME" 8) (c2:CI mg "MOST_WIDTH" 16) (c3:CI mg "MOST_DEPTH" 16) (c4:CI mg "MOST_HEIGHT" 18) (c5:CI mg "MOST_WEIGHT" 9999)
  (M1:RdM P w K mg base CR "read_word" (CXF C P w) 5 ["self","word"] (spWord K CR)) (M2:RdM P w K mg base CR "read_name" (CXF C P w) 4 ["self","longest"] (spName K CR)) (M3:RdM P w K mg base CR "read_number" (CXF C P w) 4 ["self","least","most"] (spNumber K CR))
  (L1:Fn0 P w K mg base "read_cells" (CXF C P w) 6 ["reader","width","depth","height"] (spCells K CR)):FnOk P w K mg base (CXF C P w) 7 f fd ["reader"] (spPart K CR CP):=by
 obtain ⟨f1,fd1,m1,G1,b1⟩:=M1.ex
 obtain ⟨f2,fd2,m2,G2,b2⟩:=M2.ex
 obtain ⟨f3,fd3,m3,G3,b3⟩:=M3.ex
 obtain ⟨g1,gd1,GC,bC,kC,hC⟩:=L1.ex
 obtain ⟨fp,fdp,MP,GP,bP⟩:=PM.ex
 refine F.okX sc_part (fun vs H Q E h=>?_) (fun cdv A outer s H vs Q E hr h=>?_)
 ·obtain ⟨r,a,l,p,rfl,_⟩:=h
  rfl
 ·obtain ⟨r,a,l,p,rfl,x,k⟩:=h
  have hr5:=hr.mono (j:=5) (by decide)
  have hr4:=hr.mono (j:=4) (by decide)
  have hr2:=hr.mono (j:=2) (by decide)
  refine ⟨_,pss_cons (ps_expr (pe_meth (pv 0) T.cl m1 G1 hr5 b1 .nil leaves_cx.pass (pa_cons pe_str pa_nil)))
   (pss_cons (ps_set (i:=1) sc_part.nd rfl (Or.inl rfl) (pe_meth (pv 0) T.cl m2 G2 hr4 b2 .nil leaves_cx.pass (pa_cons (pe_ci c1) pa_nil)))
   (pss_cons (ps_expr (pe_meth (pv 0) T.cl m1 G1 hr5 b1 .nil leaves_cx.pass (pa_cons pe_str pa_nil)))
   (pss_cons (ps_set (i:=2) sc_part.nd rfl (Or.inl rfl) (pe_meth (pv 0) T.cl m3 G3 hr4 b3 .nil leaves_cx.pass (pa_cons pe_int (pa_cons (pe_ci c2) pa_nil))))
   (pss_cons (ps_expr (pe_meth (pv 0) T.cl m1 G1 hr5 b1 .nil leaves_cx.pass (pa_cons pe_str pa_nil)))
   (pss_cons (ps_set (i:=3) sc_part.nd rfl (Or.inl rfl) (pe_meth (pv 0) T.cl m3 G3 hr4 b3 .nil leaves_cx.pass (pa_cons pe_int (pa_cons (pe_ci c3) pa_nil))))
   (pss_cons (ps_expr (pe_meth (pv 0) T.cl m1 G1 hr5 b1 .nil leaves_cx.pass (pa_cons pe_str pa_nil)))
   (pss_cons (ps_set (i:=4) sc_part.nd rfl (Or.inl rfl) (pe_meth (pv 0) T.cl m3 G3 hr4 b3 .nil leaves_cx.pass (pa_cons pe_int (pa_cons (pe_ci c4) pa_nil))))
   (pss_cons (ps_expr (pe_meth (pv 0) T.cl m1 G1 hr5 b1 .nil leaves_cx.pass (pa_cons pe_str pa_nil)))
   (pss_cons (ps_set (i:=5) sc_part.nd rfl (Or.inl rfl) (pe_meth (pv 0) T.cl m3 G3 hr4 b3 .nil leaves_cx.pass (pa_cons pe_int (pa_cons (pe_ci c5) pa_nil))))
   (pss_cons (ps_expr (pe_meth (pv 0) T.cl m1 G1 hr5 b1 .nil leaves_cx.pass (pa_cons pe_str pa_nil)))
   (pss_one (ps_ret (pe_make MP GP hr2 (by rfl) PM.mg bP .nil pass0 (pa_cons (pv 1) (pa_cons (pv 2) (pa_cons (pv 3) (pa_cons (pv 4) (pa_cons (pv 5)
    (pa_cons (pe_call GC hr (by rfl) hC kC bC .nil leaves_cx.pass (pa_cons (pv 0) (pa_cons (pv 2) (pa_cons (pv 3) (pa_cons (pv 4) pa_nil))))) pa_nil))))))))))))))))))),?_⟩
  unfold partRun at k
  refine seq_in (word_st rfl part_word (by decide) x (fun i e1 H' s1=>by rw [e1] at k;exact k H' s1) fun p1 e1 H1 x1 s1=>?_)
  rw [e1,bnd_ok] at k
  refine seq_in (name_st (L:=8) rfl x1 (by decide) (fun e2=>by rw [e2] at k;exact k _ s1) fun nm e2 H2 qn x2 s2 hn hn8=>?_)
  rw [e2,bnd_ok] at k
  have s2:=s1.trans s2
  refine seq_in (word_st rfl blank_word b32 x2 (fun i e3 H' s3=>by rw [e3] at k;exact k H' (s2.trans s3)) fun p3 e3 H3 x3 s3=>?_)
  rw [e3,bnd_ok] at k
  have hn3:=s3.tup x2.rd hn
  have s3:=s2.trans s3
  refine seq_in (num_st (lo:=1) (hiI:=16) (hi:=16) rfl rfl x3 (by decide) (by decide) (fun e4=>by rw [e4] at k;exact k _ s3) fun W e4 hW2 hW1 H4 x4 s4=>?_)
  rw [e4,bnd_ok] at k
  have hn4:=s4.tup x3.rd hn3
  have s4:=s3.trans s4
  refine seq_in (word_st rfl blank_word b32 x4 (fun i e5 H' s5=>by rw [e5] at k;exact k H' (s4.trans s5)) fun p5 e5 H5 x5 s5=>?_)
  rw [e5,bnd_ok] at k
  have hn5:=s5.tup x4.rd hn4
  have s5:=s4.trans s5
  refine seq_in (num_st (lo:=1) (hiI:=16) (hi:=16) rfl rfl x5 (by decide) (by decide) (fun e6=>by rw [e6] at k;exact k _ s5) fun D e6 hD2 hD1 H6 x6 s6=>?_)
  rw [e6,bnd_ok] at k
  have hn6:=s6.tup x5.rd hn5
  have s6:=s5.trans s6
  refine seq_in (word_st rfl blank_word b32 x6 (fun i e7 H' s7=>by rw [e7] at k;exact k H' (s6.trans s7)) fun p7 e7 H7 x7 s7=>?_)
  rw [e7,bnd_ok] at k
  have hn7:=s7.tup x6.rd hn6
  have s7:=s6.trans s7
  refine seq_in (num_st (lo:=1) (hiI:=18) (hi:=18) rfl rfl x7 (by decide) (by decide) (fun e8=>by rw [e8] at k;exact k _ s7) fun Hh e8 hH2 hH1 H8 x8 s8=>?_)
  rw [e8,bnd_ok] at k
  have hn8':=s8.tup x7.rd hn7
  have s8:=s7.trans s8
  refine seq_in (word_st rfl blank_word b32 x8 (fun i e9 H' s9=>by rw [e9] at k;exact k H' (s8.trans s9)) fun p9 e9 H9 x9 s9=>?_)
  rw [e9,bnd_ok] at k
  have hn9:=s9.tup x8.rd hn8'
  have s9:=s8.trans s9
  refine seq_in (num_st (lo:=1) (hiI:=9999) (hi:=9999) rfl rfl x9 (by decide) (by decide) (fun e10=>by rw [e10] at k;exact k _ s9) fun g e10 hg2 hg1 H10 x10 s10=>?_)
  rw [e10,bnd_ok] at k
  have hn10:=s10.tup x9.rd hn9
  have s10:=s9.trans s10
  refine seq_in (word_st rfl lf_word b10 x10 (fun i e11 H' s11=>by rw [e11] at k;exact k H' (s10.trans s11)) fun p11 e11 H11 x11 s11=>?_)
  rw [e11,bnd_ok] at k
  have hn11:=s11.tup x10.rd hn10
  have s11:=s10.trans s11
  obtain ⟨⟨dx,h1⟩,_,_⟩:=id x11
  have hD0:=hD1 (by decide)
  refine ⟨_,rfl,_,rfl,_,rfl,_,rfl,_,rfl,_,rfl,_,rfl,_,rfl,_,rfl,r,a,l,p11,W.1,D.1,Hh.1,rfl,x11,hW2,hD2,hH2,hD0,?_⟩
  cases e12:rowsRun l W.1 (D.1 * Hh.1) p11 with
  |error i=>
   intro H' s'
   rw [e12] at k
   exact k H' (s11.trans s')
  |ok q=>
   intro H12 c hr12 le12 s12 hc hcc hrw
   rw [e12,bnd_ok] at k
   have hn12:=s12 _ _ hn11 (by rintro rfl;rw [h1] at hn11;cases hn11)
   have s12':=s11.trans s12
   intro b db hb hdb hne
   obtain ⟨dx12,g12⟩:=id hr12
   refine ⟨b,db,qn,c,W.1,D.1,Hh.1,g.1,rfl,upd_same,fun H13 hpt s13=>⟨rfl,?_⟩⟩
   have up:∀ y o,H12 y=some o→upd (upd H12 db (.own b)) b (.ins CP db []) y=some o:=fun y o e=>by rw [upd_ne (ne_of_none e hb),upd_ne (ne_of_none e hdb)];exact e
   have up2:∀ y o,H12 y=some o→H13 y=some o:=fun y o e=>s13 y o (up y o e) (ne_of_none e hb)
   have sH:SX r H H13:=fun y o e hy=>up2 y o (s12' y o e hy)
   have hb0:H b=none:=by
    cases z:H b with
    |none=>rfl
    |some o=>
     have:=s12' b o z (by rintro rfl;rw [g12] at hb;cases hb)
     rw [hb] at this;cases this
   refine k H13 b (x.same sH ⟨dx12,up2 _ _ g12⟩ le12) sH hb0 ⟨db,qn,c,hpt,up2 _ _ hn12,up2 _ _ hcc⟩ ⟨hW1 (by decide),hW2,hD0,hD2,hH1 (by decide),hH2,hg2,hrw,rows_len e12,hn8⟩
end
end Br1
set_option Elab.async false
set_option linter.all false
set_option maxRecDepth 100000
set_option maxHeartbeats 4000000
namespace Br1
open PySem PySem.Spec PyProof.Rows L2
def partsRun (l:List Int):Nat→Nat→Except Nat (List PartR×Nat)
 |0,p=>.ok ([],p)
 |n+1,p=>if p=l.length then .ok ([],p) else bnd (partRun l p) fun q=>consR q.1 (partsRun l n q.2)
def catRun (l:List Int):Except Nat (List PartR):=bnd (partRun l 0) fun q=>bnd (partsRun l 63 q.2) fun r=>if r.2=l.length then .ok (q.1::r.1) else .error r.2
theorem PartAt.keep {CP:Addr} {H H':Hp} {b:Addr} {pr:PartR} (h:PartAt CP H b pr) (k:∀ y o,H y=some o→(y=b∨(∃ xs,o=.tup xs)∨∃ kvs,o=.dT kvs)→H' y=some o):PartAt CP H' b pr:=by
 obtain ⟨dx,nm,c,h1,h2,h3⟩:=h
 exact ⟨dx,nm,c,k _ _ h1 (.inl rfl),k _ _ h2 (.inr (.inl ⟨_,rfl⟩)),k _ _ h3 (.inr (.inr ⟨_,rfl⟩))⟩
theorem PartAt.same {CP:Addr} {H H':Hp} {b:Addr} {pr:PartR} (h:PartAt CP H b pr) (s:Same H H'):PartAt CP H' b pr:=h.keep fun y o e _=>s y o e
theorem PartAt.sx {CP CR r a:Addr} {p:Nat} {H H':Hp} {b:Addr} {pr:PartR} (h:PartAt CP H b pr) (hb:b≠r) (hr:RdAt CR H r a p) (s:SX r H H'):PartAt CP H' b pr:=by
 obtain ⟨dx,g⟩:=hr
 refine h.keep fun y o e z=>s y o e ?_
 rintro rfl
 rw [g] at e
 cases e
 rcases z with z|⟨_,z⟩|⟨_,z⟩
 ·exact hb z.symm
 ·cases z
 ·cases z
theorem PartAt.list {CP q:Addr} {H:Hp} {b:Addr} {pr:PartR} {xs ys:List V} (h:PartAt CP H b pr) (hq:H q=some (.lst xs)):PartAt CP (upd H q (.lst ys)) b pr:=by
 have hb:b≠q:=by
  obtain ⟨dx,nm,c,h1,_⟩:=h
  rintro rfl
  rw [h1] at hq
  cases hq
 refine h.keep fun y o e z=>?_
 rw [upd_ne ?_]
 ·exact e
 ·rintro rfl
  rw [hq] at e
  cases e
  rcases z with z|⟨_,z⟩|⟨_,z⟩
  ·exact hb z.symm
  ·cases z
  ·cases z
def PartsAt (CP:Addr) (H:Hp) (bs:List Addr) (prs:List PartR):Prop:=Paired (fun b pr=>PartAt CP H b pr∧PartOk pr) bs prs
section
variable {P:Program} {w:World} {K:PySem.W.Frag} {mg:Str→Option Value} {base:Heap} {C CR CP:Addr}
def spCat (K:PySem.W.Frag) (CP:Addr):Sp:=fun vs H Q E=>∃ (a:Addr) (l:List Int),vs=[.ref a]∧SqL K H a (l.map V.int)∧
 match catRun l with
 |.ok prs=>∀ (H':Hp) (q:Addr) (bs:List Addr),Same H H'→H' q=some (.lst (bs.map V.ref))→PartsAt CP H' bs prs→prs.length≤64→1≤prs.length→Q (.ref q) H'
 |.error i=>∀ H':Hp,Same H H'→E (.int i 0) none H'
theorem sc_cat:FnScope ["c","reader","parts"] ["c"] (defScope sReadCat):=⟨rfl,rfl,rfl,by decide+kernel,rfl,by decide+kernel,by decide+kernel⟩
structure RdK (P:Program) (w:World) (K:PySem.W.Frag) (mg:Str→Option Value) (base:Heap) (CR:Addr):Prop where
 ex:∃ f fd,Mk K CR f∧FnOk P w K mg base CX0 1 f fd ["self","text"] (spRI CR)∧Binds K fd ["self","text"] []
 mg:mg "Reader"=some (.ref CR)
def CatW (CR CP:Addr) (H:Hp) (r a q:Addr) (l:List Int) (p0 m:Nat) (pr0:PartR) (σ:List (Option V)) (H':Hp):Prop:=
 ∃ (ps:List PartR) (bs:List Addr) (p':Nat),σ=[some (.ref a),some (.ref r),some (.ref q)]∧ps.length+m=63∧p'≤l.length∧Same H H'∧RdAt CR H' r a p'∧H' q=some (.lst (bs.map V.ref))∧
  Paired (fun b pr=>b≠r∧PartAt CP H' b pr∧PartOk pr) bs (pr0::ps)∧partsRun l 63 p0=ahead ps (partsRun l m p')
theorem ok_cat {f:Addr} {fd:FuncData} (F:Fun K "read_catalogue" "read_catalogue" sReadCat f fd) (T:RdT K CR) (RK:RdK P w K mg base CR) (hlen:mg "len"=none) (c1:CI mg "MOST_PARTS" 64) (M1:RdM P w K mg base CR "ended" CX0 1 ["self"] (spEnded K CR))
  (M2:RdM P w K mg base CR "read_end" (CXF C P w) 3 ["self"] (spEnd K CR)) (L1:Fn0 P w K mg base "read_part" (CXF C P w) 7 ["reader"] (spPart K CR CP)):FnOk P w K mg base (CXF C P w) 8 f fd ["c"] (spCat K CP):=by
 obtain ⟨f1,fd1,m1,G1,b1⟩:=M1.ex
 obtain ⟨f2,fd2,m2,G2,b2⟩:=M2.ex
 obtain ⟨g1,gd1,GP,bP,kP,hP⟩:=L1.ex
 obtain ⟨fr,fdr,MR,GR,bR⟩:=RK.ex
 refine F.okX sc_cat (fun vs H Q E h=>?_) (fun cdv A outer s H vs Q E hr h=>?_)
 ·obtain ⟨a,l,rfl,_⟩:=h
  rfl
 ·obtain ⟨a,l,rfl,tx,k⟩:=h
  have hr3:=hr.mono (j:=3) (by decide)
  have hr2:=hr.mono (j:=2) (by decide)
  have hr1:=hr.mono (j:=1) (by decide)
  refine ⟨_,pss_cons (ps_set (i:=1) sc_cat.nd rfl (Or.inl rfl) (pe_make MR GR hr2 (by rfl) RK.mg bR .nil pass0 (pa_cons (pv 0) pa_nil)))
   (pss_cons (ps_set (i:=2) sc_cat.nd rfl (Or.inl rfl) (pe_lst (pa_cons (pe_call GP hr (by rfl) hP kP bP .nil leaves_cx.pass (pa_cons (pv 1) pa_nil)) pa_nil)))
   (pss_cons (ps_while leaves_cx.own (pw_and (pt_cmp (pc_lt (pe_callB call_len_seq (by rfl) hlen PySem.boot_len (pa_cons (pv 2) pa_nil)) (pe_ci c1))) (pw_and1 (pt_not (pt_val (pe_meth0 (pv 1) T.cl m1 G1 hr1 b1 .nil pass0))))).pt
    (pss_one (ps_expr (pe_bm PySem.F.plainAttrs_list PySem.F.slot_list_append PySem.F.type_list_append mt_append (pv 2) (pa_cons (pe_call GP hr (by rfl) hP kP bP .nil leaves_cx.pass (pa_cons (pv 1) pa_nil)) pa_nil)))))
   (pss_cons (ps_expr (pe_meth0 (pv 1) T.cl m2 G2 hr3 b2 .nil leaves_cx.pass))
   (pss_one (ps_ret (pv 2)))))),?_⟩
  refine ⟨_,rfl,fun r dr nr ndr ndrr=>?_⟩
  refine ⟨r,dr,a,rfl,upd_same,fun H1 hr1 s1=>⟨rfl,?_⟩⟩
  have up:∀ y o,H y=some o→H1 y=some o:=fun y o e=>s1 y o (by rw [upd_ne (ne_of_none e nr),upd_ne (ne_of_none e ndr)];exact e) (ne_of_none e nr)
  have S1:Same H H1:=up
  have x1:Txa K CR H1 r a l 0:=⟨hr1,S1.seq tx,Nat.zero_le _⟩
  have sxs:∀ {H2:Hp},SX r H1 H2→Same H H2:=fun s2 y o e=>s2 y o (S1 y o e) (ne_of_none e nr)
  unfold catRun at k
  refine ⟨_,rfl,r,a,l,0,rfl,x1,?_⟩
  cases e1:partRun l 0 with
  |error i=>
   intro H' s'
   rw [e1] at k
   exact k H' (sxs s')
  |ok q0=>
   intro H2 b0 x2 s2 nb0 pa0 po0
   rw [e1,bnd_ok] at k
   refine ⟨by show 1≤sizeLine;decide,fun q hq=>?_⟩
   have hb0:b0≠r:=fun z=>by rw [z] at nb0;obtain ⟨dx,g⟩:=hr1;rw [nb0] at g;cases g
   have sq:Same H2 (upd H2 q (.lst [.ref b0])):=fun b o e=>by rw [upd_ne (ne_of_none e hq)];exact e
   have hqH:H q=none:=(sxs s2).free hq
   obtain ⟨dx2,g2⟩:=x2.rd
   refine ⟨fun m=>CatW CR CP H r a q l q0.2 m q0.1,⟨63,[],[b0],q0.2,rfl,rfl,x2.le,(sxs s2).trans sq,⟨dx2,sq _ _ g2⟩,upd_same,.cons ⟨hb0,pa0.same sq,po0⟩ .nil,by rw [ahead_nil]⟩,?_⟩
   rintro m σ H3 ⟨ps,bs,p',rfl,hm,lp,S3,hr3,hq3,pp,e3⟩
   have x3:Txa K CR H3 r a l p':=⟨hr3,S3.seq tx,lp⟩
   obtain ⟨dx3,g3⟩:=id hr3
   have hbl:bs.length=ps.length+1:=by
    have:=Paired.length pp
    rw [List.length_cons] at this
    exact this
   have nrq:r≠q:=fun z=>by rw [z,hq3] at g3;cases g3
   have fin:partsRun l m p'=.ok ([],p')→tSeq (tDrop (tMeth CR "read_end" (spEnd K CR) [] E (tVar 1) tNil)) (tRet (tVar 2)) {nx:=fun _ H'=>Q .non H',rt:=Q} [some (.ref a),some (.ref r),some (.ref q)] H3:=by
    intro e4
    have e5:partsRun l 63 q0.2=.ok (ps,p'):=by
     rw [e3,e4]
     show Except.ok (ps++[],p')=_
     rw [List.append_nil]
    rw [e5,bnd_ok] at k
    refine ⟨_,rfl,r,dx3,_,rfl,g3,rfl,r,a,l,p',rfl,x3,fun he=>⟨_,rfl,?_⟩,fun he=>?_⟩
    ·have he:p'=l.length:=he
     rw [if_pos he] at k
     refine k H3 q bs S3 hq3 (Paired.mapP pp fun _ _ z=>z.2) ?_ ?_
     ·show (q0.1::ps).length≤64
      rw [List.length_cons]
      (clear he hbl lp;omega)
     ·show 1≤(q0.1::ps).length
      rw [List.length_cons]
      (clear he hbl lp hm;omega)
    ·have he:¬p'=l.length:=he
     rw [if_neg he] at k
     exact k H3 S3
   refine ⟨_,rfl,q,_,rfl,.inl (SqL.of hq3),_,_,rfl,rfl,_,rfl,ite2 (fun hlt=>?_) (fun hlt=>iteF (fin ?_))⟩
   ·have hlt:((bs.map V.ref).length:Int)<64:=of_decide_eq_true hlt
    rw [List.length_map] at hlt
    obtain ⟨n,rfl⟩:∃ n,m=n+1:=⟨m - 1,by (clear lp;omega)⟩
    refine ⟨_,rfl,r,dx3,_,rfl,g3,rfl,r,a,l,p',rfl,x3,_,rfl,ite2 (fun hne=>?_) (fun hne=>fin ?_)⟩
    ·rw [Bool.not_eq_true',decide_eq_false_iff_not] at hne
     refine ⟨CatW CR CP H r a q l q0.2 n q0.1,fun _ _ z=>⟨n,Nat.lt_succ_self n,z⟩,?_⟩
     refine ⟨_,rfl,.inl ⟨rfl,_,SqL.of hq3⟩,_,rfl,r,a,l,p',rfl,x3,?_⟩
     have e4:partsRun l (n+1) p'=bnd (partRun l p') fun q=>consR q.1 (partsRun l n q.2):=if_neg hne
     cases e5:partRun l p' with
     |error i=>
      intro H' s'
      have e6:partsRun l 63 q0.2=.error i:=by
       rw [e3,e4,e5]
       rfl
      rw [e6] at k
      exact k H' fun y o e=>s' y o (S3 y o e) (ne_of_none e nr)
     |ok q1=>
      intro H4 b4 x4 s4 nb4 pa4 po4
      have hq4:H4 q=some (.lst (bs.map V.ref)):=s4 _ _ hq3 (Ne.symm nrq)
      refine ⟨q,_,_,rfl,rfl,hq4,?_,?_⟩
      ·rw [List.length_map]
       have:=sizeLine_big
       (clear hne hm hbl lp;omega)
      ·have hb4:b4≠r:=fun z=>by rw [z,g3] at nb4;cases nb4
       obtain ⟨dx4,g4⟩:=x4.rd
       refine ⟨ps++[q1.1],bs++[b4],q1.2,rfl,by simp;(clear hne hlt hbl lp;omega),x4.le,fun y o e=>?_,⟨dx4,by rw [upd_ne nrq];exact g4⟩,by rw [upd_same,List.map_append];rfl,?_,?_⟩
       ·have e7:=S3 y o e
        have e8:=s4 y o e7 (ne_of_none e nr)
        rw [upd_ne (ne_of_none e hqH)]
        exact e8
       ·have pp2:Paired (fun b pr=>b≠r∧PartAt CP (upd H4 q (.lst (bs.map V.ref++[V.ref b4]))) b pr∧PartOk pr) bs (q0.1::ps):=Paired.mapP pp fun b pr z=>⟨z.1,(z.2.1.sx z.1 hr3 s4).list hq4,z.2.2⟩
        exact Paired.snoc pp2 ⟨hb4,pa4.list hq4,po4⟩
       ·rw [e3,e4,e5,bnd_ok,ahead_snoc]
    ·rw [Bool.not_eq_true',decide_eq_false_iff_not,Classical.not_not] at hne
     exact if_pos hne
   ·have hlt:¬((bs.map V.ref).length:Int)<64:=fun z=>hlt (decide_eq_true z)
    rw [List.length_map] at hlt
    rw [show m=0 by (clear lp;omega)]
    rfl
end
end Br1
set_option Elab.async false
set_option linter.all false
set_option maxRecDepth 100000
set_option maxHeartbeats 1000000
namespace L2
open PySem PySem.Spec PyProof.Rows
section
variable {prog:Program} {w:World} {A:Around} {E:Value→Shared→Prop} {s:Shared} {d:Addr} {o:Obj} {es:Array DictEntry} {ep:Nat}
theorem raw_items (hs:(d==sysModules)=false):MeetsIn prog w (Builtin.«dict.items» ⟨[.ref d],[]⟩) (fun _ R s=>s.TypeIs (.ref d) "dict"∧
  R (.ok (.ret (.ref s.heap.objs.size))) {s with heap:=s.heap.push {cls:=.type "dict_items",data:=.fields #[.ref d]}}):=
 .of_wp fun A R s ⟨hm,h⟩=>by
  unfold Builtin.«dict.items» Builtin.Dict.noArgs
  refine wpAny_bind (wpAny_bind (wpAny_notOrdered_dict hm ?_))
  show wpAny _ _ (pure d) _ _ s
  refine wpAny_pure ?_
  show wpAny _ _ (Builtin.Dict.showsAll d>>=_) _ _ s
  unfold Builtin.Dict.showsAll
  rw [if_neg (by rw [hs];exact Bool.false_ne_true)]
  exact wpAny_bind (wpAny_pure (wpAny_bind (wpAny_newObj_type (wpAny_pure ⟨_,rfl,h⟩))))
theorem raw_iter {v:Addr} {n:Nat} {Q:Value→Shared→Prop} (hv:s.heap.IsItemsView v d) (ho:s.heap.get? d=some o) (hdat:o.data=.dict es ep) (hn:es.size=n)
  (hQ:Q (.ref s.heap.objs.size) {s with heap:=s.heap.push {cls:=.type "dict_itemiterator",data:=.fields #[.none,.bool false,.ref d,.int 0 0,.int n 0,.int ep 0,.none,.none]}}):
  wpAny (model prog w) A (pyIter (.ref v)) Q E s:=by
 obtain ⟨ov,hov,hcv,hdv⟩:=id hv
 refine wpAny_pyIter_slot hv.typeIs F.slot_dict_items_iter (wpAny_call_entry F.slot_dict_items_iter hv.typeIs F.entry_dict_items_iter ?_ (F.args_dict_items_iter_1 _))
 unfold Builtin.«dict_items.__iter__»
 refine wpAny_bind (wpAny_pure (wpAny_bind ?_))
 unfold Builtin.Dict_items.dictOf
 refine wpAny_bind (wpAny_field hov hdv (x:=.ref d) rfl (wpAny_pure (wpAny_bind ?_)))
 unfold Builtin.Dict_items.newIterator
 refine wpAny_bind (wpAny_dictEntries ho hdat (wpAny_bind (wpAny_dictEpoch ho hdat ?_)))
 have hown:Builtin.Dict_items.ownsTuple "dict_itemiterator"=true:=by decide
 simp only [hown,if_true]
 refine wpAny_newObj_type (wpAny_pure ⟨_,rfl,"dict_itemiterator",_,⟨_,Heap.get?_push_size _ rfl,rfl⟩,F.slot_dict_itemiterator_next.lookup,?_⟩)
  (by simp only [sizeOk,Builtin.Dict_items.ownedTupleFields,List.size_toArray,List.length_append,List.length_cons,List.length_nil,sizeLine_eq];(clear hn;omega))
 simpa [rawInt,hn,Builtin.Dict_items.ownedTupleFields] using hQ
theorem raw_next {it:Addr} {i n:Nat} {en:DictEntry} {ok ov:Value} {Q:Option Value→Shared→Prop} (hit:IsItemIter s.heap it d i n ep ok ov) (hod:s.heap.get? d=some o) (hdd:o.data=.dict es ep) (hsz:es.size=n) (hen:es[i]?=some en)
  (hQ:∀ h',IsItemIterOut h' it d (i+1) n ep en.key en.val s.heap.objs.size→h'.get? s.heap.objs.size=some {cls:=.type "tuple",data:=.seq #[en.key,en.val]}→
   (∀ b ob,b≠it→s.heap.get? b=some ob→h'.get? b=some ob)→Q (some (.ref s.heap.objs.size)) {s with heap:=h'}):
  wpAny (model prog w) A (pyNext (.ref it)) Q E s:=by
 obtain ⟨hp,g,dr,tk,os⟩:=s
 have hT:Shared.TypeIs ⟨hp,g,dr,tk,os⟩ (.ref it) "dict_itemiterator":=⟨_,hit,rfl⟩
 obtain ⟨hlt,hev⟩:=Array.getElem?_eq_some_iff.mp hen
 unfold pyNext
 refine wpAny_bind (wpAny_attempt (wpAny_callSpecial?_slot (name:=Str.ofString "__next__") hT F.slot_dict_itemiterator_next
  (wpAny_call_entry F.slot_dict_itemiterator_next hT F.entry_dict_itemiterator_next ?_ (F.args_dict_itemiterator_next_1 _))))
 refine wpAny_bind (wpAny_pure (wpAny_bind (wpAny_bind ?_)))
 first|refine wpAny_bind (wpAny_typeNameOfWhole_itemiter hT (wpAny_pure ?_))|refine wpAny_bind (wpAny_typeNameOf_itemiter hT (wpAny_pure ?_))
 refine wpAny_bind (wpAny_fieldsOf hit rfl ?_)
 have hown:Builtin.Dict_items.ownsTuple "dict_itemiterator"=true:=by decide
 simp only [hown,if_true]
 show wpAny _ _ (if (Value.ref d==Value.none)=true then _ else _) _ _ _
 rw [if_neg (show ¬((Value.ref d==Value.none)=true) from Bool.false_ne_true)]
 refine wpAny_bind (wpAny_pure (wpAny_bind (wpAny_dictEntries hod hdd ?_)))
 rw [if_neg (by rw [hsz];simp)]
 refine wpAny_bind (wpAny_pure (wpAny_bind (wpAny_dictEpoch hod hdd ?_)))
 rw [if_neg (by simp)]
 refine wpAny_pure ?_
 simp only [show ¬((i:Int)<0) from by (clear hsz;omega),if_false,Int.toNat_natCast,hen]
 refine wpAny_bind ?_
 first|refine wpAny_bind (wpAny_typeNameOfWhole_itemiter hT (wpAny_pure ?_))|refine wpAny_bind (wpAny_typeNameOf_itemiter hT (wpAny_pure ?_))
 refine wpAny_bind (wpAny_isOneOf_itemiter hT ?_)
 show wpAny _ _ (setField (.ref it) 3 (rawInt ((i:Int)+1))>>=_) _ _ ⟨hp,g,dr,tk,os⟩
 refine wpAny_bind (wpAny_setField_rec hit (by simp) fun h1 he1 hs1=>?_)
 replace hs1:Heap.SameBut it hp h1:=hs1
 replace he1:IsItemIter h1 it d (i+1) n ep ok ov:=by
  have e:((i+1:Nat):Int)=(i:Int)+1:=by (clear hsz;omega)
  unfold IsItemIter;rw [e];simpa [rawInt] using he1
 have hT1:Shared.TypeIs ⟨h1,g,dr,tk,os⟩ (.ref it) "dict_itemiterator":=⟨_,he1,rfl⟩
 refine wpAny_bind (wpAny_holding (wpAny_bind (wpAny_isOneOf_itemiter hT1 (wpAny_bind (wpAny_isOneOf_itemiter hT1 ?_)))))
 show wpAny _ _ (Builtin.Dict_items.pairFromOwner (.ref it) 6 en.key en.val) _ _ ⟨h1,g,dr,tk,os⟩
 unfold Builtin.Dict_items.pairFromOwner
 refine wpAny_bind (wpAny_newTuple ?_)
 have he2:IsItemIter (h1.push {cls:=.type "tuple",data:=.seq #[en.key,en.val]}) it d (i+1) n ep ok ov:=Heap.get?_push_of_some _ he1
 generalize hh2:h1.push {cls:=.type "tuple",data:=.seq #[en.key,en.val]}=h2 at he2
 have hz1:h1.objs.size=hp.objs.size:=hs1.1
 have hil:it<hp.objs.size:=Heap.lt_size hit
 have ht2:h2.get? hp.objs.size=some {cls:=.type "tuple",data:=.seq #[en.key,en.val]}:=by rw [←hh2,←hz1];exact Heap.get?_push_size _ rfl
 have hk2:∀ b ob,b≠it→hp.get? b=some ob→h2.get? b=some ob:=fun b ob hb e=>by rw [←hh2];exact Heap.get?_push_of_some _ (hs1.extBut b ob hb e)
 show wpAny _ _ (Builtin.Dict_items.ownedTupleIsFree (.ref it)>>=_) _ _ ⟨h2,g,dr,tk,os⟩
 rw [hz1]
 clear hh2 he1 hs1 hT1 hz1 h1
 refine wpAny_bind ?_
 unfold Builtin.Dict_items.ownedTupleIsFree
 refine wpAny_bind (wpAny_field he2 rfl (x:=.none) rfl (wpAny_pure ?_))
 simp only [if_true]
 refine wpAny_bind (wpAny_field he2 rfl (x:=ok) rfl (wpAny_bind (wpAny_field he2 rfl (x:=ov) rfl ?_)))
 refine wpAny_bind (wpAny_setField_rec he2 (by simp) fun h3 he3 hs3=>?_)
 replace hs3:Heap.SameBut it h2 h3:=hs3
 replace he3:IsItemIter h3 it d (i+1) n ep en.key ov:=he3
 refine wpAny_bind (wpAny_setField_rec he3 (by simp) fun h4 he4 hs4=>?_)
 replace hs4:Heap.SameBut it h3 h4:=hs4
 replace he4:IsItemIter h4 it d (i+1) n ep en.key en.val:=he4
 refine wpAny_bind (wpAny_setField_rec he4 (by simp) fun h5 he5 hs5=>?_)
 replace hs5:Heap.SameBut it h4 h5:=hs5
 replace he5:IsItemIterOut h5 it d (i+1) n ep en.key en.val hp.objs.size:=he5
 refine wpAny_bind (wpAny_setField_rec he5 (by simp) fun h6 he6 hs6=>?_)
 replace hs6:Heap.SameBut it h5 h6:=hs6
 replace he6:IsItemIterOut h6 it d (i+1) n ep en.key en.val hp.objs.size:=he6
 have keep:∀ b ob,b≠it→h2.get? b=some ob→h6.get? b=some ob:=fun b ob hb e=>hs6.extBut b ob hb (hs5.extBut b ob hb (hs4.extBut b ob hb (hs3.extBut b ob hb e)))
 exact wpAny_bind (wpAny_letGo (wpAny_pure (wpAny_pure ⟨_,rfl,wpAny_pure (hQ h6 he6 (keep _ _ (Nat.ne_of_gt hil) ht2) fun b ob hb e=>keep b ob hb (hk2 b ob hb e))⟩)))
theorem raw_end {it:Addr} {i n:Nat} {ok ov:Value} {Q:Option Value→Shared→Prop} (hh:A.handled=none) (hit:IsItemIter s.heap it d i n ep ok ov) (hod:s.heap.get? d=some o) (hdd:o.data=.dict es ep) (hsz:es.size=n) (hge:n≤i)
  (hQ:∀ h',Heap.ExtBut it s.heap h'→Q none {s with heap:=h'}):wpAny (model prog w) A (pyNext (.ref it)) Q E s:=by
 have hT:s.TypeIs (.ref it) "dict_itemiterator":=⟨_,hit,rfl⟩
 unfold pyNext
 refine wpAny_bind (wpAny_attempt (wpAny_callSpecial?_slot (name:=Str.ofString "__next__") hT F.slot_dict_itemiterator_next
  (wpAny_call_entry F.slot_dict_itemiterator_next hT F.entry_dict_itemiterator_next ?_ (F.args_dict_itemiterator_next_1 _))))
 refine wpAny_bind (wpAny_pure (wpAny_bind (wpAny_bind ?_)))
 first|refine wpAny_bind (wpAny_typeNameOfWhole_itemiter hT (wpAny_pure ?_))|refine wpAny_bind (wpAny_typeNameOf_itemiter hT (wpAny_pure ?_))
 refine wpAny_bind (wpAny_fieldsOf hit rfl ?_)
 have hown:Builtin.Dict_items.ownsTuple "dict_itemiterator"=true:=by decide
 simp only [hown,if_true]
 show wpAny _ _ (if (Value.ref d==Value.none)=true then _ else _) _ _ s
 rw [if_neg (show ¬((Value.ref d==Value.none)=true) from Bool.false_ne_true)]
 refine wpAny_bind (wpAny_pure (wpAny_bind (wpAny_dictEntries hod hdd ?_)))
 rw [if_neg (by rw [hsz];simp)]
 refine wpAny_bind (wpAny_pure (wpAny_bind (wpAny_dictEpoch hod hdd ?_)))
 rw [if_neg (by simp)]
 refine wpAny_pure ?_
 have hno:es.size≤i:=by rw [hsz];exact hge
 simp only [show ¬((i:Int)<0) from by (clear hno hge hsz;omega),if_false,Int.toNat_natCast,Array.getElem?_eq_none hno]
 refine wpAny_bind ?_
 first|refine wpAny_bind (wpAny_typeNameOfWhole_itemiter hT (wpAny_pure ?_))|refine wpAny_bind (wpAny_typeNameOf_itemiter hT (wpAny_pure ?_))
 show wpAny _ _ (setField (.ref it) 2 .none>>=_) _ _ s
 refine wpAny_bind (wpAny_setField hit rfl (by simp) ?_)
 show wpAny _ _ (newExc (.type "StopIteration") []>>=_) _ _ _
 refine wpAny_bind ?_
 simp only [newExc,newTuple]
 refine wpAny_bind (wpAny_newObj_type ?_ (by size_fits))
 refine wpAny_bind (m:=firstArgMember _ _) (wpAny_of_eq (a:=Value.none) (by first|rfl|(simp only [firstArgMember];rfl)) ?_)
 refine wpAny_newObj_type ?_ (by size_fits)
 simp only [raiseNew]
 refine wpAny_bind (wpAny_handled ?_)
 rw [show A.in1.handled=none from hh]
 refine wpAny_bind (wpAny_pure (wpAny_throw ?_))
 refine wpAny_bind (wpAny_isInstance (T:="StopIteration") (b:=true) ⟨_,Heap.get?_push_size _ rfl,rfl⟩ isSubtype_stop ?_)
 exact wpAny_pure (hQ _ (((Heap.SameBut.update ..).extBut.push _).push _))
end
section
variable {X:Cx} {pins:List (Addr×Obj)} {σ:St} {H:Hp} {s:Shared} {d:Addr} {o:Obj}
theorem Inv.frzT2 {kvs:List (List Key×V)} (I:Inv X pins σ H s) (h:H d=some (.frz o (.dT kvs))):
  (d==sysModules)=false∧s.heap.get? d=some o∧o.ExactDict∧∃ (es:Array DictEntry) (ep:Nat),o.data=.dict es ep∧es.size=kvs.length∧
   ∀ (i:Nat) (k:List Key) (v:V),kvs[i]?=some (k,v)→∃ (en:DictEntry) (q:Addr),es[i]?=some en∧en.key=.ref q∧H q=some (.tup (k.map kV))∧RelV v en.val:=by
 obtain ⟨hd,z,hs,xs,pr,o',es,ep,ho,hx,hdt,he,_⟩:=I.hok d _ h
 rw [hd] at ho
 cases ho
 refine ⟨hs,hd,hx,es,ep,hdt,?_,fun i k v e=>?_⟩
 ·have l1:es.size=xs.length:=size_of_entries he
  have l2:kvs.length=xs.length:=Paired.length pr
  (clear z;omega)
 ·obtain ⟨b,hb,e1,e2,e3⟩:=paired_get pr e
  have q:=entry_at he i
  rw [hb] at q
  exact ⟨_,b.2.1,q,rfl,e2,e3⟩
end
def ItT (d:Addr) (o:Obj) (kvs:List (List Key×V)):It:=
 ⟨fun i H=>H d=some (.frz o (.dT kvs))∧i<kvs.length,fun i H x H'=>∃ T k v q,kvs[i]?=some (k,v)∧x=.ref T∧H T=none∧H q=some (.tup (k.map kV))∧H'=upd H T (.tup [.ref q,v]),fun i H=>H d=some (.frz o (.dT kvs))∧kvs.length≤i⟩
theorem turn_itemsT {P:Program} {w:World} {K:PySem.W.Frag} {d:Addr} {o:Obj} {es:Array DictEntry} {ep:Nat} {kvs:List (List Key×V)} {elts:List Expr} {kk:Nat} {tpos:Pos} (it:Addr) (hod:o.data=.dict es ep):
  Turn P w K (.Tuple elts kk tpos) (ItT d o kvs) [it] it (fun i h=>∃ ok ov,IsItemIter h it d i kvs.length ep ok ov) where
 mem:=by simp
 obj:=fun i h st b hb=>by
  have e:b=it:=by simpa using hb
  subst e
  obtain ⟨ok,ov,e⟩:=st
  exact ⟨_,e,fun v z=>nomatch z⟩
 keep:=fun i h h' st k=>let ⟨ok,ov,e⟩:=st;⟨ok,ov,k it (by simp) _ e⟩
 item:=by
  intro X hP hw hK hc i pins s σ H E I hf st hg
  subst hP hw hK
  obtain ⟨hd,hi⟩:=hg
  obtain ⟨hs,hgd,hx,es',ep',hdt,hsz,ent⟩:=I.frzT2 hd
  obtain ⟨rfl,rfl⟩:=dict_ep hod hdt
  obtain ⟨⟨k,v⟩,hkv⟩:∃ p,kvs[i]?=some p:=⟨kvs[i],List.getElem?_eq_getElem hi⟩
  obtain ⟨en,q,hen,hkey,hq,ru⟩:=ent i k v hkv
  obtain ⟨ok,ov,he⟩:=st
  have hlt:it<s.heap.objs.size:=Heap.lt_size he
  refine raw_next he hgd hdt hsz hen fun h' ho hT hk=>?_
  refine ⟨_,rfl,wpAny_letOwnedTupleGo_items (s:={s with heap:=h'}) ho fun h'' he' sb=>?_⟩
  have hT2:h''.get? s.heap.objs.size=some {cls:=.type "tuple",data:=.seq #[en.key,en.val]}:=(sb.2 _ (Nat.ne_of_gt hlt)).trans hT
  have new:ObjOk X.prog X.w (upd H s.heap.objs.size (.tup [.ref q,v])) h'' s.heap.objs.size (.tup [.ref q,v]):=
   ⟨by show 2≤sizeLine;decide,[en.key,en.val],.cons hkey (.cons ru .nil),⟨_,hT2,rfl,_,rfl⟩⟩
  have I1:Inv X pins σ (upd H s.heap.objs.size (.tup [.ref q,v])) {s with heap:=h''}:=
   I.turnedNew (t':=s.toks) (ch:=[it]) (fun b ob hb e=>(sb.2 b (by simpa using hb)).trans (hk b ob (by simpa using hb) e)) hf (Nat.le_refl _) new
  refine ⟨.ref s.heap.objs.size,_,I1,rfl,⟨_,k,v,q,hkv,rfl,I.hok.fresh (Nat.le_refl _),hq,rfl⟩,⟨en.key,en.val,he'⟩,fun b hb=>?_⟩
  have e:b=it:=by simpa using hb
  rw [e,upd_ne (Nat.ne_of_lt hlt)]
  exact (hf it (by simp)).1
 done:=by
  intro X hP hw hK hc i pins s σ H E I hf st hg
  subst hP hw hK
  obtain ⟨hd,hi⟩:=hg
  obtain ⟨f0,f1,f2,f3,f4,f5⟩:=hf it (by simp)
  obtain ⟨hs,hgd,hx,es',ep',hdt,hsz,ent⟩:=I.frzT2 hd
  obtain ⟨rfl,rfl⟩:=dict_ep hod hdt
  obtain ⟨ok,ov,he⟩:=st
  exact raw_end (I.ok.hd hc) he hgd hdt hsz hi fun h' eb=>⟨rfl,I.turned (t':=s.toks) (fun b ob hb e=>eb b ob hb e) f0 f1 f3 f4 f5⟩
 self:=fun A i s Q E st h=>let ⟨_,_,e⟩:=st;PySem.W.kcp_self e h
def iItemsT (td:TE):TI:=fun σ H R=>td σ H fun x H1=>∃ d o kvs,x=.ref d∧H1 d=some (.frz o (.dT kvs))∧R (ItT d o kvs) H1
theorem pi_itemsT {X:Cx} {e:Expr} {td:TE} {apos cpos:Pos} {elts:List Expr} {kk:Nat} {tpos:Pos} (he:PE X e td) (hbase:attributeBase e "items" X.env (eval e X.env)=eval e X.env:=by rfl) (hline:(apos.endLine==cpos.line)=true:=by rfl):
  PI X (.Tuple elts kk tpos) (.Call (.Attribute e "items" apos) [] [] cpos) (iItemsT td):=by
 intro pins s σ H R I h
 refine wpAny_Call_method (T:="dict") (id:="dict.items") hbase rfl hline F.plainAttrs_dict F.slot_dict_items F.type_dict_items (thn (he pins s σ H _ I h) fun u s1 ⟨x,H1,I1,rx,d,o,kvs,ex,hd,q⟩=>?_)
 subst ex
 obtain rfl:u=Value.ref d:=rx
 obtain ⟨hs,hgd,hx,es,ep,hdt,hsz,ent⟩:=I1.frzT2 hd
 have hty:s1.TypeIs (.ref d) "dict":=⟨o,hgd,hx.1⟩
 refine ⟨hty,fun b q=>by cases q;exact ⟨o,hgd,hx.2.1⟩,?_⟩
 have I2:Inv X pins σ H1 {s1 with heap:=s1.heap.push {cls:=.type "dict_items",data:=.fields #[.ref d]}}:=I1.kept (t':=s1.toks) fun b ob q=>Heap.get?_push_of_some _ q
 have fin:wpAny (model X.prog X.w) X.A (pyIter (.ref s1.heap.objs.size)) (PIE X pins σ (.Tuple elts kk tpos) R) X.xe {s1 with heap:=s1.heap.push {cls:=.type "dict_items",data:=.fields #[.ref d]}}:=
  raw_iter (d:=d) (n:=kvs.length) ⟨_,Heap.get?_push_size _ rfl,rfl,rfl⟩ (Heap.get?_push_of_some _ hgd) hdt hsz (pi_one (tk:=s1.toks) I2 _ (turn_itemsT _ hdt) ⟨.none,.none,Heap.get?_push_size _ rfl⟩ q)
 show wpAny _ _ (callWith cpos (.builtin "dict.items") [.ref d] [] []) _ X.xe s1
 exact method_meetsIn F.slot_dict_items F.entry_dict_items rfl (PySem.evalArgs_none ⟨rfl,hty,F.args_dict_items_1 _,_,raw_items hs,hty,fin⟩)
end L2
set_option Elab.async false
set_option linter.all false
set_option maxRecDepth 100000
set_option maxHeartbeats 1000000
namespace L2
open PySem PySem.Spec PyProof.Rows
section
variable {prog:Program} {w:World} {A:Around} {E:Value→Shared→Prop} {s:Shared} {d:Addr} {o:Obj} {es:Array DictEntry} {ep:Nat}
theorem raw_meets_len (hd:(d==sysModules)=false):MeetsIn prog w (Builtin.«dict.__len__» ⟨[.ref d],[]⟩) (fun _ R s=>∃ o es ep,s.heap.get? d=some o∧o.data=.dict es ep∧R (.ok (.ret (.int es.size s.toks))) {s with toks:=s.toks+1}):=
 .of_wp fun A R s ⟨o,es,ep,ho,hdat,h⟩=>by
  show wpAny _ _ (dictSize d>>=_) _ _ s
  unfold dictSize
  refine wpAny_bind (wpAny_bind (wpAny_dictEntries ho hdat (wpAny_pure ?_)))
  show wpAny _ _ (Builtin.Dict.pendingCount d>>=_) _ _ s
  refine wpAny_bind (wpAny_pendingCount_other hd (wpAny_ret_mkInt ?_))
  rw [Nat.add_zero]
  exact h
theorem raw_len {Q:Value→Shared→Prop} (hd:(d==sysModules)=false) (ho:s.heap.get? d=some o) (hx:o.ExactDict) (hdat:o.data=.dict es ep) (hfit:(es.size:Int)<2 ^ 63)
  (h:Q (.int es.size (s.toks+1)) {s with toks:=s.toks+1+1}):wpAny (model prog w) A (call (.builtin "len") [.ref d]) Q E s:=by
 have hT:s.TypeIs (.ref d) "dict":=⟨o,ho,hx.1⟩
 refine Calls.call_function_entry kind_len plain_len entry_len (args_len1 _) ?_
 unfold Builtin.«len»
 refine wpAny_bind (m:=oneArg "len" _) (wpAny_pure ?_)
 refine wpAny_bind (m:=callSpecial? (.ref d) (Str.ofString "__len__")) (wpAny_callSpecial?_slot (name:=Str.ofString "__len__") hT F.slot_dict_len
  (call_meetsIn F.slot_dict_len hT F.entry_dict_len (F.args_dict_len_1 _) (raw_meets_len hd) ⟨o,es,ep,ho,hdat,?_⟩))
 show wpAny _ _ _ _ _ {s with toks:=s.toks+1}
 refine wpAny_bind (wpAny_holding (wpAny_pure (wpAny_bind (wpAny_letGo ?_))))
 show wpAny _ _ (if ((es.size:Nat):Int)<0 then _ else _) _ _ _
 rw [if_neg (by (clear hfit;omega))]
 show wpAny _ _ (if ((es.size:Nat):Int)≥2 ^ 63 then _ else _) _ _ _
 rw [if_neg (by omega)]
 exact wpAny_bind (wpAny_mkInt (wpAny_pure ⟨_,rfl,h⟩))
theorem raw_walk (hh:A.handled=none) (I:Addr) (hne:d≠I) (hdat:o.data=.dict es ep):Walks prog w A I [I,d] [I] es.size (fun i v=>∃ en,es[i]?=some en∧v=en.key) (fun i h=>h.IsKeyIter I d i es.size ep∧h.get? d=some o) where
 sub:=fun b hb=>by simp at hb;simp [hb]
 frame:=fun _ _ _ st hk=>⟨st.1.at fun o e=>hk I (by simp) o e,hk d (by simp) o st.2⟩
 item:=fun i s Q E hi st hQ=>by
  refine next_key_item (en:=es[i]) st.1 st.2 hdat rfl (by simp [hi]) fun h' hit' hs'=>?_
  exact hQ _ h' s.toks ⟨_,by simp [hi],rfl⟩ ⟨hit',hs'.extBut d o hne st.2⟩ fun b o hb e=>hs'.extBut b o (fun h=>hb (by simp [h])) e
 done:=fun s Q E st hQ=>next_key_end hh st.1 st.2 hdat rfl (Nat.le_refl _) fun h' he'=>hQ h' s.toks fun b o hb e=>he' b o (fun h=>hb (by simp [h])) e
 self:=fun _ _ _ _ st hQ=>wpAny_pyIter_keyiter st.1 hQ
theorem raw_src (lo:(d==sysModules)=false) (hx:o.ExactDict) (hdat:o.data=.dict es ep):PySem.W.KdlSrc prog w "dict" d d es.size (fun i v=>∃ en,es[i]?=some en∧v=en.key) (fun h=>h.get? d=some o) where
 type:=fun _ hm=>⟨o,hm,hx.1⟩
 there:=fun _ hm=>⟨Heap.lt_size hm,Heap.lt_size hm⟩
 keep:=fun _ _ hm hk=>hk d (.inl rfl) o hm
 notList:=by decide
 notTuple:=by decide
 hint:=fun _ _ _ _ hm hq=>PySem.W.kdl_hint_dict ⟨o,hm,hx.1⟩ hq
 iter:=fun _ _ hh hm=>⟨_,_,(fun _ _ hq=>iter_keys lo hm hx hdat hq),raw_walk hh _ (Nat.ne_of_lt (Heap.lt_size hm)) hdat,⟨⟨_,Heap.get?_push_size _ rfl,rfl,rfl⟩,Heap.get?_push_of_some _ hm⟩⟩
end
section
variable {X:Cx} {pins:List (Addr×Obj)} {σ:St} {H:Hp} {s:Shared} {d:Addr} {o:Obj}
theorem Inv.rawT {kvs:List (List Key×V)} (I:Inv X pins σ H s) (h:Rd H d (.dT kvs)):
  (d==sysModules)=false∧kvs.length≤sizeLine∧∃ (o:Obj) (es:Array DictEntry) (ep:Nat),s.heap.get? d=some o∧o.ExactDict∧o.data=.dict es ep∧es.size=kvs.length∧
   ∀ (i:Nat) (k:List Key) (v:V),kvs[i]?=some (k,v)→∃ (en:DictEntry) (q:Addr),es[i]?=some en∧en.key=.ref q∧H q=some (.tup (k.map kV)):=by
 obtain ⟨z,hs,xs,pr,o,es,ep,ho,hx,hdt,he,_⟩:=rd_of I.hok h
 refine ⟨hs,z,o,es,ep,ho,hx,hdt,?_,fun i k v e=>?_⟩
 ·have l1:es.size=xs.length:=size_of_entries he
  have l2:kvs.length=xs.length:=Paired.length pr
  (clear z;omega)
 ·obtain ⟨b,hb,e1,e2,e3⟩:=paired_get pr e
  have q:=entry_at he i
  rw [hb] at q
  exact ⟨_,b.2.1,q,rfl,e2⟩
theorem call_lenT:CallR X (.builtin "len") (fun xs H Q=>∃ a kvs,xs=[V.ref a]∧Rd H a (.dT kvs)∧Q (.int kvs.length) H):=by
 intro pins s σ H xs us Q I r h
 obtain ⟨a,kvs,rfl,ha,q⟩:=h
 obtain ⟨u,rfl,ru⟩:=vals1 r
 cases ru
 obtain ⟨hs,z,o,es,ep,ho,hx,hdt,hsz,_⟩:=I.rawT ha
 refine raw_len hs ho hx hdt (by rw [hsz];rw [sizeLine_eq] at z;(clear hsz;omega)) ⟨.int es.size,H,I.tok _,⟨_,rfl⟩,?_⟩
 rw [hsz]
 exact q
theorem call_listT (hc:X.calm=true):CallR X (.type "list") (fun xs H Q=>∃ a kvs,xs=[V.ref a]∧Rd H a (.dT kvs)∧
  ∀ l ps,H l=none→Paired (fun (p:Addr) (kv:List Key×V)=>H p=some (.tup (kv.1.map kV))) ps kvs→Q (.ref l) (upd H l (.lst (ps.map V.ref)))):=by
 intro pins s σ H xs us Q I r h
 obtain ⟨a,kvs,rfl,ha,q⟩:=h
 obtain ⟨u,rfl,ru⟩:=vals1 r
 cases ru
 obtain ⟨hs,z,o,es,ep,ho,hx,hdt,hsz,ent⟩:=I.rawT ha
 refine PySem.W.kdl_call (raw_src hs hx hdt) (I.ok.hd hc) ho (by rw [hsz];exact z) fun h' tk acc' c' hk hl hacc=>?_
 obtain ⟨hn,hp⟩:=hacc
 have key:∀ (kvs:List (List Key×V)) (vs:List Value),vs.length=kvs.length→(∀ (i:Nat) (k:List Key) (v:V),kvs[i]?=some (k,v)→∃ q:Addr,vs[i]?=some (Value.ref q)∧H q=some (.tup (k.map kV)))→
   ∃ ps:List Addr,vs=ps.map Value.ref∧Paired (fun (p:Addr) (kv:List Key×V)=>H p=some (.tup (kv.1.map kV))) ps kvs:=by
  intro kvs
  induction kvs with
  |nil=>
   intro vs hl _
   cases vs with
   |nil=>exact ⟨[],rfl,.nil⟩
   |cons _ _=>cases hl
  |cons kv r ih=>
   intro vs hl hh
   cases vs with
   |nil=>cases hl
   |cons v vr=>
    obtain ⟨q,e1,e2⟩:=hh 0 kv.1 kv.2 rfl
    cases e1
    obtain ⟨ps,e3,e4⟩:=ih vr (by simpa using hl) fun i k v e=>hh (i+1) k v e
    exact ⟨q::ps,by rw [e3];rfl,.cons e2 e4⟩
 obtain ⟨ps,e1,e2⟩:=key kvs acc'.toList (by rw [Array.length_toList,hn,hsz]) fun i k v e=>by
  obtain ⟨en,q,g1,g2,g3⟩:=ent i k v e
  have hi:i<kvs.length:=(List.getElem?_eq_some_iff.mp e).1
  have hi2:i<acc'.size:=by rw [hn,hsz];exact hi
  obtain ⟨en',g4,g5⟩:=hp i acc'[i] (by simp [hi2])
  rw [g1] at g4
  cases g4
  refine ⟨q,?_,g3⟩
  rw [Array.getElem?_toList]
  simp [hi2,g5,g2]
 have fr:H s.heap.objs.size=none:=I.hok.fresh (Nat.le_refl _)
 have rv:Vals (ps.map V.ref) acc'.toList:=by
  rw [e1]
  clear e1 e2 hp hn hl
  induction ps with
  |nil=>exact .nil
  |cons p r ih=>exact .cons rfl ih
 refine ⟨.ref s.heap.objs.size,_,I.laid (o:=.lst (ps.map V.ref)) hk (Nat.le_refl _) ⟨?_,acc'.toList,c',rv,by simpa using hl⟩,rfl,q _ ps fr e2⟩
 rw [List.length_map,Paired.length e2]
 exact z
end
end L2
set_option Elab.async false
set_option linter.all false
set_option maxRecDepth 100000
set_option maxHeartbeats 1000000
namespace L2
open PySem PySem.Spec PyProof.Rows
open AutoSeq1 (wpAny_loadPart')
section
variable {prog:Program} {w:World} {A:Around} {E:Value→Shared→Prop} {s:Shared}
theorem meets_enum_tup (l:Addr) (items:Array Value) (n:Nat) (dct:Option Addr) (sl:Array (Option Value)):
  Meets (Builtin.«enumerate.__new__» ⟨[.type "enumerate",.ref l],[]⟩) (fun _ R s=>s.heap.get? l=some {cls:=.type "tuple",dict:=dct,data:=.seq items n,slots:=sl}∧
   R (.ok (.ret (.ref (s.heap.push {cls:=.type "tuple_iterator",data:=.fields #[.ref l,.int 0 0]}).objs.size)))
    {s with heap:=(s.heap.push {cls:=.type "tuple_iterator",data:=.fields #[.ref l,.int 0 0]}).push {cls:=.type "enumerate",data:=.fields #[.none,.bool false,.ref s.heap.objs.size,rawInt 0,.none,.none]}}):=
 .of_wp fun prog w A R s h=>by
  obtain ⟨hp,g,d,tk,os⟩:=s;obtain ⟨hl,h⟩:=h
  have hsub:=sub_enumerate
  have hL:Heap.IsTuple (Shared.heap ⟨hp,g,d,tk,os⟩) l items:=⟨_,hl,rfl,n,rfl⟩
  wp_walk using wpAny_loadPart' hl
  refine wpAny_stack_any fun st=>wpAny_pure ?_
  split
  ·rename_i c _ _ _ _ _
   cases (c==Value.type "enumerate")
   ·wp_walk using wpAny_loadPart' hl,wpAny_pyIter_tuple hL
    exact ⟨_,rfl,h⟩
   ·wp_walk using wpAny_loadPart' hl,wpAny_pyIter_tuple hL
    exact ⟨_,rfl,h⟩
  ·wp_walk using wpAny_loadPart' hl,wpAny_pyIter_tuple hL
   exact ⟨_,rfl,h⟩
theorem call_enum_tup {l:Addr} {items:Array Value} {Q:Value→Shared→Prop} (hL:IsTup s.heap l items)
  (h:∀ h',IsEnum h' (s.heap.objs.size+1) s.heap.objs.size 0 .none→h'.IsTupleIter s.heap.objs.size l 0→h'.objs.size=s.heap.objs.size+2→
   (∀ b o,s.heap.get? b=some o→h'.get? b=some o)→Q (.ref (s.heap.objs.size+1)) {s with heap:=h'}):
  wpAny (model prog w) A (call (.type "enumerate") [.ref l]) Q E s:=by
 obtain ⟨⟨c,dct,dt,sl⟩,hl,hc,n,hd⟩:=hL
 replace hc:c=.type "tuple":=hc
 replace hd:dt=.seq items n:=hd
 subst hc hd
 refine callType_new F.called_enumerate (by decide) (F.typeCall_enumerate_1 _) (F.newCall_enumerate_1 _) (fun obj=>F.args_object_init_2 obj _) F.entry_enumerate_new
  (meets_enum_tup l items n dct sl) ⟨hl,?_⟩
 have hz:(s.heap.push {cls:=.type "tuple_iterator",data:=.fields #[.ref l,.int 0 0]}).objs.size=s.heap.objs.size+1:=Heap.size_push ..
 show _∧_
 rw [hz]
 have he:IsEnum ((s.heap.push {cls:=.type "tuple_iterator",data:=.fields #[.ref l,.int 0 0]}).push
   {cls:=.type "enumerate",data:=.fields #[.none,.bool false,.ref s.heap.objs.size,rawInt 0,.none,.none]}) (s.heap.objs.size+1) s.heap.objs.size 0 .none:=by
  have:=Heap.get?_push_size (s.heap.push {cls:=.type "tuple_iterator",data:=.fields #[.ref l,.int 0 0]})
   (o:={cls:=.type "enumerate",data:=.fields #[.none,.bool false,.ref s.heap.objs.size,rawInt 0,.none,.none]}) rfl
  rw [hz] at this;exact this
 refine ⟨⟨_,he,rfl⟩,h _ he ⟨_,Heap.get?_push_of_some _ (Heap.get?_push_size _ rfl),rfl,rfl⟩ (by rw [Heap.size_push,hz]) fun b o x=>Heap.get?_push_of_some _ (Heap.get?_push_of_some _ x)⟩
theorem next_tup_item {it l:Addr} {i:Nat} {items} {x:Value} {Q:Value→Shared→Prop} (hit:s.heap.IsTupleIter it l i)
  (hl:IsTup s.heap l items) (hx:items[i]?=some x)
  (hQ:∀ h',h'.IsTupleIter it l (i+1)→Heap.SameBut it s.heap h'→Q x {s with heap:=h'}):
  wpAny (model prog w) A (Builtin.SmallTypes.nextOf (.ref it)) Q E s:=by
 obtain ⟨o,ho,hc,hd⟩:=id hit
 obtain ⟨ol,hol,_,nl,hdl⟩:=hl
 unfold Builtin.SmallTypes.nextOf
 refine wpAny_bind (wpAny_callSpecial?_slot (name:=Str.ofString "__next__") hit.typeIs F.slot_tuple_iterator_next
  (wpAny_call_entry F.slot_tuple_iterator_next hit.typeIs F.entry_tuple_iterator_next ?_ (F.args_tuple_iterator_next_1 _)))
 show wpAny _ _ (field (.ref it) 0>>=_) _ _ s
 refine wpAny_bind (wpAny_field ho hd (x:=.ref l) rfl ?_)
 show wpAny _ _ (if (Value.ref l==Value.none)=true then _ else _) _ _ s
 rw [if_neg (show ¬((Value.ref l==Value.none)=true) from Bool.false_ne_true)]
 show wpAny _ _ (field (.ref it) 1>>=_) _ _ s
 refine wpAny_bind (wpAny_field ho hd (x:=.int i 0) rfl ?_)
 show wpAny _ _ (seqItems? (.ref l)>>=_) _ _ s
 refine wpAny_bind (wpAny_seqItems hol hdl ?_)
 simp only [Int.toNat_natCast,hx]
 refine wpAny_bind (wpAny_setField ho hd (by simp) (wpAny_pure ⟨x,rfl,wpAny_pure (hQ _ ?_ (Heap.SameBut.update ..))⟩))
 exact ⟨_,Heap.get?_update_self _ ho (Obj.isFreed_of_fields (Obj.data_mapFields hd _)),(Obj.cls_mapFields ..).trans hc,by
  rw [Obj.data_mapFields hd];simp [rawInt]⟩
theorem next_tup_end {it l:Addr} {i:Nat} {items} {Q:Value→Shared→Prop} (hh:A.handled=none)
  (hit:s.heap.IsTupleIter it l i) (hl:IsTup s.heap l items) (hx:items[i]?=none)
  (hE:∀ h' e,Heap.ExtBut it s.heap h'→(∃ o,h'.get? e=some o∧o.cls=.type "StopIteration")→E (.ref e) {s with heap:=h'}):
  wpAny (model prog w) A (Builtin.SmallTypes.nextOf (.ref it)) Q E s:=by
 obtain ⟨o,ho,hc,hd⟩:=id hit
 obtain ⟨ol,hol,_,nl,hdl⟩:=hl
 unfold Builtin.SmallTypes.nextOf
 refine wpAny_bind (wpAny_callSpecial?_slot (name:=Str.ofString "__next__") hit.typeIs F.slot_tuple_iterator_next
  (wpAny_call_entry F.slot_tuple_iterator_next hit.typeIs F.entry_tuple_iterator_next ?_ (F.args_tuple_iterator_next_1 _)))
 show wpAny _ _ (field (.ref it) 0>>=_) _ _ s
 refine wpAny_bind (wpAny_field ho hd (x:=.ref l) rfl ?_)
 show wpAny _ _ (if (Value.ref l==Value.none)=true then _ else _) _ _ s
 rw [if_neg (show ¬((Value.ref l==Value.none)=true) from Bool.false_ne_true)]
 show wpAny _ _ (field (.ref it) 1>>=_) _ _ s
 refine wpAny_bind (wpAny_field ho hd (x:=.int i 0) rfl ?_)
 show wpAny _ _ (seqItems? (.ref l)>>=_) _ _ s
 refine wpAny_bind (wpAny_seqItems hol hdl ?_)
 simp only [Int.toNat_natCast,hx]
 refine wpAny_bind (wpAny_rule (wpAny_bind (wpAny_setField ho hd (by simp) ?_)))
 show wpAny _ _ (newExc (.type "StopIteration") []>>=_) _ _ _
 refine wpAny_bind ?_
 simp only [newExc,newTuple]
 refine wpAny_bind (wpAny_newObj_type ?_ (by size_fits))
 refine wpAny_bind (m:=firstArgMember _ _) (wpAny_of_eq (a:=Value.none) (by first|rfl|(simp only [firstArgMember];rfl)) ?_)
 refine wpAny_newObj_type ?_ (by size_fits)
 simp only [raiseNew]
 refine wpAny_bind (wpAny_handled ?_)
 first|rw [show A.in1.handled=none from hh]|rw [hh]
 refine wpAny_bind (wpAny_pure (wpAny_throw ?_))
 exact hE _ _ (((Heap.SameBut.update ..).extBut.push _).push _) ⟨_,Heap.get?_push_size _ rfl,rfl⟩
theorem draws_tup (hh:A.handled=none) (it l:Addr) (hne:l≠it) (items:Array Value):
  Draws prog w A it [it,l] items.size (fun i v=>items[i]?=some v) (fun i h=>h.IsTupleIter it l i∧IsTup h l items) where
 live:=fun _ _ st=>let ⟨o,ho,_⟩:=st.1;⟨o,ho⟩
 frame:=fun _ _ _ st hk=>⟨st.1.at fun o e=>hk it (by simp) o e,let ⟨o,ho,r⟩:=st.2;⟨o,hk l (by simp) o ho,r⟩⟩
 item:=fun i s Q E hi st hQ=>by
  refine next_tup_item st.1 st.2 (x:=items[i]) (by simp [hi]) fun h' hit' hs'=>?_
  exact hQ _ h' s.toks (by simp [hi]) ⟨hit',st.2.extBut hs'.extBut hne⟩ hs'
 done:=fun s Q E st hE=>next_tup_end hh st.1 st.2 (by simp) hE
end
def IteT (K:PySem.W.Frag) (a:Addr):It:=
 ⟨fun i H=>∃ (xs:List V) (x:V),SqT K H a xs∧xs[i]?=some x,fun i H v H'=>∃ T x,v=.ref T∧H T=none∧H'=upd H T (.tup [.int (i:Nat),x])∧∀ xs,SqT K H a xs→xs[i]?=some x,fun i H=>∃ xs:List V,SqT K H a xs∧xs.length=i⟩
theorem turn_enumT {P:Program} {w:World} {K:PySem.W.Frag} {elts:List Expr} {kk:Nat} {tpos:Pos} (a e it:Addr):
  Turn P w K (.Tuple elts kk tpos) (IteT K a) [e,it] e (fun i h=>(∃ old,IsEnum h e it ((i:Nat):Int) old)∧h.IsTupleIter it a i∧e≠it∧a≠e∧a≠it) where
 mem:=by simp
 obj:=fun i h st b hb=>by
  obtain ⟨⟨old,he⟩,⟨o,ho,hc,hd⟩,_⟩:=st
  have e':b=e∨b=it:=by simpa using hb
  rcases e' with z|z
  ·rw [z];exact ⟨_,he,fun v q=>nomatch q⟩
  ·rw [z];exact ⟨o,ho,fun v q=>by rw [hd] at q;cases q⟩
 keep:=fun i h h' st k=>let ⟨⟨old,he⟩,hi,hne⟩:=st;⟨⟨old,k e (by simp) _ he⟩,hi.at fun o q=>k it (by simp) o q,hne⟩
 item:=by
  intro X hP hw hK hc i pins s σ H E I hf st hg
  subst hP hw hK
  obtain ⟨⟨old,he⟩,hit,hne,hae,hai⟩:=st
  obtain ⟨xs,x,hq,hx⟩:=hg
  obtain ⟨its,rv,p,hz⟩:=I.tuple hq
  obtain ⟨u,hu,ru⟩:=rv.get hx
  have hel:e<s.heap.objs.size:=Heap.lt_size he
  have hil:it<s.heap.objs.size:=by obtain ⟨_,q,_⟩:=hit;exact Heap.lt_size q
  have hlt:i<its.toArray.size:=by
   have:=(List.getElem?_eq_some_iff.mp hu).1
   simpa using this
  refine wpAny_pyNext_enum_itemD (draws_tup (A:=X.A.in1) (I.ok.hd hc) it a hai its.toArray) he ⟨hit,p⟩ hlt hne (by simp [hne,Ne.symm hae]) fun x' h' tk hP ho hst hT hsz hk=>?_
  have hxu:x'=u:=by
   have h1:its.toArray[i]?=some u:=by simpa using hu
   rw [h1] at hP
   cases hP
   rfl
  subst hxu
  refine ⟨_,rfl,wpAny_letOwnedTupleGo_enum (s:={s with heap:=h',toks:=tk+1}) ho fun h'' he' sb=>?_⟩
  have hT2:h''.get? s.heap.objs.size=some {cls:=.type "tuple",data:=.seq #[.int i tk,x']}:=(sb.2 _ (Nat.ne_of_gt hel)).trans hT
  have new:ObjOk X.prog X.w (upd H s.heap.objs.size (.tup [.int (i:Nat),x])) h'' s.heap.objs.size (.tup [.int (i:Nat),x]):=
   ⟨by show 2≤sizeLine;decide,[.int i tk,x'],.cons ⟨_,rfl⟩ (.cons ru .nil),⟨_,hT2,rfl,_,rfl⟩⟩
  have I1:Inv X pins σ (upd H s.heap.objs.size (.tup [.int (i:Nat),x])) {s with heap:=h'',toks:=tk+1}:=
   I.turnedNew (ch:=[e,it]) (fun b ob hb q=>(sb.2 b (fun z=>hb (by simp [z]))).trans (hk b ob (fun z=>hb (by simp [z])) (fun z=>hb (by simp [z])) q)) hf (Nat.le_refl _) new
  refine ⟨.ref s.heap.objs.size,_,I1,rfl,⟨_,x,rfl,I.hok.fresh (Nat.le_refl _),rfl,fun ys hy=>by rw [I.tuple_inj hy hq];exact hx⟩,⟨⟨x',?_⟩,hst.1.at fun o q=>(sb.2 it (Ne.symm hne)).trans q,hne,hae,hai⟩,fun b hb=>?_⟩
  ·have e1:((i+1:Nat):Int)=(i:Int)+1:=by (clear hsz hst hlt hil hel hz;omega)
   rw [e1];exact he'
  ·have hb':b<s.heap.objs.size:=by
    have e':b=e∨b=it:=by simpa using hb
    rcases e' with z|z
    ·rw [z];exact hel
    ·rw [z];exact hil
   rw [upd_ne (Nat.ne_of_lt hb')]
   exact (hf b hb).1
 done:=by
  intro X hP hw hK hc i pins s σ H E I hf st hg
  subst hP hw hK
  obtain ⟨⟨old,he⟩,hit,hne,hae,hai⟩:=st
  obtain ⟨xs,hq,hx⟩:=hg
  obtain ⟨its,rv,p,hz⟩:=I.tuple hq
  obtain ⟨f0,f1,f2,f3,f4,f5⟩:=hf it (by simp)
  have hl:=rv.length
  have hn:its.toArray.size=i:=by simp;(clear f3 f2 hz;omega)
  exact wpAny_pyNext_enum_endD (draws_tup (A:=X.A.in1) (I.ok.hd hc) it a hai its.toArray) he (by rw [hn];exact ⟨hit,p⟩) fun h' eb=>⟨rfl,I.turned (t':=s.toks) (fun b o hb q=>eb b o hb q) f0 f1 f3 f4 f5⟩
 self:=fun A i s Q E st h=>let ⟨⟨_,he⟩,_⟩:=st;wpAny_pyIter_enum he h
def iEnumT (K:PySem.W.Frag) (ta:TA):TI:=fun σ H R=>ta σ H fun vs H1=>∃ a xs,vs=[.ref a]∧SqT K H1 a xs∧R (IteT K a) H1
theorem pi_enumT {X:Cx} {e:Expr} {ta:TA} {p pos tpos:Pos} {elts:List Expr} {kk:Nat} (hg:Gl X "enumerate") (hm:X.mg "enumerate"=none) (ha:PA X [e] ta) (hs:starEach [e] X.env=[(false,eval e X.env)]:=by rfl):
  PI X (.Tuple elts kk tpos) (.Call (.Name "enumerate" p) [e] [] pos) (iEnumT X.K ta):=by
 intro pins s σ H R I h
 refine Call_ (ld_blt I hg hm boot_enumerate (PyProof.Rows.callWith_type1 (thn (ha pos pins s σ H _ I h) fun us s1 ⟨vs,H1,I1,r1,q1⟩=>?_) hs rfl))
 obtain ⟨a,xs,ex,hq,q⟩:=q1
 subst ex
 cases r1 with
 |cons r rr=>
  cases rr
  cases r
  obtain ⟨its,rv,p',hz⟩:=I1.tuple hq
  have hal:a<s1.heap.objs.size:=p'.lt
  refine call_enum_tup p' fun h' he hit hsz hk=>wpAny_pyIter_enum he ?_
  have I2:Inv X pins σ H1 {s1 with heap:=h'}:=I1.kept (t':=s1.toks) hk
  refine ⟨s1.heap.objs.size+1,[s1.heap.objs.size+1,s1.heap.objs.size],_,_,H1,rfl,I2,turn_enumT a (s1.heap.objs.size+1) s1.heap.objs.size,⟨⟨.none,he⟩,hit,Nat.succ_ne_self _,Nat.ne_of_lt (Nat.lt_succ_of_lt hal),Nat.ne_of_lt hal⟩,fun b hb=>?_,q⟩
  have e':b=s1.heap.objs.size+1∨b=s1.heap.objs.size:=by simpa using hb
  have hle:s1.heap.objs.size≤b:=by
   rcases e' with z|z
   ·rw [z];exact Nat.le_add_right _ _
   ·rw [z];exact Nat.le_refl _
  exact I1.fpOk hle (I1.hok.fresh hle)
end L2
set_option Elab.async false
set_option linter.all false
set_option maxRecDepth 100000
set_option maxHeartbeats 1000000
namespace HT
open PySem PyProof.Rows
def lexLe:List Int→List Int→Bool
 |[],_=>true
 |_::_,[]=>false
 |x::xs,y::ys=>if x=y then lexLe xs ys else decide (x≤y)
theorem lexLe_cons (x y:Int) (xs ys:List Int):lexLe (x::xs) (y::ys)=if x=y then lexLe xs ys else decide (x≤y):=rfl
theorem lexLe_nil (ys:List Int):lexLe [] ys=true:=by cases ys<;>rfl
theorem lexLe_cons_nil (x:Int) (xs:List Int):lexLe (x::xs) []=false:=rfl
theorem rcLe_int (A:Around) (s:Shared) (a:Int) (t:Tok) (c:Int) (u:Tok) (prog:Program) (w:World) (E:Value→Shared→Prop) (Q:Value→Shared→Prop) (h:Q (.bool (decide (a≤c))) s):
  wpAny (model prog w) A (richCompare .LtE (.int a t) (.int c u)) Q E s:=
 (PyProof.Rows.le_int h:wpAny (model prog w) A (compareOp .LtE (.int a t) (.int c u)) Q E s)
section
open PySem.SeqAt
open PySem.AutoSeq1 (wpAny_loadPart')
open PySem.MeetsSeq PySem.MeetsSeq2 PySem.MeetsSeq3
theorem tuple_le_ints (l b:Addr) (items items2:Array Value) (n n2:Nat) (dd dd2:Option Addr) (sl sl2:Array (Option Value)) (ns ms:List Int) (hi:IntsAre items.toList ns) (hj:IntsAre items2.toList ms):
  Meets (Builtin.«tuple.__le__» ⟨[.ref l,.ref b],[]⟩)
   (fun _ R s=>s.heap.get? l=some {cls:=.type "tuple",dict:=dd,data:=.seq items n,slots:=sl}∧s.heap.get? b=some {cls:=.type "tuple",dict:=dd2,data:=.seq items2 n2,slots:=sl2}∧
    R (.ok (.ret (.bool (lexLe ns ms)))) s):=
 .of_wp fun prog w A R s h=>by
  obtain ⟨hp,g,d,tk,os⟩:=s;obtain ⟨hl,hb,h⟩:=h
  have f2:=AutoSeq1.sub_tuple_tuple
  have z1:items.size=ns.length:=by rw [←hi.length];simp
  have z2:items2.size=ms.length:=by rw [←hj.length];simp
  wp_walk using wpAny_loadPart' hl,wpAny_loadPart' hb,wpAny_forIn_list _ (fun rest b s'=>b.1=none∧s'=⟨hp,g,d,tk,os⟩∧∃ (vs ws:List Value) (ns' ms':List Int),rest=vs.zip ws∧
   IntsAre vs ns'∧IntsAre ws ms'∧ns'.length+items2.size=ms'.length+items.size∧R (.ok (.ret (.bool (lexLe ns' ms')))) ⟨hp,g,d,tk,os⟩) _
  case turn=>
   rintro ⟨y,x⟩ rest b s' ⟨hb',rfl,vs,ws,ns',ms',hz,hvi,hwi,hlen,hR⟩
   cases hvi with
   |nil=>rw [List.zip_nil_left] at hz;cases hz
   |cons a t hvi'=>
    cases hwi with
    |nil=>rw [List.zip_nil_right] at hz;cases hz
    |cons c u hwi'=>
     rw [List.zip_cons_cons] at hz
     injection hz with hyx hrest
     injection hyx with hy hx
     subst hy hx
     rw [lexLe_cons] at hR
     simp only [List.length_cons] at hlen
     obtain ⟨e,he,hiff⟩:=eqAt_int A.in1 ⟨hp,g,d,tk,os⟩ a t c u
     refine wpAny_bind (he prog w _ _ ?_)
     cases e with
     |true=>
      rw [if_pos (hiff.mp rfl)] at hR
      wp_walk
      exact ⟨rfl,rfl,_,_,_,_,hrest,hvi',hwi',by (clear hiff z2 z1;omega),hR⟩
     |false=>
      rw [if_neg (fun q=>absurd (hiff.mpr q) Bool.false_ne_true)] at hR
      have hri:=rcLe_int A.in1 ⟨hp,g,d,tk,os⟩ a t c u prog w
      wp_walk using hri
      exact ⟨_,rfl,by simpa using hR⟩
  case fin=>
   rintro ⟨b1,b2⟩ s' ⟨hb',rfl,vs,ws,ns',ms',hz,hvi,hwi,hlen,hR⟩
   simp only at hb'
   subst hb'
   have hv:lexLe ns' ms'=decide (items.size≤items2.size):=by
    cases hvi with
    |nil=>
     simp only [List.length_nil] at hlen
     rw [lexLe_nil]
     exact (decide_eq_true (by (clear z2 z1;omega))).symm
    |cons a t hv=>
     cases hwi with
     |nil=>
      simp only [List.length_nil,List.length_cons] at hlen
      rw [lexLe_cons_nil]
      exact (decide_eq_false (by (clear z2 z1;omega))).symm
     |cons c u hw=>
      rw [List.zip_cons_cons] at hz
      cases hz
   rw [hv] at hR
   wp_walk
   exact ⟨_,rfl,by simpa [Builtin.Tuple.tupleCompareSizes] using hR⟩
  case h=>
   exact ⟨rfl,rfl,items.toList,items2.toList,ns,ms,rfl,hi,hj,by omega,h⟩
end
section
variable {prog:Program} {w:World} {A:Around} {E:Value→Shared→Prop} {s:Shared}
theorem le_tupInts {l b:Addr} {items items2:Array Value} {ns ms:List Int} {Q:Value→Shared→Prop} (hl:IsTup s.heap l items) (hb:IsTup s.heap b items2) (hi:IntsAre items.toList ns) (hj:IntsAre items2.toList ms)
  (hu:A.units<cLine) (h:Q (.bool (lexLe ns ms)) s):wpAny (model prog w) A (compareOp .LtE (.ref l) (.ref b)) Q E s:=by
 obtain ⟨⟨cls,dd,data,sl⟩,ho,hc,n,hd⟩:=id hl
 obtain ⟨⟨cls2,dd2,data2,sl2⟩,ho2,hc2,n2,hd2⟩:=id hb
 simp only at hc hd hc2 hd2
 subst hc hd hc2 hd2
 exact richCompare_meets_room (op:=.LtE) ⟨_,ho,rfl⟩ ⟨_,ho2,rfl⟩ PySem.F.slot_tuple_le PySem.F.entry_tuple_le (PySem.F.args_tuple_le_2 _ _) (tuple_le_ints l b items items2 n n2 dd dd2 sl sl2 ns ms hi hj)
  ⟨ho,ho2,show Value.bool (lexLe ns ms)≠Value.notImplemented∧Q (.bool (lexLe ns ms)) s from ⟨(fun x=>nomatch x),h⟩⟩ hu
theorem cat_nil {t b:Addr} {ws:List Value} {Q:Value→Shared→Prop} (ht:IsTup s.heap t ([]:List Value).toArray) (hb:IsTup s.heap b ws.toArray) (h:Q (.ref b) s):wpAny (model prog w) A (binaryOp .Add (.ref t) (.ref b)) Q E s:=by
 obtain ⟨⟨cls,dd,data,sl⟩,ho,hc,n,hd⟩:=id ht
 obtain ⟨⟨cls2,dd2,data2,sl2⟩,ho2,hc2,n2,hd2⟩:=id hb
 simp only at hc hd hc2 hd2
 subst hc hd hc2 hd2
 exact concat_meets ⟨_,ho,rfl⟩ ⟨_,ho2,rfl⟩ noFill_tuple_add seq_tuple_add PySem.F.slot_tuple_add PySem.F.entry_tuple_add (PySem.F.args_tuple_add_2 _ _)
   (tuple_addW0 t b #[] ws.toArray n n2 dd dd2 sl sl2 rfl) ⟨ho,ho2,h⟩
theorem rcAt_tups {l b:Addr} {items items2:Array Value} {ns ms:List Int} (hl:IsTup s.heap l items) (hb:IsTup s.heap b items2) (hi:IntsAre items.toList ns) (hj:IntsAre items2.toList ms) (hu:A.units<cLine):
  SeqAt.RcAt A s (.ref l) (.ref b) (decide (ns=ms)):=by
 have z1:items.size=ns.length:=by rw [←hi.length];simp
 have z2:items2.size=ms.length:=by rw [←hj.length];simp
 have at':∀ {vs:List Value} {xs:List Int} (j:Nat),IntsAre vs xs→(h1:j<vs.length)→∃ t,vs[j]=.int (xs.getD j 0) t:=by
  intro vs
  induction vs with
  |nil=>intro xs j _ h1;exact absurd h1 (Nat.not_lt_zero _)
  |cons v r ih=>
   intro xs j h1 hl
   cases h1 with
   |cons a t h1=>
    cases j with
    |zero=>exact ⟨t,rfl⟩
    |succ j=>exact ih j h1 (by simpa using hl)
 have key:=SeqAt.RcAt.tuples (A:=A) (s:=s) (l:=l) (b:=b) (e:=fun j=>decide (ns.getD j 0=ms.getD j 0)) hl hb hu fun j h1 h2=>by
  obtain ⟨t,e1⟩:=at' j hi (by simpa using h1)
  obtain ⟨u,e2⟩:=at' j hj (by simpa using h2)
  rw [show items[j]=.int (ns.getD j 0) t by simpa using e1,show items2[j]=.int (ms.getD j 0) u by simpa using e2,←Bool.beq_eq_decide_eq]
  exact SeqAt.EqAt.int_int _ _ _ _
 have val:((List.range (min items.size items2.size)).all (fun j=>decide (ns.getD j 0=ms.getD j 0)) && items.size==items2.size)=decide (ns=ms):=by
  rw [z1,z2,Bool.eq_iff_iff,Bool.and_eq_true,List.all_eq_true,decide_eq_true_iff,beq_iff_eq]
  constructor
  ·rintro ⟨h1,h2⟩
   refine List.ext_getElem h2 fun j g1 g2=>?_
   have:=of_decide_eq_true (h1 j (by rw [List.mem_range];(clear g2 z2 z1 hu;omega)))
   rw [List.getD_eq_getElem?_getD,List.getD_eq_getElem?_getD,List.getElem?_eq_getElem g1,List.getElem?_eq_getElem g2] at this
   simpa using this
  ·rintro rfl
   exact ⟨fun j _=>decide_eq_true rfl,rfl⟩
 rw [val] at key
 exact key
theorem intsAre_inj:∀ {vs:List Value} {xs ys:List Int},IntsAre vs xs→IntsAre vs ys→xs=ys:=by
 intro vs
 induction vs with
 |nil=>intro xs ys h1 h2;cases h1;cases h2;rfl
 |cons v r ih=>
  intro xs ys h1 h2
  cases h1 with
  |cons a t h1=>
   cases h2 with
   |cons _ _ h2=>rw [ih h1 h2]
theorem eqAt_tups {l b:Addr} {items items2:Array Value} {ns ms:List Int} (hl:IsTup s.heap l items) (hb:IsTup s.heap b items2) (hi:IntsAre items.toList ns) (hj:IntsAre items2.toList ms) (hu:A.units<cLine):
  SeqAt.EqAt A s (.ref l) (.ref b) (decide (ns=ms)):=by
 by_cases hlb:l=b
 ·subst hlb
  obtain ⟨o,e1,_,n,e2⟩:=hl
  obtain ⟨o2,e3,_,n2,e4⟩:=hb
  rw [e1] at e3
  cases e3
  rw [e2] at e4
  cases e4
  rw [intsAre_inj hi hj,decide_eq_true rfl]
  exact SeqAt.EqAt.same _
 ·exact SeqAt.EqAt.of_refs hlb (rcAt_tups hl hb hi hj hu)
end
end HT
namespace L2
open PySem PySem.Spec PyProof.Rows
section
variable {X:Cx}
def rLeT (K:PySem.W.Frag):R2:=fun x y H Q=>∃ a b ns ms,x=.ref a∧y=.ref b∧SqT K H a (ns.map V.int)∧SqT K H b (ms.map V.int)∧Q (.bl (HT.lexLe ns ms)) H
theorem op_leT (hu:X.A.units<cLine):OpR X (compareOp .LtE) (rLeT X.K):=by
 intro pins s σ H x y v u Q I rx ry h
 obtain ⟨a,b,ns,ms,rfl,rfl,ha,hb,q⟩:=h
 cases rx
 cases ry
 obtain ⟨its,r1,p1,_⟩:=I.tuple ha
 obtain ⟨its2,r2,p2,_⟩:=I.tuple hb
 have i1:IntsAre its.toArray.toList ns:=intsAre_of r1
 have i2:IntsAre its2.toArray.toList ms:=intsAre_of r2
 exact HT.le_tupInts p1 p2 i1 i2 hu ⟨.bl (HT.lexLe ns ms),H,I,rfl,q⟩
def rCatU (K:PySem.W.Frag):R2:=fun x y H Q=>∃ a b xs ys,x=.ref a∧y=.ref b∧SqT K H a xs∧SqT K H b ys∧ys≠[]∧xs.length+ys.length≤sizeLine∧
 ∀ p H',(∀ c o,H c=some o→H' c=some o)→SqT K H' p (xs++ys)→Q (.ref p) H'
theorem op_catU:OpR X (binaryOp .Add) (rCatU X.K):=by
 intro pins s σ H x y v u Q I rx ry h
 obtain ⟨a,b,xs,ys,rfl,rfl,ha,hb,hy,hz,q⟩:=h
 by_cases hx:xs=[]
 ·subst hx
  cases rx
  cases ry
  obtain ⟨its,r1,p1,_⟩:=I.tuple ha
  obtain ⟨its2,r2,p2,_⟩:=I.tuple hb
  cases r1
  exact HT.cat_nil p1 p2 ⟨.ref b,H,I,rfl,q b H (fun _ _ e=>e) hb⟩
 ·refine op_catT pins s σ H _ _ v u Q I rx ry ⟨a,b,xs,ys,rfl,rfl,ha,hb,hx,hz,fun e=>absurd e hy,fun _ p hp=>?_⟩
  exact q p _ (fun c o e=>by rw [upd_ne (ne_of_none e hp)];exact e) (SqT.of upd_same)
def TsAt (K:PySem.W.Frag) (H:Hp) (xs:List V) (nss:List (List Int)):Prop:=Paired (fun x ns=>∃ p,x=V.ref p∧SqT K H p (ns.map V.int)) xs nss
open Classical in
noncomputable def eqT (s:Shared) (ns:List Int) (v:Value):Bool:=decide (∃ p its,v=.ref p∧IsTup s.heap p its∧IntsAre its.toList ns)
theorem eqT_of {s:Shared} {p:Addr} {its:Array Value} {ns ms:List Int} (h:IsTup s.heap p its) (hi:IntsAre its.toList ms):eqT s ns (.ref p)=decide (ms=ns):=by
 unfold eqT
 rw [decide_eq_decide]
 constructor
 ·rintro ⟨p',its',e,h',hi'⟩
  cases e
  obtain ⟨o,e1,_,n,e2⟩:=h
  obtain ⟨o2,e3,_,n2,e4⟩:=h'
  rw [e1] at e3
  cases e3
  rw [e2] at e4
  cases e4
  exact HT.intsAre_inj hi hi'
 ·rintro rfl
  exact ⟨p,its,rfl,h,hi⟩
theorem eqT_mem {pins:List (Addr×Obj)} {σ:St} {H:Hp} {s:Shared} {A:Around} {p:Addr} {its:Array Value} {ns:List Int} (I:Inv X pins σ H s) (hu:A.units<cLine) (hp:IsTup s.heap p its) (hi:IntsAre its.toList ns):
  ∀ {xs:List V} {us:List Value} {nss:List (List Int)},TsAt X.K H xs nss→Vals xs us→(∀ u∈us,SeqAt.EqAt A s u (.ref p) (eqT s ns u))∧us.map (eqT s ns)=nss.map fun ms=>decide (ms=ns)
 |[],_,_,t,v=>by
  cases t
  cases v
  exact ⟨(fun u h=>by cases h),rfl⟩
 |x::xs,_,_,t,v=>by
  cases t with
  |cons t1 t2=>
   cases v with
   |cons v1 v2=>
    obtain ⟨q,rfl,hq⟩:=t1
    cases v1
    obtain ⟨itq,rq,pq,_⟩:=I.tuple hq
    have iq:=intsAre_of rq
    have e:=eqT_of (ns:=ns) (its:=itq.toArray) pq (by simpa using iq)
    obtain ⟨g1,g2⟩:=eqT_mem I hu hp hi t2 v2
    refine ⟨fun u h=>?_,?_⟩
    ·rcases List.mem_cons.mp h with rfl|h
     ·rw [e]
      exact HT.eqAt_tups pq hp (by simpa using iq) hi hu
     ·exact g1 u h
    ·rw [List.map_cons,List.map_cons,e,g2]
def rInT (K:PySem.W.Frag) (neg:Bool):R2:=fun x y H Q=>∃ p a ns xs nss,x=.ref p∧y=.ref a∧SqT K H p (ns.map V.int)∧SqL K H a xs∧TsAt K H xs nss∧Q (.bl (if neg then !decide (ns∈nss) else decide (ns∈nss))) H
theorem any_eqT {s:Shared} {ns:List Int} {us:List Value} {nss:List (List Int)} (h:us.map (eqT s ns)=nss.map fun ms=>decide (ms=ns)):us.toArray.any (eqT s ns)=decide (ns∈nss):=by
 have h1:us.any (eqT s ns)=(us.map (eqT s ns)).any id:=by rw [List.any_map];rfl
 have h2:us.toArray.any (eqT s ns)=us.any (eqT s ns):=by simp
 rw [h2,h1,h,List.any_map,Bool.eq_iff_iff,List.any_eq_true,decide_eq_true_iff]
 constructor
 ·rintro ⟨m,hm,e⟩
  have e:decide (m=ns)=true:=e
  rw [←of_decide_eq_true e]
  exact hm
 ·intro hm
  exact ⟨ns,hm,show decide (ns=ns)=true from decide_eq_true rfl⟩
theorem op_notInT (hu:X.A.units+1<cLine):OpR X (compareOp .NotIn) (rInT X.K true):=by
 intro pins s σ H x y v u Q I rx ry h
 obtain ⟨p,a,ns,xs,nss,rfl,rfl,hp,ha,ht,q⟩:=h
 cases rx
 cases ry
 obtain ⟨its,r,pl,hz⟩:=I.list ha
 obtain ⟨itp,rp,pp,_⟩:=I.tuple hp
 obtain ⟨g1,g2⟩:=eqT_mem (A:=X.A.in1) I hu pp (by simpa using intsAre_of rp) ht r
 refine SeqAt.notIn_listAt (eqT s ns) pl.isList (fun w hw=>g1 w (by simpa using hw)) ⟨.bl _,H,I,rfl,?_⟩
 rw [any_eqT g2]
 exact q
def rIndexT (K:PySem.W.Frag):V→List V→Hp→VK→Prop:=fun x ys H Q=>∃ (a p:Addr) (xs:List V) (nss:List (List Int)) (ns:List Int) (j:Nat),x=V.ref a∧ys=[V.ref p]∧SqL K H a xs∧TsAt K H xs nss∧SqT K H p (ns.map V.int)∧
 nss[j]?=some ns∧(∀ m ms,m<j→nss[m]?=some ms→ms≠ns)∧Q (.int (j:Nat)) H
theorem mt_indexT (hu:X.A.units+1<cLine):MtR X "list.index" (rIndexT X.K):=by
 intro pins s σ H x xs v us Q I rx rxs h
 obtain ⟨a,p,ys,nss,ns,j,rfl,rfl,hs,ht,hp,hj,hno,q⟩:=h
 cases rx
 obtain ⟨uy,rfl,ry⟩:=vals1 rxs
 cases ry
 obtain ⟨its,rv,⟨⟨cls,dd,data,sl⟩,n,ho,hc,hdn,hd⟩,hlen⟩:=I.list hs
 simp only at hc hd
 subst hc hd
 obtain ⟨itp,rp,pp,_⟩:=I.tuple hp
 obtain ⟨g1,g2⟩:=eqT_mem (A:=X.A.in1) I hu pp (by simpa using intsAre_of rp) ht rv
 have hl1:its.length=nss.length:=by
  have:=congrArg List.length g2
  simpa using this
 have at':∀ m (hm:m<its.length) ms,nss[m]?=some ms→eqT s ns its[m]=decide (ms=ns):=by
  intro m hm ms e
  have:=congrArg (fun l:List Bool=>l[m]?) g2
  simp only [List.getElem?_map,e,List.getElem?_eq_getElem hm,Option.map_some] at this
  injection this
 have hjl:j<its.length:=by rw [hl1];exact (List.getElem?_eq_some_iff.mp hj).1
 have hsl:=sizeLine_eq
 have hvl:=rv.length
 refine call_meets PySem.F.slot_list_index ⟨_,ho,rfl⟩ PySem.F.entry_list_index (PySem.F.args_list_index_2 _ _)
  (SeqAt.list_indexAt a its.toArray n dd sl (.ref p) (eqT s ns) j (by simpa using hjl) (by (clear hl1 hu;omega)) ?_ ?_) ⟨ho,fun u' hu'=>g1 u' (by simpa using hu'),?_⟩
 ·have e1:its.toArray[j]=its[j]:=by simp
  rw [e1,at' j hjl ns hj]
  exact decide_eq_true rfl
 ·intro m hm hmj
  have hml:m<its.length:=by simpa using hm
  have e1:its.toArray[m]=its[m]:=by simp
  have hmn:m<nss.length:=by rw [←hl1];exact hml
  rw [e1,at' m hml _ (List.getElem?_eq_getElem hmn)]
  exact decide_eq_false (hno m _ hmj (List.getElem?_eq_getElem hmn))
 ·exact ⟨.int (j:Nat),H,I.tok _,⟨_,rfl⟩,q⟩
def rEqT (K:PySem.W.Frag):R2:=fun x y H Q=>∃ (p q:Addr) (ns ms:List Int),x=.ref p∧y=.ref q∧SqT K H p (ns.map V.int)∧SqT K H q (ms.map V.int)∧Q (.bl (decide (ns=ms))) H
theorem op_eqT (hu:X.A.units<cLine):OpR X (compareOp .Eq) (rEqT X.K):=by
 intro pins s σ H x y v u Q I rx ry h
 obtain ⟨a,b,ns,ms,rfl,rfl,ha,hb,q⟩:=h
 cases rx
 cases ry
 obtain ⟨its,r1,p1,_⟩:=I.tuple ha
 obtain ⟨its2,r2,p2,_⟩:=I.tuple hb
 exact HT.rcAt_tups p1 p2 (by simpa using intsAre_of r1) (by simpa using intsAre_of r2) hu _ _ _ _ ⟨.bl _,H,I,rfl,q⟩
end
end L2
set_option Elab.async false
set_option linter.all false
set_option maxRecDepth 100000
set_option maxHeartbeats 2000000
namespace L2
open PySem PySem.Spec PyProof.Rows
theorem for_items {d:Addr} {o:Obj} {kvs:List (List Key×V)} {g:TG} {tb:TS} {D:Ends} {σ:St} {H:Hp} (Pv:Nat→St→Hp→Prop) (h0:Pv 0 σ H) (hl:∀ i σ H,i≤kvs.length→Pv i σ H→H d=some (.frz o (.dT kvs)))
  (hs:∀ i σ H T k v q,kvs[i]?=some (k,v)→Pv i σ H→H T=none→H q=some (.tup (k.map kV))→g (.ref T) σ (upd H T (.tup [.ref q,v])) fun σ2 H2=>tb {D with nx:=Pv (i+1),ct:=Pv (i+1),bk:=D.nx} σ2 H2) (hd:∀ σ H,Pv kvs.length σ H→D.nx σ H):
  ∃ W:Nat→Nat→St→Hp→Prop,(∃ m,W 0 m σ H)∧∀ i m σ H,W i m σ H→
   ((ItT d o kvs).stop i H∧D.nx σ H)∨((ItT d o kvs).go i H∧∃ N:St→Hp→Prop,(∀ σ' H',N σ' H'→∃ m',m'<m∧W (i+1) m' σ' H')∧∀ x H',(ItT d o kvs).yld i H x H'→g x σ H' fun σ2 H2=>tb {D with nx:=N,ct:=N,bk:=D.nx} σ2 H2):=by
 refine ⟨fun i m σ H=>m=kvs.length - i∧i≤kvs.length∧Pv i σ H,⟨kvs.length,by simp,Nat.zero_le _,h0⟩,?_⟩
 rintro i m σ H ⟨rfl,hi,p⟩
 have q:=hl i σ H hi p
 by_cases hlt:i<kvs.length
 ·refine .inr ⟨⟨q,hlt⟩,Pv (i+1),fun σ' H' p'=>⟨kvs.length - (i+1),by (clear hi;omega),rfl,hlt,p'⟩,fun x H' y=>?_⟩
  obtain ⟨T,k,v,a,e1,rfl,e2,e3,rfl⟩:=y
  exact hs i σ H T k v a e1 p e2 e3
 ·have e:i=kvs.length:=by omega
  subst e
  exact .inl ⟨⟨q,Nat.le_refl _⟩,hd σ H p⟩
theorem lock_same {H H':Hp} {c:Addr} {u:HO} {od:Obj} (h:H c=some u) (s:Same (upd H c (.frz od u)) H'):Same H (upd H' c u):=fun b o e=>by
 by_cases hb:b=c
 ·rw [hb] at e ⊢
  rw [upd_same,←e,h]
 ·rw [upd_ne hb]
  exact s b o (by rw [upd_ne hb];exact e)
theorem Same.new {H:Hp} {q:Addr} {o:HO} (h:H q=none):Same H (upd H q o):=fun b o' e=>by rw [upd_ne (ne_of_none e h)];exact e
theorem Same.id' (H:Hp):Same H H:=fun _ _ e=>e
end L2
namespace Br1
open PySem PySem.Spec PyProof.Rows L2
abbrev Pl:=Int×Int×Int
abbrev CL:=List (Pl×Int)
def kvOf (c:Pl×Int):List Key×V:=(key3 c.1.1 c.1.2.1 c.1.2.2,V.int c.2)
def kvs (cs:CL):List (List Key×V):=cs.map kvOf
def getC (cs:CL) (p:Pl):Option Int:=(cs.find? fun c=>decide (c.1=p)).map (·.2)
def upP (p:Pl):Pl:=(p.1,p.2.1,p.2.2+1)
def dnP (p:Pl):Pl:=(p.1,p.2.1,p.2.2 - 1)
theorem key3_inj {p q:Pl}:key3 p.1 p.2.1 p.2.2=key3 q.1 q.2.1 q.2.2↔p=q:=by
 obtain ⟨a,b,c⟩:=p
 obtain ⟨x,y,z⟩:=q
 simp [key3]
theorem valV_kvs (p:Pl):∀ cs:CL,valV (kvs cs) (key3 p.1 p.2.1 p.2.2)=(getC cs p).map V.int
 |[]=>rfl
 |c::r=>by
  have ih:=valV_kvs p r
  unfold valV getC kvs at *
  rw [List.map_cons,List.find?_cons,List.find?_cons]
  by_cases h:c.1=p
  ·have h2:(kvOf c).1=key3 p.1 p.2.1 p.2.2:=key3_inj.mpr h
   simp only [h,h2,decide_true,Option.map_some]
   rfl
  ·have h2:¬(kvOf c).1=key3 p.1 p.2.1 p.2.2:=fun z=>h (key3_inj.mp z)
   simp only [h,h2,decide_false]
   exact ih
theorem kvs_get {cs:CL} {i:Nat} {k:List Key} {v:V} (h:(kvs cs)[i]?=some (k,v)):∃ p s,cs[i]?=some (p,s)∧k=key3 p.1 p.2.1 p.2.2∧v=V.int s:=by
 unfold kvs at h
 rw [List.getElem?_map] at h
 obtain ⟨⟨p,s⟩,e1,e2⟩:=Option.map_eq_some_iff.mp h
 cases e2
 exact ⟨p,s,e1,rfl,rfl⟩
theorem all_take {α:Type} {f:α→Bool} {l:List α} {i:Nat} {x:α} (h:(l.take i).all f=true) (e:l[i]?=some x) (hx:f x=true):(l.take (i+1)).all f=true:=by
 have hl:=(List.getElem?_eq_some_iff.mp e).1
 rw [List.take_succ,e,List.all_append,h]
 simp [hx]
def studsC (cs:CL):Bool:=cs.all fun c=> !(studI c.2 && (getC cs (upP c.1)).isSome)
def tubesC (cs:CL):Bool:=cs.all fun c=> !(tubeI c.2 && (getC cs (dnP c.1)).isSome)
section
variable {P:Program} {w:World} {K:PySem.W.Frag} {mg:Str→Option Value} {base:Heap} {C CR CP:Addr}
def PtAt (CP:Addr) (H:Hp) (b:Addr) (nm:Addr) (W D Hh g:Int) (cs:CL):Prop:=∃ dx c,H b=some (.ins CP dx (PtF nm W D Hh g c))∧H c=some (.dT (kvs cs))
def spStuds (CP:Addr):Sp:=fun vs H Q _=>∃ (b nm:Addr) (W D Hh g:Int) (cs:CL),vs=[.ref b]∧PtAt CP H b nm W D Hh g cs∧∀ H',Same H H'→Q (.bl (studsC cs)) H'
def spTubes (CP:Addr):Sp:=fun vs H Q _=>∃ (b nm:Addr) (W D Hh g:Int) (cs:CL),vs=[.ref b]∧PtAt CP H b nm W D Hh g cs∧∀ H',Same H H'→Q (.bl (tubesC cs)) H'
theorem sc_studs:FnScope ["part","place","sign"] ["part"] (defScope sStuds):=⟨rfl,rfl,rfl,by decide+kernel,rfl,by decide+kernel,by decide+kernel⟩
theorem sc_tubes:FnScope ["part","place","sign"] ["part"] (defScope sTubes):=⟨rfl,rfl,rfl,by decide+kernel,rfl,by decide+kernel,by decide+kernel⟩
theorem din_lock {H:Hp} {c q:Addr} {od:Obj} {cs:CL} {p:Pl} (hc:H c=some (.frz od (.dT (kvs cs)))) (hq:H q=some (.tup [.int p.1,.int p.2.1,.int p.2.2])):DGet H c (.ref q) ((getC cs p).map V.int):=
 .inr ⟨kvs cs,key3 p.1 p.2.1 p.2.2,q,.inr ⟨od,hc⟩,rfl,hq,(valV_kvs p cs).symm⟩
theorem din_of {H:Hp} {c q:Addr} {cs:CL} {p:Pl} (hc:H c=some (.dT (kvs cs))) (hq:H q=some (.tup [.int p.1,.int p.2.1,.int p.2.2])):DGet H c (.ref q) ((getC cs p).map V.int):=
 .inr ⟨kvs cs,key3 p.1 p.2.1 p.2.2,q,.inl hc,rfl,hq,(valV_kvs p cs).symm⟩
theorem ok_studs {f:Addr} {fd:FuncData} (F:Fun K "studs_clear" "studs_clear" sStuds f fd) (T':PtT K CP) (L1:Fn0 P w K mg base "has_stud" CX0 1 ["sign"] spStud) (L2:Fn0 P w K mg base "above" CX0 1 ["place"] spAbove):
  FnOk P w K mg base CX0 2 f fd ["part"] (spStuds CP):=by
 obtain ⟨g1,gd1,G1,b1,k1,h1⟩:=L1.ex
 obtain ⟨g2,gd2,G2,b2,k2,h2⟩:=L2.ex
 refine F.ok sc_studs (fun vs H Q E h=>?_) (fun cdv A outer s H vs Q E hr h=>?_)
 ·obtain ⟨b,nm,W,D,Hh,g,cs,rfl,_⟩:=h
  rfl
 ·obtain ⟨b,nm,W,D,Hh,g,cs,rfl,⟨dx,c,hb,hc⟩,k⟩:=h
  have hr1:=hr.mono (j:=1) (by decide)
  have hu:=hu_of hr
  refine ⟨_,pss_cons (ps_lock (ps_for PassesOwn.never rfl (pi_itemsT (pe_fld (pv 0) rfl)) (pg_tup rfl (pgs_cons (pg_name (i:=1) sc_studs.nd rfl (Or.inl rfl)) (pgs_cons (pg_name (i:=2) sc_studs.nd rfl (Or.inl rfl)) pgs_nil)))
    (pss_one (ps_if (pw_and (pt_val (pe_call G1 hr1 (by rfl) h1 k1 b1 .nil pass0 (pa_cons (pv 2) pa_nil))) (pw_and1 (pt_cmp (pc_din hu (pe_call G2 hr1 (by rfl) h2 k2 b2 .nil pass0 (pa_cons (pv 1) pa_nil)) (pe_fld (pv 0) rfl))))).pt (pss_one (ps_ret pe_bl)) pss_nil))))
   (pss_one (ps_ret pe_bl)),?_⟩
  refine ⟨c,_,hc,trivial,fun od=>?_⟩
  have nbc:b≠c:=fun z=>by rw [z,hc] at hb;cases hb
  have hcL:upd H c (.frz od (.dT (kvs cs))) c=some (.frz od (.dT (kvs cs))):=upd_same
  have hbL:upd H c (.frz od (.dT (kvs cs))) b=some (.ins CP dx (PtF nm W D Hh g c)):=by rw [upd_ne nbc];exact hb
  refine ⟨_,rfl,b,CP,dx,_,_,rfl,hbL,T'.cl,T'.n6,rfl,c,od,_,rfl,hcL,?_⟩
  refine for_items (fun i σ H'=>∃ v1 v2,σ=[some (.ref b),v1,v2]∧Same (upd H c (.frz od (.dT (kvs cs)))) H'∧(cs.take i).all (fun c=> !(studI c.2 && (getC cs (upP c.1)).isSome))=true) ⟨none,none,rfl,Same.id' _,rfl⟩ ?_ ?_ ?_
  ·rintro i σ H1 hi ⟨v1,v2,rfl,S1,_⟩
   exact S1 _ _ hcL
  ·rintro i σ H1 T k v q e ⟨v1,v2,rfl,S1,al⟩ hT hq
   obtain ⟨p,sg,e1,rfl,rfl⟩:=kvs_get e
   have ST:=Same.new (o:=.tup [.ref q,.int sg]) hT
   have S2:Same (upd H c (.frz od (.dT (kvs cs)))) (upd H1 T (.tup [.ref q,.int sg])):=S1.trans ST
   refine ⟨T,_,rfl,SqT.of upd_same,rfl,_,_,rfl,_,_,rfl,rfl,?_⟩
   have step:(!(studI sg && (getC cs (upP p)).isSome))=true→(cs.take (i+1)).all (fun c=> !(studI c.2 && (getC cs (upP c.1)).isSome))=true:=fun z=>all_take al e1 z
   refine ⟨_,rfl,sg,rfl,_,rfl,ite2 (fun hs=>?_) (fun hs=>iteF ⟨_,_,rfl,S2,step (by rw [bool_not hs];rfl)⟩)⟩
   refine ⟨_,rfl,q,p.1,p.2.1,p.2.2,rfl,ST _ _ hq,fun q2 hq2=>?_⟩
   have SQ:=Same.new (o:=.tup [.int p.1,.int p.2.1,.int (p.2.2+1)]) hq2
   have S3:=S2.trans SQ
   refine ⟨_,rfl,b,CP,dx,_,_,rfl,S3 _ _ hbL,T'.cl,T'.n6,rfl,c,_,rfl,din_lock (p:=upP p) (S3 _ _ hcL) upd_same,_,rfl,ite2 (fun hi=>?_) (fun hi=>?_)⟩
   ·refine ⟨S3 _ _ hcL,?_⟩
    have z:=k _ (lock_same hc S3)
    have e3:studsC cs=false:=by
     unfold studsC
     rw [Bool.eq_false_iff]
     intro z
     have:=List.all_eq_true.mp z _ (List.mem_of_getElem? e1)
     rw [Option.isSome_map] at hi
     rw [hs,hi] at this
     cases this
    rw [e3] at z
    exact z
   ·refine ⟨_,_,rfl,S3,step ?_⟩
    rw [Option.isSome_map] at hi
    rw [bool_not hi,Bool.and_false]
    rfl
  ·rintro σ H1 ⟨v1,v2,rfl,S1,al⟩
   refine ⟨S1 _ _ hcL,?_⟩
   have z:=k _ (lock_same hc S1)
   have e3:studsC cs=true:=by
    unfold studsC
    have hl:(kvs cs).length=cs.length:=by unfold kvs;rw [List.length_map]
    rw [hl,List.take_length] at al
    exact al
   rw [e3] at z
   exact z
theorem ok_tubes {f:Addr} {fd:FuncData} (F:Fun K "tubes_clear" "tubes_clear" sTubes f fd) (T':PtT K CP) (L1:Fn0 P w K mg base "has_tube" CX0 1 ["sign"] spTube) (L2:Fn0 P w K mg base "below" CX0 1 ["place"] spBelow):
  FnOk P w K mg base CX0 2 f fd ["part"] (spTubes CP):=by
 obtain ⟨g1,gd1,G1,b1,k1,h1⟩:=L1.ex
 obtain ⟨g2,gd2,G2,b2,k2,h2⟩:=L2.ex
 refine F.ok sc_tubes (fun vs H Q E h=>?_) (fun cdv A outer s H vs Q E hr h=>?_)
 ·obtain ⟨b,nm,W,D,Hh,g,cs,rfl,_⟩:=h
  rfl
 ·obtain ⟨b,nm,W,D,Hh,g,cs,rfl,⟨dx,c,hb,hc⟩,k⟩:=h
  have hr1:=hr.mono (j:=1) (by decide)
  have hu:=hu_of hr
  refine ⟨_,pss_cons (ps_lock (ps_for PassesOwn.never rfl (pi_itemsT (pe_fld (pv 0) rfl)) (pg_tup rfl (pgs_cons (pg_name (i:=1) sc_tubes.nd rfl (Or.inl rfl)) (pgs_cons (pg_name (i:=2) sc_tubes.nd rfl (Or.inl rfl)) pgs_nil)))
    (pss_one (ps_if (pw_and (pt_val (pe_call G1 hr1 (by rfl) h1 k1 b1 .nil pass0 (pa_cons (pv 2) pa_nil))) (pw_and1 (pt_cmp (pc_din hu (pe_call G2 hr1 (by rfl) h2 k2 b2 .nil pass0 (pa_cons (pv 1) pa_nil)) (pe_fld (pv 0) rfl))))).pt (pss_one (ps_ret pe_bl)) pss_nil))))
   (pss_one (ps_ret pe_bl)),?_⟩
  refine ⟨c,_,hc,trivial,fun od=>?_⟩
  have nbc:b≠c:=fun z=>by rw [z,hc] at hb;cases hb
  have hcL:upd H c (.frz od (.dT (kvs cs))) c=some (.frz od (.dT (kvs cs))):=upd_same
  have hbL:upd H c (.frz od (.dT (kvs cs))) b=some (.ins CP dx (PtF nm W D Hh g c)):=by rw [upd_ne nbc];exact hb
  refine ⟨_,rfl,b,CP,dx,_,_,rfl,hbL,T'.cl,T'.n6,rfl,c,od,_,rfl,hcL,?_⟩
  refine for_items (fun i σ H'=>∃ v1 v2,σ=[some (.ref b),v1,v2]∧Same (upd H c (.frz od (.dT (kvs cs)))) H'∧(cs.take i).all (fun c=> !(tubeI c.2 && (getC cs (dnP c.1)).isSome))=true) ⟨none,none,rfl,Same.id' _,rfl⟩ ?_ ?_ ?_
  ·rintro i σ H1 hi ⟨v1,v2,rfl,S1,_⟩
   exact S1 _ _ hcL
  ·rintro i σ H1 T k v q e ⟨v1,v2,rfl,S1,al⟩ hT hq
   obtain ⟨p,sg,e1,rfl,rfl⟩:=kvs_get e
   have ST:=Same.new (o:=.tup [.ref q,.int sg]) hT
   have S2:Same (upd H c (.frz od (.dT (kvs cs)))) (upd H1 T (.tup [.ref q,.int sg])):=S1.trans ST
   refine ⟨T,_,rfl,SqT.of upd_same,rfl,_,_,rfl,_,_,rfl,rfl,?_⟩
   have step:(!(tubeI sg && (getC cs (dnP p)).isSome))=true→(cs.take (i+1)).all (fun c=> !(tubeI c.2 && (getC cs (dnP c.1)).isSome))=true:=fun z=>all_take al e1 z
   refine ⟨_,rfl,sg,rfl,_,rfl,ite2 (fun hs=>?_) (fun hs=>iteF ⟨_,_,rfl,S2,step (by rw [bool_not hs];rfl)⟩)⟩
   refine ⟨_,rfl,q,p.1,p.2.1,p.2.2,rfl,ST _ _ hq,fun q2 hq2=>?_⟩
   have SQ:=Same.new (o:=.tup [.int p.1,.int p.2.1,.int (p.2.2 - 1)]) hq2
   have S3:=S2.trans SQ
   refine ⟨_,rfl,b,CP,dx,_,_,rfl,S3 _ _ hbL,T'.cl,T'.n6,rfl,c,_,rfl,din_lock (p:=dnP p) (S3 _ _ hcL) upd_same,_,rfl,ite2 (fun hi=>?_) (fun hi=>?_)⟩
   ·refine ⟨S3 _ _ hcL,?_⟩
    have z:=k _ (lock_same hc S3)
    have e3:tubesC cs=false:=by
     unfold tubesC
     rw [Bool.eq_false_iff]
     intro z
     have:=List.all_eq_true.mp z _ (List.mem_of_getElem? e1)
     rw [Option.isSome_map] at hi
     rw [hs,hi] at this
     cases this
    rw [e3] at z
    exact z
   ·refine ⟨_,_,rfl,S3,step ?_⟩
    rw [Option.isSome_map] at hi
    rw [bool_not hi,Bool.and_false]
    rfl
  ·rintro σ H1 ⟨v1,v2,rfl,S1,al⟩
   refine ⟨S1 _ _ hcL,?_⟩
   have z:=k _ (lock_same hc S1)
   have e3:tubesC cs=true:=by
    unfold tubesC
    have hl:(kvs cs).length=cs.length:=by unfold kvs;rw [List.length_map]
    rw [hl,List.take_length] at al
    exact al
   rw [e3] at z
   exact z
end
end Br1
set_option Elab.async false
set_option linter.all false
set_option maxRecDepth 100000
set_option maxHeartbeats 2000000
namespace L2
open PySem PySem.Spec PyProof.Rows
theorem lc_keysT {d:Addr} {o:Obj} {kvs:List (List Key×V)} {g:TG} {tt:TT} {te:TE} {vs:List Nat} {σ:St} {H1:Hp} {D:Addr} {Qd:Hp→Prop} (Pv:Nat→Hp→Prop) (h0:Pv 0 (upd H1 D (.lst []))) (hl:∀ i H,i≤kvs.length→Pv i H→H d=some (.frz o (.dT kvs)))
  (hs:∀ i k v q H,kvs[i]?=some (k,v)→Pv i H→H q=some (.tup (k.map kV))→g (.ref q) (wipe σ vs) H fun σ2 H2=>wipe σ2 vs=wipe σ vs∧tt σ2 H2 fun b H3=>
   if b=true then te σ2 H3 fun y H4=>∃ acc,H4 D=some (.lst acc)∧acc.length<sizeLine∧Pv (i+1) (upd H4 D (.lst (acc++[y]))) else Pv (i+1) H3) (hd:∀ H,Pv kvs.length H→Qd H):
  ∃ W:Nat→Nat→Hp→Prop,(∃ m,W 0 m (upd H1 D (.lst [])))∧∀ i m H,W i m H→
   ((Itkt d o kvs).stop i H∧Qd H)∨((Itkt d o kvs).go i H∧∃ Nx:Hp→Prop,(∀ H',Nx H'→∃ m',m'<m∧W (i+1) m' H')∧∀ x H',(Itkt d o kvs).yld i H x H'→g x (wipe σ vs) H' fun σ2 H2=>wipe σ2 vs=wipe σ vs∧tt σ2 H2 fun b H3=>
    if b=true then te σ2 H3 fun y H4=>∃ acc,H4 D=some (.lst acc)∧acc.length<sizeLine∧Nx (upd H4 D (.lst (acc++[y]))) else Nx H3):=by
 refine ⟨fun i m H=>m=kvs.length - i∧i≤kvs.length∧Pv i H,⟨kvs.length,by simp,Nat.zero_le _,h0⟩,?_⟩
 rintro i m H ⟨rfl,hi,p⟩
 have q:=hl i H hi p
 by_cases hlt:i<kvs.length
 ·refine .inr ⟨⟨q,hlt⟩,Pv (i+1),fun H' p'=>⟨kvs.length - (i+1),by (clear hi;omega),rfl,hlt,p'⟩,fun x H' y=>?_⟩
  obtain ⟨e,k,v,a,e1,rfl,e2⟩:=y
  subst e
  exact hs i k v a _ e1 p e2
 ·have e:i=kvs.length:=by omega
  subst e
  exact .inl ⟨⟨q,Nat.le_refl _⟩,hd H p⟩
theorem for_enumT {K:PySem.W.Frag} {a:Addr} {xs:List V} {g:TG} {tb:TS} {D:Ends} {σ:St} {H:Hp} (Pv:Nat→St→Hp→Prop) (h0:Pv 0 σ H) (hl:∀ i σ H,i≤xs.length→Pv i σ H→SqT K H a xs)
  (hs:∀ i x σ H T,xs[i]?=some x→Pv i σ H→H T=none→g (.ref T) σ (upd H T (.tup [.int (i:Nat),x])) fun σ2 H2=>tb {D with nx:=Pv (i+1),ct:=Pv (i+1),bk:=D.nx} σ2 H2) (hd:∀ σ H,Pv xs.length σ H→D.nx σ H):
  ∃ W:Nat→Nat→St→Hp→Prop,(∃ m,W 0 m σ H)∧∀ i m σ H,W i m σ H→
   ((IteT K a).stop i H∧D.nx σ H)∨((IteT K a).go i H∧∃ N:St→Hp→Prop,(∀ σ' H',N σ' H'→∃ m',m'<m∧W (i+1) m' σ' H')∧∀ x H',(IteT K a).yld i H x H'→g x σ H' fun σ2 H2=>tb {D with nx:=N,ct:=N,bk:=D.nx} σ2 H2):=by
 refine ⟨fun i m σ H=>m=xs.length - i∧i≤xs.length∧Pv i σ H,⟨xs.length,by simp,Nat.zero_le _,h0⟩,?_⟩
 rintro i m σ H ⟨rfl,hi,p⟩
 have q:=hl i σ H hi p
 by_cases hlt:i<xs.length
 ·refine .inr ⟨⟨xs,xs[i],q,by simp [hlt]⟩,Pv (i+1),fun σ' H' p'=>⟨xs.length - (i+1),by (clear hi;omega),rfl,hlt,p'⟩,fun x H' y=>?_⟩
  obtain ⟨T,x',rfl,hT,rfl,y⟩:=y
  exact hs i x' σ H T (y xs q) p hT
 ·have e:i=xs.length:=by omega
  subst e
  exact .inl ⟨⟨xs,q,rfl⟩,hd σ H p⟩
end L2
namespace Br1
open PySem PySem.Spec PyProof.Rows L2
def coP (p:Pl):Nat→Int
 |0=>p.1
 |1=>p.2.1
 |_=>p.2.2
def reachC (cs:CL) (a:Nat):List Int:=cs.map fun c=>coP c.1 a
def axisOk (cs:CL) (a:Nat) (n:Int):Bool:=decide ((0:Int)∈reachC cs a) && decide (n - 1∈reachC cs a)
def fillsC (cs:CL) (W D Hh:Int):Bool:=axisOk cs 0 W && axisOk cs 1 D && axisOk cs 2 Hh
section
variable {P:Program} {w:World} {K:PySem.W.Frag} {mg:Str→Option Value} {base:Heap} {C CR CP:Addr}
def spFills (CP:Addr):Sp:=fun vs H Q _=>∃ (b nm:Addr) (W D Hh g:Int) (cs:CL),vs=[.ref b]∧PtAt CP H b nm W D Hh g cs∧cs.length<20000∧∀ H',Same H H'→Q (.bl (fillsC cs W D Hh)) H'
theorem sc_fills:FnScope ["part","sizes","axis","size","reached","place"] ["part"] (defScope sFills):=⟨rfl,rfl,rfl,by decide+kernel,rfl,by decide+kernel,by decide+kernel⟩
theorem ok_fills {f:Addr} {fd:FuncData} (F:Fun K "fills_its_box" "fills_its_box" sFills f fd) (T':PtT K CP) (henum:mg "enumerate"=none):
  FnOk P w K mg base CX0 2 f fd ["part"] (spFills CP):=by
 refine F.ok sc_fills (fun vs H Q E h=>?_) (fun cdv A outer s H vs Q E hr h=>?_)
 ·obtain ⟨b,nm,W,D,Hh,g,cs,rfl,_⟩:=h
  rfl
 ·obtain ⟨b,nm,W,D,Hh,g,cs,rfl,⟨dx,c,hb,hc⟩,hl,k⟩:=h
  refine ⟨_,pss_cons (ps_set (i:=1) sc_fills.nd rfl (Or.inl rfl) (pe_tup (pa_cons (pe_fld (pv 0) rfl) (pa_cons (pe_fld (pv 0) rfl) (pa_cons (pe_fld (pv 0) rfl) pa_nil)))))
   (pss_cons (ps_for PassesOwn.never rfl (pi_enumT rfl henum (pa_cons (pv 1) pa_nil)) (pg_tup rfl (pgs_cons (pg_name (i:=2) sc_fills.nd rfl (by first|exact Or.inl rfl|exact Or.inr rfl)) (pgs_cons (pg_name (i:=3) sc_fills.nd rfl (Or.inl rfl)) pgs_nil)))
    (pss_cons (ps_lock (ps_setLc (i:=4) (te:=tOp (rIxT K) (tVar 5) (tVar 2)) (own:=[("place",5)]) rfl sc_fills.nd rfl rfl rfl (pi_keys (pe_fld (pv 0) rfl)) (blkOk_by (N:=["part","sizes","axis","size","reached","place"]) (sc:=defScope sFills) (by decide+kernel))
      (fun _ _ _ _ _=>pg_name (i:=5) sc_fills.nd rfl (Or.inl rfl)) (fun _ _ _ _ _=>pts_nil) (fun _ _ _ _ _=>pe_ix (r:=rIxT K) ix_tup (pv 5) (pv 2) (fun _ _=>rfl))))
     (pss_one (ps_if (pw_or (pt_cmpR op_notIn_seq pe_int (pv 4) rfl) (pw_or1 (pt_cmpR op_notIn_seq (pe_op op_sub (pv 3) pe_int) (pv 4) rfl))).pt (pss_one (ps_ret pe_bl)) pss_nil))))
   (pss_one (ps_ret pe_bl))),?_⟩
  refine ⟨_,rfl,b,CP,dx,_,_,rfl,hb,T'.cl,T'.n2,rfl,_,rfl,b,CP,dx,_,_,rfl,hb,T'.cl,T'.n3,rfl,_,rfl,b,CP,dx,_,_,rfl,hb,T'.cl,T'.n4,rfl,(by show 3≤sizeLine;decide),fun q hq=>?_⟩
  have S0:=Same.new (o:=.tup [.int W,.int D,.int Hh]) hq
  have hsq:SqT K (upd H q (.tup [.int W,.int D,.int Hh])) q [.int W,.int D,.int Hh]:=SqT.of upd_same
  have htup:upd H q (.tup [.int W,.int D,.int Hh]) q=some (.tup [.int W,.int D,.int Hh]):=upd_same
  refine ⟨_,rfl,q,_,rfl,hsq,?_⟩
  refine for_enumT (xs:=[.int W,.int D,.int Hh]) (fun i σ H'=>∃ v2 v3 v4 v5,σ=[some (.ref b),some (.ref q),v2,v3,v4,v5]∧Same (upd H q (.tup [.int W,.int D,.int Hh])) H'∧∀ j,j<i→axisOk cs j ([W,D,Hh].getD j 0)=true) ⟨none,none,none,none,rfl,Same.id' _,fun j hj=>absurd hj (Nat.not_lt_zero _)⟩ ?_ ?_ ?_
  ·rintro i σ H1 hi ⟨v2,v3,v4,v5,rfl,S1,_⟩
   exact SqT.of (S1 _ _ htup)
  ·rintro i x σ H1 T ex ⟨v2,v3,v4,v5,rfl,S1,al⟩ hT
   have hi:i<3:=(List.getElem?_eq_some_iff.mp ex).1
   obtain ⟨n,rfl,en⟩:∃ n:Int,x=.int n∧[W,D,Hh].getD i 0=n:=by
    match i,hi,ex with
    |0,_,ex=>cases ex;exact ⟨_,rfl,rfl⟩
    |1,_,ex=>cases ex;exact ⟨_,rfl,rfl⟩
    |2,_,ex=>cases ex;exact ⟨_,rfl,rfl⟩
   have ST:=Same.new (o:=.tup [.int (i:Nat),.int n]) hT
   have S2:=(S0.trans S1).trans ST
   refine ⟨T,_,rfl,SqT.of upd_same,rfl,_,_,rfl,_,_,rfl,rfl,?_⟩
   have hb2:=S2 _ _ hb
   have hc2:=S2 _ _ hc
   have S12:=S1.trans ST
   generalize upd H1 T (.tup [.int (i:Nat),.int n])=H2 at hb2 hc2 S2 S12
   have nbc:b≠c:=fun z=>by rw [z,hc2] at hb2;cases hb2
   refine ⟨c,_,hc2,trivial,fun od=>?_⟩
   have hcL:upd H2 c (.frz od (.dT (kvs cs))) c=some (.frz od (.dT (kvs cs))):=upd_same
   have hbL:upd H2 c (.frz od (.dT (kvs cs))) b=some (.ins CP dx (PtF nm W D Hh g c)):=by rw [upd_ne nbc];exact hb2
   refine ⟨_,rfl,b,CP,dx,_,_,rfl,hbL,T'.cl,T'.n6,rfl,c,od,rfl,.inr ⟨kvs cs,hcL,fun Dl hDl=>?_⟩⟩
   refine lc_keysT (fun j H'=>Same (upd H2 c (.frz od (.dT (kvs cs)))) H'∧H' Dl=some (.lst ((reachC (cs.take j) i).map V.int))) ⟨Same.new hDl,upd_same⟩ (fun j H' _ p=>p.1 _ _ hcL) ?_ ?_
   ·rintro j kk vv q2 H3 e3 ⟨S3,hD3⟩ hq2
    obtain ⟨p,sg,e4,rfl,rfl⟩:=kvs_get e3
    have hj:j<cs.length:=(List.getElem?_eq_some_iff.mp e4).1
    refine ⟨rfl,⟨_,rfl,_,rfl,q2,_,(i:Int),.int (coP p i),rfl,rfl,SqT.of hq2,?_,_,hD3,?_,?_⟩⟩
    ·match i,hi with
     |0,_=>rfl
     |1,_=>rfl
     |2,_=>rfl
    ·rw [List.length_map]
     unfold reachC
     rw [List.length_map,List.length_take]
     have:=sizeLine_big
     (clear hj en hi;omega)
    ·refine ⟨fun b' o e=>?_,?_⟩
     ·rw [upd_ne (ne_of_none e hDl)]
      exact S3 _ _ e
     ·rw [upd_same]
      unfold reachC
      rw [List.take_succ,e4]
      simp
   ·rintro H3 ⟨S3,hD3⟩
    have hl2:(kvs cs).length=cs.length:=by unfold kvs;rw [List.length_map]
    rw [hl2,List.take_length] at hD3
    refine ⟨S3 _ _ hcL,?_⟩
    have S4:=lock_same hc2 S3
    have nDc:Dl≠c:=fun z=>by rw [z,hcL] at hDl;cases hDl
    have hD4:upd H3 c (.dT (kvs cs)) Dl=some (.lst ((reachC cs i).map V.int)):=by rw [upd_ne nDc];exact hD3
    generalize upd H3 c (.dT (kvs cs))=H4 at S4 hD4
    have S5:=S12.trans S4
    have fal:axisOk cs i n=false→fillsC cs W D Hh=false:=by
     intro z
     unfold fillsC
     rw [←en] at z
     match i,hi,z with
     |0,_,z=>rw [show axisOk cs 0 W=false from z];rfl
     |1,_,z=>rw [show axisOk cs 1 D=false from z,Bool.and_false];rfl
     |2,_,z=>rw [show axisOk cs 2 Hh=false from z,Bool.and_false]
    have fin:axisOk cs i n=false→Q (.bl false) H4:=fun z=>by
     have kk:=k H4 (S0.trans S5)
     rw [fal z] at kk
     exact kk
    have allf:((reachC cs i).map V.int).all flatV=true:=List.all_eq_true.mpr fun x hx=>by
     obtain ⟨y,_,rfl⟩:=List.mem_map.mp hx
     rfl
    refine ⟨_,rfl,Dl,_,rfl,.inl (SqL.of hD4),rfl,allf,_,rfl,ite2 (fun h0=>iteT ?_) (fun h0=>?_)⟩
    ·have h0:(!inV (.int 0) ((reachC cs i).map V.int))=true:=h0
     rw [inV_ints,Bool.not_eq_true'] at h0
     exact fin (by unfold axisOk;rw [h0];rfl)
    ·have h0:¬(!inV (.int 0) ((reachC cs i).map V.int))=true:=h0
     rw [inV_ints,Bool.not_eq_true',Bool.not_eq_false] at h0
     refine ⟨_,rfl,_,_,rfl,rfl,_,rfl,Dl,_,rfl,.inl (SqL.of hD4),rfl,allf,_,rfl,ite2 (fun h1=>?_) (fun h1=>?_)⟩
     ·have h1:(!inV (.int (n - 1)) ((reachC cs i).map V.int))=true:=h1
      rw [inV_ints,Bool.not_eq_true'] at h1
      exact fin (by unfold axisOk;rw [h1,Bool.and_false])
     ·have h1:¬(!inV (.int (n - 1)) ((reachC cs i).map V.int))=true:=h1
      rw [inV_ints,Bool.not_eq_true',Bool.not_eq_false] at h1
      refine ⟨_,_,_,_,rfl,S5,fun j hj=>?_⟩
      by_cases hji:j=i
      ·rw [hji,en]
       unfold axisOk
       rw [h0,h1]
       rfl
      ·exact al j (by (clear hl2 en hi hl;omega))
  ·rintro σ H1 ⟨v2,v3,v4,v5,rfl,S1,al⟩
   have kk:=k H1 (S0.trans S1)
   have e:fillsC cs W D Hh=true:=by
    unfold fillsC
    rw [show axisOk cs 0 W=true from al 0 (by show 0<3;decide),show axisOk cs 1 D=true from al 1 (by show 1<3;decide),show axisOk cs 2 Hh=true from al 2 (by show 2<3;decide)]
    rfl
   rw [e] at kk
   exact kk
end
end Br1
set_option Elab.async false
set_option linter.all false
set_option maxRecDepth 100000
set_option maxHeartbeats 1000000
namespace L2
open PySem PySem.Spec PyProof.Rows
def tDisp1 (tk tv:TE):TE:=fun σ H Q=>∀ p,H p=none→tk σ (upd H p (.dT [])) fun x H1=>tv σ H1 fun y H2=>H2 p=some (.dT [])∧∃ (b:Addr) (ks:List Key),x=.ref b∧H2 b=some (.tup (ks.map kV))∧Q (.ref p) (upd H2 p (.dT [(ks,y)]))
theorem d_set {X:Cx} {pins:List (Addr×Obj)} {σ:St} {H:Hp} {s:Shared} {a b:Addr} {v:V} {r:Value} {ks:List Key} {A:Around} {E:Value→Shared→Prop} {Q:Unit→Shared→Prop} (hu:A.units+1<cLine) (I:Inv X pins σ H s) (e:H a=some (.dT [])) (eb:H b=some (.tup (ks.map kV))) (rv:RelV v r)
  (h:∀ s',Inv X pins σ (upd H a (.dT [(ks,v)])) s'→Q () s'):wpAny (model X.prog X.w) A (dictSet a (.ref b) r) Q E s:=by
 obtain ⟨z,hd,xs,rel,dd⟩:=dt_of I.hok e
 have hz:xs.length≤sizeLine:=by rw [←Paired.length rel];exact z
 refine wpAny_dictSet_heap (hsz:=hz) (Nat.lt_of_succ_lt hu) (key_of I.hok eb) dd fun h' dd' hs=>h _ ?_
 obtain ⟨q,es,ep,hq,h2,h3,h4,_,h5⟩:=dd'
 have hl:(putK ([]:List (List Key×V)) ks v).length≤sizeLine:=by show 1≤sizeLine;decide
 refine d_write I (by rw [e];exact True.intro) hs ⟨q,hq⟩ ⟨hl,hd,_,(rel.put ks eb rv).keeps fun c ys ec=>?_,q,es,ep,hq,h2,h3,h4,h5⟩
 rw [upd_ne (ne_of ec e (fun z=>nomatch z))]
 exact ec
theorem pe_disp1 {X:Cx} {pos:Pos} {k v:Expr} {tk tv:TE} (hu:X.A.units+1<cLine) (hk:PE X k tk) (hv:PE X v tv):PE X (.Dict [some k] [v] pos) (tDisp1 tk tv):=by
 intro pins s σ H Q I q
 have hn:=I.hok.fresh (Nat.le_refl s.heap.objs.size)
 have I1:=I.laid (a:=s.heap.objs.size) (o:=.dT []) (h':=s.heap.push {cls:=.type "dict",data:=.dict #[]}) (t':=s.toks) (fun _ _ q=>Heap.get?_push_of_some _ q) (Nat.le_refl _) (dt_empty s.heap I.big)
 rw [arm_eval_Dict,zip_pairTrees [some k] [v] X.env pos rfl rfl,dictDisplay_pairs (pairTrees [some k] [v] X.env pos) (by intro z;cases z) (by show 1<17;decide)]
 refine wpAny_bind (wpAny_standAt (wpAny_bind ?_))
 unfold subDict
 refine wpAny_bind (wpAny_alloc (wpAny_bind (wpAny_holding ?_)))
 rw [if_pos (show (pairTrees [some k] [v] X.env pos).length≤15 by show 1≤15;decide)]
 refine wpAny_bind (pairTrees_cons_walk (thn (hk pins _ σ _ _ I1 (q _ hn)) fun u s1 ⟨x,H1,I2,rx,q1⟩=>thn (hv pins s1 σ H1 _ I2 q1) fun w2 s2 ⟨y,H2,I3,ry,q2⟩=>pairTrees_nil_walk ?_))
 obtain ⟨e,b,ks,rfl,eb,q2⟩:=q2
 cases (show u=Value.ref b from rx)
 refine wpAny_holding ?_
 rw [List.forIn_cons]
 refine wpAny_bind (wpAny_bind (wpAny_bind (d_set hu I3 e eb ry fun s3 I4=>wpAny_pure ?_)))
 show wpAny _ _ (forIn [] _ _) _ _ s3
 rw [List.forIn_nil]
 exact wpAny_pure (wpAny_pure (wpAny_pure (wpAny_pure ⟨.ref s.heap.objs.size,_,I4,rfl,q2⟩)))
end L2
set_option Elab.async false
set_option linter.all false
set_option maxRecDepth 100000
set_option maxHeartbeats 2000000
namespace Br1
open PySem PySem.Spec PyProof.Rows L2
def nbP (p:Pl):List Pl:=[(p.1 - 1,p.2.1,p.2.2),(p.1+1,p.2.1,p.2.2),(p.1,p.2.1 - 1,p.2.2),(p.1,p.2.1+1,p.2.2),upP p,dnP p]
def plV (p:Pl):List V:=[.int p.1,.int p.2.1,.int p.2.2]
def PlsAt (H:Hp) (qs:List Addr) (ps:List Pl):Prop:=Paired (fun q p=>H q=some (.tup (plV p))) qs ps
theorem PlsAt.same {H H':Hp} {qs:List Addr} {ps:List Pl} (h:PlsAt H qs ps) (s:Same H H'):PlsAt H' qs ps:=Paired.mapP h fun _ _ e=>s _ _ e
section
variable {P:Program} {w:World} {K:PySem.W.Frag} {mg:Str→Option Value} {base:Heap} {C CR CP:Addr}
def spNeigh:Sp:=fun vs H Q _=>∃ (g:Addr) (p:Pl),vs=[.ref g]∧H g=some (.tup (plV p))∧∀ (H':Hp) (l:Addr) (qs:List Addr),Same H H'→H l=none→H' l=some (.lst (qs.map V.ref))→PlsAt H' qs (nbP p)→Q (.ref l) H'
theorem sc_neigh:FnScope ["place","x","y","z"] ["place"] (defScope sNeigh):=⟨rfl,rfl,rfl,by decide+kernel,rfl,by decide+kernel,by decide+kernel⟩
theorem ok_neigh {f:Addr} {fd:FuncData} (F:Fun K "neighbours" "neighbours" sNeigh f fd) (L1:Fn0 P w K mg base "above" CX0 1 ["place"] spAbove) (L2:Fn0 P w K mg base "below" CX0 1 ["place"] spBelow):
  FnOk P w K mg base CX0 2 f fd ["place"] spNeigh:=by
 obtain ⟨g1,gd1,G1,b1,k1,h1⟩:=L1.ex
 obtain ⟨g2,gd2,G2,b2,k2,h2⟩:=L2.ex
 refine F.ok sc_neigh (fun vs H Q E h=>?_) (fun cdv A outer s H vs Q E hr h=>?_)
 ·obtain ⟨g,p,rfl,_⟩:=h
  rfl
 ·obtain ⟨g,p,rfl,hg,k⟩:=h
  have hr1:=hr.mono (j:=1) (by decide)
  refine ⟨_,pss_cons (ps_set (i:=1) sc_neigh.nd rfl (Or.inl rfl) (pe_ix ix_tup (pv 0) pe_int (fun _ _=>rfl)))
   (pss_cons (ps_set (i:=2) sc_neigh.nd rfl (Or.inl rfl) (pe_ix ix_tup (pv 0) pe_int (fun _ _=>rfl)))
   (pss_cons (ps_set (i:=3) sc_neigh.nd rfl (Or.inl rfl) (pe_ix ix_tup (pv 0) pe_int (fun _ _=>rfl)))
   (pss_one (ps_ret (pe_lst (pa_cons (pe_tup (pa_cons (pe_op op_sub (pv 1) pe_int) (pa_cons (pv 2) (pa_cons (pv 3) pa_nil)))) (pa_cons (pe_tup (pa_cons (pe_op op_add (pv 1) pe_int) (pa_cons (pv 2) (pa_cons (pv 3) pa_nil))))
    (pa_cons (pe_tup (pa_cons (pv 1) (pa_cons (pe_op op_sub (pv 2) pe_int) (pa_cons (pv 3) pa_nil)))) (pa_cons (pe_tup (pa_cons (pv 1) (pa_cons (pe_op op_add (pv 2) pe_int) (pa_cons (pv 3) pa_nil))))
    (pa_cons (pe_call G1 hr1 (by rfl) h1 k1 b1 .nil pass0 (pa_cons (pv 0) pa_nil)) (pa_cons (pe_call G2 hr1 (by rfl) h2 k2 b2 .nil pass0 (pa_cons (pv 0) pa_nil)) pa_nil))))))))))),?_⟩
  refine ⟨_,rfl,g,_,_,_,rfl,rfl,SqT.of hg,rfl,?_⟩
  refine ⟨_,rfl,g,_,_,_,rfl,rfl,SqT.of hg,rfl,?_⟩
  refine ⟨_,rfl,g,_,_,_,rfl,rfl,SqT.of hg,rfl,?_⟩
  have sz:∀ a b c:V,[a,b,c].length≤sizeLine:=fun _ _ _=>by show 3≤sizeLine;decide
  refine ⟨_,rfl,_,_,rfl,rfl,_,rfl,_,rfl,sz _ _ _,fun q1 n1=>?_⟩
  refine ⟨_,rfl,_,_,rfl,rfl,_,rfl,_,rfl,sz _ _ _,fun q2 n2=>?_⟩
  refine ⟨_,rfl,_,rfl,_,_,rfl,rfl,_,rfl,sz _ _ _,fun q3 n3=>?_⟩
  refine ⟨_,rfl,_,rfl,_,_,rfl,rfl,_,rfl,sz _ _ _,fun q4 n4=>?_⟩
  have S1:=Same.new (o:=.tup (plV (p.1 - 1,p.2.1,p.2.2))) n1
  have S2:=Same.new (o:=.tup (plV (p.1+1,p.2.1,p.2.2))) n2
  have S3:=Same.new (o:=.tup (plV (p.1,p.2.1 - 1,p.2.2))) n3
  have S4:=Same.new (o:=.tup (plV (p.1,p.2.1+1,p.2.2))) n4
  have hg4:=S4 _ _ (S3 _ _ (S2 _ _ (S1 _ _ hg)))
  refine ⟨_,rfl,g,p.1,p.2.1,p.2.2,rfl,hg4,fun q5 n5=>?_⟩
  have S5:=Same.new (o:=.tup (plV (upP p))) n5
  refine ⟨_,rfl,g,p.1,p.2.1,p.2.2,rfl,S5 _ _ hg4,fun q6 n6=>?_⟩
  have S6:=Same.new (o:=.tup (plV (dnP p))) n6
  refine ⟨by show 6≤sizeLine;decide,fun l nl=>?_⟩
  have S7:=Same.new (o:=.lst [V.ref q1,V.ref q2,V.ref q3,V.ref q4,V.ref q5,V.ref q6]) nl
  have SB:=(((((S1.trans S2).trans S3).trans S4).trans S5).trans S6)
  refine k _ l [q1,q2,q3,q4,q5,q6] (SB.trans S7) (SB.free nl) upd_same ?_
  ·refine .cons ?_ (.cons ?_ (.cons ?_ (.cons ?_ (.cons ?_ (.cons ?_ .nil)))))
   ·exact (((((S2.trans S3).trans S4).trans S5).trans S6).trans S7) _ _ upd_same
   ·exact ((((S3.trans S4).trans S5).trans S6).trans S7) _ _ upd_same
   ·exact (((S4.trans S5).trans S6).trans S7) _ _ upd_same
   ·exact ((S5.trans S6).trans S7) _ _ upd_same
   ·exact (S6.trans S7) _ _ upd_same
   ·exact S7 _ _ upd_same
def growC:List (List Int)→Bool
 |a::b::r=> !HT.lexLe b a && growC (b::r)
 |_=>true
def NmAt (CP:Addr) (H:Hp) (b:Addr) (nm:List Int):Prop:=∃ dx q W D Hh g c,H b=some (.ins CP dx (PtF q W D Hh g c))∧H q=some (.tup (nm.map V.int))
def spGrow (K:PySem.W.Frag) (CP:Addr):Sp:=fun vs H Q _=>∃ (a:Addr) (bs:List Addr) (nms:List (List Int)),vs=[.ref a]∧SqL K H a (bs.map V.ref)∧Paired (NmAt CP H) bs nms∧1≤nms.length∧nms.length≤64∧Q (.bl (growC nms)) H
theorem sc_grow:FnScope ["parts","k"] ["parts"] (defScope sGrow):=⟨rfl,rfl,rfl,by decide+kernel,rfl,by decide+kernel,by decide+kernel⟩
theorem growC_iff:∀ {l:List (List Int)},growC l=true↔∀ i a b,l[i]?=some a→l[i+1]?=some b→HT.lexLe b a=false
 |[]=>by simp [growC]
 |[x]=>by simp [growC]
 |x::y::r=>by
  have ih:=growC_iff (l:=y::r)
  rw [growC,Bool.and_eq_true,ih,Bool.not_eq_true']
  constructor
  ·rintro ⟨h1,h2⟩ i a b ea eb
   cases i with
   |zero=>
    cases ea
    cases eb
    exact h1
   |succ i=>exact h2 i a b ea eb
  ·intro h
   exact ⟨h 0 x y rfl rfl,fun i a b ea eb=>h (i+1) a b ea eb⟩
theorem paired_at {α β:Type} {R:α→β→Prop}:∀ {as:List α} {bs:List β},Paired R as bs→∀ {i:Nat} {b:β},bs[i]?=some b→∃ a,as[i]?=some a∧R a b
 |_,_,.nil,i,b,h=>by simp at h
 |_,_,.cons r t,i,b,h=>by
  cases i with
  |zero=>cases h;exact ⟨_,rfl,r⟩
  |succ i=>exact paired_at t h
theorem ok_grow {f:Addr} {fd:FuncData} (F:Fun K "names_grow" "names_grow" sGrow f fd) (T':PtT K CP) (hrange:mg "range"=none) (hlen:mg "len"=none):FnOk P w K mg base CX0 2 f fd ["parts"] (spGrow K CP):=by
 refine F.ok sc_grow (fun vs H Q E h=>?_) (fun cdv A outer s H vs Q E hr h=>?_)
 ·obtain ⟨a,bs,nms,rfl,_⟩:=h
  rfl
 ·obtain ⟨a,bs,nms,rfl,ha,hp,hn1,hn,k⟩:=h
  have hu:=hu_of hr
  refine ⟨_,pss_cons (ps_for PassesOwn.never rfl (pi_range2 rfl hrange (pa_cons pe_int (pa_cons (pe_callB call_len_seq (by rfl) hlen PySem.boot_len (pa_cons (pv 0) pa_nil)) pa_nil))) (pg_name (i:=1) sc_grow.nd rfl (Or.inl rfl))
    (pss_one (ps_if (pt_cmpR (op_leT (Nat.lt_of_succ_lt hu)) (pe_fld (pe_ix ix_list (pv 0) (pv 1) (fun _ _=>rfl)) rfl) (pe_fld (pe_ix ix_list (pv 0) (pe_op op_sub (pv 1) pe_int) (fun _ _=>rfl)) rfl) (nomark _)) (pss_one (ps_ret pe_bl)) pss_nil)))
   (pss_one (ps_ret pe_bl)),?_⟩
  have hbl:bs.length=nms.length:=Paired.length hp
  have hsl:=sizeLine_big
  have at':∀ (i:Nat) (nm:List Int),nms[i]?=some nm→∃ b,atI (bs.map V.ref) (i:Int)=some (.ref b)∧NmAt CP H b nm:=fun i nm e=>by
   obtain ⟨b,e1,e2⟩:=paired_at hp e
   exact ⟨b,atI_nat (by rw [List.getElem?_map,e1];rfl),e2⟩
  have hml:(bs.map V.ref).length=nms.length:=by rw [List.length_map,hbl]
  refine ⟨_,rfl,a,_,rfl,.inl ha,1,((bs.map V.ref).length:Int),rfl,⟨by decide,by decide,by (clear hml hsl hbl hu hn hn1;omega),by rw [hml];(clear hml hsl hbl hu hn1;omega)⟩,?_⟩
  have et:(((bs.map V.ref).length:Int) - 1).toNat=nms.length - 1:=by rw [hml];(clear hml hsl hbl hu hn hn1;omega)
  rw [et]
  refine for_range (fun i σ H'=>∃ v1,σ=[some (.ref a),v1]∧H'=H∧∀ j x y,j<i→nms[j]?=some x→nms[j+1]?=some y→HT.lexLe y x=false) ⟨none,rfl,rfl,fun j x y hj=>absurd hj (Nat.not_lt_zero _)⟩ ?_ ?_
  ·rintro i σ H1 hi ⟨v1,rfl,rfl,al⟩
   have e0:nms[i]?=some nms[i]:=List.getElem?_eq_getElem (by (clear et hml hsl hbl hu hn hn1;omega))
   have e1:nms[i+1]?=some nms[i+1]:=List.getElem?_eq_getElem (by (clear et hsl hu;omega))
   obtain ⟨c0,g0,dx0,q0,W0,D0,H0,w0,cc0,f0,t0⟩:=at' i _ e0
   obtain ⟨c1,g1,dx1,q1,W1,D1,H1',w1,cc1,f1,t1⟩:=at' (i+1) _ e1
   have z1:(1:Int)+(i:Int)=((i+1:Nat):Int):=by (clear et hsl hu;omega)
   have z2:(1:Int)+(i:Int) - 1=((i:Nat):Int):=by (clear z1 et hsl hu;omega)
   refine ⟨_,rfl,_,rfl,a,_,_,_,rfl,rfl,ha,by rw [z1];exact g1,c1,CP,dx1,_,_,rfl,f1,T'.cl,T'.n1,rfl,?_⟩
   refine ⟨_,rfl,_,rfl,_,_,rfl,rfl,a,_,_,_,rfl,rfl,ha,by rw [z2];exact g0,c0,CP,dx0,_,_,rfl,f0,T'.cl,T'.n1,rfl,?_⟩
   refine ⟨q1,q0,_,_,rfl,rfl,SqT.of t1,SqT.of t0,_,rfl,ite2 (fun hle=>?_) (fun hle=>?_)⟩
   ·have e3:growC nms=false:=by
     rw [Bool.eq_false_iff]
     intro z
     have:=growC_iff.mp z i _ _ e0 e1
     rw [hle] at this
     cases this
    rw [e3] at k
    exact k
   ·refine ⟨_,rfl,rfl,fun j x y hj ex ey=>?_⟩
    by_cases hji:j=i
    ·subst hji
     rw [e0] at ex
     rw [e1] at ey
     cases ex
     cases ey
     exact bool_not hle
    ·exact al j x y (by (clear hle z2 z1 et hsl hu;omega)) ex ey
  ·rintro σ H1 ⟨v1,rfl,rfl,al⟩
   have e3:growC nms=true:=growC_iff.mpr fun i x y ex ey=>by
    have:=(List.getElem?_eq_some_iff.mp ey).1
    exact al i x y (by (clear et hml hsl hbl hu hn hn1;omega)) ex ey
   rw [e3] at k
   exact k
end
end Br1
set_option Elab.async false
set_option linter.all false
set_option maxRecDepth 100000
set_option maxHeartbeats 2000000
namespace Br1
open PySem PySem.Spec PyProof.Rows L2
def stepN (cs:CL) (st:List Pl×List Pl) (p:Pl):List Pl×List Pl:=if (getC cs p).isSome=true∧p∉st.1 then (st.1++[p],st.2++[p]) else st
def hangRun (cs:CL):Nat→List Pl→List Pl→List Pl
 |0,rs,_=>rs
 |n+1,rs,ws=>match ws.getLast? with
  |none=>rs
  |some q=>hangRun cs n ((nbP q).foldl (stepN cs) (rs,ws.dropLast)).1 ((nbP q).foldl (stepN cs) (rs,ws.dropLast)).2
def unr (cs:CL) (rs:List Pl):Nat:=(cs.filter fun c=> !decide (c.1∈rs)).length
def hangC:CL→Bool
 |[]=>false
 |c::r=>decide ((hangRun (c::r) (c::r).length [c.1] [c.1]).length=(c::r).length)
theorem unr_cons (c:Pl×Int) (r:CL) (rs:List Pl):unr (c::r) rs=(if c.1∈rs then 0 else 1)+unr r rs:=by
 unfold unr
 by_cases h:c.1∈rs
 ·rw [List.filter_cons_of_neg (by simp [h]),if_pos h,Nat.zero_add]
 ·rw [List.filter_cons_of_pos (by simp [h]),if_neg h,List.length_cons,Nat.add_comm]
theorem unr_le (p:Pl) (rs:List Pl):∀ cs:CL,unr cs (rs++[p])≤unr cs rs
 |[]=>Nat.le_refl _
 |c::r=>by
  have ih:=unr_le p rs r
  rw [unr_cons,unr_cons]
  by_cases h:c.1∈rs
  ·rw [if_pos h,if_pos (List.mem_append_left _ h)];omega
  ·rw [if_neg h]
   split<;>omega
theorem getC_some {cs:CL} {p:Pl}:(getC cs p).isSome=true↔∃ c∈cs,c.1=p:=by
 unfold getC
 rw [Option.isSome_map,List.find?_isSome]
 simp
theorem unr_push {p:Pl} {rs:List Pl} (hp:p∉rs):∀ {cs:CL},(getC cs p).isSome=true→unr cs (rs++[p])+1≤unr cs rs
 |[],h=>by cases h
 |c::r,h=>by
  have hle:=unr_le p rs r
  rw [unr_cons,unr_cons]
  by_cases hc:c.1=p
  ·rw [if_pos (by simp [hc]),if_neg (by rw [hc];exact hp)];(clear hp;omega)
  ·have h2:(getC r p).isSome=true:=by
    rw [getC_some] at h ⊢
    obtain ⟨x,hx,e⟩:=h
    rcases List.mem_cons.mp hx with rfl|hx
    ·exact absurd e hc
    ·exact ⟨x,hx,e⟩
   have ih:=unr_push hp h2
   by_cases h3:c.1∈rs
   ·rw [if_pos h3,if_pos (List.mem_append_left _ h3)];(clear hc hle hp;omega)
   ·rw [if_neg h3,if_neg (by simp [h3,hc])];(clear h3 hc hle hp;omega)
def rkv (rs:List Pl):List (List Key×V):=rs.map fun p=>(key3 p.1 p.2.1 p.2.2,V.bl true)
theorem valV_rkv (p:Pl):∀ rs:List Pl,valV (rkv rs) (key3 p.1 p.2.1 p.2.2)=if p∈rs then some (V.bl true) else none
 |[]=>rfl
 |c::r=>by
  have ih:=valV_rkv p r
  unfold valV rkv at *
  rw [List.map_cons,List.find?_cons]
  by_cases h:c=p
  ·subst h
   simp
  ·have h2:¬key3 c.1 c.2.1 c.2.2=key3 p.1 p.2.1 p.2.2:=fun z=>h (key3_inj.mp z)
   simp only [h2,decide_false]
   rw [ih]
   by_cases h3:p∈r
   ·rw [if_pos h3,if_pos (List.mem_cons_of_mem _ h3)]
   ·rw [if_neg h3,if_neg (by simp [h3,Ne.symm h])]
theorem PlsAt.upd {H:Hp} {a:Addr} {o o':HO} {qs:List Addr} {ps:List Pl} (h:PlsAt H qs ps) (ha:H a=some o) (ho:∀ xs,o≠.tup xs):PlsAt (upd H a o') qs ps:=Paired.mapP h fun q p e=>by
 rw [upd_ne (by rintro rfl;rw [ha] at e;cases e;exact ho _ rfl)]
 exact e
theorem paired_drop {α β:Type} {R:α→β→Prop}:∀ {as:List α} {bs:List β},Paired R as bs→Paired R as.dropLast bs.dropLast
 |_,_,.nil=>.nil
 |_,_,.cons r .nil=>.nil
 |_,_,.cons r (.cons r2 t)=>.cons r (paired_drop (.cons r2 t))
structure HS (CP:Addr) (H:Hp) (cs:CL) (d l:Addr) (rs ws:List Pl) (qs:List Addr) (H':Hp):Prop where
 sm:Same H H'
 dd:H' d=some (.dT (rkv rs))
 ll:H' l=some (.lst (qs.map V.ref))
 pl:PlsAt H' qs ws
 c1:rs.length+unr cs rs≤cs.length
 c2:ws.length≤rs.length
theorem HS.same {CP:Addr} {H H1 H2:Hp} {cs:CL} {d l:Addr} {rs ws:List Pl} {qs:List Addr} (h:HS CP H cs d l rs ws qs H1) (s:Same H1 H2):HS CP H cs d l rs ws qs H2:=⟨h.sm.trans s,s _ _ h.dd,s _ _ h.ll,h.pl.same s,h.c1,h.c2⟩
theorem rkv_snoc {rs:List Pl} {p:Pl} (h:p∉rs):putK (rkv rs) (key3 p.1 p.2.1 p.2.2) (V.bl true)=rkv (rs++[p]):=by
 rw [putK_new (V.bl true) (by rw [valV_rkv,if_neg h])]
 unfold rkv
 rw [List.map_append]
 rfl
section
variable {P:Program} {w:World} {K:PySem.W.Frag} {mg:Str→Option Value} {base:Heap} {C CR CP:Addr}
def spHangs (CP:Addr):Sp:=fun vs H Q _=>∃ (b nm:Addr) (W D Hh g:Int) (cs:CL),vs=[.ref b]∧PtAt CP H b nm W D Hh g cs∧cs.length<20000∧∀ H',Same H H'→Q (.bl (hangC cs)) H'
theorem sc_hangs:FnScope ["part","start","reached","waiting","reached_last","place"] ["part"] (defScope sHangs):=⟨rfl,rfl,rfl,by decide+kernel,rfl,by decide+kernel,by decide+kernel⟩
theorem ok_hangs {f:Addr} {fd:FuncData} (F:Fun K "hangs_together" "hangs_together" sHangs f fd) (T':PtT K CP) (hlen:mg "len"=none) (hlist:mg "list"=none) (L1:Fn0 P w K mg base "neighbours" CX0 2 ["place"] spNeigh):
  FnOk P w K mg base CX0 3 f fd ["part"] (spHangs CP):=by
 obtain ⟨g1,gd1,G1,b1,k1,h1⟩:=L1.ex
 refine F.ok sc_hangs (fun vs H Q E h=>?_) (fun cdv A outer s H vs Q E hr h=>?_)
 ·obtain ⟨b,nm,W,D,Hh,g,cs,rfl,_⟩:=h
  rfl
 ·obtain ⟨b,nm,W,D,Hh,g,cs,rfl,⟨dx,c,hb,hc⟩,hl,k⟩:=h
  have hr2:=hr.mono (j:=2) (by decide)
  have hu:=hu_of hr
  refine ⟨_,pss_cons (ps_if (pt_cmpR op_eq (pe_callB call_lenT (by rfl) hlen PySem.boot_len (pa_cons (pe_fld (pv 0) rfl) pa_nil)) pe_int (nomark _)) (pss_one (ps_ret pe_bl)) pss_nil)
   (pss_cons (ps_set (i:=1) sc_hangs.nd rfl (Or.inl rfl) (pe_ix ix_list (pe_callTy (call_listT rfl) (by rfl) hlist boot_list (pa_cons (pe_fld (pv 0) rfl) pa_nil)) pe_int (fun _ _=>rfl)))
   (pss_cons (ps_set (i:=2) sc_hangs.nd rfl (Or.inl rfl) (pe_disp1 hu (pv 1) pe_bl))
   (pss_cons (ps_set (i:=3) sc_hangs.nd rfl (Or.inl rfl) (pe_lst (pa_cons (pv 1) pa_nil)))
   (pss_cons (ps_while PassesOwn.never (pt_cmp (pc_gt (pe_callB call_len_seq (by rfl) hlen PySem.boot_len (pa_cons (pv 3) pa_nil)) pe_int))
    (pss_cons (ps_set (i:=4) sc_hangs.nd rfl (Or.inl rfl) (pe_bm0 PySem.F.plainAttrs_list PySem.F.slot_list_pop PySem.F.type_list_pop mt_pop (pv 3)))
    (pss_one (ps_for PassesOwn.never rfl (pi_list (pe_call G1 hr2 (by rfl) h1 k1 b1 .nil pass0 (pa_cons (pv 4) pa_nil))) (pg_name (i:=5) sc_hangs.nd rfl (Or.inl rfl))
     (pss_one (ps_if (pw_and (pt_cmp (pc_din hu (pv 5) (pe_fld (pv 0) rfl))) (pw_and1 (pt_cmp (pc_dnotin hu (pv 5) (pv 2))))).pt
      (pss_cons (ps_dput hu (pv 2) (pv 5) pe_bl rfl) (pss_one (ps_expr (pe_bm PySem.F.plainAttrs_list PySem.F.slot_list_append PySem.F.type_list_append mt_append (pv 3) (pa_cons (pv 5) pa_nil))))) pss_nil))))))
   (pss_one (ps_ret (pe_cmpR op_eq (pe_callB call_lenT (by rfl) hlen PySem.boot_len (pa_cons (pv 2) pa_nil)) (pe_callB call_lenT (by rfl) hlen PySem.boot_len (pa_cons (pe_fld (pv 0) rfl) pa_nil)) (nomark _)))))))),?_⟩
  have kl:(kvs cs).length=cs.length:=by unfold kvs;rw [List.length_map]
  have hsl:=sizeLine_big
  refine ⟨_,rfl,b,CP,dx,_,_,rfl,hb,T'.cl,T'.n6,rfl,c,_,rfl,.inl hc,rfl,_,rfl,ite2 (fun h0=>?_) (fun h0=>?_)⟩
  ·rw [dec_eq] at h0
   have h0:=of_decide_eq_true h0
   have e0:cs=[]:=List.length_eq_zero_iff.mp (by (clear hsl hu hl;omega))
   subst e0
   exact k H (Same.id' _)
  ·rw [dec_eq] at h0
   have h0:¬((kvs cs).length:Int)=0:=fun z=>h0 (decide_eq_true z)
   cases cs with
   |nil=>exact absurd rfl h0
   |cons c0 cr=>
   refine ⟨_,rfl,b,CP,dx,_,_,rfl,hb,T'.cl,T'.n6,rfl,c,_,rfl,.inl hc,fun lk ps hlk hps=>?_⟩
   obtain ⟨st,psr,rfl,hst⟩:∃ st psr,ps=st::psr∧H st=some (.tup (plV c0.1)):=by
    cases hps with
    |cons r t=>exact ⟨_,_,rfl,r⟩
   have S1:=Same.new (o:=.lst ((st::psr).map V.ref)) hlk
   refine ⟨lk,_,0,.ref st,rfl,rfl,SqL.of upd_same,atI_nat (j:=0) rfl,?_⟩
   have hst1:=S1 _ _ hst
   generalize upd H lk (.lst ((st::psr).map V.ref))=H1 at S1 hst1
   intro d hd
   have S2:=Same.new (o:=.dT []) hd
   refine ⟨_,rfl,upd_same,st,key3 c0.1.1 c0.1.2.1 c0.1.2.2,rfl,S2 _ _ hst1,?_⟩
   refine ⟨_,rfl,by show 1≤sizeLine;decide,fun l hl'=>?_⟩
   have dd0:upd (upd H1 d (.dT [])) d (.dT [(key3 c0.1.1 c0.1.2.1 c0.1.2.2,V.bl true)])=upd H1 d (.dT (rkv [c0.1])):=by
    funext x
    by_cases hx:x=d
    ·rw [hx,upd_same,upd_same];rfl
    ·rw [upd_ne hx,upd_ne hx,upd_ne hx]
   rw [dd0] at hl' ⊢
   have S3:Same H1 (upd H1 d (.dT (rkv [c0.1]))):=Same.new hd
   have S4:=Same.new (o:=.lst [V.ref st]) hl'
   have hdH:H d=none:=S1.free hd
   have hlH:H l=none:=(S1.trans S3).free hl'
   have ndl:d≠l:=fun z=>by rw [←z,upd_same] at hl';cases hl'
   have hb':∀ {H':Hp},Same H H'→H' b=some (.ins CP dx (PtF nm W D Hh g c)):=fun s=>s _ _ hb
   have hc':∀ {H':Hp},Same H H'→H' c=some (.dT (kvs (c0::cr))):=fun s=>s _ _ hc
   generalize hcs:c0::cr=cs at *
   refine ⟨fun m σ H'=>∃ rs ws qs v4 v5,σ=[some (.ref b),some (.ref st),some (.ref d),some (.ref l),v4,v5]∧HS CP H cs d l rs ws qs H'∧ws.length+unr cs rs≤m∧hangRun cs cs.length [c0.1] [c0.1]=hangRun cs m rs ws,
    ⟨cs.length,[c0.1],[c0.1],[st],none,none,rfl,⟨(S1.trans S3).trans S4,S4 _ _ upd_same,upd_same,.cons (S4 _ _ (S3 _ _ hst1)) .nil,?_,Nat.le_refl _⟩,?_,rfl⟩,?_⟩
   ·have u1:unr cs [c0.1]+1≤cs.length:=by
     have z:=unr_push (p:=c0.1) (rs:=[]) (cs:=cs) (by simp) (getC_some.mpr ⟨c0,by rw [←hcs];exact List.mem_cons_self,rfl⟩)
     have z2:unr cs []≤cs.length:=List.length_filter_le _ _
     exact Nat.le_trans z z2
    show 1+unr cs [c0.1]≤cs.length
    (clear h0 kl hl hsl hu;omega)
   ·have u1:unr cs [c0.1]+1≤cs.length:=by
     have z:=unr_push (p:=c0.1) (rs:=[]) (cs:=cs) (by simp) (getC_some.mpr ⟨c0,by rw [←hcs];exact List.mem_cons_self,rfl⟩)
     have z2:unr cs []≤cs.length:=List.length_filter_le _ _
     exact Nat.le_trans z z2
    show 1+unr cs [c0.1]≤cs.length
    (clear h0 kl hl hsl hu;omega)
   ·rintro m σ H2 ⟨rs,ws,qs,v4,v5,rfl,hs,hm,er⟩
    have ql:qs.length=ws.length:=Paired.length hs.pl
    refine ⟨_,rfl,l,_,rfl,.inl (SqL.of hs.ll),_,_,rfl,rfl,_,rfl,ite2 (fun hw=>?_) (fun hw=>?_)⟩
    ·have hw:(0:Int)<((qs.map V.ref).length:Int):=of_decide_eq_true hw
     rw [List.length_map] at hw
     obtain ⟨n,rfl⟩:∃ n,m=n+1:=⟨m - 1,by (clear h0 kl hl hsl hu;omega)⟩
     obtain ⟨q,eq⟩:∃ q,ws[ws.length - 1]?=some q:=⟨_,List.getElem?_eq_getElem (by (clear hm h0 kl hl hsl hu;omega))⟩
     obtain ⟨qa,eqa,hqa⟩:=paired_at hs.pl eq
     have elast:ws.getLast?=some q:=by rw [List.getLast?_eq_getElem?];exact eq
     have er2:hangRun cs (n+1) rs ws=hangRun cs n ((nbP q).foldl (stepN cs) (rs,ws.dropLast)).1 ((nbP q).foldl (stepN cs) (rs,ws.dropLast)).2:=by
      rw [hangRun,elast]
     have hwd:ws.dropLast.length+1=ws.length:=by rw [List.length_dropLast];(clear hm h0 kl hl hsl hu;omega)
     have nq:qa≠l:=fun z=>by rw [z,hs.ll] at hqa;cases hqa
     refine ⟨fun σ' H'=>∃ rs ws qs v4 v5,σ'=[some (.ref b),some (.ref st),some (.ref d),some (.ref l),v4,v5]∧HS CP H cs d l rs ws qs H'∧ws.length+unr cs rs≤n∧hangRun cs cs.length [c0.1] [c0.1]=hangRun cs n rs ws,fun σ' H' z=>⟨n,Nat.lt_succ_self n,z⟩,?_⟩
     refine ⟨_,rfl,.inl ⟨rfl,_,SqL.of hs.ll⟩,l,_,.ref qa,rfl,rfl,hs.ll,(by rw [List.length_map,List.getElem?_map,ql,eqa];rfl),?_⟩
     have hs3:HS CP H cs d l rs ws.dropLast qs.dropLast (upd H2 l (.lst (qs.map V.ref).dropLast)):=⟨fun x o e=>by rw [upd_ne (ne_of_none e hlH)];exact hs.sm _ _ e,by rw [upd_ne ndl];exact hs.dd,by rw [upd_same,List.map_dropLast],PlsAt.upd (paired_drop hs.pl) hs.ll (fun xs z=>by cases z),hs.c1,by have:=hs.c2;(clear hm hw ql h0 kl hl hsl hu;omega)⟩
     have hqa3:upd H2 l (.lst (qs.map V.ref).dropLast) qa=some (.tup (plV q)):=by rw [upd_ne nq];exact hqa
     generalize upd H2 l (.lst (qs.map V.ref).dropLast)=H3 at hs3 hqa3
     refine ⟨_,rfl,qa,q,rfl,hqa3,fun H4 nl ns S4 hnl hln pns=>?_⟩
     have nd:nl≠d:=fun z=>by rw [z,hs3.dd] at hnl;cases hnl
     have nll:nl≠l:=fun z=>by rw [z,hs3.ll] at hnl;cases hnl
     have hs4:=hs3.same S4
     refine ⟨nl,rfl,⟨_,SqL.of hln⟩,?_⟩
     refine for_list (xs:=ns.map V.ref) (fun i σ H'=>∃ rs' ws' qs' v5,σ=[some (.ref b),some (.ref st),some (.ref d),some (.ref l),some (.ref qa),v5]∧HS CP H cs d l rs' ws' qs' H'∧ws'.length+unr cs rs'≤n∧((nbP q).take i).foldl (stepN cs) (rs,ws.dropLast)=(rs',ws')∧H' nl=some (.lst (ns.map V.ref))∧PlsAt H' ns (nbP q))
      ⟨rs,ws.dropLast,qs.dropLast,v5,rfl,hs4,by (clear hw ql h0 kl hl hsl hu;omega),rfl,hln,pns⟩ (fun i σ H' _ z=>by obtain ⟨_,_,_,_,_,_,_,_,z,_⟩:=z;exact SqL.of z) ?_ ?_
     ·rintro i x σ H5 ex ⟨rs',ws',qs',v5,rfl,hs5,hm5,ef,hn5,pn5⟩
      have hi:i<ns.length:=by
       have:=(List.getElem?_eq_some_iff.mp ex).1
       rwa [List.length_map] at this
      have nsl:ns.length=(nbP q).length:=Paired.length pn5
      obtain ⟨p,ep⟩:∃ p,(nbP q)[i]?=some p:=⟨_,List.getElem?_eq_getElem (by (clear hm5 hwd hm hw ql h0 kl hl hsl hu;omega))⟩
      obtain ⟨pa,epa,hpa⟩:=paired_at pn5 ep
      rw [List.getElem?_map,epa] at ex
      cases ex
      have ef2:((nbP q).take (i+1)).foldl (stepN cs) (rs,ws.dropLast)=stepN cs (rs',ws') p:=by
       rw [List.take_succ,ep,List.foldl_append,ef]
       rfl
      have stay:¬((getC cs p).isSome=true∧p∉rs')→((nbP q).take (i+1)).foldl (stepN cs) (rs,ws.dropLast)=(rs',ws'):=fun z=>by
       rw [ef2]
       exact if_neg z
      have hl5:ws'.length≤rs'.length:=hs5.c2
      have hl6:=hs5.c1
      refine ⟨_,rfl,_,rfl,b,CP,dx,_,_,rfl,hb' hs5.sm,T'.cl,T'.n6,rfl,c,_,rfl,din_of (hc' hs5.sm) hpa,_,rfl,ite2 (fun hin=>?_) (fun hin=>iteF ⟨rs',ws',qs',_,rfl,hs5,hm5,stay (fun z=>hin (by rw [Option.isSome_map];exact z.1)),hn5,pn5⟩)⟩
      rw [Option.isSome_map] at hin
      refine ⟨_,rfl,_,rfl,d,_,rfl,DGet.t (k:=key3 p.1 p.2.1 p.2.2) hs5.dd hpa,_,rfl,ite2 (fun hno=>?_) (fun hno=>?_)⟩
      ·have hnp:p∉rs':=fun z=>by
        rw [valV_rkv,if_pos z] at hno
        cases hno
       have hpu:=unr_push hnp hin
       refine ⟨_,rfl,_,rfl,d,_,rfl,DPut.t (k:=key3 p.1 p.2.1 p.2.2) hs5.dd hpa (by unfold rkv;rw [List.length_map];(clear hpu hnp hl5 nsl hi hm5 hwd hm hw ql h0 kl hu;omega)),?_⟩
       rw [rkv_snoc hnp]
       have ndl':l≠d:=Ne.symm ndl
       have ql5:qs'.length=ws'.length:=Paired.length hs5.pl
       have ll6:upd H5 d (.dT (rkv (rs'++[p]))) l=some (.lst (qs'.map V.ref)):=by rw [upd_ne ndl'];exact hs5.ll
       refine ⟨_,rfl,.inl ⟨rfl,_,SqL.of ll6⟩,_,rfl,l,_,_,rfl,rfl,ll6,by rw [List.length_map];(clear hpu hnp nsl hi hm5 hwd hm hw ql h0 kl hu;omega),?_⟩
       have npd:pa≠d:=fun z=>by rw [z,hs5.dd] at hpa;cases hpa
       have npl:pa≠l:=fun z=>by rw [z,hs5.ll] at hpa;cases hpa
       have pl6:∀ {qq:List Addr} {pp:List Pl},PlsAt H5 qq pp→PlsAt (upd (upd H5 d (.dT (rkv (rs'++[p])))) l (.lst (qs'.map V.ref++[V.ref pa]))) qq pp:=fun z=>PlsAt.upd (PlsAt.upd z hs5.dd (fun xs z=>by cases z)) ll6 (fun xs z=>by cases z)
       refine ⟨rs'++[p],ws'++[p],qs'++[pa],_,rfl,⟨fun x o e=>?_,by rw [upd_ne ndl,upd_same],by rw [upd_same,List.map_append];rfl,Paired.snoc (pl6 hs5.pl) (by rw [upd_ne npl,upd_ne npd];exact hpa),?_,?_⟩,?_,?_,by rw [upd_ne nll,upd_ne nd];exact hn5,pl6 pn5⟩
       ·rw [upd_ne (ne_of_none e hlH),upd_ne (ne_of_none e hdH)]
        exact hs5.sm _ _ e
       ·rw [List.length_append]
        show rs'.length+1+_≤_
        (clear ql5 hnp hl5 nsl hi hm5 hwd hm hw ql h0 kl hl hsl hu;omega)
       ·rw [List.length_append,List.length_append]
        show ws'.length+1≤rs'.length+1
        (clear ql5 hpu hnp hl6 nsl hi hm5 hwd hm hw ql h0 kl hl hsl hu;omega)
       ·rw [List.length_append]
        show ws'.length+1+_≤_
        (clear ql5 hnp hl6 hl5 nsl hi hwd hm hw ql h0 kl hl hsl hu;omega)
       ·rw [ef2]
        exact if_pos ⟨hin,hnp⟩
      ·refine ⟨rs',ws',qs',_,rfl,hs5,hm5,stay (fun z=>hno ?_),hn5,pn5⟩
       rw [valV_rkv,if_neg z.2]
       rfl
     ·rintro σ H5 ⟨rs',ws',qs',v5,rfl,hs5,hm5,ef,hn5,pn5⟩
      have nsl:ns.length=(nbP q).length:=Paired.length pn5
      rw [List.length_map,nsl,List.take_length] at ef
      refine ⟨rs',ws',qs',_,v5,rfl,hs5,hm5,?_⟩
      rw [er,er2,ef]
    ·have hw:¬(0:Int)<((qs.map V.ref).length:Int):=fun z=>hw (decide_eq_true z)
     rw [List.length_map] at hw
     have e0:ws=[]:=List.length_eq_zero_iff.mp (by (clear hm h0 kl hl hsl hu;omega))
     subst e0
     have er3:hangRun cs m rs []=rs:=by cases m<;>rfl
     refine ⟨_,rfl,d,_,rfl,.inl hs.dd,_,rfl,b,CP,dx,_,_,rfl,hb' hs.sm,T'.cl,T'.n6,rfl,c,_,rfl,.inl (hc' hs.sm),rfl,?_⟩
     have kk:=k H2 hs.sm
     have e5:hangC cs=decide (V.int ((rkv rs).length:Int)=V.int ((kvs cs).length:Int)):=by
      rw [dec_eq]
      have e6:hangC cs=decide ((hangRun cs cs.length [c0.1] [c0.1]).length=cs.length):=by rw [←hcs];rfl
      rw [e6,er,er3,kl]
      unfold rkv
      rw [List.length_map,decide_eq_decide]
      (clear ql hm hw h0 kl hl hsl hu;omega)
     rw [e5] at kk
     exact kk
end
end Br1
set_option Elab.async false
set_option linter.all false
set_option maxRecDepth 100000
set_option maxHeartbeats 2000000
namespace Br1
open PySem PySem.Spec PyProof.Rows L2
def csRow (y z:Nat):Nat→List Int→CL
 |_,[]=>[]
 |x,s::r=>(if s=46 then [] else [(((x:Int),(y:Int),(z:Int)),s)])++csRow y z (x+1) r
def csRows (d:Nat):Nat→List (List Int)→CL
 |_,[]=>[]
 |j,r::rs=>csRow (j % d) (j / d) 0 r++csRows d (j+1) rs
theorem kvRow_cs (y z:Nat):∀ (xs:List Int) (x:Nat),kvRow y z x xs=kvs (csRow y z x xs)
 |[],x=>rfl
 |s::r,x=>by
  rw [kvRow,csRow,kvRow_cs y z r (x+1)]
  unfold kvs
  rw [List.map_append]
  split<;>rfl
theorem kvRows_cs (d:Nat):∀ (rs:List (List Int)) (j:Nat),kvRows d j rs=kvs (csRows d j rs)
 |[],j=>rfl
 |r::rs,j=>by
  rw [kvRows,csRows,kvRow_cs,kvRows_cs d rs (j+1)]
  unfold kvs
  rw [List.map_append]
def csP (pr:PartR):CL:=csRows pr.d 0 pr.rows
def rightC (cs:CL) (W D Hh:Int):Bool:=studsC cs && (tubesC cs && (fillsC cs W D Hh && hangC cs))
def prRight (pr:PartR):Bool:=rightC (csP pr) pr.w pr.d pr.h
def catOk (prs:List PartR):Bool:=prs.all prRight && growC (prs.map (·.name))
theorem PartAt.pt {CP:Addr} {H:Hp} {b:Addr} {pr:PartR} (h:PartAt CP H b pr):∃ nm,PtAt CP H b nm pr.w pr.d pr.h pr.g (csP pr):=by
 obtain ⟨dx,nm,c,h1,h2,h3⟩:=h
 exact ⟨nm,dx,c,h1,by rw [h3,kvRows_cs];rfl⟩
theorem PartAt.nm {CP:Addr} {H:Hp} {b:Addr} {pr:PartR} (h:PartAt CP H b pr):NmAt CP H b pr.name:=by
 obtain ⟨dx,nm,c,h1,h2,h3⟩:=h
 exact ⟨dx,nm,_,_,_,_,c,h1,h2⟩
theorem PartOk.len {pr:PartR} (h:PartOk pr):(csP pr).length<20000:=by
 have e:(csP pr).length=(kvRows pr.d 0 pr.rows).length:=by
  rw [kvRows_cs]
  unfold kvs csP
  rw [List.length_map]
 have h1:=kvRows_len pr.d pr.w pr.rows 0 h.rw
 have h2:pr.rows.length * pr.w≤(16 * 18) * 16:=by
  rw [h.rl]
  exact Nat.mul_le_mul (Nat.mul_le_mul h.d2 h.h2) h.w2
 omega
section
variable {P:Program} {w:World} {K:PySem.W.Frag} {mg:Str→Option Value} {base:Heap} {C CR CP:Addr}
def spRight (CP:Addr):Sp:=fun vs H Q _=>∃ (b nm:Addr) (W D Hh g:Int) (cs:CL),vs=[.ref b]∧PtAt CP H b nm W D Hh g cs∧cs.length<20000∧∀ H',Same H H'→Q (.bl (rightC cs W D Hh)) H'
theorem PtAt.same {H H':Hp} {b nm:Addr} {W D Hh g:Int} {cs:CL} (h:PtAt CP H b nm W D Hh g cs) (s:Same H H'):PtAt CP H' b nm W D Hh g cs:=by
 obtain ⟨dx,c,h1,h2⟩:=h
 exact ⟨dx,c,s _ _ h1,s _ _ h2⟩
theorem sc_right:FnScope ["part"] ["part"] (defScope sPartRight):=⟨rfl,rfl,rfl,by decide+kernel,rfl,by decide+kernel,by decide+kernel⟩
theorem ok_right {f:Addr} {fd:FuncData} (F:Fun K "part_right" "part_right" sPartRight f fd) (L1:Fn0 P w K mg base "studs_clear" CX0 2 ["part"] (spStuds CP)) (L2:Fn0 P w K mg base "tubes_clear" CX0 2 ["part"] (spTubes CP))
  (L3:Fn0 P w K mg base "fills_its_box" CX0 2 ["part"] (spFills CP)) (L4:Fn0 P w K mg base "hangs_together" CX0 3 ["part"] (spHangs CP)):FnOk P w K mg base CX0 4 f fd ["part"] (spRight CP):=by
 obtain ⟨g1,gd1,G1,b1,k1,h1⟩:=L1.ex
 obtain ⟨g2,gd2,G2,b2,k2,h2⟩:=L2.ex
 obtain ⟨g3,gd3,G3,b3,k3,h3⟩:=L3.ex
 obtain ⟨g4,gd4,G4,b4,k4,h4⟩:=L4.ex
 refine F.ok sc_right (fun vs H Q E h=>?_) (fun cdv A outer s H vs Q E hr h=>?_)
 ·obtain ⟨b,nm,W,D,Hh,g,cs,rfl,_⟩:=h
  rfl
 ·obtain ⟨b,nm,W,D,Hh,g,cs,rfl,hp,hl,k⟩:=h
  have hr2:=hr.mono (j:=2) (by decide)
  have hr3:=hr.mono (j:=3) (by decide)
  refine ⟨_,pss_one (ps_ret (pe_and (pe_call G1 hr2 (by rfl) h1 k1 b1 .nil pass0 (pa_cons (pv 0) pa_nil)) (pe_and (pe_call G2 hr2 (by rfl) h2 k2 b2 .nil pass0 (pa_cons (pv 0) pa_nil))
   (pe_and (pe_call G3 hr2 (by rfl) h3 k3 b3 .nil pass0 (pa_cons (pv 0) pa_nil)) (pe_one (pe_call G4 hr3 (by rfl) h4 k4 b4 .nil pass0 (pa_cons (pv 0) pa_nil))))))),?_⟩
  unfold rightC at k
  refine ⟨_,rfl,b,nm,W,D,Hh,g,cs,rfl,hp,fun H1 S1=>⟨_,rfl,ite2 (fun e1=>?_) (fun e1=>?_)⟩⟩
  ·rw [e1,Bool.true_and] at k
   refine ⟨_,rfl,b,nm,W,D,Hh,g,cs,rfl,hp.same S1,fun H2 S2=>⟨_,rfl,ite2 (fun e2=>?_) (fun e2=>?_)⟩⟩
   ·rw [e2,Bool.true_and] at k
    have S2:=S1.trans S2
    refine ⟨_,rfl,b,nm,W,D,Hh,g,cs,rfl,hp.same S2,hl,fun H3 S3=>⟨_,rfl,ite2 (fun e3=>?_) (fun e3=>?_)⟩⟩
    ·rw [e3,Bool.true_and] at k
     have S3:=S2.trans S3
     exact ⟨_,rfl,b,nm,W,D,Hh,g,cs,rfl,hp.same S3,hl,fun H4 S4=>k H4 (S3.trans S4)⟩
    ·rw [bool_not e3,Bool.false_and] at k
     exact k H3 (S2.trans S3)
   ·rw [bool_not e2,Bool.false_and] at k
    exact k H2 (S1.trans S2)
  ·rw [bool_not e1,Bool.false_and] at k
   exact k H1 S1
def spCatRight (K:PySem.W.Frag) (CP:Addr):Sp:=fun vs H Q _=>∃ (a:Addr) (bs:List Addr) (prs:List PartR),vs=[.ref a]∧SqL K H a (bs.map V.ref)∧PartsAt CP H bs prs∧1≤prs.length∧prs.length≤64∧∀ H',Same H H'→Q (.bl (catOk prs)) H'
theorem sc_catRight:FnScope ["parts","part"] ["parts"] (defScope sCatRight):=⟨rfl,rfl,rfl,by decide+kernel,rfl,by decide+kernel,by decide+kernel⟩
theorem ok_catRight {f:Addr} {fd:FuncData} (F:Fun K "catalogue_right" "catalogue_right" sCatRight f fd) (hall:mg "all"=none) (L1:Fn0 P w K mg base "part_right" CX0 4 ["part"] (spRight CP)) (L2:Fn0 P w K mg base "names_grow" CX0 2 ["parts"] (spGrow K CP)):
  FnOk P w K mg base CX0 5 f fd ["parts"] (spCatRight K CP):=by
 obtain ⟨g1,gd1,G1,b1,k1,h1⟩:=L1.ex
 obtain ⟨g2,gd2,G2,b2,k2,h2⟩:=L2.ex
 refine F.ok sc_catRight (fun vs H Q E h=>?_) (fun cdv A outer s H vs Q E hr h=>?_)
 ·obtain ⟨a,bs,prs,rfl,_⟩:=h
  rfl
 ·obtain ⟨a,bs,prs,rfl,ha,hp,hn1,hn,k⟩:=h
  have hr2:=hr.mono (j:=2) (by decide)
  have hr4:=hr.mono (j:=4) (by decide)
  refine ⟨_,pss_one (ps_ret (pe_and (pe_callB (cr_all rfl) (by rfl) hall boot_all (pa_cons (pe_lc (own:=[("part",1)]) (te:=tCall (spRight CP) [] E0 (tCons (tVar 1) tNil)) rfl sc_catRight.nd (pi_list (pv 0)) (blkOk_by (N:=["parts","part"]) (sc:=defScope sCatRight) (by decide+kernel))
      (fun _ _ _ _ _=>pg_name (i:=1) sc_catRight.nd rfl (Or.inl rfl)) (fun _ _ _ _ _=>pts_nil) (fun _ _ _ _ _=>pe_call G1 hr4 (by rfl) h1 k1 b1 .nil pass0 (pa_cons (pv 1) pa_nil))) pa_nil))
    (pe_one (pe_call G2 hr2 (by rfl) h2 k2 b2 .nil pass0 (pa_cons (pv 0) pa_nil))))),?_⟩
  have hbl:bs.length=prs.length:=Paired.length hp
  have hsl:=sizeLine_big
  refine ⟨_,rfl,a,rfl,⟨_,ha⟩,fun Dl hDl=>?_⟩
  refine lc_list (xs:=bs.map V.ref) (fun i H'=>Same H H'∧H' Dl=some (.lst (((prs.take i).map prRight).map V.bl))) ⟨Same.new hDl,upd_same⟩ (fun i H' _ z=>z.1.seq ha) ?_ ?_
  ·rintro i x H1 ex ⟨S1,hD1⟩
   have hi:i<prs.length:=by
    have:=(List.getElem?_eq_some_iff.mp ex).1
    rwa [List.length_map,hbl] at this
   obtain ⟨pr,ep⟩:∃ pr,prs[i]?=some pr:=⟨_,List.getElem?_eq_getElem hi⟩
   obtain ⟨b,eb,pa,po⟩:=paired_at hp ep
   rw [List.getElem?_map,eb] at ex
   cases ex
   obtain ⟨nm,pt⟩:=pa.pt
   refine ⟨rfl,_,rfl,b,nm,_,_,_,_,_,rfl,pt.same S1,po.len,fun H2 S2=>⟨_,S2 _ _ hD1,?_,?_,?_⟩⟩
   ·rw [List.length_map,List.length_map,List.length_take]
    (clear hi hbl hn1;omega)
   ·intro b' o e
    rw [upd_ne (ne_of_none e hDl)]
    exact S2 _ _ (S1 _ _ e)
   ·rw [upd_same,List.take_succ,ep,List.map_append,List.map_append]
    rfl
  ·rintro H1 ⟨S1,hD1⟩
   rw [List.length_map,hbl,List.take_length] at hD1
   refine ⟨Dl,_,rfl,SqL.of hD1,_,rfl,ite2 (fun e1=>?_) (fun e1=>?_)⟩
   ·refine ⟨_,rfl,a,bs,prs.map (·.name),rfl,S1.seq ha,?_,by rw [List.length_map];exact hn1,by rw [List.length_map];exact hn,?_⟩
    ·have key:∀ {bs:List Addr} {prs:List PartR},PartsAt CP H bs prs→Paired (NmAt CP H1) bs (prs.map (·.name)):=by
      intro bs prs z
      unfold PartsAt at z
      induction z with
      |nil=>exact .nil
      |cons h t ih=>exact .cons (h.1.same S1).nm ih
     exact key hp
    ·have kk:=k H1 S1
     unfold catOk at kk
     rw [List.all_map] at e1
     have e1:prs.all prRight=true:=e1
     rw [e1,Bool.true_and] at kk
     exact kk
   ·have kk:=k H1 S1
    unfold catOk at kk
    rw [List.all_map] at e1
    have e1:¬prs.all prRight=true:=e1
    rw [bool_not e1,Bool.false_and] at kk
    exact kk
end
end Br1
set_option Elab.async false
set_option linter.all false
set_option maxRecDepth 100000
set_option maxHeartbeats 1000000
namespace HT
open PySem PyProof.Rows
section
variable {prog:Program} {w:World} {A:Around} {E:Value→Shared→Prop} {s:Shared}
theorem getItem_tuple_whole {t sl:Addr} {items:Array Value} {vl vu:Value} {lo hi:Option Int} {Q:Value→Shared→Prop} (ht:IsTup s.heap t items) (hs:s.heap.IsSliceOf sl vl vu .none) (pl:IsPart vl lo) (pu:IsPart vu hi)
  (hw:sIx items.size 0 lo=0∧sIx items.size items.size hi=items.size) (h:Q (.ref t) s):wpAny (model prog w) A (getItem (.ref t) (.ref sl)) Q E s:=by
 obtain ⟨os,hos,hcs,hds⟩:=id hs
 have hTs:s.TypeIs (.ref sl) "slice":=⟨os,hos,hcs⟩
 unfold getItem
 try with_reducible refine wpAny_holding ?_
 first|refine wpAny_bind (wpAny_pure ?_)|skip
 refine wpAny_bind (wpAny_sequenceKey ht.typeIs (by decide) ?_)
 refine wpAny_bind (wpAny_callSpecial?_slot (name:=Str.ofString "__getitem__") ht.typeIs PyProof.Rows.slot_tuple_getitem
  (wpAny_call_entry PyProof.Rows.slot_tuple_getitem ht.typeIs entry_tuple_getitem ?_ (args_tuple_getitem _ _)))
 show wpAny _ _ (Builtin.Tuple.tupleItemsOf (.ref t)>>=_) _ _ s
 refine wpAny_bind (tupleItemsOf_ ht ?_)
 refine wpAny_bind (wpAny_typeOf hTs ?_)
 rw [if_pos (by decide)]
 refine wpAny_bind (sliceApplied_gen hs pl pu ?_)
 have hyes:((((sIx items.size 0 lo:Nat):Int)==0 && (1:Int)==1 && (sIx items.size items.size hi - sIx items.size 0 lo)==items.size)=true):=by
  rw [hw.1,hw.2]
  simp
 show wpAny _ _ (if (((sIx items.size 0 lo:Nat):Int)==0 && (1:Int)==1 && (sIx items.size items.size hi - sIx items.size 0 lo)==items.size)=true then _ else _) _ _ s
 rw [if_pos hyes]
 unfold Builtin.Tuple.tupleIsExact
 refine wpAny_bind (wpAny_bind (wpAny_typeOf ht.typeIs (wpAny_pure ?_)))
 rw [if_pos (by decide)]
 exact wpAny_bind (wpAny_rule (wpAny_pure ⟨_,rfl,wpAny_pure h⟩))
end
end HT
namespace L2
open PySem PySem.Spec PyProof.Rows
section
variable {X:Cx}
def rSlU (K:PySem.W.Frag):V→Option Int→Option Int→Hp→VK→Prop:=fun x lo hi H Q=>∃ a xs,x=.ref a∧SqT K H a xs∧∀ p H',Same H H'→SqT K H' p (cutV xs lo hi)→Q (.ref p) H'
theorem sl_tupU:SlR X (rSlU X.K):=by
 intro pins s σ H x v vl vu lo hi sl Q I rx hs pl pu h
 obtain ⟨a,xs,rfl,hx,q⟩:=h
 by_cases hw:HT.sIx xs.length 0 lo=0∧HT.sIx xs.length xs.length hi=xs.length
 ·cases rx
  obtain ⟨its,r,ht,hz⟩:=I.tuple hx
  have hlen:its.toArray.size=xs.length:=by rw [List.size_toArray];exact r.length.symm
  refine ⟨"tuple",_,PyProof.Rows.slot_tuple_getitem.lookup,ht.typeIs,?_⟩
  refine HT.getItem_tuple_whole ht hs pl pu (by rw [hlen];exact hw) ⟨.ref a,H,I,rfl,q a H (fun _ _ e=>e) ?_⟩
  have e:cutV xs lo hi=xs:=by
   unfold cutV
   rw [hw.1,hw.2,List.drop_zero,Nat.sub_zero,List.take_length]
  rw [e]
  exact hx
 ·exact sl_tup pins s σ H _ v vl vu lo hi sl Q I rx hs pl pu ⟨a,xs,rfl,hx,hw,fun p hp=>q p _ (fun b o e=>by rw [upd_ne (ne_of_none e hp)];exact e) (SqT.of upd_same)⟩
end
end L2
set_option Elab.async false
set_option linter.all false
set_option maxRecDepth 100000
set_option maxHeartbeats 2000000
namespace L2
open PySem PySem.Spec PyProof.Rows
theorem Same.seqT {K:PySem.W.Frag} {H H':Hp} {a:Addr} {xs:List V} (e:Same H H') (h:SqT K H a xs):SqT K H' a xs:=by
 rcases h with (h|⟨o,h⟩)|h
 ·exact .inl (.inl (e _ _ h))
 ·exact .inl (.inr ⟨o,e _ _ h⟩)
 ·exact .inr h
end L2
namespace Br1
open PySem PySem.Spec PyProof.Rows L2
def beginsC (nss:List (List Int)) (ns:List Int):Bool:=nss.any fun m=>decide (m.take ns.length=ns)
theorem cut_take (m:List Int) (k:Nat):cutV (m.map V.int) none (some (k:Int))=(m.take k).map V.int:=by
 unfold cutV
 rw [HT.sIx_none,HT.sIx_nat,Nat.sub_zero,List.drop_zero,List.length_map]
 rw [←List.map_take]
 congr 1
 by_cases h:k≤m.length
 ·rw [Nat.min_eq_left h]
 ·rw [Nat.min_eq_right (by omega),List.take_length,List.take_of_length_le (by omega)]
section
variable {P:Program} {w:World} {K:PySem.W.Frag} {mg:Str→Option Value} {base:Heap} {C CR CP:Addr}
theorem TsAt.same {H H':Hp} {xs:List V} {nss:List (List Int)} (h:TsAt K H xs nss) (s:Same H H'):TsAt K H' xs nss:=Paired.mapP h fun x ns z=>by
 obtain ⟨p,e,t⟩:=z
 exact ⟨p,e,s.seqT t⟩
def spBegins (K:PySem.W.Frag):Sp:=fun vs H Q _=>∃ (a q:Addr) (xs:List V) (nss:List (List Int)) (ns:List Int),vs=[.ref a,.ref q]∧SqL K H a xs∧TsAt K H xs nss∧SqT K H q (ns.map V.int)∧nss.length≤64∧∀ H',Same H H'→Q (.bl (beginsC nss ns)) H'
theorem sc_begins:FnScope ["names","beginning","name"] ["names","beginning"] (defScope sBegins):=⟨rfl,rfl,rfl,by decide+kernel,rfl,by decide+kernel,by decide+kernel⟩
def rLen (K:PySem.W.Frag):List V→Hp→VK→Prop:=fun xs H Q=>∃ p ys,xs=[.ref p]∧(SqL K H p ys∨SqT K H p ys)∧Q (.int ys.length) H
theorem ok_begins {f:Addr} {fd:FuncData} (F:Fun K "some_begins" "some_begins" sBegins f fd) (hany:mg "any"=none) (hlen:mg "len"=none):FnOk P w K mg base CX0 2 f fd ["names","beginning"] (spBegins K):=by
 refine F.ok sc_begins (fun vs H Q E h=>?_) (fun cdv A outer s H vs Q E hr h=>?_)
 ·obtain ⟨a,q,xs,nss,ns,rfl,_⟩:=h
  rfl
 ·obtain ⟨a,q,xs,nss,ns,rfl,ha,ht,hq,hn,k⟩:=h
  have hu:=hu_of hr
  refine ⟨_,pss_one (ps_ret (pe_callB (cr_any rfl) (by rfl) hany boot_any (pa_cons (pe_lc (own:=[("name",2)]) (te:=tOp (rEqT K) (tSl (rSlU K) (tVar 2) tNoPart (tPart (tCB (rLen K) (tCons (tVar 1) tNil)))) (tVar 1)) rfl sc_begins.nd (pi_list (pv 0)) (blkOk_by (N:=["names","beginning","name"]) (sc:=defScope sBegins) (by decide+kernel))
      (fun _ _ _ _ _=>pg_name (i:=2) sc_begins.nd rfl (Or.inl rfl)) (fun _ _ _ _ _=>pts_nil)
      (fun _ _ _ _ _=>pe_cmpR (r:=rEqT K) (op_eqT (Nat.lt_of_succ_lt hu)) (pe_slice (r:=rSlU K) sl_tupU (pv 2) po_none (po_some (pe_callB (r:=rLen K) call_len_seq (by rfl) hlen PySem.boot_len (pa_cons (pv 1) pa_nil)))) (pv 1) (nomark _))) pa_nil))),?_⟩
  have hxl:xs.length=nss.length:=Paired.length ht
  have hsl:=sizeLine_big
  refine ⟨_,rfl,a,rfl,⟨_,ha⟩,fun Dl hDl=>?_⟩
  refine lc_list (xs:=xs) (fun i H'=>Same H H'∧H' Dl=some (.lst (((nss.take i).map fun m=>decide (m.take ns.length=ns)).map V.bl))) ⟨Same.new hDl,upd_same⟩ (fun i H' _ z=>z.1.seq ha) ?_ ?_
  ·rintro i x H1 ex ⟨S1,hD1⟩
   have hi:i<nss.length:=by
    have:=(List.getElem?_eq_some_iff.mp ex).1
    (clear hsl hu hn;omega)
   obtain ⟨m,em⟩:∃ m,nss[i]?=some m:=⟨_,List.getElem?_eq_getElem hi⟩
   obtain ⟨x',ex',p,rfl,hp⟩:=paired_at ht em
   rw [ex'] at ex
   cases ex
   have hl:((ns.map V.int).length:Int)=(ns.length:Int):=by rw [List.length_map]
   refine ⟨rfl,_,rfl,_,rfl,q,_,rfl,.inr (S1.seqT hq),_,rfl,p,_,rfl,S1.seqT hp,fun p2 H2 S2 hp2=>?_⟩
   rw [hl,cut_take] at hp2
   refine ⟨_,rfl,p2,q,_,_,rfl,rfl,hp2,S2.seqT (S1.seqT hq),_,S2 _ _ hD1,?_,?_,?_⟩
   ·rw [List.length_map,List.length_map,List.length_take]
    (clear hl hi hxl hu;omega)
   ·intro b' o e
    rw [upd_ne (ne_of_none e hDl)]
    exact S2 _ _ (S1 _ _ e)
   ·rw [upd_same,List.take_succ,em,List.map_append,List.map_append]
    rfl
  ·rintro H1 ⟨S1,hD1⟩
   rw [hxl,List.take_length] at hD1
   refine ⟨Dl,_,rfl,SqL.of hD1,?_⟩
   have kk:=k H1 S1
   unfold beginsC at kk
   rw [List.any_map]
   exact kk
end
end Br1
set_option Elab.async false
set_option linter.all false
set_option maxRecDepth 100000
set_option maxHeartbeats 2000000
namespace Br1
open PySem PySem.Spec PyProof.Rows L2
def begRun (nss:List (List Int)) (l:List Int):Nat→Nat→List Int→List Int×Nat
 |0,p,acc=>(acc,p)
 |n+1,p,acc=>if beginsC nss (acc++[hereI l p])=true then begRun nss l n (p+1) (acc++[hereI l p]) else (acc,p)
def ixOf (nss:List (List Int)) (ns:List Int):Nat:=nss.findIdx fun m=>decide (m=ns)
def partNo (nss:List (List Int)) (l:List Int) (p:Nat):Except Nat (Nat×Nat):=if (begRun nss l 8 p []).1∈nss then .ok (ixOf nss (begRun nss l 8 p []).1,(begRun nss l 8 p []).2) else .error (begRun nss l 8 p []).2
def NmsOk (nss:List (List Int)):Prop:=nss.length≤64∧∀ m∈nss,m.length≤8∧(256:Int)∉m
theorem begins_mem {nss:List (List Int)} {acc:List Int} {h:Int} (ok:NmsOk nss) (e:beginsC nss (acc++[h])=true):acc.length<8∧h≠256:=by
 unfold beginsC at e
 obtain ⟨m,hm,z⟩:=List.any_eq_true.mp e
 have z:=of_decide_eq_true z
 obtain ⟨g1,g2⟩:=ok.2 m hm
 have hl:=congrArg List.length z
 rw [List.length_take,List.length_append] at hl
 refine ⟨?_,fun q=>g2 ?_⟩
 ·have:([h]:List Int).length=1:=rfl
  (clear g2;omega)
 ·have:h∈m.take (acc++[h]).length:=by rw [z];simp
  rw [←q]
  exact List.mem_of_mem_take this
theorem ixOf_at {nss:List (List Int)} {ns:List Int} (h:ns∈nss):nss[ixOf nss ns]?=some ns:=by
 have hl:ixOf nss ns<nss.length:=List.findIdx_lt_length_of_exists ⟨ns,h,decide_eq_true rfl⟩
 rw [List.getElem?_eq_getElem hl]
 have:=List.findIdx_getElem (p:=fun m=>decide (m=ns)) (xs:=nss) (w:=hl)
 exact congrArg some (of_decide_eq_true this)
theorem ixOf_no {nss:List (List Int)} {ns ms:List Int} {m:Nat} (hm:m<ixOf nss ns) (e:nss[m]?=some ms):ms≠ns:=by
 have h:=List.not_of_lt_findIdx (p:=fun m=>decide (m=ns)) (xs:=nss) hm
 obtain ⟨hl,e⟩:=List.getElem?_eq_some_iff.mp e
 intro z
 rw [e,z] at h
 simp at h
section
variable {P:Program} {w:World} {K:PySem.W.Frag} {mg:Str→Option Value} {base:Heap} {C CR CP:Addr}
theorem TsAt.sx {r:Addr} {H H':Hp} {C' dx:Addr} {fs:List (Str×V)} {xs:List V} {nss:List (List Int)} (h:TsAt K H xs nss) (s:SX r H H') (hr:H r=some (.ins C' dx fs)):TsAt K H' xs nss:=Paired.mapP h fun x ns z=>by
 obtain ⟨p,e,t⟩:=z
 exact ⟨p,e,s.seqT hr t⟩
structure Nms (K:PySem.W.Frag) (H:Hp) (na:Addr) (nss:List (List Int)):Prop where
 ex:∃ xs,SqL K H na xs∧TsAt K H xs nss
 ok:NmsOk nss
theorem Nms.sx {r:Addr} {H H':Hp} {a:Addr} {p:Nat} {na:Addr} {nss:List (List Int)} (h:Nms K H na nss) (s:SX r H H') (hr:RdAt CR H r a p):Nms K H' na nss:=by
 obtain ⟨⟨xs,h1,h2⟩,h3⟩:=h
 obtain ⟨dx,g⟩:=hr
 exact ⟨⟨xs,s.seq g h1,TsAt.sx h2 s g⟩,h3⟩
def spPartNo (K:PySem.W.Frag) (CR:Addr):Sp:=fun vs H Q E=>∃ (r a na:Addr) (l:List Int) (p:Nat) (nss:List (List Int)),vs=[.ref r,.ref na]∧Txa K CR H r a l p∧Nms K H na nss∧
 match partNo nss l p with
 |.ok q=>∀ H':Hp,Txa K CR H' r a l q.2→SX r H H'→Q (.int q.1) H'
 |.error i=>∀ H':Hp,SX r H H'→E (.int i 0) none H'
theorem sc_partNo:FnScope ["reader","names","beginning"] ["reader","names"] (defScope sPartNo):=⟨rfl,rfl,rfl,by decide+kernel,rfl,by decide+kernel,by decide+kernel⟩
theorem ok_partNo {f:Addr} {fd:FuncData} (F:Fun K "read_part_number" "read_part_number" sPartNo f fd) (T:RdT K CR) (S:StT P w K mg base C) (M1:RdM P w K mg base CR "here" CX0 2 ["self"] (spHere K CR)) (M2:RdM P w K mg base CR "take" CX0 3 ["self"] (spTake K CR))
  (L1:Fn0 P w K mg base "some_begins" CX0 2 ["names","beginning"] (spBegins K)):FnOk P w K mg base (CXF C P w) 5 f fd ["reader","names"] (spPartNo K CR):=by
 obtain ⟨f1,fd1,m1,G1,b1⟩:=M1.ex
 obtain ⟨f2,fd2,m2,G2,b2⟩:=M2.ex
 obtain ⟨gb,gbd,GB,bB,kB,hB⟩:=L1.ex
 obtain ⟨fx,fdx,XT,GX,bx⟩:=S.ex
 refine F.okX sc_partNo (fun vs H Q E h=>?_) (fun cdv A outer s H vs Q E hr h=>?_)
 ·obtain ⟨r,a,na,l,p,nss,rfl,_⟩:=h
  rfl
 ·obtain ⟨r,a,na,l,p,nss,rfl,x,hn,k⟩:=h
  have hr3:=hr.mono (j:=3) (by decide)
  have hr2:=hr.mono (j:=2) (by decide)
  have hu:=hu_of hr
  refine ⟨_,pss_cons (ps_set (i:=2) sc_partNo.nd rfl (Or.inl rfl) (pe_tup pa_nil))
   (pss_cons (ps_while leaves_cx.own (pt_val (pe_call GB hr2 (by rfl) hB kB bB .nil pass0 (pa_cons (pv 1) (pa_cons (pe_op op_catU (pv 2) (pe_tup (pa_cons (pe_meth0 (pv 0) T.cl m1 G1 hr2 b1 .nil pass0) pa_nil))) pa_nil))))
    (pss_one (ps_set (i:=2) sc_partNo.nd rfl (Or.inl rfl) (pe_op op_catU (pv 2) (pe_tup (pa_cons (pe_meth0 (pv 0) T.cl m2 G2 hr3 b2 .nil pass0) pa_nil))))))
   (pss_cons (ps_if (pt_cmpR (op_notInT hu) (pv 2) (pv 1) (by with_unfolding_all rfl)) (pss_one (ps_raise leaves_cx rfl XT GX hr2 (by rfl) S.mg bx (pe_fld (pv 0) rfl))) pss_nil)
   (pss_one (ps_ret (pe_bm PySem.F.plainAttrs_list PySem.F.slot_list_index PySem.F.type_list_index (mt_indexT hu) (pv 1) (pa_cons (pv 2) pa_nil)))))),?_⟩
  obtain ⟨⟨dx,h1⟩,tx,le⟩:=id x
  refine ⟨Nat.zero_le _,fun q0 hq0=>?_⟩
  have S0:=Same.new (o:=.tup []) hq0
  have hsl:=sizeLine_big
  refine ⟨fun m σ H'=>∃ (acc:List Int) (q:Addr) (p':Nat),σ=[some (.ref r),some (.ref na),some (.ref q)]∧SX r H H'∧RdAt CR H' r a p'∧p'≤l.length∧SqT K H' q (acc.map V.int)∧acc.length+m=8∧begRun nss l 8 p []=begRun nss l m p' acc,
   ⟨8,[],q0,p,rfl,Same.sx S0,⟨dx,S0 _ _ h1⟩,le,SqT.of upd_same,rfl,rfl⟩,?_⟩
  rintro m σ H1 ⟨acc,q,p',rfl,s1,hr1,le1,hq,hm,e1⟩
  have x1:=x.same s1 hr1 le1
  have hn1:=hn.sx s1 x.rd
  obtain ⟨dx1,g1⟩:=id hr1
  obtain ⟨⟨xs,ha,ht⟩,ok⟩:=id hn1
  refine ⟨_,rfl,_,rfl,_,rfl,r,dx1,_,rfl,g1,rfl,r,a,l,p',rfl,x1,by show 1≤sizeLine;decide,fun q1 hq1=>?_⟩
  have S2:=Same.new (o:=.tup [.int (hereI l p')]) hq1
  refine ⟨q,q1,acc.map V.int,[.int (hereI l p')],rfl,rfl,S2.seqT hq,SqT.of upd_same,(by simp),by rw [List.length_map];show acc.length+1≤_;(clear le1 le hu;omega),fun q2 H2 S3 hq2=>?_⟩
  have S4:Same H1 H2:=S2.trans S3
  have hq2:SqT K H2 q2 ((acc++[hereI l p']).map V.int):=by rw [List.map_append];exact hq2
  refine ⟨na,q2,xs,nss,_,rfl,S4.seq ha,TsAt.same ht S4,hq2,ok.1,fun H3 S5=>?_⟩
  have S6:Same H1 H3:=S4.trans S5
  have s3:SX r H H3:=s1.trans (Same.sx S6)
  have hr3:RdAt CR H3 r a p':=⟨dx1,S6 _ _ g1⟩
  refine ⟨_,rfl,ite2 (fun hb=>?_) (fun hb=>?_)⟩
  ·obtain ⟨hlt,h256⟩:=begins_mem ok hb
   have lt:=hereI_lt h256
   obtain ⟨n,rfl⟩:∃ n,m=n+1:=⟨m - 1,by (clear lt h256 le1 hsl le hu;omega)⟩
   refine ⟨fun σ' H'=>∃ (acc:List Int) (q:Addr) (p':Nat),σ'=[some (.ref r),some (.ref na),some (.ref q)]∧SX r H H'∧RdAt CR H' r a p'∧p'≤l.length∧SqT K H' q (acc.map V.int)∧acc.length+n=8∧begRun nss l 8 p []=begRun nss l n p' acc,fun σ' H' z=>⟨n,Nat.lt_succ_self n,z⟩,?_⟩
   refine ⟨_,rfl,_,rfl,r,dx1,_,rfl,S6 _ _ g1,rfl,r,a,l,p',rfl,x.same s3 hr3 le1,fun H4 hr4 s4=>⟨by show 1≤sizeLine;decide,fun q5 hq5=>?_⟩⟩
   have S7:=Same.new (o:=.tup [.int (hereI l p')]) hq5
   have hq4:=s4.seqT (S6 _ _ g1) (S6.seqT hq)
   refine ⟨q,q5,acc.map V.int,[.int (hereI l p')],rfl,rfl,S7.seqT hq4,SqT.of upd_same,(by simp),by rw [List.length_map];show acc.length+1≤_;(clear hm lt h256 le1 le hu;omega),fun q6 H5 S8 hq6=>?_⟩
   have S9:=S7.trans S8
   obtain ⟨dx4,g4⟩:=hr4
   refine ⟨acc++[hereI l p'],q6,p'+1,rfl,(s3.trans s4).trans (Same.sx S9),⟨dx4,S9 _ _ g4⟩,lt,by rw [List.map_append];exact hq6,by rw [List.length_append];show acc.length+1+n=8;(clear lt h256 hlt le1 hsl le hu;omega),?_⟩
   rw [e1]
   show (if _ then _ else _)=_
   rw [if_pos hb]
  ·have e2:begRun nss l 8 p []=(acc,p'):=by
    rw [e1]
    cases m with
    |zero=>rfl
    |succ n=>
     show (if _ then _ else _)=_
     rw [if_neg hb]
   have hn3:=hn1.sx (Same.sx S6) hr1
   obtain ⟨⟨xs3,ha3,ht3⟩,_⟩:=id hn3
   unfold partNo at k
   rw [e2] at k
   refine ⟨_,rfl,_,rfl,q,na,acc,xs3,nss,rfl,rfl,S6.seqT hq,ha3,ht3,_,rfl,ite2 (fun hno=>?_) (fun hno=>?_)⟩
   ·have hno:¬acc∈nss:=by
     have hno:(!decide (acc∈nss))=true:=hno
     rw [Bool.not_eq_true',decide_eq_false_iff_not] at hno
     exact hno
    rw [if_neg hno] at k
    exact ⟨_,rfl,r,CR,dx1,_,_,rfl,S6 _ _ g1,T.cl,T.nP,rdf_pos _ _,_,rfl,k H3 s3⟩
   ·have hno:acc∈nss:=by
     have hno:¬(!decide (acc∈nss))=true:=hno
     rw [Bool.not_eq_true',decide_eq_false_iff_not,Classical.not_not] at hno
     exact hno
    rw [if_pos hno] at k
    refine ⟨_,rfl,.inl ⟨rfl,_,ha3⟩,_,rfl,na,q,xs3,nss,acc,ixOf nss acc,rfl,rfl,ha3,ht3,S6.seqT hq,ixOf_at hno,fun m ms hm em=>ixOf_no hm em,?_⟩
    exact k H3 (x.same s3 hr3 le1) s3
end
end Br1
set_option Elab.async false
set_option linter.all false
set_option maxRecDepth 100000
set_option maxHeartbeats 4000000
namespace Br1
open PySem PySem.Spec PyProof.Rows L2
def numsRun (l:List Int):List Nat→Nat→Except Nat (List Nat×Nat)
 |[],p=>.ok ([],p)
 |m::ms,p=>bnd (wordRun l p [32]) fun p1=>bnd (numE l p1 0 m) fun v=>consR v.1 (numsRun l ms v.2)
def bndsL:List Nat:=[255,63,63,95,3]
def lineRun (nss:List (List Int)) (l:List Int) (p:Nat):Except Nat (List Nat×Nat):=
 bnd (wordRun l p [112,117,116,32]) fun p1=>bnd (partNo nss l p1) fun q=>bnd (numsRun l bndsL q.2) fun r=>bnd (wordRun l r.2 [10]) fun p5=>.ok (q.1::r.1,p5)
theorem put_word:("put ":Str).cps.toList=[112,117,116,32]:=by decide+kernel
theorem nums_len {l:List Int}:∀ {ms:List Nat} {p:Nat} {r:List Nat×Nat},numsRun l ms p=.ok r→r.1.length=ms.length
 |[],p,r,h=>by cases h;rfl
 |m::ms,p,r,h=>by
  rw [numsRun] at h
  cases e1:wordRun l p [32] with
  |error i=>rw [e1] at h;cases h
  |ok p1=>
   rw [e1,bnd_ok] at h
   cases e2:numE l p1 0 m with
   |error i=>rw [e2] at h;cases h
   |ok v=>
    rw [e2,bnd_ok] at h
    cases e3:numsRun l ms v.2 with
    |error i=>rw [e3] at h;cases h
    |ok q=>
     rw [e3] at h
     cases h
     show (_::q.1).length=ms.length+1
     rw [List.length_cons,nums_len e3]
def ntV (n:Nat):V:=.int n
section
variable {P:Program} {w:World} {K:PySem.W.Frag} {mg:Str→Option Value} {base:Heap} {C CR CP:Addr}
def spLine (K:PySem.W.Frag) (CR:Addr):Sp:=fun vs H Q E=>∃ (r a na:Addr) (l:List Int) (p:Nat) (nss:List (List Int)),vs=[.ref r,.ref na]∧Txa K CR H r a l p∧Nms K H na nss∧
 match lineRun nss l p with
 |.ok q=>∀ (H':Hp) (t:Addr),Txa K CR H' r a l q.2→SX r H H'→H t=none→H' t=some (.tup (q.1.map ntV))→q.1.length=6→Q (.ref t) H'
 |.error i=>∀ H':Hp,SX r H H'→E (.int i 0) none H'
theorem sc_line:FnScope ["reader","names","numbers","most"] ["reader","names"] (defScope sReadLine):=⟨rfl,rfl,rfl,by decide+kernel,rfl,by decide+kernel,by decide+kernel⟩
theorem ok_line {f:Addr} {fd:FuncData} (F:Fun K "read_line" "read_line" sReadLine f fd) (T:RdT K CR) (htup:mg "tuple"=none) (c1:CI mg "MOST_COLOUR" 255) (c2:CI mg "ROOM_WIDTH" 64) (c3:CI mg "ROOM_DEPTH" 64) (c4:CI mg "ROOM_HEIGHT" 96) (c5:CI mg "MOST_TURNS" 3)
  (M1:RdM P w K mg base CR "read_word" (CXF C P w) 5 ["self","word"] (spWord K CR)) (M3:RdM P w K mg base CR "read_number" (CXF C P w) 4 ["self","least","most"] (spNumber K CR))
  (L1:Fn0 P w K mg base "read_part_number" (CXF C P w) 5 ["reader","names"] (spPartNo K CR)):FnOk P w K mg base (CXF C P w) 6 f fd ["reader","names"] (spLine K CR):=by
 obtain ⟨f1,fd1,m1,G1,b1⟩:=M1.ex
 obtain ⟨f3,fd3,m3,G3,b3⟩:=M3.ex
 obtain ⟨gp,gpd,GP,bP,kP,hP⟩:=L1.ex
 refine F.okX sc_line (fun vs H Q E h=>?_) (fun cdv A outer s H vs Q E hr h=>?_)
 ·obtain ⟨r,a,na,l,p,nss,rfl,_⟩:=h
  rfl
 ·obtain ⟨r,a,na,l,p,nss,rfl,x,hn,k⟩:=h
  have hr4:=hr.mono (j:=4) (by decide)
  refine ⟨_,pss_cons (ps_expr (pe_meth (pv 0) T.cl m1 G1 hr b1 .nil leaves_cx.pass (pa_cons pe_str pa_nil)))
   (pss_cons (ps_set (i:=2) sc_line.nd rfl (Or.inl rfl) (pe_lst (pa_cons (pe_call GP hr (by rfl) hP kP bP .nil leaves_cx.pass (pa_cons (pv 0) (pa_cons (pv 1) pa_nil))) pa_nil)))
   (pss_cons (ps_for leaves_cx.own rfl (pi_tup (pe_tup (pa_cons (pe_ci c1) (pa_cons (pe_op op_sub (pe_ci c2) pe_int) (pa_cons (pe_op op_sub (pe_ci c3) pe_int) (pa_cons (pe_op op_sub (pe_ci c4) pe_int) (pa_cons (pe_ci c5) pa_nil))))))) (pg_name (i:=3) sc_line.nd rfl (Or.inl rfl))
    (pss_cons (ps_expr (pe_meth (pv 0) T.cl m1 G1 hr b1 .nil leaves_cx.pass (pa_cons pe_str pa_nil)))
    (pss_one (ps_expr (pe_bm PySem.F.plainAttrs_list PySem.F.slot_list_append PySem.F.type_list_append mt_append (pv 2) (pa_cons (pe_meth (pv 0) T.cl m3 G3 hr4 b3 .nil leaves_cx.pass (pa_cons pe_int (pa_cons (pv 3) pa_nil))) pa_nil))))))
   (pss_cons (ps_expr (pe_meth (pv 0) T.cl m1 G1 hr b1 .nil leaves_cx.pass (pa_cons pe_str pa_nil)))
   (pss_one (ps_ret (pe_callTy call_tuple_of (by rfl) htup boot_tuple (pa_cons (pv 2) pa_nil))))))),?_⟩
  unfold lineRun at k
  have hsl:=sizeLine_big
  refine seq_in (word_st rfl put_word (by decide) x (fun i e1 H' s1=>by rw [e1] at k;exact k H' s1) fun p1 e1 H1 x1 s1=>?_)
  rw [e1,bnd_ok] at k
  refine ⟨_,rfl,_,rfl,r,a,na,l,p1,nss,rfl,x1,hn.sx s1 x.rd,?_⟩
  cases e2:partNo nss l p1 with
  |error i=>
   intro H' s'
   rw [e2] at k
   exact k H' (s1.trans s')
  |ok q=>
   intro H2 x2 s2
   rw [e2,bnd_ok] at k
   refine ⟨by show 1≤sizeLine;decide,fun nb hnb=>?_⟩
   have S3:=Same.new (o:=.lst [V.int q.1]) hnb
   have s3:SX r H (upd H2 nb (.lst [V.int q.1])):=(s1.trans s2).trans (Same.sx S3)
   obtain ⟨dx2,g2⟩:=x2.rd
   have nbr:nb≠r:=fun z=>by rw [z,g2] at hnb;cases hnb
   have hnbH:H nb=none:=by
    cases z:H nb with
    |none=>rfl
    |some o=>
     have:=(s1.trans s2) nb o z nbr
     rw [hnb] at this
     cases this
   have rd3:RdAt CR (upd H2 nb (.lst [V.int q.1])) r a q.2:=⟨dx2,S3 _ _ g2⟩
   have nb3:upd H2 nb (.lst [V.int q.1]) nb=some (.lst ((q.1::[]).map ntV)):=upd_same
   generalize upd H2 nb (.lst [V.int q.1])=H3 at S3 s3 rd3 nb3
   refine ⟨_,_,rfl,rfl,_,_,rfl,rfl,_,_,rfl,rfl,by show 5≤sizeLine;decide,fun tb htb=>?_⟩
   have S4:=Same.new (o:=.tup (bndsL.map ntV)) htb
   have tb4:upd H3 tb (.tup (bndsL.map ntV)) tb=some (.tup (bndsL.map ntV)):=upd_same
   refine ⟨tb,rfl,⟨_,SqT.of tb4⟩,?_⟩
   have s4:SX r H (upd H3 tb (.tup (bndsL.map ntV))):=s3.trans (Same.sx S4)
   have rd4:RdAt CR (upd H3 tb (.tup (bndsL.map ntV))) r a q.2:=let ⟨dx,g⟩:=rd3;⟨dx,S4 _ _ g⟩
   have nb4:=S4 _ _ nb3
   have htb':H3 tb=none:=htb
   have kE:∀ i,numsRun l bndsL q.2=.error i→∀ H',SX r H H'→E (.int i 0) none H':=fun i e H' s'=>by
    rw [e] at k
    exact k H' s'
   refine for_tup (xs:=bndsL.map ntV) (fun i σ H'=>∃ (vs:List Nat) (p':Nat) (v3:Option V),σ=[some (.ref r),some (.ref na),some (.ref nb),v3]∧vs.length=i∧SX r H H'∧RdAt CR H' r a p'∧p'≤l.length∧H' nb=some (.lst ((q.1::vs).map ntV))∧
     H' tb=some (.tup (bndsL.map ntV))∧numsRun l bndsL q.2=ahead vs (numsRun l (bndsL.drop i) p')) ⟨[],q.2,none,rfl,rfl,s4,rd4,x2.le,nb4,tb4,by rw [ahead_nil];rfl⟩ ?_ ?_ ?_
   ·rintro i σ H5 _ ⟨vs,p',v3,_,_,_,_,_,_,h,_⟩
    exact SqT.of h
   ·rintro i v σ H5 ev ⟨vs,p',v3,rfl,hvl,s5,rd5,le5,nb5,tb5,e5⟩
    rw [List.getElem?_map] at ev
    obtain ⟨m,em,rfl⟩:=Option.map_eq_some_iff.mp ev
    have hi:i<5:=(List.getElem?_eq_some_iff.mp em).1
    have hm:m≤255:=by
     have:=List.mem_of_getElem? em
     revert this
     unfold bndsL
     simp
     (clear hi le5 hvl hsl;omega)
    have ed:bndsL.drop i=m::bndsL.drop (i+1):=by
     have hl:i<bndsL.length:=hi
     have:=List.drop_eq_getElem_cons hl
     rw [this]
     have e2:=(List.getElem?_eq_some_iff.mp em).2
     rw [e2]
    rw [ed] at e5
    have x5:=x.same s5 rd5 le5
    have e6:numsRun l (m::bndsL.drop (i+1)) p'=bnd (wordRun l p' [32]) fun p1=>bnd (numE l p1 0 m) fun v=>consR v.1 (numsRun l (bndsL.drop (i+1)) v.2):=rfl
    rw [e6] at e5
    refine seq_in (word_st rfl blank_word b32 x5 (fun j ej H' s'=>kE j (by rw [e5,ej];rfl) H' (s5.trans s')) fun p6 ew H6 x6 s6=>?_)
    rw [ew,bnd_ok] at e5
    have nb6:H6 nb=some (.lst ((q.1::vs).map ntV)):=s6 _ _ nb5 nbr
    obtain ⟨dx6,g6⟩:=x6.rd
    refine ⟨_,rfl,.inl ⟨rfl,_,SqL.of nb6⟩,_,rfl,r,dx6,_,rfl,g6,rfl,_,rfl,?_⟩
    dsimp only [tNil,List.cons_append,List.nil_append]
    refine num_then (hi:=m) x6 (by decide) (by (clear hi le5 hvl hsl;omega)) (fun v en hv1 _ H7 x7 s7=>?_) (fun en=>?_)
    ·rw [en,bnd_ok,ahead_snoc] at e5
     have s67:=(s5.trans s6).trans s7
     have nb7:H7 nb=some (.lst ((q.1::vs).map ntV)):=s7 _ _ nb6 nbr
     refine ⟨nb,_,_,rfl,rfl,nb7,by rw [List.length_map,List.length_cons];(clear hv1 hm le5;omega),?_⟩
     obtain ⟨dx7,g7⟩:=x7.rd
     have ntb:tb≠nb:=fun z=>by rw [z,nb3] at htb';cases htb'
     have ntr:tb≠r:=fun z=>by obtain ⟨_,g⟩:=rd3;rw [z,g] at htb';cases htb'
     refine ⟨vs++[v.1],v.2,_,rfl,by simp [hvl],fun b o e hb=>?_,⟨dx7,by rw [upd_ne (Ne.symm nbr)];exact g7⟩,x7.le,?_,?_,e5⟩
     ·rw [upd_ne (ne_of_none e hnbH)]
      exact s67 b o e hb
     ·rw [upd_same]
      simp [ntV]
     ·rw [upd_ne ntb]
      exact s7 _ _ (s6 _ _ tb5 ntr) ntr
    ·exact kE p6 (by rw [e5,en];rfl) H6 (s5.trans s6)
   ·rintro σ H5 ⟨vs,p',v3,rfl,hvl,s5,rd5,le5,nb5,tb5,e5⟩
    have hvl:vs.length=5:=hvl
    have e6:numsRun l bndsL q.2=.ok (vs,p'):=by
     rw [e5]
     show Except.ok (vs++[],p')=_
     rw [List.append_nil]
    rw [e6,bnd_ok] at k
    have x5:=x.same s5 rd5 le5
    refine seq_in (word_st rfl lf_word b10 x5 (fun j ej H' s'=>by rw [ej] at k;exact k H' (s5.trans s')) fun p7 ew H7 x7 s7=>?_)
    rw [ew,bnd_ok] at k
    have nb7:H7 nb=some (.lst ((q.1::vs).map ntV)):=s7 _ _ nb5 nbr
    have s57:=s5.trans s7
    refine ⟨_,rfl,nb,_,rfl,.inl ⟨SqL.of nb7,fun t ht=>?_⟩⟩
    have ST:=Same.new (o:=.tup ((q.1::vs).map ntV)) ht
    obtain ⟨dx7,g7⟩:=x7.rd
    have ntr:t≠r:=fun z=>by rw [z,g7] at ht;cases ht
    refine k _ t (x.same (s57.trans (Same.sx ST)) ⟨dx7,ST _ _ g7⟩ x7.le) (s57.trans (Same.sx ST)) ?_ upd_same (by rw [List.length_cons,hvl])
    cases z:H t with
    |none=>rfl
    |some o=>
     have:=s57 t o z ntr
     rw [ht] at this
     cases this
end
end Br1
set_option Elab.async false
set_option linter.all false
set_option maxRecDepth 100000
set_option maxHeartbeats 4000000
namespace Br1
open PySem PySem.Spec PyProof.Rows L2
def linesRun (nss:List (List Int)) (l:List Int):Nat→Nat→Except Nat (List (List Nat)×Nat)
 |0,p=>.ok ([],p)
 |n+1,p=>if p=l.length then .ok ([],p) else bnd (lineRun nss l p) fun q=>consR q.1 (linesRun nss l n q.2)
def buildRun (nss:List (List Int)) (l:List Int):Except Nat (List Int×List (List Nat)):=
 bnd (wordRun l 0 [98,117,105,108,100,32]) fun p1=>bnd (nameE l p1 16) fun nm=>bnd (wordRun l nm.2 [10]) fun p3=>bnd (linesRun nss l 256 p3) fun r=>if r.2=l.length then .ok (nm.1,r.1) else .error r.2
theorem build_word:("build ":Str).cps.toList=[98,117,105,108,100,32]:=by decide+kernel
def LinesAt (H:Hp) (ts:List Addr) (ls:List (List Nat)):Prop:=Paired (fun t x=>H t=some (.tup (x.map ntV))∧x.length=6) ts ls
def BdF (na la:Addr):List (Str×V):=[("name",.ref na),("lines",.ref la)]
structure BdT (K:PySem.W.Frag) (CB:Addr):Prop where
 cl:Cls K CB
 n1:NoAttr K CB "name"
 n2:NoAttr K CB "lines"
def BldAt (CB:Addr) (H:Hp) (q:Addr) (nm:List Int) (ls:List (List Nat)):Prop:=∃ (dx na la:Addr) (ts:List Addr),H q=some (.ins CB dx (BdF na la))∧H na=some (.tup (nm.map V.int))∧H la=some (.lst (ts.map V.ref))∧LinesAt H ts ls∧ls.length≤256∧nm.length≤16
section
variable {P:Program} {w:World} {K:PySem.W.Frag} {mg:Str→Option Value} {base:Heap} {C CR CP CB:Addr}
theorem LinesAt.keep {H H':Hp} {ts:List Addr} {ls:List (List Nat)} (h:LinesAt H ts ls) (s:∀ b xs,H b=some (.tup xs)→H' b=some (.tup xs)):LinesAt H' ts ls:=Paired.mapP h fun t x e=>⟨s _ _ e.1,e.2⟩
theorem BldAt.same {H H':Hp} {q:Addr} {nm:List Int} {ls:List (List Nat)} (h:BldAt CB H q nm ls) (s:Same H H'):BldAt CB H' q nm ls:=by
 obtain ⟨dx,na,la,ts,h1,h2,h3,h4,h5⟩:=h
 exact ⟨dx,na,la,ts,s _ _ h1,s _ _ h2,s _ _ h3,h4.keep fun b xs e=>s _ _ e,h5⟩
def spBdI (CB:Addr):Sp:=fun vs H Q _=>∃ (r dx na la:Addr),vs=[.ref r,.ref na,.ref la]∧H r=some (.ins CB dx [])∧∀ H':Hp,H' r=some (.ins CB dx (BdF na la))→SX r H H'→Q .non H'
theorem sc_bdI:FnScope ["self","name","lines"] ["self","name","lines"] (defScope sBuildI):=⟨rfl,rfl,rfl,by decide+kernel,rfl,by decide+kernel,by decide+kernel⟩
theorem ok_bdI {f:Addr} {fd:FuncData} (F:Fun K "__init__" "Build.__init__" sBuildI f fd) (T:BdT K CB):FnOk P w K mg base CX0 1 f fd ["self","name","lines"] (spBdI CB):=by
 refine F.ok sc_bdI (fun vs H Q E h=>?_) (fun cdv A outer s H vs Q E hr h=>?_)
 ·obtain ⟨r,dx,na,la,rfl,_⟩:=h
  rfl
 ·obtain ⟨r,dx,na,la,rfl,hp,k⟩:=h
  refine ⟨_,pss_cons (ps_fld (pv 0) (pv 1) rfl) (pss_one (ps_fld (pv 0) (pv 2) rfl)),?_⟩
  refine ⟨_,rfl,_,rfl,r,CB,dx,_,rfl,hp,T.cl,T.n1,(by show 0<1000;decide),?_⟩
  refine ⟨_,rfl,_,rfl,r,CB,dx,_,rfl,upd_same,T.cl,T.n2,(by show 1<1000;decide),?_⟩
  exact k _ upd_same fun b o e hb=>by rw [upd_ne hb,upd_ne hb];exact e
structure BdM (P:Program) (w:World) (K:PySem.W.Frag) (mg:Str→Option Value) (base:Heap) (CB:Addr):Prop where
 ex:∃ f fd,Mk K CB f∧FnOk P w K mg base CX0 1 f fd ["self","name","lines"] (spBdI CB)∧Binds K fd ["self","name","lines"] []
 mg:mg "Build"=some (.ref CB)
theorem word_stj {H:Hp} {r a:Addr} {l:List Int} {p j:Nat} {x:Str} {cs:List Nat} {D:Ends} {σ:List (Option V)} {E:XK} (hσ:σ[j]?=some (some (.ref r))) (hx:x.cps.toList=cs) (h256:∀ c∈cs,c<256) (tx:Txa K CR H r a l p)
  (k2:∀ i,wordRun l p cs=.error i→∀ H',SX r H H'→E (.int i 0) none H') (k1:∀ p',wordRun l p cs=.ok p'→∀ H',Txa K CR H' r a l p'→SX r H H'→D.nx σ H'):tDrop (tMeth CR "read_word" (spWord K CR) [] E (tVar j) (tCons (tC (.str x)) tNil)) D σ H:=by
 obtain ⟨⟨dx,h1⟩,_,_⟩:=id tx
 exact ⟨_,hσ,r,dx,_,rfl,h1,rfl,word_then (Q:=fun _ H1=>D.nx σ H1) hx h256 tx (fun p' e H' x' s'=>k1 p' e H' x' s') k2⟩
theorem name_stj {H:Hp} {r a:Addr} {l:List Int} {p L j i:Nat} {D:Ends} {σ:List (Option V)} {E:XK} (hσ:σ[j]?=some (some (.ref r))) (tx:Txa K CR H r a l p) (hL:L≤1000) (k2:nameE l p L=.error p→E (.int p 0) none H)
  (k1:∀ v:List Int×Nat,nameE l p L=.ok v→∀ (H':Hp) (q:Addr),Txa K CR H' r a l v.2→SX r H H'→H' q=some (.tup (v.1.map V.int))→v.1.length≤L→D.nx (σ.set i (some (.ref q))) H'):
  tAsg (tMeth CR "read_name" (spName K CR) [] E (tVar j) (tCons (tC (.int L)) tNil)) (gName i) D σ H:=by
 obtain ⟨⟨dx,h1⟩,_,_⟩:=id tx
 exact ⟨_,hσ,r,dx,_,rfl,h1,rfl,name_then (Q:=fun y H1=>D.nx (σ.set i (some y)) H1) tx hL (fun v e H' q x' s' g1 g2=>k1 v e H' q x' s' g1 g2) k2⟩
def spBuild (K:PySem.W.Frag) (CB:Addr):Sp:=fun vs H Q E=>∃ (a na:Addr) (l:List Int) (nss:List (List Int)),vs=[.ref a,.ref na]∧SqL K H a (l.map V.int)∧Nms K H na nss∧
 match buildRun nss l with
 |.ok b=>∀ (H':Hp) (q:Addr),Same H H'→BldAt CB H' q b.1 b.2→Q (.ref q) H'
 |.error i=>∀ H':Hp,Same H H'→E (.int i 0) none H'
theorem sc_build:FnScope ["b","names","reader","name","lines"] ["b","names"] (defScope sReadBuild):=⟨rfl,rfl,rfl,by decide+kernel,rfl,by decide+kernel,by decide+kernel⟩
def BuiW (CR:Addr) (H:Hp) (r a na qn q:Addr) (nm:List Int) (nss:List (List Int)) (l:List Int) (p0 m:Nat) (σ:List (Option V)) (H':Hp):Prop:=
 ∃ (ls:List (List Nat)) (ts:List Addr) (p':Nat),σ=[some (.ref a),some (.ref na),some (.ref r),some (.ref qn),some (.ref q)]∧H' qn=some (.tup (nm.map V.int))∧ls.length+m=256∧p'≤l.length∧Same H H'∧RdAt CR H' r a p'∧H' q=some (.lst (ts.map V.ref))∧
  LinesAt H' ts ls∧linesRun nss l 256 p0=ahead ls (linesRun nss l m p')
theorem ok_build {f:Addr} {fd:FuncData} (F:Fun K "read_build" "read_build" sReadBuild f fd) (T:RdT K CR) (RK:RdK P w K mg base CR) (BM:BdM P w K mg base CB) (hlen:mg "len"=none) (c1:CI mg "LONGEST_BUILD_NAME" 16) (c2:CI mg "MOST_LINES" 256)
  (M1:RdM P w K mg base CR "ended" CX0 1 ["self"] (spEnded K CR)) (M2:RdM P w K mg base CR "read_end" (CXF C P w) 3 ["self"] (spEnd K CR)) (M3:RdM P w K mg base CR "read_word" (CXF C P w) 5 ["self","word"] (spWord K CR))
  (M4:RdM P w K mg base CR "read_name" (CXF C P w) 4 ["self","longest"] (spName K CR)) (L1:Fn0 P w K mg base "read_line" (CXF C P w) 6 ["reader","names"] (spLine K CR)):FnOk P w K mg base (CXF C P w) 7 f fd ["b","names"] (spBuild K CB):=by
 obtain ⟨fb,fdb,MB,GB,bB⟩:=BM.ex
 obtain ⟨f1,fd1,m1,G1,b1⟩:=M1.ex
 obtain ⟨f2,fd2,m2,G2,b2⟩:=M2.ex
 obtain ⟨f3,fd3,m3,G3,b3⟩:=M3.ex
 obtain ⟨f4,fd4,m4,G4,b4⟩:=M4.ex
 obtain ⟨g1,gd1,GP,bP,kP,hP⟩:=L1.ex
 obtain ⟨fr,fdr,MR,GR,bR⟩:=RK.ex
 refine F.okX sc_build (fun vs H Q E h=>?_) (fun cdv A outer s H vs Q E hr h=>?_)
 ·obtain ⟨a,na,l,nss,rfl,_⟩:=h
  rfl
 ·obtain ⟨a,na,l,nss,rfl,tx,hn,k⟩:=h
  have hr5:=hr.mono (j:=5) (by decide)
  have hr4:=hr.mono (j:=4) (by decide)
  have hr3:=hr.mono (j:=3) (by decide)
  have hr2:=hr.mono (j:=2) (by decide)
  have hr1:=hr.mono (j:=1) (by decide)
  refine ⟨_,pss_cons (ps_set (i:=2) sc_build.nd rfl (Or.inl rfl) (pe_make MR GR hr2 (by rfl) RK.mg bR .nil pass0 (pa_cons (pv 0) pa_nil)))
   (pss_cons (ps_expr (pe_meth (pv 2) T.cl m3 G3 hr5 b3 .nil leaves_cx.pass (pa_cons pe_str pa_nil)))
   (pss_cons (ps_set (i:=3) sc_build.nd rfl (Or.inl rfl) (pe_meth (pv 2) T.cl m4 G4 hr4 b4 .nil leaves_cx.pass (pa_cons (pe_ci c1) pa_nil)))
   (pss_cons (ps_expr (pe_meth (pv 2) T.cl m3 G3 hr5 b3 .nil leaves_cx.pass (pa_cons pe_str pa_nil)))
   (pss_cons (ps_set (i:=4) sc_build.nd rfl (Or.inl rfl) (pe_lst pa_nil))
   (pss_cons (ps_while leaves_cx.own (pw_and (pt_cmp (pc_lt (pe_callB call_len_seq (by rfl) hlen PySem.boot_len (pa_cons (pv 4) pa_nil)) (pe_ci c2))) (pw_and1 (pt_not (pt_val (pe_meth0 (pv 2) T.cl m1 G1 hr1 b1 .nil pass0))))).pt
    (pss_one (ps_expr (pe_bm PySem.F.plainAttrs_list PySem.F.slot_list_append PySem.F.type_list_append mt_append (pv 4) (pa_cons (pe_call GP hr (by rfl) hP kP bP .nil leaves_cx.pass (pa_cons (pv 2) (pa_cons (pv 1) pa_nil))) pa_nil)))))
   (pss_cons (ps_expr (pe_meth0 (pv 2) T.cl m2 G2 hr3 b2 .nil leaves_cx.pass))
   (pss_one (ps_ret (pe_make MB GB hr2 (by rfl) BM.mg bB .nil pass0 (pa_cons (pv 3) (pa_cons (pv 4) pa_nil))))))))))),?_⟩
  refine ⟨_,rfl,fun r dr nr ndr ndrr=>?_⟩
  refine ⟨r,dr,a,rfl,upd_same,fun H1 hr1 s1=>⟨rfl,?_⟩⟩
  have S1:Same H H1:=fun y o e=>s1 y o (by rw [upd_ne (ne_of_none e nr),upd_ne (ne_of_none e ndr)];exact e) (ne_of_none e nr)
  have x1:Txa K CR H1 r a l 0:=⟨hr1,S1.seq tx,Nat.zero_le _⟩
  have sxs:∀ {H2:Hp},SX r H1 H2→Same H H2:=fun s2 y o e=>s2 y o (S1 y o e) (ne_of_none e nr)
  unfold buildRun at k
  refine seq_in (word_stj rfl build_word (by decide) x1 (fun i e1 H' s'=>by rw [e1] at k;exact k H' (sxs s')) fun p1 e1 H2 x2 s2=>?_)
  rw [e1,bnd_ok] at k
  refine seq_in (name_stj (L:=16) rfl x2 (by decide) (fun e2=>by rw [e2] at k;exact k _ (sxs s2)) fun nm e2 H3 qn x3 s3 hqn hnl=>?_)
  rw [e2,bnd_ok] at k
  have s3:=s2.trans s3
  refine seq_in (word_stj rfl lf_word b10 x3 (fun i e3 H' s'=>by rw [e3] at k;exact k H' (sxs (s3.trans s'))) fun p4 e3 H4 x4 s4=>?_)
  rw [e3,bnd_ok] at k
  have hqn4:=s4.tup x3.rd hqn
  have s4:=s3.trans s4
  have S4:=sxs s4
  refine ⟨Nat.zero_le _,fun q hq=>?_⟩
  have sq:=Same.new (o:=.lst []) hq
  have hqH:H q=none:=S4.free hq
  obtain ⟨dx4,g4⟩:=x4.rd
  have nrq:r≠q:=fun z=>by rw [z,hq] at g4;cases g4
  refine ⟨fun m=>BuiW CR H r a na qn q nm.1 nss l p4 m,⟨256,[],[],p4,rfl,sq _ _ hqn4,rfl,x4.le,S4.trans sq,⟨dx4,sq _ _ g4⟩,upd_same,.nil,by rw [ahead_nil]⟩,?_⟩
  rintro m σ H5 ⟨ls,ts,p',rfl,hqn5,hm,lp,S5,hr5,hq5,pp,e5⟩
  have x5:Txa K CR H5 r a l p':=⟨hr5,S5.seq tx,lp⟩
  obtain ⟨dx5,g5⟩:=id hr5
  have htl:ts.length=ls.length:=Paired.length pp
  have fin:linesRun nss l m p'=.ok ([],p')→tSeq (tDrop (tMeth CR "read_end" (spEnd K CR) [] E (tVar 2) tNil)) (tRet (tMake CB (spBdI CB) [] E0 (tCons (tVar 3) (tCons (tVar 4) tNil)))) {nx:=fun _ H'=>Q .non H',rt:=Q} [some (.ref a),some (.ref na),some (.ref r),some (.ref qn),some (.ref q)] H5:=by
   intro e6
   have e7:linesRun nss l 256 p4=.ok (ls,p'):=by
    rw [e5,e6]
    show Except.ok (ls++[],p')=_
    rw [List.append_nil]
   rw [e7,bnd_ok] at k
   refine ⟨_,rfl,r,dx5,_,rfl,g5,rfl,r,a,l,p',rfl,x5,fun he=>⟨_,rfl,_,rfl,fun b' db nb' ndb nbb=>⟨b',db,qn,q,rfl,upd_same,fun H6 hb6 s6=>⟨rfl,?_⟩⟩⟩,fun he=>?_⟩
   ·have he:p'=l.length:=he
    rw [if_pos he] at k
    have S6:Same H5 H6:=fun y o e=>s6 y o (by rw [upd_ne (ne_of_none e nb'),upd_ne (ne_of_none e ndb)];exact e) (ne_of_none e nb')
    exact k H6 b' (S5.trans S6) ⟨db,qn,q,ts,hb6,S6 _ _ hqn5,S6 _ _ hq5,pp.keep fun y xs e=>S6 _ _ e,(by show ls.length≤256;(clear he htl lp;omega)),hnl⟩
   ·have he:¬p'=l.length:=he
    rw [if_neg he] at k
    exact k H5 S5
  refine ⟨_,rfl,q,_,rfl,.inl (SqL.of hq5),_,_,rfl,rfl,_,rfl,ite2 (fun hlt=>?_) (fun hlt=>iteF (fin ?_))⟩
  ·have hlt:((ts.map V.ref).length:Int)<256:=of_decide_eq_true hlt
   rw [List.length_map] at hlt
   obtain ⟨n,rfl⟩:∃ n,m=n+1:=⟨m - 1,by (clear lp;omega)⟩
   refine ⟨_,rfl,r,dx5,_,rfl,g5,rfl,r,a,l,p',rfl,x5,_,rfl,ite2 (fun hne=>?_) (fun hne=>fin ?_)⟩
   ·rw [Bool.not_eq_true',decide_eq_false_iff_not] at hne
    refine ⟨BuiW CR H r a na qn q nm.1 nss l p4 n,fun _ _ z=>⟨n,Nat.lt_succ_self n,z⟩,?_⟩
    have hn5:Nms K H5 na nss:=by
     obtain ⟨⟨xs,h1,h2⟩,h3⟩:=hn
     exact ⟨⟨xs,S5.seq h1,TsAt.same h2 S5⟩,h3⟩
    refine ⟨_,rfl,.inl ⟨rfl,_,SqL.of hq5⟩,_,rfl,_,rfl,r,a,na,l,p',nss,rfl,x5,hn5,?_⟩
    have e6:linesRun nss l (n+1) p'=bnd (lineRun nss l p') fun q=>consR q.1 (linesRun nss l n q.2):=if_neg hne
    cases e7:lineRun nss l p' with
    |error i=>
     intro H' s'
     have e8:linesRun nss l 256 p4=.error i:=by
      rw [e5,e6,e7]
      rfl
     rw [e8] at k
     exact k H' fun y o e=>s' y o (S5 y o e) (ne_of_none e nr)
    |ok q1=>
     intro H6 t x6 s6 nt ht h6
     have hq6:H6 q=some (.lst (ts.map V.ref)):=s6 _ _ hq5 (Ne.symm nrq)
     have hsl:=sizeLine_big
     refine ⟨q,_,_,rfl,rfl,hq6,?_,?_⟩
     ·rw [List.length_map]
      (clear h6 hne hm htl lp;omega)
     ·obtain ⟨dx6,g6⟩:=x6.rd
      have tupk:∀ b xs,H6 b=some (.tup xs)→upd H6 q (.lst (ts.map V.ref++[V.ref t])) b=some (.tup xs):=fun b xs e=>by
       rw [upd_ne (fun z=>by rw [z,hq6] at e;cases e)]
       exact e
      refine ⟨ls++[q1.1],ts++[t],q1.2,rfl,tupk _ _ (s6.tup hr5 hqn5),by simp;(clear hsl h6 hne hlt htl lp;omega),x6.le,fun y o e=>?_,⟨dx6,by rw [upd_ne nrq];exact g6⟩,by rw [upd_same,List.map_append];rfl,?_,?_⟩
      ·rw [upd_ne (ne_of_none e hqH)]
       exact s6 y o (S5 y o e) (ne_of_none e nr)
      ·refine Paired.snoc ((pp.keep (H':=H6) fun b xs e=>s6.tup hr5 e).keep tupk) ⟨tupk _ _ ht,h6⟩
      ·rw [e5,e6,e7,bnd_ok,ahead_snoc]
   ·rw [Bool.not_eq_true',decide_eq_false_iff_not,Classical.not_not] at hne
    exact if_pos hne
  ·have hlt:¬((ts.map V.ref).length:Int)<256:=fun z=>hlt (decide_eq_true z)
   rw [List.length_map] at hlt
   rw [show m=0 by (clear lp;omega)]
   rfl
end
end Br1
set_option Elab.async false
set_option linter.all false
set_option maxRecDepth 100000
set_option maxHeartbeats 4000000
namespace Br1
open PySem PySem.Spec PyProof.Rows L2
theorem nameRun_256 {l:List Int}:∀ {n p:Nat},(256:Int)∉nameRun l p n
 |0,p=>by simp [nameRun]
 |n+1,p=>by
  rw [nameRun]
  split
  ·rename_i h
   intro z
   rcases List.mem_cons.mp z with z|z
   ·rw [←z] at h
    revert h
    decide
   ·exact nameRun_256 z
  ·simp
theorem bnd_inv {α β:Type} {r:Except Nat α} {f:α→Except Nat β} {b:β} (h:bnd r f=.ok b):∃ a,r=.ok a∧f a=.ok b:=by
 cases r with
 |error i=>cases h
 |ok a=>exact ⟨a,rfl,h⟩
theorem nameE_256 {l:List Int} {p L:Nat} {v:List Int×Nat} (h:nameE l p L=.ok v):(256:Int)∉v.1:=by
 unfold nameE at h
 split at h
 ·cases h
  exact nameRun_256
 ·cases h
theorem part_256 {l:List Int} {p:Nat} {q:PartR×Nat} (h:partRun l p=.ok q):(256:Int)∉q.1.name:=by
 unfold partRun at h
 obtain ⟨p1,_,h⟩:=bnd_inv h
 obtain ⟨nm,e,h⟩:=bnd_inv h
 have hn:=nameE_256 e
 obtain ⟨_,_,h⟩:=bnd_inv h
 obtain ⟨_,_,h⟩:=bnd_inv h
 obtain ⟨_,_,h⟩:=bnd_inv h
 obtain ⟨_,_,h⟩:=bnd_inv h
 obtain ⟨_,_,h⟩:=bnd_inv h
 obtain ⟨_,_,h⟩:=bnd_inv h
 obtain ⟨_,_,h⟩:=bnd_inv h
 obtain ⟨_,_,h⟩:=bnd_inv h
 obtain ⟨_,_,h⟩:=bnd_inv h
 obtain ⟨_,_,h⟩:=bnd_inv h
 cases h
 exact hn
theorem consR_inv {α:Type} {x:α} {r:Except Nat (List α×Nat)} {q:List α×Nat} (h:consR x r=.ok q):∃ q',r=.ok q'∧q=(x::q'.1,q'.2):=by
 cases r with
 |error i=>cases h
 |ok q'=>cases h;exact ⟨q',rfl,rfl⟩
theorem parts_256 {l:List Int}:∀ {n p:Nat} {q:List PartR×Nat},partsRun l n p=.ok q→∀ pr∈q.1,(256:Int)∉pr.name
 |0,p,q,h=>by cases h;intro pr hp;cases hp
 |n+1,p,q,h=>by
  rw [partsRun] at h
  split at h
  ·cases h;intro pr hp;cases hp
  ·obtain ⟨q1,e1,h⟩:=bnd_inv h
   obtain ⟨q2,e2,rfl⟩:=consR_inv h
   intro pr hp
   rcases List.mem_cons.mp hp with rfl|hp
   ·exact part_256 e1
   ·exact parts_256 e2 pr hp
theorem cat_256 {l:List Int} {prs:List PartR} (h:catRun l=.ok prs):∀ pr∈prs,(256:Int)∉pr.name:=by
 unfold catRun at h
 obtain ⟨q,e1,h⟩:=bnd_inv h
 obtain ⟨r,e2,h⟩:=bnd_inv h
 split at h
 ·cases h
  intro pr hp
  rcases List.mem_cons.mp hp with rfl|hp
  ·exact part_256 e1
  ·exact parts_256 e2 pr hp
 ·cases h
def GvF (rf ft:Int) (pa:Addr) (bv rv:V):List (Str×V):=[("refusal",.int rf),("fault",.int ft),("parts",.ref pa),("build",bv),("room",rv)]
structure GvT (K:PySem.W.Frag) (CG:Addr):Prop where
 cl:Cls K CG
 n1:NoAttr K CG "refusal"
 n2:NoAttr K CG "fault"
 n3:NoAttr K CG "parts"
 n4:NoAttr K CG "build"
 n5:NoAttr K CG "room"
inductive GivR
 |no (n:Int)
 |bad (i:Nat)
 |ok (prs:List PartR) (nm:List Int) (ls:List (List Nat))
def givRun (lc lb:List Int):GivR:=if 1048576<lc.length∨16384<lb.length then .no (-2) else match catRun lc with
 |.error _=>.no (-6)
 |.ok prs=>if catOk prs=true then (match buildRun (prs.map (·.name)) lb with
  |.error i=>.bad i
  |.ok b=>.ok prs b.1 b.2) else .no (-8)
def GivAt (CG CP CB:Addr) (H:Hp) (g:Addr):GivR→Prop
 |.no n=>∃ dx pa,H g=some (.ins CG dx (GvF n 0 pa .non .non))
 |.bad i=>∃ dx pa,H g=some (.ins CG dx (GvF (-5) i pa .non .non))
 |.ok prs nm ls=>∃ dx pa q bs,H g=some (.ins CG dx (GvF 0 0 pa (.ref q) .non))∧H pa=some (.lst (bs.map V.ref))∧PartsAt CP H bs prs∧BldAt CB H q nm ls∧1≤prs.length∧prs.length≤64
section
variable {P:Program} {w:World} {K:PySem.W.Frag} {mg:Str→Option Value} {base:Heap} {C CR CP CB CG:Addr}
def spGivI (CG:Addr):Sp:=fun vs H Q _=>∃ (r dx pa:Addr) (rf ft:Int) (bv:V),vs=[.ref r,.int rf,.int ft,.ref pa,bv]∧H r=some (.ins CG dx [])∧∀ H':Hp,H' r=some (.ins CG dx (GvF rf ft pa bv .non))→SX r H H'→Q .non H'
theorem sc_givI:FnScope ["self","refusal","fault","parts","build"] ["self","refusal","fault","parts","build"] (defScope sGivenI):=⟨rfl,rfl,rfl,by decide+kernel,rfl,by decide+kernel,by decide+kernel⟩
theorem ok_givI {f:Addr} {fd:FuncData} (F:Fun K "__init__" "Given.__init__" sGivenI f fd) (T:GvT K CG):FnOkN P w K mg base CX0 1 f fd ["self","refusal","fault","parts","build"] (spGivI CG):=by
 refine F.okN sc_givI (fun vs H Q E h=>?_) (fun cdv A outer s H vs Q E hr h=>?_)
 ·obtain ⟨r,dx,pa,rf,ft,bv,rfl,_⟩:=h
  rfl
 ·obtain ⟨r,dx,pa,rf,ft,bv,rfl,hp,k⟩:=h
  refine ⟨_,pss_cons (ps_fld (pv 0) (pv 1) rfl) (pss_cons (ps_fld (pv 0) (pv 2) rfl) (pss_cons (ps_fld (pv 0) (pv 3) rfl) (pss_cons (ps_fld (pv 0) (pv 4) rfl) (pss_one (ps_fld (pv 0) pe_non rfl))))),?_⟩
  refine ⟨_,rfl,_,rfl,r,CG,dx,_,rfl,hp,T.cl,T.n1,(by show 0<1000;decide),?_⟩
  refine ⟨_,rfl,_,rfl,r,CG,dx,_,rfl,upd_same,T.cl,T.n2,(by show 1<1000;decide),?_⟩
  refine ⟨_,rfl,_,rfl,r,CG,dx,_,rfl,upd_same,T.cl,T.n3,(by show 2<1000;decide),?_⟩
  refine ⟨_,rfl,_,rfl,r,CG,dx,_,rfl,upd_same,T.cl,T.n4,(by show 3<1000;decide),?_⟩
  refine ⟨_,rfl,r,CG,dx,_,rfl,upd_same,T.cl,T.n5,(by show 4<1000;decide),?_⟩
  exact k _ upd_same fun b o e hb=>by rw [upd_ne hb,upd_ne hb,upd_ne hb,upd_ne hb,upd_ne hb];exact e
structure GvM (P:Program) (w:World) (K:PySem.W.Frag) (mg:Str→Option Value) (base:Heap) (CG:Addr):Prop where
 ex:∃ f fd,Mk K CG f∧FnOkN P w K mg base CX0 1 f fd ["self","refusal","fault","parts","build"] (spGivI CG)∧Binds K fd ["self","refusal","fault","parts","build"] []
 mg:mg "Given"=some (.ref CG)
def NamesAt (H:Hp) (D:Addr) (prs:List PartR):Prop:=∃ qs:List Addr,H D=some (.lst (qs.map V.ref))∧Paired (fun q pr=>H q=some (.tup (pr.name.map V.int))) qs prs
def spNames (K:PySem.W.Frag) (CP:Addr):Sp:=fun vs H Q _=>∃ (pa:Addr) (bs:List Addr) (prs:List PartR),vs=[.ref pa]∧SqL K H pa (bs.map V.ref)∧PartsAt CP H bs prs∧prs.length≤64∧∀ (H':Hp) (D:Addr),Same H H'→H D=none→NamesAt H' D prs→Q (.ref D) H'
theorem sc_names:FnScope ["parts","part"] ["parts"] (defScope sNamesOf):=⟨rfl,rfl,rfl,by decide+kernel,rfl,by decide+kernel,by decide+kernel⟩
theorem ok_names {f:Addr} {fd:FuncData} (F:Fun K "names_of" "names_of" sNamesOf f fd) (T':PtT K CP):FnOk P w K mg base CX0 1 f fd ["parts"] (spNames K CP):=by
 refine F.ok sc_names (fun vs H Q E h=>?_) (fun cdv A outer s H vs Q E hr h=>?_)
 ·obtain ⟨pa,bs,prs,rfl,_⟩:=h
  rfl
 ·obtain ⟨pa,bs,prs,rfl,hpa,hps,hp64,k⟩:=h
  refine ⟨_,pss_one (ps_ret (pe_lc (own:=[("part",1)]) (te:=tFld K (tVar 1) "name") rfl sc_names.nd (pi_list (pv 0)) (blkOk_by (N:=["parts","part"]) (sc:=defScope sNamesOf) (by decide+kernel))
   (fun _ _ _ _ _=>pg_name (i:=1) sc_names.nd rfl (Or.inl rfl)) (fun _ _ _ _ _=>pts_nil) (fun _ _ _ _ _=>pe_fld (pv 1) rfl))),?_⟩
  have hbl:bs.length=prs.length:=Paired.length hps
  have hsl:=sizeLine_big
  refine ⟨_,rfl,pa,rfl,⟨_,hpa⟩,fun Dl hDl=>?_⟩
  refine lc_list (xs:=bs.map V.ref) (fun i H'=>Same H H'∧∃ qs,H' Dl=some (.lst (qs.map V.ref))∧Paired (fun q pr=>H q=some (.tup (pr.name.map V.int))) qs (prs.take i)) ⟨Same.new hDl,[],upd_same,.nil⟩ (fun i H' _ z=>z.1.seq hpa) ?_ ?_
  ·rintro i x H3 ex ⟨S3,qs,hD3,pq⟩
   have hi:i<prs.length:=by
    have:=(List.getElem?_eq_some_iff.mp ex).1
    rwa [List.length_map,hbl] at this
   obtain ⟨pr,ep⟩:∃ pr,prs[i]?=some pr:=⟨_,List.getElem?_eq_getElem hi⟩
   obtain ⟨b',eb,pat,po⟩:=paired_at hps ep
   rw [List.getElem?_map,eb] at ex
   cases ex
   obtain ⟨dx,nm,cc,f1,f2,f3⟩:=pat
   have hql:qs.length=(prs.take i).length:=Paired.length pq
   rw [List.length_take] at hql
   refine ⟨rfl,_,rfl,b',CP,dx,_,_,rfl,S3 _ _ f1,T'.cl,T'.n1,rfl,_,hD3,by rw [List.length_map];(clear hi hbl;omega),fun y o e=>?_,qs++[nm],by rw [upd_same,List.map_append];rfl,?_⟩
   ·rw [upd_ne (ne_of_none e hDl)]
    exact S3 _ _ e
   ·rw [List.take_succ,ep]
    exact Paired.snoc pq f2
  ·rintro H3 ⟨S3,qs,hD3,pq⟩
   rw [List.length_map,hbl,List.take_length] at pq
   exact k H3 Dl S3 hDl ⟨qs,hD3,Paired.mapP pq fun q pr e=>S3 _ _ e⟩
def spGiven (K:PySem.W.Frag) (CG CP CB:Addr):Sp:=fun vs H Q _=>∃ (c b:Addr) (lc lb:List Int),vs=[.ref c,.ref b]∧SqL K H c (lc.map V.int)∧SqL K H b (lb.map V.int)∧∀ (H':Hp) (g:Addr),Same H H'→H g=none→GivAt CG CP CB H' g (givRun lc lb)→Q (.ref g) H'
theorem sc_given:FnScope ["c","b","parts","build","e"] ["c","b"] (defScope sReadGiven):=⟨rfl,rfl,rfl,by decide+kernel,rfl,by decide+kernel,by decide+kernel⟩
theorem mk_no {H:Hp} {n ft:Int} {Q:V→Hp→Prop} (k:∀ (H':Hp) (g:Addr),Same H H'→H g=none→(∃ dx pa,H' g=some (.ins CG dx (GvF n ft pa .non .non)))→Q (.ref g) H'):
  ∀ l1,H l1=none→∀ x dx,upd H l1 (.lst []) x=none→upd H l1 (.lst []) dx=none→dx≠x→
   spGivI CG [.ref x,.int n,.int ft,.ref l1,.non] (upd (upd (upd H l1 (.lst [])) dx (.own x)) x (.ins CG dx [])) (fun v H2=>v=.non∧Q (.ref x) H2) E0:=by
 intro l1 h1 x dx hx hdx hne
 have S:Same H (upd H l1 (.lst [])):=Same.new h1
 refine ⟨x,dx,l1,n,ft,.non,rfl,upd_same,fun H' hg s=>⟨rfl,k H' x (fun b o e=>?_) (S.free hx) ⟨dx,l1,hg⟩⟩⟩
 have e2:=S b o e
 exact s b o (by rw [upd_ne (ne_of_none e2 hx),upd_ne (ne_of_none e2 hdx)];exact e2) (ne_of_none e2 hx)
theorem ok_given {f:Addr} {fd:FuncData} (F:Fun K "read_given" "read_given" sReadGiven f fd) (GM:GvM P w K mg base CG) (S:StT P w K mg base C) (hlen:mg "len"=none) (c1:CI mg "MOST_CATALOGUE_BYTES" 1048576) (c2:CI mg "MOST_BUILD_BYTES" 16384)
  (L1:Fn0 P w K mg base "read_catalogue" (CXF C P w) 8 ["c"] (spCat K CP)) (L2:Fn0 P w K mg base "catalogue_right" CX0 5 ["parts"] (spCatRight K CP)) (L3:Fn0 P w K mg base "read_build" (CXF C P w) 7 ["b","names"] (spBuild K CB)) (L4:Fn0 P w K mg base "names_of" CX0 1 ["parts"] (spNames K CP)):
  FnOk P w K mg base CX0 9 f fd ["c","b"] (spGiven K CG CP CB):=by
 obtain ⟨g1,gd1,G1,b1,k1,h1⟩:=L1.ex
 obtain ⟨g2,gd2,G2,b2,k2,h2⟩:=L2.ex
 obtain ⟨g3,gd3,G3,b3,k3,h3⟩:=L3.ex
 obtain ⟨g4,gd4,G4,b4,k4,h4⟩:=L4.ex
 obtain ⟨fg,fgd,MG,GG,bG⟩:=GM.ex
 obtain ⟨fx,fdx,XT,GX,bx⟩:=S.ex
 refine F.ok sc_given (fun vs H Q E h=>?_) (fun cdv A outer s H vs Q E hr h=>?_)
 ·obtain ⟨c,b,lc,lb,rfl,_⟩:=h
  rfl
 ·obtain ⟨c,b,lc,lb,rfl,hc,hb,k⟩:=h
  have hr7:=hr.mono (j:=7) (by decide)
  have hr5:=hr.mono (j:=5) (by decide)
  have hr1:=hr.mono (j:=1) (by decide)
  have hr2:RoomN 2 (A.deeper (envOfC "read_given" (defScope sReadGiven) s.heap.objs.size f cdv)):=(hr.mono (j:=2) (by decide)).n
  refine ⟨_,pss_cons (ps_if (pw_or (pt_cmp (pc_gt (pe_callB call_len_seq (by rfl) hlen PySem.boot_len (pa_cons (pv 0) pa_nil)) (pe_ci c1))) (pw_or1 (pt_cmp (pc_gt (pe_callB call_len_seq (by rfl) hlen PySem.boot_len (pa_cons (pv 1) pa_nil)) (pe_ci c2))))).pt
    (pss_one (ps_ret (pe_makeN MG GG hr2 (by rfl) GM.mg bG (pa_cons (pe_un un_neg pe_int) (pa_cons pe_int (pa_cons (pe_lst pa_nil) (pa_cons pe_non pa_nil))))))) pss_nil)
   (pss_cons (ps_try (tb:=fun E'=>tAsg (tCall (spCat K CP) [] E' (tCons (tVar 0) tNil)) (gName 2)) XT rfl rfl (by rfl) S.mg (fun xe pn E' hP=>pss_one (ps_set (i:=2) sc_given.nd rfl (Or.inl rfl) (pe_call G1 hr (by rfl) h1 k1 b1 .nil hP (pa_cons (pv 0) pa_nil))))
    (fun ea=>pss_one (ps_ret (pe_makeN MG GG (hr2.mark _) (by rfl) GM.mg bG (pa_cons (pe_un un_neg pe_int) (pa_cons pe_int (pa_cons (pe_lst pa_nil) (pa_cons pe_non pa_nil))))))))
   (pss_cons (ps_if (pt_not (pt_val (pe_call G2 hr5 (by rfl) h2 k2 b2 .nil pass0 (pa_cons (pv 2) pa_nil)))) (pss_one (ps_ret (pe_makeN MG GG hr2 (by rfl) GM.mg bG (pa_cons (pe_un un_neg pe_int) (pa_cons pe_int (pa_cons (pe_lst pa_nil) (pa_cons pe_non pa_nil))))))) pss_nil)
   (pss_cons (ps_tryAs (i:=4) (tb:=fun E'=>tAsg (tCall (spBuild K CB) [] E' (tCons (tVar 1) (tCons (tCall (spNames K CP) [] E0 (tCons (tVar 2) tNil)) tNil))) (gName 3)) XT rfl rfl (by rfl) S.mg sc_given.nd rfl rfl
     (fun xe pn E' hP=>pss_one (ps_set (i:=3) sc_given.nd rfl (Or.inl rfl) (pe_call G3 hr7 (by rfl) h3 k3 b3 .nil hP (pa_cons (pv 1) (pa_cons (pe_call G4 hr1 (by rfl) h4 k4 b4 .nil pass0 (pa_cons (pv 2) pa_nil)) pa_nil)))))
     (fun ea=>pss_one (ps_ret (pe_makeN MG GG (hr2.mark _) (by rfl) GM.mg bG (pa_cons (pe_un un_neg pe_int) (pa_cons (pe_xget XT (pv 4) rfl) (pa_cons (pe_lst pa_nil) (pa_cons pe_non pa_nil))))))))
   (pss_one (ps_ret (pe_makeN MG GG hr2 (by rfl) GM.mg bG (pa_cons pe_int (pa_cons pe_int (pa_cons (pv 2) (pa_cons (pv 3) pa_nil)))))))))),?_⟩
  have no:∀ (n:Int) (H1:Hp),Same H H1→givRun lc lb=.no n→∀ (H':Hp) (g:Addr),Same H1 H'→H1 g=none→(∃ dx pa,H' g=some (.ins CG dx (GvF n 0 pa .non .non)))→Q (.ref g) H':=fun n H1 S1 e H' g S2 fg hg=>by
   have kk:=k H' g (S1.trans S2) (S1.free fg)
   rw [e] at kk
   exact kk hg
  refine ⟨_,rfl,c,_,rfl,.inl hc,_,_,rfl,rfl,_,rfl,ite2 (fun e1=>iteT ?_) (fun e1=>⟨_,rfl,b,_,rfl,.inl hb,_,_,rfl,rfl,_,rfl,ite2 (fun e2=>?_) (fun e2=>?_)⟩)⟩
  ·have e1:(1048576:Int)<((lc.map V.int).length:Int):=of_decide_eq_true e1
   rw [List.length_map] at e1
   have e3:givRun lc lb=.no (-2):=if_pos (.inl (by omega))
   exact ⟨_,rfl,Nat.zero_le _,fun l1 n1=>mk_no (no (-2) H (Same.id' _) e3) l1 n1⟩
  ·have e2:(16384:Int)<((lb.map V.int).length:Int):=of_decide_eq_true e2
   rw [List.length_map] at e2
   have e3:givRun lc lb=.no (-2):=if_pos (.inr (by (clear e1;omega)))
   exact ⟨_,rfl,Nat.zero_le _,fun l1 n1=>mk_no (no (-2) H (Same.id' _) e3) l1 n1⟩
  ·have e1:¬(1048576:Int)<((lc.map V.int).length:Int):=fun z=>e1 (decide_eq_true z)
   have e2:¬(16384:Int)<((lb.map V.int).length:Int):=fun z=>e2 (decide_eq_true z)
   rw [List.length_map] at e1 e2
   have e3:¬(1048576<lc.length∨16384<lb.length):=by omega
   unfold givRun at k no
   rw [if_neg e3] at k no
   refine ⟨_,rfl,c,lc,rfl,hc,?_⟩
   cases ec:catRun lc with
   |error i=>
    intro H1 S1 σ' hσ
    refine ⟨_,rfl,Nat.zero_le _,fun l1 n1=>mk_no (no (-6) H1 S1 (by rw [ec])) l1 n1⟩
   |ok prs=>
    intro H1 pa bs S1 hpa hps hp64 hp1
    rw [ec] at k no
    refine ⟨_,rfl,pa,bs,prs,rfl,SqL.of hpa,hps,hp1,hp64,fun H2 S2=>⟨_,rfl,ite2 (fun e4=>?_) (fun e4=>?_)⟩⟩
    ·rw [Bool.not_eq_true'] at e4
     exact ⟨_,rfl,Nat.zero_le _,fun l1 n1=>mk_no (no (-8) H2 (S1.trans S2) (by show (if catOk prs=true then _ else _)=_;rw [if_neg (by rw [e4];decide)])) l1 n1⟩
    ·rw [Bool.not_eq_true',Bool.not_eq_false] at e4
     have S12:=S1.trans S2
     have hpa2:=S2 _ _ hpa
     have hps2:PartsAt CP H2 bs prs:=Paired.mapP hps fun _ _ z=>⟨z.1.same S2,z.2⟩
     have k:∀ (H':Hp) (g:Addr),Same H H'→H g=none→GivAt CG CP CB H' g (match buildRun (prs.map (·.name)) lb with
       |.error i=>.bad i
       |.ok b=>.ok prs b.1 b.2)→Q (.ref g) H':=fun H' g s fg hg=>k H' g s fg (by show GivAt CG CP CB H' g (if catOk prs=true then _ else _);rw [if_pos e4];exact hg)
     refine ⟨_,rfl,_,rfl,pa,bs,prs,rfl,SqL.of hpa2,hps2,hp64,fun H3 Dl S3 _ hN=>?_⟩
     obtain ⟨qs,hD3,pq⟩:=hN
     have ts3:TsAt K H3 (qs.map V.ref) (prs.map (·.name)):=by
      have key:∀ {qs:List Addr} {prs:List PartR},Paired (fun q pr=>H3 q=some (.tup (pr.name.map V.int))) qs prs→TsAt K H3 (qs.map V.ref) (prs.map (·.name)):=by
       intro qs prs z
       induction z with
       |nil=>exact .nil
       |cons h t ih=>exact .cons ⟨_,rfl,SqT.of h⟩ ih
      exact key pq
     have nms:Nms K H3 Dl (prs.map (·.name)):=by
      refine ⟨⟨_,SqL.of hD3,ts3⟩,by rw [List.length_map];exact hp64,fun m hm=>?_⟩
      obtain ⟨pr,hpr,rfl⟩:=List.mem_map.mp hm
      obtain ⟨i,hi⟩:=List.mem_iff_getElem?.mp hpr
      obtain ⟨_,_,_,po⟩:=paired_at hps hi
      exact ⟨po.nm,cat_256 ec pr hpr⟩
     have S13:=S12.trans S3
     refine ⟨b,Dl,lb,_,rfl,S13.seq hb,nms,?_⟩
     cases eb:buildRun (prs.map (·.name)) lb with
     |error i=>
      intro H4 S4
      rw [eb] at k
      refine ⟨i,rfl,fun σ' e d hσ he hd hne=>?_⟩
      have S5:Same H4 (upd (upd H4 d (.xd [("fault",.int i)])) e (XR C d e)):=fun y o z=>by rw [upd_ne (ne_of_none z he),upd_ne (ne_of_none z hd)];exact z
      have h4:(σ'.set 4 (some (V.ref e)))[4]?=some (some (V.ref e)):=List.getElem?_set_self (by have:σ'.length=5:=hσ;(clear hp1 hp64 e3 e2 e1;omega))
      have S15:=(S13.trans S4).trans S5
      refine ⟨_,rfl,_,h4,e,d,i,rfl,upd_same,by rw [upd_ne hne,upd_same],Nat.zero_le _,fun l1 n1=>mk_no (fun H' g s fg hg=>k H' g (S15.trans s) (S15.free fg) hg) l1 n1⟩
     |ok bd=>
      intro H4 q S4 hbd
      rw [eb] at k
      have S24:Same H1 H4:=(S2.trans S3).trans S4
      refine ⟨_,rfl,_,rfl,fun x dx hx hdx hne=>?_⟩
      refine ⟨x,dx,pa,0,0,.ref q,rfl,upd_same,fun H5 hg s5=>⟨rfl,?_⟩⟩
      have S45:Same H4 H5:=fun y o e=>s5 y o (by rw [upd_ne (ne_of_none e hx),upd_ne (ne_of_none e hdx)];exact e) (ne_of_none e hx)
      have S15:=S24.trans S45
      exact k H5 x ((S13.trans S4).trans S45) ((S13.trans S4).free hx) ⟨dx,pa,q,bs,hg,S15 _ _ hpa,Paired.mapP hps fun _ _ z=>⟨z.1.same S15,z.2⟩,hbd.same S45,hp1,hp64⟩
end
end Br1
set_option Elab.async false
set_option linter.all false
set_option maxRecDepth 100000
set_option maxHeartbeats 4000000
namespace Br1
open PySem PySem.Spec PyProof.Rows L2
theorem giv_no {lc lb:List Int} {n:Int} (h:givRun lc lb=.no n):n= -2∨n= -6∨n= -8:=by
 unfold givRun at h
 split at h
 ·cases h;exact .inl rfl
 ·split at h
  ·cases h;exact .inr (.inl rfl)
  ·split at h
   ·split at h<;>cases h
   ·cases h;exact .inr (.inr rfl)
end Br1
set_option Elab.async false
set_option linter.all false
set_option maxRecDepth 100000
set_option maxHeartbeats 4000000
namespace L2
open PySem PySem.Spec PyProof.Rows
theorem us1 {us:List Value} {x:Str} (h:us.length=([x]:List Str).length):∃ a,us=[a]:=List.length_eq_one_iff.mp h
theorem us2 {us:List Value} {x y:Str} (h:us.length=([x,y]:List Str).length):∃ a b,us=[a,b]:=by
 cases us with
 |nil=>cases h
 |cons a r=>
  obtain ⟨b,rfl⟩:=us1 (x:=x) (Nat.succ.inj h)
  exact ⟨a,b,rfl⟩
theorem us3 {us:List Value} {x y z:Str} (h:us.length=([x,y,z]:List Str).length):∃ a b c,us=[a,b,c]:=by
 cases us with
 |nil=>cases h
 |cons a r=>
  obtain ⟨b,c,rfl⟩:=us2 (x:=x) (y:=y) (Nat.succ.inj h)
  exact ⟨a,b,c,rfl⟩
theorem us4 {us:List Value} {x y z w:Str} (h:us.length=([x,y,z,w]:List Str).length):∃ a b c d,us=[a,b,c,d]:=by
 cases us with
 |nil=>cases h
 |cons a r=>
  obtain ⟨b,c,d,rfl⟩:=us3 (x:=x) (y:=y) (z:=z) (Nat.succ.inj h)
  exact ⟨a,b,c,d,rfl⟩
theorem us5 {us:List Value} {x y z w v:Str} (h:us.length=([x,y,z,w,v]:List Str).length):∃ a b c d e,us=[a,b,c,d,e]:=by
 cases us with
 |nil=>cases h
 |cons a r=>
  obtain ⟨b,c,d,e,rfl⟩:=us4 (x:=x) (y:=y) (z:=z) (w:=w) (Nat.succ.inj h)
  exact ⟨a,b,c,d,e,rfl⟩
theorem us7 {us:List Value} {x y z w v u t:Str} (h:us.length=([x,y,z,w,v,u,t]:List Str).length):∃ a b c d e f g,us=[a,b,c,d,e,f,g]:=by
 cases us with
 |nil=>cases h
 |cons a r=>
  cases r with
  |nil=>cases h
  |cons b r=>
   obtain ⟨c,d,e,f,g,rfl⟩:=us5 (x:=x) (y:=y) (z:=z) (w:=w) (v:=v) (Nat.succ.inj (Nat.succ.inj h))
   exact ⟨a,b,c,d,e,f,g,rfl⟩
def FnK (K:PySem.W.Frag) (x qual:Str) (st:Stmt):Prop:=∃ (f:Addr) (oc:Value) (od:Option Addr) (kV doc pm:Value) (an:Option Addr) (cdv ct:Value) (osl:Array (Option Value)),
 PySem.W.nsIn K mainGlobals x=some (some (.ref f))∧K.lookup f=some ⟨oc,od,.func (PySem.W.fnOf x qual (defArgs st) (defBody st) (defScope st) .none kV doc pm an cdv ct),osl⟩∧PySem.W.codeIn K cdv qual=true∧PySem.W.keepIn K (.ref f)=true
def MtK (K:PySem.W.Frag) (C:Addr) (x qual:Str) (st:Stmt):Prop:=∃ (f:Addr) (oc:Value) (od:Option Addr) (kV doc pm:Value) (an:Option Addr) (cdv ct:Value) (osl:Array (Option Value)),
 PySem.W.findIn K (.ref C) x=some (some (.ref f))∧K.lookup f=some ⟨oc,od,.func (PySem.W.fnOf x qual (defArgs st) (defBody st) (defScope st) .none kV doc pm an cdv ct),osl⟩∧PySem.W.codeIn K cdv qual=true∧PySem.W.keepIn K (.ref f)=true∧PySem.W.isFn K (.ref f)=true
structure ClK (K:PySem.W.Frag) (x:Str) (C:Addr):Prop where
 ns:PySem.W.nsIn K mainGlobals x=some (some (.ref C))
 pg:PySem.W.plainGet K C Str.empty=true
 hd:PySem.W.hasDictIn K C=true
 po:PySem.W.plainOver K C=true
 sa:PySem.W.findIn K (.ref C) "__setattr__"=some (some (.builtin "object.__setattr__"))
 makes:PySem.W.makesIn K C=true
 kp:PySem.W.keepIn K (.ref C)=true
section
variable {P:Program} {w:World} {K:PySem.W.Frag} {h:Heap} {mg:Str→Option Value} {base:Heap} {C:Addr} {x qual:Str} {st:Stmt} {CX:CXT} {k:Nat} {ps:List Str} {sp:Sp}
theorem FnK.fn0 (h1:FnK K x qual st) (X:K.In h) (G:h.Ns mainGlobals mg) (ok:∀ (f:Addr) (fd:FuncData),Fun K x qual st f fd→FnOk P w K mg base CX k f fd ps sp)
  (hb:∀ (kV doc pm:Value) (an:Option Addr) (cdv ct:Value) (us:List Value),us.length=ps.length→bindArgs (PySem.W.fnOf x qual (defArgs st) (defBody st) (defScope st) .none kV doc pm an cdv ct) ⟨us,[]⟩=pure (ps.zip us)):Br1.Fn0 P w K mg base x CX k ps sp:=by
 obtain ⟨f,oc,od,kV,doc,pm,an,cdv,ct,osl,a,l,c,kp⟩:=h1
 have F:=fun_mk (st:=st) l c kp
 exact ⟨f,_,ok _ _ F,F.binds hb,kp,PySem.W.mg_of X G a⟩
theorem MtK.mt (h1:MtK K C x qual st) (ok:∀ (f:Addr) (fd:FuncData),Fun K x qual st f fd→FnOk P w K mg base CX k f fd ps sp)
  (hb:∀ (kV doc pm:Value) (an:Option Addr) (cdv ct:Value) (us:List Value),us.length=ps.length→bindArgs (PySem.W.fnOf x qual (defArgs st) (defBody st) (defScope st) .none kV doc pm an cdv ct) ⟨us,[]⟩=pure (ps.zip us)):Br1.RdM P w K mg base C x CX k ps sp:=by
 obtain ⟨f,oc,od,kV,doc,pm,an,cdv,ct,osl,a,l,c,kp,i⟩:=h1
 have F:=fun_mk (st:=st) l c kp
 exact ⟨f,_,⟨a,i,kp⟩,ok _ _ F,F.binds hb⟩
theorem ClK.cl (h1:ClK K x C):Cls K C:=⟨h1.pg,h1.hd,h1.po,h1.sa⟩
theorem MtK.mk (h1:MtK K C "__init__" qual st) (hC:ClK K x C) (ok:∀ (f:Addr) (fd:FuncData),Fun K "__init__" qual st f fd→FnOk P w K mg base CX k f fd ps sp)
  (hb:∀ (kV doc pm:Value) (an:Option Addr) (cdv ct:Value) (us:List Value),us.length=ps.length→bindArgs (PySem.W.fnOf "__init__" qual (defArgs st) (defBody st) (defScope st) .none kV doc pm an cdv ct) ⟨us,[]⟩=pure (ps.zip us)):∃ f fd,Mk K C f∧FnOk P w K mg base CX k f fd ps sp∧Binds K fd ps []:=by
 obtain ⟨f,oc,od,kV,doc,pm,an,cdv,ct,osl,a,l,c,kp,i⟩:=h1
 have F:=fun_mk (st:=st) l c kp
 exact ⟨f,_,⟨hC.makes,a,i,hC.kp⟩,ok _ _ F,F.binds hb⟩
theorem MtK.mkN (h1:MtK K C "__init__" qual st) (hC:ClK K x C) (ok:∀ (f:Addr) (fd:FuncData),Fun K "__init__" qual st f fd→FnOkN P w K mg base CX k f fd ps sp)
  (hb:∀ (kV doc pm:Value) (an:Option Addr) (cdv ct:Value) (us:List Value),us.length=ps.length→bindArgs (PySem.W.fnOf "__init__" qual (defArgs st) (defBody st) (defScope st) .none kV doc pm an cdv ct) ⟨us,[]⟩=pure (ps.zip us)):∃ f fd,Mk K C f∧FnOkN P w K mg base CX k f fd ps sp∧Binds K fd ps []:=by
 obtain ⟨f,oc,od,kV,doc,pm,an,cdv,ct,osl,a,l,c,kp,i⟩:=h1
 have F:=fun_mk (st:=st) l c kp
 exact ⟨f,_,⟨hC.makes,a,i,hC.kp⟩,ok _ _ F,F.binds hb⟩
end
end L2
set_option Elab.async false
set_option linter.all false
set_option maxRecDepth 100000
set_option maxHeartbeats 4000000
namespace Br1
open PySem PySem.Spec PyProof.Rows L2
def IntK (K:PySem.W.Frag) (x:Str) (n:Int):Prop:=∃ t,PySem.W.nsIn K mainGlobals x=some (some (.int n t))
theorem IntK.ci {K:PySem.W.Frag} {h:Heap} {mg:Str→Option Value} {x:Str} {n:Int} (hk:IntK K x n) (X:K.In h) (G:h.Ns mainGlobals mg):CI mg x n:=by
 obtain ⟨t,e⟩:=hk
 exact ⟨t,PySem.W.mg_of X G e⟩
theorem fnD_ok {K:PySem.W.Frag} {f:Addr} {x qual:Str} {st:Stmt} (h:fnD K f x qual=some (dfOf st)):∃ (oc:Value) (od:Option Addr) (kV doc pm:Value) (an:Option Addr) (cdv ct:Value) (osl:Array (Option Value)),
  K.lookup f=some ⟨oc,od,.func (PySem.W.fnOf x qual (defArgs st) (defBody st) (defScope st) .none kV doc pm an cdv ct),osl⟩∧PySem.W.codeIn K cdv qual=true∧PySem.W.keepIn K (.ref f)=true:=by
 unfold fnD at h
 split at h
 ·rename_i oc od nm q pa b sc gl kV doc pm an cd ct bl osl e
  split at h
  ·rename_i t
   simp only [Bool.and_eq_true,beq_iff_eq] at t
   obtain ⟨rfl,rfl,rfl,rfl,c,k⟩:=t
   cases h
   exact ⟨oc,od,kV,doc,pm,an,cd,ct,osl,e,c,k⟩
  ·cases h
 ·cases h
theorem excC_ok {K:PySem.W.Frag} {C f:Addr} (h:excC K C=some f):XCls K C f:=by
 unfold excC at h
 split at h
 ·rename_i c dd nm bs mro N q hd sn sub ab col hdel sl e
  split at h
  ·rename_i k0 k1 k2 k3 b k5 es
   split at h
   ·rename_i t
    simp only [Bool.and_eq_true,beq_iff_eq,Bool.not_eq_true'] at t
    obtain ⟨rfl,rfl,rfl,rfl,rfl,t1,t2,t3,t4,t5,t6⟩:=t
    split at h
    ·rename_i f' ei
     split at h
     ·rename_i tf
      cases h
      have es:sl=#[k0,k1,k2,k3,some (.builtin "Exception.__new__"),k5]:=by
       cases sl
       exact congrArg Array.mk es
      subst es
      exact ⟨⟨nm,q,N,bs,sn,sub,ab,col,dd,k0,k1,k2,k3,k5,e,t1,ei,t2,t3,t4,t5⟩,tf,t6⟩
     ·cases h
    ·cases h
   ·cases h
  ·cases h
 ·cases h
def Ft.P (K:PySem.W.Frag):Ft→Prop
 |.no x=>PySem.W.nsIn K mainGlobals x=some none
 |.int x n=>IntK K x n
 |.fn x st=>FnK K x x st
 |.cl x=>ClK K x (clA K x)
 |.at c f=>PySem.W.findIn K (.ref (clA K c)) f=some none
 |.mt c m q st=>MtK K (clA K c) m q st
 |.ints x l=>∃ a,PySem.W.nsIn K mainGlobals x=some (some (.ref a))∧∃ (o:Obj) (its:Array Value) (n:Nat),K.lookup a=some o∧o.cls=.type "tuple"∧o.data=.seq its n∧its.size≤sizeLine∧Vals (l.map V.int) its.toList
 |.exc x q st=>PySem.W.nsIn K mainGlobals x=some (some (.ref (clA K x)))∧∃ (f:Addr) (oc:Value) (od:Option Addr) (kV doc pm:Value) (an:Option Addr) (cdv ct:Value) (osl:Array (Option Value)),
   XCls K (clA K x) f∧K.lookup f=some ⟨oc,od,.func (PySem.W.fnOf "__init__" q (defArgs st) (defBody st) (defScope st) .none kV doc pm an cdv ct),osl⟩∧PySem.W.codeIn K cdv q=true∧PySem.W.keepIn K (.ref f)=true
theorem ints_vals:∀ {l:List Int} {vs:List Value},vs.map intOf=l.map some→Vals (l.map V.int) vs
 |[],[],_=>.nil
 |[],v::r,h=>by cases h
 |n::l,[],h=>by cases h
 |n::l,v::r,h=>by
  obtain ⟨h1,h2⟩:=List.cons.inj h
  refine .cons ?_ (ints_vals h2)
  cases v with
  |int m t=>cases h1;exact ⟨t,rfl⟩
  |_=>cases h1
theorem Ft.ok {K:PySem.W.Frag}:∀ {f:Ft},f.D K=f.X→f.P K
 |.no x,h=>beq_iff_eq.mp (congrArg Prod.fst h)
 |.int x n,h=>by
  have h:=congrArg Prod.fst h
  simp only [Ft.D,Ft.X] at h
  split at h
  ·rename_i m t e
   rw [beq_iff_eq] at h
   subst h
   exact ⟨t,e⟩
  ·cases h
 |.fn x st,h=>by
  simp only [Ft.D,Ft.X] at h
  split at h
  ·rename_i f e
   obtain ⟨oc,od,kV,doc,pm,an,cdv,ct,osl,l,c,k⟩:=fnD_ok (congrArg Prod.snd h)
   exact ⟨f,oc,od,kV,doc,pm,an,cdv,ct,osl,e,l,c,k⟩
  ·cases h
 |.cl x,h=>by
  have h:=congrArg Prod.fst h
  simp only [Ft.D,Ft.X] at h
  simp only [Bool.and_eq_true,beq_iff_eq] at h
  obtain ⟨h1,h2,h3,h4,h5,h6,h7⟩:=h
  exact ⟨h1,h2,h3,h4,h5,h6,h7⟩
 |.at c f,h=>beq_iff_eq.mp (congrArg Prod.fst h)
 |.mt c m q st,h=>by
  simp only [Ft.D,Ft.X] at h
  split at h
  ·rename_i f e
   obtain ⟨oc,od,kV,doc,pm,an,cdv,ct,osl,l,c,k⟩:=fnD_ok (congrArg Prod.snd h)
   exact ⟨f,oc,od,kV,doc,pm,an,cdv,ct,osl,e,l,c,k,congrArg Prod.fst h⟩
  ·cases h
 |.ints x l,h=>by
  have h:=congrArg Prod.fst h
  simp only [Ft.D,Ft.X] at h
  split at h
  ·rename_i a e
   split at h
   ·rename_i c d its n sl e2
    simp only [Bool.and_eq_true,beq_iff_eq,decide_eq_true_iff] at h
    obtain ⟨rfl,h2,h3⟩:=h
    have hl:=congrArg List.length h2
    rw [List.length_map,List.length_map,Array.length_toList] at hl
    have hb:=sizeLine_big
    refine ⟨a,e,_,its,n,e2,rfl,rfl,?_,ints_vals h2⟩
    show its.size≤sizeLine
    omega
   ·cases h
  ·cases h
 |.exc x q st,h=>by
  simp only [Ft.D,Ft.X] at h
  split at h
  ·rename_i f e
   obtain ⟨oc,od,kV,doc,pm,an,cdv,ct,osl,l,c,k⟩:=fnD_ok (congrArg Prod.snd h)
   exact ⟨beq_iff_eq.mp (congrArg Prod.fst h),f,oc,od,kV,doc,pm,an,cdv,ct,osl,excC_ok e,l,c,k⟩
  ·cases h
theorem frH_in {h:Heap}:∀ as:List Addr,(frH as h).In h
 |[]=>fun a o e=>by cases e
 |b::r=>fun a o e=>by
  unfold frH at e
  rw [List.filterMap_cons] at e
  cases q:h.get? b with
  |none=>
   rw [q] at e
   exact frH_in r a o e
  |some u=>
   rw [q] at e
   have e:List.lookup a ((b,u)::frH r h)=some o:=e
   rw [List.lookup_cons] at e
   split at e
   ·rename_i z
    cases e
    rw [beq_iff_eq.mp z]
    exact q
   ·exact frH_in r a o e
def ftHook (as:List Addr) (fs:List Ft):PySem.W.Hook where
 α:=List (Bool×Option Df)
 obs s:=fs.map (Ft.D (frH as s.heap))
 val _:=fs.map Ft.X
 says _ h:=∃ K:PySem.W.Frag,K.In h∧∀ f∈fs,f.P K
 of _ s e:=⟨_,frH_in as,fun f hf=>Ft.ok (List.map_inj_left.mp e f hf)⟩
 keeps _ _ _ x k:=let ⟨K,a,b⟩:=x;⟨K,a.keeps k,b⟩
theorem Ft.nth {K:PySem.W.Frag} {fs:List Ft} (h:∀ f∈fs,f.P K) (i:Nat) {f:Ft} (e:fs[i]?=some f):f.P K:=h f (List.mem_of_getElem? e)
end Br1
namespace L2
open PySem PySem.Spec PyProof.Rows
open PySem.W (WData Codec OpenSpec)
theorem walk_specE {r:OpenSpec} {k:Nat} {q:Program} {loose:List Str} {XP:(Str→Option Value)→Heap→Prop} {YP:World→Heap→Prop} {Good:PySem.W.Frag→Prop} {d:DefRec} {CX:CXT} {ps:List Str} {sp:PySem.W.Frag→Sp}
  (hwell:r.wellSaid=true) (hdf:d.params.defaults=[]) (hlen:r.args.length=ps.length) (hr:Room k callerA)
  (hY:∀ (w:World) (h:Heap),YP w h→∃ K:PySem.W.Frag,K.In h∧Good K)
  (F:∀ (w:World) (K:PySem.W.Frag) (mg:Str→Option Value) (fa:Addr) (h:Heap),Good K→K.In h→h.Ns mainGlobals mg→mg d.name=some (.ref fa)→
   ∃ fd:FuncData,(∀ (s:Shared) (us:List Value),us.length=ps.length→BindsTo s fd ⟨us,[]⟩ (ps.zip us))∧
    ∀ base:Heap,K.In base→base.Ns mainGlobals mg→FnOk r.prog w K mg base CX k fa fd ps (sp K))
  (hsp:∀ (K:PySem.W.Frag) (H:Hp) (xs:List V) (a:Codec.denoteAll r.args),OnlyF H→Codec.withinAll r.args a=true→Codec.app r.args r.asked a=true→DwAll K H xs (Codec.encAll r.args a)→
   sp K xs H (fun v H'=>Dw K H' v (r.ret.enc (Codec.app r.args r.f a))) fun _ _ _=>False)
  (hCX:∀ (H:Hp) (s:Shared) (e:Value) (s':Shared),CX [] H s (fun _ _ _=>False) e s'→False):
  PySem.W.WalkOS q loose XP YP r d [] (fun f vs=>PySem.call f vs):=by
 intro w s_0 s₁ mg mb G Y fa o pm cd doc dV kV ho hd hcd hD hmg hg args vals as hpre hlay hrd hwl hlo
 obtain ⟨a,e1,e2⟩:=PySem.W.os_pre_some hpre
 obtain ⟨e3,hwi⟩:=Codec.encAll_of_decAll r.args args a e1
 subst e3
 obtain ⟨K,KX,gk⟩:=hY w _ Y
 obtain ⟨fd,hb,hF⟩:=F w K mg fa _ gk KX G.T.g hmg
 refine PySem.W.enter_call (codeAny_mono (spec_call (R:=[]) (cl:=classAt s_0.heap) (d0:=r.ret.enc (Codec.app r.args r.f a)) KX G.T.g G.T.b G.T.builtins G.T.nolimit hg hwl (pl_encAll _ _) (layable_weight hlay) hr hF hb (by rw [encAll_len];exact hlen)
  (fun H xs hO hS=>hsp K H xs a hO hwi e2 hS) fun H e s'=>hCX H s₁ e s') fun r' s' hq=>?_)
 obtain ⟨u,as',rfl,h1,h2,h3,h4⟩:=hq
 exact ⟨.inl ⟨u,_,as',rfl,fun _=>rfl,h1,(OpenSpec.post_iff hwell hwi _ _).mpr rfl,fun z=>Bool.noConfusion (show false=true from z)⟩,h2,h3,h4⟩
end L2
set_option Elab.async false
set_option linter.all false
set_option maxRecDepth 100000
set_option maxHeartbeats 4000000
namespace Br1
open PySem PySem.Spec PyProof.Rows L2
structure CoreF (P:Program) (w:World) (K:PySem.W.Frag) (mg:Str→Option Value) (base:Heap) (CP CB CG:Addr):Prop where
 TG:GvT K CG
 TP:PtT K CP
 TB:BdT K CB
 PM:PtM P w K mg base CP
 BM:BdM P w K mg base CB
 stud:Fn0 P w K mg base "has_stud" CX0 1 ["sign"] spStud
 tube:Fn0 P w K mg base "has_tube" CX0 1 ["sign"] spTube
 up:Fn0 P w K mg base "above" CX0 1 ["place"] spAbove
 dn:Fn0 P w K mg base "below" CX0 1 ["place"] spBelow
 names:Fn0 P w K mg base "names_of" CX0 1 ["parts"] (spNames K CP)
 given:Fn0 P w K mg base "read_given" CX0 9 ["c","b"] (spGiven K CG CP CB)
section
variable {P:Program} {w:World} {K:PySem.W.Frag} {h:Heap} {mg:Str→Option Value} {base:Heap}
theorem core (X:K.In h) (G:h.Ns mainGlobals mg) (hK:∀ f∈ftC,f.P K):CoreF P w K mg base (clA K "Part") (clA K "Build") (clA K "Given"):=by
 have g:∀ (i:Nat) (f:Ft),ftC[i]?=some f→f.P K:=fun i f e=>Ft.nth hK i e
 have ci:∀ {x:Str} {n:Int},IntK K x n→CI mg x n:=fun hk=>hk.ci X G
 have nn:∀ {x:Str},PySem.W.nsIn K mainGlobals x=some none→mg x=none:=fun e=>PySem.W.mg_none_of X G e
 have T:RdT K (clA K "Reader"):=⟨ClK.cl (g 0 (.cl "Reader") rfl),(g 1 (.at "Reader" "text") rfl),(g 2 (.at "Reader" "position") rfl)⟩
 have TP:PtT K (clA K "Part"):=⟨ClK.cl (g 3 (.cl "Part") rfl),(g 4 (.at "Part" "name") rfl),(g 5 (.at "Part" "width") rfl),(g 6 (.at "Part" "depth") rfl),(g 7 (.at "Part" "height") rfl),(g 8 (.at "Part" "weight") rfl),(g 9 (.at "Part" "cells") rfl)⟩
 have TB:BdT K (clA K "Build"):=⟨ClK.cl (g 10 (.cl "Build") rfl),(g 11 (.at "Build" "name") rfl),(g 12 (.at "Build" "lines") rfl)⟩
 have TG:GvT K (clA K "Given"):=⟨ClK.cl (g 13 (.cl "Given") rfl),(g 14 (.at "Given" "refusal") rfl),(g 15 (.at "Given" "fault") rfl),(g 16 (.at "Given" "parts") rfl),(g 17 (.at "Given" "build") rfl),(g 18 (.at "Given" "room") rfl)⟩
 obtain ⟨aS,sg1,hS0⟩:=(g 19 (.ints "SIGNS" SIGNSL) rfl)
 have hS:∀ H,SqT K H aS (SIGNSL.map V.int):=fun H=>.inr hS0
 obtain ⟨stk,fS,oc,od,kV,doc,pm,an,cdv,ct,osl,XT,lS,cS,kS⟩:=(g 20 (.exc "Stuck" "Stuck.__init__" sStuckI) rfl)
 have FS:=fun_mk (st:=sStuckI) lS cS kS
 have S:StT P w K mg base (clA K "Stuck"):=⟨⟨fS,_,XT,ok_stuckI FS XT,FS.binds fun _ _ _ _ _ _ us hl=>(by obtain ⟨a,b,rfl⟩:=_root_.L2.us2 hl;rfl)⟩,PySem.W.mg_of X G stk⟩
 have L1:Fn0 P w K mg base "is_letter" CX0 1 ["byte"] spIsLetter:=FnK.fn0 (g 21 (.fn "is_letter" sIsLetter) rfl) X G (fun f fd F=>ok_isLetter F (nn (g 22 (.no "ord") rfl))) fun _ _ _ _ _ _ us hl=>(by obtain ⟨a,rfl⟩:=_root_.L2.us1 hl;rfl)
 have L2:Fn0 P w K mg base "is_digit" CX0 1 ["byte"] spIsDigit:=FnK.fn0 (g 23 (.fn "is_digit" sIsDigit) rfl) X G (fun f fd F=>ok_isDigit F (nn (g 22 (.no "ord") rfl))) fun _ _ _ _ _ _ us hl=>(by obtain ⟨a,rfl⟩:=_root_.L2.us1 hl;rfl)
 have RK:RdK P w K mg base (clA K "Reader"):=⟨MtK.mk (g 24 (.mt "Reader" "__init__" "Reader.__init__" sRdI) rfl) (g 0 (.cl "Reader") rfl) (fun f fd F=>ok_rdI F T) fun _ _ _ _ _ _ us hl=>(by obtain ⟨a,b,rfl⟩:=_root_.L2.us2 hl;rfl),PySem.W.mg_of X G (ClK.ns (g 0 (.cl "Reader") rfl))⟩
 have M1:RdM P w K mg base (clA K "Reader") "ended" CX0 1 ["self"] (spEnded K (clA K "Reader")):=MtK.mt (g 25 (.mt "Reader" "ended" "Reader.ended" sEnded) rfl) (fun f fd F=>ok_ended F T (nn (g 26 (.no "len") rfl))) fun _ _ _ _ _ _ us hl=>(by obtain ⟨a,rfl⟩:=_root_.L2.us1 hl;rfl)
 obtain ⟨t0,e0⟩:=ci (g 27 (.int "NO_BYTE" 256) rfl)
 have M2:RdM P w K mg base (clA K "Reader") "here" CX0 2 ["self"] (spHere K (clA K "Reader")):=MtK.mt (g 28 (.mt "Reader" "here" "Reader.here" sHere) rfl) (fun f fd F=>ok_here F T e0 M1) fun _ _ _ _ _ _ us hl=>(by obtain ⟨a,rfl⟩:=_root_.L2.us1 hl;rfl)
 have M3:RdM P w K mg base (clA K "Reader") "take" CX0 3 ["self"] (spTake K (clA K "Reader")):=MtK.mt (g 29 (.mt "Reader" "take" "Reader.take" sTake) rfl) (fun f fd F=>ok_take F T M2) fun _ _ _ _ _ _ us hl=>(by obtain ⟨a,rfl⟩:=_root_.L2.us1 hl;rfl)
 have M4:RdM P w K mg base (clA K "Reader") "read_one_of" (CXF (clA K "Stuck") P w) 4 ["self","signs"] (spOneOf K (clA K "Reader")):=MtK.mt (g 30 (.mt "Reader" "read_one_of" "Reader.read_one_of" sOneOf) rfl) (fun f fd F=>ok_oneOf F T S M2 M3) fun _ _ _ _ _ _ us hl=>(by obtain ⟨a,b,rfl⟩:=_root_.L2.us2 hl;rfl)
 have M5:RdM P w K mg base (clA K "Reader") "read_word" (CXF (clA K "Stuck") P w) 5 ["self","word"] (spWord K (clA K "Reader")):=MtK.mt (g 31 (.mt "Reader" "read_word" "Reader.read_word" sWord) rfl) (fun f fd F=>ok_word F T (nn (g 22 (.no "ord") rfl)) M4) fun _ _ _ _ _ _ us hl=>(by obtain ⟨a,b,rfl⟩:=_root_.L2.us2 hl;rfl)
 have M6:RdM P w K mg base (clA K "Reader") "read_name" (CXF (clA K "Stuck") P w) 4 ["self","longest"] (spName K (clA K "Reader")):=MtK.mt (g 32 (.mt "Reader" "read_name" "Reader.read_name" sName) rfl) (fun f fd F=>ok_name F T S (nn (g 26 (.no "len") rfl)) (nn (g 33 (.no "tuple") rfl)) M2 M3 L1 L2) fun _ _ _ _ _ _ us hl=>(by obtain ⟨a,b,rfl⟩:=_root_.L2.us2 hl;rfl)
 have M7:RdM P w K mg base (clA K "Reader") "read_number" (CXF (clA K "Stuck") P w) 4 ["self","least","most"] (spNumber K (clA K "Reader")):=MtK.mt (g 34 (.mt "Reader" "read_number" "Reader.read_number" sNumber) rfl) (fun f fd F=>ok_number F T S (nn (g 22 (.no "ord") rfl)) M2 M3 L2) fun _ _ _ _ _ _ us hl=>(by obtain ⟨a,b,c,rfl⟩:=_root_.L2.us3 hl;rfl)
 have M8:RdM P w K mg base (clA K "Reader") "read_end" (CXF (clA K "Stuck") P w) 3 ["self"] (spEnd K (clA K "Reader")):=MtK.mt (g 35 (.mt "Reader" "read_end" "Reader.read_end" sEnd) rfl) (fun f fd F=>ok_end F T S M1) fun _ _ _ _ _ _ us hl=>(by obtain ⟨a,rfl⟩:=_root_.L2.us1 hl;rfl)
 have PM:PtM P w K mg base (clA K "Part"):=⟨MtK.mk (g 36 (.mt "Part" "__init__" "Part.__init__" sPartI) rfl) (g 3 (.cl "Part") rfl) (fun f fd F=>ok_partI F TP) fun _ _ _ _ _ _ us hl=>(by obtain ⟨a,b,c,d,e,f,g,rfl⟩:=_root_.L2.us7 hl;rfl),PySem.W.mg_of X G (ClK.ns (g 3 (.cl "Part") rfl))⟩
 have BM:BdM P w K mg base (clA K "Build"):=⟨MtK.mk (g 37 (.mt "Build" "__init__" "Build.__init__" sBuildI) rfl) (g 10 (.cl "Build") rfl) (fun f fd F=>ok_bdI F TB) fun _ _ _ _ _ _ us hl=>(by obtain ⟨a,b,c,rfl⟩:=_root_.L2.us3 hl;rfl),PySem.W.mg_of X G (ClK.ns (g 10 (.cl "Build") rfl))⟩
 have GM:GvM P w K mg base (clA K "Given"):=⟨MtK.mkN (g 38 (.mt "Given" "__init__" "Given.__init__" sGivenI) rfl) (g 13 (.cl "Given") rfl) (fun f fd F=>ok_givI F TG) fun _ _ _ _ _ _ us hl=>(by obtain ⟨a,b,c,d,e,rfl⟩:=_root_.L2.us5 hl;rfl),PySem.W.mg_of X G (ClK.ns (g 13 (.cl "Given") rfl))⟩
 have L3:Fn0 P w K mg base "has_stud" CX0 1 ["sign"] spStud:=FnK.fn0 (g 39 (.fn "has_stud" sHasStud) rfl) X G (fun f fd F=>ok_stud F (ci (g 40 (.int "STUD" 115) rfl)) (ci (g 41 (.int "BOTH" 98) rfl))) fun _ _ _ _ _ _ us hl=>(by obtain ⟨a,rfl⟩:=_root_.L2.us1 hl;rfl)
 have L4:Fn0 P w K mg base "has_tube" CX0 1 ["sign"] spTube:=FnK.fn0 (g 42 (.fn "has_tube" sHasTube) rfl) X G (fun f fd F=>ok_tube F (ci (g 43 (.int "TUBE" 116) rfl)) (ci (g 41 (.int "BOTH" 98) rfl))) fun _ _ _ _ _ _ us hl=>(by obtain ⟨a,rfl⟩:=_root_.L2.us1 hl;rfl)
 have L5:Fn0 P w K mg base "above" CX0 1 ["place"] spAbove:=FnK.fn0 (g 44 (.fn "above" sAbove) rfl) X G (fun f fd F=>ok_above F) fun _ _ _ _ _ _ us hl=>(by obtain ⟨a,rfl⟩:=_root_.L2.us1 hl;rfl)
 have L6:Fn0 P w K mg base "below" CX0 1 ["place"] spBelow:=FnK.fn0 (g 45 (.fn "below" sBelow) rfl) X G (fun f fd F=>ok_below F) fun _ _ _ _ _ _ us hl=>(by obtain ⟨a,rfl⟩:=_root_.L2.us1 hl;rfl)
 have L9:Fn0 P w K mg base "read_cells" (CXF (clA K "Stuck") P w) 6 ["reader","width","depth","height"] (spCells K (clA K "Reader")):=FnK.fn0 (g 46 (.fn "read_cells" sReadCells) rfl) X G (fun f fd F=>ok_cells F T (nn (g 47 (.no "range") rfl)) hS (PySem.W.mg_of X G sg1) (ci (g 48 (.int "NO_CELL" 46) rfl)) M4 M5) fun _ _ _ _ _ _ us hl=>(by obtain ⟨a,b,c,d,rfl⟩:=_root_.L2.us4 hl;rfl)
 have L8:Fn0 P w K mg base "read_part" (CXF (clA K "Stuck") P w) 7 ["reader"] (spPart K (clA K "Reader") (clA K "Part")):=FnK.fn0 (g 49 (.fn "read_part" sReadPart) rfl) X G (fun f fd F=>ok_part F T PM (ci (g 50 (.int "LONGEST_PART_NAME" 8) rfl)) (ci (g 51 (.int "MOST_WIDTH" 16) rfl)) (ci (g 52 (.int "MOST_DEPTH" 16) rfl)) (ci (g 53 (.int "MOST_HEIGHT" 18) rfl)) (ci (g 54 (.int "MOST_WEIGHT" 9999) rfl)) M5 M6 M7 L9) fun _ _ _ _ _ _ us hl=>(by obtain ⟨a,rfl⟩:=_root_.L2.us1 hl;rfl)
 have L7:Fn0 P w K mg base "read_catalogue" (CXF (clA K "Stuck") P w) 8 ["c"] (spCat K (clA K "Part")):=FnK.fn0 (g 55 (.fn "read_catalogue" sReadCat) rfl) X G (fun f fd F=>ok_cat F T RK (nn (g 26 (.no "len") rfl)) (ci (g 56 (.int "MOST_PARTS" 64) rfl)) M1 M8 L8) fun _ _ _ _ _ _ us hl=>(by obtain ⟨a,rfl⟩:=_root_.L2.us1 hl;rfl)
 have L12:Fn0 P w K mg base "studs_clear" CX0 2 ["part"] (spStuds (clA K "Part")):=FnK.fn0 (g 57 (.fn "studs_clear" sStuds) rfl) X G (fun f fd F=>ok_studs F TP L3 L5) fun _ _ _ _ _ _ us hl=>(by obtain ⟨a,rfl⟩:=_root_.L2.us1 hl;rfl)
 have L13:Fn0 P w K mg base "tubes_clear" CX0 2 ["part"] (spTubes (clA K "Part")):=FnK.fn0 (g 58 (.fn "tubes_clear" sTubes) rfl) X G (fun f fd F=>ok_tubes F TP L4 L6) fun _ _ _ _ _ _ us hl=>(by obtain ⟨a,rfl⟩:=_root_.L2.us1 hl;rfl)
 have L14:Fn0 P w K mg base "fills_its_box" CX0 2 ["part"] (spFills (clA K "Part")):=FnK.fn0 (g 59 (.fn "fills_its_box" sFills) rfl) X G (fun f fd F=>ok_fills F TP (nn (g 60 (.no "enumerate") rfl))) fun _ _ _ _ _ _ us hl=>(by obtain ⟨a,rfl⟩:=_root_.L2.us1 hl;rfl)
 have L16:Fn0 P w K mg base "neighbours" CX0 2 ["place"] spNeigh:=FnK.fn0 (g 61 (.fn "neighbours" sNeigh) rfl) X G (fun f fd F=>ok_neigh F L5 L6) fun _ _ _ _ _ _ us hl=>(by obtain ⟨a,rfl⟩:=_root_.L2.us1 hl;rfl)
 have L15:Fn0 P w K mg base "hangs_together" CX0 3 ["part"] (spHangs (clA K "Part")):=FnK.fn0 (g 62 (.fn "hangs_together" sHangs) rfl) X G (fun f fd F=>ok_hangs F TP (nn (g 26 (.no "len") rfl)) (nn (g 63 (.no "list") rfl)) L16) fun _ _ _ _ _ _ us hl=>(by obtain ⟨a,rfl⟩:=_root_.L2.us1 hl;rfl)
 have L17:Fn0 P w K mg base "names_grow" CX0 2 ["parts"] (spGrow K (clA K "Part")):=FnK.fn0 (g 64 (.fn "names_grow" sGrow) rfl) X G (fun f fd F=>ok_grow F TP (nn (g 47 (.no "range") rfl)) (nn (g 26 (.no "len") rfl))) fun _ _ _ _ _ _ us hl=>(by obtain ⟨a,rfl⟩:=_root_.L2.us1 hl;rfl)
 have L11:Fn0 P w K mg base "part_right" CX0 4 ["part"] (spRight (clA K "Part")):=FnK.fn0 (g 65 (.fn "part_right" sPartRight) rfl) X G (fun f fd F=>ok_right F L12 L13 L14 L15) fun _ _ _ _ _ _ us hl=>(by obtain ⟨a,rfl⟩:=_root_.L2.us1 hl;rfl)
 have L10:Fn0 P w K mg base "catalogue_right" CX0 5 ["parts"] (spCatRight K (clA K "Part")):=FnK.fn0 (g 66 (.fn "catalogue_right" sCatRight) rfl) X G (fun f fd F=>ok_catRight F (nn (g 67 (.no "all") rfl)) L11 L17) fun _ _ _ _ _ _ us hl=>(by obtain ⟨a,rfl⟩:=_root_.L2.us1 hl;rfl)
 have L21:Fn0 P w K mg base "some_begins" CX0 2 ["names","beginning"] (spBegins K):=FnK.fn0 (g 68 (.fn "some_begins" sBegins) rfl) X G (fun f fd F=>ok_begins F (nn (g 69 (.no "any") rfl)) (nn (g 26 (.no "len") rfl))) fun _ _ _ _ _ _ us hl=>(by obtain ⟨a,b,rfl⟩:=_root_.L2.us2 hl;rfl)
 have L20:Fn0 P w K mg base "read_part_number" (CXF (clA K "Stuck") P w) 5 ["reader","names"] (spPartNo K (clA K "Reader")):=FnK.fn0 (g 70 (.fn "read_part_number" sPartNo) rfl) X G (fun f fd F=>ok_partNo F T S M2 M3 L21) fun _ _ _ _ _ _ us hl=>(by obtain ⟨a,b,rfl⟩:=_root_.L2.us2 hl;rfl)
 have L19:Fn0 P w K mg base "read_line" (CXF (clA K "Stuck") P w) 6 ["reader","names"] (spLine K (clA K "Reader")):=FnK.fn0 (g 71 (.fn "read_line" sReadLine) rfl) X G (fun f fd F=>ok_line F T (nn (g 33 (.no "tuple") rfl)) (ci (g 72 (.int "MOST_COLOUR" 255) rfl)) (ci (g 73 (.int "ROOM_WIDTH" 64) rfl)) (ci (g 74 (.int "ROOM_DEPTH" 64) rfl)) (ci (g 75 (.int "ROOM_HEIGHT" 96) rfl)) (ci (g 76 (.int "MOST_TURNS" 3) rfl)) M5 M7 L20) fun _ _ _ _ _ _ us hl=>(by obtain ⟨a,b,rfl⟩:=_root_.L2.us2 hl;rfl)
 have L18:Fn0 P w K mg base "read_build" (CXF (clA K "Stuck") P w) 7 ["b","names"] (spBuild K (clA K "Build")):=FnK.fn0 (g 77 (.fn "read_build" sReadBuild) rfl) X G (fun f fd F=>ok_build F T RK BM (nn (g 26 (.no "len") rfl)) (ci (g 78 (.int "LONGEST_BUILD_NAME" 16) rfl)) (ci (g 79 (.int "MOST_LINES" 256) rfl)) M1 M8 M5 M6 L19) fun _ _ _ _ _ _ us hl=>(by obtain ⟨a,b,rfl⟩:=_root_.L2.us2 hl;rfl)
 have L22:Fn0 P w K mg base "names_of" CX0 1 ["parts"] (spNames K (clA K "Part")):=FnK.fn0 (g 80 (.fn "names_of" sNamesOf) rfl) X G (fun f fd F=>ok_names F TP) fun _ _ _ _ _ _ us hl=>(by obtain ⟨a,rfl⟩:=_root_.L2.us1 hl;rfl)
 exact ⟨TG,TP,TB,PM,BM,L3,L4,L5,L6,L22,FnK.fn0 (g 81 (.fn "read_given" sReadGiven) rfl) X G (fun f fd F=>ok_given F GM S (nn (g 26 (.no "len") rfl)) (ci (g 82 (.int "MOST_CATALOGUE_BYTES" 1048576) rfl)) (ci (g 83 (.int "MOST_BUILD_BYTES" 16384) rfl)) L7 L10 L18 L22) fun _ _ _ _ _ _ us hl=>(by obtain ⟨a,b,rfl⟩:=_root_.L2.us2 hl;rfl)⟩
end
end Br1
set_option Elab.async false
set_option linter.all false
set_option maxRecDepth 100000
set_option maxHeartbeats 1000000
namespace Br1
def toI (t:Br.Bytes):List Int:=t.map fun c=>(c.toNat:Int)
abbrev At (t:Br.Bytes) (p:Nat):Nat×Br.Bytes:=(p,t.drop p)
def toB (i:Int):UInt8:=UInt8.ofNat i.toNat
theorem toB_of (c:UInt8):toB (c.toNat:Int)=c:=by
 unfold toB
 rw [Int.toNat_natCast]
 exact UInt8.ofNat_toNat
theorem here_some {t:Br.Bytes} {p:Nat} {c:UInt8} (h:t[p]?=some c):hereI (toI t) p=(c.toNat:Int):=by
 unfold hereI toI
 rw [List.getElem?_map,h]
 rfl
theorem here_none {t:Br.Bytes} {p:Nat} (h:t[p]?=none):hereI (toI t) p=256:=by
 unfold hereI toI
 rw [List.getElem?_map,h]
 rfl
theorem here_eq {t:Br.Bytes} {p:Nat} {c:UInt8}:hereI (toI t) p=(c.toNat:Int)↔t[p]?=some c:=by
 constructor
 ·intro h
  cases e:t[p]? with
  |none=>
   rw [here_none e] at h
   have:=UInt8.toNat_lt c
   omega
  |some d=>
   rw [here_some e] at h
   have:d.toNat=c.toNat:=by omega
   rw [UInt8.toNat_inj.mp this]
 ·exact here_some
theorem toI_len (t:Br.Bytes):(toI t).length=t.length:=List.length_map _
section
variable {α β:Type} {t:Br.Bytes} {p:Nat}
theorem rd_bind {x:Br.Rd α} {f:α→Br.Rd β} {s:Nat×Br.Bytes}:(x>>=f) s=bnd (x s) fun r=>f r.1 r.2:=by
 show (StateT.bind x f) s=_
 unfold StateT.bind
 cases x s with
 |error e=>rfl
 |ok r=>rfl
theorem peek_at:Br.peek (At t p)=.ok (t[p]?,At t p):=by
 show Except.ok ((t.drop p).head?,_)=_
 rw [List.head?_drop]
theorem skip_at:Br.skip (At t p)=.ok ((),At t (p+1)):=by
 show Except.ok ((),(p+1,(t.drop p).drop 1))=_
 rw [List.drop_drop]
end
def liftR {α β:Type} (t:Br.Bytes) (f:α→β):Except Nat (α×Nat)→Except Nat (β×(Nat×Br.Bytes))
 |.ok x=>.ok (f x.1,At t x.2)
 |.error e=>.error e
def liftN (t:Br.Bytes):Except Nat Nat→Except Nat (Unit×(Nat×Br.Bytes))
 |.ok q=>.ok ((),At t q)
 |.error e=>.error e
theorem byte_at {t:Br.Bytes} {p:Nat} {c:UInt8}:Br.byte_ c (At t p)=if t[p]?=some c then .ok ((),At t (p+1)) else .error p:=by
 unfold Br.byte_
 rw [rd_bind,peek_at,bnd_ok]
 show (if t[p]?=some c then Br.skip else Br.stray) (At t p)=_
 by_cases h:t[p]?=some c
 ·rw [if_pos h,if_pos h]
  exact skip_at
 ·rw [if_neg h,if_neg h]
  rfl
theorem bytes_at {t:Br.Bytes}:∀ {cs:Br.Bytes} {p:Nat},Br.bytes_ cs (At t p)=liftN t (wordRun (toI t) p (cs.map UInt8.toNat))
 |[],p=>rfl
 |c::r,p=>by
  rw [Br.bytes_,rd_bind,byte_at]
  rw [List.map_cons,wordRun]
  by_cases h:t[p]?=some c
  ·rw [if_pos h,if_pos (here_eq.mpr h)]
   exact bytes_at
  ·rw [if_neg h,if_neg (fun z=>h (here_eq.mp z))]
   rfl
theorem byte_word {t:Br.Bytes} {p:Nat} {c:UInt8}:Br.byte_ c (At t p)=liftN t (wordRun (toI t) p [c.toNat]):=by
 rw [byte_at,wordRun]
 by_cases h:t[p]?=some c
 ·rw [if_pos h,if_pos (here_eq.mpr h)]
  rfl
 ·rw [if_neg h,if_neg (fun z=>h (here_eq.mp z))]
  rfl
theorem leads {lo hi n:Nat} (hlo:lo≤1) (hh:lo≤hi):Br.leadsTo lo hi n=decide (lo≤n∧n≤hi):=by
 unfold Br.leadsTo
 by_cases hn:n=0
 ·rw [if_pos hn,hn,Bool.eq_iff_iff,beq_iff_eq,decide_eq_true_iff]
  (clear hn hh hlo;omega)
 ·rw [if_neg hn,Bool.eq_iff_iff,List.any_eq_true,decide_eq_true_iff]
  constructor
  ·rintro ⟨k,_,h⟩
   rw [Bool.and_eq_true,decide_eq_true_iff,decide_eq_true_iff] at h
   have h1:1≤10 ^ k:=Nat.one_le_pow _ _ (by decide)
   have h2:n * 1≤n * 10 ^ k:=Nat.mul_le_mul_left n h1
   (clear h1 hh;omega)
  ·rintro ⟨h1,h2⟩
   refine ⟨0,by simp,?_⟩
   rw [Bool.and_eq_true,decide_eq_true_iff,decide_eq_true_iff]
   simp
   (clear h1 hh;omega)
theorem isDigit_eq (c:UInt8):Br.isDigit c=isDig (c.toNat:Int):=by
 unfold Br.isDigit isDig
 rw [Bool.eq_iff_iff,Bool.and_eq_true,Bool.and_eq_true,decide_eq_true_iff,decide_eq_true_iff,decide_eq_true_iff,decide_eq_true_iff]
 omega
theorem isLow_eq (c:UInt8):Br.isLow c=isLet (c.toNat:Int):=by
 unfold Br.isLow isLet
 rw [Bool.eq_iff_iff,Bool.and_eq_true,Bool.and_eq_true,decide_eq_true_iff,decide_eq_true_iff,decide_eq_true_iff,decide_eq_true_iff]
 omega
theorem digits_step {t:Br.Bytes} {lo hi f p:Nat} {v:Option Nat}:Br.digits lo hi (f+1) v (At t p)=
  match ((t[p]?).bind fun (c:UInt8)=>if Br.isDigit c=false∨v=some 0 then Option.none else (if Br.leadsTo lo hi (10 * v.getD 0+(c.toNat - 48))=true then some (10 * v.getD 0+(c.toNat - 48)) else Option.none)) with
  |some n=>Br.digits lo hi f (some n) (At t (p+1))
  |Option.none=>match v with
   |some n=>if lo≤n∧n≤hi then .ok (n,At t p) else .error p
   |Option.none=>.error p:=by
 show (Br.peek>>=fun (o:Option UInt8)=>(match (o.bind fun (c:UInt8)=>if Br.isDigit c=false∨v=some 0 then Option.none else (if Br.leadsTo lo hi (10 * v.getD 0+(c.toNat - 48))=true then some (10 * v.getD 0+(c.toNat - 48)) else Option.none)) with
  |some n=>(do Br.skip;Br.digits lo hi f (some n):Br.Rd Nat)
  |Option.none=>(match v with
   |some n=>(if lo≤n∧n≤hi then pure n else Br.stray:Br.Rd Nat)
   |Option.none=>Br.stray))) (At t p)=_
 rw [rd_bind,peek_at]
 show (match ((t[p]?).bind fun (c:UInt8)=>if Br.isDigit c=false∨v=some 0 then Option.none else (if Br.leadsTo lo hi (10 * v.getD 0+(c.toNat - 48))=true then some (10 * v.getD 0+(c.toNat - 48)) else Option.none)) with
  |some n=>(do Br.skip;Br.digits lo hi f (some n):Br.Rd Nat)
  |Option.none=>(match v with
   |some n=>(if lo≤n∧n≤hi then pure n else Br.stray:Br.Rd Nat)
   |Option.none=>Br.stray)) (At t p)=_
 cases (t[p]?).bind fun (c:UInt8)=>if Br.isDigit c=false∨v=some 0 then Option.none else (if Br.leadsTo lo hi (10 * v.getD 0+(c.toNat - 48))=true then some (10 * v.getD 0+(c.toNat - 48)) else Option.none) with
 |some n=>
  show (Br.skip>>=fun _=>Br.digits lo hi f (some n)) (At t p)=_
  rw [rd_bind,skip_at]
  rfl
 |none=>
  cases v with
  |none=>rfl
  |some n=>
   by_cases h:lo≤n∧n≤hi
   ·simp only [h,if_true,and_self]
    rfl
   ·simp only [h,if_false]
    rfl
theorem digits_more {t:Br.Bytes} {lo hi:Nat} (hlo:lo≤1):∀ {f p n m:Nat},1≤f→(n=0∨hi<n * 10 ^ f)→lo≤n→n≤hi→t.length≤p+m→
  Br.digits lo hi f (some n) (At t p)=.ok ((numMore (toI t) hi m p (n:Int)).1.toNat,At t (numMore (toI t) hi m p (n:Int)).2)
 |0,p,n,m,h,_,_,_,_=>absurd h (by decide)
 |f+1,p,n,m,_,hc,h1,h2,hm=>by
  rw [digits_step]
  have stop:(numMore (toI t) hi m p (n:Int))=((n:Int),p)→(if lo≤n∧n≤hi then (.ok (n,At t p):Except Nat (Nat×(Nat×Br.Bytes))) else .error p)=.ok ((numMore (toI t) hi m p (n:Int)).1.toNat,At t (numMore (toI t) hi m p (n:Int)).2):=fun e=>by
   rw [if_pos ⟨h1,h2⟩,e]
   show _=Except.ok (((n:Int)).toNat,At t p)
   rw [Int.toNat_natCast]
  cases e:t[p]? with
  |none=>
   show (if lo≤n∧n≤hi then (.ok (n,At t p):Except Nat (Nat×(Nat×Br.Bytes))) else .error p)=_
   refine stop ?_
   cases m with
   |zero=>rfl
   |succ m=>
    rw [numMore,if_neg]
    rintro ⟨_,z,_⟩
    rw [here_none e] at z
    revert z
    decide
  |some c=>
   have hp:p<t.length:=(List.getElem?_eq_some_iff.mp e).1
   obtain ⟨m,rfl⟩:∃ m',m=m'+1:=⟨m - 1,by (clear h2 h1 hc hlo;omega)⟩
   have hh:=here_some e
   by_cases hd:Br.isDigit c=false∨(some n:Option Nat)=some 0
   ·show (match (if Br.isDigit c=false∨(some n:Option Nat)=some 0 then (Option.none:Option Nat) else _) with
     |some n=>_
     |Option.none=>(if lo≤n∧n≤hi then (.ok (n,At t p):Except Nat (Nat×(Nat×Br.Bytes))) else .error p))=_
    rw [if_pos hd]
    refine stop ?_
    rw [numMore,if_neg]
    rintro ⟨z1,z2,_⟩
    rw [hh,←isDigit_eq] at z2
    rcases hd with hd|hd
    ·rw [hd] at z2;cases z2
    ·cases hd;exact absurd z1 (by decide)
   ·have hd1:Br.isDigit c=true:=by
     cases z:Br.isDigit c with
     |true=>rfl
     |false=>exact absurd (.inl z) hd
    have hn0:n≠0:=fun z=>hd (.inr (by rw [z]))
    have hdr:48≤c.toNat∧c.toNat≤57:=by
     rw [isDigit_eq] at hd1
     have:=dig_range hd1
     (clear hn0 hd hh hm hp h2 h1 hc hlo;omega)
    show (match (if Br.isDigit c=false∨(some n:Option Nat)=some 0 then (Option.none:Option Nat) else (if Br.leadsTo lo hi (10 * n+(c.toNat - 48))=true then some (10 * n+(c.toNat - 48)) else Option.none)) with
     |some n=>Br.digits lo hi f (some n) (At t (p+1))
     |Option.none=>(if lo≤n∧n≤hi then (.ok (n,At t p):Except Nat (Nat×(Nat×Br.Bytes))) else .error p))=_
    rw [if_neg hd,leads hlo (Nat.le_trans h1 h2)]
    by_cases hl:lo≤10 * n+(c.toNat - 48)∧10 * n+(c.toNat - 48)≤hi
    ·rw [if_pos (decide_eq_true hl)]
     have hpow:n * 10 ^ (f+1)=(10 * n) * 10 ^ f:=by rw [Nat.pow_succ,Nat.mul_comm (10 ^ f) 10,←Nat.mul_assoc,Nat.mul_comm n 10]
     have hc2:hi<n * 10 ^ (f+1):=by
      rcases hc with z|z
      ·exact absurd z hn0
      ·exact z
     have hf:1≤f:=by
      cases f with
      |zero=>rw [hpow,Nat.pow_zero,Nat.mul_one] at hc2;(clear hc2 hpow hdr hd hh hm hp h2 h1 hlo;omega)
      |succ f=>(clear hc2 hpow hc hl hdr hn0 hd hh hm hp h2 h1 hlo;omega)
     have hmul:(10 * n) * 10 ^ f≤(10 * n+(c.toNat - 48)) * 10 ^ f:=Nat.mul_le_mul_right _ (by (clear hf hc2 hpow hl hdr hn0 hd hh hm hp h2 h1 hc hlo;omega))
     show Br.digits lo hi f (some (10 * n+(c.toNat - 48))) (At t (p+1))=_
     rw [digits_more hlo (m:=m) hf (.inr (by (clear hf hc2 hl hdr hd hh hm hp h2 h1 hlo;omega))) hl.1 hl.2 (by (clear hmul hf hc2 hpow hl hdr hn0 hd hh hp h2 h1 hc hlo;omega))]
     have e2:numMore (toI t) hi (m+1) p (n:Int)=numMore (toI t) hi m (p+1) ((10 * n+(c.toNat - 48):Nat):Int):=by
      rw [numMore,if_pos]
      ·congr 1
       rw [hh]
       (clear hmul hf hc2 hpow hl hn0 hd hh hm hp h2 h1 hc hlo;omega)
      ·rw [hh]
       refine ⟨by (clear hmul hf hc2 hpow hl hdr hd hh hm hp h2 h1 hc hlo;omega),by rw [←isDigit_eq];exact hd1,by (clear hmul hf hc2 hpow hdr hn0 hd hh hm hp h2 h1 hc hlo;omega)⟩
     rw [e2]
    ·rw [if_neg (by rw [decide_eq_false hl];decide)]
     refine stop ?_
     rw [numMore,if_neg]
     rw [hh]
     rintro ⟨_,_,z⟩
     exact hl ⟨by (clear z hl hdr hn0 hd hh hm hp h2 h1 hc;omega),by (clear hl hn0 hd hh hm hp h2 h1 hc hlo;omega)⟩
theorem num_at {t:Br.Bytes} {lo hi p:Nat} (hlo:lo≤1) (h1:lo≤hi) (hhi:hi≤100000):Br.num lo hi (At t p)=liftR t id (numE (toI t) p lo hi):=by
 unfold Br.num
 rw [digits_step]
 unfold numE
 cases e:t[p]? with
 |none=>
  rw [if_neg]
  ·rfl
  ·rintro ⟨z,_⟩
   rw [here_none e] at z
   revert z
   decide
 |some c=>
  have hh:=here_some e
  show (match (if Br.isDigit c=false∨(Option.none:Option Nat)=some 0 then (Option.none:Option Nat) else (if Br.leadsTo lo hi (10 * 0+(c.toNat - 48))=true then some (10 * 0+(c.toNat - 48)) else Option.none)) with
   |some n=>Br.digits lo hi 19 (some n) (At t (p+1))
   |Option.none=>(.error p:Except Nat (Nat×(Nat×Br.Bytes))))=_
  by_cases hd:Br.isDigit c=true
  ·have hdr:48≤c.toNat∧c.toNat≤57:=by
    rw [isDigit_eq] at hd
    have:=dig_range hd
    (clear hh hhi h1 hlo;omega)
   rw [if_neg (by rw [hd];simp),leads hlo h1]
   by_cases hl:lo≤10 * 0+(c.toNat - 48)∧10 * 0+(c.toNat - 48)≤hi
   ·have hok:numOk (toI t) p lo hi:=by
     unfold numOk
     rw [hh]
     exact ⟨by rw [←isDigit_eq];exact hd,by (clear hh hhi h1 hlo;omega),by (clear hdr hh hhi h1 hlo;omega)⟩
    rw [if_pos (decide_eq_true hl),if_pos hok]
    have hp:p<t.length:=(List.getElem?_eq_some_iff.mp e).1
    have big:10 * 0+(c.toNat - 48)=0∨hi<(10 * 0+(c.toNat - 48)) * 10 ^ 19:=by (clear hp hl hdr hh h1 hlo;omega)
    show Br.digits lo hi 19 (some (10 * 0+(c.toNat - 48))) (At t (p+1))=_
    rw [digits_more hlo (m:=(toI t).length - (p+1)) (by decide) big hl.1 hl.2 (by rw [toI_len];(clear big hp hl hdr hh hhi h1 hlo;omega))]
    have e2:((10 * 0+(c.toNat - 48):Nat):Int)=hereI (toI t) p - 48:=by rw [hh];(clear big hp hl hh hhi h1 hlo;omega)
    rw [e2]
    rfl
   ·have hno:¬numOk (toI t) p lo hi:=by
     unfold numOk
     rw [hh]
     rintro ⟨_,z1,z2⟩
     exact hl ⟨by (clear z2 hl hdr hh hhi h1 hlo;omega),by (clear z1 hl hdr hh hhi h1 hlo;omega)⟩
    rw [if_neg (by rw [decide_eq_false hl];decide),if_neg hno]
    rfl
  ·have hd:Br.isDigit c=false:=by
    cases z:Br.isDigit c with
    |false=>rfl
    |true=>exact absurd z hd
   have hno:¬numOk (toI t) p lo hi:=by
    unfold numOk
    rw [hh,←isDigit_eq,hd]
    rintro ⟨z,_⟩
    cases z
   rw [if_pos (.inl hd),if_neg hno]
   rfl
end Br1
set_option Elab.async false
set_option linter.all false
set_option maxRecDepth 100000
set_option maxHeartbeats 1000000
namespace Br1
theorem while_at {t:Br.Bytes}:∀ {n p:Nat},Br.while_ (fun (c:UInt8)=>Br.isLow c||Br.isDigit c) n (At t p)=.ok ((nameRun (toI t) p n).map toB,At t (p+(nameRun (toI t) p n).length))
 |0,p=>rfl
 |n+1,p=>by
  show (Br.peek>>=fun (o:Option UInt8)=>(match o with
   |some c=>(if (Br.isLow c||Br.isDigit c)=true then (do Br.skip;let r ←Br.while_ (fun (c:UInt8)=>Br.isLow c||Br.isDigit c) n;return c::r) else return []:Br.Rd Br.Bytes)
   |Option.none=>return [])) (At t p)=_
  rw [rd_bind,peek_at,nameRun]
  cases e:t[p]? with
  |none=>
   rw [if_neg (by rw [here_none e];decide)]
   rfl
  |some c=>
   have hh:=here_some e
   have ea:alnum (hereI (toI t) p)=(Br.isLow c||Br.isDigit c):=by rw [hh,isLow_eq,isDigit_eq];rfl
   by_cases h:(Br.isLow c||Br.isDigit c)=true
   ·rw [if_pos (by rw [ea];exact h)]
    show (if (Br.isLow c||Br.isDigit c)=true then (do Br.skip;let r ←Br.while_ (fun (c:UInt8)=>Br.isLow c||Br.isDigit c) n;return c::r) else return []:Br.Rd Br.Bytes) (At t p)=_
    rw [if_pos h]
    show (Br.skip>>=fun _=>Br.while_ (fun (c:UInt8)=>Br.isLow c||Br.isDigit c) n>>=fun r=>pure (c::r)) (At t p)=_
    rw [rd_bind,skip_at]
    show (Br.while_ (fun (c:UInt8)=>Br.isLow c||Br.isDigit c) n>>=fun r=>pure (c::r)) (At t (p+1))=_
    rw [rd_bind,while_at]
    show Except.ok (c::(nameRun (toI t) (p+1) n).map toB,At t (p+1+(nameRun (toI t) (p+1) n).length))=_
    rw [List.map_cons,List.length_cons,hh,toB_of]
    congr 3<;>(clear hh;omega)
   ·rw [if_neg (by rw [ea];exact h)]
    show (if (Br.isLow c||Br.isDigit c)=true then (do Br.skip;let r ←Br.while_ (fun (c:UInt8)=>Br.isLow c||Br.isDigit c) n;return c::r) else return []:Br.Rd Br.Bytes) (At t p)=_
    rw [if_neg h]
    rfl
theorem name_of {t:Br.Bytes} {p n:Nat}:(Br.peek>>=fun (o:Option UInt8)=>(match o with
   |some c=>(if Br.isLow c=true then (do Br.skip;let r ←Br.while_ (fun (c:UInt8)=>Br.isLow c||Br.isDigit c) n;return c::r) else Br.stray:Br.Rd Br.Bytes)
   |Option.none=>Br.stray)) (At t p)=liftR t (List.map toB) (nameE (toI t) p (n+1)):=by
 rw [rd_bind,peek_at]
 unfold nameE
 cases e:t[p]? with
 |none=>
  rw [if_neg (by rw [here_none e];decide)]
  rfl
 |some c=>
  have hh:=here_some e
  by_cases h:Br.isLow c=true
  ·have hl:isLet (hereI (toI t) p)=true:=by rw [hh,←isLow_eq];exact h
   have ha:alnum (hereI (toI t) p)=true:=by unfold alnum;rw [hl];rfl
   rw [if_pos hl]
   show (if Br.isLow c=true then (do Br.skip;let r ←Br.while_ (fun (c:UInt8)=>Br.isLow c||Br.isDigit c) n;return c::r) else Br.stray:Br.Rd Br.Bytes) (At t p)=_
   rw [if_pos h]
   show (Br.skip>>=fun _=>Br.while_ (fun (c:UInt8)=>Br.isLow c||Br.isDigit c) n>>=fun r=>pure (c::r)) (At t p)=_
   rw [rd_bind,skip_at]
   show (Br.while_ (fun (c:UInt8)=>Br.isLow c||Br.isDigit c) n>>=fun r=>pure (c::r)) (At t (p+1))=_
   rw [rd_bind,while_at]
   have en:nameRun (toI t) p (n+1)=hereI (toI t) p::nameRun (toI t) (p+1) n:=by rw [nameRun,if_pos ha]
   rw [en]
   show Except.ok (c::(nameRun (toI t) (p+1) n).map toB,At t (p+1+(nameRun (toI t) (p+1) n).length))=Except.ok ((hereI (toI t) p::nameRun (toI t) (p+1) n).map toB,At t (p+(hereI (toI t) p::nameRun (toI t) (p+1) n).length))
   rw [List.map_cons,List.length_cons,hh,toB_of]
   congr 3<;>(clear hh;omega)
  ·rw [if_neg (by rw [hh,←isLow_eq];exact h)]
   show (if Br.isLow c=true then (do Br.skip;let r ←Br.while_ (fun (c:UInt8)=>Br.isLow c||Br.isDigit c) n;return c::r) else Br.stray:Br.Rd Br.Bytes) (At t p)=_
   rw [if_neg h]
   rfl
theorem name_at {t:Br.Bytes} {p:Nat}:Br.name_ (At t p)=liftR t (List.map toB) (nameE (toI t) p 8):=name_of
theorem longName_at {t:Br.Bytes} {p:Nat}:Br.longName_ (At t p)=liftR t (List.map toB) (nameE (toI t) p 16):=name_of
def plI (i:Int):Br.Place:=if i=46 then .none else if i=35 then .cell false false else if i=115 then .cell true false else if i=116 then .cell false true else .cell true true
theorem placeOf_eq (c:UInt8):Br.placeOf c=if (c.toNat:Int)∈SIGNSL then some (plI (c.toNat:Int)) else Option.none:=by
 have key:∀ n:Fin 256,Br.placeOf (UInt8.ofNat n.1)=if ((UInt8.ofNat n.1).toNat:Int)∈SIGNSL then some (plI ((UInt8.ofNat n.1).toNat:Int)) else Option.none:=by decide+kernel
 have h:=key ⟨c.toNat,UInt8.toNat_lt c⟩
 have e:UInt8.ofNat c.toNat=c:=UInt8.ofNat_toNat
 simp only [e] at h
 exact h
theorem place_at {t:Br.Bytes} {p:Nat}:Br.place_ (At t p)=if hereI (toI t) p∈SIGNSL then .ok (plI (hereI (toI t) p),At t (p+1)) else .error p:=by
 show (Br.peek>>=fun (o:Option UInt8)=>(match o.bind Br.placeOf with
   |some q=>(do Br.skip;return q:Br.Rd Br.Place)
   |Option.none=>Br.stray)) (At t p)=_
 rw [rd_bind,peek_at]
 cases e:t[p]? with
 |none=>
  rw [here_none e,if_neg (by decide)]
  rfl
 |some c=>
  rw [here_some e]
  show (match Br.placeOf c with
   |some q=>(do Br.skip;return q:Br.Rd Br.Place)
   |Option.none=>Br.stray) (At t p)=_
  rw [placeOf_eq]
  by_cases h:(c.toNat:Int)∈SIGNSL
  ·rw [if_pos h,if_pos h]
   show (Br.skip>>=fun _=>pure (plI (c.toNat:Int))) (At t p)=_
   rw [rd_bind,skip_at]
   rfl
  ·rw [if_neg h,if_neg h]
   rfl
theorem times_step {α:Type} {n:Nat} {r:Br.Rd α} {s:Nat×Br.Bytes}:Br.times (n+1) r s=bnd (r s) fun x=>bnd (Br.times n r x.2) fun y=>.ok (x.1::y.1,y.2):=by
 show (r>>=fun x=>Br.times n r>>=fun l=>pure (x::l)) s=_
 rw [rd_bind]
 cases r s with
 |error e=>rfl
 |ok x=>
  show (Br.times n r>>=fun l=>pure (x.1::l)) x.2=_
  rw [rd_bind]
  rfl
theorem signs_at {t:Br.Bytes}:∀ {n p:Nat},Br.times n Br.place_ (At t p)=liftR t (List.map plI) (signsRun (toI t) n p)
 |0,p=>rfl
 |n+1,p=>by
  rw [times_step,place_at,signsRun]
  by_cases h:hereI (toI t) p∈SIGNSL
  ·rw [if_pos h,if_pos h]
   show bnd (Br.times n Br.place_ (At t (p+1))) (fun y=>Except.ok (plI (hereI (toI t) p)::y.1,y.2))=_
   rw [signs_at]
   cases signsRun (toI t) n (p+1) with
   |error e=>rfl
   |ok y=>rfl
  ·rw [if_neg h,if_neg h]
   rfl
theorem row_at {t:Br.Bytes} {w p:Nat}:Br.row_ w (At t p)=liftR t (List.map plI) (rowRun (toI t) w p):=by
 show (Br.times w Br.place_>>=fun l=>Br.byte_ 10>>=fun _=>pure l) (At t p)=_
 rw [rd_bind,signs_at]
 unfold rowRun
 cases signsRun (toI t) w p with
 |error e=>rfl
 |ok y=>
  show (Br.byte_ 10>>=fun _=>pure (y.1.map plI)) (At t y.2)=_
  rw [rd_bind,byte_at]
  have he:hereI (toI t) y.2=10↔t[y.2]?=some 10:=here_eq (c:=10)
  by_cases h:t[y.2]?=some 10
  ·rw [if_pos h]
   show _=liftR t (List.map plI) (if hereI (toI t) y.2=10 then _ else _)
   rw [if_pos (he.mpr h)]
   rfl
  ·rw [if_neg h]
   show _=liftR t (List.map plI) (if hereI (toI t) y.2=10 then _ else _)
   rw [if_neg (fun z=>h (he.mp z))]
   rfl
theorem rows_at {t:Br.Bytes} {w:Nat}:∀ {n p:Nat},Br.times n (Br.row_ w) (At t p)=liftR t (List.map (List.map plI)) (rowsRun (toI t) w n p)
 |0,p=>rfl
 |n+1,p=>by
  rw [times_step,row_at,rowsRun]
  cases rowRun (toI t) w p with
  |error e=>rfl
  |ok y=>
   show bnd (Br.times n (Br.row_ w) (At t y.2)) (fun z=>Except.ok (y.1.map plI::z.1,z.2))=_
   rw [rows_at]
   show _=liftR t (List.map (List.map plI)) (consR y.1 (rowsRun (toI t) w n y.2))
   cases rowsRun (toI t) w n y.2 with
   |error e=>rfl
   |ok z=>rfl
def toP (pr:PartR):Br.Part:=⟨pr.name.map toB,pr.w,pr.d,pr.h,pr.g,(pr.rows.map (List.map plI)).flatten⟩
theorem bnd_lift {α β γ:Type} {t:Br.Bytes} {x:Br.Rd α} {s:Nat×Br.Bytes} {r:Except Nat (γ×Nat)} {g:γ→α} {k:α→Br.Rd β} {δ:Type} {f:γ×Nat→Except Nat (δ×Nat)} {u:δ→β} (h:x s=liftR t g r) (hk:∀ c,r=.ok c→k (g c.1) (At t c.2)=liftR t u (f c)):
  (x>>=k) s=liftR t u (bnd r f):=by
 rw [rd_bind,h]
 cases r with
 |error e=>rfl
 |ok c=>exact hk c rfl
theorem bnd_liftN {β δ:Type} {t:Br.Bytes} {x:Br.Rd Unit} {s:Nat×Br.Bytes} {r:Except Nat Nat} {k:Unit→Br.Rd β} {f:Nat→Except Nat (δ×Nat)} {u:δ→β} (h:x s=liftN t r) (hk:∀ c,r=.ok c→k () (At t c)=liftR t u (f c)):
  (x>>=k) s=liftR t u (bnd r f):=by
 rw [rd_bind,h]
 cases r with
 |error e=>rfl
 |ok c=>exact hk c rfl
theorem numAfter_bind {β δ:Type} {t:Br.Bytes} {p lo hi:Nat} {k:Nat→Br.Rd β} {f:Nat×Nat→Except Nat (δ×Nat)} {u:δ→β} (hlo:lo≤1) (h1:lo≤hi) (hhi:hi≤100000) (hk:∀ c,k c.1 (At t c.2)=liftR t u (f c)):
  (Br.numAfter lo hi>>=k) (At t p)=liftR t u (bnd (wordRun (toI t) p [32]) fun p1=>bnd (numE (toI t) p1 lo hi) f):=by
 have e:(Br.numAfter lo hi>>=k) (At t p)=(Br.byte_ 32>>=fun _=>Br.num lo hi>>=k) (At t p):=by
  show ((Br.byte_ 32>>=fun _=>Br.num lo hi)>>=k) (At t p)=_
  rw [rd_bind,rd_bind,rd_bind]
  cases Br.byte_ 32 (At t p) with
  |error e=>rfl
  |ok r=>
   show bnd (Br.num lo hi r.2) (fun r=>k r.1 r.2)=(Br.num lo hi>>=k) r.2
   rw [rd_bind]
 rw [e]
 refine bnd_liftN (byte_word (c:=32)) fun p1 _=>?_
 exact bnd_lift (num_at hlo h1 hhi) fun c _=>hk c
theorem part_ascii:Br.ascii "part "=[112,97,114,116,32]:=by decide+kernel
theorem part_at {t:Br.Bytes} {p:Nat}:Br.part_ (At t p)=liftR t toP (partRun (toI t) p):=by
 show (Br.bytes_ (Br.ascii "part ")>>=fun _=>Br.name_>>=fun n=>Br.numAfter 1 16>>=fun w=>Br.numAfter 1 16>>=fun d=>Br.numAfter 1 18>>=fun h=>Br.numAfter 1 9999>>=fun g=>Br.byte_ 10>>=fun _=>Br.times (d * h) (Br.row_ w)>>=fun l=>pure (⟨n,w,d,h,g,l.flatten⟩:Br.Part)) (At t p)=_
 unfold partRun
 rw [part_ascii]
 refine bnd_liftN (bytes_at (cs:=[112,97,114,116,32])) fun p1 _=>?_
 refine bnd_lift name_at fun nm _=>?_
 refine numAfter_bind (lo:=1) (hi:=16) (by decide) (by decide) (by decide) fun w=>?_
 refine numAfter_bind (lo:=1) (hi:=16) (by decide) (by decide) (by decide) fun d=>?_
 refine numAfter_bind (lo:=1) (hi:=18) (by decide) (by decide) (by decide) fun h=>?_
 refine numAfter_bind (lo:=1) (hi:=9999) (by decide) (by decide) (by decide) fun g=>?_
 refine bnd_liftN (byte_word (c:=10)) fun p11 _=>?_
 exact bnd_lift rows_at fun rs _=>rfl
theorem rows_le {l:List Int} {w:Nat}:∀ {n p:Nat} {r:List (List Int)×Nat},p≤l.length→rowsRun l w n p=.ok r→r.2≤l.length
 |0,p,r,hp,h=>by cases h;exact hp
 |n+1,p,r,hp,h=>by
  rw [rowsRun] at h
  cases e:rowRun l w p with
  |error i=>rw [e] at h;cases h
  |ok q=>
   rw [e] at h
   obtain ⟨q',e2,rfl⟩:=consR_inv h
   show q'.2≤l.length
   refine rows_le (r:=q') ?_ e2
   unfold rowRun at e
   split at e
   ·split at e
    ·rename_i h10
     cases e
     have:=hereI_lt (l:=l) (p:=_) (by rw [h10];decide)
     show _+1≤_
     (clear h10 hp;omega)
    ·cases e
   ·cases e
theorem part_le {l:List Int} {p:Nat} {q:PartR×Nat} (h:partRun l p=.ok q):q.2≤l.length:=by
 unfold partRun at h
 obtain ⟨p1,_,h⟩:=bnd_inv h
 obtain ⟨nm,_,h⟩:=bnd_inv h
 obtain ⟨_,_,h⟩:=bnd_inv h
 obtain ⟨_,_,h⟩:=bnd_inv h
 obtain ⟨_,_,h⟩:=bnd_inv h
 obtain ⟨_,_,h⟩:=bnd_inv h
 obtain ⟨_,_,h⟩:=bnd_inv h
 obtain ⟨_,_,h⟩:=bnd_inv h
 obtain ⟨_,_,h⟩:=bnd_inv h
 obtain ⟨g,_,h⟩:=bnd_inv h
 obtain ⟨p11,e11,h⟩:=bnd_inv h
 obtain ⟨rs,e12,h⟩:=bnd_inv h
 cases h
 refine rows_le ?_ e12
 rw [wordRun] at e11
 split at e11
 ·rename_i h10
  have:=hereI_lt (l:=l) (p:=g.2) (by rw [h10];decide)
  cases e11
  (clear h10;omega)
 ·cases e11
theorem toEnd_zero {α:Type} {r:Br.Rd α} {t:Br.Bytes} {p:Nat}:Br.toEnd r 0 (At t p)=if (t[p]?).isSome=true then .error p else .ok ([],At t p):=by
 show (Br.peek>>=fun o=>if o.isSome=true then Br.stray else pure []) (At t p)=_
 rw [rd_bind,peek_at]
 show (if (t[p]?).isSome=true then (Br.stray:Br.Rd (List α)) else pure []) (At t p)=_
 by_cases h:(t[p]?).isSome=true
 ·rw [if_pos h,if_pos h];rfl
 ·rw [if_neg h,if_neg h];rfl
theorem toEnd_step {α:Type} {r:Br.Rd α} {t:Br.Bytes} {p n:Nat}:Br.toEnd r (n+1) (At t p)=if (t[p]?).isSome=true then (bnd (r (At t p)) fun x=>bnd (Br.toEnd r n x.2) fun y=>.ok (x.1::y.1,y.2)) else .ok ([],At t p):=by
 show (Br.peek>>=fun o=>if o.isSome=true then (r>>=fun x=>Br.toEnd r n>>=fun l=>pure (x::l)) else pure []) (At t p)=_
 rw [rd_bind,peek_at]
 show (if (t[p]?).isSome=true then (r>>=fun x=>Br.toEnd r n>>=fun l=>pure (x::l)) else pure []:Br.Rd (List α)) (At t p)=_
 by_cases h:(t[p]?).isSome=true
 ·rw [if_pos h,if_pos h,rd_bind]
  cases r (At t p) with
  |error e=>rfl
  |ok x=>
   show (Br.toEnd r n>>=fun l=>pure (x.1::l)) x.2=_
   rw [rd_bind]
   rfl
 ·rw [if_neg h,if_neg h];rfl
def endR {α β:Type} (t:Br.Bytes) (f:α→β):Except Nat (α×Nat)→Except Nat (β×(Nat×Br.Bytes))
 |.error e=>.error e
 |.ok r=>if r.2=t.length then .ok (f r.1,At t r.2) else .error r.2
theorem some_lt {t:Br.Bytes} {p:Nat}:(t[p]?).isSome=true↔p<t.length:=by
 by_cases h:p<t.length
 ·rw [List.getElem?_eq_getElem h];simp [h]
 ·rw [List.getElem?_eq_none (by omega)];simp [h]
theorem parts_at {t:Br.Bytes}:∀ {n p:Nat},p≤t.length→Br.toEnd Br.part_ n (At t p)=endR t (List.map toP) (partsRun (toI t) n p)
 |0,p,hp=>by
  rw [toEnd_zero]
  show _=if p=t.length then Except.ok (([]:List PartR).map toP,At t p) else .error p
  by_cases h:p=t.length
  ·rw [if_pos h,if_neg (by rw [some_lt];(clear hp;omega))]
   rfl
  ·rw [if_neg h,if_pos (by rw [some_lt];omega)]
 |n+1,p,hp=>by
  rw [toEnd_step,partsRun]
  by_cases h:p=t.length
  ·rw [if_neg (by rw [some_lt];(clear hp;omega)),if_pos (by rw [toI_len];exact h)]
   show _=if p=t.length then Except.ok (([]:List PartR).map toP,At t p) else .error p
   rw [if_pos h]
   rfl
  ·rw [if_pos (by rw [some_lt];omega),if_neg (by rw [toI_len];exact h),part_at]
   cases e:partRun (toI t) p with
   |error i=>rfl
   |ok q=>
    have hq:=part_le e
    rw [toI_len] at hq
    show bnd (Br.toEnd Br.part_ n (At t q.2)) (fun y=>Except.ok (toP q.1::y.1,y.2))=endR t (List.map toP) (consR q.1 (partsRun (toI t) n q.2))
    rw [parts_at hq]
    cases partsRun (toI t) n q.2 with
    |error i=>rfl
    |ok r=>
     show bnd (if r.2=t.length then (Except.ok (r.1.map toP,At t r.2):Except Nat _) else .error r.2) (fun y=>Except.ok (toP q.1::y.1,y.2))=if r.2=t.length then Except.ok ((q.1::r.1).map toP,At t r.2) else .error r.2
     by_cases hr:r.2=t.length
     ·rw [if_pos hr,if_pos hr];rfl
     ·rw [if_neg hr,if_neg hr];rfl
theorem readC_at (t:Br.Bytes):Br.readC t=bnd (catRun (toI t)) fun prs=>.ok (prs.map toP):=by
 show (((Br.part_>>=fun p=>Br.toEnd Br.part_ 63>>=fun l=>pure (p::l)) (At t 0)).map fun (x:Br.Catalogue×(Nat×Br.Bytes))=>x.1)=_
 rw [rd_bind,part_at]
 unfold catRun
 cases e:partRun (toI t) 0 with
 |error i=>rfl
 |ok q=>
  have hq:=part_le e
  rw [toI_len] at hq
  show (((Br.toEnd Br.part_ 63>>=fun l=>pure (toP q.1::l)) (At t q.2)).map fun (x:Br.Catalogue×(Nat×Br.Bytes))=>x.1)=_
  rw [rd_bind,parts_at hq,bnd_ok]
  cases partsRun (toI t) 63 q.2 with
  |error i=>rfl
  |ok r=>
   show ((bnd (if r.2=t.length then (Except.ok (r.1.map toP,At t r.2):Except Nat _) else .error r.2) fun y=>Except.ok (toP q.1::y.1,y.2)).map fun (x:Br.Catalogue×(Nat×Br.Bytes))=>x.1)=bnd (if r.2=(toI t).length then Except.ok (q.1::r.1) else .error r.2) fun prs=>.ok (prs.map toP)
   rw [toI_len]
   by_cases hr:r.2=t.length
   ·rw [if_pos hr,if_pos hr];rfl
   ·rw [if_neg hr,if_neg hr];rfl
end Br1
set_option Elab.async false
set_option linter.all false
set_option maxRecDepth 100000
set_option maxHeartbeats 1000000
namespace Br1
theorem toI_inj {a b:Br.Bytes} (h:toI a=toI b):a=b:=by
 unfold toI at h
 refine List.map_inj_right (fun x y e=>?_)|>.mp h
 have:x.toNat=y.toNat:=by omega
 exact UInt8.toNat_inj.mp this
theorem toI_snoc (a:Br.Bytes) (c:UInt8):toI (a++[c])=toI a++[(c.toNat:Int)]:=by
 unfold toI
 rw [List.map_append]
 rfl
theorem prefix_eq (a n:Br.Bytes):a.isPrefixOf n=decide ((toI n).take (toI a).length=toI a):=by
 rw [Bool.eq_iff_iff,List.isPrefixOf_iff_prefix,List.prefix_iff_eq_take,decide_eq_true_iff,toI_len]
 have e:(toI n).take a.length=toI (n.take a.length):=by unfold toI;rw [List.map_take]
 rw [e]
 constructor
 ·intro h
  rw [←h]
 ·intro h
  exact (toI_inj h).symm
theorem begins_eq (names:List Br.Bytes) (a:Br.Bytes):(names.any fun n=>a.isPrefixOf n)=beginsC (names.map toI) (toI a):=by
 unfold beginsC
 rw [List.any_map]
 congr 1
 funext n
 exact prefix_eq a n
theorem find_eq (a:Br.Bytes):∀ names:List Br.Bytes,(names.findIdx? fun n=>n==a)=if toI a∈names.map toI then some (ixOf (names.map toI) (toI a)) else none
 |[]=>by simp
 |n::r=>by
  have ih:=find_eq a r
  have hx:ixOf ((n::r).map toI) (toI a)=if toI n=toI a then 0 else ixOf (r.map toI) (toI a)+1:=by
   unfold ixOf
   rw [List.map_cons,List.findIdx_cons]
   by_cases h:toI n=toI a
   ·rw [decide_eq_true h,if_pos h];rfl
   ·rw [decide_eq_false h,if_neg h];rfl
  rw [List.findIdx?_cons,ih,hx]
  by_cases h:n=a
  ·subst h
   simp
  ·have h2:¬toI n=toI a:=fun z=>h (toI_inj z)
   have h3:¬toI a=toI n:=fun z=>h2 z.symm
   have hb:(n==a)=false:=beq_eq_false_iff_ne.mpr h
   rw [hb,if_neg Bool.false_ne_true,if_neg h2]
   by_cases h4:toI a∈r.map toI
   ·rw [if_pos h4,if_pos (by rw [List.map_cons];exact List.mem_cons_of_mem _ h4)]
    rfl
   ·rw [if_neg h4,if_neg (by rw [List.map_cons,List.mem_cons];rintro (z|z);exact h3 z;exact h4 z)]
    rfl
theorem known_at {t:Br.Bytes} {names:List Br.Bytes}:∀ {f p:Nat} {acc:Br.Bytes},
  (((begRun (names.map toI) (toI t) f p (toI acc)).1∈names.map toI→Br.known names f acc (At t p)=.ok (ixOf (names.map toI) (begRun (names.map toI) (toI t) f p (toI acc)).1,At t (begRun (names.map toI) (toI t) f p (toI acc)).2)∨
   (Br.known names f acc (At t p)=.error (begRun (names.map toI) (toI t) f p (toI acc)).2∧t[(begRun (names.map toI) (toI t) f p (toI acc)).2]?=none))∧
  ((begRun (names.map toI) (toI t) f p (toI acc)).1∉names.map toI→Br.known names f acc (At t p)=.error (begRun (names.map toI) (toI t) f p (toI acc)).2)):=by
 intro f
 induction f with
 |zero=>
  intro p acc
  have e:Br.known names 0 acc (At t p)=if toI acc∈names.map toI then .ok (ixOf (names.map toI) (toI acc),At t p) else .error p:=by
   show (match names.findIdx? fun (n:Br.Bytes)=>n==acc with
    |some i=>(pure i:Br.Rd Nat)
    |Option.none=>Br.stray) (At t p)=_
   rw [find_eq]
   by_cases h:toI acc∈names.map toI
   ·rw [if_pos h,if_pos h];rfl
   ·rw [if_neg h,if_neg h];rfl
  refine ⟨fun h=>.inl ?_,fun h=>?_⟩
  ·rw [e];exact if_pos h
  ·rw [e];exact if_neg h
 |succ f ih=>
  intro p acc
  have e:Br.known names (f+1) acc (At t p)=(match t[p]? with
    |some c=>(if (names.any fun (n:Br.Bytes)=>(acc++[c]).isPrefixOf n)=true then Br.known names f (acc++[c]) (At t (p+1)) else (if toI acc∈names.map toI then .ok (ixOf (names.map toI) (toI acc),At t p) else .error p))
    |Option.none=>.error p):=by
   show (Br.peek>>=fun (o:Option UInt8)=>(match o with
    |some c=>(if (names.any fun (n:Br.Bytes)=>(acc++[c]).isPrefixOf n)=true then (Br.skip>>=fun _=>Br.known names f (acc++[c])) else (match names.findIdx? fun (n:Br.Bytes)=>n==acc with
     |some i=>(pure i:Br.Rd Nat)
     |Option.none=>Br.stray))
    |Option.none=>Br.stray)) (At t p)=_
   rw [rd_bind,peek_at,bnd_ok]
   cases e:t[p]? with
   |none=>rfl
   |some c=>
    show (if (names.any fun (n:Br.Bytes)=>(acc++[c]).isPrefixOf n)=true then (Br.skip>>=fun _=>Br.known names f (acc++[c])) else (match names.findIdx? fun (n:Br.Bytes)=>n==acc with
     |some i=>(pure i:Br.Rd Nat)
     |Option.none=>Br.stray)) (At t p)=if (names.any fun (n:Br.Bytes)=>(acc++[c]).isPrefixOf n)=true then Br.known names f (acc++[c]) (At t (p+1)) else (if toI acc∈names.map toI then .ok (ixOf (names.map toI) (toI acc),At t p) else .error p)
    by_cases h:(names.any fun (n:Br.Bytes)=>(acc++[c]).isPrefixOf n)=true
    ·rw [if_pos h,if_pos h,rd_bind,skip_at]
     rfl
    ·rw [if_neg h,if_neg h,find_eq]
     by_cases h2:toI acc∈names.map toI
     ·rw [if_pos h2,if_pos h2];rfl
     ·rw [if_neg h2,if_neg h2];rfl
  cases ep:t[p]? with
  |none=>
   rw [ep] at e
   have hb:¬beginsC (names.map toI) (toI acc++[hereI (toI t) p])=true:=by
    rw [here_none ep]
    unfold beginsC
    intro z
    obtain ⟨m,hm,z⟩:=List.any_eq_true.mp z
    obtain ⟨n,_,rfl⟩:=List.mem_map.mp hm
    have z:=of_decide_eq_true z
    have:(256:Int)∈toI n:=by
     have:(256:Int)∈(toI n).take (toI acc++[256]).length:=by rw [z];simp
     exact List.mem_of_mem_take this
    unfold toI at this
    obtain ⟨c,_,hc⟩:=List.mem_map.mp this
    have:=UInt8.toNat_lt c
    omega
   have er:begRun (names.map toI) (toI t) (f+1) p (toI acc)=(toI acc,p):=by rw [begRun,if_neg hb]
   rw [er]
   exact ⟨fun _=>.inr ⟨e,ep⟩,fun _=>e⟩
  |some c=>
   rw [ep] at e
   have hh:=here_some ep
   by_cases h:(names.any fun (n:Br.Bytes)=>(acc++[c]).isPrefixOf n)=true
   ·have e:Br.known names (f+1) acc (At t p)=Br.known names f (acc++[c]) (At t (p+1)):=e.trans (if_pos h)
    have er:begRun (names.map toI) (toI t) (f+1) p (toI acc)=begRun (names.map toI) (toI t) f (p+1) (toI (acc++[c])):=by
     rw [begRun,hh,←toI_snoc,if_pos (by rw [←begins_eq];exact h)]
    rw [e,er]
    exact ih
   ·have e:Br.known names (f+1) acc (At t p)=if toI acc∈names.map toI then .ok (ixOf (names.map toI) (toI acc),At t p) else .error p:=e.trans (if_neg h)
    have er:begRun (names.map toI) (toI t) (f+1) p (toI acc)=(toI acc,p):=by
     rw [begRun,hh,←toI_snoc,if_neg (by rw [←begins_eq];exact h)]
    rw [er]
    refine ⟨fun h2=>.inl ?_,fun h2=>?_⟩
    ·rw [e];exact if_pos h2
    ·rw [e];exact if_neg h2
def toL (x:List Nat):Br.Line:=⟨x.getD 0 0,x.getD 1 0,x.getD 2 0,x.getD 3 0,x.getD 4 0,x.getD 5 0⟩
theorem bnd_nums {α:Type} {l:List Int} {m:Nat} {ms:List Nat} {p:Nat} {F:List Nat×Nat→Except Nat α}:bnd (numsRun l (m::ms) p) F=bnd (wordRun l p [32]) fun p1=>bnd (numE l p1 0 m) fun v=>bnd (numsRun l ms v.2) fun r=>F (v.1::r.1,r.2):=by
 rw [numsRun]
 cases wordRun l p [32] with
 |error i=>rfl
 |ok p1=>
  show bnd (bnd (numE l p1 0 m) fun v=>consR v.1 (numsRun l ms v.2)) F=bnd (numE l p1 0 m) _
  cases numE l p1 0 m with
  |error i=>rfl
  |ok v=>
   show bnd (consR v.1 (numsRun l ms v.2)) F=bnd (numsRun l ms v.2) _
   cases numsRun l ms v.2 with
   |error i=>rfl
   |ok r=>rfl
theorem put_ascii:Br.ascii "put "=[112,117,116,32]:=by decide+kernel
theorem build_ascii:Br.ascii "build "=[98,117,105,108,100,32]:=by decide+kernel
theorem line_at {t:Br.Bytes} {c:Br.Catalogue} {p:Nat}:Br.line_ c (At t p)=liftR t toL (lineRun ((c.map fun (p:Br.Part)=>p.name).map toI) (toI t) p):=by
 show (Br.bytes_ (Br.ascii "put ")>>=fun _=>Br.known (c.map fun (p:Br.Part)=>p.name) 8 []>>=fun q=>Br.numAfter 0 255>>=fun k=>Br.numAfter 0 63>>=fun x=>Br.numAfter 0 63>>=fun y=>Br.numAfter 0 95>>=fun z=>Br.numAfter 0 3>>=fun r=>Br.byte_ 10>>=fun _=>pure (⟨q,k,x,y,z,r⟩:Br.Line)) (At t p)=_
 unfold lineRun
 rw [put_ascii]
 refine bnd_liftN (bytes_at (cs:=[112,117,116,32])) fun p1 _=>?_
 generalize (c.map fun (p:Br.Part)=>p.name)=names
 have rest:∀ (i p2:Nat),(Br.numAfter 0 255>>=fun k=>Br.numAfter 0 63>>=fun x=>Br.numAfter 0 63>>=fun y=>Br.numAfter 0 95>>=fun z=>Br.numAfter 0 3>>=fun r=>Br.byte_ 10>>=fun _=>pure (⟨i,k,x,y,z,r⟩:Br.Line)) (At t p2)=
   liftR t toL (bnd (numsRun (toI t) bndsL p2) fun r=>bnd (wordRun (toI t) r.2 [10]) fun p5=>.ok (i::r.1,p5)):=by
  intro i p2
  unfold bndsL
  rw [bnd_nums]
  refine numAfter_bind (lo:=0) (hi:=255) (by decide) (by decide) (by decide) fun k=>?_
  rw [bnd_nums]
  refine numAfter_bind (lo:=0) (hi:=63) (by decide) (by decide) (by decide) fun x=>?_
  rw [bnd_nums]
  refine numAfter_bind (lo:=0) (hi:=63) (by decide) (by decide) (by decide) fun y=>?_
  rw [bnd_nums]
  refine numAfter_bind (lo:=0) (hi:=95) (by decide) (by decide) (by decide) fun z=>?_
  rw [bnd_nums]
  refine numAfter_bind (lo:=0) (hi:=3) (by decide) (by decide) (by decide) fun r=>?_
  show _=liftR t toL (bnd (wordRun (toI t) r.2 [10]) _)
  exact bnd_liftN (byte_word (c:=10)) fun p5 _=>rfl
 obtain ⟨k1,k2⟩:=known_at (t:=t) (names:=names) (f:=8) (p:=p1) (acc:=[])
 have e0:toI []=[]:=rfl
 rw [e0] at k1 k2
 unfold partNo
 by_cases h:(begRun (names.map toI) (toI t) 8 p1 []).1∈names.map toI
 ·rw [if_pos h,bnd_ok]
  rcases k1 h with e|⟨e,en⟩
  ·rw [rd_bind,e,bnd_ok]
   exact rest _ _
  ·rw [rd_bind,e,bnd_err]
   have ew:wordRun (toI t) (begRun (names.map toI) (toI t) 8 p1 []).2 [32]=.error (begRun (names.map toI) (toI t) 8 p1 []).2:=by
    rw [wordRun,here_none en]
    rfl
   unfold bndsL
   rw [bnd_nums]
   show _=liftR t toL (bnd (wordRun (toI t) (begRun (names.map toI) (toI t) 8 p1 []).2 [32]) _)
   rw [ew]
   rfl
 ·rw [if_neg h,bnd_err,rd_bind,k2 h,bnd_err]
  rfl
theorem line_le {nss:List (List Int)} {l:List Int} {p:Nat} {q:List Nat×Nat} (h:lineRun nss l p=.ok q):q.2≤l.length:=by
 unfold lineRun at h
 obtain ⟨p1,_,h⟩:=bnd_inv h
 obtain ⟨_,_,h⟩:=bnd_inv h
 obtain ⟨r,_,h⟩:=bnd_inv h
 obtain ⟨p5,e5,h⟩:=bnd_inv h
 cases h
 show p5≤l.length
 rw [wordRun] at e5
 split at e5
 ·rename_i h10
  have:=hereI_lt (l:=l) (p:=r.2) (by rw [h10];decide)
  cases e5
  (clear h10;omega)
 ·cases e5
theorem lines_at {t:Br.Bytes} {c:Br.Catalogue}:∀ {n p:Nat},p≤t.length→Br.toEnd (Br.line_ c) n (At t p)=endR t (List.map toL) (linesRun ((c.map fun (p:Br.Part)=>p.name).map toI) (toI t) n p)
 |0,p,hp=>by
  rw [toEnd_zero]
  show _=if p=t.length then Except.ok (([]:List (List Nat)).map toL,At t p) else .error p
  by_cases h:p=t.length
  ·rw [if_pos h,if_neg (by rw [some_lt];(clear hp;omega))]
   rfl
  ·rw [if_neg h,if_pos (by rw [some_lt];omega)]
 |n+1,p,hp=>by
  rw [toEnd_step,linesRun]
  by_cases h:p=t.length
  ·rw [if_neg (by rw [some_lt];(clear hp;omega)),if_pos (by rw [toI_len];exact h)]
   show _=if p=t.length then Except.ok (([]:List (List Nat)).map toL,At t p) else .error p
   rw [if_pos h]
   rfl
  ·rw [if_pos (by rw [some_lt];omega),if_neg (by rw [toI_len];exact h),line_at]
   cases e:lineRun ((c.map fun (p:Br.Part)=>p.name).map toI) (toI t) p with
   |error i=>rfl
   |ok q=>
    have hq:=line_le e
    rw [toI_len] at hq
    show bnd (Br.toEnd (Br.line_ c) n (At t q.2)) (fun y=>Except.ok (toL q.1::y.1,y.2))=endR t (List.map toL) (consR q.1 (linesRun _ (toI t) n q.2))
    rw [lines_at hq]
    cases linesRun ((c.map fun (p:Br.Part)=>p.name).map toI) (toI t) n q.2 with
    |error i=>rfl
    |ok r=>
     show bnd (if r.2=t.length then (Except.ok (r.1.map toL,At t r.2):Except Nat _) else .error r.2) (fun y=>Except.ok (toL q.1::y.1,y.2))=if r.2=t.length then Except.ok ((q.1::r.1).map toL,At t r.2) else .error r.2
     by_cases hr:r.2=t.length
     ·rw [if_pos hr,if_pos hr];rfl
     ·rw [if_neg hr,if_neg hr];rfl
theorem word10_le {l:List Int} {p q:Nat} (e:wordRun l p [10]=.ok q):q≤l.length:=by
 rw [wordRun] at e
 split at e
 ·rename_i h10
  have:=hereI_lt (l:=l) (p:=p) (by rw [h10];decide)
  cases e
  (clear h10;omega)
 ·cases e
theorem readB_at (t:Br.Bytes) (c:Br.Catalogue):Br.readB c t=bnd (buildRun ((c.map fun (p:Br.Part)=>p.name).map toI) (toI t)) fun b=>.ok (⟨b.1.map toB,b.2.map toL⟩:Br.Build):=by
 show (((Br.bytes_ (Br.ascii "build ")>>=fun _=>Br.longName_>>=fun n=>Br.byte_ 10>>=fun _=>Br.toEnd (Br.line_ c) 256>>=fun l=>pure (⟨n,l⟩:Br.Build)) (At t 0)).map fun (x:Br.Build×(Nat×Br.Bytes))=>x.1)=_
 unfold buildRun
 rw [build_ascii,rd_bind,bytes_at (cs:=[98,117,105,108,100,32])]
 show _=bnd (bnd (wordRun (toI t) 0 (([98,117,105,108,100,32]:Br.Bytes).map UInt8.toNat)) _) _
 cases wordRun (toI t) 0 (([98,117,105,108,100,32]:Br.Bytes).map UInt8.toNat) with
 |error i=>rfl
 |ok p1=>
  show (((Br.longName_>>=fun n=>Br.byte_ 10>>=fun _=>Br.toEnd (Br.line_ c) 256>>=fun l=>pure (⟨n,l⟩:Br.Build)) (At t p1)).map fun (x:Br.Build×(Nat×Br.Bytes))=>x.1)=bnd (bnd (nameE (toI t) p1 16) _) _
  rw [rd_bind,longName_at]
  cases nameE (toI t) p1 16 with
  |error i=>rfl
  |ok nm=>
   show (((Br.byte_ 10>>=fun _=>Br.toEnd (Br.line_ c) 256>>=fun l=>pure (⟨nm.1.map toB,l⟩:Br.Build)) (At t nm.2)).map fun (x:Br.Build×(Nat×Br.Bytes))=>x.1)=bnd (bnd (wordRun (toI t) nm.2 [10]) _) _
   rw [rd_bind,byte_word (c:=10)]
   show ((bnd (liftN t (wordRun (toI t) nm.2 [10])) _).map _)=_
   cases e3:wordRun (toI t) nm.2 [10] with
   |error i=>rfl
   |ok p3=>
    have hp3:=word10_le e3
    rw [toI_len] at hp3
    show (((Br.toEnd (Br.line_ c) 256>>=fun l=>pure (⟨nm.1.map toB,l⟩:Br.Build)) (At t p3)).map fun (x:Br.Build×(Nat×Br.Bytes))=>x.1)=bnd (bnd (linesRun ((c.map fun (p:Br.Part)=>p.name).map toI) (toI t) 256 p3) fun r=>if r.2=(toI t).length then .ok (nm.1,r.1) else .error r.2) fun b=>.ok (⟨b.1.map toB,b.2.map toL⟩:Br.Build)
    rw [rd_bind,lines_at hp3]
    cases linesRun ((c.map fun (p:Br.Part)=>p.name).map toI) (toI t) 256 p3 with
    |error i=>rfl
    |ok r=>
     show ((bnd (if r.2=t.length then (Except.ok (r.1.map toL,At t r.2):Except Nat _) else .error r.2) fun y=>Except.ok ((⟨nm.1.map toB,y.1⟩:Br.Build),y.2)).map fun (x:Br.Build×(Nat×Br.Bytes))=>x.1)=bnd (if r.2=(toI t).length then .ok (nm.1,r.1) else .error r.2) fun b=>.ok (⟨b.1.map toB,b.2.map toL⟩:Br.Build)
     rw [toI_len]
     by_cases hr:r.2=t.length
     ·rw [if_pos hr,if_pos hr];rfl
     ·rw [if_neg hr,if_neg hr];rfl
end Br1
set_option Elab.async false
set_option linter.all false
set_option maxRecDepth 100000
set_option maxHeartbeats 1000000
namespace Br1
theorem numMore_le {l:List Int} {hi:Int}:∀ {n p:Nat} {v:Int},v≤hi→(numMore l hi n p v).1≤hi
 |0,p,v,h=>h
 |n+1,p,v,h=>by
  rw [numMore]
  split
  ·rename_i q
   exact numMore_le q.2.2
  ·exact h
theorem numMore_ge {l:List Int} {hi:Int}:∀ {n p:Nat} {v:Int},0≤v→v≤(numMore l hi n p v).1
 |0,p,v,h=>Int.le_refl _
 |n+1,p,v,h=>by
  rw [numMore]
  split
  ·rename_i q
   have:=dig_range q.2.1
   have:=numMore_ge (l:=l) (hi:=hi) (n:=n) (p:=p+1) (v:=v * 10+hereI l p - 48) (by (clear q;omega))
   (clear q;omega)
  ·exact Int.le_refl _
theorem numE_range {l:List Int} {p lo hi:Nat} {v:Nat×Nat} (h:numE l p lo hi=.ok v):lo≤v.1∧v.1≤hi:=by
 unfold numE at h
 split at h
 ·rename_i ok
  cases h
  obtain ⟨h1,h2,h3⟩:=ok
  have a:=numMore_le (l:=l) (hi:=hi) (n:=l.length - (p+1)) (p:=p+1) h3
  have b:=numMore_ge (l:=l) (hi:=hi) (n:=l.length - (p+1)) (p:=p+1) (v:=hereI l p - 48) (by (clear a h3;omega))
  show lo≤(numRun l p hi).1.toNat∧(numRun l p hi).1.toNat≤hi
  unfold numRun
  (clear h3;omega)
 ·cases h
theorem signs_in {l:List Int}:∀ {n p:Nat} {r:List Int×Nat},signsRun l n p=.ok r→∀ s∈r.1,s∈SIGNSL
 |0,p,r,h=>by cases h;intro s hs;cases hs
 |n+1,p,r,h=>by
  rw [signsRun] at h
  split at h
  ·rename_i hin
   obtain ⟨q,e,rfl⟩:=consR_inv h
   intro s hs
   rcases List.mem_cons.mp hs with rfl|hs
   ·exact hin
   ·exact signs_in e s hs
  ·cases h
theorem row_inv {l:List Int} {w p:Nat} {r:List Int×Nat} (h:rowRun l w p=.ok r):r.1.length=w∧∀ s∈r.1,s∈SIGNSL:=by
 unfold rowRun at h
 split at h
 ·rename_i q e
  split at h
  ·cases h
   exact ⟨signs_len (r:=q) e,fun s hs=>signs_in (r:=q) e s hs⟩
  ·cases h
 ·cases h
theorem rows_inv {l:List Int} {w:Nat}:∀ {n p:Nat} {r:List (List Int)×Nat},rowsRun l w n p=.ok r→r.1.length=n∧∀ x∈r.1,x.length=w∧∀ s∈x,s∈SIGNSL
 |0,p,r,h=>by cases h;exact ⟨rfl,fun x hx=>by cases hx⟩
 |n+1,p,r,h=>by
  rw [rowsRun] at h
  cases e:rowRun l w p with
  |error i=>rw [e] at h;cases h
  |ok q=>
   rw [e] at h
   obtain ⟨q',e2,rfl⟩:=consR_inv h
   obtain ⟨h1,h2⟩:=rows_inv e2
   refine ⟨by rw [List.length_cons,h1],fun x hx=>?_⟩
   rcases List.mem_cons.mp hx with rfl|hx
   ·exact row_inv e
   ·exact h2 x hx
theorem nameRun_al {l:List Int}:∀ {n p:Nat} {x:Int},x∈nameRun l p n→alnum x=true
 |0,p,x,h=>by simp [nameRun] at h
 |n+1,p,x,h=>by
  rw [nameRun] at h
  split at h
  ·rename_i ha
   rcases List.mem_cons.mp h with rfl|h
   ·exact ha
   ·exact nameRun_al h
  ·cases h
structure PrOk (pr:PartR):Prop where
 w1:1≤pr.w
 w2:pr.w≤16
 d1:1≤pr.d
 d2:pr.d≤16
 h1:1≤pr.h
 h2:pr.h≤18
 rl:pr.rows.length=pr.d * pr.h
 rw:∀ x∈pr.rows,x.length=pr.w
 sg:∀ x∈pr.rows,∀ s∈x,s∈SIGNSL
 nm:∀ x∈pr.name,alnum x=true
theorem part_ok {l:List Int} {p:Nat} {q:PartR×Nat} (h:partRun l p=.ok q):PrOk q.1:=by
 unfold partRun at h
 obtain ⟨p1,_,h⟩:=bnd_inv h
 obtain ⟨nm,en,h⟩:=bnd_inv h
 obtain ⟨_,_,h⟩:=bnd_inv h
 obtain ⟨w,ew,h⟩:=bnd_inv h
 obtain ⟨_,_,h⟩:=bnd_inv h
 obtain ⟨d,ed,h⟩:=bnd_inv h
 obtain ⟨_,_,h⟩:=bnd_inv h
 obtain ⟨hh,eh,h⟩:=bnd_inv h
 obtain ⟨_,_,h⟩:=bnd_inv h
 obtain ⟨g,_,h⟩:=bnd_inv h
 obtain ⟨_,_,h⟩:=bnd_inv h
 obtain ⟨rs,er,h⟩:=bnd_inv h
 cases h
 obtain ⟨a1,a2⟩:=numE_range (lo:=1) (hi:=16) ew
 obtain ⟨b1,b2⟩:=numE_range (lo:=1) (hi:=16) ed
 obtain ⟨c1,c2⟩:=numE_range (lo:=1) (hi:=18) eh
 obtain ⟨r1,r2⟩:=rows_inv er
 refine ⟨a1,a2,b1,b2,c1,c2,r1,fun x hx=>(r2 x hx).1,fun x hx=>(r2 x hx).2,?_⟩
 unfold nameE at en
 split at en
 ·cases en
  exact fun x hx=>nameRun_al hx
 ·cases en
theorem parts_ok {l:List Int}:∀ {n p:Nat} {q:List PartR×Nat},partsRun l n p=.ok q→∀ pr∈q.1,PrOk pr
 |0,p,q,h=>by cases h;intro pr hp;cases hp
 |n+1,p,q,h=>by
  rw [partsRun] at h
  split at h
  ·cases h;intro pr hp;cases hp
  ·obtain ⟨q1,e1,h⟩:=bnd_inv h
   obtain ⟨q2,e2,rfl⟩:=consR_inv h
   intro pr hp
   rcases List.mem_cons.mp hp with rfl|hp
   ·exact part_ok e1
   ·exact parts_ok e2 pr hp
theorem cat_ok {l:List Int} {prs:List PartR} (h:catRun l=.ok prs):∀ pr∈prs,PrOk pr:=by
 unfold catRun at h
 obtain ⟨q,e1,h⟩:=bnd_inv h
 obtain ⟨r,e2,h⟩:=bnd_inv h
 split at h
 ·cases h
  intro pr hp
  rcases List.mem_cons.mp hp with rfl|hp
  ·exact part_ok e1
  ·exact parts_ok e2 pr hp
 ·cases h
theorem toI_al:∀ l:List Int,(∀ x∈l,alnum x=true)→toI (l.map toB)=l:=by
 intro l
 induction l with
 |nil=>intro _;rfl
 |cons x r ih=>
  intro hx
  have h1:=hx x List.mem_cons_self
  have h2:0≤x∧x<256:=by
   unfold alnum isLet isDig at h1
   rw [Bool.or_eq_true,Bool.and_eq_true,Bool.and_eq_true,decide_eq_true_iff,decide_eq_true_iff,decide_eq_true_iff,decide_eq_true_iff] at h1
   omega
  have h3:((toB x).toNat:Int)=x:=by
   unfold toB
   rw [UInt8.toNat_ofNat']
   omega
  show ((toB x).toNat:Int)::toI (r.map toB)=x::r
  rw [h3,ih fun y hy=>hx y (List.mem_cons_of_mem _ hy)]
theorem name_back {pr:PartR} (h:PrOk pr):toI (pr.name.map toB)=pr.name:=toI_al _ h.nm
theorem before_eq:∀ a b:Br.Bytes,Br.before a b= !HT.lexLe (toI b) (toI a)
 |[],[]=>rfl
 |[],_::_=>rfl
 |_::_,[]=>rfl
 |x::a,y::b=>by
  have ih:=before_eq a b
  show (decide (x.toNat<y.toNat)||(x==y && Br.before a b))= !(if (y.toNat:Int)=(x.toNat:Int) then HT.lexLe (toI b) (toI a) else decide ((y.toNat:Int)≤(x.toNat:Int)))
  by_cases h:x=y
  ·subst h
   rw [if_pos rfl,ih]
   simp
  ·have h2:¬x.toNat=y.toNat:=fun z=>h (UInt8.toNat_inj.mp z)
   have hb:(x==y)=false:=beq_eq_false_iff_ne.mpr h
   rw [if_neg (by (clear h;omega)),hb,Bool.false_and,Bool.or_false,Bool.eq_iff_iff,Bool.not_eq_true',decide_eq_true_iff,decide_eq_false_iff_not]
   (clear h2 h;omega)
def goodP (p:Br.Part):Bool:=p.studsOk && (p.tubesOk && (p.tight && p.whole))
def okB:Option Br.Bytes→Br.Part→Bool
 |some n,p=>Br.before n p.name
 |none,_=>true
def chainB:Option Br.Bytes→List Br.Part→Bool
 |_,[]=>true
 |last,p::r=>okB last p && chainB (some p.name) r
theorem chainB_cons (last:Option Br.Bytes) (p:Br.Part) (r:List Br.Part):chainB last (p::r)=(okB last p && chainB (some p.name) r):=by cases last<;>rfl
theorem wrong_part {p:Br.Part} {last:Option Br.Bytes}:(p.wrong last).isSome= !(goodP p && okB last p):=by
 unfold Br.Part.wrong goodP
 cases p.studsOk<;>cases p.tubesOk<;>cases p.tight<;>cases p.whole<;>try rfl
 cases last with
 |none=>rfl
 |some n=>
  show (if Br.before n p.name=true then Option.none else some 5).isSome= !(true && (true && (true && true)) && Br.before n p.name)
  cases Br.before n p.name<;>rfl
theorem wrong_from:∀ {l:List Br.Part} {i:Nat} {last:Option Br.Bytes},(Br.wrongFrom i last l).isSome= !(l.all goodP && chainB last l)
 |[],i,last=>rfl
 |p::r,i,last=>by
  have ih:=wrong_from (l:=r) (i:=i+1) (last:=some p.name)
  have hp:=wrong_part (p:=p) (last:=last)
  rw [Br.wrongFrom]
  cases e:p.wrong last with
  |some k=>
   rw [e] at hp
   show true=_
   rw [List.all_cons,chainB_cons]
   have hp:true= !(goodP p && okB last p):=hp
   cases hg:goodP p
   ·rfl
   ·rw [hg,Bool.true_and] at hp
    have h2:okB last p=false:=by
     cases z:okB last p
     ·rfl
     ·rw [z] at hp;cases hp
    rw [h2,Bool.false_and,Bool.and_false]
    rfl
  |none=>
   rw [e] at hp
   show (Br.wrongFrom (i+1) (some p.name) r).isSome=_
   rw [ih,List.all_cons,chainB_cons]
   have hp:false= !(goodP p && okB last p):=hp
   have h3:(goodP p && okB last p)=true:=by
    cases z:(goodP p && okB last p)
    ·rw [z] at hp;cases hp
    ·rfl
   rw [Bool.and_eq_true] at h3
   rw [h3.1,h3.2,Bool.true_and,Bool.true_and]
theorem chain_grow:∀ {prs:List PartR} {last:Option PartR},(∀ pr∈prs,PrOk pr)→(∀ q,last=some q→PrOk q)→chainB (last.map fun q=>q.name.map toB) (prs.map toP)=growC ((last.toList++prs).map (·.name))
 |[],none,_,_=>rfl
 |[],some q,_,_=>rfl
 |pr::r,none,h,_=>by
  show (true && chainB (some (pr.name.map toB)) (r.map toP))=_
  rw [Bool.true_and]
  exact chain_grow (last:=some pr) (fun x hx=>h x (List.mem_cons_of_mem _ hx)) fun q hq=>by cases hq;exact h _ List.mem_cons_self
 |pr::r,some q,h,hq=>by
  have ih:=chain_grow (prs:=r) (last:=some pr) (fun x hx=>h x (List.mem_cons_of_mem _ hx)) fun q hq=>by cases hq;exact h _ List.mem_cons_self
  show (Br.before (q.name.map toB) (pr.name.map toB) && chainB (some (pr.name.map toB)) (r.map toP))=growC (q.name::pr.name::r.map (·.name))
  rw [before_eq,name_back (h _ List.mem_cons_self),name_back (hq q rfl),growC]
  have ih:chainB (some (pr.name.map toB)) (r.map toP)=growC (pr.name::r.map (·.name)):=ih
  rw [ih]
theorem wrong_cat {prs:List PartR} (h:∀ pr∈prs,PrOk pr) (hg:∀ pr∈prs,goodP (toP pr)=prRight pr):(Br.wrong (prs.map toP)).isSome= !catOk prs:=by
 unfold Br.wrong catOk
 rw [wrong_from]
 have e1:(prs.map toP).all goodP=prs.all prRight:=by
  rw [List.all_map]
  have key:∀ l:List PartR,(∀ pr∈l,goodP (toP pr)=prRight pr)→l.all (goodP∘toP)=l.all prRight:=by
   intro l
   induction l with
   |nil=>intro _;rfl
   |cons a r ih=>
    intro hx
    rw [List.all_cons,List.all_cons,ih fun y hy=>hx y (List.mem_cons_of_mem _ hy)]
    show (goodP (toP a) && _)=_
    rw [hx a List.mem_cons_self]
  exact key prs hg
 have e2:=chain_grow (prs:=prs) (last:=none) h (fun q hq=>by cases hq)
 rw [e1]
 have e2:chainB none (prs.map toP)=growC (prs.map (·.name)):=e2
 rw [e2]
end Br1
set_option Elab.async false
set_option linter.all false
set_option maxRecDepth 100000
set_option maxHeartbeats 1000000
namespace Br1
abbrev Sp3:=Nat×Nat×Nat
def castP (s:Sp3):Pl:=((s.1:Int),(s.2.1:Int),(s.2.2:Int))
theorem castP_inj {a b:Sp3} (h:castP a=castP b):a=b:=by
 obtain ⟨x,y,z⟩:=a
 obtain ⟨u,v,w⟩:=b
 unfold castP at h
 simp only [Prod.mk.injEq] at h ⊢
 omega
def spI (w d i:Nat):Sp3:=(i % w,i / w % d,i / w / d)
theorem spI_inv {w d i x y z:Nat} (h:spI w d i=(x,y,z)):i=(z * d+y) * w+x:=by
 unfold spI at h
 simp only [Prod.mk.injEq] at h
 obtain ⟨rfl,rfl,rfl⟩:=h
 have h1:=Nat.div_add_mod (i / w) d
 have h2:=Nat.div_add_mod i w
 rw [Nat.mul_comm (i / w / d) d,h1,Nat.mul_comm (i / w) w,h2]
theorem spI_at {w d x y z:Nat} (hx:x<w) (hy:y<d):spI w d ((z * d+y) * w+x)=(x,y,z):=by
 have hw:0<w:=by (clear hy;omega)
 have hd:0<d:=by (clear hw hx;omega)
 have e1:((z * d+y) * w+x) / w=z * d+y:=by
  rw [Nat.add_comm,Nat.add_mul_div_right _ _ hw,Nat.div_eq_of_lt hx,Nat.zero_add]
 have e2:((z * d+y) * w+x) % w=x:=by rw [Nat.add_comm,Nat.add_mul_mod_self_right,Nat.mod_eq_of_lt hx]
 unfold spI
 rw [e1,e2,Nat.add_comm (z * d),Nat.add_mul_div_right _ _ hd,Nat.div_eq_of_lt hy,Nat.zero_add,Nat.add_mul_mod_self_right,Nat.mod_eq_of_lt hy]
theorem fm_len {α:Type} {f:Nat→List α} {m:Nat} (hf:∀ z,(f z).length=m):∀ n,((List.range n).flatMap f).length=n * m
 |0=>by simp
 |n+1=>by
  rw [List.range_succ,List.flatMap_append,List.length_append,fm_len hf n,List.flatMap_singleton,hf,Nat.succ_mul]
theorem fm_get {α:Type} {f:Nat→List α} {m:Nat} (hm:0<m) (hf:∀ z,(f z).length=m):∀ n i,i<n * m→((List.range n).flatMap f)[i]?=(f (i / m))[i % m]?
 |0,i,h=>by (clear hm;omega)
 |n+1,i,h=>by
  rw [List.range_succ,List.flatMap_append,List.flatMap_singleton]
  by_cases hi:i<n * m
  ·rw [List.getElem?_append_left (by rw [fm_len hf];exact hi)]
   exact fm_get hm hf n i hi
  ·rw [List.getElem?_append_right (by rw [fm_len hf];(clear h hm;omega)),fm_len hf]
   rw [Nat.succ_mul] at h
   have e:i=(i - n * m)+n * m:=by (clear h hm;omega)
   have hl:i - n * m<m:=by (clear e hi;omega)
   have e1:i / m=n:=by
    rw [e,Nat.add_mul_div_right _ _ hm,Nat.div_eq_of_lt hl,Nat.zero_add]
   have e2:i % m=i - n * m:=by
    conv=>lhs;rw [e]
    rw [Nat.add_mul_mod_self_right,Nat.mod_eq_of_lt hl]
   rw [e1,e2]
theorem spots_eq {p:Br.Part} (hw:0<p.wide) (hd:0<p.deep):p.spots=(List.range (p.high * (p.deep * p.wide))).map (spI p.wide p.deep):=by
 have l1:∀ y z:Nat,((List.range p.wide).map fun (x:Nat)=>(x,y,z)).length=p.wide:=by simp
 have l2:∀ z:Nat,((List.range p.deep).flatMap fun (y:Nat)=>(List.range p.wide).map fun (x:Nat)=>(x,y,z)).length=p.deep * p.wide:=fun z=>fm_len (fun y=>l1 y z) _
 apply List.ext_getElem?
 intro i
 unfold Br.Part.spots
 by_cases hi:i<p.high * (p.deep * p.wide)
 ·rw [fm_get (Nat.mul_pos hd hw) l2 _ _ hi,List.getElem?_map,List.getElem?_range hi]
  have hlt:i % (p.deep * p.wide)<p.deep * p.wide:=Nat.mod_lt _ (Nat.mul_pos hd hw)
  rw [fm_get hw (fun y=>l1 y _) _ _ hlt,List.getElem?_map,List.getElem?_range (Nat.mod_lt _ hw)]
  show some _=some _
  unfold spI
  rw [Nat.mod_mul_left_mod,Nat.mod_mul_left_div_self,Nat.mul_comm p.deep p.wide,Nat.div_div_eq_div_mul]
 ·rw [List.getElem?_eq_none,List.getElem?_eq_none]
  ·rw [List.length_map,List.length_range];(clear hd hw;omega)
  ·rw [fm_len l2];(clear hd hw;omega)
def kept (q:Nat×Int):Bool:= !decide (q.2=46)
def keepF (w d:Nat) (q:Nat×Int):Pl×Int:=(castP (spI w d q.1),q.2)
theorem csRow_eq {w d j:Nat}:∀ (r:List Int) (x:Nat),x+r.length≤w→csRow (j % d) (j / d) x r=(((List.range' (j * w+x) r.length).zip r).filter kept).map (keepF w d)
 |[],x,_=>by simp [csRow]
 |s::r,x,h=>by
  rw [List.length_cons] at h
  have ih:=csRow_eq (w:=w) (d:=d) (j:=j) r (x+1) (by omega)
  have hw:0<w:=by omega
  rw [csRow,ih,List.length_cons,List.range'_succ,List.zip_cons_cons,show j * w+x+1=j * w+(x+1) by (clear hw h;omega)]
  have e1:(j * w+x) / w=j:=by
   rw [Nat.add_comm,Nat.add_mul_div_right _ _ hw,Nat.div_eq_of_lt (by (clear hw;omega)),Nat.zero_add]
  have e2:(j * w+x) % w=x:=by rw [Nat.add_comm,Nat.add_mul_mod_self_right,Nat.mod_eq_of_lt (by (clear e1 hw;omega))]
  by_cases hs:s=46
  ·rw [if_pos hs,List.filter_cons_of_neg (by simp [kept,hs]),List.nil_append]
  ·rw [if_neg hs,List.filter_cons_of_pos (by simp [kept,hs]),List.map_cons]
   show _::_=_
   unfold keepF castP spI
   simp only [e1,e2]
   rfl
theorem csRows_eq {w d:Nat}:∀ (rs:List (List Int)) (j:Nat),(∀ x∈rs,x.length=w)→csRows d j rs=(((List.range' (j * w) rs.flatten.length).zip rs.flatten).filter kept).map (keepF w d)
 |[],j,_=>by simp [csRows]
 |r::rs,j,h=>by
  have ih:=csRows_eq (w:=w) (d:=d) rs (j+1) fun x hx=>h x (List.mem_cons_of_mem _ hx)
  have hr:=h r List.mem_cons_self
  have e:=csRow_eq (w:=w) (d:=d) (j:=j) r 0 (by omega)
  rw [csRows,ih,e,List.flatten_cons,List.length_append,←List.range'_append_1,List.zip_append (by rw [List.length_range']),List.filter_append,List.map_append,hr,Nat.add_zero,Nat.succ_mul]
theorem flat_len {w:Nat}:∀ {rs:List (List Int)},(∀ x∈rs,x.length=w)→rs.flatten.length=rs.length * w
 |[],_=>by simp
 |r::rs,h=>by
  rw [List.flatten_cons,List.length_append,flat_len fun x hx=>h x (List.mem_cons_of_mem _ hx),h r List.mem_cons_self,List.length_cons,Nat.succ_mul,Nat.add_comm]
def zP (pr:PartR):List (Nat×Int):=(List.range (pr.h * (pr.d * pr.w))).zip pr.rows.flatten
theorem flatP {pr:PartR} (ok:PrOk pr):pr.rows.flatten.length=pr.h * (pr.d * pr.w):=by
 rw [flat_len ok.rw,ok.rl,Nat.mul_comm pr.d,Nat.mul_assoc]
theorem cs_eq {pr:PartR} (ok:PrOk pr):csP pr=((zP pr).filter kept).map (keepF pr.w pr.d):=by
 unfold csP zP
 rw [csRows_eq pr.rows 0 ok.rw,flatP ok,Nat.zero_mul,←List.range_eq_range']
theorem plI_cell (s:Int):(plI s).isCell= !decide (s=46):=by
 unfold plI
 by_cases h:s=46
 ·simp [h,Br.Place.isCell]
 ·rw [if_neg h]
  simp only [h,decide_false,Bool.not_false]
  split
  ·rfl
  ·split
   ·rfl
   ·split<;>rfl
theorem plI_stud {s:Int} (h:s∈SIGNSL):(plI s).stud=studI s:=by
 simp only [SIGNSL,List.mem_cons,List.not_mem_nil,or_false] at h
 rcases h with rfl|rfl|rfl|rfl|rfl<;>decide
theorem plI_tube {s:Int} (h:s∈SIGNSL):(plI s).tube=tubeI s:=by
 simp only [SIGNSL,List.mem_cons,List.not_mem_nil,or_false] at h
 rcases h with rfl|rfl|rfl|rfl|rfl<;>decide
theorem places_eq (pr:PartR):(toP pr).places=pr.rows.flatten.map plI:=by
 show (pr.rows.map (List.map plI)).flatten=_
 rw [List.map_flatten]
theorem such_eq {pr:PartR} (ok:PrOk pr) (f:Br.Place→Bool):(toP pr).such f=((zP pr).filter fun q=>f (plI q.2)).map fun q=>spI pr.w pr.d q.1:=by
 unfold Br.Part.such
 rw [spots_eq (p:=toP pr) ok.w1 ok.d1,places_eq]
 show List.map _ (List.filter _ (((List.range (pr.h * (pr.d * pr.w))).map (spI pr.w pr.d)).zip _))=_
 rw [List.zip_map,List.filter_map,List.map_map]
 rfl
theorem cells_eq {pr:PartR} (ok:PrOk pr):(toP pr).cells=((zP pr).filter kept).map fun q=>spI pr.w pr.d q.1:=by
 unfold Br.Part.cells
 rw [such_eq ok]
 congr 2
 funext q
 exact plI_cell q.2
theorem cs_keys {pr:PartR} (ok:PrOk pr):(csP pr).map (·.1)=(toP pr).cells.map castP:=by
 rw [cs_eq ok,cells_eq ok,List.map_map,List.map_map]
 rfl
theorem z_sign {pr:PartR} (ok:PrOk pr) {q:Nat×Int} (h:q∈zP pr):q.2∈SIGNSL:=by
 have h2:=(List.of_mem_zip h).2
 obtain ⟨r,hr,hs⟩:=List.mem_flatten.mp h2
 exact ok.sg r hr _ hs
theorem get_mem {pr:PartR} (ok:PrOk pr) (s:Sp3):(getC (csP pr) (castP s)).isSome=true↔s∈(toP pr).cells:=by
 rw [getC_some]
 constructor
 ·rintro ⟨c,hc,e⟩
  have:castP s∈(csP pr).map (·.1):=List.mem_map.mpr ⟨c,hc,e⟩
  rw [cs_keys ok] at this
  obtain ⟨t,ht,e2⟩:=List.mem_map.mp this
  rw [←castP_inj e2];exact ht
 ·intro h
  have:castP s∈(csP pr).map (·.1):=by rw [cs_keys ok];exact List.mem_map_of_mem h
  obtain ⟨c,hc,e⟩:=List.mem_map.mp this
  exact ⟨c,hc,e⟩
theorem z_get {pr:PartR} (ok:PrOk pr) {i:Nat} {s:Int}:(i,s)∈zP pr↔pr.rows.flatten[i]?=some s:=by
 unfold zP
 rw [List.mem_iff_getElem?]
 constructor
 ·rintro ⟨k,e⟩
  rw [List.getElem?_zip_eq_some] at e
  obtain ⟨e1,e2⟩:=e
  obtain ⟨hk,e3⟩:=List.getElem?_eq_some_iff.mp e1
  rw [List.getElem_range] at e3
  subst e3
  exact e2
 ·intro e
  refine ⟨i,?_⟩
  rw [List.getElem?_zip_eq_some]
  refine ⟨List.getElem?_range ?_,e⟩
  rw [←flatP ok]
  exact (List.getElem?_eq_some_iff.mp e).1
theorem cell_at {pr:PartR} (ok:PrOk pr) (x y z:Nat):((toP pr).at_ x y z).isCell=true↔(x,y,z)∈(toP pr).cells:=by
 rw [cells_eq ok]
 unfold Br.Part.at_
 show ((if x<pr.w∧y<pr.d∧z<pr.h then (toP pr).places.getD ((z * pr.d+y) * pr.w+x) .none else .none:Br.Place)).isCell=true↔_
 have hN:∀ i,i<pr.h * (pr.d * pr.w)→i % pr.w<pr.w∧i / pr.w % pr.d<pr.d∧i / pr.w / pr.d<pr.h:=fun i hi=>by
  refine ⟨Nat.mod_lt _ ok.w1,Nat.mod_lt _ ok.d1,?_⟩
  rw [Nat.div_div_eq_div_mul]
  apply Nat.div_lt_of_lt_mul
  rw [Nat.mul_comm,Nat.mul_comm pr.w]
  exact hi
 constructor
 ·intro h
  split at h
  ·rename_i hr
   rw [places_eq,List.getD_eq_getElem?_getD,List.getElem?_map] at h
   cases e:pr.rows.flatten[(z * pr.d+y) * pr.w+x]? with
   |none=>rw [e] at h;cases h
   |some s=>
    rw [e] at h
    have h:(plI s).isCell=true:=h
    rw [plI_cell] at h
    refine List.mem_map.mpr ⟨(_,s),List.mem_filter.mpr ⟨(z_get ok).mpr e,h⟩,?_⟩
    exact spI_at hr.1 hr.2.1
  ·cases h
 ·intro h
  obtain ⟨⟨i,s⟩,hm,e⟩:=List.mem_map.mp h
  obtain ⟨hz,hk⟩:=List.mem_filter.mp hm
  have hz:=(z_get ok).mp hz
  have hi:i<pr.h * (pr.d * pr.w):=by rw [←flatP ok];exact (List.getElem?_eq_some_iff.mp hz).1
  have e:spI pr.w pr.d i=(x,y,z):=e
  have e2:=spI_inv e
  have h3:=hN i hi
  unfold spI at e
  simp only [Prod.mk.injEq] at e
  rw [if_pos (by (clear e2 hi;omega)),places_eq,List.getD_eq_getElem?_getD,List.getElem?_map,←e2,hz]
  show (plI s).isCell=true
  rw [plI_cell]
  exact hk
theorem studs_good {pr:PartR} (ok:PrOk pr):(toP pr).studsOk=studsC (csP pr):=by
 rw [Bool.eq_iff_iff]
 unfold Br.Part.studsOk studsC Br.Part.studs
 rw [such_eq ok,List.all_eq_true,List.all_eq_true]
 constructor
 ·intro h c hc
  rw [cs_eq ok] at hc
  obtain ⟨q,hq,rfl⟩:=List.mem_map.mp hc
  obtain ⟨hz,hk⟩:=List.mem_filter.mp hq
  cases hs:studI (keepF pr.w pr.d q).2 with
  |false=>rfl
  |true=>
   have h2:=h (spI pr.w pr.d q.1) (List.mem_map.mpr ⟨q,List.mem_filter.mpr ⟨hz,by rw [plI_stud (z_sign ok hz)];exact hs⟩,rfl⟩)
   rw [Bool.true_and,Bool.not_eq_true',←Bool.not_eq_true]
   intro g
   have g2:(getC (csP pr) (castP ((spI pr.w pr.d q.1).1,(spI pr.w pr.d q.1).2.1,(spI pr.w pr.d q.1).2.2+1))).isSome=true:=g
   rw [get_mem ok,←cell_at ok] at g2
   rw [g2] at h2
   cases h2
 ·intro h s hs
  obtain ⟨q,hq,rfl⟩:=List.mem_map.mp hs
  obtain ⟨hz,hk⟩:=List.mem_filter.mp hq
  rw [plI_stud (z_sign ok hz)] at hk
  have hk2:kept q=true:=by
   unfold kept
   cases e:decide (q.2=46) with
   |false=>rfl
   |true=>rw [decide_eq_true_iff.mp e] at hk;cases hk
  have h2:=h (keepF pr.w pr.d q) (by rw [cs_eq ok];exact List.mem_map.mpr ⟨q,List.mem_filter.mpr ⟨hz,hk2⟩,rfl⟩)
  rw [show studI (keepF pr.w pr.d q).2=true from hk,Bool.true_and,Bool.not_eq_true',←Bool.not_eq_true] at h2
  rw [Bool.not_eq_true',←Bool.not_eq_true]
  intro g
  rw [cell_at ok,←get_mem ok] at g
  exact h2 g
theorem tubes_good {pr:PartR} (ok:PrOk pr):(toP pr).tubesOk=tubesC (csP pr):=by
 rw [Bool.eq_iff_iff]
 unfold Br.Part.tubesOk tubesC Br.Part.tubes
 rw [such_eq ok,List.all_eq_true,List.all_eq_true]
 constructor
 ·intro h c hc
  have hc0:=hc
  rw [cs_eq ok] at hc
  obtain ⟨q,hq,rfl⟩:=List.mem_map.mp hc
  obtain ⟨hz,hk⟩:=List.mem_filter.mp hq
  cases hs:tubeI (keepF pr.w pr.d q).2 with
  |false=>rfl
  |true=>
   have h2:=h (spI pr.w pr.d q.1) (List.mem_map.mpr ⟨q,List.mem_filter.mpr ⟨hz,by rw [plI_tube (z_sign ok hz)];exact hs⟩,rfl⟩)
   rw [Bool.true_and,Bool.not_eq_true',←Bool.not_eq_true]
   intro g
   by_cases h0:(spI pr.w pr.d q.1).2.2=0
   ·obtain ⟨c,hc,e⟩:=getC_some.mp g
    have hm:c.1∈(csP pr).map (·.1):=List.mem_map_of_mem hc
    rw [cs_keys ok,e] at hm
    obtain ⟨t,ht,e2⟩:=List.mem_map.mp hm
    have e3:((t.2.2:Nat):Int)=((spI pr.w pr.d q.1).2.2:Int) - 1:=congrArg (fun p:Pl=>p.2.2) e2
    omega
   ·have g2:(getC (csP pr) (castP ((spI pr.w pr.d q.1).1,(spI pr.w pr.d q.1).2.1,(spI pr.w pr.d q.1).2.2 - 1))).isSome=true:=by
     have e:castP ((spI pr.w pr.d q.1).1,(spI pr.w pr.d q.1).2.1,(spI pr.w pr.d q.1).2.2 - 1)=dnP (keepF pr.w pr.d q).1:=by
      refine Prod.ext rfl (Prod.ext rfl ?_)
      show (((spI pr.w pr.d q.1).2.2 - 1:Nat):Int)=((spI pr.w pr.d q.1).2.2:Int) - 1
      omega
     rw [e];exact g
    rw [get_mem ok,←cell_at ok] at g2
    rw [g2,Bool.not_true,Bool.or_false,beq_iff_eq] at h2
    exact h0 h2
 ·intro h s hs
  obtain ⟨q,hq,rfl⟩:=List.mem_map.mp hs
  obtain ⟨hz,hk⟩:=List.mem_filter.mp hq
  rw [plI_tube (z_sign ok hz)] at hk
  have hk2:kept q=true:=by
   unfold kept
   cases e:decide (q.2=46) with
   |false=>rfl
   |true=>rw [decide_eq_true_iff.mp e] at hk;cases hk
  have h2:=h (keepF pr.w pr.d q) (by rw [cs_eq ok];exact List.mem_map.mpr ⟨q,List.mem_filter.mpr ⟨hz,hk2⟩,rfl⟩)
  rw [show tubeI (keepF pr.w pr.d q).2=true from hk,Bool.true_and,Bool.not_eq_true',←Bool.not_eq_true] at h2
  by_cases h0:(spI pr.w pr.d q.1).2.2=0
  ·rw [h0];rfl
  ·rw [Bool.or_eq_true]
   right
   rw [Bool.not_eq_true',←Bool.not_eq_true]
   intro g
   rw [cell_at ok,←get_mem ok] at g
   have e:castP ((spI pr.w pr.d q.1).1,(spI pr.w pr.d q.1).2.1,(spI pr.w pr.d q.1).2.2 - 1)=dnP (keepF pr.w pr.d q).1:=by
    refine Prod.ext rfl (Prod.ext rfl ?_)
    show (((spI pr.w pr.d q.1).2.2 - 1:Nat):Int)=((spI pr.w pr.d q.1).2.2:Int) - 1
    (clear h2;omega)
   rw [e] at g
   exact h2 g
theorem reach_any {pr:PartR} (ok:PrOk pr) (a:Nat) (n:Int) (f:Sp3→Bool) (hf:∀ s,f s=true↔coP (castP s) a=n):(toP pr).cells.any f=decide (n∈reachC (csP pr) a):=by
 rw [Bool.eq_iff_iff,List.any_eq_true,decide_eq_true_iff]
 have e:reachC (csP pr) a=(toP pr).cells.map fun s=>coP (castP s) a:=by
  have:reachC (csP pr) a=((csP pr).map (·.1)).map fun p=>coP p a:=by unfold reachC;rw [List.map_map];rfl
  rw [this,cs_keys ok,List.map_map]
  rfl
 rw [e,List.mem_map]
 exact ⟨fun ⟨s,h1,h2⟩=>⟨s,h1,(hf s).mp h2⟩,fun ⟨s,h1,h2⟩=>⟨s,h1,(hf s).mpr h2⟩⟩
theorem tight_good {pr:PartR} (ok:PrOk pr):(toP pr).tight=fillsC (csP pr) pr.w pr.d pr.h:=by
 have hw:=ok.w1
 have hd:=ok.d1
 have hh:=ok.h1
 show ((toP pr).cells.any (fun (s:Sp3)=>s.1==0) && ((toP pr).cells.any (fun (s:Sp3)=>s.1+1==pr.w) && ((toP pr).cells.any (fun (s:Sp3)=>s.2.1==0) && ((toP pr).cells.any (fun (s:Sp3)=>s.2.1+1==pr.d) && ((toP pr).cells.any (fun (s:Sp3)=>s.2.2==0) && (toP pr).cells.any fun (s:Sp3)=>s.2.2+1==pr.h)))))=_
 rw [reach_any ok 0 0 _ (fun s=>by rw [beq_iff_eq];show s.1=0↔(s.1:Int)=0;(clear hh hd hw;omega)),
  reach_any ok 0 (pr.w - 1) _ (fun s=>by rw [beq_iff_eq];show s.1+1=pr.w↔(s.1:Int)=pr.w - 1;(clear hh hd hw;omega)),
  reach_any ok 1 0 _ (fun s=>by rw [beq_iff_eq];show s.2.1=0↔(s.2.1:Int)=0;(clear hh hd hw;omega)),
  reach_any ok 1 (pr.d - 1) _ (fun s=>by rw [beq_iff_eq];show s.2.1+1=pr.d↔(s.2.1:Int)=pr.d - 1;(clear hh hd hw;omega)),
  reach_any ok 2 0 _ (fun s=>by rw [beq_iff_eq];show s.2.2=0↔(s.2.2:Int)=0;(clear hh hd hw;omega)),
  reach_any ok 2 (pr.h - 1) _ (fun s=>by rw [beq_iff_eq];show s.2.2+1=pr.h↔(s.2.2:Int)=pr.h - 1;(clear hh hd hw;omega))]
 unfold fillsC axisOk
 simp only [Bool.and_assoc]
end Br1
set_option Elab.async false
set_option linter.all false
set_option maxRecDepth 100000
set_option maxHeartbeats 1000000
namespace Br1
inductive From {α:Type} (E:α→α→Prop) (l rest:List α):α→Prop
 |base {a:α}:a∈l→From E l rest a
 |step {p q:α}:From E l rest p→E p q→q∈rest→From E l rest q
def bsE (p q:Sp3):Prop:=Br.beside q p=true
theorem near_mem {l rest:List Sp3} {q:Sp3}:q∈(rest.partition fun (c:Sp3)=>l.any (Br.beside c)).1↔q∈rest∧∃ i∈l,bsE i q:=by
 rw [List.partition_eq_filter_filter,List.mem_filter,List.any_eq_true]
 rfl
theorem far_mem {l rest:List Sp3} {q:Sp3}:q∈(rest.partition fun (c:Sp3)=>l.any (Br.beside c)).2↔q∈rest∧¬∃ i∈l,bsE i q:=by
 rw [List.partition_eq_filter_filter,List.mem_filter]
 show _∧(!(l.any (Br.beside q)))=true↔_
 rw [Bool.not_eq_true',←Bool.not_eq_true,List.any_eq_true]
 rfl
theorem filter_split {α:Type} (f:α→Bool):∀ l:List α,(l.filter f).length+(l.filter (not∘f)).length=l.length
 |[]=>rfl
 |a::r=>by
  have ih:=filter_split f r
  cases h:f a with
  |true=>rw [List.filter_cons_of_pos h,List.filter_cons_of_neg (by simp [h]),List.length_cons,List.length_cons];omega
  |false=>rw [List.filter_cons_of_neg (by simp [h]),List.filter_cons_of_pos (by simp [h]),List.length_cons,List.length_cons];omega
theorem apart_iff:∀ {n:Nat} {l rest:List Sp3},rest.length≤n→(∀ x∈l,x∉rest)→(Br.apartFrom n l rest=[]↔∀ s∈rest,From bsE l rest s)
 |0,l,rest,hn,_=>by
  have:rest=[]:=List.eq_nil_of_length_eq_zero (by omega)
  subst this
  exact Iff.intro (fun _ s hs=>absurd hs List.not_mem_nil) (fun _=>rfl)
 |n+1,l,rest,hn,dj=>by
  have nm:= @near_mem l rest
  have fm:= @far_mem l rest
  have ln:(rest.partition fun (c:Sp3)=>l.any (Br.beside c)).1.length+(rest.partition fun (c:Sp3)=>l.any (Br.beside c)).2.length=rest.length:=by
   rw [List.partition_eq_filter_filter]
   exact filter_split _ _
  show (if (rest.partition fun (c:Sp3)=>l.any (Br.beside c)).1=[] then rest else Br.apartFrom n (rest.partition fun (c:Sp3)=>l.any (Br.beside c)).1 (rest.partition fun (c:Sp3)=>l.any (Br.beside c)).2)=[]↔_
  generalize rest.partition (fun (c:Sp3)=>l.any (Br.beside c))=pt at nm fm ln
  by_cases h:pt.1=[]
  ·rw [if_pos h]
   constructor
   ·rintro rfl s hs
    cases hs
   ·intro hs
    have key:∀ s,From bsE l rest s→s∈l:=by
     intro s hf
     induction hf with
     |base ha=>exact ha
     |step _ e hq ih=>
      have:=nm.mpr ⟨hq,_,ih,e⟩
      rw [h] at this
      cases this
    cases rest with
    |nil=>rfl
    |cons a r=>exact absurd List.mem_cons_self (dj a (key a (hs a List.mem_cons_self)))
  ·rw [if_neg h]
   have hl:0<pt.1.length:=by
    cases e:pt.1 with
    |nil=>exact absurd e h
    |cons a r=>simp
   rw [apart_iff (n:=n) (by (clear h;omega)) fun x hx hy=>(fm.mp hy).2 (nm.mp hx).2]
   constructor
   ·intro hs s hr
    by_cases hx:∃ i∈l,bsE i s
    ·obtain ⟨i,hi,e⟩:=hx
     exact .step (.base hi) e hr
    ·have hf:=hs s (fm.mpr ⟨hr,hx⟩)
     clear hr hx
     induction hf with
     |base ha=>
      obtain ⟨h1,i,hi,e⟩:=nm.mp ha
      exact .step (.base hi) e h1
     |step _ e hq ih=>exact .step ih e (fm.mp hq).1
   ·intro hs s hf
    have hf1:=fm.mp hf
    have key:∀ s,From bsE l rest s→s∈l∨From bsE pt.1 pt.2 s:=by
     intro s hf
     induction hf with
     |base ha=>exact .inl ha
     | @step p q _ e hq ih=>
      right
      by_cases hx:∃ i∈l,bsE i q
      ·exact .base (nm.mpr ⟨hq,hx⟩)
      ·rcases ih with h1|h1
       ·exact absurd ⟨p,h1,e⟩ hx
       ·exact .step h1 e (fm.mpr ⟨hq,hx⟩)
    rcases key s (hs s hf1.1) with h1|h1
    ·exact absurd hf1.1 (dj s h1)
    ·exact h1
def nbE (p q:Pl):Prop:=q∈nbP p
theorem sub_len {α:Type} [DecidableEq α]:∀ {l m:List α},l.Nodup→(∀ x∈l,x∈m)→l.length≤m.length
 |[],m,_,_=>Nat.zero_le _
 |a::l,m,nd,h=>by
  have nd:=List.nodup_cons.mp nd
  have ha:=h a List.mem_cons_self
  have ih:=sub_len (l:=l) (m:=m.erase a) nd.2 fun x hx=>(List.mem_erase_of_ne (by rintro rfl;exact nd.1 hx)).mpr (h x (List.mem_cons_of_mem _ hx))
  have:=List.length_erase_of_mem ha
  have hp:=List.length_pos_of_mem ha
  rw [List.length_cons]
  (clear nd;omega)
structure Put (cs:CL) (a:Pl) (rs0 ws0:List Pl) (M:Nat) (st:List Pl×List Pl):Prop where
 nd:st.1.Nodup
 ks:∀ r∈st.1,(getC cs r).isSome=true∧From nbE [a] (cs.map (·.1)) r
 ws:∀ r∈st.2,r∈st.1
 ol:∀ r∈rs0,r∈st.1
 nw:∀ r∈st.1,r∉st.2→r∈rs0∧r∉ws0
 ms:st.2.length+unr cs st.1≤M
theorem getC_key {cs:CL} {p:Pl}:(getC cs p).isSome=true↔p∈cs.map (·.1):=by
 rw [getC_some,List.mem_map]
theorem Put.push {cs:CL} {a q:Pl} {rs0 ws0:List Pl} {M:Nat} {st:List Pl×List Pl} {p:Pl} (h:Put cs a rs0 ws0 M st) (hq:From nbE [a] (cs.map (·.1)) q) (hp:p∈nbP q):Put cs a rs0 ws0 M (stepN cs st p)∧(∀ r∈st.1,r∈(stepN cs st p).1)∧((getC cs p).isSome=true→p∈(stepN cs st p).1):=by
 unfold stepN
 by_cases hc:(getC cs p).isSome=true∧p∉st.1
 ·rw [if_pos hc]
  obtain ⟨nd,ks,ws,ol,nw,ms⟩:=h
  refine ⟨⟨?_,?_,?_,?_,?_,?_⟩,fun r hr=>List.mem_append_left _ hr,fun _=>List.mem_append_right _ List.mem_cons_self⟩
  ·show (st.1++[p]).Nodup
   rw [List.nodup_append]
   refine ⟨nd,by simp,fun x hx y hy z=>?_⟩
   rw [List.mem_singleton] at hy
   subst hy
   subst z
   exact hc.2 hx
  ·intro r hr
   rcases List.mem_append.mp hr with hr|hr
   ·exact ks r hr
   ·rw [List.mem_singleton] at hr
    subst hr
    exact ⟨hc.1,.step hq hp (getC_key.mp hc.1)⟩
  ·intro r hr
   rcases List.mem_append.mp hr with hr|hr
   ·exact List.mem_append_left _ (ws r hr)
   ·exact List.mem_append_right _ hr
  ·exact fun r hr=>List.mem_append_left _ (ol r hr)
  ·intro r hr hn
   rcases List.mem_append.mp hr with hr|hr
   ·exact nw r hr fun z=>hn (List.mem_append_left _ z)
   ·exact absurd (List.mem_append_right _ hr) hn
  ·have:=unr_push hc.2 hc.1
   show (st.2++[p]).length+unr cs (st.1++[p])≤M
   rw [List.length_append,List.length_singleton]
   (clear hc;omega)
 ·rw [if_neg hc]
  refine ⟨h,fun r hr=>hr,fun hg=>?_⟩
  by_cases hm:p∈st.1
  ·exact hm
  ·exact absurd ⟨hg,hm⟩ hc
theorem Put.all {cs:CL} {a q:Pl} {rs0 ws0:List Pl} {M:Nat} (hq:From nbE [a] (cs.map (·.1)) q):∀ {ps:List Pl} {st:List Pl×List Pl},Put cs a rs0 ws0 M st→(∀ p∈ps,p∈nbP q)→Put cs a rs0 ws0 M (ps.foldl (stepN cs) st)∧(∀ r∈st.1,r∈(ps.foldl (stepN cs) st).1)∧∀ p∈ps,(getC cs p).isSome=true→p∈(ps.foldl (stepN cs) st).1
 |[],st,h,_=>⟨h,fun _ hr=>hr,fun p hp=>by cases hp⟩
 |p::ps,st,h,hps=>by
  obtain ⟨h1,h2,h3⟩:=h.push hq (hps p List.mem_cons_self)
  obtain ⟨k1,k2,k3⟩:=Put.all hq h1 fun x hx=>hps x (List.mem_cons_of_mem _ hx)
  refine ⟨k1,fun r hr=>k2 r (h2 r hr),fun x hx hg=>?_⟩
  rcases List.mem_cons.mp hx with rfl|hx
  ·exact k2 _ (h3 hg)
  ·exact k3 x hx hg
structure Srch (cs:CL) (a:Pl) (n:Nat) (rs ws:List Pl):Prop where
 nd:rs.Nodup
 ks:∀ r∈rs,(getC cs r).isSome=true∧From nbE [a] (cs.map (·.1)) r
 sb:∀ r∈ws,r∈rs
 cl:∀ r∈rs,r∉ws→∀ q∈nbP r,(getC cs q).isSome=true→q∈rs
 ms:ws.length+unr cs rs≤n
theorem run_end {cs:CL} {a:Pl}:∀ {n:Nat} {rs ws:List Pl},Srch cs a n rs ws→(hangRun cs n rs ws).Nodup∧(∀ r∈hangRun cs n rs ws,(getC cs r).isSome=true∧From nbE [a] (cs.map (·.1)) r)∧(∀ r∈hangRun cs n rs ws,∀ q∈nbP r,(getC cs q).isSome=true→q∈hangRun cs n rs ws)∧∀ r∈rs,r∈hangRun cs n rs ws
 |0,rs,ws,h=>by
  have:ws=[]:=List.eq_nil_of_length_eq_zero (by have:=h.ms;omega)
  subst this
  exact ⟨h.nd,h.ks,fun r hr=>h.cl r hr (by simp),fun r hr=>hr⟩
 |n+1,rs,ws,h=>by
  rw [hangRun]
  cases e:ws.getLast? with
  |none=>
   have:ws=[]:=List.getLast?_eq_none_iff.mp e
   subst this
   exact ⟨h.nd,h.ks,fun r hr=>h.cl r hr (by simp),fun r hr=>hr⟩
  |some q=>
   obtain ⟨w0,rfl⟩:=List.getLast?_eq_some_iff.mp e
   rw [List.dropLast_concat]
   have hq:=h.sb q (by simp)
   have p0:Put cs a rs w0 n (rs,w0):=⟨h.nd,h.ks,fun r hr=>h.sb r (List.mem_append_left _ hr),fun r hr=>hr,fun r hr hn=>⟨hr,hn⟩,by have:=h.ms;rw [List.length_append,List.length_singleton] at this;show w0.length+unr cs rs≤n;omega⟩
   obtain ⟨k1,k2,k3⟩:=Put.all (h.ks q hq).2 p0 (ps:=nbP q) fun p hp=>hp
   have s2:Srch cs a n ((nbP q).foldl (stepN cs) (rs,w0)).1 ((nbP q).foldl (stepN cs) (rs,w0)).2:=by
    refine ⟨k1.nd,k1.ks,k1.ws,fun r hr hn x hx hg=>?_,k1.ms⟩
    obtain ⟨h1,h2⟩:=k1.nw r hr hn
    by_cases hrq:r=q
    ·subst hrq
     exact k3 x hx hg
    ·exact k2 x (h.cl r h1 (by simp [h2,hrq]) x hx hg)
   obtain ⟨r1,r2,r3,r4⟩:=run_end s2
   exact ⟨r1,r2,r3,fun r hr=>r4 r (k2 r hr)⟩
theorem hang_iff {c:Pl×Int} {r:CL} (nd:((c::r).map (·.1)).Nodup):hangC (c::r)=true↔∀ p∈(c::r).map (·.1),From nbE [c.1] ((c::r).map (·.1)) p:=by
 have g0:(getC (c::r) c.1).isSome=true:=getC_some.mpr ⟨c,List.mem_cons_self,rfl⟩
 have u0:1+unr (c::r) [c.1]≤(c::r).length:=by
  rw [unr_cons,if_pos (by simp),List.length_cons]
  have:unr r [c.1]≤r.length:=List.length_filter_le _ _
  omega
 have s0:Srch (c::r) c.1 (c::r).length [c.1] [c.1]:=⟨by simp,fun x hx=>by rw [List.mem_singleton] at hx;subst hx;exact ⟨g0,.base List.mem_cons_self⟩,fun x hx=>hx,fun x hx hn=>absurd hx hn,u0⟩
 obtain ⟨r1,r2,r3,r4⟩:=run_end s0
 rw [hangC,decide_eq_true_iff]
 generalize hangRun (c::r) (c::r).length [c.1] [c.1]=R at r1 r2 r3 r4
 have sub:∀ x∈R,x∈(c::r).map (·.1):=fun x hx=>getC_key.mp (r2 x hx).1
 have hle:=sub_len r1 sub
 rw [List.length_map] at hle
 have all:∀ x,From nbE [c.1] ((c::r).map (·.1)) x→x∈R:=by
  intro x hf
  induction hf with
  |base ha=>exact r4 _ ha
  |step _ e hq ih=>exact r3 _ ih _ e (getC_key.mpr hq)
 constructor
 ·intro hl p hp
  by_cases hm:p∈R
  ·exact (r2 p hm).2
  ·have:=sub_len (l:=p::R) (m:=(c::r).map (·.1)) (List.nodup_cons.mpr ⟨hm,r1⟩) fun x hx=>by
    rcases List.mem_cons.mp hx with rfl|hx
    ·exact hp
    ·exact sub x hx
   rw [List.length_map,List.length_cons,hl] at this
   (clear hm hl hle u0;omega)
 ·intro h
  have:=sub_len nd fun x hx=>all x (h x hx)
  rw [List.length_map] at this
  (clear u0;omega)
theorem nb_a {p q r:Nat} (h:p+q+r=1):(p=1∧q=0∧r=0)∨(p=0∧q=1∧r=0)∨(p=0∧q=0∧r=1):=by omega
theorem nb_0 {x u:Nat}:(u - x)+(x - u)=0↔(u:Int)=(x:Int):=by omega
theorem nb_1 {x u:Nat}:(u - x)+(x - u)=1↔(u:Int)=(x:Int) - 1∨(u:Int)=(x:Int)+1:=by omega
theorem beside_nb (a b:Sp3):bsE a b↔nbE (castP a) (castP b):=by
 obtain ⟨x,y,z⟩:=a
 obtain ⟨u,v,w⟩:=b
 unfold bsE nbE Br.beside
 rw [beq_iff_eq]
 constructor
 ·intro h
  rcases nb_a h with ⟨h1,h2,h3⟩|⟨h1,h2,h3⟩|⟨h1,h2,h3⟩
  ·have e2:(v:Int)=y:=nb_0.mp h2
   have e3:(w:Int)=z:=nb_0.mp h3
   rcases nb_1.mp h1 with e1|e1
   ·exact List.mem_cons.mpr (.inl (Prod.ext e1 (Prod.ext e2 e3)))
   ·exact List.mem_cons_of_mem _ (List.mem_cons.mpr (.inl (Prod.ext e1 (Prod.ext e2 e3))))
  ·have e1:(u:Int)=x:=nb_0.mp h1
   have e3:(w:Int)=z:=nb_0.mp h3
   rcases nb_1.mp h2 with e2|e2
   ·exact List.mem_cons_of_mem _ (List.mem_cons_of_mem _ (List.mem_cons.mpr (.inl (Prod.ext e1 (Prod.ext e2 e3)))))
   ·exact List.mem_cons_of_mem _ (List.mem_cons_of_mem _ (List.mem_cons_of_mem _ (List.mem_cons.mpr (.inl (Prod.ext e1 (Prod.ext e2 e3))))))
  ·have e1:(u:Int)=x:=nb_0.mp h1
   have e2:(v:Int)=y:=nb_0.mp h2
   rcases nb_1.mp h3 with e3|e3
   ·exact List.mem_cons_of_mem _ (List.mem_cons_of_mem _ (List.mem_cons_of_mem _ (List.mem_cons_of_mem _ (List.mem_cons_of_mem _ (List.mem_cons.mpr (.inl (Prod.ext e1 (Prod.ext e2 e3))))))))
   ·exact List.mem_cons_of_mem _ (List.mem_cons_of_mem _ (List.mem_cons_of_mem _ (List.mem_cons_of_mem _ (List.mem_cons.mpr (.inl (Prod.ext e1 (Prod.ext e2 e3)))))))
 ·have fin:∀ {p q r:Nat},(p=1∧q=0∧r=0)∨(p=0∧q=1∧r=0)∨(p=0∧q=0∧r=1)→p+q+r=1:=by
   rintro p q r (⟨rfl,rfl,rfl⟩|⟨rfl,rfl,rfl⟩|⟨rfl,rfl,rfl⟩)<;>rfl
  intro h
  refine fin ?_
  have st:∀ {c:Pl},castP (u,v,w)=c→(u:Int)=c.1∧(v:Int)=c.2.1∧(w:Int)=c.2.2:=fun e=>by rw [←e];exact ⟨rfl,rfl,rfl⟩
  rcases List.mem_cons.mp h with e|h
  ·obtain ⟨e1,e2,e3⟩:=st e
   exact .inl ⟨nb_1.mpr (.inl e1),nb_0.mpr e2,nb_0.mpr e3⟩
  rcases List.mem_cons.mp h with e|h
  ·obtain ⟨e1,e2,e3⟩:=st e
   exact .inl ⟨nb_1.mpr (.inr e1),nb_0.mpr e2,nb_0.mpr e3⟩
  rcases List.mem_cons.mp h with e|h
  ·obtain ⟨e1,e2,e3⟩:=st e
   exact .inr (.inl ⟨nb_0.mpr e1,nb_1.mpr (.inl e2),nb_0.mpr e3⟩)
  rcases List.mem_cons.mp h with e|h
  ·obtain ⟨e1,e2,e3⟩:=st e
   exact .inr (.inl ⟨nb_0.mpr e1,nb_1.mpr (.inr e2),nb_0.mpr e3⟩)
  rcases List.mem_cons.mp h with e|h
  ·obtain ⟨e1,e2,e3⟩:=st e
   exact .inr (.inr ⟨nb_0.mpr e1,nb_0.mpr e2,nb_1.mpr (.inr e3)⟩)
  rcases List.mem_cons.mp h with e|h
  ·obtain ⟨e1,e2,e3⟩:=st e
   exact .inr (.inr ⟨nb_0.mpr e1,nb_0.mpr e2,nb_1.mpr (.inl e3)⟩)
  ·cases h
theorem from_cast {c:Sp3} {r:List Sp3}:∀ {s:Sp3},From bsE [c] r s↔From nbE [castP c] ((c::r).map castP) (castP s):=by
 intro s
 constructor
 ·intro h
  induction h with
  |base ha=>rw [List.mem_singleton] at ha;subst ha;exact .base List.mem_cons_self
  |step _ e hq ih=>exact .step ih ((beside_nb _ _).mp e) (List.mem_map_of_mem (List.mem_cons_of_mem _ hq))
 ·have key:∀ p,From nbE [castP c] ((c::r).map castP) p→∃ t,p=castP t∧From bsE [c] r t:=by
   intro p h
   induction h with
   |base ha=>rw [List.mem_singleton] at ha;exact ⟨c,ha,.base List.mem_cons_self⟩
   |step _ e hq ih=>
    obtain ⟨t,rfl,ht⟩:=ih
    obtain ⟨u,hu,rfl⟩:=List.mem_map.mp hq
    refine ⟨u,rfl,?_⟩
    rcases List.mem_cons.mp hu with rfl|hu
    ·exact .base List.mem_cons_self
    ·exact .step ht ((beside_nb _ _).mpr e) hu
  intro h
  obtain ⟨t,e,ht⟩:=key _ h
  rw [castP_inj e]
  exact ht
theorem cells_nd {pr:PartR} (ok:PrOk pr):(toP pr).cells.Nodup:=by
 rw [cells_eq ok]
 have sl:List.Sublist (((zP pr).filter kept).map fun q=>spI pr.w pr.d q.1) ((zP pr).map fun q=>spI pr.w pr.d q.1):=List.Sublist.map _ List.filter_sublist
 refine sl.nodup ?_
 have e:(zP pr).map (fun q=>spI pr.w pr.d q.1)=(List.range (pr.h * (pr.d * pr.w))).map (spI pr.w pr.d):=by
  have:(zP pr).map (fun q=>spI pr.w pr.d q.1)=((zP pr).map Prod.fst).map (spI pr.w pr.d):=by rw [List.map_map];rfl
  rw [this]
  unfold zP
  rw [List.map_fst_zip (by rw [flatP ok,List.length_range];exact Nat.le_refl _)]
 rw [e]
 refine List.Pairwise.map _ (fun a b h z=>h ?_) List.nodup_range
 have h1:=spI_inv (show spI pr.w pr.d a=((spI pr.w pr.d b).1,(spI pr.w pr.d b).2.1,(spI pr.w pr.d b).2.2) from z)
 have h2:=spI_inv (show spI pr.w pr.d b=((spI pr.w pr.d b).1,(spI pr.w pr.d b).2.1,(spI pr.w pr.d b).2.2) from rfl)
 rw [h1,←h2]
theorem whole_good {pr:PartR} (ok:PrOk pr):(toP pr).whole=hangC (csP pr):=by
 have ks:=cs_keys ok
 have nd:=cells_nd ok
 unfold Br.Part.whole
 generalize (toP pr).cells=cl at ks nd
 generalize csP pr=cs at ks
 match cl,cs,ks,nd with
 |[],[],_,_=>rfl
 |[],_::_,ks,_=>cases ks
 |_::_,[],ks,_=>cases ks
 |c::r,k::cs,ks,nd=>
  have ndc:=List.nodup_cons.mp nd
  have hk:k.1=castP c:=(List.cons.inj ks).1
  have nd2:((k::cs).map (·.1)).Nodup:=by
   rw [ks]
   exact List.Pairwise.map _ (fun a b h z=>h (castP_inj z)) nd
  rw [Bool.eq_iff_iff,hang_iff nd2,ks,hk]
  show (Br.apartFrom r.length [c] r).isEmpty=true↔_
  rw [List.isEmpty_iff,apart_iff (Nat.le_refl _) (fun x hx=>by rw [List.mem_singleton] at hx;subst hx;exact ndc.1)]
  constructor
  ·intro h p hp
   obtain ⟨s,hs,rfl⟩:=List.mem_map.mp hp
   rcases List.mem_cons.mp hs with rfl|hs
   ·exact .base List.mem_cons_self
   ·exact from_cast.mp (h s hs)
  ·exact fun h s hs=>from_cast.mpr (h _ (List.mem_map_of_mem (List.mem_cons_of_mem _ hs)))
theorem good_part {pr:PartR} (ok:PrOk pr):goodP (toP pr)=prRight pr:=by
 unfold goodP prRight rightC
 rw [studs_good ok,tubes_good ok,tight_good ok,whole_good ok]
end Br1
set_option Elab.async false
set_option linter.all false
set_option maxRecDepth 100000
set_option maxHeartbeats 1000000
namespace Br1
abbrev txt (l:List Int):Br.Bytes:=BuildsNeutral.text l
def Byt (l:List Int):Prop:=∀ x∈l,0≤x∧x≤255
theorem toI_txt:∀ {l:List Int},Byt l→toI (txt l)=l
 |[],_=>rfl
 |x::r,h=>by
  have h1:=h x List.mem_cons_self
  have ih:=toI_txt (l:=r) fun y hy=>h y (List.mem_cons_of_mem _ hy)
  have e:((UInt8.ofNat x.toNat).toNat:Int)=x:=by
   rw [UInt8.toNat_ofNat']
   omega
  show ((UInt8.ofNat x.toNat).toNat:Int)::toI (txt r)=x::r
  rw [ih,e]
def GivS (tc tb:Br.Bytes):GivR→Prop
 |.no n=>(n= -2∧(BrB.LOOKED<tc.length∨BrB.BUILT<tb.length))∨(n= -6∧¬(BrB.LOOKED<tc.length∨BrB.BUILT<tb.length)∧∃ e,Br.readC tc=.error e)∨(n= -8∧¬(BrB.LOOKED<tc.length∨BrB.BUILT<tb.length)∧∃ k,Br.readC tc=.ok k∧(Br.wrong k).isSome=true)
 |.bad i=>¬(BrB.LOOKED<tc.length∨BrB.BUILT<tb.length)∧∃ k,Br.readC tc=.ok k∧¬(Br.wrong k).isSome=true∧Br.readB k tb=.error i
 |.ok prs nm ls=>¬(BrB.LOOKED<tc.length∨BrB.BUILT<tb.length)∧(∀ pr∈prs,PrOk pr)∧Br.readC tc=.ok (prs.map toP)∧¬(Br.wrong (prs.map toP)).isSome=true∧∃ d,Br.readB (prs.map toP) tb=.ok d∧d.lines=ls.map toL∧toI d.name=nm
theorem build_nm {nss:List (List Int)} {l:List Int} {b:List Int×List (List Nat)} (h:buildRun nss l=.ok b):∀ x∈b.1,alnum x=true:=by
 unfold buildRun at h
 obtain ⟨_,_,h⟩:=bnd_inv h
 obtain ⟨nm,en,h⟩:=bnd_inv h
 obtain ⟨_,_,h⟩:=bnd_inv h
 obtain ⟨r,_,h⟩:=bnd_inv h
 split at h
 ·cases h
  unfold nameE at en
  split at en
  ·cases en
   exact fun x hx=>nameRun_al hx
  ·cases en
 ·cases h
theorem giv_spec {lc lb:List Int} (hc:Byt lc) (hb:Byt lb):GivS (txt lc) (txt lb) (givRun lc lb):=by
 have l1:lc.length=(txt lc).length:=(List.length_map _).symm
 have l2:lb.length=(txt lb).length:=(List.length_map _).symm
 unfold givRun
 by_cases hl:1048576<lc.length∨16384<lb.length
 ·rw [if_pos hl]
  exact .inl ⟨rfl,by rw [l1,l2] at hl;exact hl⟩
 ·rw [if_neg hl]
  have hl2:¬(BrB.LOOKED<(txt lc).length∨BrB.BUILT<(txt lb).length):=by rw [l1,l2] at hl;exact hl
  have rc:=readC_at (txt lc)
  rw [toI_txt hc] at rc
  cases e:catRun lc with
  |error i=>
   rw [e] at rc
   exact .inr (.inl ⟨rfl,hl2,i,rc⟩)
  |ok prs=>
   rw [e] at rc
   have rc:Br.readC (txt lc)=.ok (prs.map toP):=rc
   have ok:=cat_ok e
   have wr:=wrong_cat ok fun pr hp=>good_part (ok pr hp)
   show GivS _ _ (if catOk prs=true then (match buildRun (prs.map (·.name)) lb with
    |.error i=>.bad i
    |.ok b=>.ok prs b.1 b.2) else .no (-8))
   by_cases hk:catOk prs=true
   ·rw [if_pos hk]
    rw [hk] at wr
    have nw:¬(Br.wrong (prs.map toP)).isSome=true:=by rw [wr];decide
    have rb:=readB_at (txt lb) (prs.map toP)
    have en:((prs.map toP).map fun (p:Br.Part)=>p.name).map toI=prs.map (·.name):=by
     rw [List.map_map,List.map_map]
     refine List.map_congr_left fun pr hp=>?_
     exact name_back (ok pr hp)
    rw [toI_txt hb,en] at rb
    cases e2:buildRun (prs.map (·.name)) lb with
    |error i=>
     rw [e2] at rb
     exact ⟨hl2,_,rc,nw,rb⟩
    |ok b=>
     rw [e2] at rb
     exact ⟨hl2,ok,rc,nw,_,rb,rfl,toI_al _ (build_nm e2)⟩
   ·rw [if_neg hk]
    have:catOk prs=false:=by simpa using hk
    rw [this] at wr
    exact .inr (.inr ⟨rfl,hl2,_,rc,by rw [wr];rfl⟩)
end Br1
set_option Elab.async false
set_option linter.all false
set_option maxRecDepth 100000
set_option maxHeartbeats 1000000
namespace Br1
structure TP where
 W:Int
 D:Int
 Hh:Int
 cs:CL
def turnPl (W:Int) (p:Pl):Pl:=(p.2.1,W - 1 - p.1,p.2.2)
def turnC (W:Int) (cs:CL):CL:=cs.map fun c=>(turnPl W c.1,c.2)
def onceT (t:TP):TP:=⟨t.D,t.W,t.Hh,turnC t.W t.cs⟩
def turnsN (t:TP):Nat→TP
 |0=>t
 |n+1=>onceT (turnsN t n)
def tpOf (pr:PartR):TP:=⟨pr.w,pr.d,pr.h,csP pr⟩
def leavesC (t:TP) (x y z:Int):Bool:=decide (64<x+t.W)||(decide (64<y+t.D)||decide (96<z+t.Hh))
def putPl (x y z:Int) (p:Pl):Pl:=(x+p.1,y+p.2.1,z+p.2.2)
def roomC (x y z:Int) (cs:CL):CL:=cs.map fun c=>(putPl x y z c.1,c.2)
def hitC (ow cells:CL):List Int:=cells.filterMap fun c=>getC ow c.1
def blk1 (sg ow:CL) (c:Pl×Int):List Int:=match getC sg (upP c.1) with
 |some s=>if studI c.2=true∧tubeI s=false then (getC ow (upP c.1)).toList else []
 |none=>[]
def blk2 (sg ow:CL) (c:Pl×Int):List Int:=match getC sg (dnP c.1) with
 |some s=>if tubeI c.2=false∧studI s=true then (getC ow (dnP c.1)).toList else []
 |none=>[]
def blockC (cells sg ow:CL):List Int:=cells.flatMap fun c=>blk1 sg ow c++blk2 sg ow c
def minL:List Int→Int
 |[]=>0
 |[a]=>a
 |a::r=>min a (minL r)
def lnN (x:List Nat) (k:Nat):Nat:=x.getD k 0
def tpAt (prs:List PartR) (x:List Nat):TP:=turnsN ((prs[lnN x 0]?).elim ⟨0,0,0,[]⟩ tpOf) (lnN x 5)
def cellsAt (prs:List PartR) (x:List Nat):CL:=roomC (lnN x 2) (lnN x 3) (lnN x 4) (tpAt prs x).cs
def firstC (prs:List PartR):Nat→CL→CL→List (List Nat)→List Int
 |_,_,_,[]=>[]
 |j,sg,ow,x::r=>
  if leavesC (tpAt prs x) (lnN x 2) (lnN x 3) (lnN x 4)=true then [1,j,j] else
  if 0<(hitC ow (cellsAt prs x)).length then [2,j,minL (hitC ow (cellsAt prs x))] else
  if 0<(blockC (cellsAt prs x) sg ow).length then [3,j,minL (blockC (cellsAt prs x) sg ow)] else
  firstC prs (j+1) (sg++cellsAt prs x) (ow++(cellsAt prs x).map fun c=>(c.1,(j:Int))) r
theorem minL_mem:∀ {l:List Int},l≠[]→minL l∈l
 |[],h=>absurd rfl h
 |[a],_=>List.mem_cons_self
 |a::b::r,_=>by
  have ih:=minL_mem (l:=b::r) (by simp)
  show min a (minL (b::r))∈a::b::r
  rcases Int.le_total a (minL (b::r)) with h|h
  ·rw [Int.min_eq_left h];exact List.mem_cons_self
  ·rw [Int.min_eq_right h];exact List.mem_cons_of_mem _ ih
theorem minL_le:∀ {l:List Int} {y:Int},y∈l→minL l≤y
 |[],y,h=>by cases h
 |[a],y,h=>by rw [List.mem_singleton] at h;subst h;exact Int.le_refl _
 |a::b::r,y,h=>by
  show min a (minL (b::r))≤y
  rcases List.mem_cons.mp h with rfl|h
  ·exact Int.min_le_left _ _
  ·have:=minL_le h
   have:=Int.min_le_right a (minL (b::r))
   omega
theorem minL_uq {l:List Int} {m:Int} (h1:m∈l) (h2:∀ y∈l,m≤y):m=minL l:=by
 have a:=minL_le h1
 have b:=h2 _ (minL_mem (l:=l) (by rintro rfl;cases h1))
 omega
structure Shp (p:Br.Part):Prop where
 w:1≤p.wide
 d:1≤p.deep
 h:1≤p.high
 l:p.places.length=p.high * (p.deep * p.wide)
theorem such_mem {p:Br.Part} (ok:Shp p) {f:Br.Place→Bool} (f0:f .none=false) {s:Sp3}:s∈p.such f↔f (p.at_ s.1 s.2.1 s.2.2)=true:=by
 obtain ⟨x,y,z⟩:=s
 unfold Br.Part.such Br.Part.at_
 rw [spots_eq ok.w ok.d,List.mem_map]
 have hN:∀ i,i<p.high * (p.deep * p.wide)→i % p.wide<p.wide∧i / p.wide % p.deep<p.deep∧i / p.wide / p.deep<p.high:=fun i hi=>by
  refine ⟨Nat.mod_lt _ ok.w,Nat.mod_lt _ ok.d,?_⟩
  rw [Nat.div_div_eq_div_mul]
  apply Nat.div_lt_of_lt_mul
  rw [Nat.mul_comm,Nat.mul_comm p.wide]
  exact hi
 constructor
 ·rintro ⟨⟨t,pl⟩,hm,e⟩
  obtain ⟨hz,hf⟩:=List.mem_filter.mp hm
  obtain ⟨i,e1⟩:=List.mem_iff_getElem?.mp hz
  rw [List.getElem?_zip_eq_some] at e1
  obtain ⟨e1,e2⟩:=e1
  have hi:i<p.high * (p.deep * p.wide):=by rw [←ok.l];exact (List.getElem?_eq_some_iff.mp e2).1
  rw [List.getElem?_map,List.getElem?_range hi] at e1
  have e1:spI p.wide p.deep i=t:=by simpa using e1
  have e:t=(x,y,z):=e
  subst e
  have e3:=spI_inv e1
  have h3:=hN i hi
  unfold spI at e1
  simp only [Prod.mk.injEq] at e1
  show f (if x<p.wide∧y<p.deep∧z<p.high then _ else _)=true
  rw [if_pos (by omega),List.getD_eq_getElem?_getD]
  show f ((p.places[(z * p.deep+y) * p.wide+x]?).getD .none)=true
  rw [←e3,e2]
  exact hf
 ·intro h
  have h:f (if x<p.wide∧y<p.deep∧z<p.high then p.places.getD ((z * p.deep+y) * p.wide+x) .none else .none)=true:=h
  split at h
  ·rename_i hr
   have hlt:(z * p.deep+y) * p.wide+x<p.high * (p.deep * p.wide):=by
    have h1:(z * p.deep+y)+1≤p.high * p.deep:=by
     have:(z+1) * p.deep≤p.high * p.deep:=Nat.mul_le_mul_right _ hr.2.2
     rw [Nat.succ_mul] at this
     omega
    have h2:=Nat.mul_le_mul_right p.wide h1
    rw [Nat.succ_mul,Nat.mul_assoc] at h2
    omega
   rw [List.getD_eq_getElem?_getD] at h
   have hp:(z * p.deep+y) * p.wide+x<p.places.length:=by rw [ok.l];exact hlt
   rw [List.getElem?_eq_getElem hp] at h
   refine ⟨((x,y,z),p.places[(z * p.deep+y) * p.wide+x]),List.mem_filter.mpr ⟨?_,h⟩,rfl⟩
   refine List.mem_iff_getElem?.mpr ⟨(z * p.deep+y) * p.wide+x,?_⟩
   rw [List.getElem?_zip_eq_some]
   refine ⟨?_,List.getElem?_eq_getElem hp⟩
   rw [List.getElem?_map,List.getElem?_range hlt]
   show some (spI _ _ _)=_
   rw [spI_at hr.1 hr.2.1]
  ·rw [f0] at h;cases h
structure Rep (t:TP) (p:Br.Part):Prop where
 sh:Shp p
 w:t.W=p.wide
 d:t.D=p.deep
 h:t.Hh=p.high
 nd:(t.cs.map (·.1)).Nodup
 mem:∀ (q:Pl) (v:Int),(q,v)∈t.cs↔∃ s:Sp3,q=castP s∧v∈SIGNSL∧(p.at_ s.1 s.2.1 s.2.2).isCell=true∧p.at_ s.1 s.2.1 s.2.2=plI v
theorem at_in {p:Br.Part} {x y z:Nat} (h:(p.at_ x y z).isCell=true):x<p.wide∧y<p.deep∧z<p.high:=by
 unfold Br.Part.at_ at h
 split at h
 ·rename_i hr;exact hr
 ·cases h
theorem rep0 {pr:PartR} (ok:PrOk pr):Rep (tpOf pr) (toP pr):=by
 have hl:(toP pr).places.length=pr.h * (pr.d * pr.w):=by rw [places_eq,List.length_map,flatP ok]
 refine ⟨⟨ok.w1,ok.d1,ok.h1,hl⟩,rfl,rfl,rfl,?_,?_⟩
 ·show ((csP pr).map (·.1)).Nodup
  rw [cs_keys ok]
  exact List.Pairwise.map _ (fun a b h z=>h (castP_inj z)) (cells_nd ok)
 ·intro q v
  show (q,v)∈csP pr↔_
  rw [cs_eq ok,List.mem_map]
  constructor
  ·rintro ⟨⟨i,s⟩,hm,e⟩
   obtain ⟨hz,hk⟩:=List.mem_filter.mp hm
   cases e
   have hc:spI pr.w pr.d i∈(toP pr).cells:=by rw [cells_eq ok];exact List.mem_map.mpr ⟨_,hm,rfl⟩
   have hc2:=(cell_at ok (spI pr.w pr.d i).1 (spI pr.w pr.d i).2.1 (spI pr.w pr.d i).2.2).mpr hc
   refine ⟨spI pr.w pr.d i,rfl,z_sign ok hz,hc2,?_⟩
   have hin:=at_in hc2
   have e2:=spI_inv (w:=pr.w) (d:=pr.d) (i:=i) (x:=(spI pr.w pr.d i).1) (y:=(spI pr.w pr.d i).2.1) (z:=(spI pr.w pr.d i).2.2) rfl
   unfold Br.Part.at_
   rw [if_pos hin,places_eq,List.getD_eq_getElem?_getD,List.getElem?_map]
   show ((pr.rows.flatten[((spI pr.w pr.d i).2.2 * pr.d+(spI pr.w pr.d i).2.1) * pr.w+(spI pr.w pr.d i).1]?).map plI).getD .none=_
   rw [←e2,(z_get ok).mp hz]
   rfl
  ·rintro ⟨s,rfl,hv,hc,he⟩
   have hin:=at_in hc
   unfold Br.Part.at_ at he
   rw [if_pos hin,places_eq,List.getD_eq_getElem?_getD,List.getElem?_map] at he
   have he:((pr.rows.flatten[(s.2.2 * pr.d+s.2.1) * pr.w+s.1]?).map plI).getD .none=plI v:=he
   have hc':(plI v).isCell=true:=by
    unfold Br.Part.at_ at hc
    rw [if_pos hin,places_eq,List.getD_eq_getElem?_getD,List.getElem?_map] at hc
    rw [←he];exact hc
   cases e:pr.rows.flatten[(s.2.2 * pr.d+s.2.1) * pr.w+s.1]? with
   |none=>rw [e] at he;rw [←he] at hc';cases hc'
   |some u=>
    rw [e] at he
    have he:plI u=plI v:=he
    have hz:=(z_get ok).mpr e
    have hu:=z_sign ok hz
    have huv:u=v:=by
     simp only [SIGNSL,List.mem_cons,List.not_mem_nil,or_false] at hu hv
     rcases hu with rfl|rfl|rfl|rfl|rfl<;>rcases hv with rfl|rfl|rfl|rfl|rfl<;>first|rfl|(revert he;decide)
    subst huv
    refine ⟨(_,u),List.mem_filter.mpr ⟨hz,?_⟩,?_⟩
    ·rw [plI_cell] at hc';exact hc'
    ·have hs:spI pr.w pr.d ((s.2.2 * pr.d+s.2.1) * pr.w+s.1)=s:=spI_at (w:=pr.w) (d:=pr.d) hin.1 hin.2.1
     show (castP (spI pr.w pr.d ((s.2.2 * pr.d+s.2.1) * pr.w+s.1)),u)=_
     rw [hs]
theorem turn_len {p:Br.Part}:p.turn.places.length=p.high * (p.wide * p.deep):=by
 show ((List.range p.high).flatMap fun (z:Nat)=>(List.range p.wide).flatMap fun (y:Nat)=>(List.range p.deep).map fun (x:Nat)=>p.places.toArray.getD ((z * p.deep+x) * p.wide+(p.wide - 1 - y)) .none).length=_
 refine fm_len (fun z=>?_) _
 refine fm_len (fun y=>?_) _
 simp
theorem turn_at {p:Br.Part} (ok:Shp p) {x y z:Nat} (hx:x<p.deep) (hy:y<p.wide) (hz:z<p.high):p.turn.at_ x y z=p.at_ (p.wide - 1 - y) x z:=by
 have hw:=ok.w
 have hd:=ok.d
 have l1:∀ y z:Nat,((List.range p.deep).map fun (x:Nat)=>p.places.toArray.getD ((z * p.deep+x) * p.wide+(p.wide - 1 - y)) Br.Place.none).length=p.deep:=by simp
 have l2:∀ z:Nat,((List.range p.wide).flatMap fun (y:Nat)=>(List.range p.deep).map fun (x:Nat)=>p.places.toArray.getD ((z * p.deep+x) * p.wide+(p.wide - 1 - y)) Br.Place.none).length=p.wide * p.deep:=fun z=>fm_len (fun y=>l1 y z) _
 have b1:y * p.deep+x<p.wide * p.deep:=by
  have:(y+1) * p.deep≤p.wide * p.deep:=Nat.mul_le_mul_right _ hy
  rw [Nat.succ_mul] at this
  omega
 have b2:z * (p.wide * p.deep)+(y * p.deep+x)<p.high * (p.wide * p.deep):=by
  have:(z+1) * (p.wide * p.deep)≤p.high * (p.wide * p.deep):=Nat.mul_le_mul_right _ hz
  rw [Nat.succ_mul] at this
  omega
 have e0:(z * p.wide+y) * p.deep+x=z * (p.wide * p.deep)+(y * p.deep+x):=by
  rw [Nat.add_mul,Nat.mul_assoc,Nat.add_assoc]
 unfold Br.Part.at_
 rw [if_pos (show x<p.turn.wide∧y<p.turn.deep∧z<p.turn.high from ⟨hx,hy,hz⟩),if_pos (by omega)]
 rw [List.getD_eq_getElem?_getD,List.getD_eq_getElem?_getD]
 show (((List.range p.high).flatMap fun (z:Nat)=>(List.range p.wide).flatMap fun (y:Nat)=>(List.range p.deep).map fun (x:Nat)=>p.places.toArray.getD ((z * p.deep+x) * p.wide+(p.wide - 1 - y)) Br.Place.none)[(z * p.wide+y) * p.deep+x]?).getD .none=_
 rw [e0,fm_get (Nat.mul_pos hw hd) l2 _ _ b2]
 have e1:(z * (p.wide * p.deep)+(y * p.deep+x)) / (p.wide * p.deep)=z:=by
  rw [Nat.add_comm,Nat.add_mul_div_right _ _ (Nat.mul_pos hw hd),Nat.div_eq_of_lt b1,Nat.zero_add]
 have e2:(z * (p.wide * p.deep)+(y * p.deep+x)) % (p.wide * p.deep)=y * p.deep+x:=by
  rw [Nat.add_comm,Nat.add_mul_mod_self_right,Nat.mod_eq_of_lt b1]
 rw [e1,e2,fm_get hd (fun y=>l1 y z) _ _ b1]
 have e3:(y * p.deep+x) / p.deep=y:=by
  rw [Nat.add_comm,Nat.add_mul_div_right _ _ hd,Nat.div_eq_of_lt hx,Nat.zero_add]
 have e4:(y * p.deep+x) % p.deep=x:=by rw [Nat.add_comm,Nat.add_mul_mod_self_right,Nat.mod_eq_of_lt hx]
 rw [e3,e4,List.getElem?_map,List.getElem?_range hx]
 show p.places.toArray.getD ((z * p.deep+x) * p.wide+(p.wide - 1 - y)) .none=_
 simp
theorem rep_turn {t:TP} {p:Br.Part} (h:Rep t p):Rep (onceT t) p.turn:=by
 obtain ⟨sh,hw,hd,hh,nd,mem⟩:=h
 have sh2:Shp p.turn:=⟨sh.d,sh.w,sh.h,turn_len⟩
 have inj:∀ a b:Pl,turnPl t.W a=turnPl t.W b→a=b:=by
  rintro ⟨x,y,z⟩ ⟨u,v,w⟩ e
  unfold turnPl at e
  simp only [Prod.mk.injEq] at e ⊢
  omega
 refine ⟨sh2,hd,hw,hh,?_,?_⟩
 ·show (((t.cs).map fun c=>(turnPl t.W c.1,c.2)).map (·.1)).Nodup
  rw [List.map_map]
  have:(t.cs.map ((·.1)∘fun c:Pl×Int=>(turnPl t.W c.1,c.2)))=(t.cs.map (·.1)).map (turnPl t.W):=by rw [List.map_map];rfl
  rw [this]
  exact List.Pairwise.map _ (fun a b h z=>h (inj a b z)) nd
 ·intro q v
  show (q,v)∈t.cs.map (fun c=>(turnPl t.W c.1,c.2))↔_
  rw [List.mem_map]
  constructor
  ·rintro ⟨⟨c,u⟩,hc,e⟩
   obtain ⟨s,rfl,hv,hcell,hpl⟩:=(mem c u).mp hc
   cases e
   have hin:=at_in hcell
   have hy:p.wide - 1 - s.1<p.wide:=by omega
   have ta:=turn_at sh hin.2.1 hy hin.2.2
   rw [show p.wide - 1 - (p.wide - 1 - s.1)=s.1 by omega] at ta
   refine ⟨(s.2.1,p.wide - 1 - s.1,s.2.2),?_,hv,?_,?_⟩
   ·unfold turnPl castP
    rw [hw]
    refine Prod.ext rfl (Prod.ext ?_ rfl)
    show (p.wide:Int) - 1 - (s.1:Int)=((p.wide - 1 - s.1:Nat):Int)
    omega
   ·show (p.turn.at_ s.2.1 (p.wide - 1 - s.1) s.2.2).isCell=true
    rw [ta];exact hcell
   ·show p.turn.at_ s.2.1 (p.wide - 1 - s.1) s.2.2=_
    rw [ta];exact hpl
  ·rintro ⟨s,rfl,hv,hcell,hpl⟩
   have hin:s.1<p.deep∧s.2.1<p.wide∧s.2.2<p.high:=at_in hcell
   have ta:=turn_at sh hin.1 hin.2.1 hin.2.2
   rw [ta] at hcell hpl
   refine ⟨(castP (p.wide - 1 - s.2.1,s.1,s.2.2),v),(mem _ _).mpr ⟨_,rfl,hv,hcell,hpl⟩,?_⟩
   unfold turnPl castP
   rw [hw]
   refine Prod.ext (Prod.ext rfl (Prod.ext ?_ rfl)) rfl
   show (p.wide:Int) - 1 - ((p.wide - 1 - s.2.1:Nat):Int)=(s.2.1:Int)
   omega
theorem rep_turns {t:TP} {p:Br.Part} (h:Rep t p):∀ n,Rep (turnsN t n) (p.turned n)
 |0=>h
 |n+1=>rep_turn (rep_turns h n)
end Br1
set_option Elab.async false
set_option linter.all false
set_option maxRecDepth 100000
set_option maxHeartbeats 1000000
namespace Br1
structure SRep (sh:Br.Shape) (cl:CL):Prop where
 c:∀ s,s∈sh.cells↔∃ v,(castP s,v)∈cl
 st:∀ s,s∈sh.studs↔∃ v,(castP s,v)∈cl∧studI v=true
 tb:∀ s,s∈sh.tubes↔∃ v,(castP s,v)∈cl∧tubeI v=true
 nd:(cl.map (·.1)).Nodup
 ps:∀ q v,(q,v)∈cl→∃ s:Sp3,q=castP s
 box:∀ s∈sh.cells,(sh.at_.1≤s.1∧s.1<sh.at_.1+sh.size.1)∧(sh.at_.2.1≤s.2.1∧s.2.1<sh.at_.2.1+sh.size.2.1)∧(sh.at_.2.2≤s.2.2∧s.2.2<sh.at_.2.2+sh.size.2.2)
theorem nd_uq:∀ {cl:CL} {q:Pl} {u v:Int},(cl.map (·.1)).Nodup→(q,u)∈cl→(q,v)∈cl→u=v
 |[],q,u,v,_,h,_=>by cases h
 |c::r,q,u,v,nd,h1,h2=>by
  have nd:=List.nodup_cons.mp nd
  rcases List.mem_cons.mp h1 with e1|h1
  ·rcases List.mem_cons.mp h2 with e2|h2
   ·rw [←e1] at e2;cases e2;rfl
   ·exact absurd (List.mem_map.mpr ⟨_,h2,by rw [←e1]⟩) nd.1
  ·rcases List.mem_cons.mp h2 with e2|h2
   ·exact absurd (List.mem_map.mpr ⟨_,h1,by rw [←e2]⟩) nd.1
   ·exact nd_uq nd.2 h1 h2
theorem getC_in {cl:CL} {q:Pl} {v:Int} (h:getC cl q=some v):(q,v)∈cl:=by
 unfold getC at h
 obtain ⟨c,e,rfl⟩:=Option.map_eq_some_iff.mp h
 have h1:=List.find?_some e
 have h1:c.1=q:=by simpa using h1
 rw [←h1]
 exact List.mem_of_find?_eq_some e
theorem getC_nd {cl:CL} {q:Pl} {v:Int} (nd:(cl.map (·.1)).Nodup):getC cl q=some v↔(q,v)∈cl:=by
 refine ⟨getC_in,fun h=>?_⟩
 have hs:(getC cl q).isSome=true:=getC_some.mpr ⟨_,h,rfl⟩
 obtain ⟨u,e⟩:=Option.isSome_iff_exists.mp hs
 rw [e,nd_uq nd (getC_in e) h]
theorem getC_app (a b:CL) (q:Pl):getC (a++b) q=(getC a q).or (getC b q):=by
 unfold getC
 rw [List.find?_append]
 cases List.find? (fun c=>decide (c.1=q)) a<;>rfl
theorem place_sign (pl:Br.Place):∃ v∈SIGNSL,pl=plI v:=by
 cases pl with
 |none=>exact ⟨46,by decide,by decide⟩
 |cell a b=>cases a<;>cases b<;>first|exact ⟨35,by decide,by decide⟩|exact ⟨115,by decide,by decide⟩|exact ⟨116,by decide,by decide⟩|exact ⟨98,by decide,by decide⟩
theorem stud_cell {pl:Br.Place} (h:pl.stud=true):pl.isCell=true:=by cases pl;cases h;rfl
theorem tube_cell {pl:Br.Place} (h:pl.tube=true):pl.isCell=true:=by cases pl;cases h;rfl
theorem rep_such {t:TP} {p:Br.Part} (h:Rep t p) {f:Br.Place→Bool} {g:Int→Bool} (f0:∀ pl,f pl=true→pl.isCell=true) (hg:∀ v∈SIGNSL,v≠46→f (plI v)=g v) (s:Sp3):s∈p.such f↔∃ v,(castP s,v)∈t.cs∧g v=true:=by
 have fn:f .none=false:=by
  cases e:f .none with
  |false=>rfl
  |true=>have:=f0 _ e;cases this
 rw [such_mem h.sh fn]
 constructor
 ·intro hf
  have hc:=f0 _ hf
  obtain ⟨v,hv,e⟩:=place_sign (p.at_ s.1 s.2.1 s.2.2)
  refine ⟨v,(h.mem _ _).mpr ⟨s,rfl,hv,hc,e⟩,?_⟩
  rw [←hg v hv (by rintro rfl;rw [e] at hc;revert hc;decide),←e]
  exact hf
 ·rintro ⟨v,hm,hgv⟩
  obtain ⟨s2,e,hv,hc,e2⟩:=(h.mem _ _).mp hm
  have e:=castP_inj e
  subst e
  rw [e2,hg v hv (by rintro rfl;rw [e2] at hc;revert hc;decide)]
  exact hgv
theorem srep_of {t:TP} {p:Br.Part} (h:Rep t p) (x y z:Nat) (im:Bool) (put:Sp3→Sp3) (hput:∀ s,put s=(x+s.1,y+s.2.1,z+s.2.2)):SRep ⟨(x,y,z),(p.wide,p.deep,p.high),im,p.cells.map put,p.studs.map put,p.tubes.map put⟩ (roomC x y z t.cs):=by
 have key:∀ (f:Br.Place→Bool) (g:Int→Bool),(∀ pl,f pl=true→pl.isCell=true)→(∀ v∈SIGNSL,v≠46→f (plI v)=g v)→∀ s:Sp3,s∈(p.such f).map put↔∃ v,(castP s,v)∈roomC x y z t.cs∧g v=true:=by
  intro f g f0 hg s
  rw [List.mem_map]
  constructor
  ·rintro ⟨s0,h0,rfl⟩
   obtain ⟨v,hm,hgv⟩:=(rep_such h f0 hg s0).mp h0
   refine ⟨v,List.mem_map.mpr ⟨_,hm,?_⟩,hgv⟩
   rw [hput]
   rfl
  ·rintro ⟨v,hm,hgv⟩
   obtain ⟨⟨q,u⟩,hc,e⟩:=List.mem_map.mp hm
   obtain ⟨e1,e2⟩:=Prod.mk.inj e
   have e2:u=v:=e2
   subst e2
   obtain ⟨s0,rfl,_⟩:=(h.mem q u).mp hc
   refine ⟨s0,(rep_such h f0 hg s0).mpr ⟨u,hc,hgv⟩,?_⟩
   apply castP_inj
   rw [hput,←e1]
   rfl
 have inj:∀ a b:Pl,putPl x y z a=putPl x y z b→a=b:=by
  rintro ⟨a,b,c⟩ ⟨u,v,w⟩ e
  unfold putPl at e
  simp only [Prod.mk.injEq] at e ⊢
  omega
 refine ⟨fun s=>?_,fun s=>?_,fun s=>?_,?_,?_,?_⟩
 ·have k:=key Br.Place.isCell (fun _=>true) (fun _ h=>h) (fun v hv hn=>by rw [plI_cell];simp [hn]) s
  have k:s∈p.cells.map put↔_:=k
  show s∈p.cells.map put↔_
  rw [k]
  exact ⟨fun ⟨v,h1,_⟩=>⟨v,h1⟩,fun ⟨v,h1⟩=>⟨v,h1,rfl⟩⟩
 ·exact key Br.Place.stud studI (fun _ h=>stud_cell h) (fun v hv _=>plI_stud hv) s
 ·exact key Br.Place.tube tubeI (fun _ h=>tube_cell h) (fun v hv _=>plI_tube hv) s
 ·unfold roomC
  rw [List.map_map]
  have:(t.cs.map ((·.1)∘fun c:Pl×Int=>(putPl x y z c.1,c.2)))=(t.cs.map (·.1)).map (putPl x y z):=by rw [List.map_map];rfl
  rw [this]
  exact List.Pairwise.map _ (fun a b h z=>h (inj a b z)) h.nd
 ·intro q v hm
  obtain ⟨⟨q0,u⟩,hc,e⟩:=List.mem_map.mp hm
  obtain ⟨s0,rfl,_⟩:=(h.mem q0 u).mp hc
  obtain ⟨e1,e2⟩:=Prod.mk.inj e
  exact ⟨(x+s0.1,y+s0.2.1,z+s0.2.2),by rw [←e1];rfl⟩
 ·intro s hs
  obtain ⟨s0,h0,rfl⟩:=List.mem_map.mp hs
  have h0:s0∈p.such Br.Place.isCell:=h0
  rw [such_mem h.sh (by rfl)] at h0
  have:=at_in h0
  rw [hput]
  show (x≤x+s0.1∧x+s0.1<x+p.wide)∧(y≤y+s0.2.1∧y+s0.2.1<y+p.deep)∧(z≤z+s0.2.2∧z+s0.2.2<z+p.high)
  omega
theorem clash_iff {i j:Br.Shape} {ci cj:CL} (hi:SRep i ci) (hj:SRep j cj):Br.clash i j=true↔∃ q v u,(q,v)∈ci∧(q,u)∈cj:=by
 unfold Br.clash
 rw [Bool.and_eq_true,List.any_eq_true]
 constructor
 ·rintro ⟨_,s,h1,h2⟩
  rw [List.contains_iff_mem] at h2
  obtain ⟨v,hv⟩:=(hi.c s).mp h1
  obtain ⟨u,hu⟩:=(hj.c s).mp h2
  exact ⟨_,v,u,hv,hu⟩
 ·rintro ⟨q,v,u,hv,hu⟩
  obtain ⟨s,rfl⟩:=hi.ps q v hv
  have m1:=(hi.c s).mpr ⟨v,hv⟩
  have m2:=(hj.c s).mpr ⟨u,hu⟩
  have b1:=hi.box s m1
  have b2:=hj.box s m2
  refine ⟨?_,s,m1,List.contains_iff_mem.mpr m2⟩
  unfold Br.meet
  simp only [Bool.and_eq_true,decide_eq_true_iff]
  omega
theorem stuck_iff {i j:Br.Shape} {ci cj:CL} (hi:SRep i ci) (hj:SRep j cj):Br.stuck i j=true↔∃ q v u,(q,v)∈ci∧studI v=true∧(upP q,u)∈cj∧tubeI u=false:=by
 unfold Br.stuck
 rw [Bool.and_eq_true,List.any_eq_true]
 constructor
 ·rintro ⟨_,s,h1,h2⟩
  rw [Bool.and_eq_true,Bool.not_eq_true',←Bool.not_eq_true,List.contains_iff_mem,List.contains_iff_mem] at h2
  obtain ⟨v,hv,hs⟩:=(hi.st s).mp h1
  obtain ⟨u,hu⟩:=(hj.c _).mp h2.1
  refine ⟨_,v,u,hv,hs,hu,?_⟩
  cases e:tubeI u with
  |false=>rfl
  |true=>exact absurd ((hj.tb _).mpr ⟨u,hu,e⟩) h2.2
 ·rintro ⟨q,v,u,hv,hs,hu,ht⟩
  obtain ⟨s,rfl⟩:=hi.ps q v hv
  have m1:=(hi.c s).mpr ⟨v,hv⟩
  have m2:Br.above s∈j.cells:=(hj.c (Br.above s)).mpr ⟨u,hu⟩
  have b1:=hi.box s m1
  have b2:=hj.box _ m2
  refine ⟨?_,s,(hi.st s).mpr ⟨v,hv,hs⟩,?_⟩
  ·unfold Br.meet
   simp only [Bool.and_eq_true,decide_eq_true_iff]
   unfold Br.above at b2
   simp only at b2
   omega
  ·rw [Bool.and_eq_true,Bool.not_eq_true',←Bool.not_eq_true,List.contains_iff_mem,List.contains_iff_mem]
   refine ⟨m2,fun z=>?_⟩
   obtain ⟨u2,hu2,ht2⟩:=(hj.tb _).mp z
   rw [nd_uq hj.nd hu (show (upP (castP s),u2)∈cj from hu2),ht2] at ht
   cases ht
structure Inv (zs:List (Br.Shape×CL)) (sg ow:CL):Prop where
 rep:∀ z∈zs,SRep z.1 z.2
 sgO:∀ q v,getC sg q=some v↔∃ (i:Nat) (z:Br.Shape×CL),zs[i]?=some z∧(q,v)∈z.2
 owO:∀ q k,getC ow q=some k↔∃ (i:Nat) (z:Br.Shape×CL) (v:Int),zs[i]?=some z∧(q,v)∈z.2∧k=(i:Int)
theorem idx_min {zs:List (Br.Shape×CL)} {f:Br.Shape→Bool} {L:List Int} (h:∀ k:Int,k∈L↔∃ (i:Nat) (z:Br.Shape×CL),zs[i]?=some z∧f z.1=true∧k=(i:Int)):
  (L=[]→(zs.map (·.1)).findIdx? f=none)∧(L≠[]→∃ i:Nat,(zs.map (·.1)).findIdx? f=some i∧minL L=(i:Int)):=by
 constructor
 ·rintro rfl
  rw [List.findIdx?_eq_none_iff]
  intro x hx
  obtain ⟨z,hz,rfl⟩:=List.mem_map.mp hx
  obtain ⟨i,hi⟩:=List.mem_iff_getElem?.mp hz
  cases e:f z.1 with
  |false=>rfl
  |true=>exact absurd ((h i).mpr ⟨i,z,hi,e,rfl⟩) List.not_mem_nil
 ·intro hne
  have hm:=minL_mem hne
  obtain ⟨i,z,hi,hf,e⟩:=(h _).mp hm
  refine ⟨i,?_,e⟩
  obtain ⟨hlt,hz⟩:=List.getElem?_eq_some_iff.mp hi
  rw [List.findIdx?_eq_some_iff_getElem]
  refine ⟨by rw [List.length_map];exact hlt,by rw [List.getElem_map,hz];exact hf,fun j hj=>?_⟩
  have hj2:j<zs.length:=by omega
  rw [List.getElem_map]
  intro hfj
  have:=minL_le ((h (j:Int)).mpr ⟨j,zs[j],List.getElem?_eq_getElem hj2,hfj,rfl⟩)
  omega
theorem hit_iff {zs:List (Br.Shape×CL)} {sg ow cl:CL} {sh:Br.Shape} (I:Inv zs sg ow) (hs:SRep sh cl) (k:Int):k∈hitC ow cl↔∃ (i:Nat) (z:Br.Shape×CL),zs[i]?=some z∧Br.clash z.1 sh=true∧k=(i:Int):=by
 unfold hitC
 rw [List.mem_filterMap]
 constructor
 ·rintro ⟨⟨q,u⟩,hc,e⟩
  obtain ⟨i,z,v,hi,hv,rfl⟩:=(I.owO _ _).mp e
  exact ⟨i,z,hi,(clash_iff (I.rep z (List.mem_of_getElem? hi)) hs).mpr ⟨q,v,u,hv,hc⟩,rfl⟩
 ·rintro ⟨i,z,hi,hcl,rfl⟩
  obtain ⟨q,v,u,hv,hu⟩:=(clash_iff (I.rep z (List.mem_of_getElem? hi)) hs).mp hcl
  exact ⟨(q,u),hu,(I.owO _ _).mpr ⟨i,z,v,hi,hv,rfl⟩⟩
theorem up_dn (q:Pl):upP (dnP q)=q:=by
 unfold upP dnP
 refine Prod.ext rfl (Prod.ext rfl ?_)
 show q.2.2 - 1+1=q.2.2
 omega
theorem dn_up (q:Pl):dnP (upP q)=q:=by
 unfold upP dnP
 refine Prod.ext rfl (Prod.ext rfl ?_)
 show q.2.2+1 - 1=q.2.2
 omega
theorem blk1_mem {sg ow:CL} {c:Pl×Int} {k:Int}:k∈blk1 sg ow c↔studI c.2=true∧(∃ s,getC sg (upP c.1)=some s∧tubeI s=false)∧getC ow (upP c.1)=some k:=by
 unfold blk1
 cases e:getC sg (upP c.1) with
 |none=>simp
 |some s=>
  simp only [Option.some.injEq,exists_eq_left']
  split
  ·rename_i h
   rw [Option.mem_toList]
   exact ⟨fun z=>⟨h.1,h.2,z⟩,fun z=>z.2.2⟩
  ·rename_i h
   exact ⟨fun z=>absurd z List.not_mem_nil,fun z=>absurd ⟨z.1,z.2.1⟩ h⟩
theorem blk2_mem {sg ow:CL} {c:Pl×Int} {k:Int}:k∈blk2 sg ow c↔tubeI c.2=false∧(∃ s,getC sg (dnP c.1)=some s∧studI s=true)∧getC ow (dnP c.1)=some k:=by
 unfold blk2
 cases e:getC sg (dnP c.1) with
 |none=>simp
 |some s=>
  simp only [Option.some.injEq,exists_eq_left']
  split
  ·rename_i h
   rw [Option.mem_toList]
   exact ⟨fun z=>⟨h.1,h.2,z⟩,fun z=>z.2.2⟩
  ·rename_i h
   exact ⟨fun z=>absurd z List.not_mem_nil,fun z=>absurd ⟨z.1,z.2.1⟩ h⟩
theorem blk_iff {zs:List (Br.Shape×CL)} {sg ow cl:CL} {sh:Br.Shape} (I:Inv zs sg ow) (hs:SRep sh cl) (k:Int):k∈blockC cl sg ow↔∃ (i:Nat) (z:Br.Shape×CL),zs[i]?=some z∧(Br.stuck z.1 sh||Br.stuck sh z.1)=true∧k=(i:Int):=by
 unfold blockC
 rw [List.mem_flatMap]
 have one:∀ {q:Pl} {i:Nat} {z:Br.Shape×CL} {v s k:Int},zs[i]?=some z→(q,v)∈z.2→getC sg q=some s→s=v:=by
  intro q i z v s k hi hv e
  have:=(I.sgO q v).mpr ⟨i,z,hi,hv⟩
  rw [e] at this
  exact Option.some.inj this
 constructor
 ·rintro ⟨⟨q,u⟩,hc,hk⟩
  rcases List.mem_append.mp hk with hk|hk
  ·obtain ⟨h1,⟨s,e,h2⟩,h3⟩:=blk1_mem.mp hk
   obtain ⟨i,z,v,hi,hv,rfl⟩:=(I.owO _ _).mp h3
   have:=one (k:=0) hi hv e
   subst this
   refine ⟨i,z,hi,?_,rfl⟩
   rw [Bool.or_eq_true]
   exact .inr ((stuck_iff hs (I.rep z (List.mem_of_getElem? hi))).mpr ⟨q,u,s,hc,h1,hv,h2⟩)
  ·obtain ⟨h1,⟨s,e,h2⟩,h3⟩:=blk2_mem.mp hk
   obtain ⟨i,z,v,hi,hv,rfl⟩:=(I.owO _ _).mp h3
   have:=one (k:=0) hi hv e
   subst this
   refine ⟨i,z,hi,?_,rfl⟩
   rw [Bool.or_eq_true]
   exact .inl ((stuck_iff (I.rep z (List.mem_of_getElem? hi)) hs).mpr ⟨dnP q,s,u,hv,h2,by rw [up_dn];exact hc,h1⟩)
 ·rintro ⟨i,z,hi,hst,rfl⟩
  have hz:=I.rep z (List.mem_of_getElem? hi)
  rw [Bool.or_eq_true] at hst
  rcases hst with hst|hst
  ·obtain ⟨q,v,u,hv,h1,hu,h2⟩:=(stuck_iff hz hs).mp hst
   refine ⟨(upP q,u),hu,List.mem_append_right _ (blk2_mem.mpr ⟨h2,⟨v,?_,h1⟩,?_⟩)⟩
   ·rw [dn_up];exact (I.sgO _ _).mpr ⟨i,z,hi,hv⟩
   ·rw [dn_up];exact (I.owO _ _).mpr ⟨i,z,v,hi,hv,rfl⟩
  ·obtain ⟨q,v,u,hv,h1,hu,h2⟩:=(stuck_iff hs hz).mp hst
   refine ⟨(q,v),hv,List.mem_append_left _ (blk1_mem.mpr ⟨h1,⟨u,?_,h2⟩,?_⟩)⟩
   ·exact (I.sgO _ _).mpr ⟨i,z,hi,hu⟩
   ·exact (I.owO _ _).mpr ⟨i,z,u,hi,hu,rfl⟩
theorem getC_tag {cl:CL} {q:Pl} {k j:Int}:getC (cl.map fun c=>(c.1,j)) q=some k↔k=j∧∃ v,(q,v)∈cl:=by
 constructor
 ·intro h
  obtain ⟨c,hc,e⟩:=List.mem_map.mp (getC_in h)
  obtain ⟨e1,e2⟩:=Prod.mk.inj e
  exact ⟨e2.symm,c.2,by rw [←e1];exact hc⟩
 ·rintro ⟨rfl,v,hv⟩
  have hs:(getC (cl.map fun c=>(c.1,k)) q).isSome=true:=getC_some.mpr ⟨(q,k),List.mem_map.mpr ⟨_,hv,rfl⟩,rfl⟩
  obtain ⟨u,e⟩:=Option.isSome_iff_exists.mp hs
  obtain ⟨c,hc,e2⟩:=List.mem_map.mp (getC_in e)
  rw [e,←(Prod.mk.inj e2).2]
theorem Inv.next {zs:List (Br.Shape×CL)} {sg ow cl:CL} {sh:Br.Shape} (I:Inv zs sg ow) (hs:SRep sh cl) (h0:hitC ow cl=[]):Inv (zs++[(sh,cl)]) (sg++cl) (ow++cl.map fun c=>(c.1,(zs.length:Int))):=by
 have fr:∀ q v,(q,v)∈cl→getC ow q=none:=by
  intro q v hv
  cases e:getC ow q with
  |none=>rfl
  |some k=>
   have:k∈hitC ow cl:=List.mem_filterMap.mpr ⟨_,hv,e⟩
   rw [h0] at this
   cases this
 have fr2:∀ q v,(q,v)∈cl→getC sg q=none:=by
  intro q v hv
  cases e:getC sg q with
  |none=>rfl
  |some k=>
   obtain ⟨i,z,hi,hz⟩:=(I.sgO _ _).mp e
   have:=(I.owO q i).mpr ⟨i,z,k,hi,hz,rfl⟩
   rw [fr q v hv] at this
   cases this
 have ix:∀ (i:Nat) (z:Br.Shape×CL),(zs++[(sh,cl)])[i]?=some z↔zs[i]?=some z∨(i=zs.length∧z=(sh,cl)):=by
  intro i z
  by_cases hi:i<zs.length
  ·rw [List.getElem?_append_left hi]
   exact ⟨fun h=>.inl h,fun h=>h.elim id fun h=>by omega⟩
  ·rw [List.getElem?_append_right (by omega)]
   constructor
   ·intro h
    have hl:=(List.getElem?_eq_some_iff.mp h).1
    rw [List.length_singleton] at hl
    have:i=zs.length:=by omega
    subst this
    rw [Nat.sub_self] at h
    exact .inr ⟨rfl,(Option.some.inj h).symm⟩
   ·rintro (h|⟨rfl,rfl⟩)
    ·exact absurd (List.getElem?_eq_some_iff.mp h).1 hi
    ·rw [Nat.sub_self];rfl
 refine ⟨fun z hz=>?_,fun q v=>?_,fun q k=>?_⟩
 ·rcases List.mem_append.mp hz with hz|hz
  ·exact I.rep z hz
  ·rw [List.mem_singleton] at hz;subst hz;exact hs
 ·rw [getC_app]
  constructor
  ·intro h
   cases e:getC sg q with
   |some u=>
    rw [e] at h
    have:u=v:=Option.some.inj h
    subst this
    obtain ⟨i,z,hi,hz⟩:=(I.sgO _ _).mp e
    exact ⟨i,z,(ix _ _).mpr (.inl hi),hz⟩
   |none=>
    rw [e] at h
    exact ⟨_,_,(ix _ _).mpr (.inr ⟨rfl,rfl⟩),getC_in h⟩
  ·rintro ⟨i,z,hi,hz⟩
   rcases (ix _ _).mp hi with hi|⟨rfl,rfl⟩
   ·rw [(I.sgO q v).mpr ⟨i,z,hi,hz⟩];rfl
   ·rw [fr2 q v hz,(getC_nd hs.nd).mpr hz];rfl
 ·rw [getC_app]
  constructor
  ·intro h
   cases e:getC ow q with
   |some u=>
    rw [e] at h
    have:u=k:=Option.some.inj h
    subst this
    obtain ⟨i,z,v,hi,hz,e2⟩:=(I.owO _ _).mp e
    exact ⟨i,z,v,(ix _ _).mpr (.inl hi),hz,e2⟩
   |none=>
    rw [e] at h
    obtain ⟨rfl,v,hv⟩:=getC_tag.mp h
    exact ⟨_,_,v,(ix _ _).mpr (.inr ⟨rfl,rfl⟩),hv,rfl⟩
  ·rintro ⟨i,z,v,hi,hz,rfl⟩
   rcases (ix _ _).mp hi with hi|⟨rfl,rfl⟩
   ·rw [(I.owO q i).mpr ⟨i,z,v,hi,hz,rfl⟩];rfl
   ·rw [fr q v hz,getC_tag.mpr ⟨rfl,v,hz⟩];rfl
def wrI (w:Option (Nat×Nat×Nat)):List Int:=w.elim [] fun w=>[(w.1:Int),(w.2.1:Int),(w.2.2:Int)]
theorem line_rep {prs:List PartR} (ok:∀ pr∈prs,PrOk pr) {x:List Nat} (hx:lnN x 0<prs.length):SRep (Br.Line.shape (prs.map toP) (toL x)) (cellsAt prs x)∧(Br.Line.shape (prs.map toP) (toL x)).inRoom= !leavesC (tpAt prs x) (lnN x 2) (lnN x 3) (lnN x 4):=by
 have e1:prs[lnN x 0]?=some prs[lnN x 0]:=List.getElem?_eq_getElem hx
 have e2:Br.Line.of (prs.map toP) (toL x)=(toP prs[lnN x 0]).turned (lnN x 5):=by
  unfold Br.Line.of
  show ((prs.map toP).getD (lnN x 0) Br.nothing).turned (lnN x 5)=_
  rw [List.getD_eq_getElem?_getD,List.getElem?_map,e1]
  rfl
 have r0:=rep_turns (rep0 (ok _ (List.getElem_mem hx))) (lnN x 5)
 have et:tpAt prs x=turnsN (tpOf prs[lnN x 0]) (lnN x 5):=by
  unfold tpAt
  rw [e1]
  rfl
 constructor
 ·unfold Br.Line.shape cellsAt
  rw [e2,et]
  exact srep_of r0 (lnN x 2) (lnN x 3) (lnN x 4) _ _ fun s=>rfl
 ·unfold Br.Line.shape
  rw [e2,et]
  unfold leavesC
  rw [r0.w,r0.d,r0.h]
  show (decide (lnN x 2+((toP prs[lnN x 0]).turned (lnN x 5)).wide≤64) && (decide (lnN x 3+((toP prs[lnN x 0]).turned (lnN x 5)).deep≤64) && decide (lnN x 4+((toP prs[lnN x 0]).turned (lnN x 5)).high≤96)))=_
  rw [Bool.eq_iff_iff]
  simp only [Bool.and_eq_true,decide_eq_true_iff,Bool.not_eq_true',Bool.or_eq_false_iff,decide_eq_false_iff_not]
  omega
theorem first_math {prs:List PartR} (ok:∀ pr∈prs,PrOk pr):∀ {ls:List (List Nat)} {zs:List (Br.Shape×CL)} {sg ow:CL},(∀ x∈ls,lnN x 0<prs.length)→Inv zs sg ow→
  firstC prs zs.length sg ow ls=wrI (Br.wrongLines zs.length (zs.map (·.1)) (ls.map fun x=>Br.Line.shape (prs.map toP) (toL x)))
 |[],zs,sg,ow,_,_=>rfl
 |x::r,zs,sg,ow,hx,I=>by
  obtain ⟨sr,hroom⟩:=line_rep ok (hx x List.mem_cons_self)
  rw [firstC,List.map_cons,Br.wrongLines]
  generalize Br.Line.shape (prs.map toP) (toL x)=sh at sr hroom
  have im:=idx_min (f:=fun i=>Br.clash i sh) (fun k=>hit_iff I sr k)
  have ib:=idx_min (f:=fun i=>Br.stuck i sh||Br.stuck sh i) (fun k=>blk_iff I sr k)
  cases hl:leavesC (tpAt prs x) (lnN x 2) (lnN x 3) (lnN x 4) with
  |true=>
   rw [hl] at hroom
   rw [if_pos rfl]
   have:Br.wrongLine (zs.map (·.1)) zs.length sh=some (1,zs.length):=by
    unfold Br.wrongLine
    rw [if_pos (show sh.inRoom=false from hroom)]
   rw [this]
   rfl
  |false=>
   rw [hl] at hroom
   rw [if_neg (by decide)]
   have hroom:¬sh.inRoom=false:=by rw [hroom];decide
   by_cases h1:hitC ow (cellsAt prs x)=[]
   ·rw [if_neg (by rw [h1];decide)]
    have f1:=im.1 h1
    by_cases h2:blockC (cellsAt prs x) sg ow=[]
    ·rw [if_neg (by rw [h2];decide)]
     have f2:=ib.1 h2
     have hw:Br.wrongLine (zs.map (·.1)) zs.length sh=none:=by
      unfold Br.wrongLine
      rw [if_neg hroom,f1]
      show (match List.findIdx? _ _ with|some i=>some (3,i)|none=>none)=none
      rw [f2]
     rw [hw]
     have ih:=first_math ok (ls:=r) (zs:=zs++[(sh,cellsAt prs x)]) (fun y hy=>hx y (List.mem_cons_of_mem _ hy)) (I.next sr h1)
     rw [List.length_append,List.length_singleton,List.map_append] at ih
     exact ih
    ·rw [if_pos (List.length_pos_iff.mpr h2)]
     obtain ⟨i,f2,e⟩:=ib.2 h2
     have hw:Br.wrongLine (zs.map (·.1)) zs.length sh=some (3,i):=by
      unfold Br.wrongLine
      rw [if_neg hroom,f1]
      show (match List.findIdx? _ _ with|some i=>some (3,i)|none=>none)=some (3,i)
      rw [f2]
     rw [hw,e]
     rfl
   ·rw [if_pos (List.length_pos_iff.mpr h1)]
    obtain ⟨i,f1,e⟩:=im.2 h1
    have hw:Br.wrongLine (zs.map (·.1)) zs.length sh=some (2,i):=by
     unfold Br.wrongLine
     rw [if_neg hroom,f1]
    rw [hw,e]
    rfl
theorem first_wrong_math {prs:List PartR} (ok:∀ pr∈prs,PrOk pr) {ls:List (List Nat)} (hx:∀ x∈ls,lnN x 0<prs.length) {d:Br.Build} (hd:d.lines=ls.map toL):firstC prs 0 [] [] ls=wrI (d.wrong (prs.map toP)):=by
 have I0:Inv [] [] []:=⟨fun z hz=>absurd hz List.not_mem_nil,fun q v=>(by simp [getC]),fun q k=>(by simp [getC])⟩
 have:=first_math ok (ls:=ls) hx I0
 unfold Br.Build.wrong Br.Build.shapes
 rw [hd,List.map_map]
 exact this
end Br1
set_option Elab.async false
set_option linter.all false
set_option maxRecDepth 100000
set_option maxHeartbeats 1000000
namespace Br1
def LnOk (n:Nat) (x:List Nat):Prop:=x.length=6∧lnN x 0<n
theorem line_six {nss:List (List Int)} {l:List Int} {p:Nat} {q:List Nat×Nat} (h:lineRun nss l p=.ok q):LnOk nss.length q.1:=by
 unfold lineRun at h
 obtain ⟨p1,_,h⟩:=bnd_inv h
 obtain ⟨n,en,h⟩:=bnd_inv h
 obtain ⟨r,er,h⟩:=bnd_inv h
 obtain ⟨_,_,h⟩:=bnd_inv h
 cases h
 refine ⟨?_,?_⟩
 ·rw [List.length_cons,nums_len (r:=r) er]
  rfl
 ·show n.1<nss.length
  unfold partNo at en
  split at en
  ·rename_i hm
   cases en
   exact List.findIdx_lt_length_of_exists ⟨_,hm,by simp⟩
  ·cases en
theorem lines_six {nss:List (List Int)} {l:List Int}:∀ {n p:Nat} {q:List (List Nat)×Nat},linesRun nss l n p=.ok q→∀ x∈q.1,LnOk nss.length x
 |0,p,q,h=>by cases h;intro x hx;cases hx
 |n+1,p,q,h=>by
  rw [linesRun] at h
  split at h
  ·cases h;intro x hx;cases hx
  ·obtain ⟨q1,e1,h⟩:=bnd_inv h
   obtain ⟨q2,e2,rfl⟩:=consR_inv h
   intro x hx
   rcases List.mem_cons.mp hx with rfl|hx
   ·exact line_six e1
   ·exact lines_six e2 x hx
theorem build_six {nss:List (List Int)} {l:List Int} {b:List Int×List (List Nat)} (h:buildRun nss l=.ok b):∀ x∈b.2,LnOk nss.length x:=by
 unfold buildRun at h
 obtain ⟨_,_,h⟩:=bnd_inv h
 obtain ⟨_,_,h⟩:=bnd_inv h
 obtain ⟨_,_,h⟩:=bnd_inv h
 obtain ⟨r,er,h⟩:=bnd_inv h
 split at h
 ·cases h;exact lines_six er
 ·cases h
theorem giv_six {lc lb:List Int} {prs:List PartR} {nm:List Int} {ls:List (List Nat)} (h:givRun lc lb=.ok prs nm ls):∀ x∈ls,LnOk prs.length x:=by
 unfold givRun at h
 split at h
 ·cases h
 ·split at h
  ·cases h
  ·split at h
   ·split at h
    ·cases h
    ·rename_i e
     cases h
     have:=build_six e
     rw [List.length_map] at this
     exact this
   ·cases h
def checkR (lc lb:List Int):List Int:=match givRun lc lb with
 |.no n=>[n]
 |.bad _=>[-5]
 |.ok prs _ ls=>if 0<(firstC prs 0 [] [] ls).length then -9::firstC prs 0 [] [] ls else [0]
theorem check_math {lc lb:List Int} (hc:Byt lc) (hb:Byt lb):PyWqasbx.check lc lb=checkR lc lb:=by
 have h:=giv_spec hc hb
 have h6:= @giv_six lc lb
 show BuildsNeutral.shown (BrB.answer (.check (txt lc) (txt lb)))=_
 unfold checkR BrB.answer BrB.ofBuild BrB.ofCatalogue
 generalize givRun lc lb=g at h h6
 cases g with
 |no n=>
  rcases h with ⟨rfl,h⟩|⟨rfl,h,e,h2⟩|⟨rfl,h,k,h2,h3⟩
  ·simp only [if_pos h];rfl
  ·simp only [if_neg h,h2];rfl
  ·simp only [if_neg h,h2,if_pos h3];rfl
 |bad i=>
  obtain ⟨h,k,h2,h3,h4⟩:=h
  simp only [if_neg h,h2,if_neg h3,h4];rfl
 |ok prs nm ls=>
  obtain ⟨h,ok,h2,h3,d,h4,h5,_⟩:=h
  simp only [if_neg h,h2,if_neg h3,h4]
  rw [first_wrong_math ok (fun x hx=>(h6 rfl x hx).2) h5]
  cases d.wrong (prs.map toP)<;>rfl
end Br1
set_option Elab.async false
set_option linter.all false
set_option maxRecDepth 100000
set_option maxHeartbeats 4000000
namespace Br1
open PySem PySem.Spec PyProof.Rows L2
def mapC (f:Pl→Pl) (cs:CL):CL:=cs.map fun c=>(f c.1,c.2)
theorem take_fresh {cs:CL} {i:Nat} {p:Pl} {s:Int} (nd:(cs.map (·.1)).Nodup) (e:cs[i]?=some (p,s)):∀ c∈cs.take i,c.1≠p:=by
 obtain ⟨hi,e⟩:=List.getElem?_eq_some_iff.mp e
 have hd:cs.drop i=(p,s)::cs.drop (i+1):=by rw [List.drop_eq_getElem_cons hi,e]
 have h2:=nd
 rw [←List.take_append_drop i cs,hd,List.map_append,List.nodup_append] at h2
 intro c hc
 exact h2.2.2 c.1 (List.mem_map_of_mem hc) p (by simp)
theorem kvs_snoc (cl:CL) (q:Pl) (v:Int):kvs cl++[(key3 q.1 q.2.1 q.2.2,V.int v)]=kvs (cl++[(q,v)]):=by
 unfold kvs
 rw [List.map_append]
 rfl
theorem put_new {cl:CL} {q:Pl} {v:Int} (h:getC cl q=none):putK (kvs cl) (key3 q.1 q.2.1 q.2.2) (V.int v)=kvs (cl++[(q,v)]):=by
 rw [putK_new _ (by rw [valV_kvs,h];rfl),kvs_snoc]
theorem getC_none {cl:CL} {q:Pl} (h:∀ c∈cl,c.1≠q):getC cl q=none:=by
 cases e:getC cl q with
 |none=>rfl
 |some v=>
  obtain ⟨c,hc,e2⟩:=getC_some.mp (by rw [e];rfl:(getC cl q).isSome=true)
  exact absurd e2 (h c hc)
theorem put_map {f:Pl→Pl} (inj:∀ a b,f a=f b→a=b) {cs:CL} {i:Nat} {p:Pl} {s:Int} (nd:(cs.map (·.1)).Nodup) (e:cs[i]?=some (p,s)):putK (kvs (mapC f (cs.take i))) (key3 (f p).1 (f p).2.1 (f p).2.2) (V.int s)=kvs (mapC f (cs.take (i+1))):=by
 rw [put_new]
 ·rw [List.take_succ,e]
  unfold mapC
  rw [List.map_append]
  rfl
 ·refine getC_none fun c hc z=>?_
  obtain ⟨c0,h0,rfl⟩:=List.mem_map.mp hc
  exact take_fresh nd e c0 h0 (inj _ _ z)
theorem turn_inj (W:Int) (a b:Pl) (e:turnPl W a=turnPl W b):a=b:=by
 obtain ⟨x,y,z⟩:=a
 obtain ⟨u,v,w⟩:=b
 unfold turnPl at e
 simp only [Prod.mk.injEq] at e ⊢
 omega
theorem putPl_inj (x y z:Int) (p q:Pl) (e:putPl x y z p=putPl x y z q):p=q:=by
 obtain ⟨a,b,c⟩:=p
 obtain ⟨u,v,w⟩:=q
 unfold putPl at e
 simp only [Prod.mk.injEq] at e ⊢
 omega
theorem mapC_nd {f:Pl→Pl} (inj:∀ a b,f a=f b→a=b) {cs:CL} (nd:(cs.map (·.1)).Nodup):((mapC f cs).map (·.1)).Nodup:=by
 unfold mapC
 rw [List.map_map]
 have:(cs.map ((·.1)∘fun c:Pl×Int=>(f c.1,c.2)))=(cs.map (·.1)).map f:=by rw [List.map_map];rfl
 rw [this]
 exact List.Pairwise.map _ (fun a b h z=>h (inj a b z)) nd
theorem mapC_len (f:Pl→Pl) (cs:CL):(mapC f cs).length=cs.length:=List.length_map _
theorem kvs_len (cs:CL):(kvs cs).length=cs.length:=by unfold kvs;rw [List.length_map]
structure TpOk (t:TP):Prop where
 nd:(t.cs.map (·.1)).Nodup
 ln:t.cs.length<20000
theorem TpOk.once {t:TP} (h:TpOk t):TpOk (onceT t):=⟨mapC_nd (turn_inj t.W) h.nd,by show (turnC t.W t.cs).length<20000;unfold turnC;rw [List.length_map];exact h.ln⟩
theorem TpOk.turns {t:TP} (h:TpOk t):∀ n,TpOk (turnsN t n)
 |0=>h
 |n+1=>(TpOk.turns h n).once
theorem six {x:List Nat} (h:x.length=6):∃ a b c d e f,x=[a,b,c,d,e,f]:=by
 match x,h with
 |[a,b,c,d,e,f],_=>exact ⟨a,b,c,d,e,f,rfl⟩
theorem lock_sx {H H':Hp} {c d:Addr} {u:HO} {od:Obj} (h:H c=some u) (hd:H d=none) {o:HO} (s:SX d (upd (upd H d o) c (.frz od u)) H'):Same H (upd H' c u):=fun b ob e=>by
 have nb:=ne_of_none e hd
 by_cases hb:b=c
 ·rw [hb] at e ⊢
  rw [upd_same,←e,h]
 ·rw [upd_ne hb]
  exact s b ob (by rw [upd_ne hb,upd_ne nb];exact e) nb
section
variable {P:Program} {w:World} {K:PySem.W.Frag} {mg:Str→Option Value} {base:Heap} {C CR CP CG:Addr}
def TpAt (CP:Addr) (H:Hp) (b nm:Addr) (g:Int) (t:TP):Prop:=PtAt CP H b nm t.W t.D t.Hh g t.cs
def spOnce (CP:Addr):Sp:=fun vs H Q _=>∃ (b nm:Addr) (g:Int) (t:TP),vs=[.ref b]∧TpAt CP H b nm g t∧TpOk t∧∀ (H':Hp) (b':Addr),Same H H'→TpAt CP H' b' nm g (onceT t)→Q (.ref b') H'
theorem sc_once:FnScope ["part","cells","place","sign"] ["part"] (defScope sOnce):=⟨rfl,rfl,rfl,by decide+kernel,rfl,by decide+kernel,by decide+kernel⟩
theorem ok_once {f:Addr} {fd:FuncData} (F:Fun K "turned_once" "turned_once" sOnce f fd) (T':PtT K CP) (PM:PtM P w K mg base CP):FnOk P w K mg base CX0 3 f fd ["part"] (spOnce CP):=by
 obtain ⟨fp,fdp,MP,GP,bP⟩:=PM.ex
 refine F.ok sc_once (fun vs H Q E h=>?_) (fun cdv A outer s H vs Q E hr h=>?_)
 ·obtain ⟨b,nm,g,t,rfl,_⟩:=h
  rfl
 ·obtain ⟨b,nm,g,⟨W,D,Hh,cs⟩,rfl,⟨dx,c,hb,hc⟩,⟨nd,ln⟩,k⟩:=h
  have hb:H b=some (.ins CP dx (PtF nm W D Hh g c)):=hb
  have hc:H c=some (.dT (kvs cs)):=hc
  have ln:cs.length<20000:=ln
  have hr2:=hr.mono (j:=2) (by decide)
  have hu:=hu_of hr
  refine ⟨_,pss_cons (ps_set (i:=1) sc_once.nd rfl (Or.inl rfl) pe_dnewT)
   (pss_cons (ps_lock (ps_for PassesOwn.never rfl (pi_itemsT (pe_fld (pv 0) rfl)) (pg_tup rfl (pgs_cons (pg_name (i:=2) sc_once.nd rfl (Or.inl rfl)) (pgs_cons (pg_name (i:=3) sc_once.nd rfl (Or.inl rfl)) pgs_nil)))
    (pss_one (ps_dput hu (pv 1) (pe_tup (pa_cons (pe_ix ix_tup (pv 2) pe_int (fun _ _=>rfl)) (pa_cons (pe_op op_sub (pe_op op_sub (pe_fld (pv 0) rfl) pe_int) (pe_ix ix_tup (pv 2) pe_int (fun _ _=>rfl))) (pa_cons (pe_ix ix_tup (pv 2) pe_int (fun _ _=>rfl)) pa_nil)))) (pv 3) rfl))))
   (pss_one (ps_ret (pe_make MP GP hr2 (by rfl) PM.mg bP .nil pass0 (pa_cons (pe_fld (pv 0) rfl) (pa_cons (pe_fld (pv 0) rfl) (pa_cons (pe_fld (pv 0) rfl) (pa_cons (pe_fld (pv 0) rfl) (pa_cons (pe_fld (pv 0) rfl) (pa_cons (pv 1) pa_nil)))))))))),?_⟩
  intro d hd
  have S0:Same H (upd H d (.dT [])):=Same.new hd
  have nbd:b≠d:=ne_of_none hb hd
  have ncd:c≠d:=ne_of_none hc hd
  have nbc:b≠c:=fun z=>by rw [z,hc] at hb;cases hb
  have hsl:=sizeLine_big
  refine ⟨c,_,S0 _ _ hc,trivial,fun od=>?_⟩
  have hcL:upd (upd H d (.dT [])) c (.frz od (.dT (kvs cs))) c=some (.frz od (.dT (kvs cs))):=upd_same
  have hbL:upd (upd H d (.dT [])) c (.frz od (.dT (kvs cs))) b=some (.ins CP dx (PtF nm W D Hh g c)):=by rw [upd_ne nbc];exact S0 _ _ hb
  have hdL:upd (upd H d (.dT [])) c (.frz od (.dT (kvs cs))) d=some (.dT []):=by rw [upd_ne (Ne.symm ncd),upd_same]
  refine ⟨_,rfl,b,CP,dx,_,_,rfl,hbL,T'.cl,T'.n6,rfl,c,od,_,rfl,hcL,?_⟩
  refine for_items (fun i σ H'=>∃ v2 v3,σ=[some (.ref b),some (.ref d),v2,v3]∧SX d (upd (upd H d (.dT [])) c (.frz od (.dT (kvs cs)))) H'∧H' d=some (.dT (kvs (mapC (turnPl W) (cs.take i))))) ⟨none,none,rfl,SX.refl _ _,hdL⟩ ?_ ?_ ?_
  ·rintro i σ H1 hi ⟨v2,v3,rfl,S1,_⟩
   exact S1 _ _ hcL ncd
  ·rintro i σ H1 T k v q e ⟨v2,v3,rfl,S1,hd1⟩ hT hq
   obtain ⟨p,sg,e1,rfl,rfl⟩:=kvs_get e
   have ST:=Same.new (o:=.tup [.ref q,.int sg]) hT
   refine ⟨T,_,rfl,SqT.of upd_same,rfl,_,_,rfl,_,_,rfl,rfl,?_⟩
   have hq2:=ST _ _ hq
   have hb2:=ST _ _ (S1 _ _ hbL nbd)
   have hd2:=ST _ _ hd1
   generalize upd H1 T (.tup [.ref q,.int sg])=H2 at ST hq2 hb2 hd2
   refine ⟨_,rfl,_,rfl,_,rfl,q,_,_,_,rfl,rfl,SqT.of hq2,rfl,_,rfl,b,CP,dx,_,_,rfl,hb2,T'.cl,T'.n2,rfl,_,_,rfl,rfl,_,rfl,q,_,_,_,rfl,rfl,SqT.of hq2,rfl,_,_,rfl,rfl,_,rfl,q,_,_,_,rfl,rfl,SqT.of hq2,rfl,(by show 3≤sizeLine;decide),fun t ht=>?_⟩
   have SQ:=Same.new (o:=.tup [.int p.2.1,.int (W - 1 - p.1),.int p.2.2]) ht
   have hi:i<cs.length:=(List.getElem?_eq_some_iff.mp e1).1
   refine ⟨d,_,rfl,DPut.t (k:=key3 p.2.1 (W - 1 - p.1) p.2.2) (SQ _ _ hd2) upd_same (by rw [kvs_len,mapC_len,List.length_take];omega),?_⟩
   refine ⟨_,_,rfl,fun b' o e' n'=>?_,?_⟩
   ·rw [upd_ne n']
    exact SQ _ _ (ST _ _ (S1 _ _ e' n'))
   ·rw [upd_same]
    exact congrArg (fun z=>some (HO.dT z)) (put_map (turn_inj W) nd e1)
  ·rintro σ H1 ⟨v2,v3,rfl,S1,hd1⟩
   rw [kvs_len,List.take_length] at hd1
   refine ⟨S1 _ _ hcL ncd,?_⟩
   have S2:=lock_sx hc hd S1
   have hd2:upd H1 c (.dT (kvs cs)) d=some (.dT (kvs (mapC (turnPl W) cs))):=by rw [upd_ne (Ne.symm ncd)];exact hd1
   generalize upd H1 c (.dT (kvs cs))=H2 at S2 hd2
   have hb2:=S2 _ _ hb
   refine ⟨_,rfl,b,CP,dx,_,_,rfl,hb2,T'.cl,T'.n1,rfl,_,rfl,b,CP,dx,_,_,rfl,hb2,T'.cl,T'.n3,rfl,_,rfl,b,CP,dx,_,_,rfl,hb2,T'.cl,T'.n2,rfl,_,rfl,b,CP,dx,_,_,rfl,hb2,T'.cl,T'.n4,rfl,_,rfl,b,CP,dx,_,_,rfl,hb2,T'.cl,T'.n5,rfl,_,rfl,?_⟩
   intro b' db hb' hdb hne
   refine ⟨b',db,nm,d,D,W,Hh,g,rfl,upd_same,fun H3 hpt s3=>⟨rfl,?_⟩⟩
   have up2:∀ y o,H2 y=some o→H3 y=some o:=fun y o e=>s3 y o (by rw [upd_ne (ne_of_none e hb'),upd_ne (ne_of_none e hdb)];exact e) (ne_of_none e hb')
   exact k H3 b' (fun y o e=>up2 y o (S2 y o e)) ⟨db,d,hpt,up2 _ _ hd2⟩
def spTurned (CP:Addr):Sp:=fun vs H Q _=>∃ (b nm:Addr) (g:Int) (t:TP) (n:Nat),vs=[.ref b,.int (n:Int)]∧n≤100∧TpAt CP H b nm g t∧TpOk t∧∀ (H':Hp) (b':Addr),Same H H'→TpAt CP H' b' nm g (turnsN t n)→Q (.ref b') H'
theorem sc_turned:FnScope ["part","turns","turn"] ["part","turns"] (defScope sTurned):=⟨rfl,rfl,rfl,by decide+kernel,rfl,by decide+kernel,by decide+kernel⟩
theorem ok_turned {f:Addr} {fd:FuncData} (F:Fun K "turned_part" "turned_part" sTurned f fd) (hrange:mg "range"=none) (L1:Fn0 P w K mg base "turned_once" CX0 3 ["part"] (spOnce CP)):FnOk P w K mg base CX0 4 f fd ["part","turns"] (spTurned CP):=by
 obtain ⟨g1,gd1,G1,b1,k1,h1⟩:=L1.ex
 refine F.ok sc_turned (fun vs H Q E h=>?_) (fun cdv A outer s H vs Q E hr h=>?_)
 ·obtain ⟨b,nm,g,t,n,rfl,_⟩:=h
  rfl
 ·obtain ⟨b,nm,g,t,n,rfl,hn,ht,tok,k⟩:=h
  refine ⟨_,pss_cons (ps_for PassesOwn.never rfl (pi_range1 rfl hrange (pa_cons (pv 1) pa_nil)) (pg_name (i:=2) sc_turned.nd rfl (Or.inl rfl))
    (pss_one (ps_set (i:=0) sc_turned.nd rfl (Or.inl rfl) (pe_call G1 hr (by rfl) h1 k1 b1 .nil pass0 (pa_cons (pv 0) pa_nil)))))
   (pss_one (ps_ret (pv 0))),?_⟩
  refine ⟨_,rfl,_,rfl,by omega,by omega,for_range0 (n:=n) (fun i σ H'=>∃ b' v2,σ=[some (.ref b'),some (.int (n:Int)),v2]∧Same H H'∧TpAt CP H' b' nm g (turnsN t i)) ⟨b,none,rfl,Same.id' _,ht⟩ ?_ ?_⟩
  ·rintro i σ H1 hi ⟨b',v2,rfl,S1,h1⟩
   exact ⟨_,rfl,b',nm,g,turnsN t i,rfl,h1,tok.turns i,fun H2 b2 S2 h2=>⟨b2,_,rfl,S1.trans S2,h2⟩⟩
  ·rintro σ H1 ⟨b',v2,rfl,S1,h1⟩
   exact ⟨_,rfl,k H1 b' S1 h1⟩
end
end Br1
set_option Elab.async false
set_option linter.all false
set_option maxRecDepth 100000
set_option maxHeartbeats 4000000
namespace L2
open PySem PySem.Spec PyProof.Rows
def unlD (D:Ends) (d:Addr) (o:Obj) (u:HO):Ends:=⟨fun σ' H'=>H' d=some (.frz o u)∧D.nx σ' (upd H' d u),fun v H'=>H' d=some (.frz o u)∧D.rt v (upd H' d u),fun σ' H'=>H' d=some (.frz o u)∧D.bk σ' (upd H' d u),fun σ' H'=>H' d=some (.frz o u)∧D.ct σ' (upd H' d u)⟩
def tForL (td:TE) (g:TG) (tb:TS):TS:=fun D σ H=>td σ H fun x H1=>∃ d kvs,x=.ref d∧H1 d=some (.dT kvs)∧∀ o,∃ W:Nat→Nat→St→Hp→Prop,(∃ m,W 0 m σ (upd H1 d (.frz o (.dT kvs))))∧∀ i m σ H,W i m σ H→
 ((ItT d o kvs).stop i H∧(unlD D d o (.dT kvs)).nx σ H)∨((ItT d o kvs).go i H∧∃ N:St→Hp→Prop,(∀ σ' H',N σ' H'→∃ m',m'<m∧W (i+1) m' σ' H')∧∀ x H',(ItT d o kvs).yld i H x H'→g x σ H' fun σ2 H2=>tb {unlD D d o (.dT kvs) with nx:=N,ct:=N,bk:=(unlD D d o (.dT kvs)).nx} σ2 H2)
def forR (X:Cx) (D:Ends) (σ:St) (g:TG) (tb:TS):It→Hp→Prop:=fun J H'=>∃ d kvs o,J=ItT d o kvs∧(∀ o' u',X.H_0 d≠some (.frz o' u'))∧
   ∃ W:Nat→Nat→St→Hp→Prop,(∃ m,W 0 m σ H')∧∀ i m σ H,W i m σ H→((ItT d o kvs).stop i H∧(unlD D d o (.dT kvs)).nx σ H)∨((ItT d o kvs).go i H∧∃ N:St→Hp→Prop,(∀ σ' H',N σ' H'→∃ m',m'<m∧W (i+1) m' σ' H')∧∀ x H',(ItT d o kvs).yld i H x H'→g x σ H' fun σ2 H2=>tb {unlD D d o (.dT kvs) with nx:=N,ct:=N,bk:=(unlD D d o (.dT kvs)).nx} σ2 H2)
theorem ps_forL {X:Cx} {e:Expr} {td:TE} {apos cpos:Pos} {elts:List Expr} {kk:Nat} {tpos pos:Pos} {body:List Stmt} {g:TG} {tb:TS} (hp:PassesOwn (model X.prog X.w) X.A X.env X.xe) (hc:X.calm=true) (he:PE X e td) (hg:PG X (.Tuple elts kk tpos) g) (hb:PSs X body tb)
  (hbase:attributeBase e "items" X.env (eval e X.env)=eval e X.env:=by rfl) (hline:(apos.endLine==cpos.line)=true:=by rfl) (hs:∀ x,foldedSetIterable (.Call (.Attribute e "items" apos) [] [] cpos) X.env x=pure x:=by intro _;rfl):
  PS X (.For (.Tuple elts kk tpos) (.Call (.Attribute e "items" apos) [] [] cpos) body [] pos) (tForL td g tb):=by
 intro pins s σ H D I h
 have hi:wpAny (model X.prog X.w) X.A (eval (.Call (.Attribute e "items" apos) [] [] cpos) X.env) (fun v s1=>wpAny (model X.prog X.w) X.A (pyIter v) (PIE X pins σ (.Tuple elts kk tpos) (forR X D σ g tb)) X.xe s1) X.xe s:=by
  refine wpAny_Call_method (T:="dict") (id:="dict.items") hbase rfl hline F.plainAttrs_dict F.slot_dict_items F.type_dict_items (thn (he pins s σ H _ I h) fun u s1 ⟨x,H0,I0,rx,d,kvs,ex,hd0,q⟩=>?_)
  subst ex
  obtain rfl:u=Value.ref d:=rx
  have hn:=I0.nofrz hd0 trivial
  obtain ⟨o,I1⟩:=I0.lock hd0 trivial
  have hd:upd H0 d (.frz o (.dT kvs)) d=some (.frz o (.dT kvs)):=upd_same
  obtain ⟨hs,hgd,hx,es,ep,hdt,hsz,ent⟩:=I1.frzT2 hd
  have hty:s1.TypeIs (.ref d) "dict":=⟨o,hgd,hx.1⟩
  refine ⟨hty,fun b q=>by cases q;exact ⟨o,hgd,hx.2.1⟩,?_⟩
  have I2:Inv X pins σ (upd H0 d (.frz o (.dT kvs))) {s1 with heap:=s1.heap.push {cls:=.type "dict_items",data:=.fields #[.ref d]}}:=I1.kept (t':=s1.toks) fun b ob q=>Heap.get?_push_of_some _ q
  have fin:wpAny (model X.prog X.w) X.A (pyIter (.ref s1.heap.objs.size)) (PIE X pins σ (.Tuple elts kk tpos) (forR X D σ g tb)) X.xe {s1 with heap:=s1.heap.push {cls:=.type "dict_items",data:=.fields #[.ref d]}}:=
   raw_iter (d:=d) (n:=kvs.length) ⟨_,Heap.get?_push_size _ rfl,rfl,rfl⟩ (Heap.get?_push_of_some _ hgd) hdt hsz (pi_one (tk:=s1.toks) I2 _ (turn_itemsT _ hdt) ⟨.none,.none,Heap.get?_push_size _ rfl⟩ ⟨d,kvs,o,rfl,hn,q o⟩)
  show wpAny _ _ (callWith cpos (.builtin "dict.items") [.ref d] [] []) _ X.xe s1
  exact method_meetsIn F.slot_dict_items F.entry_dict_items rfl (PySem.evalArgs_none ⟨rfl,hty,F.args_dict_items_1 _,_,raw_items hs,hty,fin⟩)
 refine wpAny_For (thn hi fun v s1 h1=>thn h1 fun itv s2 h2=>?_) hs
 obtain ⟨it,fp,tn,J,H2,e,I2,T,st2,f2,d,kvs,o,rfl,hn,W,⟨m0,w0⟩,turn⟩:=h2
 subst e
 have stat:∀ {H':Hp},(∀ b∈fp,H' b=none)→∀ b∈fp,FpOk X pins H' b:=fun hn b hb=>⟨hn b hb,(f2 b hb).2⟩
 refine codeAny_forLoop_any (fun n s'=>∃ i σ' H',Inv X pins σ' H' s'∧tn i s'.heap∧(∀ b∈fp,H' b=none)∧W i n σ' H') ?_ m0 ⟨0,σ,H2,I2,st2,fun b hb=>(f2 b hb).1,w0⟩
 rintro n s3 ⟨i,σ3,H3,I3,st3,fr3,w3⟩
 rcases turn i n σ3 H3 w3 with ⟨stop,qn⟩|⟨go,N,hN,step⟩
 ·refine wpAny_passesOwn hp (thn (T.done X rfl rfl rfl hc i pins s3 σ3 H3 X.xe I3 (stat fr3) st3 stop) fun r s4 ⟨hr,I4⟩=>?_)
  subst hr
  exact wpAny_execs_nil ⟨σ3,_,I4.unlock qn.1 hn,qn.2⟩
 ·refine wpAny_passesOwn hp (thn (T.item X rfl rfl rfl hc i pins s3 σ3 H3 X.xe I3 (stat fr3) st3 go) fun r s4 ⟨u,hr,h4⟩=>?_)
  subst hr
  refine wpAny_passesOwn hp (thn h4 fun _ s5 ⟨x,H5,I5,r5,y5,st5,fr5⟩=>?_)
  have I5':=I5.pinned (stat fr5) (T.obj _ _ st5)
  refine wpAny_passesOwn hp (thn (hg _ s5 σ3 H5 x u _ I5' r5 (step x H5 y5)) fun _ s6 ⟨σ6,H6,I6,q6⟩=>?_)
  refine wpAny_passesOwn hp (thn (hb _ s6 σ6 H6 _ I6 q6) fun f s7 q7=>?_)
  have again:∀ {σ7:St} {H7:Hp},Inv X (pins++pinsAt fp s5.heap) σ7 H7 s7→N σ7 H7→∃ m,m<n∧∃ i σ' H',Inv X pins σ' H' s7∧tn i s7.heap∧(∀ b∈fp,H' b=none)∧W i m σ' H':=fun {σ7 H7} I7 n7=>by
   obtain ⟨m',hm,w7⟩:=hN σ7 H7 n7
   refine ⟨m',hm,i+1,σ7,H7,I7.unpinned,T.keep _ _ _ st5 fun b hb o e=>(I7.pin (b,o) (List.mem_append_right _ (List.mem_append_right _ (mem_pinsAt hb e)))).1,fun b hb=>?_,w7⟩
   obtain ⟨o,e,d⟩:=T.obj _ _ st5 b hb
   exact (I7.pin (b,o) (List.mem_append_right _ (List.mem_append_right _ (mem_pinsAt hb e)))).2.1
  cases f with
  |next=>obtain ⟨σ7,H7,I7,n7⟩:=q7;exact again I7 n7
  |cont=>obtain ⟨σ7,H7,I7,n7⟩:=q7;exact again I7 n7
  |brk=>obtain ⟨σ7,H7,I7,q7⟩:=q7;exact ⟨σ7,_,I7.unpinned.unlock q7.1 hn,q7.2⟩
  |ret v=>obtain ⟨x7,σ7,H7,I7,r7,q7⟩:=q7;exact ⟨x7,σ7,_,I7.unpinned.unlock q7.1 hn,r7,q7.2⟩
end L2
set_option Elab.async false
set_option linter.all false
set_option maxRecDepth 100000
set_option maxHeartbeats 1000000
namespace Br1
section
open Classical
end
end Br1
set_option Elab.async false
set_option linter.all false
set_option maxRecDepth 100000
set_option maxHeartbeats 1000000
namespace Br1
abbrev ZS:=List (Br.Shape×CL)
def sgZ (zs:ZS):CL:=zs.flatMap (·.2)
def tagC:Nat→List CL→CL
 |_,[]=>[]
 |j,c::r=>(c.map fun x=>(x.1,(j:Int)))++tagC (j+1) r
def owZ (zs:ZS):CL:=tagC 0 (zs.map (·.2))
theorem tag_app:∀ (j:Nat) (a b:List CL),tagC j (a++b)=tagC j a++tagC (j+a.length) b
 |j,[],b=>rfl
 |j,c::r,b=>by
  show _++tagC (j+1) (r++b)=(_++tagC (j+1) r)++tagC (j+(r.length+1)) b
  rw [tag_app (j+1) r b,List.append_assoc,show j+1+r.length=j+(r.length+1) by omega]
theorem owZ_snoc (zs:ZS) (z:Br.Shape×CL):owZ (zs++[z])=owZ zs++z.2.map fun c=>(c.1,(zs.length:Int)):=by
 unfold owZ
 rw [List.map_append,tag_app,List.length_map,Nat.zero_add]
 show _++(_++[])=_
 rw [List.append_nil]
theorem sgZ_snoc (zs:ZS) (z:Br.Shape×CL):sgZ (zs++[z])=sgZ zs++z.2:=by
 unfold sgZ
 rw [List.flatMap_append]
 simp
end Br1
set_option Elab.async false
set_option linter.all false
set_option maxRecDepth 100000
set_option maxHeartbeats 1000000
namespace Br1
def zsOf (prs:List PartR) (ls:List (List Nat)):ZS:=ls.map fun x=>(Br.Line.shape (prs.map toP) (toL x),cellsAt prs x)
end Br1
set_option Elab.async false
set_option linter.all false
set_option maxRecDepth 100000
set_option maxHeartbeats 1000000
namespace Br1
def lnI (x:List Nat):List Int:=x.map fun (n:Nat)=>(n:Int)
def iN (y:List Int) (k:Nat):Int:=y.getD k 0
def tsz (prs:List PartR) (p r:Nat):Int×Int×Int:=match prs[p]? with
 |some pr=>if r % 2=1 then ((pr.d:Int),(pr.w:Int),(pr.h:Int)) else ((pr.w:Int),(pr.d:Int),(pr.h:Int))
 |none=>(0,0,0)
def beyR (x y z:Int):Bool:= !(decide (0≤x) && decide (x<64) && (decide (0≤y) && decide (y<64)) && (decide (0≤z) && decide (z<96)))
def leavesI (prs:List PartR) (p r:Nat) (x y z:Int):Bool:=beyR x y z||beyR (x+(tsz prs p r).1 - 1) (y+(tsz prs p r).2.1 - 1) (z+(tsz prs p r).2.2 - 1)
theorem turned_sz (p:Br.Part):∀ r:Nat,(p.turned r).high=p.high∧(p.turned r).wide=(if r % 2=1 then p.deep else p.wide)∧(p.turned r).deep=(if r % 2=1 then p.wide else p.deep)
 |0=>⟨rfl,rfl,rfl⟩
 |r+1=>by
  obtain ⟨h1,h2,h3⟩:=turned_sz p r
  show (p.turned r).high=_∧(p.turned r).deep=_∧(p.turned r).wide=_
  rw [h1,h2,h3]
  by_cases h:r % 2=1
  ·rw [if_pos h,if_pos h,if_neg (show ¬(r+1) % 2=1 by omega),if_neg (show ¬(r+1) % 2=1 by omega)]
   exact ⟨rfl,rfl,rfl⟩
  ·rw [if_neg h,if_neg h,if_pos (show (r+1) % 2=1 by omega),if_pos (show (r+1) % 2=1 by omega)]
   exact ⟨rfl,rfl,rfl⟩
theorem of_sz {prs:List PartR} {l:Br.Line} (h:l.part<prs.length):(((l.of (prs.map toP)).wide:Int),((l.of (prs.map toP)).deep:Int),((l.of (prs.map toP)).high:Int))=tsz prs l.part l.r:=by
 have e1:prs[l.part]?=some prs[l.part]:=List.getElem?_eq_getElem h
 have e2:l.of (prs.map toP)=(toP prs[l.part]).turned l.r:=by
  unfold Br.Line.of
  rw [List.getD_eq_getElem?_getD,List.getElem?_map,e1]
  rfl
 obtain ⟨h1,h2,h3⟩:=turned_sz (toP prs[l.part]) l.r
 rw [e2,h1,h2,h3]
 unfold tsz
 rw [e1]
 by_cases hr:l.r % 2=1
 ·rw [if_pos hr,if_pos hr]
  show _=if l.r % 2=1 then _ else _
  rw [if_pos hr]
  rfl
 ·rw [if_neg hr,if_neg hr]
  show _=if l.r % 2=1 then _ else _
  rw [if_neg hr]
  rfl
theorem tsz_pos {prs:List PartR} (ok:∀ pr∈prs,PrOk pr) {p r:Nat} (h:p<prs.length):1≤(tsz prs p r).1∧1≤(tsz prs p r).2.1∧1≤(tsz prs p r).2.2:=by
 have e1:prs[p]?=some prs[p]:=List.getElem?_eq_getElem h
 have o:=ok _ (List.getElem_mem h)
 have h1:=o.w1
 have h2:=o.d1
 have h3:=o.h1
 unfold tsz
 rw [e1]
 show 1≤(if r % 2=1 then _ else _:Int×Int×Int).1∧1≤(if r % 2=1 then _ else _:Int×Int×Int).2.1∧1≤(if r % 2=1 then _ else _:Int×Int×Int).2.2
 split
 ·show 1≤((prs[p].d:Nat):Int)∧1≤((prs[p].w:Nat):Int)∧1≤((prs[p].h:Nat):Int)
  omega
 ·show 1≤((prs[p].w:Nat):Int)∧1≤((prs[p].d:Nat):Int)∧1≤((prs[p].h:Nat):Int)
  omega
theorem beyR_iff {x y z:Int}:beyR x y z=false↔(0≤x∧x<64)∧(0≤y∧y<64)∧0≤z∧z<96:=by
 unfold beyR
 rw [Bool.not_eq_false']
 simp only [Bool.and_eq_true,decide_eq_true_iff,and_assoc]
theorem leavesI_iff {prs:List PartR} (ok:∀ pr∈prs,PrOk pr) {p r:Nat} (h:p<prs.length) {x y z:Int}:
  leavesI prs p r x y z=false↔(0≤x∧0≤y∧0≤z∧x+(tsz prs p r).1≤64∧y+(tsz prs p r).2.1≤64∧z+(tsz prs p r).2.2≤96):=by
 have h1:=tsz_pos ok (r:=r) h
 unfold leavesI
 rw [Bool.or_eq_false_iff,beyR_iff,beyR_iff]
 omega
theorem leaves_eq {prs:List PartR} (ok:∀ pr∈prs,PrOk pr) {x:List Nat} (hx:lnN x 0<prs.length):leavesI prs (lnN x 0) (lnN x 5) (lnN x 2) (lnN x 3) (lnN x 4)=leavesC (tpAt prs x) (lnN x 2) (lnN x 3) (lnN x 4):=by
 have hr:=(line_rep ok hx).2
 have hs:=of_sz (prs:=prs) (l:=toL x) hx
 have hs:((((toL x).of (prs.map toP)).wide:Int),(((toL x).of (prs.map toP)).deep:Int),(((toL x).of (prs.map toP)).high:Int))=tsz prs (lnN x 0) (lnN x 5):=hs
 rw [←Bool.not_not (leavesC _ _ _ _),←hr,Bool.eq_iff_iff,Bool.not_eq_true',←Bool.not_eq_false,leavesI_iff ok hx,←hs]
 show ¬_↔(decide (lnN x 2+((toL x).of (prs.map toP)).wide≤64) && (decide (lnN x 3+((toL x).of (prs.map toP)).deep≤64) && decide (lnN x 4+((toL x).of (prs.map toP)).high≤96)))=false
 rw [←Bool.not_eq_true]
 simp only [Bool.and_eq_true,decide_eq_true_iff]
 omega
def leavesL (prs:List PartR) (y:List Int):Bool:=leavesI prs (iN y 0).toNat (iN y 5).toNat (iN y 2) (iN y 3) (iN y 4)
theorem sixI {y:List Int} (h:y.length=6):∃ a b c d e f,y=[a,b,c,d,e,f]:=by
 match y,h with
 |[a,b,c,d,e,f],_=>exact ⟨a,b,c,d,e,f,rfl⟩
end Br1
set_option Elab.async false
set_option linter.all false
set_option maxRecDepth 100000
set_option maxHeartbeats 1000000
namespace Br1
end Br1
set_option Elab.async false
set_option linter.all false
set_option maxRecDepth 100000
set_option maxHeartbeats 4000000
namespace Br1
open PySem PySem.Spec PyProof.Rows L2
def PutI (H:Hp) (t:Addr) (y:List Int):Prop:=H t=some (.tup (y.map V.int))∧y.length=6
theorem ntV_eq (x:List Nat):x.map ntV=(lnI x).map V.int:=by
 unfold lnI
 rw [List.map_map]
 rfl
theorem forL_items {d:Addr} {o:Obj} {kvs:List (List Key×V)} {g:TG} {tb:TS} {D:Ends} {σ:(List (Option V))} {H:Hp} (Pv:Nat→(List (Option V))→Hp→Prop) (h0:Pv 0 σ H) (hl:∀ i σ H,i≤kvs.length→Pv i σ H→H d=some (.frz o (.dT kvs)))
  (hs:∀ i σ H T k v q,kvs[i]?=some (k,v)→Pv i σ H→H T=none→H q=some (.tup (k.map kV))→g (.ref T) σ (upd H T (.tup [.ref q,v])) fun σ2 H2=>tb {unlD D d o (.dT kvs) with nx:=Pv (i+1),ct:=Pv (i+1),bk:=(unlD D d o (.dT kvs)).nx} σ2 H2) (hd:∀ σ H,Pv kvs.length σ H→D.nx σ (upd H d (.dT kvs))):
  ∃ W:Nat→Nat→(List (Option V))→Hp→Prop,(∃ m,W 0 m σ H)∧∀ i m σ H,W i m σ H→
   ((ItT d o kvs).stop i H∧(unlD D d o (.dT kvs)).nx σ H)∨((ItT d o kvs).go i H∧∃ N:(List (Option V))→Hp→Prop,(∀ σ' H',N σ' H'→∃ m',m'<m∧W (i+1) m' σ' H')∧∀ x H',(ItT d o kvs).yld i H x H'→g x σ H' fun σ2 H2=>tb {unlD D d o (.dT kvs) with nx:=N,ct:=N,bk:=(unlD D d o (.dT kvs)).nx} σ2 H2):=
 for_items (D:=unlD D d o (.dT kvs)) Pv h0 hl hs fun σ' H' p=>⟨hl _ _ _ (Nat.le_refl _) p,hd σ' H' p⟩
section
variable {P:Program} {w:World} {K:PySem.W.Frag} {mg:Str→Option Value} {base:Heap} {C CR CP CB CG:Addr}
def tzz (n:Nat) (W D Hh:Int):List Int:=if n % 2=1 then [D,W,Hh] else [W,D,Hh]
def spTSizes (CP:Addr):Sp:=fun vs H Q _=>∃ (b dx nm c:Addr) (W D Hh g:Int) (n:Nat),vs=[.ref b,.int (n:Int)]∧H b=some (.ins CP dx (PtF nm W D Hh g c))∧∀ t,H t=none→Q (.ref t) (upd H t (.tup ((tzz n W D Hh).map V.int)))
theorem sc_tsizes:FnScope ["part","turns"] ["part","turns"] (defScope sTSizes):=⟨rfl,rfl,rfl,by decide+kernel,rfl,by decide+kernel,by decide+kernel⟩
theorem ok_tsizes {f:Addr} {fd:FuncData} (F:Fun K "turned_sizes" "turned_sizes" sTSizes f fd) (T':PtT K CP):FnOk P w K mg base CX0 1 f fd ["part","turns"] (spTSizes CP):=by
 refine F.ok sc_tsizes (fun vs H Q E h=>?_) (fun cdv A outer s H vs Q E hr h=>?_)
 ·obtain ⟨b,dx,nm,c,W,D,Hh,g,n,rfl,_⟩:=h
  rfl
 ·obtain ⟨b,dx,nm,c,W,D,Hh,g,n,rfl,hb,k⟩:=h
  refine ⟨_,pss_cons (ps_if (pt_cmpR op_eq (pe_op op_mod (pv 1) pe_int) pe_int (nomark _)) (pss_one (ps_ret (pe_tup (pa_cons (pe_fld (pv 0) rfl) (pa_cons (pe_fld (pv 0) rfl) (pa_cons (pe_fld (pv 0) rfl) pa_nil)))))) pss_nil)
   (pss_one (ps_ret (pe_tup (pa_cons (pe_fld (pv 0) rfl) (pa_cons (pe_fld (pv 0) rfl) (pa_cons (pe_fld (pv 0) rfl) pa_nil)))))),?_⟩
  unfold tzz at k
  refine ⟨_,rfl,_,_,rfl,rfl,(by show (0:Int)<2;decide),rfl,_,rfl,ite2 (fun e=>?_) (fun e=>?_)⟩
  ·rw [dec_eq] at e
   have e:=of_decide_eq_true e
   rw [if_pos (by omega)] at k
   exact ⟨_,rfl,b,CP,dx,_,_,rfl,hb,T'.cl,T'.n3,rfl,_,rfl,b,CP,dx,_,_,rfl,hb,T'.cl,T'.n2,rfl,_,rfl,b,CP,dx,_,_,rfl,hb,T'.cl,T'.n4,rfl,(by show 3≤sizeLine;decide),k⟩
  ·rw [dec_eq] at e
   have e:¬((n:Int) % 2=1):=fun z=>e (decide_eq_true z)
   rw [if_neg (by omega)] at k
   exact ⟨_,rfl,b,CP,dx,_,_,rfl,hb,T'.cl,T'.n2,rfl,_,rfl,b,CP,dx,_,_,rfl,hb,T'.cl,T'.n3,rfl,_,rfl,b,CP,dx,_,_,rfl,hb,T'.cl,T'.n4,rfl,(by show 3≤sizeLine;decide),k⟩
theorem tzz_at {prs:List PartR} {p r:Nat} {pr:PartR} (h:prs[p]?=some pr):tzz r pr.w pr.d pr.h=[(tsz prs p r).1,(tsz prs p r).2.1,(tsz prs p r).2.2]:=by
 unfold tzz tsz
 rw [h]
 by_cases hr:r % 2=1
 ·rw [if_pos hr]
  show _=[(if r % 2=1 then _ else _:Int×Int×Int).1,(if r % 2=1 then _ else _:Int×Int×Int).2.1,(if r % 2=1 then _ else _:Int×Int×Int).2.2]
  rw [if_pos hr]
 ·rw [if_neg hr]
  show _=[(if r % 2=1 then _ else _:Int×Int×Int).1,(if r % 2=1 then _ else _:Int×Int×Int).2.1,(if r % 2=1 then _ else _:Int×Int×Int).2.2]
  rw [if_neg hr]
theorem rd_chain {lo hi v:Int} {i:Nat} {σ:(List (Option V))} {H:Hp} {Q:VK} (hσ:σ[i]?=some (some (.int v))) (k:Q (.bl (decide (lo≤v) && decide (v<hi))) H):
  tChain (rI0 fun i j=>.bl (decide (i≤j))) (rI0 fun i j=>.bl (decide (i<j))) (tC (.int lo)) (tVar i) (tC (.int hi)) σ H Q:=by
 refine ⟨_,hσ,_,_,rfl,rfl,_,rfl,ite2 (fun h=>⟨_,_,rfl,rfl,?_⟩) (fun h=>?_)⟩
 ·rw [h,Bool.true_and] at k
  exact k
 ·rw [bool_not h,Bool.false_and] at k
  exact k
def spBeyond:Sp:=fun vs H Q _=>∃ x y z:Int,vs=[.int x,.int y,.int z]∧Q (.bl (beyR x y z)) H
theorem sc_beyond:FnScope ["x","y","z"] ["x","y","z"] (defScope sBeyond):=⟨rfl,rfl,rfl,by decide+kernel,rfl,by decide+kernel,by decide+kernel⟩
theorem ok_beyond {f:Addr} {fd:FuncData} (F:Fun K "beyond_room" "beyond_room" sBeyond f fd) (c1:CI mg "ROOM_WIDTH" 64) (c2:CI mg "ROOM_DEPTH" 64) (c3:CI mg "ROOM_HEIGHT" 96):FnOk P w K mg base CX0 1 f fd ["x","y","z"] spBeyond:=by
 refine F.ok sc_beyond (fun vs H Q E h=>?_) (fun cdv A outer s H vs Q E hr h=>?_)
 ·obtain ⟨x,y,z,rfl,_⟩:=h
  rfl
 ·obtain ⟨x,y,z,rfl,k⟩:=h
  refine ⟨_,pss_one (ps_ret (pe_not (pe_and (pe_chain op_le op_lt pe_int (pv 0) (pe_ci c1)) (pe_and (pe_chain op_le op_lt pe_int (pv 1) (pe_ci c2)) (pe_one (pe_chain op_le op_lt pe_int (pv 2) (pe_ci c3))))))),?_⟩
  unfold beyR at k
  refine rd_chain rfl ⟨_,rfl,ite2 (fun e1=>rd_chain rfl ⟨_,rfl,ite2 (fun e2=>rd_chain rfl ⟨_,rfl,?_⟩) (fun e2=>⟨_,rfl,?_⟩)⟩) (fun e1=>⟨_,rfl,?_⟩)⟩
  ·rw [e1,e2,Bool.true_and,Bool.true_and] at k
   exact k
  ·rw [e1,bool_not e2,Bool.true_and,Bool.false_and] at k
   exact k
  ·rw [bool_not e1,Bool.false_and,Bool.false_and] at k
   exact k
def spLeaves (K:PySem.W.Frag) (CP:Addr):Sp:=fun vs H Q _=>∃ (pa t:Addr) (bs:List Addr) (prs:List PartR) (y:List Int),vs=[.ref pa,.ref t]∧SqL K H pa (bs.map V.ref)∧PartsAt CP H bs prs∧PutI H t y∧0≤iN y 0∧(iN y 0).toNat<prs.length∧0≤iN y 5∧
 ∀ H':Hp,Same H H'→Q (.bl (leavesL prs y)) H'
theorem sc_leaves:FnScope ["parts","put","size"] ["parts","put"] (defScope sLeaves):=⟨rfl,rfl,rfl,by decide+kernel,rfl,by decide+kernel,by decide+kernel⟩
theorem ok_leaves {f:Addr} {fd:FuncData} (F:Fun K "leaves_room" "leaves_room" sLeaves f fd) (L1:Fn0 P w K mg base "turned_sizes" CX0 1 ["part","turns"] (spTSizes CP)) (L2:Fn0 P w K mg base "beyond_room" CX0 1 ["x","y","z"] spBeyond):FnOk P w K mg base CX0 2 f fd ["parts","put"] (spLeaves K CP):=by
 obtain ⟨g1,gd1,G1,b1,k1,h1⟩:=L1.ex
 obtain ⟨g2,gd2,G2,b2,k2,h2⟩:=L2.ex
 refine F.ok sc_leaves (fun vs H Q E h=>?_) (fun cdv A outer s H vs Q E hr h=>?_)
 ·obtain ⟨pa,t,bs,prs,y,rfl,_⟩:=h
  rfl
 ·obtain ⟨pa,t,bs,prs,y,rfl,hpa,hps,⟨ht,hy⟩,hy0,hlt,hy5,k⟩:=h
  obtain ⟨a0,a1,a2,a3,a4,a5,rfl⟩:=sixI hy
  have hy0:0≤a0:=hy0
  have hlt:a0.toNat<prs.length:=hlt
  have hy5:0≤a5:=hy5
  have hr1:=hr.mono (j:=1) (by decide)
  refine ⟨_,pss_cons (ps_set (i:=2) sc_leaves.nd rfl (Or.inl rfl) (pe_call G1 hr1 (by rfl) h1 k1 b1 .nil pass0 (pa_cons (pe_ix ix_list (pv 0) (pe_ix ix_tup (pv 1) pe_int (fun _ _=>rfl)) (fun _ _=>rfl)) (pa_cons (pe_ix ix_tup (pv 1) pe_int (fun _ _=>rfl)) pa_nil))))
   (pss_one (ps_ret (pe_or (pe_call G2 hr1 (by rfl) h2 k2 b2 .nil pass0 (pa_cons (pe_ix ix_tup (pv 1) pe_int (fun _ _=>rfl)) (pa_cons (pe_ix ix_tup (pv 1) pe_int (fun _ _=>rfl)) (pa_cons (pe_ix ix_tup (pv 1) pe_int (fun _ _=>rfl)) pa_nil))))
    (pe_one (pe_call G2 hr1 (by rfl) h2 k2 b2 .nil pass0 (pa_cons (pe_op op_sub (pe_op op_add (pe_ix ix_tup (pv 1) pe_int (fun _ _=>rfl)) (pe_ix ix_tup (pv 2) pe_int (fun _ _=>rfl))) pe_int)
     (pa_cons (pe_op op_sub (pe_op op_add (pe_ix ix_tup (pv 1) pe_int (fun _ _=>rfl)) (pe_ix ix_tup (pv 2) pe_int (fun _ _=>rfl))) pe_int) (pa_cons (pe_op op_sub (pe_op op_add (pe_ix ix_tup (pv 1) pe_int (fun _ _=>rfl)) (pe_ix ix_tup (pv 2) pe_int (fun _ _=>rfl))) pe_int) pa_nil)))))))),?_⟩
  obtain ⟨pr,epr⟩:∃ pr,prs[a0.toNat]?=some pr:=⟨_,List.getElem?_eq_getElem hlt⟩
  obtain ⟨b,eb,pat,po⟩:=paired_at hps epr
  obtain ⟨dx,nm,cc,f1,f2,f3⟩:=pat
  have e0:atI (bs.map V.ref) a0=some (V.ref b):=by
   have:=atI_nat (xs:=bs.map V.ref) (j:=a0.toNat) (v:=V.ref b) (by rw [List.getElem?_map,eb];rfl)
   rwa [Int.toNat_of_nonneg hy0] at this
  have e5:a5=((a5.toNat:Nat):Int):=(Int.toNat_of_nonneg hy5).symm
  refine ⟨_,rfl,_,rfl,t,_,_,_,rfl,rfl,SqT.of ht,rfl,pa,_,_,_,rfl,rfl,hpa,e0,_,rfl,t,_,_,_,rfl,rfl,SqT.of ht,rfl,b,dx,nm,cc,_,_,_,_,a5.toNat,by rw [←e5];rfl,f1,fun tz htz=>?_⟩
  have ez:=tzz_at (r:=a5.toNat) epr
  rw [ez]
  have S1:=Same.new (o:=.tup ([(tsz prs a0.toNat a5.toNat).1,(tsz prs a0.toNat a5.toNat).2.1,(tsz prs a0.toNat a5.toNat).2.2].map V.int)) htz
  have ht1:=S1 _ _ ht
  have htz1:upd H tz (.tup ([(tsz prs a0.toNat a5.toNat).1,(tsz prs a0.toNat a5.toNat).2.1,(tsz prs a0.toNat a5.toNat).2.2].map V.int)) tz=some (.tup ([(tsz prs a0.toNat a5.toNat).1,(tsz prs a0.toNat a5.toNat).2.1,(tsz prs a0.toNat a5.toNat).2.2].map V.int)):=upd_same
  generalize upd H tz (.tup ([(tsz prs a0.toNat a5.toNat).1,(tsz prs a0.toNat a5.toNat).2.1,(tsz prs a0.toNat a5.toNat).2.2].map V.int))=H1 at S1 ht1 htz1
  have k:=k H1 S1
  have k:Q (.bl (beyR a2 a3 a4||beyR (a2+(tsz prs a0.toNat a5.toNat).1 - 1) (a3+(tsz prs a0.toNat a5.toNat).2.1 - 1) (a4+(tsz prs a0.toNat a5.toNat).2.2 - 1))) H1:=k
  generalize tsz prs a0.toNat a5.toNat=Z at k htz1
  refine ⟨_,rfl,t,_,_,_,rfl,rfl,SqT.of ht1,rfl,_,rfl,t,_,_,_,rfl,rfl,SqT.of ht1,rfl,_,rfl,t,_,_,_,rfl,rfl,SqT.of ht1,rfl,a2,a3,a4,rfl,_,rfl,ite2 (fun e1=>?_) (fun e1=>?_)⟩
  ·rw [e1,Bool.true_or] at k
   exact k
  ·rw [bool_not e1,Bool.false_or] at k
   exact ⟨_,rfl,t,_,_,_,rfl,rfl,SqT.of ht1,rfl,_,rfl,tz,_,_,_,rfl,rfl,SqT.of htz1,rfl,_,_,rfl,rfl,_,_,rfl,rfl,_,rfl,t,_,_,_,rfl,rfl,SqT.of ht1,rfl,_,rfl,tz,_,_,_,rfl,rfl,SqT.of htz1,rfl,_,_,rfl,rfl,_,_,rfl,rfl,
    _,rfl,t,_,_,_,rfl,rfl,SqT.of ht1,rfl,_,rfl,tz,_,_,_,rfl,rfl,SqT.of htz1,rfl,_,_,rfl,rfl,_,_,rfl,rfl,_,_,_,rfl,k⟩
def spRoom (K:PySem.W.Frag) (CP:Addr):Sp:=fun vs H Q _=>∃ (pa q:Addr) (bs:List Addr) (prs:List PartR) (x:List Nat),vs=[.ref pa,.ref q]∧SqL K H pa (bs.map V.ref)∧PartsAt CP H bs prs∧(∀ pr∈prs,PrOk pr)∧H q=some (.tup (x.map ntV))∧LnOk prs.length x∧lnN x 5≤3∧
 ∀ (H':Hp) (d:Addr),Same H H'→H d=none→H' d=some (.dT (kvs (cellsAt prs x)))→Q (.ref d) H'
theorem sc_room:FnScope ["parts","put","cells","place","sign"] ["parts","put"] (defScope sRoom):=⟨rfl,rfl,rfl,by decide+kernel,rfl,by decide+kernel,by decide+kernel⟩
theorem ok_room {f:Addr} {fd:FuncData} (F:Fun K "cells_in_room" "cells_in_room" sRoom f fd) (T':PtT K CP) (L1:Fn0 P w K mg base "turned_part" CX0 4 ["part","turns"] (spTurned CP)):FnOk P w K mg base CX0 5 f fd ["parts","put"] (spRoom K CP):=by
 obtain ⟨g1,gd1,G1,b1,k1,h1⟩:=L1.ex
 refine F.ok sc_room (fun vs H Q E h=>?_) (fun cdv A outer s H vs Q E hr h=>?_)
 ·obtain ⟨pa,q,bs,prs,x,rfl,_⟩:=h
  rfl
 ·obtain ⟨pa,qp,bs,prs,x,rfl,hpa,hps,hok,hp,⟨hx6,hx0⟩,hx5,k⟩:=h
  obtain ⟨pr,epr⟩:∃ pr,prs[lnN x 0]?=some pr:=⟨_,List.getElem?_eq_getElem hx0⟩
  have etp:tpAt prs x=turnsN (tpOf pr) (lnN x 5):=by
   unfold tpAt
   rw [epr]
   rfl
  obtain ⟨b,eb,hbp,hbo⟩:=paired_at hps epr
  obtain ⟨nm,hpt⟩:=hbp.pt
  have tok:TpOk (tpOf pr):=⟨(rep0 (hok pr (List.mem_of_getElem? epr))).nd,hbo.len⟩
  obtain ⟨a0,a1,a2,a3,a4,a5,rfl⟩:=six hx6
  have hu:=hu_of hr
  refine ⟨_,pss_cons (ps_set (i:=2) sc_room.nd rfl (Or.inl rfl) pe_dnewT)
   (pss_cons (ps_forL PassesOwn.never rfl (pe_fld (pe_call G1 (hr.mono (j:=4) (by decide)) (by rfl) h1 k1 b1 .nil pass0 (pa_cons (pe_ix ix_list (pv 0) (pe_ix ix_tup (pv 1) pe_int (fun _ _=>rfl)) (fun _ _=>rfl)) (pa_cons (pe_ix ix_tup (pv 1) pe_int (fun _ _=>rfl)) pa_nil))) rfl) (pg_tup rfl (pgs_cons (pg_name (i:=3) sc_room.nd rfl (Or.inl rfl)) (pgs_cons (pg_name (i:=4) sc_room.nd rfl (Or.inl rfl)) pgs_nil)))
    (pss_one (ps_dput hu (pv 2) (pe_tup (pa_cons (pe_op op_add (pe_ix ix_tup (pv 1) pe_int (fun _ _=>rfl)) (pe_ix ix_tup (pv 3) pe_int (fun _ _=>rfl))) (pa_cons (pe_op op_add (pe_ix ix_tup (pv 1) pe_int (fun _ _=>rfl)) (pe_ix ix_tup (pv 3) pe_int (fun _ _=>rfl))) (pa_cons (pe_op op_add (pe_ix ix_tup (pv 1) pe_int (fun _ _=>rfl)) (pe_ix ix_tup (pv 3) pe_int (fun _ _=>rfl))) pa_nil)))) (pv 4) rfl)))
   (pss_one (ps_ret (pv 2)))),?_⟩
  intro d hd
  have S0:Same H (upd H d (.dT [])):=Same.new hd
  have e0:atI (bs.map V.ref) ((a0:Nat):Int)=some (V.ref b):=atI_nat (by
   rw [List.getElem?_map]
   show Option.map V.ref bs[lnN [a0,a1,a2,a3,a4,a5] 0]?=_
   rw [eb];rfl)
  have hp0:=S0 _ _ hp
  have hsl:=sizeLine_big
  refine ⟨_,rfl,_,rfl,qp,_,_,_,rfl,rfl,SqT.of hp0,rfl,pa,_,_,_,rfl,rfl,S0.seq hpa,e0,_,rfl,qp,_,_,_,rfl,rfl,SqT.of hp0,rfl,b,nm,_,tpOf pr,a5,rfl,Nat.le_trans hx5 (by decide),hpt.same S0,tok,fun H1 b' S1 hp1=>?_⟩
  have tok2:TpOk (turnsN (tpOf pr) a5):=tok.turns _
  have k:∀ (H':Hp) (d:Addr),Same H H'→H d=none→H' d=some (.dT (kvs (mapC (putPl a2 a3 a4) (turnsN (tpOf pr) a5).cs)))→Q (.ref d) H':=fun H' d s n e=>k H' d s n (by unfold cellsAt;rw [etp];exact e)
  obtain ⟨dx1,c,hb1,hc1⟩:=hp1
  generalize turnsN (tpOf pr) a5=tt at hb1 hc1 tok2 k
  obtain ⟨W,D,Hh,cs⟩:=tt
  have hb1:H1 b'=some (.ins CP dx1 (PtF nm W D Hh pr.g c)):=hb1
  have hc1:H1 c=some (.dT (kvs cs)):=hc1
  have nd:(cs.map (·.1)).Nodup:=tok2.nd
  have ln:cs.length<20000:=tok2.ln
  have hd1:H1 d=some (.dT []):=S1 _ _ upd_same
  have hp1:=S1 _ _ hp0
  refine ⟨b',CP,dx1,_,_,rfl,hb1,T'.cl,T'.n6,rfl,c,_,rfl,hc1,fun od=>?_⟩
  have S01:=S0.trans S1
  by_cases ncd:c=d
  ·-- the new dict itself:then there is nothing to walk
   subst ncd
   rw [hd1] at hc1
   have hcs:cs=[]:=by
    cases cs with
    |nil=>rfl
    |cons a r=>cases hc1
   subst hcs
   refine forL_items (fun i σ H'=>∃ v3 v4,σ=[some (.ref pa),some (.ref qp),some (.ref c),v3,v4]∧H'=upd H1 c (.frz od (.dT (kvs [])))) ⟨none,none,rfl,rfl⟩ ?_ ?_ ?_
   ·rintro i σ H2 hi ⟨v3,v4,rfl,rfl⟩
    exact upd_same
   ·rintro i σ H2 T k' v q e
    cases i<;>cases e
   ·rintro σ H2 ⟨v3,v4,rfl,rfl⟩
    refine ⟨_,rfl,k _ c (fun y o e=>?_) hd (by rw [upd_same];rfl)⟩
    have ny:=ne_of_none e hd
    rw [upd_ne ny,upd_ne ny]
    exact S01 _ _ e
  ·have hcL:upd H1 c (.frz od (.dT (kvs cs))) c=some (.frz od (.dT (kvs cs))):=upd_same
   have hdL:upd H1 c (.frz od (.dT (kvs cs))) d=some (.dT []):=by rw [upd_ne (Ne.symm ncd)];exact hd1
   have npc:qp≠c:=fun z=>by rw [z,hc1] at hp1;cases hp1
   have npd:qp≠d:=fun z=>by rw [z,hd1] at hp1;cases hp1
   have hpL:upd H1 c (.frz od (.dT (kvs cs))) qp=some (.tup ([a0,a1,a2,a3,a4,a5].map ntV)):=by rw [upd_ne npc];exact hp1
   refine forL_items (fun i σ H'=>∃ v3 v4,σ=[some (.ref pa),some (.ref qp),some (.ref d),v3,v4]∧SX d (upd H1 c (.frz od (.dT (kvs cs)))) H'∧H' d=some (.dT (kvs (mapC (putPl a2 a3 a4) (cs.take i))))) ⟨none,none,rfl,SX.refl _ _,hdL⟩ ?_ ?_ ?_
   ·rintro i σ H2 hi ⟨v3,v4,rfl,S2,_⟩
    exact S2 _ _ hcL ncd
   ·rintro i σ H2 T kk v q e ⟨v3,v4,rfl,S2,hd2⟩ hT hq
    obtain ⟨p,sg,e1,rfl,rfl⟩:=kvs_get e
    have ST:=Same.new (o:=.tup [.ref q,.int sg]) hT
    refine ⟨T,_,rfl,SqT.of upd_same,rfl,_,_,rfl,_,_,rfl,rfl,?_⟩
    have hq3:=ST _ _ hq
    have hp3:=ST _ _ (S2 _ _ hpL npd)
    have hd3:=ST _ _ hd2
    generalize upd H2 T (.tup [.ref q,.int sg])=H3 at ST hq3 hp3 hd3
    refine ⟨_,rfl,_,rfl,_,rfl,qp,_,_,_,rfl,rfl,SqT.of hp3,rfl,_,rfl,q,_,_,_,rfl,rfl,SqT.of hq3,rfl,_,_,rfl,rfl,_,rfl,qp,_,_,_,rfl,rfl,SqT.of hp3,rfl,_,rfl,q,_,_,_,rfl,rfl,SqT.of hq3,rfl,_,_,rfl,rfl,_,rfl,qp,_,_,_,rfl,rfl,SqT.of hp3,rfl,_,rfl,q,_,_,_,rfl,rfl,SqT.of hq3,rfl,_,_,rfl,rfl,(by show 3≤sizeLine;decide),fun t ht=>?_⟩
    have SQ:=Same.new (o:=.tup [.int (a2+p.1),.int (a3+p.2.1),.int (a4+p.2.2)]) ht
    have hi:i<cs.length:=(List.getElem?_eq_some_iff.mp e1).1
    refine ⟨d,_,rfl,DPut.t (k:=key3 (a2+p.1) (a3+p.2.1) (a4+p.2.2)) (SQ _ _ hd3) upd_same (by rw [kvs_len,mapC_len,List.length_take];omega),?_⟩
    refine ⟨_,_,rfl,fun b' o e' n'=>?_,?_⟩
    ·rw [upd_ne n']
     exact SQ _ _ (ST _ _ (S2 _ _ e' n'))
    ·rw [upd_same]
     exact congrArg (fun z=>some (HO.dT z)) (put_map (putPl_inj a2 a3 a4) nd e1)
   ·rintro σ H2 ⟨v3,v4,rfl,S2,hd2⟩
    rw [kvs_len,List.take_length] at hd2
    have hdE:upd H2 c (.dT (kvs cs)) d=some (.dT (kvs (mapC (putPl a2 a3 a4) cs))):=by rw [upd_ne (Ne.symm ncd)];exact hd2
    refine ⟨_,rfl,k _ d (fun y o e=>?_) hd hdE⟩
    have ny:=ne_of_none e hd
    have e1:=S01 _ _ e
    by_cases hy:y=c
    ·rw [hy] at e1 ⊢
     rw [upd_same,←e1,hc1]
    ·rw [upd_ne hy]
     exact S2 _ _ (by rw [upd_ne hy];exact e1) ny
end
end Br1
set_option Elab.async false
set_option linter.all false
set_option maxRecDepth 100000
set_option maxHeartbeats 4000000
namespace Br1
open PySem PySem.Spec PyProof.Rows L2
theorem seq_two {A B:TS} {D:Ends} {σ:List (Option V)} {H:Hp} {M:List (Option V)→Hp→Prop} (h2:∀ σ' H',M σ' H'→B D σ' H') (h1:(∀ σ' H',M σ' H'→B D σ' H')→A {D with nx:=B D} σ H):tSeq A B D σ H:=h1 h2
theorem gn_in {i:Nat} {x:V} {σ:List (Option V)} {H:Hp} {k:List (Option V)→Hp→Prop} (h:k (σ.set i (some x)) H):gName i x σ H k:=h
def RmF (ds os wr:Addr):List (Str×V):=[("signs",.ref ds),("owners",.ref os),("wrong",.ref wr)]
structure RmT (K:PySem.W.Frag) (CM:Addr):Prop where
 cl:Cls K CM
 n1:NoAttr K CM "signs"
 n2:NoAttr K CM "owners"
 n3:NoAttr K CM "wrong"
def spRmI (CM:Addr):Sp:=fun vs H Q _=>∃ (r dx:Addr),vs=[.ref r]∧H r=some (.ins CM dx [])∧∀ (H':Hp) (ds os wr:Addr),H' r=some (.ins CM dx (RmF ds os wr))→H' ds=some (.dT [])→H' os=some (.dT [])→H' wr=some (.lst [])→H ds=none→H os=none→H wr=none→ds≠os→SX r H H'→Q .non H'
theorem sc_rmI:FnScope ["self"] ["self"] (defScope sRoomI):=⟨rfl,rfl,rfl,by decide+kernel,rfl,by decide+kernel,by decide+kernel⟩
theorem ok_rmI {P:Program} {w:World} {K:PySem.W.Frag} {mg:Str→Option Value} {base:Heap} {CM f:Addr} {fd:FuncData} (F:Fun K "__init__" "Room.__init__" sRoomI f fd) (T:RmT K CM):FnOk P w K mg base CX0 1 f fd ["self"] (spRmI CM):=by
 refine F.ok sc_rmI (fun vs H Q E h=>?_) (fun cdv A outer s H vs Q E hr h=>?_)
 ·obtain ⟨r,dx,rfl,_⟩:=h
  rfl
 ·obtain ⟨r,dx,rfl,hp,k⟩:=h
  refine ⟨_,pss_cons (ps_fld (pv 0) pe_dnewT rfl) (pss_cons (ps_fld (pv 0) pe_dnewT rfl) (pss_one (ps_fld (pv 0) (pe_lst pa_nil) rfl))),?_⟩
  intro ds hds
  have n1:r≠ds:=ne_of_none hp hds
  refine ⟨_,rfl,r,CM,dx,_,rfl,by rw [upd_ne n1];exact hp,T.cl,T.n1,(by show 0<1000;decide),?_⟩
  intro os hos
  have n2:r≠os:=fun z=>by rw [←z,upd_same] at hos;cases hos
  have n3:ds≠os:=fun z=>by rw [←z,upd_ne (Ne.symm n1),upd_same] at hos;cases hos
  rw [upd_ne (Ne.symm n2),upd_ne (Ne.symm n3)] at hos
  refine ⟨_,rfl,r,CM,dx,_,rfl,by rw [upd_ne n2,upd_same],T.cl,T.n2,(by show 1<1000;decide),?_⟩
  refine ⟨Nat.zero_le _,fun wr hwr=>?_⟩
  have n4:r≠wr:=fun z=>by rw [←z,upd_same] at hwr;cases hwr
  have n5:os≠wr:=fun z=>by rw [←z,upd_ne (Ne.symm n2),upd_same] at hwr;cases hwr
  have n6:ds≠wr:=fun z=>by rw [←z,upd_ne (Ne.symm n1),upd_ne n3,upd_ne (Ne.symm n1),upd_same] at hwr;cases hwr
  rw [upd_ne (Ne.symm n4),upd_ne (Ne.symm n5),upd_ne (Ne.symm n4),upd_ne (Ne.symm n6)] at hwr
  refine ⟨_,rfl,r,CM,dx,_,rfl,by rw [upd_ne n4,upd_same],T.cl,T.n3,(by show 2<1000;decide),?_⟩
  refine k _ ds os wr upd_same ?_ ?_ ?_ hds hos hwr n3 fun b o e hb=>?_
  ·rw [upd_ne (Ne.symm n1),upd_ne n6,upd_ne (Ne.symm n1),upd_ne n3,upd_ne (Ne.symm n1),upd_same]
  ·rw [upd_ne (Ne.symm n2),upd_ne n5,upd_ne (Ne.symm n2),upd_same]
  ·rw [upd_ne (Ne.symm n4),upd_same]
  ·rw [upd_ne hb,upd_ne (ne_of_none e hwr),upd_ne hb,upd_ne (ne_of_none e hos),upd_ne hb,upd_ne (ne_of_none e hds)]
   exact e
structure RmM (P:Program) (w:World) (K:PySem.W.Frag) (mg:Str→Option Value) (base:Heap) (CM:Addr):Prop where
 ex:∃ f fd,Mk K CM f∧FnOk P w K mg base CX0 1 f fd ["self"] (spRmI CM)∧Binds K fd ["self"] []
 mg:mg "Room"=some (.ref CM)
section
variable {sg ow:CL} {c:Pl×Int} {s k:Int}
theorem blk1_stud (h:¬studI c.2=true):blk1 sg ow c=[]:=by
 unfold blk1
 split
 ·exact if_neg fun z=>h z.1
 ·rfl
theorem blk1_none (h:getC sg (upP c.1)=none):blk1 sg ow c=[]:=by
 unfold blk1
 rw [h]
theorem blk1_tube (h:getC sg (upP c.1)=some s) (ht:tubeI s=true):blk1 sg ow c=[]:=by
 unfold blk1
 rw [h]
 exact if_neg fun z=>by rw [ht] at z;exact Bool.noConfusion z.2
theorem blk1_yes (h:getC sg (upP c.1)=some s) (h1:studI c.2=true) (h2:tubeI s=false) (h3:getC ow (upP c.1)=some k):blk1 sg ow c=[k]:=by
 unfold blk1
 rw [h]
 show (if studI c.2=true∧tubeI s=false then _ else _)=_
 rw [if_pos ⟨h1,h2⟩,h3]
 rfl
theorem blk2_tube (h:tubeI c.2=true):blk2 sg ow c=[]:=by
 unfold blk2
 split
 ·exact if_neg fun z=>by rw [h] at z;exact Bool.noConfusion z.1
 ·rfl
theorem blk2_none (h:getC sg (dnP c.1)=none):blk2 sg ow c=[]:=by
 unfold blk2
 rw [h]
theorem blk2_stud (h:getC sg (dnP c.1)=some s) (ht:¬studI s=true):blk2 sg ow c=[]:=by
 unfold blk2
 rw [h]
 exact if_neg fun z=>ht z.2
theorem blk2_yes (h:getC sg (dnP c.1)=some s) (h1:tubeI c.2=false) (h2:studI s=true) (h3:getC ow (dnP c.1)=some k):blk2 sg ow c=[k]:=by
 unfold blk2
 rw [h]
 show (if tubeI c.2=false∧studI s=true then _ else _)=_
 rw [if_pos ⟨h1,h2⟩,h3]
 rfl
theorem blk1_len:(blk1 sg ow c).length≤1:=by
 unfold blk1
 split
 ·split
  ·cases getC ow (upP c.1)<;>simp
  ·simp
 ·simp
theorem blk2_len:(blk2 sg ow c).length≤1:=by
 unfold blk2
 split
 ·split
  ·cases getC ow (dnP c.1)<;>simp
  ·simp
 ·simp
end
theorem block_len (sg ow:CL):∀ cl:CL,(blockC cl sg ow).length≤2 * cl.length
 |[]=>Nat.le_refl _
 |c::r=>by
  have ih:=block_len sg ow r
  have h1:=blk1_len (sg:=sg) (ow:=ow) (c:=c)
  have h2:=blk2_len (sg:=sg) (ow:=ow) (c:=c)
  unfold blockC at ih ⊢
  rw [List.flatMap_cons,List.length_append,List.length_append,List.length_cons]
  omega
theorem block_snoc {cl sg ow:CL} {i:Nat} {c:Pl×Int} (e:cl[i]?=some c):blockC (cl.take (i+1)) sg ow=blockC (cl.take i) sg ow++blk1 sg ow c++blk2 sg ow c:=by
 unfold blockC
 rw [List.take_succ,e,List.flatMap_append,List.append_assoc]
 show _++List.flatMap _ [c]=_
 rw [List.flatMap_singleton]
theorem dget_of {H:Hp} {c q:Addr} {cs:CL} {p:Pl} {v:Int} (hc:H c=some (.dT (kvs cs))) (hq:H q=some (.tup [.int p.1,.int p.2.1,.int p.2.2])) (h:getC cs p=some v):DGet H c (.ref q) (some (V.int v)):=by
 have:=din_of (p:=p) hc hq
 rw [h] at this
 exact this
theorem sizeLine_huge:16000000<sizeLine:=by rw [sizeLine_eq];decide
section
variable {P:Program} {w:World} {K:PySem.W.Frag} {mg:Str→Option Value} {base:Heap} {C CR CP CB CG CM:Addr}
def spBlocked (CM:Addr):Sp:=fun vs H Q _=>∃ (d m dm wr s o:Addr) (cl sg ow:CL),vs=[.ref d,.ref m]∧H m=some (.ins CM dm (RmF s o wr))∧H d=some (.dT (kvs cl))∧H s=some (.dT (kvs sg))∧H o=some (.dT (kvs ow))∧d≠s∧d≠o∧(∀ p,(getC sg p).isSome=true→(getC ow p).isSome=true)∧cl.length<20000∧
 ∀ (H':Hp) (l:Addr),Same H H'→H l=none→H' l=some (.lst ((blockC cl sg ow).map V.int))→Q (.ref l) H'
theorem sc_blocked:FnScope ["cells","room","blocked","place","sign","over","under"] ["cells","room"] (defScope sBlocked):=⟨rfl,rfl,rfl,by decide+kernel,rfl,by decide+kernel,by decide+kernel⟩
theorem ok_blocked {f:Addr} {fd:FuncData} (F:Fun K "blocked_lines" "blocked_lines" sBlocked f fd) (TM:RmT K CM) (L1:Fn0 P w K mg base "above" CX0 1 ["place"] spAbove) (L2:Fn0 P w K mg base "below" CX0 1 ["place"] spBelow)
  (L3:Fn0 P w K mg base "has_stud" CX0 1 ["sign"] spStud) (L4:Fn0 P w K mg base "has_tube" CX0 1 ["sign"] spTube):FnOk P w K mg base CX0 2 f fd ["cells","room"] (spBlocked CM):=by
 obtain ⟨g1,gd1,G1,b1,k1,h1⟩:=L1.ex
 obtain ⟨g2,gd2,G2,b2,k2,h2⟩:=L2.ex
 obtain ⟨g3,gd3,G3,b3,k3,h3⟩:=L3.ex
 obtain ⟨g4,gd4,G4,b4,k4,h4⟩:=L4.ex
 refine F.ok sc_blocked (fun vs H Q E h=>?_) (fun cdv A outer s H vs Q E hr h=>?_)
 ·obtain ⟨d,m,dm,wr,s,o,cl,sg,ow,rfl,_⟩:=h
  rfl
 ·obtain ⟨d,m,dm,wr,s,o,cl,sg,ow,rfl,hm,hd,hs,ho,nds,ndo,sub,ln,k⟩:=h
  have hr1:=hr.mono (j:=1) (by decide)
  have hu:=hu_of hr
  refine ⟨_,pss_cons (ps_set (i:=2) sc_blocked.nd rfl (Or.inl rfl) (pe_lst pa_nil))
   (pss_cons (ps_lock (ps_for PassesOwn.never rfl (pi_itemsT (pv 0)) (pg_tup rfl (pgs_cons (pg_name (i:=3) sc_blocked.nd rfl (Or.inl rfl)) (pgs_cons (pg_name (i:=4) sc_blocked.nd rfl (Or.inl rfl)) pgs_nil)))
    (pss_cons (ps_set (i:=5) sc_blocked.nd rfl (Or.inl rfl) (pe_call G1 hr1 (by rfl) h1 k1 b1 .nil pass0 (pa_cons (pv 3) pa_nil)))
    (pss_cons (ps_if (pw_and (pt_val (pe_call G3 hr1 (by rfl) h3 k3 b3 .nil pass0 (pa_cons (pv 4) pa_nil))) (pw_and (pt_cmp (pc_din hu (pv 5) (pe_fld (pv 1) rfl))) (pw_and1 (pt_not (pt_val (pe_call G4 hr1 (by rfl) h4 k4 b4 .nil pass0 (pa_cons (pe_dget hu (pe_fld (pv 1) rfl) (pv 5) (fun _ _=>rfl)) pa_nil))))))).pt
     (pss_one (ps_expr (pe_bm PySem.F.plainAttrs_list PySem.F.slot_list_append PySem.F.type_list_append mt_append (pv 2) (pa_cons (pe_dget hu (pe_fld (pv 1) rfl) (pv 5) (fun _ _=>rfl)) pa_nil)))) pss_nil)
    (pss_cons (ps_set (i:=6) sc_blocked.nd rfl (Or.inl rfl) (pe_call G2 hr1 (by rfl) h2 k2 b2 .nil pass0 (pa_cons (pv 3) pa_nil)))
    (pss_one (ps_if (pw_and (pt_not (pt_val (pe_call G4 hr1 (by rfl) h4 k4 b4 .nil pass0 (pa_cons (pv 4) pa_nil)))) (pw_and (pt_cmp (pc_din hu (pv 6) (pe_fld (pv 1) rfl))) (pw_and1 (pt_val (pe_call G3 hr1 (by rfl) h3 k3 b3 .nil pass0 (pa_cons (pe_dget hu (pe_fld (pv 1) rfl) (pv 6) (fun _ _=>rfl)) pa_nil)))))).pt
     (pss_one (ps_expr (pe_bm PySem.F.plainAttrs_list PySem.F.slot_list_append PySem.F.type_list_append mt_append (pv 2) (pa_cons (pe_dget hu (pe_fld (pv 1) rfl) (pv 6) (fun _ _=>rfl)) pa_nil)))) pss_nil)))))))
   (pss_one (ps_ret (pv 2)))),?_⟩
  refine ⟨by show 0≤sizeLine;decide,fun l hl=>?_⟩
  have S0:Same H (upd H l (.lst [])):=Same.new hl
  have ndl:d≠l:=ne_of_none hd hl
  have nsl:s≠l:=ne_of_none hs hl
  have nol:o≠l:=ne_of_none ho hl
  have nml:m≠l:=ne_of_none hm hl
  have nmd:m≠d:=fun z=>by rw [z,hd] at hm;cases hm
  have hsz:=sizeLine_huge
  refine ⟨d,_,S0 _ _ hd,trivial,fun od=>?_⟩
  have hdL:upd (upd H l (.lst [])) d (.frz od (.dT (kvs cl))) d=some (.frz od (.dT (kvs cl))):=upd_same
  have hsL:upd (upd H l (.lst [])) d (.frz od (.dT (kvs cl))) s=some (.dT (kvs sg)):=by rw [upd_ne (Ne.symm nds)];exact S0 _ _ hs
  have hoL:upd (upd H l (.lst [])) d (.frz od (.dT (kvs cl))) o=some (.dT (kvs ow)):=by rw [upd_ne (Ne.symm ndo)];exact S0 _ _ ho
  have hmL:upd (upd H l (.lst [])) d (.frz od (.dT (kvs cl))) m=some (.ins CM dm (RmF s o wr)):=by rw [upd_ne nmd];exact S0 _ _ hm
  have hlL:upd (upd H l (.lst [])) d (.frz od (.dT (kvs cl))) l=some (.lst []):=by rw [upd_ne (Ne.symm ndl),upd_same]
  refine ⟨_,rfl,d,od,_,rfl,hdL,?_⟩
  refine for_items (fun i σ H'=>∃ v4 v5 v6 v7,σ=[some (.ref d),some (.ref m),some (.ref l),v4,v5,v6,v7]∧SX l (upd (upd H l (.lst [])) d (.frz od (.dT (kvs cl)))) H'∧H' l=some (.lst ((blockC (cl.take i) sg ow).map V.int))) ⟨none,none,none,none,rfl,SX.refl _ _,hlL⟩ ?_ ?_ ?_
  ·rintro i σ H1 hi ⟨v4,v5,v6,v7,rfl,S1,_⟩
   exact S1 _ _ hdL ndl
  ·rintro i σ H1 T kk v q e ⟨v4,v5,v6,v7,rfl,S1,hl1⟩ hT hq
   obtain ⟨p,sv,e1,rfl,rfl⟩:=kvs_get e
   have hi:i<cl.length:=(List.getElem?_eq_some_iff.mp e1).1
   have ST:=Same.new (o:=.tup [.ref q,.int sv]) hT
   refine ⟨T,_,rfl,SqT.of upd_same,rfl,_,_,rfl,_,_,rfl,rfl,?_⟩
   have hq2:=ST _ _ hq
   have S2:SX l (upd (upd H l (.lst [])) d (.frz od (.dT (kvs cl)))) (upd H1 T (.tup [.ref q,.int sv])):=fun b ob eb nb=>ST _ _ (S1 _ _ eb nb)
   have hl2:=ST _ _ hl1
   generalize upd H1 T (.tup [.ref q,.int sv])=H2 at ST hq2 S2 hl2
   have nql:q≠l:=fun z=>by rw [z,hl2] at hq2;cases hq2
   have len0:(blockC (cl.take i) sg ow).length≤40000:=by
    have:=block_len sg ow (cl.take i)
    rw [List.length_take] at this
    omega
   have fin:∀ {H':Hp} {xs:List Int},blk1 sg ow (p,sv)++blk2 sg ow (p,sv)=xs→H' l=some (.lst ((blockC (cl.take i) sg ow++xs).map V.int))→H' l=some (.lst ((blockC (cl.take (i+1)) sg ow).map V.int)):=fun {H' xs} ex hx=>by
    rw [hx,block_snoc e1,List.append_assoc,ex]
   refine ⟨_,rfl,q,p.1,p.2.1,p.2.2,rfl,hq2,fun t ht=>?_⟩
   have SQ:=Same.new (o:=.tup [.int p.1,.int p.2.1,.int (p.2.2+1)]) ht
   have S3:SX l (upd (upd H l (.lst [])) d (.frz od (.dT (kvs cl)))) (upd H2 t (.tup [.int p.1,.int p.2.1,.int (p.2.2+1)])):=fun b ob eb nb=>SQ _ _ (S2 _ _ eb nb)
   have hl3:=SQ _ _ hl2
   have hq3:=SQ _ _ hq2
   have ht3:upd H2 t (.tup [.int p.1,.int p.2.1,.int (p.2.2+1)]) t=some (.tup [.int (upP p).1,.int (upP p).2.1,.int (upP p).2.2]):=upd_same
   generalize upd H2 t (.tup [.int p.1,.int p.2.1,.int (p.2.2+1)])=H3 at S3 hl3 hq3 ht3
   refine gn_in ?_
   dsimp only
   refine seq_two (A:=tIfS _ _ _) (M:=fun σ' H'=>∃ v7,σ'=[some (.ref d),some (.ref m),some (.ref l),some (.ref q),some (.int sv),some (.ref t),v7]∧SX l (upd (upd H l (.lst [])) d (.frz od (.dT (kvs cl)))) H'∧H' l=some (.lst ((blockC (cl.take i) sg ow++blk1 sg ow (p,sv)).map V.int))∧H' q=some (.tup [.int p.1,.int p.2.1,.int p.2.2])) ?_ (fun nxt=>?_)
   ·rintro σ' H4 ⟨v7,rfl,S4,hl4,hq4⟩
    refine ⟨_,rfl,q,p.1,p.2.1,p.2.2,rfl,hq4,fun u hu'=>?_⟩
    have SU:=Same.new (o:=.tup [.int p.1,.int p.2.1,.int (p.2.2 - 1)]) hu'
    have S5:SX l (upd (upd H l (.lst [])) d (.frz od (.dT (kvs cl)))) (upd H4 u (.tup [.int p.1,.int p.2.1,.int (p.2.2 - 1)])):=fun b ob eb nb=>SU _ _ (S4 _ _ eb nb)
    have hl5:=SU _ _ hl4
    have hu5:upd H4 u (.tup [.int p.1,.int p.2.1,.int (p.2.2 - 1)]) u=some (.tup [.int (dnP p).1,.int (dnP p).2.1,.int (dnP p).2.2]):=upd_same
    generalize upd H4 u (.tup [.int p.1,.int p.2.1,.int (p.2.2 - 1)])=H5 at S5 hl5 hu5
    have no2:blk2 sg ow (p,sv)=[]→H5 l=some (.lst ((blockC (cl.take (i+1)) sg ow).map V.int)):=fun z=>by
     rw [block_snoc e1,z,List.append_nil]
     exact hl5
    refine ⟨_,rfl,sv,rfl,_,rfl,ite2 (fun ht1=>?_) (fun ht1=>iteF ⟨_,_,_,_,rfl,S5,no2 (blk2_tube (by cases z:tubeI sv with|true=>exact rfl|false=>exact absurd (by rw [z];rfl) ht1))⟩)⟩
    have ht1:tubeI sv=false:=by
     cases z:tubeI sv with
     |false=>rfl
     |true=>rw [z] at ht1;cases ht1
    refine ⟨_,rfl,_,rfl,m,CM,dm,_,_,rfl,(S5 _ _ hmL nml),TM.cl,TM.n1,rfl,s,_,rfl,din_of (p:=dnP p) (S5 _ _ hsL nsl) hu5,_,rfl,ite2 (fun hin=>?_) (fun hin=>iteF ⟨_,_,_,_,rfl,S5,no2 (blk2_none ?_)⟩)⟩
    ·rw [Option.isSome_map] at hin
     obtain ⟨sv2,es⟩:=Option.isSome_iff_exists.mp hin
     obtain ⟨ov,eo⟩:=Option.isSome_iff_exists.mp (sub _ hin)
     refine ⟨_,rfl,m,CM,dm,_,_,rfl,(S5 _ _ hmL nml),TM.cl,TM.n1,rfl,_,rfl,s,_,rfl,dget_of (p:=dnP p) (S5 _ _ hsL nsl) hu5 es,sv2,rfl,_,rfl,ite2 (fun hs2=>?_) (fun hs2=>⟨_,_,_,_,rfl,S5,no2 (blk2_stud es hs2)⟩)⟩
     refine ⟨_,rfl,.inl ⟨rfl,_,SqL.of hl5⟩,_,rfl,m,CM,dm,_,_,rfl,(S5 _ _ hmL nml),TM.cl,TM.n2,rfl,_,rfl,o,_,rfl,dget_of (p:=dnP p) (S5 _ _ hoL nol) hu5 eo,l,_,_,rfl,rfl,hl5,?_,?_⟩
     ·have:=blk1_len (sg:=sg) (ow:=ow) (c:=(p,sv))
      rw [List.length_map,List.length_append]
      omega
     ·refine ⟨_,_,_,_,rfl,fun b ob eb nb=>?_,?_⟩
      ·rw [upd_ne nb]
       exact S5 _ _ eb nb
      ·rw [upd_same,block_snoc e1,blk2_yes es ht1 hs2 eo]
       simp only [List.map_append,List.map_cons,List.map_nil]
    ·rw [Option.isSome_map] at hin
     cases z:getC sg (dnP p) with
     |none=>rfl
     |some y=>rw [z] at hin;exact absurd rfl hin
   ·have no1:blk1 sg ow (p,sv)=[]→H3 l=some (.lst ((blockC (cl.take i) sg ow++blk1 sg ow (p,sv)).map V.int)):=fun z=>by
     rw [z,List.append_nil]
     exact hl3
    refine ⟨_,rfl,sv,rfl,_,rfl,ite2 (fun hs1=>?_) (fun hs1=>iteF (nxt _ _ ⟨_,rfl,S3,no1 (blk1_stud hs1),hq3⟩))⟩
    refine ⟨_,rfl,_,rfl,m,CM,dm,_,_,rfl,(S3 _ _ hmL nml),TM.cl,TM.n1,rfl,s,_,rfl,din_of (p:=upP p) (S3 _ _ hsL nsl) ht3,_,rfl,ite2 (fun hin=>?_) (fun hin=>iteF (nxt _ _ ⟨_,rfl,S3,no1 (blk1_none ?_),hq3⟩))⟩
    ·rw [Option.isSome_map] at hin
     obtain ⟨sv2,es⟩:=Option.isSome_iff_exists.mp hin
     obtain ⟨ov,eo⟩:=Option.isSome_iff_exists.mp (sub _ hin)
     refine ⟨_,rfl,m,CM,dm,_,_,rfl,(S3 _ _ hmL nml),TM.cl,TM.n1,rfl,_,rfl,s,_,rfl,dget_of (p:=upP p) (S3 _ _ hsL nsl) ht3 es,sv2,rfl,_,rfl,ite2 (fun ht2=>?_) (fun ht2=>nxt _ _ ⟨_,rfl,S3,no1 (blk1_tube es ?_),hq3⟩)⟩
     ·have ht2:tubeI sv2=false:=by
       cases z:tubeI sv2 with
       |false=>rfl
       |true=>rw [z] at ht2;cases ht2
      refine ⟨_,rfl,.inl ⟨rfl,_,SqL.of hl3⟩,_,rfl,m,CM,dm,_,_,rfl,(S3 _ _ hmL nml),TM.cl,TM.n2,rfl,_,rfl,o,_,rfl,dget_of (p:=upP p) (S3 _ _ hoL nol) ht3 eo,l,_,_,rfl,rfl,hl3,?_,nxt _ _ ?_⟩
      ·rw [List.length_map]
       omega
      ·refine ⟨_,rfl,fun b ob eb nb=>?_,?_,?_⟩
       ·rw [upd_ne nb]
        exact S3 _ _ eb nb
       ·rw [upd_same,blk1_yes es hs1 ht2 eo]
        simp only [List.map_append,List.map_cons,List.map_nil]
       ·rw [upd_ne nql]
        exact hq3
     ·cases z:tubeI sv2 with
      |true=>rfl
      |false=>exact absurd (by rw [z];rfl) ht2
    ·rw [Option.isSome_map] at hin
     cases z:getC sg (upP p) with
     |none=>rfl
     |some y=>rw [z] at hin;exact absurd rfl hin
  ·rintro σ H1 ⟨v4,v5,v6,v7,rfl,S1,hl1⟩
   rw [kvs_len,List.take_length] at hl1
   refine ⟨S1 _ _ hdL ndl,?_⟩
   have S2:=lock_sx hd hl S1
   have hl2:upd H1 d (.dT (kvs cl)) l=some (.lst ((blockC cl sg ow).map V.int)):=by rw [upd_ne (Ne.symm ndl)];exact hl1
   exact ⟨_,rfl,k _ l S2 hl hl2⟩
end
end Br1
set_option Elab.async false
set_option linter.all false
set_option maxRecDepth 100000
set_option maxHeartbeats 8000000
namespace L2
open PySem PySem.Spec PyProof.Rows
theorem for_enumL {K:PySem.W.Frag} {a:Addr} {xs:List V} {g:TG} {tb:TS} {D:Ends} {σ:St} {H:Hp} (Pv:Nat→St→Hp→Prop) (h0:Pv 0 σ H) (hl:∀ i σ H,i≤xs.length→Pv i σ H→SqL K H a xs)
  (hs:∀ i x σ H T,xs[i]?=some x→Pv i σ H→H T=none→g (.ref T) σ (upd H T (.tup [.int (i:Nat),x])) fun σ2 H2=>tb {D with nx:=Pv (i+1),ct:=Pv (i+1),bk:=D.nx} σ2 H2) (hd:∀ σ H,Pv xs.length σ H→D.nx σ H):
  ∃ W:Nat→Nat→St→Hp→Prop,(∃ m,W 0 m σ H)∧∀ i m σ H,W i m σ H→
   ((Ite K a).stop i H∧D.nx σ H)∨((Ite K a).go i H∧∃ N:St→Hp→Prop,(∀ σ' H',N σ' H'→∃ m',m'<m∧W (i+1) m' σ' H')∧∀ x H',(Ite K a).yld i H x H'→g x σ H' fun σ2 H2=>tb {D with nx:=N,ct:=N,bk:=D.nx} σ2 H2):=by
 refine ⟨fun i m σ H=>m=xs.length - i∧i≤xs.length∧Pv i σ H,⟨xs.length,by simp,Nat.zero_le _,h0⟩,?_⟩
 rintro i m σ H ⟨rfl,hi,p⟩
 have q:=hl i σ H hi p
 by_cases hlt:i<xs.length
 ·refine .inr ⟨⟨xs,xs[i],q,by simp [hlt]⟩,Pv (i+1),fun σ' H' p'=>⟨xs.length - (i+1),by omega,rfl,hlt,p'⟩,fun x H' y=>?_⟩
  obtain ⟨T,x',rfl,hT,rfl,y⟩:=y
  exact hs i x' σ H T (y xs q) p hT
 ·have e:i=xs.length:=by omega
  subst e
  exact .inl ⟨⟨xs,q,Nat.le_refl _⟩,hd σ H p⟩
end L2
namespace Br1
open PySem PySem.Spec PyProof.Rows L2
theorem hit_snoc {ow cl:CL} {i:Nat} {c:Pl×Int} (e:cl[i]?=some c):hitC ow (cl.take (i+1))=hitC ow (cl.take i)++(getC ow c.1).toList:=by
 unfold hitC
 rw [List.take_succ,e,List.filterMap_append]
 show _++List.filterMap _ [c]=_
 cases h:getC ow c.1<;>simp [h]
theorem hit_len (ow cl:CL):(hitC ow cl).length≤cl.length:=by
 unfold hitC
 exact List.length_filterMap_le _ _
theorem hit_free {ow cl:CL} (h:¬0<(hitC ow cl).length):∀ c∈cl,getC ow c.1=none:=by
 intro c hc
 cases e:getC ow c.1 with
 |none=>rfl
 |some k=>
  have:k∈hitC ow cl:=List.mem_filterMap.mpr ⟨c,hc,e⟩
  exact absurd (List.length_pos_of_mem this) h
def tag1 (j:Nat) (cl:CL):CL:=cl.map fun c=>(c.1,(j:Int))
theorem put_tag {dct cl:CL} {i:Nat} {p:Pl} {s v:Int} (f:Pl×Int→Pl×Int) (hf:∀ c,(f c).1=c.1) (nd:(cl.map (·.1)).Nodup) (fr:∀ c∈cl,getC dct c.1=none) (e:cl[i]?=some (p,s)) (hv:(f (p,s)).2=v):
  putK (kvs (dct++(cl.take i).map f)) (key3 p.1 p.2.1 p.2.2) (V.int v)=kvs (dct++(cl.take (i+1)).map f):=by
 rw [put_new]
 ·rw [List.take_succ,e,List.map_append,List.append_assoc]
  show kvs (dct++(_++[(p,v)]))=kvs (dct++(_++[f (p,s)]))
  rw [←hv]
  have:f (p,s)=(p,(f (p,s)).2):=Prod.ext (hf _) rfl
  rw [←this]
 ·rw [getC_app,fr _ (List.mem_of_getElem? e)]
  show getC _ _=none
  refine getC_none fun c hc z=>?_
  obtain ⟨c0,h0,rfl⟩:=List.mem_map.mp hc
  rw [hf] at z
  exact take_fresh nd e c0 h0 z
def wrongC (cl sg ow:CL) (j:Int):List Int:=if 0<(hitC ow cl).length then [2,j,minL (hitC ow cl)] else if 0<(blockC cl sg ow).length then [3,j,minL (blockC cl sg ow)] else []
section
variable {P:Program} {w:World} {K:PySem.W.Frag} {mg:Str→Option Value} {base:Heap} {C CR CP CB CG CM:Addr}
def spWrongW (CM:Addr):Sp:=fun vs H Q _=>∃ (d m dm wr s o:Addr) (cl sg ow:CL) (j:Int),vs=[.ref m,.ref d,.int j]∧H m=some (.ins CM dm (RmF s o wr))∧H d=some (.dT (kvs cl))∧H s=some (.dT (kvs sg))∧H o=some (.dT (kvs ow))∧d≠s∧d≠o∧(∀ p,(getC sg p).isSome=true→(getC ow p).isSome=true)∧cl.length<20000∧
 ∀ (H':Hp) (l:Addr),Same H H'→H l=none→H' l=some (.lst ((wrongC cl sg ow j).map V.int))→Q (.ref l) H'
abbrev nWrongW:List Str:=["room","cells","j","hit","blocked","place"]
theorem sc_wrongW:FnScope nWrongW ["room","cells","j"] (defScope sWrongW):=⟨rfl,rfl,rfl,by decide+kernel,rfl,by decide+kernel,by decide+kernel⟩
theorem ok_wrongW {f:Addr} {fd:FuncData} (F:Fun K "wrong_with" "wrong_with" sWrongW f fd) (TM:RmT K CM) (hlen:mg "len"=none) (hmin:mg "min"=none) (L1:Fn0 P w K mg base "blocked_lines" CX0 2 ["cells","room"] (spBlocked CM)):FnOk P w K mg base CX0 3 f fd ["room","cells","j"] (spWrongW CM):=by
 obtain ⟨g1,gd1,G1,b1,k1,h1⟩:=L1.ex
 refine F.ok sc_wrongW (fun vs H Q E h=>?_) (fun cdv A outer s H vs Q E hr h=>?_)
 ·obtain ⟨d,m,dm,wr,s,o,cl,sg,ow,j,rfl,_⟩:=h
  rfl
 ·obtain ⟨d,m,dm,wr,s,o,cl,sg,ow,j,rfl,hm,hd,hs,ho,nds,ndo,sub,ln,k⟩:=h
  have hr2:=hr.mono (j:=2) (by decide)
  have hu:=hu_of hr
  have hsz:=sizeLine_huge
  refine ⟨_,pss_cons (ps_lock (ps_setLc (i:=3) (tt:=tB (tDIn (tVar 5) (tFld K (tVar 0) "owners"))) (te:=tDGet (tFld K (tVar 0) "owners") (tVar 5)) (own:=[("place",5)]) rfl sc_wrongW.nd rfl rfl rfl (pi_keys (pv 1)) (blkOk_by (N:=nWrongW) (sc:=defScope sWrongW) (by decide+kernel))
     (fun _ _ _ _ _=>pg_name (i:=5) sc_wrongW.nd rfl (Or.inl rfl)) (fun _ _ _ _ _=>pts_one (pt_cmp (pc_din hu (pv 5) (pe_fld (pv 0) rfl)))) (fun _ _ _ _ _=>pe_dget hu (pe_fld (pv 0) rfl) (pv 5) (fun _ _=>rfl))))
   (pss_cons (ps_if (pt_cmp (pc_gt (pe_callB call_len_seq (by rfl) hlen PySem.boot_len (pa_cons (pv 3) pa_nil)) pe_int)) (pss_one (ps_ret (pe_lst (pa_cons pe_int (pa_cons (pv 2) (pa_cons (pe_callB (cr_min rfl) (by rfl) hmin boot_min (pa_cons (pv 3) pa_nil)) pa_nil)))))) pss_nil)
   (pss_cons (ps_set (i:=4) sc_wrongW.nd rfl (Or.inl rfl) (pe_call G1 hr2 (by rfl) h1 k1 b1 .nil pass0 (pa_cons (pv 1) (pa_cons (pv 0) pa_nil))))
   (pss_cons (ps_if (pt_cmp (pc_gt (pe_callB call_len_seq (by rfl) hlen PySem.boot_len (pa_cons (pv 4) pa_nil)) pe_int)) (pss_one (ps_ret (pe_lst (pa_cons pe_int (pa_cons (pv 2) (pa_cons (pe_callB (cr_min rfl) (by rfl) hmin boot_min (pa_cons (pv 4) pa_nil)) pa_nil)))))) pss_nil)
   (pss_one (ps_ret (pe_lst pa_nil)))))),?_⟩
  refine ⟨d,_,hd,trivial,fun od=>?_⟩
  have nmd:m≠d:=fun z=>by rw [z,hd] at hm;cases hm
  have hdL:upd H d (.frz od (.dT (kvs cl))) d=some (.frz od (.dT (kvs cl))):=upd_same
  have hoL:upd H d (.frz od (.dT (kvs cl))) o=some (.dT (kvs ow)):=by rw [upd_ne (Ne.symm ndo)];exact ho
  have hmL:upd H d (.frz od (.dT (kvs cl))) m=some (.ins CM dm (RmF s o wr)):=by rw [upd_ne nmd];exact hm
  refine ⟨_,rfl,d,od,rfl,.inr ⟨kvs cl,hdL,fun Dl hDl=>?_⟩⟩
  refine lc_keysT (fun i H'=>Same (upd H d (.frz od (.dT (kvs cl)))) H'∧H' Dl=some (.lst ((hitC ow (cl.take i)).map V.int))) ⟨Same.new hDl,upd_same⟩ (fun i H' _ p=>p.1 _ _ hdL) ?_ ?_
  ·rintro i kk vv q H5 e5 ⟨S5,hD5⟩ hq
   obtain ⟨p,sv,e6,rfl,rfl⟩:=kvs_get e5
   have hi:i<cl.length:=(List.getElem?_eq_some_iff.mp e6).1
   refine ⟨rfl,_,rfl,_,rfl,m,CM,dm,_,_,rfl,S5 _ _ hmL,TM.cl,TM.n2,rfl,o,_,rfl,din_of (p:=p) (S5 _ _ hoL) hq,_,rfl,ite2 (fun hin=>?_) (fun hin=>?_)⟩
   ·rw [Option.isSome_map] at hin
    obtain ⟨ov,eo⟩:=Option.isSome_iff_exists.mp hin
    refine ⟨_,rfl,m,CM,dm,_,_,rfl,S5 _ _ hmL,TM.cl,TM.n2,rfl,_,rfl,o,_,rfl,dget_of (p:=p) (S5 _ _ hoL) hq eo,_,hD5,?_,fun b2 ob eb2=>?_,?_⟩
    ·rw [List.length_map]
     have:=hit_len ow (cl.take i)
     rw [List.length_take] at this
     omega
    ·rw [upd_ne (ne_of_none eb2 hDl)]
     exact S5 _ _ eb2
    ·rw [upd_same,hit_snoc e6]
     show some (HO.lst _)=some (HO.lst ((hitC ow (cl.take i)++(getC ow p).toList).map V.int))
     rw [eo,List.map_append]
     rfl
   ·refine ⟨S5,?_⟩
    rw [Option.isSome_map] at hin
    rw [hit_snoc e6]
    show _=some (HO.lst ((hitC ow (cl.take i)++(getC ow p).toList).map V.int))
    cases z:getC ow p with
    |none=>show _=some (HO.lst ((hitC ow (cl.take i)++[]).map V.int));rw [List.append_nil];exact hD5
    |some y=>rw [z] at hin;exact absurd rfl hin
  ·rintro H5 ⟨S5,hD5⟩
   rw [kvs_len,List.take_length] at hD5
   refine ⟨S5 _ _ hdL,?_⟩
   have S6:=lock_same hd S5
   have nDd:Dl≠d:=fun z=>by rw [z,hdL] at hDl;cases hDl
   have hDH:H Dl=none:=by rw [upd_ne nDd] at hDl;exact hDl
   have hD6:upd H5 d (.dT (kvs cl)) Dl=some (.lst ((hitC ow cl).map V.int)):=by rw [upd_ne nDd];exact hD5
   have hd6:upd H5 d (.dT (kvs cl)) d=some (.dT (kvs cl)):=upd_same
   generalize upd H5 d (.dT (kvs cl))=H6 at S6 hD6 hd6
   unfold wrongC at k
   refine ⟨_,rfl,Dl,_,rfl,.inl (SqL.of hD6),_,_,rfl,rfl,_,rfl,ite2 (fun hh=>?_) (fun hh=>?_)⟩
   ·have hh:(0:Int)<(((hitC ow cl).map V.int).length:Int):=of_decide_eq_true hh
    rw [List.length_map] at hh
    have hh2:0<(hitC ow cl).length:=by omega
    rw [if_pos hh2] at k
    refine ⟨_,rfl,_,rfl,Dl,_,rfl,SqL.of hD6,hh2,fun mn hm1 hm2=>⟨by show 3≤sizeLine;decide,fun l hl=>?_⟩⟩
    refine k _ l (S6.trans (Same.new hl)) (S6.free hl) ?_
    rw [upd_same,←minL_uq hm1 hm2]
    rfl
   ·have hh:¬(0:Int)<(((hitC ow cl).map V.int).length:Int):=fun z=>hh (decide_eq_true z)
    rw [List.length_map] at hh
    have hh2:¬0<(hitC ow cl).length:=by omega
    rw [if_neg hh2] at k
    refine ⟨_,rfl,_,rfl,d,m,dm,wr,s,o,cl,sg,ow,rfl,S6 _ _ hm,hd6,S6 _ _ hs,S6 _ _ ho,nds,ndo,sub,ln,fun H7 bl S7 hb6 hb7=>?_⟩
    have S67:=S6.trans S7
    refine ⟨_,rfl,bl,_,rfl,.inl (SqL.of hb7),_,_,rfl,rfl,_,rfl,ite2 (fun hh=>?_) (fun hh=>?_)⟩
    ·have hh:(0:Int)<(((blockC cl sg ow).map V.int).length:Int):=of_decide_eq_true hh
     rw [List.length_map] at hh
     have hh3:0<(blockC cl sg ow).length:=by omega
     rw [if_pos hh3] at k
     refine ⟨_,rfl,_,rfl,bl,_,rfl,SqL.of hb7,hh3,fun mn hm1 hm2=>⟨by show 3≤sizeLine;decide,fun l hl=>?_⟩⟩
     refine k _ l (S67.trans (Same.new hl)) (S67.free hl) ?_
     rw [upd_same,←minL_uq hm1 hm2]
     rfl
    ·have hh:¬(0:Int)<(((blockC cl sg ow).map V.int).length:Int):=fun z=>hh (decide_eq_true z)
     rw [List.length_map] at hh
     have hh3:¬0<(blockC cl sg ow).length:=by omega
     rw [if_neg hh3] at k
     exact ⟨Nat.zero_le _,fun l hl=>k _ l (S67.trans (Same.new hl)) (S67.free hl) upd_same⟩
end
end Br1
set_option Elab.async false
set_option linter.all false
set_option maxRecDepth 100000
set_option maxHeartbeats 8000000
namespace Br1
open PySem PySem.Spec PyProof.Rows L2
theorem leavesL_nat {prs:List PartR} (ok:∀ pr∈prs,PrOk pr) {x:List Nat} (hx:LnOk prs.length x):leavesL prs (lnI x)=leavesC (tpAt prs x) (lnN x 2) (lnN x 3) (lnN x 4):=by
 rw [←leaves_eq ok hx.2]
 obtain ⟨a0,a1,a2,a3,a4,a5,rfl⟩:=six hx.1
 show leavesI prs ((a0:Int).toNat) ((a5:Int).toNat) a2 a3 a4=leavesI prs a0 a5 a2 a3 a4
 rw [Int.toNat_natCast,Int.toNat_natCast]
theorem zs_snoc {prs:List PartR} {ls:List (List Nat)} {j:Nat} {x:List Nat} (e:ls[j]?=some x):zsOf prs (ls.take (j+1))=zsOf prs (ls.take j)++[(Br.Line.shape (prs.map toP) (toL x),cellsAt prs x)]:=by
 unfold zsOf
 rw [List.take_succ,e,List.map_append]
 rfl
theorem zs_len {prs:List PartR} {ls:List (List Nat)}:(zsOf prs ls).length=ls.length:=List.length_map _
def RoomAt (CM:Addr) (H:Hp) (m:Addr) (prs:List PartR) (ls:List (List Nat)):Prop:=∃ (dm s o wr:Addr) (sg ow:CL),H m=some (.ins CM dm (RmF s o wr))∧H wr=some (.lst ((firstC prs 0 [] [] ls).map V.int))∧H s=some (.dT (kvs sg))∧H o=some (.dT (kvs ow))∧s≠o∧
 (firstC prs 0 [] [] ls=[]→sg=sgZ (zsOf prs ls)∧ow=owZ (zsOf prs ls))∧sg.length≤5120000∧ow.length≤5120000
structure FW (CM:Addr) (H:Hp) (m dm s o:Addr) (prs:List PartR) (ls:List (List Nat)) (j:Nat) (sg ow:CL) (H':Hp):Prop where
 sm:Same H H'
 hm:∃ wr,H' m=some (.ins CM dm (RmF s o wr))∧H' wr=some (.lst [])
 hs:H' s=some (.dT (kvs sg))
 ho:H' o=some (.dT (kvs ow))
 sub:∀ p,(getC sg p).isSome=true→(getC ow p).isSome=true
 l1:sg.length≤j * 20000
 l2:ow.length≤j * 20000
 er:firstC prs 0 [] [] ls=firstC prs j sg ow (ls.drop j)
 eg:sg=sgZ (zsOf prs (ls.take j))
 eo:ow=owZ (zsOf prs (ls.take j))
theorem FW.same {CM:Addr} {H:Hp} {m dm s o:Addr} {prs:List PartR} {ls:List (List Nat)} {j:Nat} {sg ow:CL} {H1 H2:Hp} (f:FW CM H m dm s o prs ls j sg ow H1) (S:Same H1 H2):FW CM H m dm s o prs ls j sg ow H2:=by
 obtain ⟨wr,h1,h2⟩:=f.hm
 exact ⟨f.sm.trans S,⟨wr,S _ _ h1,S _ _ h2⟩,S _ _ f.hs,S _ _ f.ho,f.sub,f.l1,f.l2,f.er,f.eg,f.eo⟩
theorem fld_via {K:PySem.W.Frag} {ta tv:TE} {f:Str} {B:TS} {D:Ends} {σ:List (Option V)} {H:Hp} (M:V→Hp→Prop) (h1:∀ Q:VK,(∀ y H',M y H'→Q y H')→tv σ H Q) (h2:∀ y H',M y H'→sFld K ta (tC y) f {D with nx:=B D} σ H'):tSeq (sFld K ta tv f) B D σ H:=h1 _ h2
section
variable {P:Program} {w:World} {K:PySem.W.Frag} {mg:Str→Option Value} {base:Heap} {C CR CP CB CG CM:Addr}
def spFill (K:PySem.W.Frag) (CP CM:Addr):Sp:=fun vs H Q _=>∃ (pa la:Addr) (bs ts:List Addr) (prs:List PartR) (ls:List (List Nat)),vs=[.ref pa,.ref la]∧H pa=some (.lst (bs.map V.ref))∧PartsAt CP H bs prs∧H la=some (.lst (ts.map V.ref))∧LinesAt H ts ls∧
 (∀ pr∈prs,PrOk pr)∧(∀ x∈ls,LnOk prs.length x∧lnN x 5≤3)∧ls.length≤256∧∀ (H':Hp) (m:Addr),Same H H'→H m=none→RoomAt CM H' m prs ls→Q (.ref m) H'
abbrev nFill:List Str:=["parts","lines","room","j","put","cells","place","sign"]
theorem sc_fill:FnScope nFill ["parts","lines"] (defScope sFill):=⟨rfl,rfl,rfl,by decide+kernel,rfl,by decide+kernel,by decide+kernel⟩
theorem ok_fill {f:Addr} {fd:FuncData} (F:Fun K "fill_room" "fill_room" sFill f fd) (TM:RmT K CM) (RM:RmM P w K mg base CM) (hlen:mg "len"=none) (henum:mg "enumerate"=none) (L1:Fn0 P w K mg base "cells_in_room" CX0 5 ["parts","put"] (spRoom K CP))
  (L2:Fn0 P w K mg base "leaves_room" CX0 2 ["parts","put"] (spLeaves K CP)) (L3:Fn0 P w K mg base "wrong_with" CX0 3 ["room","cells","j"] (spWrongW CM)):FnOk P w K mg base CX0 6 f fd ["parts","lines"] (spFill K CP CM):=by
 obtain ⟨g1,gd1,G1,b1,k1,h1⟩:=L1.ex
 obtain ⟨g2,gd2,G2,b2,k2,h2⟩:=L2.ex
 obtain ⟨g3,gd3,G3,b3,k3,h3⟩:=L3.ex
 obtain ⟨fm,fmd,MM,GM,bM⟩:=RM.ex
 refine F.ok sc_fill (fun vs H Q E h=>?_) (fun cdv A outer s H vs Q E hr h=>?_)
 ·obtain ⟨pa,la,bs,ts,prs,ls,rfl,_⟩:=h
  rfl
 ·obtain ⟨pa,la,bs,ts,prs,ls,rfl,hpa,hps,hla,hls,hok,hln,h256,k⟩:=h
  have hr2:=hr.mono (j:=2) (by decide)
  have hr3:=hr.mono (j:=3) (by decide)
  have hu:=hu_of hr
  have hsz:=sizeLine_huge
  refine ⟨_,pss_cons (ps_set (i:=2) sc_fill.nd rfl (Or.inl rfl) (pe_make0 MM GM hr2 (by rfl) RM.mg bM .nil pass0))
   (pss_cons (ps_for PassesOwn.never rfl (pi_enum (by rfl) henum (pa_cons (pv 1) pa_nil)) (pg_tup rfl (pgs_cons (pg_name (i:=3) sc_fill.nd rfl (Or.inl rfl)) (pgs_cons (pg_name (i:=4) sc_fill.nd rfl (Or.inl rfl)) pgs_nil)))
    (pss_cons (ps_set (i:=5) sc_fill.nd rfl (Or.inl rfl) (pe_call G1 hr (by rfl) h1 k1 b1 .nil pass0 (pa_cons (pv 0) (pa_cons (pv 4) pa_nil))))
    (pss_cons (ps_fld (pv 2) (pe_ifExp (pt_val (pe_call G2 hr2 (by rfl) h2 k2 b2 .nil pass0 (pa_cons (pv 0) (pa_cons (pv 4) pa_nil)))) (pe_lst (pa_cons pe_int (pa_cons (pv 3) (pa_cons (pv 3) pa_nil)))) (pe_call G3 hr3 (by rfl) h3 k3 b3 .nil pass0 (pa_cons (pv 2) (pa_cons (pv 5) (pa_cons (pv 3) pa_nil))))) rfl)
    (pss_cons (ps_if (pt_cmp (pc_gt (pe_callB call_len_seq (by rfl) hlen PySem.boot_len (pa_cons (pe_fld (pv 2) rfl) pa_nil)) pe_int)) (pss_one (ps_ret (pv 2))) pss_nil)
    (pss_one (ps_lock (ps_for PassesOwn.never rfl (pi_itemsT (pv 5)) (pg_tup rfl (pgs_cons (pg_name (i:=6) sc_fill.nd rfl (Or.inl rfl)) (pgs_cons (pg_name (i:=7) sc_fill.nd rfl (Or.inl rfl)) pgs_nil)))
     (pss_cons (ps_dput hu (pe_fld (pv 2) rfl) (pv 6) (pv 7) rfl) (pss_one (ps_dput hu (pe_fld (pv 2) rfl) (pv 6) (pv 3) rfl))))))))))
   (pss_one (ps_ret (pv 2)))),?_⟩
  intro m dm hmH hdmH hne
  refine ⟨m,dm,rfl,upd_same,fun H1 s0 o0 wr0 hm1 hs1 ho1 hw1 fs fo fw0 nso sx=>⟨rfl,?_⟩⟩
  have S1:Same H H1:=fun y o e=>sx y o (by rw [upd_ne (ne_of_none e hmH),upd_ne (ne_of_none e hdmH)];exact e) (ne_of_none e hmH)
  have nsm:s0≠m:=fun z=>by rw [z,upd_same] at fs;cases fs
  have nom:o0≠m:=fun z=>by rw [z,upd_same] at fo;cases fo
  have nsd:s0≠dm:=fun z=>by rw [z,upd_ne hne,upd_same] at fs;cases fs
  have nod:o0≠dm:=fun z=>by rw [z,upd_ne hne,upd_same] at fo;cases fo
  have hsH:H s0=none:=by rw [upd_ne nsm,upd_ne nsd] at fs;exact fs
  have hoH:H o0=none:=by rw [upd_ne nom,upd_ne nod] at fo;exact fo
  have hl2:ts.length=ls.length:=Paired.length hls
  refine ⟨_,rfl,la,_,rfl,SqL.of (S1 _ _ hla),?_⟩
  refine for_enumL (xs:=ts.map V.ref) (fun j σ H'=>∃ sg ow v3 v4 v5 v6 v7,σ=[some (.ref pa),some (.ref la),some (.ref m),v3,v4,v5,v6,v7]∧FW CM H m dm s0 o0 prs ls j sg ow H')
   ⟨[],[],none,none,none,none,none,rfl,S1,⟨wr0,hm1,hw1⟩,hs1,ho1,fun p z=>(by cases z),(by simp),(by simp),rfl,rfl,rfl⟩ ?_ ?_ ?_
  ·rintro i σ H2 hi ⟨sg,ow,v3,v4,v5,v6,v7,rfl,fw⟩
   exact SqL.of (fw.sm _ _ hla)
  ·rintro j xv σ H2 T ex ⟨sg,ow,v3,v4,v5,v6,v7,rfl,fw⟩ hT
   have hj:j<ls.length:=by
    have:=(List.getElem?_eq_some_iff.mp ex).1
    rwa [List.length_map,hl2] at this
   obtain ⟨x,elx⟩:∃ x,ls[j]?=some x:=⟨_,List.getElem?_eq_getElem hj⟩
   obtain ⟨t,et,ht,hx6⟩:=paired_at hls elx
   rw [List.getElem?_map,et] at ex
   cases ex
   obtain ⟨hx0,hx5⟩:=hln x (List.mem_of_getElem? elx)
   have edrop:ls.drop j=x::ls.drop (j+1):=by
    obtain ⟨h0,h1⟩:=List.getElem?_eq_some_iff.mp elx
    rw [List.drop_eq_getElem_cons h0,h1]
   have er:=fw.er
   rw [edrop,firstC] at er
   have ezs:=zs_snoc (prs:=prs) elx
   have etk:(ls.take j).length=j:=by rw [List.length_take];omega
   obtain ⟨sr,_⟩:=line_rep hok hx0.2
   have clnd:=sr.nd
   have ST:=Same.new (o:=.tup [.int (j:Nat),.ref t]) hT
   refine ⟨T,_,rfl,SqT.of upd_same,rfl,_,_,rfl,_,_,rfl,rfl,?_⟩
   have fw3:=fw.same ST
   generalize upd H2 T (.tup [.int (j:Nat),.ref t])=H3 at fw3
   have hps3:PartsAt CP H3 bs prs:=Paired.mapP hps fun _ _ z=>⟨z.1.same fw3.sm,z.2⟩
   refine ⟨_,rfl,_,rfl,pa,t,bs,prs,x,rfl,SqL.of (fw3.sm _ _ hpa),hps3,hok,fw3.sm _ _ ht,hx0,hx5,fun H4 d S4 hd3 hd4=>?_⟩
   have fw4:=fw3.same S4
   have nds:d≠s0:=fun z=>by rw [z,fw3.hs] at hd3;cases hd3
   have ndo:d≠o0:=fun z=>by rw [z,fw3.ho] at hd3;cases hd3
   have clln:(cellsAt prs x).length<20000:=by
    obtain ⟨pr,epr⟩:∃ pr,prs[lnN x 0]?=some pr:=⟨_,List.getElem?_eq_getElem hx0.2⟩
    obtain ⟨b,eb,hbp,hbo⟩:=paired_at hps epr
    have tok:TpOk (tpOf pr):=⟨(rep0 (hok pr (List.mem_of_getElem? epr))).nd,hbo.len⟩
    have etp:tpAt prs x=turnsN (tpOf pr) (lnN x 5):=by
     unfold tpAt
     rw [epr]
     rfl
    unfold cellsAt roomC
    rw [List.length_map,etp]
    exact (tok.turns _).ln
   have hlv:=leavesL_nat hok hx0
   generalize cellsAt prs x=cl at er hd4 clnd clln ezs
   have hps4:PartsAt CP H4 bs prs:=Paired.mapP hps fun _ _ z=>⟨z.1.same fw4.sm,z.2⟩
   obtain ⟨wr,hm4,hwr4⟩:=fw4.hm
   have nmd:m≠d:=fun z=>by rw [z,hd4] at hm4;cases hm4
   refine gn_in ?_
   dsimp only
   refine fld_via (fun y H5=>∃ (l:Addr) (ws:List Int),y=.ref l∧Same H4 H5∧H4 l=none∧H5 l=some (.lst (ws.map V.int))∧(0<ws.length→firstC prs 0 [] [] ls=ws)∧(ws=[]→firstC prs 0 [] [] ls=firstC prs (j+1) (sg++cl) (ow++cl.map fun c=>(c.1,(j:Int))) (ls.drop (j+1))∧¬0<(hitC ow cl).length)) (fun Q2 nxt=>?_) ?_
   ·have hput:PutI H4 t (lnI x):=⟨by rw [←ntV_eq];exact fw4.sm _ _ ht,by unfold lnI;rw [List.length_map];exact hx6⟩
    have hy0:iN (lnI x) 0=(lnN x 0:Int):=by
     obtain ⟨a0,a1,a2,a3,a4,a5,rfl⟩:=six hx6
     rfl
    have hy5:iN (lnI x) 5=(lnN x 5:Int):=by
     obtain ⟨a0,a1,a2,a3,a4,a5,rfl⟩:=six hx6
     rfl
    refine ⟨_,rfl,_,rfl,pa,t,bs,prs,lnI x,rfl,SqL.of (fw4.sm _ _ hpa),hps4,hput,by rw [hy0];omega,by rw [hy0,Int.toNat_natCast];exact hx0.2,by rw [hy5];omega,fun H5 S5=>⟨_,rfl,ite2 (fun hl=>?_) (fun hl=>?_)⟩⟩
    ·rw [hlv] at hl
     rw [if_pos hl] at er
     refine ⟨_,rfl,_,rfl,by show 3≤sizeLine;decide,fun l hl=>nxt _ _ ⟨l,[1,(j:Int),(j:Int)],rfl,S5.trans (Same.new hl),S5.free hl,upd_same,fun _=>er,fun z=>(by cases z)⟩⟩
    ·rw [hlv] at hl
     rw [if_neg hl] at er
     refine ⟨_,rfl,_,rfl,_,rfl,d,m,dm,wr,s0,o0,cl,sg,ow,(j:Int),rfl,S5 _ _ hm4,S5 _ _ hd4,S5 _ _ fw4.hs,S5 _ _ fw4.ho,nds,ndo,fw.sub,clln,fun H6 l S6 hlf hl6=>nxt _ _ ⟨l,wrongC cl sg ow (j:Int),rfl,S5.trans S6,S5.free hlf,hl6,fun hw=>?_,fun hw=>?_⟩⟩
     ·unfold wrongC at hw ⊢
      by_cases hh:0<(hitC ow cl).length
      ·rw [if_pos hh] at er ⊢
       exact er
      ·rw [if_neg hh] at er hw ⊢
       by_cases hb:0<(blockC cl sg ow).length
       ·rw [if_pos hb] at er ⊢
        exact er
       ·rw [if_neg hb] at hw
        cases hw
     ·unfold wrongC at hw
      by_cases hh:0<(hitC ow cl).length
      ·rw [if_pos hh] at hw
       cases hw
      ·rw [if_neg hh] at er hw
       by_cases hb:0<(blockC cl sg ow).length
       ·rw [if_pos hb] at hw
        cases hw
       ·rw [if_neg hb] at er
        exact ⟨er,hh⟩
   ·rintro y H5 ⟨l,ws,rfl,S5,hlf,hl5,ew1,ew2⟩
    have nlm:l≠m:=fun z=>by rw [z,hm4] at hlf;cases hlf
    refine ⟨_,rfl,m,CM,dm,_,rfl,S5 _ _ hm4,TM.cl,TM.n3,(by show 3<1000;decide),?_⟩
    have hm6:upd H5 m (.ins CM dm (RmF s0 o0 l)) m=some (.ins CM dm (RmF s0 o0 l)):=upd_same
    have hl6:upd H5 m (.ins CM dm (RmF s0 o0 l)) l=some (.lst (ws.map V.int)):=by rw [upd_ne nlm];exact hl5
    have S6:∀ y o,H4 y=some o→y≠m→upd H5 m (.ins CM dm (RmF s0 o0 l)) y=some o:=fun y o e n=>by rw [upd_ne n];exact S5 _ _ e
    have S6H:Same H (upd H5 m (.ins CM dm (RmF s0 o0 l))):=fun y o e=>S6 y o (fw4.sm _ _ e) (ne_of_none e hmH)
    have nsm':s0≠m:=nsm
    have hs6:=S6 _ _ fw4.hs nsm
    have ho6:=S6 _ _ fw4.ho nom
    have hd6:=S6 _ _ hd4 (Ne.symm nmd)
    show tSeq _ _ _ _ (upd H5 m (.ins CM dm (RmF s0 o0 l)))
    generalize upd H5 m (.ins CM dm (RmF s0 o0 l))=H6 at hm6 hl6 S6H hs6 ho6 hd6
    refine ⟨_,rfl,m,CM,dm,_,_,rfl,hm6,TM.cl,TM.n3,rfl,l,_,rfl,.inl (SqL.of hl6),_,_,rfl,rfl,_,rfl,ite2 (fun hh=>?_) (fun hh=>?_)⟩
    ·have hh:(0:Int)<((ws.map V.int).length:Int):=of_decide_eq_true hh
     rw [List.length_map] at hh
     have e1:=ew1 (by omega)
     refine ⟨_,rfl,k _ m S6H hmH ⟨dm,s0,o0,l,sg,ow,hm6,by rw [e1];exact hl6,hs6,ho6,nso,fun z=>?_,by have:=fw.l1;omega,by have:=fw.l2;omega⟩⟩
     rw [e1] at z
     rw [z] at hh
     cases hh
    ·have hh:¬(0:Int)<((ws.map V.int).length:Int):=fun z=>hh (decide_eq_true z)
     rw [List.length_map] at hh
     have ews:ws=[]:=List.eq_nil_of_length_eq_zero (by omega)
     obtain ⟨er2,hh2⟩:=ew2 ews
     subst ews
     have frO:=hit_free hh2
     have frS:∀ c∈cl,getC sg c.1=none:=fun c hc=>by
      cases z:getC sg c.1 with
      |none=>rfl
      |some y=>
       have:=fw.sub c.1 (by rw [z];rfl)
       rw [frO c hc] at this
       cases this
     refine ⟨d,_,hd6,trivial,fun od2=>?_⟩
     have hdM:upd H6 d (.frz od2 (.dT (kvs cl))) d=some (.frz od2 (.dT (kvs cl))):=upd_same
     have hsM:upd H6 d (.frz od2 (.dT (kvs cl))) s0=some (.dT (kvs sg)):=by rw [upd_ne (Ne.symm nds)];exact hs6
     have hoM:upd H6 d (.frz od2 (.dT (kvs cl))) o0=some (.dT (kvs ow)):=by rw [upd_ne (Ne.symm ndo)];exact ho6
     have hmM:upd H6 d (.frz od2 (.dT (kvs cl))) m=some (.ins CM dm (RmF s0 o0 l)):=by rw [upd_ne nmd];exact hm6
     refine ⟨_,rfl,d,od2,_,rfl,hdM,?_⟩
     refine for_items (fun i σ H'=>∃ v6 v7,σ=[some (.ref pa),some (.ref la),some (.ref m),some (.int (j:Nat)),some (.ref t),some (.ref d),v6,v7]∧(∀ y ob,upd H6 d (.frz od2 (.dT (kvs cl))) y=some ob→y≠s0→y≠o0→H' y=some ob)∧H' s0=some (.dT (kvs (sg++(cl.take i).map id)))∧H' o0=some (.dT (kvs (ow++tag1 j (cl.take i)))))
      ⟨_,_,rfl,fun y ob ey _ _=>ey,by simpa using hsM,by simpa [tag1] using hoM⟩ ?_ ?_ ?_
     ·rintro i σ H8 hi ⟨v6,v7,rfl,S8,_⟩
      exact S8 _ _ hdM nds ndo
     ·rintro i σ H8 T8 kk vv q e8 ⟨v6,v7,rfl,S8,hs8,ho8⟩ hT8 hq
      obtain ⟨p,sv,e9,rfl,rfl⟩:=kvs_get e8
      have hi:i<cl.length:=(List.getElem?_eq_some_iff.mp e9).1
      have ST8:=Same.new (o:=.tup [.ref q,.int sv]) hT8
      refine ⟨T8,_,rfl,SqT.of upd_same,rfl,_,_,rfl,_,_,rfl,rfl,?_⟩
      have hq9:=ST8 _ _ hq
      have hs9:=ST8 _ _ hs8
      have ho9:=ST8 _ _ ho8
      have hm9:=ST8 _ _ (S8 _ _ hmM (Ne.symm nsm) (Ne.symm nom))
      generalize upd H8 T8 (.tup [.ref q,.int sv])=H9 at ST8 hq9 hs9 ho9 hm9
      have nqs:q≠s0:=fun z=>by rw [z,hs9] at hq9;cases hq9
      have hj2:j≤256:=by omega
      have hl1:=fw.l1
      have hl2':=fw.l2
      refine ⟨_,rfl,_,rfl,m,CM,dm,_,_,rfl,hm9,TM.cl,TM.n1,rfl,_,rfl,s0,_,rfl,DPut.t (k:=key3 p.1 p.2.1 p.2.2) hs9 hq9 (by rw [kvs_len,List.length_append,List.length_map,List.length_take];omega),?_⟩
      have ps:=put_tag (dct:=sg) id (fun _=>rfl) clnd frS e9 (v:=sv) rfl
      rw [ps]
      have ho10:upd H9 s0 (.dT (kvs (sg++(cl.take (i+1)).map id))) o0=some (.dT (kvs (ow++tag1 j (cl.take i)))):=by rw [upd_ne (Ne.symm nso)];exact ho9
      have hq10:upd H9 s0 (.dT (kvs (sg++(cl.take (i+1)).map id))) q=some (.tup ((key3 p.1 p.2.1 p.2.2).map kV)):=by rw [upd_ne nqs];exact hq9
      have hm10:upd H9 s0 (.dT (kvs (sg++(cl.take (i+1)).map id))) m=some (.ins CM dm (RmF s0 o0 l)):=by rw [upd_ne (Ne.symm nsm)];exact hm9
      refine ⟨_,rfl,_,rfl,m,CM,dm,_,_,rfl,hm10,TM.cl,TM.n2,rfl,_,rfl,o0,_,rfl,DPut.t (k:=key3 p.1 p.2.1 p.2.2) ho10 hq10 (by unfold tag1;rw [kvs_len,List.length_append,List.length_map,List.length_take];omega),?_⟩
      have po:=put_tag (dct:=ow) (fun c=>(c.1,(j:Int))) (fun _=>rfl) clnd frO e9 (v:=(j:Int)) rfl
      have po:putK (kvs (ow++tag1 j (cl.take i))) (key3 p.1 p.2.1 p.2.2) (V.int (j:Int))=kvs (ow++tag1 j (cl.take (i+1))):=po
      refine ⟨_,_,rfl,fun y ob ey n1 n2=>?_,?_,?_⟩
      ·rw [upd_ne n2,upd_ne n1]
       exact ST8 _ _ (S8 _ _ ey n1 n2)
      ·rw [upd_ne nso,upd_same]
      ·rw [upd_same]
       exact congrArg (fun z=>some (HO.dT z)) po
     ·rintro σ H8 ⟨v6,v7,rfl,S8,hs8,ho8⟩
      rw [kvs_len,List.take_length] at hs8 ho8
      rw [List.map_id] at hs8
      refine ⟨S8 _ _ hdM nds ndo,?_⟩
      have e9:((j+1) * 20000)=j * 20000+20000:=by omega
      have hl1:=fw.l1
      have hl2':=fw.l2
      have nls:l≠s0:=fun z=>by rw [z,fw4.hs] at hlf;cases hlf
      have nlo:l≠o0:=fun z=>by rw [z,fw4.ho] at hlf;cases hlf
      have nld:l≠d:=fun z=>by rw [z,hd4] at hlf;cases hlf
      refine ⟨sg++cl,ow++tag1 j cl,_,_,_,_,_,rfl,fun y ob ey=>?_,⟨l,?_,?_⟩,?_,?_,fun p hp=>?_,?_,?_,?_,?_,?_⟩
      ·have n1:y≠s0:=ne_of_none ey hsH
       have n2:y≠o0:=ne_of_none ey hoH
       have h7:=S6H _ _ ey
       by_cases hy:y=d
       ·rw [hy] at h7 ⊢
        rw [upd_same,←h7,hd6]
       ·rw [upd_ne hy]
        exact S8 _ _ (by rw [upd_ne hy];exact h7) n1 n2
      ·rw [upd_ne nmd]
       exact S8 _ _ hmM (Ne.symm nsm) (Ne.symm nom)
      ·rw [upd_ne nld]
       exact S8 _ _ (by rw [upd_ne nld];exact hl6) nls nlo
      ·rw [upd_ne (Ne.symm nds)]
       exact hs8
      ·rw [upd_ne (Ne.symm ndo)]
       exact ho8
      ·rw [getC_some] at hp ⊢
       obtain ⟨c,hc,e⟩:=hp
       rcases List.mem_append.mp hc with hc|hc
       ·obtain ⟨c2,hc2,e2⟩:=getC_some.mp (fw.sub p (getC_some.mpr ⟨c,hc,e⟩))
        exact ⟨c2,List.mem_append_left _ hc2,e2⟩
       ·exact ⟨(c.1,(j:Int)),List.mem_append_right _ (List.mem_map.mpr ⟨c,hc,rfl⟩),e⟩
      ·rw [List.length_append]
       omega
      ·unfold tag1
       rw [List.length_append,List.length_map]
       omega
      ·exact er2
      ·rw [ezs,sgZ_snoc,←fw.eg]
      ·rw [ezs,owZ_snoc,←fw.eo,zs_len,etk]
       rfl
  ·rintro σ H2 ⟨sg,ow,v3,v4,v5,v6,v7,rfl,fw⟩
   have er:=fw.er
   rw [List.length_map,hl2,List.drop_length] at er
   have er:firstC prs 0 [] [] ls=[]:=er
   have eg:=fw.eg
   have eo:=fw.eo
   rw [List.length_map,hl2,List.take_length] at eg eo
   have l1:=fw.l1
   have l2:=fw.l2
   rw [List.length_map,hl2] at l1 l2
   obtain ⟨wr,e1,e2⟩:=fw.hm
   exact ⟨_,rfl,k _ m fw.sm hmH ⟨dm,s0,o0,wr,sg,ow,e1,by rw [er];exact e2,fw.hs,fw.ho,nso,fun _=>⟨eg,eo⟩,by omega,by omega⟩⟩
end
end Br1
set_option Elab.async false
set_option linter.all false
set_option maxRecDepth 100000
set_option maxHeartbeats 4000000
namespace Br1
open PySem PySem.Spec PyProof.Rows L2
theorem nums_le {l:List Int}:∀ {ms:List Nat} {p:Nat} {r:List Nat×Nat},numsRun l ms p=.ok r→∀ (i v m:Nat),r.1[i]?=some v→ms[i]?=some m→v≤m
 |[],p,r,h=>by
  intro i v m h1 h2
  simp at h2
 |m0::ms,p,r,h=>by
  rw [numsRun] at h
  obtain ⟨p1,_,h⟩:=bnd_inv h
  obtain ⟨u,eu,h⟩:=bnd_inv h
  obtain ⟨q,eq,rfl⟩:=consR_inv h
  intro i v m h1 h2
  cases i with
  |zero=>
   cases h1
   cases h2
   exact (numE_range (lo:=0) eu).2
  |succ i=>exact nums_le eq i v m h1 h2
theorem line_turn {nss:List (List Int)} {l:List Int} {p:Nat} {q:List Nat×Nat} (h:lineRun nss l p=.ok q):lnN q.1 5≤3:=by
 unfold lineRun at h
 obtain ⟨p1,_,h⟩:=bnd_inv h
 obtain ⟨n,en,h⟩:=bnd_inv h
 obtain ⟨r,er,h⟩:=bnd_inv h
 obtain ⟨_,_,h⟩:=bnd_inv h
 cases h
 have hl:=nums_len (r:=r) er
 have hl:r.1.length=5:=hl
 have e:r.1[4]?=some r.1[4]:=List.getElem?_eq_getElem (by omega)
 have:=nums_le er 4 r.1[4] 3 e rfl
 show (n.1::r.1).getD 5 0≤3
 rw [List.getD_eq_getElem?_getD]
 show (r.1[4]?).getD 0≤3
 rw [e]
 exact this
theorem lines_turn {nss:List (List Int)} {l:List Int}:∀ {n p:Nat} {q:List (List Nat)×Nat},linesRun nss l n p=.ok q→∀ x∈q.1,lnN x 5≤3
 |0,p,q,h=>by cases h;intro x hx;cases hx
 |n+1,p,q,h=>by
  rw [linesRun] at h
  split at h
  ·cases h;intro x hx;cases hx
  ·obtain ⟨q1,e1,h⟩:=bnd_inv h
   obtain ⟨q2,e2,rfl⟩:=consR_inv h
   intro x hx
   rcases List.mem_cons.mp hx with rfl|hx
   ·exact line_turn e1
   ·exact lines_turn e2 x hx
theorem giv_inv {lc lb:List Int} {prs:List PartR} {nm:List Int} {ls:List (List Nat)} (h:givRun lc lb=.ok prs nm ls):catRun lc=.ok prs∧buildRun (prs.map (·.name)) lb=.ok (nm,ls):=by
 unfold givRun at h
 split at h
 ·cases h
 ·split at h
  ·cases h
  ·rename_i e1
   split at h
   ·split at h
    ·cases h
    ·rename_i e
     cases h
     exact ⟨e1,e⟩
   ·cases h
theorem giv_turn {lc lb:List Int} {prs:List PartR} {nm:List Int} {ls:List (List Nat)} (h:givRun lc lb=.ok prs nm ls):∀ x∈ls,lnN x 5≤3:=by
 have h:=(giv_inv h).2
 unfold buildRun at h
 obtain ⟨_,_,h⟩:=bnd_inv h
 obtain ⟨_,_,h⟩:=bnd_inv h
 obtain ⟨_,_,h⟩:=bnd_inv h
 obtain ⟨r,er,h⟩:=bnd_inv h
 split at h
 ·cases h;exact lines_turn er
 ·cases h
theorem first_len (prs:List PartR):∀ (ls:List (List Nat)) (j:Nat) (sg ow:CL),(firstC prs j sg ow ls).length≤3
 |[],j,sg,ow=>by simp [firstC]
 |x::r,j,sg,ow=>by
  rw [firstC]
  split
  ·simp
  ·split
   ·simp
   ·split
    ·simp
    ·exact first_len prs r _ _ _
def RgtAt (CG CP CB CM:Addr) (H:Hp) (g:Addr):GivR→Prop
 |.no n=>∃ dx pa,H g=some (.ins CG dx (GvF n 0 pa .non .non))
 |.bad i=>∃ dx pa,H g=some (.ins CG dx (GvF (-5) i pa .non .non))
 |.ok prs nm ls=>∃ dx pa q m bs,H g=some (.ins CG dx (GvF (if firstC prs 0 [] [] ls=[] then 0 else -9) 0 pa (.ref q) (.ref m)))∧H pa=some (.lst (bs.map V.ref))∧PartsAt CP H bs prs∧BldAt CB H q nm ls∧RoomAt CM H m prs ls∧prs.length≤64
section
variable {P:Program} {w:World} {K:PySem.W.Frag} {mg:Str→Option Value} {base:Heap} {C CR CP CB CG CM:Addr}
def spRight' (K:PySem.W.Frag) (CG CP CB CM:Addr):Sp:=fun vs H Q _=>∃ (c b:Addr) (lc lb:List Int),vs=[.ref c,.ref b]∧SqL K H c (lc.map V.int)∧SqL K H b (lb.map V.int)∧∀ (H':Hp) (g:Addr),Same H H'→H g=none→RgtAt CG CP CB CM H' g (givRun lc lb)→Q (.ref g) H'
theorem sc_readRight:FnScope ["c","b","given"] ["c","b"] (defScope sReadRight):=⟨rfl,rfl,rfl,by decide+kernel,rfl,by decide+kernel,by decide+kernel⟩
theorem ok_readRight {f:Addr} {fd:FuncData} (F:Fun K "read_right" "read_right" sReadRight f fd) (TG:GvT K CG) (TB:BdT K CB) (TM:RmT K CM) (hlen:mg "len"=none) (L1:Fn0 P w K mg base "read_given" CX0 9 ["c","b"] (spGiven K CG CP CB)) (L2:Fn0 P w K mg base "fill_room" CX0 6 ["parts","lines"] (spFill K CP CM)):FnOk P w K mg base CX0 10 f fd ["c","b"] (spRight' K CG CP CB CM):=by
 obtain ⟨g1,gd1,G1,b1,k1,h1⟩:=L1.ex
 obtain ⟨g2,gd2,G2,b2,k2,h2⟩:=L2.ex
 refine F.ok sc_readRight (fun vs H Q E h=>?_) (fun cdv A outer s H vs Q E hr h=>?_)
 ·obtain ⟨c,b,lc,lb,rfl,_⟩:=h
  rfl
 ·obtain ⟨c,b,lc,lb,rfl,hc,hb,k⟩:=h
  have hr6:=hr.mono (j:=6) (by decide)
  refine ⟨_,pss_cons (ps_set (i:=2) sc_readRight.nd rfl (Or.inl rfl) (pe_call G1 hr (by rfl) h1 k1 b1 .nil pass0 (pa_cons (pv 0) (pa_cons (pv 1) pa_nil))))
   (pss_cons (ps_if (pt_cmpR op_eq (pe_fld (pv 2) rfl) pe_int (nomark _))
    (pss_cons (ps_fld (pv 2) (pe_call G2 hr6 (by rfl) h2 k2 b2 .nil pass0 (pa_cons (pe_fld (pv 2) rfl) (pa_cons (pe_fld (pe_fld (pv 2) rfl) rfl) pa_nil))) rfl)
    (pss_one (ps_if (pt_cmp (pc_gt (pe_callB call_len_seq (by rfl) hlen PySem.boot_len (pa_cons (pe_fld (pe_fld (pv 2) rfl) rfl) pa_nil)) pe_int)) (pss_one (ps_fld (pv 2) (pe_un un_neg pe_int) rfl)) pss_nil))) pss_nil)
   (pss_one (ps_ret (pv 2)))),?_⟩
  refine ⟨_,rfl,_,rfl,c,b,lc,lb,rfl,hc,hb,fun H1 g S1 hgH hg=>?_⟩
  cases eg:givRun lc lb with
  |no n=>
   rw [eg] at k hg
   obtain ⟨dx,pa,hg⟩:=hg
   have hn:=giv_no eg
   refine ⟨_,rfl,g,CG,dx,_,_,rfl,hg,TG.cl,TG.n1,rfl,rfl,_,rfl,ite2 (fun e=>?_) (fun e=>?_)⟩
   ·rw [dec_eq] at e
    have:=of_decide_eq_true e
    omega
   ·exact ⟨_,rfl,k _ g S1 hgH ⟨dx,pa,hg⟩⟩
  |bad i=>
   rw [eg] at k hg
   obtain ⟨dx,pa,hg⟩:=hg
   refine ⟨_,rfl,g,CG,dx,_,_,rfl,hg,TG.cl,TG.n1,rfl,rfl,_,rfl,ite2 (fun e=>?_) (fun e=>?_)⟩
   ·rw [dec_eq] at e
    exact absurd (of_decide_eq_true e) (by decide)
   ·exact ⟨_,rfl,k _ g S1 hgH ⟨dx,pa,hg⟩⟩
  |ok prs nm ls=>
   rw [eg] at k hg
   obtain ⟨dx,pa,q,bs,hg,hpa,hps,hbd,hp1,hp64⟩:=hg
   obtain ⟨dxb,na,la,ts,hq,hna,hla,hls,h256,hn16⟩:=id hbd
   have six:=giv_six eg
   have trn:=giv_turn eg
   refine ⟨_,rfl,g,CG,dx,_,_,rfl,hg,TG.cl,TG.n1,rfl,rfl,_,rfl,ite2 (fun e=>?_) (fun e=>absurd (by decide) e)⟩
   refine ⟨_,rfl,g,CG,dx,_,_,rfl,hg,TG.cl,TG.n3,rfl,_,rfl,g,CG,dx,_,_,rfl,hg,TG.cl,TG.n4,rfl,q,CB,dxb,_,_,rfl,hq,TB.cl,TB.n2,rfl,pa,la,bs,ts,prs,ls,rfl,hpa,hps,hla,hls,cat_ok (giv_inv eg).1,fun x hx=>⟨six x hx,trn x hx⟩,h256,fun H2 m S2 hm1 hrm=>?_⟩
   have S12:=S1.trans S2
   obtain ⟨dm,s0,o0,wr,sg,ow,r1,r2,r3,r4,r5⟩:=id hrm
   have ngm:m≠g:=fun z=>by rw [z,hg] at hm1;cases hm1
   have hg2:=S2 _ _ hg
   refine ⟨_,rfl,g,CG,dx,_,rfl,hg2,TG.cl,TG.n5,(by show 5<1000;decide),?_⟩
   have keep:∀ (rf:Int) (bv:V),(∀ y o,H y=some o→upd H2 g (.ins CG dx (GvF rf 0 pa (.ref q) bv)) y=some o):=fun rf bv y o e=>by
    rw [upd_ne (ne_of_none e hgH)]
    exact S12 _ _ e
   have oth:∀ (rf:Int) {y:Addr} {o:HO},y≠g→H2 y=some o→upd H2 g (.ins CG dx (GvF rf 0 pa (.ref q) (.ref m))) y=some o:=fun rf y o n e=>by rw [upd_ne n];exact e
   have fin:∀ (rf:Int) (H3:Hp),rf=(if firstC prs 0 [] [] ls=[] then 0 else -9)→H3=upd H2 g (.ins CG dx (GvF rf 0 pa (.ref q) (.ref m)))→Q (.ref g) H3:=fun rf H3 er e3=>by
    subst e3
    have n1:∀ {y:Addr} {o:HO},H2 y=some o→(∀ C dx fs,o≠.ins C dx fs)→upd H2 g (.ins CG dx (GvF rf 0 pa (.ref q) (.ref m))) y=some o:=fun {y o} e nn=>oth rf (fun z=>by
     rw [z,hg2] at e
     cases e
     exact nn _ _ _ rfl) e
    have nq:q≠g:=fun z=>by
     rw [z,hg] at hq
     injection hq with hq
     injection hq with _ _ hq
     cases hq
    have hps2:PartsAt CP (upd H2 g (.ins CG dx (GvF rf 0 pa (.ref q) (.ref m)))) bs prs:=by
     refine Paired.mapP hps fun b' pr z=>⟨?_,z.2⟩
     obtain ⟨dxp,nmp,cc,f1,f2,f3⟩:=z.1
     have nb:b'≠g:=fun z=>by
      rw [z,hg] at f1
      injection f1 with f1
      injection f1 with _ _ f1
      cases f1
     exact ⟨dxp,nmp,cc,oth rf nb (S2 _ _ f1),n1 (S2 _ _ f2) (by intro _ _ _ z;cases z),n1 (S2 _ _ f3) (by intro _ _ _ z;cases z)⟩
    refine k _ g (keep rf _) hgH ⟨dx,pa,q,m,bs,by rw [upd_same,er],n1 (S2 _ _ hpa) (by intro _ _ _ z;cases z),hps2,⟨dxb,na,la,ts,oth rf nq (S2 _ _ hq),n1 (S2 _ _ hna) (by intro _ _ _ z;cases z),n1 (S2 _ _ hla) (by intro _ _ _ z;cases z),hls.keep fun y xs e=>n1 (S2 _ _ e) (by intro _ _ _ z;cases z),h256,hn16⟩,
     ⟨dm,s0,o0,wr,sg,ow,oth rf ngm r1,n1 r2 (by intro _ _ _ z;cases z),n1 r3 (by intro _ _ _ z;cases z),n1 r4 (by intro _ _ _ z;cases z),r5⟩,hp64⟩
   have hg3:upd H2 g (.ins CG dx (GvF 0 0 pa (.ref q) (.ref m))) g=some (.ins CG dx (GvF 0 0 pa (.ref q) (.ref m))):=upd_same
   have hm3:=oth 0 ngm r1
   have nwr:wr≠g:=fun z=>by rw [z,hg2] at r2;cases r2
   have hw3:=oth 0 nwr r2
   refine ⟨_,rfl,g,CG,dx,_,_,rfl,hg3,TG.cl,TG.n5,rfl,m,CM,dm,_,_,rfl,hm3,TM.cl,TM.n3,rfl,wr,_,rfl,.inl (SqL.of hw3),_,_,rfl,rfl,_,rfl,ite2 (fun hh=>?_) (fun hh=>?_)⟩
   ·have hh:(0:Int)<(((firstC prs 0 [] [] ls).map V.int).length:Int):=of_decide_eq_true hh
    rw [List.length_map] at hh
    refine ⟨_,rfl,_,rfl,g,CG,dx,_,rfl,hg3,TG.cl,TG.n1,(by show 5<1000;decide),_,rfl,fin (-9) _ ?_ ?_⟩
    ·rw [if_neg]
     intro z
     rw [z] at hh
     cases hh
    ·funext y
     by_cases hy:y=g
     ·rw [hy,upd_same,upd_same]
      rfl
     ·rw [upd_ne hy,upd_ne hy,upd_ne hy]
   ·have hh:¬(0:Int)<(((firstC prs 0 [] [] ls).map V.int).length:Int):=fun z=>hh (decide_eq_true z)
    rw [List.length_map] at hh
    have e0:firstC prs 0 [] [] ls=[]:=List.eq_nil_of_length_eq_zero (by omega)
    exact ⟨_,rfl,fin 0 _ (by rw [if_pos e0]) rfl⟩
end
end Br1
set_option Elab.async false
set_option linter.all false
set_option maxRecDepth 100000
set_option maxHeartbeats 4000000
namespace Br1
open PySem PySem.Spec PyProof.Rows L2
structure RoomF (P:Program) (w:World) (K:PySem.W.Frag) (mg:Str→Option Value) (base:Heap) (CG CP CB CM:Addr):Prop where
 TM:RmT K CM
 tsz:Fn0 P w K mg base "turned_sizes" CX0 1 ["part","turns"] (spTSizes CP)
 bey:Fn0 P w K mg base "beyond_room" CX0 1 ["x","y","z"] spBeyond
 lea:Fn0 P w K mg base "leaves_room" CX0 2 ["parts","put"] (spLeaves K CP)
 right:Fn0 P w K mg base "read_right" CX0 10 ["c","b"] (spRight' K CG CP CB CM)
section
variable {P:Program} {w:World} {K:PySem.W.Frag} {h:Heap} {mg:Str→Option Value} {base:Heap}
theorem roomF (X:K.In h) (G:h.Ns mainGlobals mg) (L:CoreF P w K mg base (clA K "Part") (clA K "Build") (clA K "Given")) (hK:∀ f∈ftR,f.P K):RoomF P w K mg base (clA K "Given") (clA K "Part") (clA K "Build") (clA K "Room"):=by
 have g:∀ (i:Nat) (f:Ft),ftR[i]?=some f→f.P K:=fun i f e=>Ft.nth hK i e
 have ci:∀ {x:Str} {n:Int},IntK K x n→CI mg x n:=fun hk=>hk.ci X G
 have nn:∀ {x:Str},PySem.W.nsIn K mainGlobals x=some none→mg x=none:=fun e=>PySem.W.mg_none_of X G e
 have TM:RmT K (clA K "Room"):=⟨ClK.cl (g 0 (.cl "Room") rfl),(g 1 (.at "Room" "signs") rfl),(g 2 (.at "Room" "owners") rfl),(g 3 (.at "Room" "wrong") rfl)⟩
 have RM:RmM P w K mg base (clA K "Room"):=⟨MtK.mk (g 4 (.mt "Room" "__init__" "Room.__init__" sRoomI) rfl) (g 0 (.cl "Room") rfl) (fun f fd F=>ok_rmI F TM) fun _ _ _ _ _ _ us hl=>(by obtain ⟨a,rfl⟩:=_root_.L2.us1 hl;rfl),PySem.W.mg_of X G (ClK.ns (g 0 (.cl "Room") rfl))⟩
 have M1:Fn0 P w K mg base "turned_once" CX0 3 ["part"] (spOnce (clA K "Part")):=FnK.fn0 (g 5 (.fn "turned_once" sOnce) rfl) X G (fun f fd F=>ok_once F L.TP L.PM) fun _ _ _ _ _ _ us hl=>(by obtain ⟨a,rfl⟩:=_root_.L2.us1 hl;rfl)
 have M2:Fn0 P w K mg base "turned_part" CX0 4 ["part","turns"] (spTurned (clA K "Part")):=FnK.fn0 (g 6 (.fn "turned_part" sTurned) rfl) X G (fun f fd F=>ok_turned F (nn (g 7 (.no "range") rfl)) M1) fun _ _ _ _ _ _ us hl=>(by obtain ⟨a,b,rfl⟩:=_root_.L2.us2 hl;rfl)
 have M3:Fn0 P w K mg base "turned_sizes" CX0 1 ["part","turns"] (spTSizes (clA K "Part")):=FnK.fn0 (g 8 (.fn "turned_sizes" sTSizes) rfl) X G (fun f fd F=>ok_tsizes F L.TP) fun _ _ _ _ _ _ us hl=>(by obtain ⟨a,b,rfl⟩:=_root_.L2.us2 hl;rfl)
 have M4:Fn0 P w K mg base "beyond_room" CX0 1 ["x","y","z"] spBeyond:=FnK.fn0 (g 9 (.fn "beyond_room" sBeyond) rfl) X G (fun f fd F=>ok_beyond F (ci (g 10 (.int "ROOM_WIDTH" 64) rfl)) (ci (g 11 (.int "ROOM_DEPTH" 64) rfl)) (ci (g 12 (.int "ROOM_HEIGHT" 96) rfl))) fun _ _ _ _ _ _ us hl=>(by obtain ⟨a,b,c,rfl⟩:=_root_.L2.us3 hl;rfl)
 have M5:Fn0 P w K mg base "leaves_room" CX0 2 ["parts","put"] (spLeaves K (clA K "Part")):=FnK.fn0 (g 13 (.fn "leaves_room" sLeaves) rfl) X G (fun f fd F=>ok_leaves F M3 M4) fun _ _ _ _ _ _ us hl=>(by obtain ⟨a,b,rfl⟩:=_root_.L2.us2 hl;rfl)
 have M6:Fn0 P w K mg base "cells_in_room" CX0 5 ["parts","put"] (spRoom K (clA K "Part")):=FnK.fn0 (g 14 (.fn "cells_in_room" sRoom) rfl) X G (fun f fd F=>ok_room F L.TP M2) fun _ _ _ _ _ _ us hl=>(by obtain ⟨a,b,rfl⟩:=_root_.L2.us2 hl;rfl)
 have M7:Fn0 P w K mg base "blocked_lines" CX0 2 ["cells","room"] (spBlocked (clA K "Room")):=FnK.fn0 (g 15 (.fn "blocked_lines" sBlocked) rfl) X G (fun f fd F=>ok_blocked F TM L.up L.dn L.stud L.tube) fun _ _ _ _ _ _ us hl=>(by obtain ⟨a,b,rfl⟩:=_root_.L2.us2 hl;rfl)
 have M8:Fn0 P w K mg base "wrong_with" CX0 3 ["room","cells","j"] (spWrongW (clA K "Room")):=FnK.fn0 (g 16 (.fn "wrong_with" sWrongW) rfl) X G (fun f fd F=>ok_wrongW F TM (nn (g 17 (.no "len") rfl)) (nn (g 18 (.no "min") rfl)) M7) fun _ _ _ _ _ _ us hl=>(by obtain ⟨a,b,c,rfl⟩:=_root_.L2.us3 hl;rfl)
 have M9:Fn0 P w K mg base "fill_room" CX0 6 ["parts","lines"] (spFill K (clA K "Part") (clA K "Room")):=FnK.fn0 (g 19 (.fn "fill_room" sFill) rfl) X G (fun f fd F=>ok_fill F TM RM (nn (g 17 (.no "len") rfl)) (nn (g 20 (.no "enumerate") rfl)) M6 M5 M8) fun _ _ _ _ _ _ us hl=>(by obtain ⟨a,b,rfl⟩:=_root_.L2.us2 hl;rfl)
 exact ⟨TM,M3,M4,M5,FnK.fn0 (g 21 (.fn "read_right" sReadRight) rfl) X G (fun f fd F=>ok_readRight F L.TG L.TB TM (nn (g 17 (.no "len") rfl)) L.given M9) fun _ _ _ _ _ _ us hl=>(by obtain ⟨a,b,rfl⟩:=_root_.L2.us2 hl;rfl)⟩
end
end Br1
set_option Elab.async false
set_option linter.all false
set_option maxRecDepth 100000
set_option maxHeartbeats 4000000
namespace Br1
open PySem PySem.Spec PyProof.Rows L2
section
variable {P:Program} {w:World} {K:PySem.W.Frag} {mg:Str→Option Value} {base:Heap} {C CR CP CB CG CM:Addr}
def spCheck (K:PySem.W.Frag):Sp:=fun vs H Q _=>∃ (c b:Addr) (lc lb:List Int),vs=[.ref c,.ref b]∧SqL K H c (lc.map V.int)∧SqL K H b (lb.map V.int)∧∀ (H':Hp) (l:Addr),H' l=some (.lst ((checkR lc lb).map V.int))→Q (.ref l) H'
theorem sc_check:FnScope ["c","b","given"] ["c","b"] (defScope sCheck):=⟨rfl,rfl,rfl,by decide+kernel,rfl,by decide+kernel,by decide+kernel⟩
theorem ok_check {f:Addr} {fd:FuncData} (F:Fun K "check" "check" sCheck f fd) (T:GvT K CG) (TM:RmT K CM) (L1:Fn0 P w K mg base "read_right" CX0 10 ["c","b"] (spRight' K CG CP CB CM)):FnOk P w K mg base CX0 11 f fd ["c","b"] (spCheck K):=by
 obtain ⟨g1,gd1,G1,b1,k1,h1⟩:=L1.ex
 refine F.ok sc_check (fun vs H Q E h=>?_) (fun cdv A outer s H vs Q E hr h=>?_)
 ·obtain ⟨c,b,lc,lb,rfl,_⟩:=h
  rfl
 ·obtain ⟨c,b,lc,lb,rfl,hc,hb,k⟩:=h
  refine ⟨_,pss_cons (ps_set (i:=2) sc_check.nd rfl (Or.inl rfl) (pe_call G1 hr (by rfl) h1 k1 b1 .nil pass0 (pa_cons (pv 0) (pa_cons (pv 1) pa_nil))))
   (pss_cons (ps_if (pt_cmpR op_eq (pe_fld (pv 2) rfl) (pe_un un_neg pe_int) (nomark _)) (pss_one (ps_ret (pe_op op_cat (pe_lst (pa_cons (pe_un un_neg pe_int) pa_nil)) (pe_fld (pe_fld (pv 2) rfl) rfl)))) pss_nil)
   (pss_one (ps_ret (pe_lst (pa_cons (pe_fld (pv 2) rfl) pa_nil))))),?_⟩
  refine ⟨_,rfl,_,rfl,c,b,lc,lb,rfl,hc,hb,fun H1 g S1 hgH hg=>?_⟩
  unfold checkR at k
  cases eg:givRun lc lb with
  |no n=>
   rw [eg] at k hg
   obtain ⟨dx,pa,hg⟩:=hg
   have hn:=giv_no eg
   refine ⟨_,rfl,g,CG,dx,_,_,rfl,hg,T.cl,T.n1,rfl,_,rfl,rfl,_,rfl,ite2 (fun e=>?_) (fun e=>?_)⟩
   ·rw [dec_eq] at e
    have:=of_decide_eq_true e
    omega
   ·exact ⟨_,rfl,g,CG,dx,_,_,rfl,hg,T.cl,T.n1,rfl,by show 1≤sizeLine;decide,fun l hl=>k _ l upd_same⟩
  |bad i=>
   rw [eg] at k hg
   obtain ⟨dx,pa,hg⟩:=hg
   refine ⟨_,rfl,g,CG,dx,_,_,rfl,hg,T.cl,T.n1,rfl,_,rfl,rfl,_,rfl,ite2 (fun e=>?_) (fun e=>?_)⟩
   ·rw [dec_eq] at e
    exact absurd (of_decide_eq_true e) (by decide)
   ·exact ⟨_,rfl,g,CG,dx,_,_,rfl,hg,T.cl,T.n1,rfl,by show 1≤sizeLine;decide,fun l hl=>k _ l upd_same⟩
  |ok prs nm ls=>
   rw [eg] at k hg
   obtain ⟨dx,pa,q,m,bs,hg,_,_,_,⟨dm,s0,o0,wr,sg,ow,hm,hw,_⟩,_⟩:=hg
   have k:∀ (H':Hp) (l:Addr),H' l=some (.lst ((if 0<(firstC prs 0 [] [] ls).length then -9::firstC prs 0 [] [] ls else [0]).map V.int))→Q (.ref l) H':=k
   have h3:=first_len prs ls 0 [] []
   have hsz:=sizeLine_huge
   refine ⟨_,rfl,g,CG,dx,_,_,rfl,hg,T.cl,T.n1,rfl,_,rfl,rfl,_,rfl,ite2 (fun e=>?_) (fun e=>?_)⟩
   ·rw [dec_eq] at e
    have e:=of_decide_eq_true e
    have hne:¬firstC prs 0 [] [] ls=[]:=fun z=>by rw [if_pos z] at e;exact absurd e (by decide)
    have hp:0<(firstC prs 0 [] [] ls).length:=List.length_pos_iff.mpr hne
    rw [if_pos hp] at k
    refine ⟨_,rfl,by show 1≤sizeLine;decide,fun l hl=>?_⟩
    have S2:=Same.new (o:=.lst [.int (-9)]) hl
    refine ⟨_,rfl,g,CG,dx,_,_,rfl,S2 _ _ hg,T.cl,T.n5,rfl,m,CM,dm,_,_,rfl,S2 _ _ hm,TM.cl,TM.n3,rfl,l,wr,_,_,rfl,rfl,upd_same,S2 _ _ hw,by rw [List.length_map];show 1+_≤_;omega,fun l2 hl2=>k _ l2 upd_same⟩
   ·rw [dec_eq] at e
    have e0:firstC prs 0 [] [] ls=[]:=by
     by_cases z:firstC prs 0 [] [] ls=[]
     ·exact z
     ·rw [if_neg z] at e
      exact absurd (by decide) e
    rw [if_neg (by rw [e0];decide)] at k
    refine ⟨_,rfl,g,CG,dx,_,_,rfl,hg,T.cl,T.n1,rfl,by show 1≤sizeLine;decide,fun l hl=>k _ l ?_⟩
    rw [upd_same,if_pos e0]
    rfl
end
theorem all_check {P:Program} {w:World} {K:PySem.W.Frag} {h:Heap} {mg:Str→Option Value} {fa:Addr} (X:K.In h) (G:h.Ns mainGlobals mg) (hfa:mg "check"=some (.ref fa)) (k:∀ f∈ftC,f.P K) (k2:∀ f∈ftR,f.P K) (kj:FnK K "check" "check" sCheck):
  ∃ fd:FuncData,(∀ (s:Shared) (us:List Value),us.length=(["c","b"]:List Str).length→BindsTo s fd ⟨us,[]⟩ ((["c","b"]:List Str).zip us))∧∀ base:Heap,K.In base→base.Ns mainGlobals mg→FnOk P w K mg base CX0 11 fa fd ["c","b"] (spCheck K):=by
 obtain ⟨f,oc,od,kV,doc,pm,an,cdv,ct,osl,a,l,c,kp⟩:=kj
 have e:=hfa.symm.trans (PySem.W.mg_of X G a)
 cases e
 have F:=fun_mk (st:=sCheck) l c kp
 refine ⟨PySem.W.fnOf "check" "check" (defArgs sCheck) (defBody sCheck) (defScope sCheck) .none kV doc pm an cdv ct,fun s us hu=>(by obtain ⟨a,b,rfl⟩:=_root_.L2.us2 hu;exact .of_eq rfl),fun base X2 G2=>?_⟩
 have L:=core (P:=P) (w:=w) (base:=base) X G k
 have R:=roomF X G L k2
 exact ok_check F L.TG R.TM R.right
end Br1
set_option Elab.async false
set_option linter.all false
set_option maxRecDepth 1000000
namespace Br1
open PySem PySem.Spec PyProof.Rows L2
end Br1
set_option Elab.async false
set_option linter.all false
set_option maxRecDepth 1000000
namespace Br1
open PySem PySem.Spec PyProof.Rows L2
def hkC:PySem.W.Hook:=ftHook asC ftZ
theorem byt_of {l:List Int} (h:l.all (PySem.W.Codec.inInt 0 255)=true):Byt l:=fun x hx=>PySem.W.Codec.inInt_iff.mp (List.all_eq_true.mp h x hx)
end Br1
open PySem PySem.W PyProof.Rows
set_option maxRecDepth 100000 in
set_option maxHeartbeats 0 in
theorem PySem.Challenge.cw_brickrooms_s02_check_holds : PySem.Challenge.rw_brickrooms_s02_check.Holds := by
 refine holds_os (q:=Br1.vwC) (loose:=Br1.looseC) (Xt:=fun _=>true) (XP:=fun _ _=>True) (Yf:=Br1.hkC.obs) (Ya:=Br1.hkC.val) (YP:=Br1.hkC.says) (N:=5906) Br1.leftC Br1.hkC.of Br1.hkC.keeps (fun _ _=>trivial) (fun _ _ _ _ _=>trivial) (by rfl) (by rfl) (by rfl) (fun s _=>recFacts_of (s:=s) (by rfl)) os_shapes (by decide+kernel) (by decide+kernel) ⟨rfl,rfl,rfl,rfl,rfl,by decide+kernel⟩ ⟨[.list [],.list []],by decide+kernel,by decide+kernel⟩ ?_
 refine L2.walk_specE (r:=PySem.Challenge.rw_brickrooms_s02_check) (k:=11) (CX:=L2.CX0) (ps:=["c","b"]) (sp:=Br1.spCheck) (Good:=fun K=>∀ f∈Br1.ftZ,f.P K) (by decide+kernel) rfl rfl ⟨rfl,by decide,by decide⟩ (fun w h Y=>Y) ?F ?S (fun _ _ _ _ z=>z)
 case F=>
  intro w K mg fa h g KX G hmg
  have k0:∀ f∈Br1.ftC,f.P K:=fun f hf=>g f (List.mem_append_left _ hf)
  have g0:=fun (f:Br1.Ft) (hf:f∈_)=>g f (List.mem_append_right _ hf)
  have k1:∀ f∈Br1.ftR,f.P K:=fun f hf=>g0 f (List.mem_append_left _ hf)
  have g1:=fun (f:Br1.Ft) (hf:f∈_)=>g0 f (List.mem_append_right _ hf)
  exact Br1.all_check KX G hmg k0 k1 (Br1.Ft.nth g1 0 (f:=.fn "check" Br1.sCheck) rfl)
 case S=>
  intro K H xs a hO hwi hask hx
  cases hx with
  |cons hc rc=>
   cases rc with
   |cons hb rb=>
    cases rb
    cases hc with
    |lst hs1 ha1=>
     cases hb with
     |lst hs2 ha2=>
      have e1:=L2.ints_dw a.1 _ ha1
      subst e1
      have e2:=L2.ints_dw a.2.1 _ ha2
      subst e2
      have q:((Codec.inLen 0 100000 a.1 && a.1.all (Codec.inInt 0 255)) && ((Codec.inLen 0 17000 a.2.1 && a.2.1.all (Codec.inInt 0 255)) && true))=true:=hwi
      simp only [Bool.and_eq_true] at q
      have bc:=Br1.byt_of q.1.2
      have bb:=Br1.byt_of q.2.1.2
      refine ⟨_,_,a.1,a.2.1,rfl,hs1,hs2,fun H' p hp=>?_⟩
      have m:=Br1.check_math bc bb
      show L2.Dw K H' (.ref p) (.list ((PyWqasbx.check a.1 a.2.1).map WData.int))
      rw [m]
      exact .lst (L2.SqL.of hp) (L2.dw_ints _)
