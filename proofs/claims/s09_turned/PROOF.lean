import PyProof.Rows.All
import Wide.All
import OpenK.AllK
import Wide.FinOn
import PyProof.EqAt
import PyProof.EqKinds
import PyProof.TupleCall
import KE.BitLaws
import Open.SpecLaws
import KE.OsHead
import KE.OsGo
import KE.KDictList
import PyProof.FString
import Open.Line
import Open.Tree
import Open.Boot
import PySem.Challenge.RW_brickrooms_s09_turned
set_option Elab.async false
set_option linter.all false
set_option maxRecDepth 1000000
set_option maxHeartbeats 8000000
namespace L2
open PySem PySem.Spec PyProof.Rows
def eS (s:Stmt) (j:Nat):Stmt:=match s with
 |.ClassDef _ _ _ body _ _ _ _ _ _ _=>body.getD j (.Pass ⟨0,0,0,0⟩)
 |_=>.Pass ⟨0,0,0,0⟩
def eR (s:Stmt):Arguments:=match s with
 |.FunctionDef _ a _ _ _ _ _ _ _ _=>a
 |_=>{posonlyargs:=[],args:=[],vararg:=none,kwonlyargs:=[],kw_defaults:=[],kwarg:=none,defaults:=[]}
def dU (s:Stmt):List Stmt:=match s with
 |.FunctionDef _ _ b _ _ _ _ _ _ _=>b
 |_=>[]
def aG (s:Stmt):Scope:=match s with
 |.FunctionDef _ _ _ _ _ _ sc _ _ _=>sc
 |_=>{kind:=.function,names:=[],isGenerator:=false,isCoroutine:=false}
abbrev Bw:List Value:=[.type "Exception",.type "BaseException",.type "object"]
end L2
namespace Br1
open PySem PySem.Spec PyProof.Rows L2
def gI (i:Nat):Stmt:=PySem.Challenge.pw_brickrooms_s09_turned.main.body.getD i (.Pass ⟨0,0,0,0⟩)
abbrev oF:Stmt:=gI 3
abbrev qA:Stmt:=gI 4
abbrev qH:Stmt:=eS (gI 2) 0
abbrev Vf:Stmt:=eS (gI 6) 0
abbrev Cy:Stmt:=eS (gI 6) 1
abbrev Li:Stmt:=eS (gI 6) 2
abbrev Jv:Stmt:=eS (gI 6) 3
abbrev Ck:Stmt:=eS (gI 6) 4
abbrev Lf:Stmt:=eS (gI 6) 5
abbrev Kf:Stmt:=eS (gI 6) 6
abbrev uN:Stmt:=eS (gI 6) 7
abbrev Vg:Stmt:=eS (gI 6) 8
abbrev Bf:Stmt:=eS (gI 19) 0
abbrev qD:Stmt:=gI 20
abbrev qK:Stmt:=gI 21
abbrev Cr:Stmt:=gI 22
abbrev Cn:Stmt:=gI 23
abbrev pS:Stmt:=gI 24
abbrev nX:Stmt:=gI 25
abbrev lK:Stmt:=gI 26
def cP:List Int:=[46,35,115,116,98]
abbrev kI:Stmt:=gI 27
abbrev lJ:Stmt:=gI 28
abbrev Az:Stmt:=gI 29
abbrev Bc:Stmt:=gI 30
abbrev wD:Stmt:=gI 31
abbrev Bs:Stmt:=gI 32
abbrev Ar:Stmt:=gI 33
abbrev Jp:Stmt:=gI 34
abbrev kT:Stmt:=gI 48
abbrev oE:Stmt:=gI 49
abbrev uV:Stmt:=gI 50
abbrev qJ:Stmt:=gI 51
abbrev uJ:Stmt:=eS (gI 46) 0
abbrev uK:Stmt:=eS (gI 67) 0
abbrev iU:Stmt:=gI 68
abbrev mZ:Stmt:=gI 69
abbrev Df:=Arguments×List Stmt×Scope
def Vr (st:Stmt):Df:=(eR st,dU st,aG st)
def fnD (K:PySem.W.Frag) (f:Addr) (x qual:Str):Option Df:=match K.lookup f with
 |some ⟨_,_,.func ⟨nm,q,pa,.stmts b,sc,gl,[],.none,_,_,_,_,cd,_,bl⟩,_⟩=>if (nm==x && (q==qual && (gl==mainGlobals && (bl==builtinsNs && (PySem.W.codeIn K cd qual && PySem.W.keepIn K (.ref f))))))=true then some (pa,b,sc) else none
 |_=>none
def dP (K:PySem.W.Frag) (x:Str):Addr:=match PySem.W.nsIn K mainGlobals x with
 |some (some (.ref a))=>a
 |_=>0
inductive Ft
 |no (x:Str)
 |int (x:Str) (n:Int)
 |fn (x:Str) (st:Stmt)
 |cl (x:Str)
 |at (c f:Str)
 |mt (c m q:Str) (st:Stmt)
 |ints (x:Str) (l:List Int)
 |exc (x q:Str) (st:Stmt)
def Wz:Value->Option Int
 |.int n _=>some n
 |_=>none
def aAh (K:PySem.W.Frag) (C:Addr):Option Addr:=match K.lookup C with
 |some ⟨c,_,.cls ⟨_,_,mro,N,_,hd,_,_,_,_,hdel⟩,sl⟩=>(match sl.toList with
  |[_,_,_,_,some (.builtin b),_]=>if (c==.type "type" && (mro==.ref C::Bw && (hd && (!hdel && (b=="Exception.__new__" && (PySem.W.nsOkIn K N && (PySem.W.nsIn K N "fault"==some none && (PySem.W.nsIn K N "__setattr__"==some none && (PySem.W.nsIn K N "__getattribute__"==some none && (PySem.W.nsIn K N "__getattr__"==some none && PySem.W.keepIn K (.ref C)))))))))))=true then
    (match PySem.W.nsIn K N "__init__" with
    |some (some (.ref f))=>if PySem.W.isFn K (.ref f)=true then some f else none
    |_=>none) else none
  |_=>none)
 |_=>none
def Ft.D (K:PySem.W.Frag):Ft->Bool×Option Df
 |.no x=>(PySem.W.nsIn K mainGlobals x==some none,none)
 |.int x n=>(match PySem.W.nsIn K mainGlobals x with
  |some (some (.int m _))=>m==n
  |_=>false,none)
 |.fn x _=>match PySem.W.nsIn K mainGlobals x with
  |some (some (.ref f))=>(true,fnD K f x x)
  |_=>(false,none)
 |.cl x=>(PySem.W.nsIn K mainGlobals x==some (some (.ref (dP K x))) && (PySem.W.plainGet K (dP K x) Str.empty && (PySem.W.hasDictIn K (dP K x) && (PySem.W.plainOver K (dP K x) && (PySem.W.findIn K (.ref (dP K x)) "__setattr__"==some (some (.builtin "object.__setattr__")) &&
   (PySem.W.makesIn K (dP K x) && PySem.W.keepIn K (.ref (dP K x))))))),none)
 |.at c f=>(PySem.W.findIn K (.ref (dP K c)) f==some none,none)
 |.mt c m q _=>match PySem.W.findIn K (.ref (dP K c)) m with
  |some (some (.ref f))=>(PySem.W.isFn K (.ref f),fnD K f m q)
  |_=>(false,none)
 |.ints x l=>(match PySem.W.nsIn K mainGlobals x with
  |some (some (.ref a))=>(match K.lookup a with
   |some ⟨c,_,.seq its _,_⟩=>c==.type "tuple" && (its.toList.map Wz==l.map some && decide (l.length<=100))
   |_=>false)
  |_=>false,none)
 |.exc x q _=>match aAh K (dP K x) with
  |some f=>(PySem.W.nsIn K mainGlobals x==some (some (.ref (dP K x))),fnD K f "__init__" q)
  |none=>(false,none)
def Ft.X:Ft->Bool×Option Df
 |.fn _ st=>(true,some (Vr st))
 |.mt _ _ _ st=>(true,some (Vr st))
 |.exc _ _ st=>(true,some (Vr st))
 |_=>(true,none)
def frH (as:List Addr) (h:Heap):PySem.W.Frag:=as.filterMap fun a=>(h.get? a).map fun o=>(a,o)
def ftC:List Ft:=[.cl "Reader",.at "Reader" "text",.at "Reader" "position",.cl "Part",.at "Part" "name",.at "Part" "width",.at "Part" "depth",.at "Part" "height",.at "Part" "weight",.at "Part" "cells",.cl "Build",.at "Build" "name",.at "Build" "lines",.cl "Given",.at "Given" "refusal",.at "Given" "fault",.at "Given" "parts",.at "Given" "build",.at "Given" "room",.ints "SIGNS" cP,.exc "Stuck" "Stuck.__init__" qH,.fn "is_letter" oF,.no "ord",.fn "is_digit" qA,.mt "Reader" "__init__" "Reader.__init__" Vf,.mt "Reader" "ended" "Reader.ended" Cy,.no "len",.int "NO_BYTE" 256,.mt "Reader" "here" "Reader.here" Li,.mt "Reader" "take" "Reader.take" Jv,.mt "Reader" "read_one_of" "Reader.read_one_of" Ck,.mt "Reader" "read_word" "Reader.read_word" Lf,.mt "Reader" "read_name" "Reader.read_name" Kf,.no "tuple",.mt "Reader" "read_number" "Reader.read_number" uN,.mt "Reader" "read_end" "Reader.read_end" Vg,.mt "Part" "__init__" "Part.__init__" Bf,.mt "Build" "__init__" "Build.__init__" uJ,.mt "Given" "__init__" "Given.__init__" uK,.fn "has_stud" qD,.int "STUD" 115,.int "BOTH" 98,.fn "has_tube" qK,.int "TUBE" 116,.fn "above" Cr,.fn "below" Cn,.fn "read_cells" lK,.no "range",.int "NO_CELL" 46,.fn "read_part" nX,.int "LONGEST_PART_NAME" 8,.int "MOST_WIDTH" 16,.int "MOST_DEPTH" 16,.int "MOST_HEIGHT" 18,.int "MOST_WEIGHT" 9999,.fn "read_catalogue" pS,.int "MOST_PARTS" 64,.fn "studs_clear" Az,.fn "tubes_clear" Bc,.fn "fills_its_box" wD,.no "enumerate",.fn "neighbours" Ar,.fn "hangs_together" Bs,.no "list",.fn "names_grow" Jp,.fn "part_right" lJ,.fn "catalogue_right" kI,.no "all",.fn "some_begins" qJ,.no "any",.fn "read_part_number" uV,.fn "read_line" oE,.int "MOST_COLOUR" 255,.int "ROOM_WIDTH" 64,.int "ROOM_DEPTH" 64,.int "ROOM_HEIGHT" 96,.int "MOST_TURNS" 3,.fn "read_build" kT,.int "LONGEST_BUILD_NAME" 16,.int "MOST_LINES" 256,.fn "names_of" mZ,.fn "read_given" iU,.int "MOST_CATALOGUE_BYTES" 1048576,.int "MOST_BUILD_BYTES" 16384]
abbrev uW:Stmt:=gI 36
abbrev Jr:Stmt:=gI 37
abbrev uT:Stmt:=gI 35
abbrev uR:Stmt:=gI 56
abbrev uS:Stmt:=gI 55
abbrev Lg:Stmt:=gI 57
abbrev Cq:Stmt:=eS (gI 47) 0
abbrev pZ:Stmt:=gI 58
abbrev qU:Stmt:=gI 54
abbrev Lb:Stmt:=gI 53
abbrev lQ:Stmt:=gI 70
def ftR:List Ft:=[.cl "Room",.at "Room" "signs",.at "Room" "owners",.at "Room" "wrong",.mt "Room" "__init__" "Room.__init__" Cq,.fn "turned_once" Jr,.fn "turned_part" uW,.no "range",.fn "turned_sizes" uT,.fn "beyond_room" uR,.int "ROOM_WIDTH" 64,.int "ROOM_DEPTH" 64,.int "ROOM_HEIGHT" 96,.fn "leaves_room" uS,.fn "cells_in_room" Lg,.fn "blocked_lines" pZ,.fn "wrong_with" qU,.no "len",.no "min",.fn "fill_room" Lb,.no "enumerate",.fn "read_right" lQ]
abbrev jU:Stmt:=gI 5
abbrev iP:Stmt:=gI 52
abbrev iO:Stmt:=gI 71
abbrev oN:Stmt:=gI 60
abbrev iY:Stmt:=gI 61
abbrev jX:Stmt:=gI 62
abbrev jV:Stmt:=gI 63
abbrev gC:Stmt:=gI 72
end Br1
namespace Br1
open PySem PySem.W
def uI (tb:String->Option Builtin) (p:Program) (w:World) (n₀:Nat) (ann:Option Value):Nat->SharedT->Thread->Option SharedT
 |0,_,_=>none
 |n+1,s,t=>match through t with
  |true=>some s
  |false=>match stepOk n₀ ann t with
   |false=>none
   |true=>match stepT (denote tb) p w s t with
    |some (s',t')=>uI tb p w n₀ ann n s' t'
    |none=>none
theorem tJ {tb:String->Option Builtin} {p:Program} {w:World} {n₀:Nat} {ann:Option Value}:∀ {n:Nat} {s s':SharedT} {t:Thread},uI tb p w n₀ ann n s t=some s'->topRun tb p w n₀ ann n s.abs t=some s'.abs
 |0,_,_,_,h=>by cases h
 |n+1,s,s',t,h=>by
  unfold uI at h
  unfold topRun
  cases he:through t with
  |true=>
   rw [he] at h
   cases h
   rfl
  |false=>
   rw [he] at h
   cases hk:stepOk n₀ ann t with
   |false=>
    rw [hk] at h
    cases h
   |true=>
    rw [hk] at h
    cases hs:stepT (denote tb) p w s t with
    |none=>
     rw [hs] at h
     cases h
    |some r=>
     obtain ⟨s₂,t₂⟩:=r
     rw [hs] at h
     dsimp only
     rw [stepT_spec hs]
     exact tJ h
def Fu:Nat->List Obj->BT->BT
 |_,[],t=>t
 |n,o::r,t=>Fu (n+1) r (t.ins n o)
noncomputable def aA5 (P:Params):BT:=Fu 0 (boot_heap P).objs.toList .nil
noncomputable def Xj (P:Params) (os:OsState):SharedT:=⟨aA5 P,11,(boot_heap P).life,Array.mk [],boot_drawn,boot_toks,os⟩
theorem Sk (P:Params) (os:OsState):(Xj P os).abs=⟨boot_heap P,Array.mk [],boot_drawn,boot_toks,os⟩:=by kernel_rfl
theorem Of {p q:Program} {loose:List Str} {Xt:Shared->Bool} {α:Type} {Yf:Shared->α} {Ya:World->α} {N:Nat} {g0:Bool} (e:opening p=plainProg p.main.scope.names) (hN:Nat.ble 600 N=true) (f:∀ s,fenceModules? p s=some s)
  (h1:∀ w:World,((boot_heap w.params).isNs mainGlobals && (Array.mk ([]:List GenState)).size==0)=true)
  (h:∀ (w:World) (os:OsState),(uI treeTable p w (boot_heap w.params).objs.size ((boot_heap w.params).nsMap mainGlobals "__annotations__") N (Xj w.params os) (topStub p)).map (fun s=>
   (staticsOk (importedModules p.main.body) (boot_heap w.params) s.abs.heap && namesBound p s.abs.heap && gensDone s.abs && laidKept (boot_heap w.params) s.abs.heap,openSeen q loose (importedModules p.main.body) Xt g0 s.abs,Yf s.abs))=some (true,openGood q loose,Ya w)):LeftO p q loose Xt Yf Ya N g0:=fun w=>by
 obtain ⟨⟨h0,gs,d,k,os⟩,e0,e'⟩:=Option.map_eq_some_iff.mp (boot_open e hN f w)
 obtain ⟨rfl,rfl,rfl,rfl⟩:h0=boot_heap w.params/\gs=Array.mk []/\d=boot_drawn/\k=boot_toks:=by simpa using e'
 obtain ⟨s',e1,e2⟩:=Option.map_eq_some_iff.mp (h w os)
 have e3:=tJ e1
 rw [Sk] at e3
 obtain ⟨a1,a2⟩:=Prod.mk.inj e2
 unfold openEnds
 rw [e0]
 show (topFrom treeTable p w N _).map _=_
 have e4:topFrom treeTable p w N ⟨boot_heap w.params,Array.mk [],boot_drawn,boot_toks,os⟩=some s'.abs:=by
  unfold topFrom
  rw [show ((⟨boot_heap w.params,Array.mk [],boot_drawn,boot_toks,os⟩:Shared).heap.isNs mainGlobals && (⟨boot_heap w.params,Array.mk [],boot_drawn,boot_toks,os⟩:Shared).gens.size==0)=true from h1 w]
  dsimp only
  rw [e3]
  dsimp only [Option.bind]
  rw [a1]
 rw [e4]
 exact congrArg some a2
end Br1
namespace Br1
open PySem PySem.Spec PyProof.Rows L2
def ftZ:List Ft:=ftC++(ftR++([.no "len",.no "min",.no "range",.no "list",.no "ord",.int "ROOM_WIDTH" 64,.int "MOST_TURNS" 3,.fn "spelled" jU,.fn "build_text" iP,.fn "with_lines" iO,.fn "moved_lines" oN,.fn "moved_home" iY,.fn "turned_line" jV,.fn "turned_lines" jX,.fn "turned" gC]))
def asC:List Addr:=[3,31,30,28,27,41,40,48,47,53,52,126,125,67,66,74,73,81,80,88,87,95,94,102,101,109,108,116,115,123,122,131,148,147,145,144,159,158,166,165,173,172,180,179,187,186,194,193,201,200,206,205,213,212,220,219,227,226,232,231,239,238,246,245,253,252,260,259,267,266,274,273,291,290,288,287,312,311,309,308,323,322,330,329,337,336,342,341,349,348,356,355,361,360,368,367,375,374,382,381,389,388,394,393,399,398,404,403,411,410,428,427,425,424,439,438,444,443,451,450,458,457,465,464]
def Ri:List Str:=[.ofString "NO_BYTE",.ofString "Stuck",.ofString "is_letter",.ofString "is_digit",.ofString "spelled",.ofString "Reader",.ofString "MOST_PARTS",.ofString "LONGEST_PART_NAME",.ofString "MOST_WIDTH",.ofString "MOST_DEPTH",.ofString "MOST_HEIGHT",.ofString "MOST_WEIGHT",.ofString "NO_CELL",.ofString "STUD",.ofString "TUBE",.ofString "BOTH",.ofString "SIGNS",.ofString "Part",.ofString "has_stud",.ofString "has_tube",.ofString "above",.ofString "below",.ofString "read_catalogue",.ofString "read_part",.ofString "read_cells",.ofString "catalogue_right",.ofString "part_right",.ofString "studs_clear",.ofString "tubes_clear",.ofString "fills_its_box",.ofString "hangs_together",.ofString "neighbours",.ofString "names_grow",.ofString "turned_sizes",.ofString "turned_part",.ofString "turned_once",.ofString "ROOM_WIDTH",.ofString "ROOM_DEPTH",.ofString "ROOM_HEIGHT",.ofString "LONGEST_BUILD_NAME",.ofString "MOST_LINES",.ofString "MOST_COLOUR",.ofString "MOST_TURNS",.ofString "Build",.ofString "Room",.ofString "read_build",.ofString "read_line",.ofString "read_part_number",.ofString "some_begins",.ofString "build_text",.ofString "fill_room",.ofString "wrong_with",.ofString "leaves_room",.ofString "beyond_room",.ofString "cells_in_room",.ofString "blocked_lines",.ofString "moved_lines",.ofString "moved_home",.ofString "turned_lines",.ofString "turned_line",.ofString "MOST_CATALOGUE_BYTES",.ofString "MOST_BUILD_BYTES",.ofString "Given",.ofString "read_given",.ofString "names_of",.ofString "read_right",.ofString "with_lines"]
def vwC:Program:=PySem.W.view PySem.Challenge.pw_brickrooms_s09_turned [72]
theorem aB1:PySem.W.LeftO PySem.Challenge.pw_brickrooms_s09_turned vwC Ri (fun _=>true) (fun s=>ftZ.map (Ft.D (frH asC s.heap))) (fun _=>ftZ.map Ft.X) 6324:=by
 refine Of ?a ?b ?c ?d ?e
 case a=>kernel_rfl
 case b=>decide
 case c=>intro s;kernel_rfl
 case d=>intro w;kernel_rfl
 case e=>intro w os;kernel_rfl
end Br1
namespace L2
open PySem PySem.Spec PyProof.Rows
abbrev eF:=Sum Int Str
def tU:eF->Value->Bool
 |.inl k,v=>Value.isInt k v
 |.inr x,v=>Value.isStrOf x v
def aDc (w:World):eF->Int
 |.inl k=>hashInt k
 |.inr x=>hashStr w x
theorem dJ:∀ {k:eF} {v:Value},tU k v=true->(∃ i t,k=Sum.inl i/\v=Value.int i t)\/(∃ x t,k=Sum.inr x/\v=Value.str x t)
 |.inl i,v,h=>by
  obtain ⟨t,e⟩:=Value.isInt_shape (k:=i) (v:=v) h
  exact .inl ⟨i,t,rfl,e⟩
 |.inr x,v,h=>by
  obtain ⟨t,e⟩:=Value.isStrOf_shape (x:=x) (v:=v) h
  exact .inr ⟨x,t,rfl,e⟩
theorem No (i:Int) (t:Tok):tU (.inl i) (.int i t)=true:=by simp [tU,Value.isInt]
theorem Ob (x:Str) (t:Tok):tU (.inr x) (.str x t)=true:=by simp [tU,Value.isStrOf]
theorem Zo (a b:Int):decide ((Sum.inl a:eF)=Sum.inl b)=(a==b):=by
 by_cases e:a=b
 ·subst e;simp
 ·have h:¬(Sum.inl a:eF)=Sum.inl b:=fun q=>e (Sum.inl.inj q)
  rw [decide_eq_false h]
  exact (beq_eq_false_iff_ne.mpr e).symm
theorem Yd (a b:Str):decide ((Sum.inr a:eF)=Sum.inr b)=decide (a=b):=by
 by_cases e:a=b
 ·subst e;simp
 ·have h:¬(Sum.inr a:eF)=Sum.inr b:=fun q=>e (Sum.inr.inj q)
  rw [decide_eq_false h,decide_eq_false e]
theorem Zx (a:Int) (b:Str):decide ((Sum.inl a:eF)=Sum.inr b)=false:=decide_eq_false (fun q=>nomatch q)
theorem Zc (a:Str) (b:Int):decide ((Sum.inr a:eF)=Sum.inl b)=false:=decide_eq_false (fun q=>nomatch q)
def eT (prog:Program) (w:World):PySem.KeyKind prog w eF where
 is:=tU
 hash:=aDc w
 inj:=fun v a b ha hb=>by
  rcases dJ ha with ⟨i,t,rfl,rfl⟩|⟨x,t,rfl,rfl⟩
  ·rcases dJ hb with ⟨j,u,rfl,e⟩|⟨y,u,rfl,e⟩
   ·injection e with e1 _;rw [e1]
   ·exact nomatch e
  ·rcases dJ hb with ⟨j,u,rfl,e⟩|⟨y,u,rfl,e⟩
   ·exact nomatch e
   ·injection e with e1 _;rw [e1]
 byValue:=fun k v h=>by
  rcases dJ h with ⟨i,t,rfl,rfl⟩|⟨x,t,rfl,rfl⟩<;>rfl
 pyHash:=fun hv h=>by
  rcases dJ hv with ⟨i,t,rfl,rfl⟩|⟨x,t,rfl,rfl⟩
  ·exact wpAny_pyHash_int h
  ·exact wpAny_pyHash_str h
 eqBool:=fun hu hv h=>by
  rcases dJ hu with ⟨i,t,rfl,rfl⟩|⟨x,t,rfl,rfl⟩
  ·rcases dJ hv with ⟨j,u,rfl,rfl⟩|⟨y,u,rfl,rfl⟩
   ·rw [Zo] at h;exact wpAny_eqBool_int h
   ·rw [Zx] at h;exact SeqAt.EqAt.int_str i t y u _ _ _ _ h
  ·rcases dJ hv with ⟨j,u,rfl,rfl⟩|⟨y,u,rfl,rfl⟩
   ·rw [Zc] at h;exact SeqAt.EqAt.str_int x t j u _ _ _ _ h
   ·rw [Yd] at h;exact wpAny_eqBool_str h
 «strs»:=fun k x t v h=>by
  rcases dJ h with ⟨i,u,rfl,e⟩|⟨y,u,rfl,e⟩
  ·exact nomatch e
  ·injection e with e1 _
   subst e1
   cases v<;>rfl
theorem Ed (prog:Program) (w:World) (i:Int) (t:Tok):(eT prog w).is (.inl i) (.int i t)=true:=No i t
theorem Ek (prog:Program) (w:World) (x:Str) (t:Tok):(eT prog w).is (.inr x) (.str x t)=true:=Ob x t
inductive V where
 |non|bl (b:Bool)|int (i:Int)|str (x:Str)|byt (b:Array UInt8)|flt (b:UInt64)|ref (a:Addr)|ty (n:String)
 deriving DecidableEq
def cD:V->Value->Prop
 |.non,u=>u=Value.none
 |.bl b,u=>u=Value.bool b
 |.int i,u=>∃ t,u=Value.int i t
 |.str x,u=>∃ t,u=Value.str x t
 |.byt b,u=>∃ t,u=Value.bytes b t
 |.flt b,u=>∃ t,u=Value.float b t
 |.ref a,u=>u=Value.ref a
 |.ty n,u=>u=Value.type n
abbrev bS:List V->List Value->Prop:=Paired cD
theorem bS.length {xs:List V} {us:List Value} (r:bS xs us):xs.length=us.length:=Paired.length r
theorem bS.get:∀ {xs:List V} {us:List Value} {i:Nat} {x:V},bS xs us->xs[i]?=some x->∃ u,us[i]?=some u/\cD x u
 |_,_,_,_,.nil,e=>by simp at e
 |_,_,0,_,.cons r _,e=>by simp at e;subst e;exact ⟨_,rfl,r⟩
 |_,_,i+1,x,.cons _ t,e=>by
  obtain ⟨u,h1,h2⟩:=bS.get (i:=i) (x:=x) t (by simpa using e)
  exact ⟨u,by simpa using h1,h2⟩
theorem bS.append:∀ {xs ys:List V} {us ws:List Value},bS xs us->bS ys ws->bS (xs++ys) (us++ws)
 |_,_,_,_,.nil,s=>s
 |_,_,_,_,.cons r t,s=>.cons r (bS.append t s)
theorem bS.take:∀ {xs:List V} {us:List Value} (n:Nat),bS xs us->bS (xs.take n) (us.take n)
 |_,_,0,_=>.nil
 |_,_,_+1,.nil=>.nil
 |_,_,n+1,.cons r t=>.cons r (bS.take n t)
theorem bS.drop:∀ {xs:List V} {us:List Value} (n:Nat),bS xs us->bS (xs.drop n) (us.drop n)
 |_,_,0,r=>r
 |_,_,_+1,.nil=>.nil
 |_,_,n+1,.cons _ t=>bS.drop n t
def lC:Option V->Option Value->Prop
 |some v,some u=>cD v u
 |none,none=>True
 |_,_=>False
def KV {κ:Type}:List (κ×V)->List (κ×Value)->Prop:=Paired fun (p:κ×V) (q:κ×Value)=>p.1=q.1/\cD p.2 q.2
def kV:eF->V
 |.inl i=>.int i
 |.inr x=>.str x
inductive HO where
  |lst (xs:List V)
  |tup (xs:List V)
  |dK (aJ:List (eF×V))|dT (aJ:List (List eF×V))
  |set (S:Int->Bool) (n:Nat)
  |ins (C dx:Addr) (fs:List (Str×V))
  |own (x:Addr)
  |xd (fs:List (Str×V))
  |met (f x:Addr)
  |rng (lo hi:Int)
  |frz (o:Obj) (u:HO)
  |tbl (ps:Array Value)
  |ext (φ:Heap->Prop)
abbrev Hp:=Addr->Option HO
def upd (H:Hp) (a:Addr) (o:HO):Hp:=fun b=>if b=a then some o else H b
theorem aB {H:Hp} {a:Addr} {o:HO}:upd H a o a=some o:=by unfold upd;rw [if_pos rfl]
theorem aC {H:Hp} {a b:Addr} {o:HO} (h:b≠a):upd H a o b=H b:=by unfold upd;rw [if_neg h]
theorem Xv {H:Hp} {a b:Addr} {o u:HO} (h:H a=some o) (h':H b=some u) (d:o≠u):a≠b:=by
 intro e;subst e;rw [h] at h';exact d (Option.some.inj h')
theorem aD {H:Hp} {a b:Addr} {o:HO} (h:H a=some o) (h':H b=none):a≠b:=by
 intro e;subst e;rw [h] at h';cases h'
section
variable (P:Program) (w:World)
def cK (H:Hp) (h:Heap) (a:Addr):HO->Prop
 |.lst xs=>xs.length<=sizeLine/\∃ (its:List Value) (n:Nat),bS xs its/\h.get? a=some {cls:=.type "list",data:=.seq its.toArray n}
 |.tup xs=>xs.length<=sizeLine/\∃ its:List Value,bS xs its/\IsTup h a its.toArray
 |.dK aJ=>aJ.length<=sizeLine/\(a==sysModules)=false/\∃ vs,KV aJ vs/\h.DictOf (eT P w) a vs
 |.dT aJ=>aJ.length<=sizeLine/\(a==sysModules)=false/\∃ xs:List (List eF×Addr×Value),
   Paired (fun (p:List eF×V) (q:List eF×Addr×Value)=>p.1=q.1/\H q.2.1=some (.tup (p.1.map kV))/\cD p.2 q.2.2) aJ xs/\
   ∃ o es ep,h.get? a=some o/\o.ExactDict/\o.data=.dict es ep/\es.toList=xs.map (entryOfKey (tupleKind (eT P w)))/\(xs.map (·.1)).Nodup
 |.set S n=>h.SetOf (intKind P w) a S n
 |.ins C dx fs=>H dx=some (.own a)/\fs.length<=1000/\dx≠a/\h.get? a=some (PySem.W.instObj C dx)/\
   ∃ mA,h.Ns1 dx mA/\(∀ f,lC (fs.lookup f) (mA f))/\PySem.Within mA (fs.map (·.1))
 |.own _=>∃ o,h.get? a=some o
 |.xd fs=>∃ mA,h.Ns1 a mA/\∀ f,lC (fs.lookup f) (mA f)
 |.rng lo hi=>∃ t u v,h.get? a=some {cls:=.type "range",data:=.fields #[.int lo t,.int hi u,.int 1 v]}
 |.frz o u=>h.get? a=some o/\cK H h a u
 |.tbl ps=>h.get? a=some {cls:=.none,data:=.fields ps}
 |.met f x=>h.get? a=some (PySem.W.methodObj (.ref f) (.ref x))
 |.ext φ=>φ h/\(∃ o,h.get? a=some o)/\∀ h1 h2:Heap,φ h1->(∀ o,h1.get? a=some o->h2.get? a=some o)->φ h2
def kR (H:Hp) (h:Heap):Prop:=∀ a o,H a=some o->cK P w H h a o
end
section
variable {P:Program} {w:World} {H H':Hp} {h h':Heap} {a:Addr} {o:HO}
theorem cK.lt (x:cK P w H h a o):a<h.objs.size:=by
 cases o with
 |lst xs=>obtain ⟨_,_,_,_,e⟩:=x;exact Heap.lt_size e
 |tup xs=>obtain ⟨_,_,_,p⟩:=x;exact p.lt
 |dK aJ=>obtain ⟨_,_,_,_,o,_,_,e,_⟩:=x;exact Heap.lt_size e
 |dT aJ=>obtain ⟨_,_,_,_,o,_,_,e,_⟩:=x;exact Heap.lt_size e
 |set S n=>obtain ⟨o,_,_,_,e,_⟩:=x;exact Heap.lt_size e
 |ins C dx fs=>obtain ⟨_,_,_,e,_⟩:=x;exact Heap.lt_size e
 |own y=>obtain ⟨_,e⟩:=x;exact Heap.lt_size e
 |xd fs=>obtain ⟨_,⟨_,_,_,e,_⟩,_⟩:=x;exact Heap.lt_size e
 |rng lo hi=>obtain ⟨_,_,_,e⟩:=x;exact Heap.lt_size e
 |frz ob u=>obtain ⟨e,_⟩:=x;exact Heap.lt_size e
 |tbl ps=>exact Heap.lt_size (show h.get? a=some _ from x)
 |met f y=>exact Heap.lt_size (show h.get? a=some _ from x)
 |ext φ=>obtain ⟨_,⟨_,e⟩,_⟩:=x;exact Heap.lt_size e
theorem Paired.mapP {α β:Type} {F G:α->β->Prop}:∀ {l₁:List α} {l₂:List β},Paired F l₁ l₂->(∀ a b,F a b->G a b)->Paired G l₁ l₂
 |_,_,.nil,_=>.nil
 |_,_,.cons r t,f=>.cons (f _ _ r) (Paired.mapP t f)
theorem cK.stay (x:cK P w H h a o) (k:∀ b u,(b=a\/H b=some (.own a))->h.get? b=some u->h'.get? b=some u)
  (ho:∀ b,H b=some (.own a)->H' b=some (.own a)) (ht:∀ b xs,H b=some (.tup xs)->H' b=some (.tup xs)):cK P w H' h' a o:=by
 induction o with
 |lst xs=>obtain ⟨z,its,n,r,e⟩:=x;exact ⟨z,its,n,r,k _ _ (.inl rfl) e⟩
 |tup xs=>obtain ⟨z,its,r,ob,e,c⟩:=x;exact ⟨z,its,r,ob,k _ _ (.inl rfl) e,c⟩
 |dK aJ=>obtain ⟨z,y,vs,r,ob,es,ep,e,c⟩:=x;exact ⟨z,y,vs,r,ob,es,ep,k _ _ (.inl rfl) e,c⟩
 |dT aJ=>
  obtain ⟨z,y,xs,r,ob,es,ep,e,c⟩:=x
  exact ⟨z,y,xs,Paired.mapP r fun p q z=>⟨z.1,ht _ _ z.2.1,z.2.2⟩,ob,es,ep,k _ _ (.inl rfl) e,c⟩
 |set S n=>obtain ⟨ob,es,ep,t,e,c⟩:=x;exact ⟨ob,es,ep,t,k _ _ (.inl rfl) e,c⟩
 |ins C dx fs=>
  obtain ⟨d,z,ne,e,mA,⟨od,es,ep,e2,c⟩,r⟩:=x
  exact ⟨ho _ d,z,ne,k _ _ (.inl rfl) e,mA,⟨od,es,ep,k _ _ (.inr d) e2,c⟩,r⟩
 |own y=>obtain ⟨ob,e⟩:=x;exact ⟨ob,k _ _ (.inl rfl) e⟩
 |xd fs=>obtain ⟨mA,⟨od,es,ep,e,c⟩,r⟩:=x;exact ⟨mA,⟨od,es,ep,k _ _ (.inl rfl) e,c⟩,r⟩
 |rng lo hi=>obtain ⟨t,u,v,e⟩:=x;exact ⟨t,u,v,k _ _ (.inl rfl) e⟩
 |frz ob u ih=>obtain ⟨e,q⟩:=x;exact ⟨k _ _ (.inl rfl) e,ih q⟩
 |tbl ps=>
  have e:h.get? a=some {cls:=.none,data:=.fields ps}:=x
  show h'.get? a=some {cls:=.none,data:=.fields ps}
  exact k a _ (.inl rfl) e
 |met f y=>
  have e:h.get? a=some (PySem.W.methodObj (.ref f) (.ref y)):=x
  show h'.get? a=some (PySem.W.methodObj (.ref f) (.ref y))
  exact k a _ (.inl rfl) e
 |ext φ=>obtain ⟨p,⟨o,e⟩,st⟩:=x;exact ⟨st _ _ p fun o q=>k _ _ (.inl rfl) q,⟨o,k _ _ (.inl rfl) e⟩,st⟩
theorem kR.lt (x:kR P w H h) (e:H a=some o):a<h.objs.size:=(x a o e).lt
theorem kR.fresh (x:kR P w H h) (e:h.objs.size<=a):H a=none:=by
 cases q:H a with
 |none=>rfl
 |some u=>exact absurd (Nat.lt_of_lt_of_le (x.lt q) e) (Nat.lt_irrefl _)
theorem kR.kept (x:kR P w H h) (k:∀ b u,h.get? b=some u->h'.get? b=some u):kR P w H h':=fun a o e=>
 (x a o e).stay (fun b u _ q=>k b u q) (fun _ q=>q) fun _ _ q=>q
theorem kR.laid (x:kR P w H h) (k:∀ b u,h.get? b=some u->h'.get? b=some u) (hp:h.objs.size<=a) (new:cK P w (upd H a o) h' a o):kR P w (upd H a o) h':=fun b u e=>by
 have hn:=x.fresh hp
 by_cases hb:b=a
 ·subst hb;rw [aB] at e;cases e;exact new
 ·rw [aC hb] at e
  exact (x b u e).stay (fun c v _ q=>k c v q) (fun c q=>by rw [aC (aD q hn)];exact q) fun c xs q=>by rw [aC (aD q hn)];exact q
end
def Rd (H:Hp) (a:Addr) (u:HO):Prop:=H a=some u\/∃ o,H a=some (.frz o u)
theorem Rd.ok {P:Program} {w:World} {H:Hp} {h:Heap} {a:Addr} {u:HO} (r:Rd H a u) (x:kR P w H h):cK P w H h a u:=by
 rcases r with r|⟨o,r⟩
 ·exact x a u r
 ·obtain ⟨_,q⟩:=x a _ r
  exact q
def Xr:Option HO->Prop
 |some (.lst _)=>True
 |some (.dK _)=>True
 |some (.dT _)=>True
 |some (.set _ _)=>True
 |some (.ins _ _ _)=>True
 |some (.ext _)=>True
 |_=>False
section
variable {P:Program} {w:World} {H:Hp} {h h':Heap} {x e:Addr} {o':HO}
theorem kR.write (ok:kR P w H h) (mu:Xr (H x)) (he:e=x\/H e=some (.own x)) (k:∀ b u,b≠e->h.get? b=some u->h'.get? b=some u) (heo:∃ u,h'.get? e=some u)
  (new:cK P w (upd H x o') h' x o'):kR P w (upd H x o') h':=fun b u q=>by
 have nown:∀ c y,H c=some (.own y)->c≠x:=fun c y r z=>by subst z;rw [r] at mu;exact mu
 have ntup:∀ c xs,H c=some (.tup xs)->c≠x:=fun c xs r z=>by subst z;rw [r] at mu;exact mu
 by_cases hb:b=x
 ·subst hb;rw [aB] at q;cases q;exact new
 ·rw [aC hb] at q
  by_cases hbe:b=e
  ·have q':H b=some (.own x):=by
    rcases he with z|z
    ·exact absurd (hbe.trans z) hb
    ·rw [hbe];exact z
   rw [q] at q';cases q'
   obtain ⟨v,hv⟩:=heo
   exact ⟨v,by rw [hbe];exact hv⟩
  ·refine (ok b u q).stay (fun c v hc r=>k c v ?_ r) (fun c r=>by rw [aC (nown c b r)];exact r) fun c xs r=>by rw [aC (ntup c xs r)];exact r
   rcases hc with rfl|hc
   ·exact hbe
   ·rintro rfl
    rcases he with z|z
    ·exact nown c b hc z
    ·rw [hc] at z;cases z;exact hb rfl
end
structure Un (fs ex:List Addr) (H H':Hp) (h h':Heap):Prop where
 keep:∀ b o,h.get? b=some o->H b=none->b∉fs->b∉ex->h'.get? b=some o
 slot:∀ b o,h.get? b=some o->H b=none->b∈fs->b∉ex->∃ sl,h'.get? b=some {o with slots:=sl}
 free:∀ b o,h.get? b=some o->H b=none->b∉ex->H' b=none
 there:∀ b o,h.get? b=some o->b∉ex->∃ o',h'.get? b=some o'
 tups:∀ b xs,H b=some (.tup xs)->H' b=some (.tup xs)
 frzs:∀ b o u,H b=some (.frz o u)->H' b=some (.frz o u)
 tbls:∀ b ps,H b=some (.tbl ps)->∃ more,H' b=some (.tbl (ps++more))
section
variable {fs fs' ex ex':List Addr} {H H1 H2:Hp} {h h1 h2 h':Heap} {a x e:Addr} {o:HO}
theorem Un.any (u:Un fs ex H H1 h h1) {b:Addr} {ob:Obj} (q:h.get? b=some ob) (n:H b=none) (hx:b∉ex):∃ sl,h1.get? b=some {ob with slots:=sl}:=by
 by_cases hb:b∈fs
 ·exact u.slot b ob q n hb hx
 ·exact ⟨ob.slots,u.keep b ob q n hb hx⟩
theorem Un.kept (k:∀ b u,h.get? b=some u->h'.get? b=some u):Un fs ex H H h h':=
 ⟨fun b ob q _ _ _=>k b ob q,fun b ob q _ _ _=>⟨ob.slots,k b ob q⟩,fun _ _ _ n _=>n,fun b ob q _=>⟨ob,k b ob q⟩,fun _ _ q=>q,fun _ _ _ q=>q,fun _ ps q=>⟨#[],by rw [q];simp⟩⟩
theorem Un.refl:Un fs ex H H h h:=Un.kept fun _ _ q=>q
theorem Un.laid (k:∀ b u,h.get? b=some u->h'.get? b=some u) (hp:h.objs.size<=a) (hn:H a=none):Un fs ex H (upd H a o) h h' where
 keep:=fun b u q _ _ _=>k b u q
 slot:=fun b u q _ _ _=>⟨u.slots,k b u q⟩
 free:=fun b u q n _=>by rw [aC (Nat.ne_of_lt (Nat.lt_of_lt_of_le (Heap.lt_size q) hp))];exact n
 there:=fun b u q _=>⟨u,k b u q⟩
 tups:=fun b xs q=>by rw [aC (aD q hn)];exact q
 frzs:=fun b u xs q=>by rw [aC (aD q hn)];exact q
 tbls:=fun b ps q=>⟨#[],by rw [aC (aD q hn),q];simp⟩
theorem Un.write (mu:Xr (H x)) (he:e=x\/H e=some (.own x)) (k:∀ b u,b≠e->h.get? b=some u->h'.get? b=some u) (heo:∃ u,h'.get? e=some u):Un fs ex H (upd H x o) h h':=by
 have hx:∀ b,H b=none->b≠x:=fun b n z=>by subst z;rw [n] at mu;exact mu
 have hb:∀ b,H b=none->b≠e:=fun b n z=>by
  subst z
  rcases he with r|r
  ·exact hx b n r
  ·rw [n] at r;cases r
 have hm:∀ b u,H b=some u->¬Xr (some u)->b≠x:=fun b u q nm z=>by subst z;rw [q] at mu;exact nm mu
 refine ⟨fun b u q n _ _=>k b u (hb b n) q,fun b u q n _ _=>⟨u.slots,k b u (hb b n) q⟩,fun b u q n _=>by rw [aC (hx b n)];exact n,fun b u q _=>?_,
  fun b xs q=>by rw [aC (hm b _ q fun z=>z)];exact q,fun b u xs q=>by rw [aC (hm b _ q fun z=>z)];exact q,fun b ps q=>⟨#[],by rw [aC (hm b _ q fun z=>z),q];simp⟩⟩
 by_cases hbe:b=e
 ·subst hbe;exact heo
 ·exact ⟨u,k b u hbe q⟩
end
def trk (h:Heap) (H:Hp):List Addr:=(List.range h.objs.size).filter fun a=>(H a).isSome
def Cc (h:Heap) (H:Hp):Heap:=PySem.W.hideAll h (trk h H)
theorem Nw (h:Heap) (H:Hp):(Cc h H).objs.size=h.objs.size:=PySem.W.hideAll_size _ _
theorem Ow {h:Heap} {H:Hp} {b:Addr} {o:Obj} (e:h.get? b=some o) (n:H b=none):(Cc h H).get? b=some o:=
 PySem.W.hideAll_get _ e fun hm=>by
  have q:(H b).isSome=true:=(List.mem_filter.mp hm).2
  rw [n] at q;simp at q
theorem Wc {h:Heap} {H:Hp} {b:Addr} {o:Obj} (e:(Cc h H).get? b=some o):h.get? b=some o/\H b=none:=by
 have e':h.get? b=some o:=PySem.W.of_hideAll (trk h H) e
 refine ⟨e',?_⟩
 cases q:H b with
 |none=>rfl
 |some x=>
  have hm:b∈trk h H:=List.mem_filter.mpr ⟨List.mem_range.mpr (Heap.lt_size e'),by simp [q]⟩
  have z:(Cc h H).get? b=none:=PySem.W.hideAll_none (trk h H) hm
  rw [z] at e;cases e
structure Mod (K:PySem.W.Frag) (mg:Str->Option Value) (base:Heap):Prop where
 kin:K.In base
 glob:base.Ns mainGlobals mg
 blt:∃ mb,base.Ns builtinsNs mb/\∀ x:Str,x≠"__name__"->mb x=bootBuiltins x
 nolimit:base.NoLimit
structure Cx where
 prog:Program
 w:World
 K:PySem.W.Frag
 mg:Str->Option Value
 base:Heap
 A:Around
 N:List Str
 s_0:Shared
 H_0:Hp
 env:Env
 outer:List Env
 stack:List Env
 ex:List Addr
 fn:Str->Bool
 calm:Bool
 pn:List (Addr×Obj)
 xe:Value->Shared->Prop
def An (l:List Env):List Addr:=l.filterMap (·.frame)
abbrev Cx.fs (X:Cx):List Addr:=An X.outer
def Vis (sc:Scope) (x:Str):Prop:=sc.names.lookup x=some .local\/sc.names.lookup x=some .cell\/sc.names.lookup x=some .free
def Loc (sc:Scope) (x:Str):Prop:=sc.names.lookup x=some .local\/sc.names.lookup x=some .cell
def aDv (env:Env) (h:Heap) (m:Str->Option Value) (x:Str) (u:Value):Prop:=
 (env.kindOf x=some .local/\m x=some u)\/((env.kindOf x=some .cell\/env.kindOf x=some .free)/\∃ c,env.cells.lookup x=some c/\h.IsCell c (some u))
structure Cx.Ok (X:Cx):Prop where
 mod:Mod X.K X.mg X.base
 kind:X.env.scope.kind=.function
 glob:X.env.globals=mainGlobals
 blt:X.env.builtins=builtinsNs
 above:X.s_0.heap.objs.size<=X.env.locals
 inj:∀ x y c,X.env.cells.lookup x=some c->X.env.cells.lookup y=some c->x=y
 has:∀ x,(X.env.kindOf x=some .cell\/X.env.kindOf x=some .free)->∃ c,X.env.cells.lookup x=some c
 cab:∀ x c,X.fn x=true->X.env.cells.lookup x=some c->X.s_0.heap.objs.size<=c
 hd:X.calm=true->X.A.handled=none
 frames:X.A.frames=some X.stack
 stk:X.stack=X.outer\/(X.stack=X.env::X.outer/\X.env.frame=some X.env.locals)
 exf:∀ b∈X.ex,b≠X.env.locals/\∀ x c,X.env.cells.lookup x=some c->c≠b
 bs:∀ b o,X.base.get? b=some o->X.s_0.heap.get? b=some o/\X.H_0 b=none
 bsz:X.base.objs.size<=X.s_0.heap.objs.size
 noex:∀ b o,X.base.get? b=some o->b∉X.ex
 exfs:∀ b∈X.ex,b∉X.fs
 funs:X.s_0.heap.FunFrames X.base X.outer
 frf:∀ b∈X.fs,X.H_0 b=none
structure aQ (X:Cx) (pins:List (Addr×Obj)) (σ:List (Option V)) (H:Hp) (s:Shared):Prop where
 ok:X.Ok
 os:s.os=X.s_0.os
 bare:AllBare s.gens
 base:Un X.fs X.ex X.H_0 H X.s_0.heap s.heap
 loc:∃ m,s.heap.Ns X.env.locals m/\∀ (i:Nat) (x:Str) (v:V),X.N[i]?=some x->σ[i]?=some (some v)->Vis X.env.scope x->∃ u,cD v u/\aDv X.env s.heap m x u
 cell:∀ x c,X.env.cells.lookup x=some c->∃ v,s.heap.IsCell c v
 free:H X.env.locals=none
 freeC:∀ x c,X.env.cells.lookup x=some c->H c=none
 pin:∀ p∈X.pn++pins,s.heap.get? p.1=some p.2/\H p.1=none/\p.1≠X.env.locals/\p.1∉X.fs/\∀ v,p.2.data≠.cell v
 hok:kR X.prog X.w H s.heap
 len:σ.length=X.N.length
section
variable {X:Cx} {pins:List (Addr×Obj)} {σ:List (Option V)} {H H':Hp} {s:Shared} {h':Heap}
theorem Cx.Ok.nofr (ok:X.Ok) {b:Addr} {o:Obj} (e:X.base.get? b=some o):b∉X.fs:=fun hb=>by
 have:=(ok.funs.mem hb).1
 rw [e] at this;cases this
theorem aQ.bs (I:aQ X pins σ H s):∀ b o,X.base.get? b=some o->s.heap.get? b=some o/\H b=none:=fun b o e=>
 ⟨I.base.keep b o (I.ok.bs b o e).1 (I.ok.bs b o e).2 (I.ok.nofr e) (I.ok.noex b o e),I.base.free b o (I.ok.bs b o e).1 (I.ok.bs b o e).2 (I.ok.noex b o e)⟩
theorem aQ.bk (I:aQ X pins σ H s):∀ b o,X.base.get? b=some o->s.heap.get? b=some o:=fun b o e=>(I.bs b o e).1
theorem aQ.mod (I:aQ X pins σ H s):Mod X.K X.mg X.base:=I.ok.mod
theorem aQ.kIn (I:aQ X pins σ H s):X.K.In s.heap:=I.ok.mod.kin.keeps I.bk
theorem aQ.lt (I:aQ X pins σ H s):X.env.locals<s.heap.objs.size:=let ⟨_,hn,_⟩:=I.loc;hn.lt
theorem aQ.sz (I:aQ X pins σ H s):X.s_0.heap.objs.size<=s.heap.objs.size:=Nat.le_trans I.ok.above (Nat.le_of_lt I.lt)
theorem aQ.nofs (I:aQ X pins σ H s) {a:Addr} (h:s.heap.objs.size<=a):a∉X.fs:=fun hb=>by
 obtain ⟨_,o,ho,_⟩:=I.ok.funs.mem hb
 exact absurd (Nat.lt_of_lt_of_le (Heap.lt_size ho) (Nat.le_trans I.sz h)) (Nat.lt_irrefl _)
theorem aQ.cne (I:aQ X pins σ H s):∀ x c,X.env.cells.lookup x=some c->c≠X.env.locals:=fun x c e z=>by
 obtain ⟨v,o,ho,hd⟩:=I.cell x c e
 obtain ⟨m,⟨o',es,ep,ho',hd',_⟩,_⟩:=I.loc
 rw [z,ho'] at ho;cases ho;rw [hd'] at hd;cases hd
theorem aQ.funs (I:aQ X pins σ H s):s.heap.FunFrames X.base X.outer:=by
 have all:∀ (l:List Env),(∀ b∈An l,b∈X.fs)->X.s_0.heap.FunFrames X.base l->s.heap.FunFrames X.base l:=by
  intro l
  induction l with
  |nil=>intro _ _;trivial
  |cons env r ih=>
   intro hs hl
   obtain ⟨hk,⟨L,o,hf,hn,ho,hd⟩,hr⟩:=hl
   have hL:L∈X.fs:=hs L (by unfold An;rw [List.filterMap_cons,hf];exact List.mem_cons_self)
   obtain ⟨sl,e⟩:=I.base.slot L o ho (I.ok.frf L hL) hL fun z=>I.ok.exfs L z hL
   exact ⟨hk,⟨L,_,hf,hn,e,hd⟩,ih (fun b hb=>hs b (by unfold An;rw [List.filterMap_cons,hf];exact List.mem_cons_of_mem _ hb)) hr⟩
 exact all X.outer (fun _ hb=>hb) I.ok.funs
theorem aQ.stack (I:aQ X pins σ H s):s.heap.FunFrames X.base X.stack:=by
 rcases I.ok.stk with e|⟨e,hf⟩
 ·rw [e];exact I.funs
 ·rw [e]
  obtain ⟨m,hn,_⟩:=I.loc
  refine .cons (by rw [I.ok.kind];decide) hf hn ?_ I.funs
  exact Heap.get?_none_of_le (Nat.le_trans I.ok.bsz I.ok.above)
theorem aQ.stkSub (I:aQ X pins σ H s):∀ b∈An X.stack,b∈X.env.locals::X.fs:=fun b hb=>by
 rcases I.ok.stk with e|⟨e,hf⟩
 ·rw [e] at hb;exact List.mem_cons_of_mem _ hb
 ·rw [e] at hb
  unfold An at hb
  rw [List.filterMap_cons,hf] at hb
  exact hb
theorem aQ.stkFree (I:aQ X pins σ H s):∀ b∈An X.stack,H b=none:=fun b hb=>by
 rcases List.mem_cons.mp (I.stkSub b hb) with e|hb
 ·rw [e];exact I.free
 ·obtain ⟨_,o,ho,_⟩:=I.ok.funs.mem hb
  exact I.base.free b o ho (I.ok.frf b hb) fun z=>I.ok.exfs b z hb
theorem aQ.step {g':Array GenState} {t':Nat} {d':Drawn} {ch:List Addr} (I:aQ X pins σ H s)
  (hch:∀ b∈ch,(b∈X.ex\/X.s_0.heap.objs.size<=b)/\b≠X.env.locals/\(∀ x c,X.env.cells.lookup x=some c->c≠b)/\∀ p∈X.pn++pins,p.1≠b)
  (keep:∀ b o,b≠X.env.locals->b∉X.fs->b∉ch->s.heap.get? b=some o->H b=none->h'.get? b=some o)
  (slot:∀ b o,b≠X.env.locals->b∈X.fs->b∉ch->s.heap.get? b=some o->H b=none->∃ sl,h'.get? b=some {o with slots:=sl}) (free:∀ b o,b∉ch->s.heap.get? b=some o->H b=none->H' b=none)
  (there:∀ b o,b∉ch->s.heap.get? b=some o->∃ o',h'.get? b=some o')
  (tups:∀ b xs,H b=some (.tup xs)->H' b=some (.tup xs)) (frzs:∀ b o u,H b=some (.frz o u)->H' b=some (.frz o u)) (tbls:∀ b ps,H b=some (.tbl ps)->∃ more,H' b=some (.tbl (ps++more)))
  (ns:∀ m,s.heap.Ns X.env.locals m->h'.Ns X.env.locals m) (hok:kR X.prog X.w H' h') (hg:AllBare g'):
  aQ X pins σ H' {s with heap:=h',gens:=g',drawn:=d',toks:=t'}:=by
 have neL:∀ b o,X.s_0.heap.get? b=some o->b≠X.env.locals:=fun b o e=>Nat.ne_of_lt (Nat.lt_of_lt_of_le (Heap.lt_size e) I.ok.above)
 have neC:∀ b o,X.s_0.heap.get? b=some o->b∉X.ex->b∉ch:=fun b o e hx hb=>by
  rcases (hch b hb).1 with z|z
  ·exact hx z
  ·exact absurd (Nat.lt_of_lt_of_le (Heap.lt_size e) z) (Nat.lt_irrefl _)
 have cellK:∀ x c,X.env.cells.lookup x=some c->∀ v,s.heap.IsCell c v->h'.IsCell c v:=fun x c e v ⟨o,ho,hd⟩=>by
  have nch:c∉ch:=fun z=>(hch c z).2.2.1 x c e rfl
  by_cases hc:c∈X.fs
  ·obtain ⟨sl,q⟩:=slot c o (I.cne x c e) hc nch ho (I.freeC x c e)
   exact ⟨_,q,hd⟩
  ·exact ⟨o,keep c o (I.cne x c e) hc nch ho (I.freeC x c e),hd⟩
 refine ⟨I.ok,I.os,hg,⟨fun b o e n hb hx=>?_,fun b o e n hb hx=>?_,fun b o e n hx=>?_,fun b o e hx=>?_,fun b xs e=>tups b xs (I.base.tups b xs e),fun b o xs e=>frzs b o xs (I.base.frzs b o xs e),fun b ps e=>?_⟩,?_,fun x c e=>?_,?_,fun x c e=>?_,fun p hp=>?_,hok,I.len⟩
 ·exact keep b o (neL b o e) hb (neC b o e hx) (I.base.keep b o e n hb hx) (I.base.free b o e n hx)
 ·obtain ⟨sl,e1⟩:=I.base.slot b o e n hb hx
  obtain ⟨sl',e2⟩:=slot b _ (neL b o e) hb (neC b o e hx) e1 (I.base.free b o e n hx)
  exact ⟨sl',e2⟩
 ·obtain ⟨o',e1⟩:=I.base.there b o e hx
  exact free b o' (neC b o e hx) e1 (I.base.free b o e n hx)
 ·obtain ⟨o',e1⟩:=I.base.there b o e hx
  exact there b o' (neC b o e hx) e1
 ·obtain ⟨m1,e1⟩:=I.base.tbls b ps e
  obtain ⟨m2,e2⟩:=tbls b _ e1
  exact ⟨m1++m2,by rw [e2,Array.append_assoc]⟩
 ·obtain ⟨m,hn,hl⟩:=I.loc
  refine ⟨m,ns m hn,fun i x v e1 e2 e3=>?_⟩
  obtain ⟨u,r,l⟩:=hl i x v e1 e2 e3
  refine ⟨u,r,?_⟩
  rcases l with l|⟨k,c,e,z⟩
  ·exact .inl l
  ·exact .inr ⟨k,c,e,cellK x c e _ z⟩
 ·obtain ⟨v,z⟩:=I.cell x c e
  exact ⟨v,cellK x c e v z⟩
 ·obtain ⟨m,⟨o,_,_,ho,_⟩,_⟩:=I.loc
  exact free _ o (fun z=>(hch _ z).2.1 rfl) ho I.free
 ·obtain ⟨v,o,ho,hd⟩:=I.cell x c e
  exact free c o (fun z=>(hch c z).2.2.1 x c e rfl) ho (I.freeC x c e)
 ·obtain ⟨e,n,ne,nf,d⟩:=I.pin p hp
  have nch:p.1∉ch:=fun z=>(hch p.1 z).2.2.2 p hp rfl
  exact ⟨keep p.1 p.2 ne nf nch e n,free p.1 p.2 nch e n,ne,nf,d⟩
theorem aQ.un {t':Nat} (I:aQ X pins σ H s) (u:Un X.fs [] H H' s.heap h') (hok:kR X.prog X.w H' h'):aQ X pins σ H' {s with heap:=h',toks:=t'}:=by
 obtain ⟨m,⟨o,es,ep,ho,r⟩,_⟩:=id I.loc
 obtain ⟨sl,hL⟩:=u.any ho I.free (by simp)
 exact I.step (g':=s.gens) (d':=s.drawn) (ch:=[]) (fun _ z=>nomatch z) (fun b o _ hb _ e n=>u.keep b o e n hb (by simp)) (fun b o _ hb _ e n=>u.slot b o e n hb (by simp)) (fun b o _ e n=>u.free b o e n (by simp)) (fun b o _ e=>u.there b o e (by simp)) u.tups u.frzs u.tbls (fun m' hm=>by
  obtain ⟨o',es',ep',ho',r'⟩:=hm
  rw [ho] at ho';cases ho'
  exact ⟨_,es',ep',hL,r'⟩) hok I.bare
theorem aQ.call {g':Array GenState} {t':Nat} {d':Drawn} {ch:List Addr} (I:aQ X pins σ H s) (u:Un (An X.stack) ch H H' s.heap h') (hok:kR X.prog X.w H' h') (hg:AllBare g')
  (hch:∀ b∈ch,(b∈X.ex\/X.s_0.heap.objs.size<=b)/\b≠X.env.locals/\(∀ x c,X.env.cells.lookup x=some c->c≠b)/\∀ p∈X.pn++pins,p.1≠b):
  aQ X pins σ H' {s with heap:=h',gens:=g',drawn:=d',toks:=t'}:=by
 obtain ⟨m,⟨o,es,ep,ho,r⟩,_⟩:=id I.loc
 obtain ⟨sl,hL⟩:=u.any ho I.free fun z=>(hch _ z).2.1 rfl
 exact I.step (ch:=ch) hch (fun b o hL hb hc e n=>u.keep b o e n (fun z=>(List.mem_cons.mp (I.stkSub b z)).elim hL hb) hc) (fun b o _ _ hc e n=>u.any e n hc) (fun b o hc e n=>u.free b o e n hc) (fun b o hc e=>u.there b o e hc) u.tups u.frzs u.tbls (fun m' hm=>by
  obtain ⟨o',es',ep',ho',r'⟩:=hm
  rw [ho] at ho';cases ho'
  exact ⟨_,es',ep',hL,r'⟩) hok hg
theorem aQ.turned {t':Nat} {it:Addr} (I:aQ X pins σ H s) (k:∀ b o,b≠it->s.heap.get? b=some o->h'.get? b=some o) (hn:H it=none) (hL:it≠X.env.locals)
  (h1:it∈X.ex\/X.s_0.heap.objs.size<=it) (h2:∀ x c,X.env.cells.lookup x=some c->c≠it) (h3:∀ p∈X.pn++pins,p.1≠it):aQ X pins σ H {s with heap:=h',toks:=t'}:=by
 have nit:∀ b u,H b=some u->b≠it:=fun b u e z=>by rw [z,hn] at e;cases e
 refine I.step (g':=s.gens) (d':=s.drawn) (ch:=[it]) (fun b hb=>?_) (fun b o _ _ hc e _=>k b o (fun z=>hc (by simp [z])) e) (fun b o _ _ hc e _=>⟨o.slots,k b o (fun z=>hc (by simp [z])) e⟩) (fun _ _ _ _ n=>n)
  (fun b o hc e=>⟨o,k b o (fun z=>hc (by simp [z])) e⟩) (fun _ _ e=>e) (fun _ _ _ e=>e) (fun b ps e=>⟨#[],by rw [e];simp⟩) (fun m hm=>?_) (fun b u e=>?_) I.bare
 ·have e:b=it:=by simpa using hb
  subst e
  exact ⟨h1,hL,h2,h3⟩
 ·obtain ⟨o,es,ep,ho,r⟩:=hm
  exact ⟨o,es,ep,k _ o (Ne.symm hL) ho,r⟩
 ·refine (I.hok b u e).stay (fun c v hc q=>k c v ?_ q) (fun _ q=>q) fun _ _ q=>q
  rcases hc with z|z
  ·rw [z];exact nit b u e
  ·exact nit c _ z
theorem aQ.tok (I:aQ X pins σ H s) (t:Nat):aQ X pins σ H {s with toks:=t}:=I.un (h':=s.heap) (t':=t) Un.refl I.hok
theorem aQ.kept {t':Nat} (I:aQ X pins σ H s) (k:∀ b u,s.heap.get? b=some u->h'.get? b=some u):aQ X pins σ H {s with heap:=h',toks:=t'}:=I.un (Un.kept k) (I.hok.kept k)
theorem aQ.laid {a:Addr} {o:HO} {t':Nat} (I:aQ X pins σ H s) (k:∀ b u,s.heap.get? b=some u->h'.get? b=some u) (hp:s.heap.objs.size<=a) (new:cK X.prog X.w (upd H a o) h' a o):
  aQ X pins σ (upd H a o) {s with heap:=h',toks:=t'}:=I.un (Un.laid k hp (I.hok.fresh hp)) (I.hok.laid k hp new)
theorem aQ.write {x e:Addr} {o:HO} {t':Nat} (I:aQ X pins σ H s) (mu:Xr (H x)) (he:e=x\/H e=some (.own x)) (k:∀ b u,b≠e->s.heap.get? b=some u->h'.get? b=some u) (heo:∃ u,h'.get? e=some u)
  (new:cK X.prog X.w (upd H x o) h' x o):aQ X pins σ (upd H x o) {s with heap:=h',toks:=t'}:=I.un (Un.write mu he k heo) (I.hok.write mu he k heo new)
theorem aQ.weak {σ':List (Option V)} (I:aQ X pins σ H s) (hl:σ'.length=σ.length) (w:∀ (i:Nat) v,σ'[i]?=some (some v)->σ[i]?=some (some v)):aQ X pins σ' H s:=
 ⟨I.ok,I.os,I.bare,I.base,let ⟨m,hn,hl'⟩:=I.loc;⟨m,hn,fun i x v e1 e2 e3=>hl' i x v e1 (w i v e2) e3⟩,I.cell,I.free,I.freeC,I.pin,I.hok,hl.trans I.len⟩
theorem aQ.pins_of {pins':List (Addr×Obj)} (I:aQ X pins σ H s) (h:∀ p∈pins',s.heap.get? p.1=some p.2/\H p.1=none/\p.1≠X.env.locals/\p.1∉X.fs/\∀ v,p.2.data≠.cell v):aQ X pins' σ H s:=
 ⟨I.ok,I.os,I.bare,I.base,I.loc,I.cell,I.free,I.freeC,fun p hp=>(List.mem_append.mp hp).elim (fun z=>I.pin p (List.mem_append_left _ z)) (h p),I.hok,I.len⟩
theorem xK {N:List Str} (hN:N.Nodup) {i j:Nat} {x:Str} (a:N[i]?=some x) (b:N[j]?=some x):i=j:=by
 obtain ⟨h1,e1⟩:=List.getElem?_eq_some_iff.mp a
 obtain ⟨h2,e2⟩:=List.getElem?_eq_some_iff.mp b
 exact (List.getElem_inj hN).mp (e1.trans e2.symm)
theorem zN {M:Model} {A:Around} {E:Value->Shared->Prop} {i:Nat} {x:Str} {v:V} {u:Value} {Q:Unit->Shared->Prop} (I:aQ X pins σ H s) (hN:X.N.Nodup) (hi:X.N[i]?=some x) (hx:Loc X.env.scope x) (r:cD v u)
  (h:∀ s',aQ X pins (σ.set i (some v)) H s'->(∃ a,Heap.SameBut a s.heap s'.heap/\(a=X.env.locals\/X.env.cells.lookup x=some a))->Q () s') (hf:X.fn x=true\/X.env.scope.names.lookup x=some .local:=by first|exact .inl rfl|exact .inr rfl|assumption):wpAny M A (storeName X.env x u) Q E s:=by
 obtain ⟨m,hn,hl⟩:=id I.loc
 have hcls:(X.env.scope.kind==.class||(X.env.scope.kind==.module && X.env.locals !=X.env.globals))=false:=by rw [I.ok.kind];rfl
 have hiσ:i<σ.length:=by rw [I.len];exact (List.getElem?_eq_some_iff.mp hi).1
 have cne:=I.cne
 have tracked:∀ {a:Addr} {h':Heap},(∃ o,s.heap.get? a=some o/\H a=none)->Heap.SameBut a s.heap h'->kR X.prog X.w H h':=fun {a h'} ha hs b ob e=>by
  obtain ⟨_,_,hfree⟩:=ha
  refine (I.hok b ob e).stay (fun c w' hc q=>(hs.2 c ?_).trans q) (fun _ q=>q) fun _ _ q=>q
  rintro rfl
  rcases hc with rfl|hc
  ·rw [hfree] at e;cases e
  ·rw [hfree] at hc;cases hc
 rcases hx with hk|hk
 ·refine wpAny_storeName_local hk hn (fun h' hn' hs=>?_) hcls
  obtain ⟨oL,_,_,hoL,_⟩:=id hn
  refine h _ ⟨I.ok,I.os,I.bare,⟨fun b o e n hb hx=>?_,fun b o e n hb hx=>?_,I.base.free,fun b o e hx=>?_,I.base.tups,I.base.frzs,I.base.tbls⟩,⟨_,hn',fun j y v' e1 e2 e3=>?_⟩,fun y c e=>?_,I.free,I.freeC,fun p hp=>?_,tracked ⟨oL,hoL,I.free⟩ hs,by simpa using I.len⟩ ⟨_,hs,.inl rfl⟩
  ·exact (hs.2 b (Nat.ne_of_lt (Nat.lt_of_lt_of_le (Heap.lt_size e) I.ok.above))).trans (I.base.keep b o e n hb hx)
  ·obtain ⟨sl,e1⟩:=I.base.slot b o e n hb hx
   exact ⟨sl,(hs.2 b (Nat.ne_of_lt (Nat.lt_of_lt_of_le (Heap.lt_size e) I.ok.above))).trans e1⟩
  ·obtain ⟨o',e1⟩:=I.base.there b o e hx
   exact ⟨o',(hs.2 b (Nat.ne_of_lt (Nat.lt_of_lt_of_le (Heap.lt_size e) I.ok.above))).trans e1⟩
  ·by_cases hj:j=i
   ·subst hj
    rw [hi] at e1;cases e1
    rw [List.getElem?_set_self hiσ] at e2
    cases e2
    exact ⟨u,r,.inl ⟨hk,by simp⟩⟩
   ·rw [List.getElem?_set_ne (Ne.symm hj)] at e2
    obtain ⟨u',r',q⟩:=hl j y v' e1 e2 e3
    refine ⟨u',r',?_⟩
    rcases q with ⟨k,e⟩|⟨k,c,e,z⟩
    ·refine .inl ⟨k,?_⟩
     have:y≠x:=fun e=>hj (xK hN e1 (e▸hi))
     simp [this,e]
    ·exact .inr ⟨k,c,e,z.sameBut hs (cne y c e)⟩
  ·obtain ⟨w',z⟩:=I.cell y c e
   exact ⟨w',z.sameBut hs (cne y c e)⟩
  ·obtain ⟨e,n,ne,nf,d⟩:=I.pin p hp
   exact ⟨(hs.2 p.1 ne).trans e,n,ne,nf,d⟩
 ·have hfn:X.fn x=true:=by
   rcases hf with z|z
   ·exact z
   ·rw [z] at hk;cases hk
  obtain ⟨c,hc⟩:=I.ok.has x (.inl hk)
  obtain ⟨w',z⟩:=I.cell x c hc
  refine wpAny_storeName_cell I.ok.kind hk hc z (fun h' hc' hs=>?_)
  obtain ⟨oc,hoc,hocd⟩:=id z
  refine h {s with heap:=h'} ⟨I.ok,I.os,I.bare,⟨fun b o e n hb hx=>?_,fun b o e n hb hx=>?_,I.base.free,fun b o e hx=>?_,I.base.tups,I.base.frzs,I.base.tbls⟩,⟨m,hn.sameBut hs (Ne.symm (cne x c hc)),fun j y v' e1 e2 e3=>?_⟩,fun y c' e=>?_,I.free,I.freeC,fun p hp=>?_,tracked ⟨oc,hoc,I.freeC x c hc⟩ hs,by simpa using I.len⟩ ⟨c,hs,.inr hc⟩
  ·exact (hs.2 b (Nat.ne_of_lt (Nat.lt_of_lt_of_le (Heap.lt_size e) (I.ok.cab x c hfn hc)))).trans (I.base.keep b o e n hb hx)
  ·obtain ⟨sl,e1⟩:=I.base.slot b o e n hb hx
   exact ⟨sl,(hs.2 b (Nat.ne_of_lt (Nat.lt_of_lt_of_le (Heap.lt_size e) (I.ok.cab x c hfn hc)))).trans e1⟩
  ·obtain ⟨o',e1⟩:=I.base.there b o e hx
   exact ⟨o',(hs.2 b (Nat.ne_of_lt (Nat.lt_of_lt_of_le (Heap.lt_size e) (I.ok.cab x c hfn hc)))).trans e1⟩
  ·by_cases hj:j=i
   ·subst hj
    rw [hi] at e1;cases e1
    rw [List.getElem?_set_self hiσ] at e2
    cases e2
    exact ⟨u,r,.inr ⟨.inl hk,c,hc,hc'⟩⟩
   ·rw [List.getElem?_set_ne (Ne.symm hj)] at e2
    obtain ⟨u',r',q⟩:=hl j y v' e1 e2 e3
    refine ⟨u',r',?_⟩
    rcases q with q|⟨k,c',e,z'⟩
    ·exact .inl q
    ·refine .inr ⟨k,c',e,z'.sameBut hs ?_⟩
     rintro rfl
     exact hj (xK hN e1 (I.ok.inj _ _ _ e hc▸hi))
  ·by_cases hcc:c'=c
   ·subst hcc;exact ⟨_,hc'⟩
   ·obtain ⟨w2,z2⟩:=I.cell y c' e
    exact ⟨w2,z2.sameBut hs hcc⟩
  ·obtain ⟨e,n,ne,nf,d⟩:=I.pin p hp
   refine ⟨(hs.2 p.1 ?_).trans e,n,ne,nf,d⟩
   intro q
   rw [q,hoc] at e
   have q':oc=p.2:=Option.some.inj e
   exact d w' (by rw [<-q'];exact hocd)
theorem vF {M:Model} {A:Around} {E:Value->Shared->Prop} {i:Nat} {x:Str} {v:V} {u:Value} {Q:Unit->Shared->Prop} (I:aQ X pins σ H s) (hN:X.N.Nodup) (hi:X.N[i]?=some x) (hx:Loc X.env.scope x) (r:cD v u)
  (h:∀ s',aQ X pins (σ.set i (some v)) H s'->Q () s') (hf:X.fn x=true\/X.env.scope.names.lookup x=some .local:=by first|exact .inl rfl|exact .inr rfl|assumption):wpAny M A (storeName X.env x u) Q E s:=
 zN I hN hi hx r (fun s' I' _=>h s' I') hf
theorem aQ.call' {s':Shared} {ch:List Addr} (I:aQ X pins σ H s) (ho:s'.os=s.os) (u:Un (An X.stack) ch H H' s.heap s'.heap) (hok:kR X.prog X.w H' s'.heap) (hg:AllBare s'.gens)
  (hch:∀ b∈ch,(b∈X.ex\/X.s_0.heap.objs.size<=b)/\b≠X.env.locals/\(∀ x c,X.env.cells.lookup x=some c->c≠b)/\∀ p∈X.pn++pins,p.1≠b):aQ X pins σ H' s':=by
 obtain ⟨h',g',d',t',o'⟩:=s'
 have e:o'=s.os:=ho
 subst e
 exact I.call (g':=g') (t':=t') (d':=d') u hok hg hch
end
abbrev XK:=Value->Option Addr->Hp->Prop
abbrev St:=List (Option V)
abbrev VK:=V->Hp->Prop
abbrev TE:=St->Hp->VK->Prop
abbrev TT:=St->Hp->(Bool->Hp->Prop)->Prop
abbrev TA:=St->Hp->(List V->Hp->Prop)->Prop
structure fZ where
 nx:St->Hp->Prop
 rt:VK
 bk:St->Hp->Prop:=fun _ _=>False
 ct:St->Hp->Prop:=fun _ _=>False
abbrev TS:=fZ->St->Hp->Prop
def EP (X:Cx) (pins:List (Addr×Obj)) (σ:St) (Q:VK) (u:Value) (s':Shared):Prop:=∃ v H',aQ X pins σ H' s'/\cD v u/\Q v H'
def TP (X:Cx) (pins:List (Addr×Obj)) (σ:St) (Q:Bool->Hp->Prop) (b:Bool) (s':Shared):Prop:=∃ H',aQ X pins σ H' s'/\Q b H'
def AP (X:Cx) (pins:List (Addr×Obj)) (σ:St) (Q:List V->Hp->Prop) (us:List Value) (s':Shared):Prop:=∃ vs H',aQ X pins σ H' s'/\bS vs us/\Q vs H'
def SP (X:Cx) (pins:List (Addr×Obj)) (D:fZ) (f:Flow) (s':Shared):Prop:=
 match f with
 |.next=>∃ σ' H',aQ X pins σ' H' s'/\D.nx σ' H'
 |.brk=>∃ σ' H',aQ X pins σ' H' s'/\D.bk σ' H'
 |.cont=>∃ σ' H',aQ X pins σ' H' s'/\D.ct σ' H'
 |.ret u=>∃ v σ' H',aQ X pins σ' H' s'/\cD v u/\D.rt v H'
def PE (X:Cx) (e:Expr) (t:TE):Prop:=
 ∀ (pins:List (Addr×Obj)) (s:Shared) (σ:St) (H:Hp) (Q:VK),aQ X pins σ H s->t σ H Q->wpAny (model X.prog X.w) X.A (eval e X.env) (EP X pins σ Q) X.xe s
def PT (X:Cx) (e:Expr) (t:TT):Prop:=
 ∀ (pins:List (Addr×Obj)) (s:Shared) (σ:St) (H:Hp) (Q:Bool->Hp->Prop),aQ X pins σ H s->t σ H Q->wpAny (model X.prog X.w) X.A (isTrue e X.env (eval e X.env)) (TP X pins σ Q) X.xe s
def PW (X:Cx) (e:Expr) (t:TT):Prop:=
 ∀ (whole:Sem Value) (pins:List (Addr×Obj)) (s:Shared) (σ:St) (H:Hp) (Q:Bool->Hp->Prop),aQ X pins σ H s->t σ H Q->wpAny (model X.prog X.w) X.A (isTrue e X.env whole) (TP X pins σ Q) X.xe s
theorem PW.pt {X:Cx} {e:Expr} {t:TT} (h:PW X e t):PT X e t:=h _
def PA (X:Cx) (es:List Expr) (t:TA):Prop:=
 ∀ (pos:Pos) (pins:List (Addr×Obj)) (s:Shared) (σ:St) (H:Hp) (Q:List V->Hp->Prop),aQ X pins σ H s->t σ H Q->wpAny (model X.prog X.w) X.A (spliced (backTo pos (starEach es X.env))) (AP X pins σ Q) X.xe s
def PS (X:Cx) (st:Stmt) (t:TS):Prop:=
 ∀ (pins:List (Addr×Obj)) (s:Shared) (σ:St) (H:Hp) (D:fZ),aQ X pins σ H s->t D σ H->wpAny (model X.prog X.w) X.A (exec st X.env) (SP X pins D) X.xe s
def Ap (X:Cx) (st:List Stmt) (t:TS):Prop:=
 ∀ (pins:List (Addr×Obj)) (s:Shared) (σ:St) (H:Hp) (D:fZ),aQ X pins σ H s->t D σ H->wpAny (model X.prog X.w) X.A (execs st X.env) (SP X pins D) X.xe s
theorem cV {α:Type} {t:Sem α} {Q Q':α->Shared->Prop} {M:Model} {A:Around} {E:Value->Shared->Prop} {s:Shared} (h:wpAny M A t Q E s) (hQ:∀ a s,Q a s->Q' a s):wpAny M A t Q' E s:=wpAny_mono h hQ fun _ _ x=>x
section
variable {X:Cx}
theorem bin {a b:Expr} {ta tb:TE} (ha:PE X a ta) (hb:PE X b tb) {pins:List (Addr×Obj)} {s:Shared} {σ:St} {H:Hp} {R:V->V->Hp->Prop} (I:aQ X pins σ H s) (h:ta σ H fun x H1=>tb σ H1 fun y H2=>R x y H2)
  {α:Type} {Q:α->Shared->Prop} {f:Value->Value->Sem α}
  (hf:∀ v u s2 x y H2,aQ X pins σ H2 s2->cD x v->cD y u->R x y H2->wpAny (model X.prog X.w) X.A (f v u) Q X.xe s2):
  wpAny (model X.prog X.w) X.A (eval a X.env) (fun v s₁=>wpAny (model X.prog X.w) X.A (eval b X.env) (fun u s₂=>wpAny (model X.prog X.w) X.A (f v u) Q X.xe s₂) X.xe s₁) X.xe s:=by
 refine cV (ha pins s σ H _ I h) fun v s1 ⟨x,H1,I1,r1,q1⟩=>?_
 refine cV (hb pins s1 σ H1 _ I1 q1) fun u s2 ⟨y,H2,I2,r2,q2⟩=>?_
 exact hf v u s2 x y H2 I2 r1 r2 q2
def dD (i:Nat):TE:=fun σ H Q=>∃ v,σ[i]?=some (some v)/\Q v H
def tC (v:V):TE:=fun _ H Q=>Q v H
theorem Zz {i:Nat} {x:Str} {pos:Pos} (hN:X.N[i]?=some x) (hv:Vis X.env.scope x) (hd:(x==("__debug__":Str))=false:=by decide) (hcd:(x==("__classdict__":Str))=false:=by decide):PE X (.Name x pos) (dD i):=by
 intro pins s σ H Q I h
 obtain ⟨v,e,h⟩:=h
 obtain ⟨m,hn,hl⟩:=I.loc
 obtain ⟨u,r,l⟩:=hl i x v hN e hv
 have fin:EP X pins σ Q u s:=⟨v,H,I,r,h⟩
 rcases l with ⟨hk,hm⟩|⟨hk,c,hc,hcell⟩
 ·exact wpAny_Name (wpAny_loadName_local I.ok.kind hk hn hm fin) hd
 ·rcases hk with hk|hk
  ·exact wpAny_Name (wpAny_loadName_cell I.ok.kind hk hc hcell fin) hd
  ·exact wpAny_Name (wpAny_loadName_free I.ok.kind hk hc hcell fin hcd) hd
theorem aI {i j pos}:PE X (.Constant (.int i) j pos) (tC (.int i)):=fun _ _ _ H _ I h=>wpAny_Constant_int ⟨.int i,H,I.tok _,⟨_,rfl⟩,h⟩
theorem mX {b j pos}:PE X (.Constant (.bool b) j pos) (tC (.bl b)):=fun _ _ _ H _ I h=>Constant_bool ⟨.bl b,H,I,rfl,h⟩
theorem uZ {j pos}:PE X (.Constant .none j pos) (tC .non):=fun _ _ _ H _ I h=>Constant_none ⟨.non,H,I,rfl,h⟩
theorem eU {x j pos}:PE X (.Constant (.str x) j pos) (tC (.str x)):=fun _ _ _ H _ I h=>Calls.Constant_str ⟨.str x,H,I.tok _,⟨_,rfl⟩,h⟩
def Gl (X:Cx) (x:Str):Prop:=X.env.kindOf x=some .globalImplicit
theorem jD {E:Value->Shared->Prop} {pins:List (Addr×Obj)} {s:Shared} {σ:St} {H:Hp} {x:Str} {u:Value} {pos:Pos} {Q:Value->Shared->Prop} (I:aQ X pins σ H s) (hg:Gl X x) (hm:X.mg x=some u) (h:Q u s)
  (hd:(x==("__debug__":Str))=false:=by decide):wpAny (model X.prog X.w) X.A (eval (.Name x pos) X.env) Q E s:=
 Calls.Name_function_global I.ok.kind hg (Calls.loadGlobal_global (by rw [I.ok.glob];exact I.mod.glob.keeps I.bk) hm h) hd
theorem rQ {E:Value->Shared->Prop} {pins:List (Addr×Obj)} {s:Shared} {σ:St} {H:Hp} {x:Str} {u:Value} {pos:Pos} {Q:Value->Shared->Prop} (I:aQ X pins σ H s) (hg:Gl X x) (hm:X.mg x=none) (hv:bootBuiltins x=some u) (h:Q u s)
  (hn:x≠"__name__":=by decide) (hd:(x==("__debug__":Str))=false:=by decide):wpAny (model X.prog X.w) X.A (eval (.Name x pos) X.env) Q E s:=by
 obtain ⟨mb,h1,h2⟩:=I.mod.blt
 exact Calls.Name_function_global I.ok.kind hg (Calls.loadGlobal_builtin (by rw [I.ok.glob];exact I.mod.glob.keeps I.bk) hm (by rw [I.ok.blt];exact h1.keeps I.bk) ((h2 x hn).trans hv) h) hd
theorem Au {x:Str} {v:V} {u:Value} {pos:Pos} (hg:Gl X x) (hm:X.mg x=some u) (r:cD v u) (hd:(x==("__debug__":Str))=false:=by decide):PE X (.Name x pos) (tC v):=
 fun _ _ _ H _ I h=>jD I hg hm ⟨v,H,I,r,h⟩ hd
def t2I (ta tb:TE) (k:Int->Int->Hp->Prop):St->Hp->Prop:=fun σ H=>ta σ H fun x H1=>tb σ H1 fun y H2=>∃ i j,x=.int i/\y=.int j/\k i j H2
variable {a b:Expr} {ta tb:TE} {pos:Pos}
def PC (X:Cx) (op:CmpOp) (a b:Expr) (t:TE):Prop:=
 ∀ (pins:List (Addr×Obj)) (s:Shared) (σ:St) (H:Hp) (Q:VK),aQ X pins σ H s->t σ H Q->
  wpAny (model X.prog X.w) X.A (eval a X.env) (fun v s₁=>wpAny (model X.prog X.w) X.A (eval b X.env) (fun u s₂=>wpAny (model X.prog X.w) X.A (compareOp op v u) (EP X pins σ Q) X.xe s₂) X.xe s₁) X.xe s
theorem Pc (b:Expr) {op:CmpOp} (h:op≠.In) (h2:op≠.NotIn):behindInMarks op b=false:=by
 have e1:(op==CmpOp.In)=false:=by cases op<;>first|rfl|exact absurd rfl h
 have e2:(op==CmpOp.NotIn)=false:=by cases op<;>first|rfl|exact absurd rfl h2
 cases b<;>simp [behindInMarks,e1,e2]
def Sy (p:Int->Int->Bool) (ta tb:TE):TE:=fun σ H Q=>t2I ta tb (fun i j H2=>Q (.bl (p i j)) H2) σ H
abbrev tLt:TE->TE->TE:=Sy fun i j=>decide (i<j)
abbrev tLe:TE->TE->TE:=Sy fun i j=>decide (i<=j)
abbrev tGt:TE->TE->TE:=Sy fun i j=>decide (j<i)
abbrev aDu:TE->TE->TE:=Sy fun i j=>decide (i=j)
theorem Cl {op:CmpOp} {p:Int->Int->Bool} (ha:PE X a ta) (hb:PE X b tb)
  (rule:∀ (i j:Int) (t u:Tok) (Q:Value->Shared->Prop) (s:Shared),Q (.bool (p i j)) s->wpAny (model X.prog X.w) X.A (compareOp op (.int i t) (.int j u)) Q X.xe s):PC X op a b (Sy p ta tb):=by
 intro pins s σ H Q I h
 refine bin ha hb I h fun v u s2 x y H2 I2 rx ry q=>?_
 obtain ⟨i,j,rfl,rfl,q⟩:=q
 obtain ⟨t,rfl⟩:=rx
 obtain ⟨t',rfl⟩:=ry
 exact rule i j t t' _ s2 ⟨.bl _,H2,I2,rfl,q⟩
theorem Kv (ha:PE X a ta) (hb:PE X b tb):PC X .Lt a b (tLt ta tb):=Cl ha hb fun _ _ _ _ _ _ h=>lt_int h
theorem aBp (ha:PE X a ta) (hb:PE X b tb):PC X .LtE a b (tLe ta tb):=Cl ha hb fun _ _ _ _ _ _ h=>le_int h
theorem rB (ha:PE X a ta) (hb:PE X b tb):PC X .Gt a b (tGt ta tb):=Cl ha hb fun _ _ _ _ _ _ h=>gt_int h
theorem Zn (ha:PE X a ta) (hb:PE X b tb):PC X .Eq a b (aDu ta tb):=Cl ha hb fun _ _ _ _ _ _ h=>eq_int (by rw [Bool.beq_eq_decide_eq];exact h)
def tB (t:TE):TT:=fun σ H Q=>t σ H fun x H1=>∃ c,x=.bl c/\Q c H1
theorem dR {op:CmpOp} {t:TE} (h:PC X op a b t) (h1:behindInMarks op b=false:=by first|exact Pc _ (by decide) (by decide)|rfl):PT X (.Compare a [op] [b] pos) (tB t):=by
 intro pins s σ H Q I hw
 refine wpAny_isTrue_Compare1 (cV (h pins s σ H _ I hw) fun v s1 h1=>cV h1 fun u s2 h2=>cV h2 fun c s3 ⟨x,H1,I1,r1,q1⟩=>?_) h1
 obtain ⟨d,rfl,q⟩:=q1
 cases r1
 exact wpAny_truthy_bool ⟨H1,I1,q⟩
theorem eP {e:Expr} {t:TE} (h:PE X e t) (he:∀ whole,isTrue e X.env whole=(do let v <-whole;standAt e.pos;holding [v] (truthy v)):=by intro _;rfl):PT X e (tB t):=by
 intro pins s σ H Q I hw
 refine isTrue_plain (cV (h pins s σ H _ I hw) fun v s1 ⟨x,H1,I1,r1,q1⟩=>?_) (he _)
 obtain ⟨d,rfl,q⟩:=q1
 cases r1
 exact wpAny_truthy_bool ⟨H1,I1,q⟩
variable {tA tB':TT} {rest:List Expr}
def aDf (t u:TT):TT:=fun σ H Q=>t σ H fun c H1=>if c=true then u σ H1 Q else Q false H1
def tOr (t u:TT):TT:=fun σ H Q=>t σ H fun c H1=>if c=true then Q true H1 else u σ H1 Q
def aDb (t:TT):TT:=fun σ H Q=>t σ H fun c H1=>Q (!c) H1
theorem iA (ha:PT X a tA):PW X (.BoolOp .And [a] pos) tA:=by
 intro wh pins s σ H Q I h
 refine isTrue_and (cV (ha pins s σ H Q I h) fun c s1 e=>?_)
 cases c with
 |true=>exact isTrue_and_nil e
 |false=>exact e
theorem Cw (ha:PT X a tA):PW X (.BoolOp .Or [a] pos) tA:=by
 intro wh pins s σ H Q I h
 refine isTrue_or (cV (ha pins s σ H Q I h) fun c s1 e=>?_)
 cases c with
 |false=>exact isTrue_or_nil e
 |true=>exact e
theorem gZ (ha:PT X a tA) (hb:PW X (.BoolOp .And (b::rest) pos) tB'):PW X (.BoolOp .And (a::b::rest) pos) (aDf tA tB'):=by
 intro wh pins s σ H Q I h
 refine isTrue_and (cV (ha pins s σ H _ I h) fun c s1 ⟨H1,I1,q1⟩=>?_)
 cases c with
 |true=>exact hb wh pins s1 σ H1 Q I1 q1
 |false=>exact ⟨H1,I1,q1⟩
theorem Le (ha:PT X a tA) (hb:PW X (.BoolOp .Or (b::rest) pos) tB'):PW X (.BoolOp .Or (a::b::rest) pos) (tOr tA tB'):=by
 intro wh pins s σ H Q I h
 refine isTrue_or (cV (ha pins s σ H _ I h) fun c s1 ⟨H1,I1,q1⟩=>?_)
 cases c with
 |true=>exact ⟨H1,I1,q1⟩
 |false=>exact hb wh pins s1 σ H1 Q I1 q1
theorem lF (ha:PT X a tA):PT X (.UnaryOp .Not a pos) (aDb tA):=by
 intro pins s σ H Q I h
 exact isTrue_not (ha pins s σ H (fun c H1=>Q (!c) H1) I h)
def aB8 (ta tb:TE):TE:=fun σ H Q=>ta σ H fun x H1=>∃ c,x=.bl c/\if c=true then tb σ H1 Q else Q (.bl false) H1
def aDy (ta tb:TE):TE:=fun σ H Q=>ta σ H fun x H1=>∃ c,x=.bl c/\if c=true then Q (.bl true) H1 else tb σ H1 Q
def aBw (ta:TE):TE:=fun σ H Q=>ta σ H fun x H1=>∃ c,x=.bl c/\Q (.bl (!c)) H1
theorem rS {op} {t:TE} (h:PE X a t):PE X (.BoolOp op [a] pos) t:=fun pins s σ H Q I hw=>BoolOp_one (h pins s σ H Q I hw)
theorem sP (ha:PE X a ta) (hb:PE X (.BoolOp .And (b::rest) pos) tb):PE X (.BoolOp .And (a::b::rest) pos) (aB8 ta tb):=by
 intro pins s σ H Q I h
 refine BoolOp_and (cV (ha pins s σ H _ I h) fun v s1 ⟨x,H1,I1,r1,q1⟩=>?_)
 obtain ⟨c,rfl,q1⟩:=q1
 cases r1
 refine wpAny_truthy_bool ?_
 cases c with
 |true=>exact hb pins s1 σ H1 Q I1 q1
 |false=>exact ⟨.bl false,H1,I1,rfl,q1⟩
theorem So (ha:PE X a ta) (hb:PE X (.BoolOp .Or (b::rest) pos) tb):PE X (.BoolOp .Or (a::b::rest) pos) (aDy ta tb):=by
 intro pins s σ H Q I h
 refine BoolOp_or (cV (ha pins s σ H _ I h) fun v s1 ⟨x,H1,I1,r1,q1⟩=>?_)
 obtain ⟨c,rfl,q1⟩:=q1
 cases r1
 refine wpAny_truthy_bool ?_
 cases c with
 |false=>exact hb pins s1 σ H1 Q I1 q1
 |true=>exact ⟨.bl true,H1,I1,rfl,q1⟩
theorem Yo (ha:PE X a ta):PE X (.UnaryOp .Not a pos) (aBw ta):=by
 intro pins s σ H Q I h
 refine UnaryOp_ (cV (ha pins s σ H _ I h) fun v s1 ⟨x,H1,I1,r1,q1⟩=>?_)
 obtain ⟨c,rfl,q1⟩:=q1
 cases r1
 exact not_of (wpAny_truthy_bool ⟨.bl (!c),H1,I1,rfl,q1⟩)
def tIf (t:TT) (ta tb:TE):TE:=fun σ H Q=>t σ H fun c H1=>if c=true then ta σ H1 Q else tb σ H1 Q
theorem Rz {c:Expr} (hc:PT X c tA) (ha:PE X a ta) (hb:PE X b tb):PE X (.IfExp c a b pos) (tIf tA ta tb):=by
 intro pins s σ H Q I h
 refine wpAny_IfExp (cV (hc pins s σ H _ I h) fun d s1 ⟨H1,I1,q1⟩=>?_)
 cases d with
 |true=>exact ha pins s1 σ H1 Q I1 q1
 |false=>exact hb pins s1 σ H1 Q I1 q1
end
def cW (K:PySem.W.Frag) (H:Hp) (a:Addr) (xs:List V):Prop:=
 Rd H a (.lst xs)\/
  ∃ (o:Obj) (its:Array Value) (n:Nat),K.lookup a=some o/\o.cls=.type "list"/\o.dict=none/\o.data=.seq its n/\its.size<=sizeLine/\bS xs its.toList
def cN (K:PySem.W.Frag) (H:Hp) (a:Addr) (xs:List V):Prop:=
 Rd H a (.tup xs)\/
  ∃ (o:Obj) (its:Array Value) (n:Nat),K.lookup a=some o/\o.cls=.type "tuple"/\o.data=.seq its n/\its.size<=sizeLine/\bS xs its.toList
def aDt:Value->Option V
 |.none=>some .non
 |.bool b=>some (.bl b)
 |.int i _=>some (.int i)
 |.str x _=>some (.str x)
 |.bytes b _=>some (.byt b)
 |.float b _=>some (.flt b)
 |.ref a=>some (.ref a)
 |.type n=>some (.ty n)
 |_=>none
theorem cD.abs {x:V} {u:Value} (r:cD x u):aDt u=some x:=by
 cases x with
 |non=>cases r;rfl
 |bl _=>cases r;rfl
 |int _=>obtain ⟨t,rfl⟩:=r;rfl
 |str _=>obtain ⟨t,rfl⟩:=r;rfl
 |byt _=>obtain ⟨t,rfl⟩:=r;rfl
 |flt _=>obtain ⟨t,rfl⟩:=r;rfl
 |ref _=>cases r;rfl
 |ty _=>cases r;rfl
theorem cD.inj {x y:V} {u:Value} (r:cD x u) (q:cD y u):x=y:=Option.some.inj (r.abs.symm.trans q.abs)
theorem bS.inj:∀ {xs ys:List V} {us:List Value},bS xs us->bS ys us->xs=ys
 |_,_,_,.nil,.nil=>rfl
 |_,_,_,.cons r t,.cons r' t'=>by rw [r.inj r',bS.inj t t']
section
variable {X:Cx} {pins:List (Addr×Obj)} {σ:St} {H:Hp} {s:Shared} {a:Addr} {xs ys:List V}
theorem cW.of {K:PySem.W.Frag} (h:H a=some (.lst xs)):cW K H a xs:=.inl (.inl h)
theorem cN.of {K:PySem.W.Frag} (h:H a=some (.tup xs)):cN K H a xs:=.inl (.inl h)
theorem aQ.list (I:aQ X pins σ H s) (h:cW X.K H a xs):∃ its:List Value,bS xs its/\PlainL s.heap a its.toArray/\xs.length<=sizeLine:=by
 rcases h with h|⟨o,its,n,hk,hc,hd,hs,hz,r⟩
 ·obtain ⟨z,its,n,r,e⟩:=h.ok I.hok
  exact ⟨its,r,⟨_,n,e,rfl,rfl,rfl⟩,z⟩
 ·refine ⟨its.toList,r,⟨o,n,I.kIn a o hk,hc,hd,by simpa using hs⟩,?_⟩
  have e:=r.length
  simp only [Array.length_toList] at e
  omega
theorem aQ.tuple (I:aQ X pins σ H s) (h:cN X.K H a xs):∃ its:List Value,bS xs its/\IsTup s.heap a its.toArray/\xs.length<=sizeLine:=by
 rcases h with h|⟨o,its,n,hk,hc,hs,hz,r⟩
 ·obtain ⟨z,its,r,p⟩:=h.ok I.hok
  exact ⟨its,r,p,z⟩
 ·refine ⟨its.toList,r,⟨o,I.kIn a o hk,hc,n,by simpa using hs⟩,?_⟩
  have e:=r.length
  simp only [Array.length_toList] at e
  omega
theorem aQ.list_inj (I:aQ X pins σ H s) (h:cW X.K H a xs) (h':cW X.K H a ys):xs=ys:=by
 obtain ⟨its,r,⟨o,n,e,_,_,d⟩,_⟩:=I.list h
 obtain ⟨its',r',⟨o',n',e',_,_,d'⟩,_⟩:=I.list h'
 rw [e] at e';cases e'
 rw [d] at d'
 injection d' with d1 _
 have:its=its':=by simpa using congrArg Array.toList d1
 subst this
 exact r.inj r'
theorem aQ.tuple_inj (I:aQ X pins σ H s) (h:cN X.K H a xs) (h':cN X.K H a ys):xs=ys:=by
 obtain ⟨its,r,⟨o,e,_,n,d⟩,_⟩:=I.tuple h
 obtain ⟨its',r',⟨o',e',_,n',d'⟩,_⟩:=I.tuple h'
 rw [e] at e';cases e'
 rw [d] at d'
 injection d' with d1 _
 have:its=its':=by simpa using congrArg Array.toList d1
 subst this
 exact r.inj r'
end
abbrev Cx.wish (X:Cx) (E:Value->Shared->Prop):Cx:={X with xe:=E}
abbrev Cx.nox (X:Cx):Cx:=X.wish fun _ _=>False
theorem Cx.Ok.wish {X:Cx} (ok:X.Ok) (E:Value->Shared->Prop):(X.wish E).Ok:=
 ⟨ok.mod,ok.kind,ok.glob,ok.blt,ok.above,ok.inj,ok.has,ok.cab,ok.hd,ok.frames,ok.stk,ok.exf,ok.bs,ok.bsz,ok.noex,ok.exfs,ok.funs,ok.frf⟩
theorem Cx.Ok.unwish {X:Cx} {E:Value->Shared->Prop} (ok:(X.wish E).Ok):X.Ok:=
 ⟨ok.mod,ok.kind,ok.glob,ok.blt,ok.above,ok.inj,ok.has,ok.cab,ok.hd,ok.frames,ok.stk,ok.exf,ok.bs,ok.bsz,ok.noex,ok.exfs,ok.funs,ok.frf⟩
section
variable {X:Cx} {pins:List (Addr×Obj)} {σ:St} {H:Hp} {s:Shared} {E:Value->Shared->Prop}
theorem aQ.wish (I:aQ X pins σ H s) (E:Value->Shared->Prop):aQ (X.wish E) pins σ H s:=⟨I.ok.wish E,I.os,I.bare,I.base,I.loc,I.cell,I.free,I.freeC,I.pin,I.hok,I.len⟩
theorem aQ.unwish (I:aQ (X.wish E) pins σ H s):aQ X pins σ H s:=⟨I.ok.unwish,I.os,I.bare,I.base,I.loc,I.cell,I.free,I.freeC,I.pin,I.hok,I.len⟩
theorem SP.unwish {D:fZ} {f:Flow} {s':Shared} (h:SP (X.wish E) pins D f s'):SP X pins D f s':=by
 cases f with
 |next=>obtain ⟨σ',H',I,q⟩:=h;exact ⟨σ',H',I.unwish,q⟩
 |brk=>obtain ⟨σ',H',I,q⟩:=h;exact ⟨σ',H',I.unwish,q⟩
 |cont=>obtain ⟨σ',H',I,q⟩:=h;exact ⟨σ',H',I.unwish,q⟩
 |ret u=>obtain ⟨v,σ',H',I,r,q⟩:=h;exact ⟨v,σ',H',I.unwish,r,q⟩
theorem Ap.nox {st:List Stmt} {t:TS} (h:Ap X.nox st t):Ap X st t:=fun pins s σ H D I hw=>
 wpAny_mono (h pins s σ H D (I.wish _) hw) (fun _ _ q=>q.unwish) fun _ _ z=>False.elim z
end
section
variable {X:Cx} {st:Stmt} {rest:List Stmt} {t u:TS} {e:Expr} {te:TE} {pos:Pos}
def Xl:TS:=fun D σ H=>D.nx σ H
def Ei (t u:TS):TS:=fun D σ H=>t {D with nx:=u D} σ H
theorem cC:Ap X [] Xl:=fun _ _ σ H _ I h=>wpAny_execs_nil ⟨σ,H,I,h⟩
theorem aF (h1:PS X st t) (h2:Ap X rest u):Ap X (st::rest) (Ei t u):=by
 intro pins s σ H D I h
 refine wpAny_execs_cons (cV (h1 pins s σ H {D with nx:=u D} I h) fun f s1 q=>?_)
 cases f with
 |next=>
  obtain ⟨σ',H',I',q⟩:=q
  exact h2 pins s1 σ' H' D I' q
 |ret v=>exact q
 |brk=>exact q
 |cont=>exact q
theorem aH (h1:PS X st t):Ap X [st] t:=by
 intro pins s σ H D I h
 refine wpAny_execs_cons (cV (h1 pins s σ H D I h) fun f s1 q=>?_)
 cases f with
 |next=>exact wpAny_execs_nil q
 |ret v=>exact q
 |brk=>exact q
 |cont=>exact q
theorem aQ.quiet {pins:List (Addr×Obj)} {σ:St} {H:Hp} {s:Shared} (I:aQ X pins σ H s):interactive X.env=false:=by simp [interactive,I.ok.kind]
def zI (te:TE):TS:=fun D σ H=>te σ H fun _ H1=>D.nx σ H1
theorem cH (he:PE X e te) (hs:swapsWith e none pos.line X.env=pure false:=by rfl):PS X (.Expr e pos) (zI te):=by
 intro pins s σ H D I h
 exact wpAny_Expr_any (cV (he pins s σ H _ I h) fun v s1 ⟨x,H1,I1,r1,q1⟩=>⟨σ,H1,I1,q1⟩) I.quiet hs
def Zf (te:TE):TS:=fun D σ H=>te σ H D.rt
theorem aU (he:PE X e te):PS X (.Return (some e) pos) (Zf te):=by
 intro pins s σ H D I h
 exact wpAny_Return_some (cV (he pins s σ H _ I h) fun v s1 ⟨x,H1,I1,r1,q1⟩=>⟨x,σ,H1,I1,r1,q1⟩)
def Yv (c:TT) (t u:TS):TS:=fun D σ H=>c σ H fun b H1=>if b=true then t D σ H1 else u D σ H1
theorem eG {c:Expr} {a b:List Stmt} {tc:TT} (hc:PT X c tc) (ha:Ap X a t) (hb:Ap X b u):PS X (.If c a b pos) (Yv tc t u):=by
 intro pins s σ H D I h
 refine wpAny_If (cV (hc pins s σ H _ I h) fun d s1 ⟨H1,I1,q1⟩=>?_)
 cases d with
 |true=>exact ha pins s1 σ H1 D I1 q1
 |false=>exact hb pins s1 σ H1 D I1 q1
end
abbrev TG:=V->St->Hp->(St->Hp->Prop)->Prop
abbrev Za:=List V->St->Hp->(St->Hp->Prop)->Prop
def PG (X:Cx) (target:Expr) (t:TG):Prop:=
 ∀ (pins:List (Addr×Obj)) (s:Shared) (σ:St) (H:Hp) (v:V) (u:Value) (Q:St->Hp->Prop),aQ X pins σ H s->cD v u->t v σ H Q->
  wpAny (model X.prog X.w) X.A (assign target X.env u) (fun _ s'=>∃ σ' H',aQ X pins σ' H' s'/\Q σ' H') X.xe s
def PGs (X:Cx) (ts:List Expr) (t:Za):Prop:=
 ∀ (pins:List (Addr×Obj)) (s:Shared) (σ:St) (H:Hp) (vs:List V) (us:List Value) (Q:St->Hp->Prop),aQ X pins σ H s->bS vs us->t vs σ H Q->
  wpAny (model X.prog X.w) X.A (assignInOrder ((assignEach ts X.env).map (·.2)) us) (fun _ s'=>∃ σ' H',aQ X pins σ' H' s'/\Q σ' H') X.xe s
section
variable {X:Cx} {pos:Pos}
def lV (i:Nat):TG:=fun v σ H Q=>Q (σ.set i (some v)) H
theorem bH {i:Nat} {x:Str} (hN:X.N.Nodup) (hi:X.N[i]?=some x) (hx:Loc X.env.scope x) (hf:X.fn x=true\/X.env.scope.names.lookup x=some .local:=by first|exact .inl rfl|exact .inr rfl|assumption):PG X (.Name x pos) (lV i):=by
 intro pins s σ H v u Q I r h
 exact wpAny_assign_Name (vF I hN hi hx r (fun s' I'=>⟨_,H,I',h⟩) hf)
def aCq:Za:=fun vs σ H Q=>vs=[]/\Q σ H
def aAz (t:TG) (u:Za):Za:=fun vs σ H Q=>∃ v r,vs=v::r/\t v σ H fun σ' H'=>u r σ' H' Q
theorem jH:PGs X [] aCq:=by
 intro pins s σ H vs us Q I r h
 obtain ⟨e,h⟩:=h
 subst e
 cases r
 exact assignInOrder_nil ⟨σ,H,I,h⟩
theorem dG {e:Expr} {es:List Expr} {t:TG} {u:Za} (h1:PG X e t) (h2:PGs X es u)
  (hs:(assignEach (e::es) X.env).map (·.2)=assign e X.env::(assignEach es X.env).map (·.2):=by rfl):PGs X (e::es) (aAz t u):=by
 intro pins s σ H vs us Q I r h
 obtain ⟨v,vr,e1,h⟩:=h
 subst e1
 cases r with
 |cons r rr=>
  rw [hs]
  refine assignInOrder_cons (cV (h1 pins s σ H _ _ _ I r h) fun _ s1 ⟨σ1,H1,I1,q1⟩=>?_)
  exact h2 pins s1 σ1 H1 _ _ Q I1 rr q1
def aCz (K:PySem.W.Frag) (n:Nat) (t:Za):TG:=fun v σ H Q=>∃ a xs,v=.ref a/\cN K H a xs/\xs.length=n/\t xs σ H Q
theorem mP {es:List Expr} {k:Nat} {t:Za} {n:Nat} (hc:X.calm=true) (h:PGs X es t)
  (hn:(assignEach es X.env).length=n:=by rfl) (hst:(assignEach es X.env).findIdx? (·.1)=none:=by rfl):PG X (.Tuple es k pos) (aCz X.K n t):=by
 intro pins s σ H v u Q I r hw
 obtain ⟨a,xs,e1,hq,hl,hw⟩:=hw
 subst e1
 cases r
 obtain ⟨its,rv,ht,hz⟩:=I.tuple hq
 refine assign_Tuple_tuple (I.ok.hd hc) ht (by simp [hn,<-hl,rv.length]) hst fun h' hx=>?_
 have I1:aQ X pins σ H {s with heap:=h'}:=I.kept (t':=s.toks) fun b o e=>hx b o (Nat.ne_of_lt (Heap.lt_size e)) e
 exact h pins _ σ H xs _ Q I1 (by simpa using rv) hw
def Fi (te:TE) (g:TG):TS:=fun D σ H=>te σ H fun x H1=>g x σ H1 D.nx
theorem bI {i:Nat} {x:Str} {e:Expr} {te:TE} {pos':Pos} (hN:X.N.Nodup) (hi:X.N[i]?=some x) (hx:Loc X.env.scope x) (he:PE X e te) (hs:swapsWith e (some (.Name x pos')) pos.line X.env=pure false:=by rfl) (hf:X.fn x=true\/X.env.scope.names.lookup x=some .local:=by first|exact .inl rfl|exact .inr rfl|assumption):
  PS X (.Assign [.Name x pos'] e pos) (Fi te (lV i)):=by
 intro pins s σ H D I h
 refine wpAny_Assign_Name (cV (he pins s σ H _ I h) fun v s1 ⟨y,H1,I1,r1,q1⟩=>?_) hs
 exact vF I1 hN hi hx r1 (fun s2 I2=>⟨_,H1,I2,q1⟩) hf
end
section
variable {X:Cx} {pos:Pos}
def Yw (c:TT) (tb:TS):TS:=fun D σ H=>∃ W:Nat->St->Hp->Prop,(∃ m,W m σ H)/\∀ m σ H,W m σ H->
 c σ H fun b H1=>if b=true then ∃ N:St->Hp->Prop,(∀ σ' H',N σ' H'->∃ m',m'<m/\W m' σ' H')/\tb {D with nx:=N,ct:=N,bk:=D.nx} σ H1 else D.nx σ H1
theorem kJ {c:Expr} {body:List Stmt} {tc:TT} {tb:TS} (hp:PassesOwn (model X.prog X.w) X.A X.env X.xe) (hc:PT X c tc) (hb:Ap X body tb):PS X (.While c body [] pos) (Yw tc tb):=by
 intro pins s σ H D I h
 obtain ⟨W,⟨m0,w0⟩,turn⟩:=h
 refine wpAny_While (codeAny_whileLoop (fun n s'=>∃ σ' H',aQ X pins σ' H' s'/\W n σ' H') ?_ m0 ⟨σ,H,I,w0⟩)
 rintro n s1 ⟨σ1,H1,I1,w1⟩
 refine wpAny_passesOwn hp (cV (hc pins s1 σ1 H1 _ I1 (turn n σ1 H1 w1)) fun b s2 ⟨H2,I2,q2⟩=>?_)
 cases b with
 |true=>
  obtain ⟨N,hN,q2⟩:=q2
  rw [if_pos rfl]
  refine wpAny_passesOwn hp (cV (hb pins s2 σ1 H2 _ I2 q2) fun f s3 q3=>?_)
  cases f with
  |next=>
   obtain ⟨σ3,H3,I3,n3⟩:=q3
   obtain ⟨m',hm,w3⟩:=hN σ3 H3 n3
   exact ⟨m',hm,σ3,H3,I3,w3⟩
  |cont=>
   obtain ⟨σ3,H3,I3,n3⟩:=q3
   obtain ⟨m',hm,w3⟩:=hN σ3 H3 n3
   exact ⟨m',hm,σ3,H3,I3,w3⟩
  |brk=>exact q3
  |ret v=>exact q3
 |false=>
  rw [if_neg Bool.false_ne_true]
  exact wpAny_execs_nil ⟨σ1,H2,I2,q2⟩
end
structure It where
 go:Nat->Hp->Prop
 yld:Nat->Hp->V->Hp->Prop
 stop:Nat->Hp->Prop
def tY (X:Cx) (pins:List (Addr×Obj)) (H:Hp) (b:Addr):Prop:=
 H b=none/\b≠X.env.locals/\b∉X.fs/\(b∈X.ex\/X.s_0.heap.objs.size<=b)/\(∀ x c,X.env.cells.lookup x=some c->c≠b)/\∀ p∈X.pn++pins,p.1≠b
theorem aQ.fpOk {X:Cx} {pins:List (Addr×Obj)} {σ:St} {H H':Hp} {s:Shared} {b:Addr} (I:aQ X pins σ H s) (hb:s.heap.objs.size<=b) (hn:H' b=none):tY X pins H' b:=by
 refine ⟨hn,Nat.ne_of_gt (Nat.lt_of_lt_of_le I.lt hb),I.nofs hb,.inr (Nat.le_trans I.sz hb),fun x c e z=>?_,fun p hp z=>?_⟩
 ·obtain ⟨v,q⟩:=I.cell x c e
  exact absurd (Nat.lt_of_lt_of_le q.lt (by rw [z];exact hb)) (Nat.lt_irrefl _)
 ·exact absurd (Nat.lt_of_lt_of_le (Heap.lt_size (I.pin p hp).1) (by rw [z];exact hb)) (Nat.lt_irrefl _)
structure xX (P:Program) (w:World) (K:PySem.W.Frag) (tg:Expr) (J:It) (fp:List Addr) (it:Addr) (tn:Nat->Heap->Prop):Prop where
 mem:it∈fp
 obj:∀ i h,tn i h->∀ b∈fp,∃ o,h.get? b=some o/\∀ v,o.data≠.cell v
 keep:∀ i h h',tn i h->(∀ b∈fp,∀ o,h.get? b=some o->h'.get? b=some o)->tn i h'
 item:∀ (X:Cx),X.prog=P->X.w=w->X.K=K->X.calm=true->∀ (i:Nat) (pins:List (Addr×Obj)) (s:Shared) (σ:St) (H:Hp) (E:Value->Shared->Prop),aQ X pins σ H s->(∀ b∈fp,tY X pins H b)->tn i s.heap->J.go i H->
  wpAny (model P w) X.A (pyNext (.ref it)) (fun r s1=>∃ u,r=some u/\
   wpAny (model P w) X.A (letOwnedTupleGo tg (.ref it) u) (fun _ s2=>∃ x H',aQ X pins σ H' s2/\cD x u/\J.yld i H x H'/\tn (i+1) s2.heap/\∀ b∈fp,H' b=none) E s1) E s
 done:∀ (X:Cx),X.prog=P->X.w=w->X.K=K->X.calm=true->∀ (i:Nat) (pins:List (Addr×Obj)) (s:Shared) (σ:St) (H:Hp) (E:Value->Shared->Prop),aQ X pins σ H s->(∀ b∈fp,tY X pins H b)->tn i s.heap->J.stop i H->
  wpAny (model P w) X.A (pyNext (.ref it)) (fun r s1=>r=none/\aQ X pins σ H s1) E s
 self:∀ (A:Around) (i:Nat) (s:Shared) (Q:Value->Shared->Prop) (E:Value->Shared->Prop),tn i s.heap->Q (.ref it) s->wpAny (model P w) A (pyIter (.ref it)) Q E s
abbrev TI:=St->Hp->(It->Hp->Prop)->Prop
def PIE (X:Cx) (pins:List (Addr×Obj)) (σ:St) (tg:Expr) (R:It->Hp->Prop) (itv:Value) (s2:Shared):Prop:=
 ∃ (it:Addr) (fp:List Addr) (tn:Nat->Heap->Prop) (J:It) (H':Hp),itv=.ref it/\aQ X pins σ H' s2/\xX X.prog X.w X.K tg J fp it tn/\tn 0 s2.heap/\(∀ b∈fp,tY X pins H' b)/\R J H'
def PI (X:Cx) (tg iter:Expr) (wi:TI):Prop:=
 ∀ (pins:List (Addr×Obj)) (s:Shared) (σ:St) (H:Hp) (R:It->Hp->Prop),aQ X pins σ H s->wi σ H R->
  wpAny (model X.prog X.w) X.A (eval iter X.env) (fun v s1=>wpAny (model X.prog X.w) X.A (pyIter v) (PIE X pins σ tg R) X.xe s1) X.xe s
theorem yI {M:Model} {A:Around} {E:Value->Shared->Prop} {s:Shared} {tg:Expr} {it:Addr} {u:Value} {o:Obj} {n:String} {vs:Array Value} {Q:Unit->Shared->Prop} (ho:s.heap.get? it=some o) (hc:o.cls=.type n) (hd:o.data=.fields vs)
  (hn:["enumerate","zip","dict_itemiterator","dict_reverseitemiterator","odict_iterator","itertools.zip_longest","itertools.pairwise"].contains n=false) (hQ:Q () s):wpAny M A (letOwnedTupleGo tg (.ref it) u) Q E s:=by
 unfold letOwnedTupleGo
 cases tg<;>first
  |exact wpAny_pure hQ
  |(cases u<;>first
    |exact wpAny_pure hQ
    |(refine wpAny_bind (wpAny_load ho ?_)
      rw [hc,hd]
      show wpAny M A (if (["enumerate","zip","dict_itemiterator","dict_reverseitemiterator","odict_iterator","itertools.zip_longest","itertools.pairwise"].contains n && vs[0]?==some (rawInt _))=true then _ else _) Q E s
      rw [if_neg (by intro h;rw [hn,Bool.false_and] at h;cases h)]
      exact wpAny_pure hQ))
def Qr (K:PySem.W.Frag) (a:Addr):It:=
 ⟨fun i H=>∃ xs x,cW K H a xs/\xs[i]?=some x,fun i H x H'=>H'=H/\∀ xs,cW K H a xs->xs[i]?=some x,fun i H=>∃ xs,cW K H a xs/\xs.length<=i⟩
def Itt (K:PySem.W.Frag) (a:Addr):It:=
 ⟨fun i H=>∃ xs x,cN K H a xs/\xs[i]?=some x,fun i H x H'=>H'=H/\∀ xs,cN K H a xs->xs[i]?=some x,fun i H=>∃ xs,cN K H a xs/\xs.length<=i⟩
def Tj (lo:Int) (n:Nat):It:=⟨fun i _=>i<n,fun i H x H'=>H'=H/\x=.int (lo+i),fun i _=>n<=i⟩
theorem Nu {P:Program} {w:World} {K:PySem.W.Frag} {tg:Expr} (a it:Addr):xX P w K tg (Qr K a) [it] it (fun i h=>h.IsListIter it a i) where
 mem:=by simp
 obj:=fun i h st b hb=>by
  have e:b=it:=by simpa using hb
  subst e
  obtain ⟨o,e,c,d⟩:=st
  exact ⟨o,e,fun v z=>by rw [d] at z;cases z⟩
 keep:=fun i h h' st k=>st.at fun o e=>k it (by simp) o e
 item:=by
  intro X hP hw hK hc i pins s σ H E I hf st hg
  subst hP hw hK
  obtain ⟨xs,x,hq,hx⟩:=hg
  obtain ⟨its,rv,p,hz⟩:=I.list hq
  obtain ⟨u,hu,ru⟩:=rv.get hx
  obtain ⟨f0,f1,f2,f3,f4,f5⟩:=hf it (by simp)
  refine wpAny_pyNext_list_item st p.isList (x:=u) (by simpa using hu) fun h' st' sb=>?_
  have I1:aQ X pins σ H {s with heap:=h'}:=I.turned (t':=s.toks) (fun b o hb e=>(sb.2 b hb).trans e) f0 f1 f3 f4 f5
  obtain ⟨o,e,c,d⟩:=id st'
  exact ⟨u,rfl,yI (s:={s with heap:=h'}) e c d (by decide) ⟨x,H,I1,ru,⟨rfl,fun ys hy=>by rw [I.list_inj hy hq];exact hx⟩,st',fun b hb=>(hf b hb).1⟩⟩
 done:=by
  intro X hP hw hK hc i pins s σ H E I hf st hg
  subst hP hw hK
  obtain ⟨xs,hq,hx⟩:=hg
  obtain ⟨its,rv,p,hz⟩:=I.list hq
  obtain ⟨f0,f1,f2,f3,f4,f5⟩:=hf it (by simp)
  have hl:=rv.length
  exact wpAny_pyNext_list_end (I.ok.hd hc) st p.isList (by simp;omega) fun h' eb=>⟨rfl,I.turned (t':=s.toks) (fun b o hb e=>eb b o hb e) f0 f1 f3 f4 f5⟩
 self:=fun _ _ _ _ _ st h=>wpAny_pyIter_listiter st h
theorem Im {P:Program} {w:World} {K:PySem.W.Frag} {tg:Expr} (a it:Addr):xX P w K tg (Itt K a) [it] it (fun i h=>h.IsTupleIter it a i) where
 mem:=by simp
 obj:=fun i h st b hb=>by
  have e:b=it:=by simpa using hb
  subst e
  obtain ⟨o,e,c,d⟩:=st
  exact ⟨o,e,fun v z=>by rw [d] at z;cases z⟩
 keep:=fun i h h' st k=>st.at fun o e=>k it (by simp) o e
 item:=by
  intro X hP hw hK hc i pins s σ H E I hf st hg
  subst hP hw hK
  obtain ⟨xs,x,hq,hx⟩:=hg
  obtain ⟨its,rv,p,hz⟩:=I.tuple hq
  obtain ⟨u,hu,ru⟩:=rv.get hx
  obtain ⟨f0,f1,f2,f3,f4,f5⟩:=hf it (by simp)
  refine wpAny_pyNext_tuple_item st (show s.heap.IsTuple a its.toArray from p) (x:=u) (by simpa using hu) fun h' st' sb=>?_
  have I1:aQ X pins σ H {s with heap:=h'}:=I.turned (t':=s.toks) (fun b o hb e=>(sb.2 b hb).trans e) f0 f1 f3 f4 f5
  obtain ⟨o,e,c,d⟩:=id st'
  exact ⟨u,rfl,yI (s:={s with heap:=h'}) e c d (by decide) ⟨x,H,I1,ru,⟨rfl,fun ys hy=>by rw [I.tuple_inj hy hq];exact hx⟩,st',fun b hb=>(hf b hb).1⟩⟩
 done:=by
  intro X hP hw hK hc i pins s σ H E I hf st hg
  subst hP hw hK
  obtain ⟨xs,hq,hx⟩:=hg
  obtain ⟨its,rv,p,hz⟩:=I.tuple hq
  obtain ⟨f0,f1,f2,f3,f4,f5⟩:=hf it (by simp)
  have hl:=rv.length
  exact wpAny_pyNext_tuple_end (I.ok.hd hc) st (show s.heap.IsTuple a its.toArray from p) (by simp;omega) fun h' eb=>⟨rfl,I.turned (t':=s.toks) (fun b o hb e=>eb b o hb e) f0 f1 f3 f4 f5⟩
 self:=fun _ _ _ _ _ st h=>wpAny_pyIter_tupleiter st h
theorem Hy {P:Program} {w:World} {K:PySem.W.Frag} {tg:Expr} (it:Addr) (lo:Int) (n:Nat):xX P w K tg (Tj lo n) [it] it (fun i h=>IsRangeIter h it (lo+(i:Nat) * 1) ((n:Int) - (i:Nat)) 1) where
 mem:=by simp
 obj:=fun i h st b hb=>by
  have e:b=it:=by simpa using hb
  subst e
  exact ⟨_,st,fun v z=>by
   have z':Data.fields _=Data.cell v:=z
   cases z'⟩
 keep:=fun i h h' st k=>k it (by simp) _ st
 item:=by
  intro X hP hw hK hc i pins s σ H E I hf st hg
  subst hP hw hK
  obtain ⟨f0,f1,f2,f3,f4,f5⟩:=hf it (by simp)
  have W:=Walks.range (prog:=X.prog) (w:=X.w) (I.ok.hd hc) it lo 1 n
  refine W.item i s _ _ hg st fun v h' tk hv st' kk=>?_
  obtain ⟨t,rfl⟩:=hv
  have I1:aQ X pins σ H {s with heap:=h',toks:=tk}:=I.turned (fun b o hb e=>kk b o (by simpa using hb) e) f0 f1 f3 f4 f5
  refine ⟨_,rfl,yI (s:={s with heap:=h',toks:=tk}) (n:="range_iterator") st' rfl rfl (by decide) ⟨.int (lo+i),H,I1,⟨t,?_⟩,⟨rfl,rfl⟩,st',fun b hb=>(hf b hb).1⟩⟩
  rw [Int.mul_one]
 done:=by
  intro X hP hw hK hc i pins s σ H E I hf st hg
  subst hP hw hK
  obtain ⟨f0,f1,f2,f3,f4,f5⟩:=hf it (by simp)
  exact wpAny_pyNext_range_end (I.ok.hd hc) st (by have:n<=i:=hg;omega) fun h' eb=>⟨rfl,I.turned (t':=s.toks) (fun b o hb e=>eb b o hb e) f0 f1 f3 f4 f5⟩
 self:=fun _ _ _ _ _ st h=>wpAny_pyIter_rangeiter st h
section
variable {X:Cx} {tg:Expr}
def aBx (K:PySem.W.Frag) (tl:TE):TI:=fun σ H R=>tl σ H fun x H1=>∃ a,x=.ref a/\(∃ xs,cW K H1 a xs)/\R (Qr K a) H1
def aC7 (K:PySem.W.Frag) (tl:TE):TI:=fun σ H R=>tl σ H fun x H1=>∃ a,x=.ref a/\(∃ xs,cN K H1 a xs)/\R (Itt K a) H1
theorem gN {l:Expr} {tl:TE} (hl:PE X l tl):PI X tg l (aBx X.K tl):=by
 intro pins s σ H R I h
 refine cV (hl pins s σ H _ I h) fun v s1 ⟨x,H1,I1,r1,q1⟩=>?_
 obtain ⟨a,e,⟨xs,hq⟩,q⟩:=q1
 subst e
 cases r1
 obtain ⟨its,rv,p,hz⟩:=I1.list hq
 refine wpAny_pyIter_list p.isList ?_
 refine ⟨s1.heap.objs.size,[s1.heap.objs.size],_,_,H1,rfl,I1.kept (t':=s1.toks) fun b o e=>Heap.get?_push_of_some _ e,Nu a _,⟨_,Heap.get?_push_size _ rfl,rfl,rfl⟩,fun b hb=>?_,q⟩
 have e:b=s1.heap.objs.size:=by simpa using hb
 subst e
 exact I1.fpOk (Nat.le_refl _) (I1.hok.fresh (Nat.le_refl _))
theorem Sj {l:Expr} {tl:TE} (hl:PE X l tl):PI X tg l (aC7 X.K tl):=by
 intro pins s σ H R I h
 refine cV (hl pins s σ H _ I h) fun v s1 ⟨x,H1,I1,r1,q1⟩=>?_
 obtain ⟨a,e,⟨xs,hq⟩,q⟩:=q1
 subst e
 cases r1
 obtain ⟨its,rv,p,hz⟩:=I1.tuple hq
 refine wpAny_pyIter_tuple (show s1.heap.IsTuple a its.toArray from p) ?_
 refine ⟨s1.heap.objs.size,[s1.heap.objs.size],_,_,H1,rfl,I1.kept (t':=s1.toks) fun b o e=>Heap.get?_push_of_some _ e,Im a _,⟨_,Heap.get?_push_size _ rfl,rfl,rfl⟩,fun b hb=>?_,q⟩
 have e:b=s1.heap.objs.size:=by simpa using hb
 subst e
 exact I1.fpOk (Nat.le_refl _) (I1.hok.fresh (Nat.le_refl _))
theorem Fc {pins:List (Addr×Obj)} {σ:St} {H:Hp} {s:Shared} {R:It->Hp->Prop} {E:Value->Shared->Prop} {lo hi:Int} {t u v:Tok} {tk:Nat} (I:aQ X pins σ H s) (h1: -(2 ^ 62)<=lo) (h2:lo<2 ^ 62) (h3: -(2 ^ 62)<=hi) (h4:hi<2 ^ 62)
  (q:R (Tj lo (hi - lo).toNat) H):wpAny (model X.prog X.w) X.A (pyIter (.ref s.heap.objs.size)) (PIE X pins σ tg R) E {s with heap:=s.heap.push {cls:=.type "range",data:=.fields #[.int lo t,.int hi u,.int 1 v]},toks:=tk}:=by
 refine wpAny_pyIter_range (IsRange.new ..) (small_one h1 h2 h3 h4) ?_
 have I1:aQ X pins σ H {s with heap:=s.heap.push {cls:=.type "range",data:=.fields #[.int lo t,.int hi u,.int 1 v]},toks:=tk}:=I.kept fun b o e=>Heap.get?_push_of_some _ e
 refine ⟨(s.heap.push {cls:=.type "range",data:=.fields #[.int lo t,.int hi u,.int 1 v]}).objs.size,[(s.heap.push {cls:=.type "range",data:=.fields #[.int lo t,.int hi u,.int 1 v]}).objs.size],_,_,H,rfl,
  I1.kept (t':=tk) fun b o e=>Heap.get?_push_of_some _ e,Hy _ lo (hi - lo).toNat,?_,fun b hb=>?_,q⟩
 ·have e1:lo+((0:Nat):Int) * 1=lo:=by simp
  have e2:(((hi - lo).toNat:Nat):Int) - ((0:Nat):Int)=Builtin.Range.rangeSize lo hi 1:=by rw [rangeSize_one];split<;>omega
  show IsRangeIter _ _ (lo+((0:Nat):Int) * 1) ((((hi - lo).toNat:Nat):Int) - ((0:Nat):Int)) 1
  rw [e1,e2]
  exact Heap.get?_push_size _ rfl
 ·have e:b=(s.heap.push {cls:=.type "range",data:=.fields #[.int lo t,.int hi u,.int 1 v]}).objs.size:=by simpa using hb
  subst e
  exact I1.fpOk (Nat.le_refl _) (I1.hok.fresh (Nat.le_refl _))
def aBb (ta:TA):TI:=fun σ H R=>ta σ H fun vs H1=>∃ j:Int,vs=[.int j]/\ -(2 ^ 62)<=j/\j<2 ^ 62/\R (Tj 0 j.toNat) H1
def aB9 (ta:TA):TI:=fun σ H R=>ta σ H fun vs H1=>∃ i j:Int,vs=[.int i,.int j]/\(-(2 ^ 62)<=i/\i<2 ^ 62/\ -(2 ^ 62)<=j/\j<2 ^ 62)/\R (Tj i (j - i).toNat) H1
theorem kO {a:Expr} {ta:TA} {p pos:Pos} (hg:Gl X "range") (hm:X.mg "range"=none) (ha:PA X [a] ta) (hs:starEach [a] X.env=[(false,eval a X.env)]:=by rfl):PI X tg (.Call (.Name "range" p) [a] [] pos) (aBb ta):=by
 intro pins s σ H R I h
 refine Call_ (rQ I hg hm boot_range (PyProof.Rows.callWith_type1 (cV (ha pos pins s σ H _ I h) fun us s1 ⟨vs,H1,I1,r1,q1⟩=>?_) hs rfl))
 obtain ⟨j,e,q1,q2,q⟩:=q1
 subst e
 cases r1 with
 |cons r rr=>
  cases rr
  obtain ⟨t,rfl⟩:=r
  exact call_range_1 (Fc I1 (by omega) (by omega) q1 q2 (by simpa using q))
theorem Nc {a b:Expr} {ta:TA} {p pos:Pos} (hg:Gl X "range") (hm:X.mg "range"=none) (ha:PA X [a,b] ta) (hs:starEach [a,b] X.env=[(false,eval a X.env),(false,eval b X.env)]:=by rfl) (hs2:starEach [b] X.env=[(false,eval b X.env)]:=by rfl):
  PI X tg (.Call (.Name "range" p) [a,b] [] pos) (aB9 ta):=by
 intro pins s σ H R I h
 refine Call_ (rQ I hg hm boot_range (PyProof.Rows.callWith_type1 (cV (ha pos pins s σ H _ I h) fun us s1 ⟨vs,H1,I1,r1,q1⟩=>?_) (by rw [hs,hs2]) (by rw [hs2];rfl)))
 obtain ⟨i,j,e,⟨q1,q2,q3,q4⟩,q⟩:=q1
 subst e
 cases r1 with
 |cons r rr=>
  cases rr with
  |cons r' rr=>
   cases rr
   obtain ⟨t,rfl⟩:=r
   obtain ⟨t',rfl⟩:=r'
   exact call_range_2 (Fc I1 q1 q2 q3 q4 q)
def aDx (wi:TI) (g:TG) (tb:TS):TS:=fun D σ H=>wi σ H fun J H1=>∃ W:Nat->Nat->St->Hp->Prop,(∃ m,W 0 m σ H1)/\∀ i m σ H,W i m σ H->
 (J.stop i H/\D.nx σ H)\/(J.go i H/\∃ N:St->Hp->Prop,(∀ σ' H',N σ' H'->∃ m',m'<m/\W (i+1) m' σ' H')/\∀ x H',J.yld i H x H'->g x σ H' fun σ2 H2=>tb {D with nx:=N,ct:=N,bk:=D.nx} σ2 H2)
def sF (fp:List Addr) (h:Heap):List (Addr×Obj):=fp.filterMap fun b=>(h.get? b).map fun o=>(b,o)
theorem iQ {fp:List Addr} {h:Heap} {b:Addr} {o:Obj} (hb:b∈fp) (e:h.get? b=some o):(b,o)∈sF fp h:=List.mem_filterMap.mpr ⟨b,hb,by rw [e];rfl⟩
theorem Oc {fp:List Addr} {h:Heap} {p:Addr×Obj} (hp:p∈sF fp h):p.1∈fp/\h.get? p.1=some p.2:=by
 obtain ⟨b,hb,e⟩:=List.mem_filterMap.mp hp
 cases q:h.get? b with
 |none=>rw [q] at e;cases e
 |some o=>
  rw [q] at e
  have e':(b,o)=p:=Option.some.inj e
  subst e'
  exact ⟨hb,q⟩
theorem aQ.pinned {pins:List (Addr×Obj)} {σ:St} {H:Hp} {s:Shared} {fp:List Addr} (I:aQ X pins σ H s) (hf:∀ b∈fp,tY X pins H b) (ho:∀ b∈fp,∃ o,s.heap.get? b=some o/\∀ v,o.data≠.cell v):aQ X (pins++sF fp s.heap) σ H s:=
 I.pins_of fun p hp=>(List.mem_append.mp hp).elim (fun z=>I.pin p (List.mem_append_right _ z)) fun z=>by
  obtain ⟨hb,e⟩:=Oc z
  obtain ⟨f0,f1,f2,_⟩:=hf p.1 hb
  obtain ⟨o,e',d⟩:=ho p.1 hb
  rw [e] at e';cases e'
  exact ⟨e,f0,f1,f2,d⟩
theorem aQ.unpinned {pins pl:List (Addr×Obj)} {σ:St} {H:Hp} {s:Shared} (I:aQ X (pins++pl) σ H s):aQ X pins σ H s:=I.pins_of fun p hp=>I.pin p (List.mem_append_right _ (List.mem_append_left _ hp))
theorem eQ {iter:Expr} {body:List Stmt} {wi:TI} {g:TG} {tb:TS} {pos:Pos} (hp:PassesOwn (model X.prog X.w) X.A X.env X.xe) (hc:X.calm=true) (hi:PI X tg iter wi) (hg:PG X tg g) (hb:Ap X body tb)
  (hs:∀ x,foldedSetIterable iter X.env x=pure x:=by intro _;rfl):PS X (.For tg iter body [] pos) (aDx wi g tb):=by
 intro pins s σ H D I h
 refine wpAny_For (cV (hi pins s σ H _ I h) fun v s1 h1=>cV h1 fun itv s2 h2=>?_) hs
 obtain ⟨it,fp,tn,J,H2,e,I2,T,st2,f2,W,⟨m0,w0⟩,turn⟩:=h2
 subst e
 have stat:∀ {H':Hp},(∀ b∈fp,H' b=none)->∀ b∈fp,tY X pins H' b:=fun hn b hb=>⟨hn b hb,(f2 b hb).2⟩
 refine codeAny_forLoop_any (fun n s'=>∃ i σ' H',aQ X pins σ' H' s'/\tn i s'.heap/\(∀ b∈fp,H' b=none)/\W i n σ' H') ?_ m0 ⟨0,σ,H2,I2,st2,fun b hb=>(f2 b hb).1,w0⟩
 rintro n s3 ⟨i,σ3,H3,I3,st3,fr3,w3⟩
 rcases turn i n σ3 H3 w3 with ⟨stop,qn⟩|⟨go,N,hN,step⟩
 ·refine wpAny_passesOwn hp (cV (T.done X rfl rfl rfl hc i pins s3 σ3 H3 X.xe I3 (stat fr3) st3 stop) fun r s4 ⟨hr,I4⟩=>?_)
  subst hr
  exact wpAny_execs_nil ⟨σ3,H3,I4,qn⟩
 ·refine wpAny_passesOwn hp (cV (T.item X rfl rfl rfl hc i pins s3 σ3 H3 X.xe I3 (stat fr3) st3 go) fun r s4 ⟨u,hr,h4⟩=>?_)
  subst hr
  refine wpAny_passesOwn hp (cV h4 fun _ s5 ⟨x,H5,I5,r5,y5,st5,fr5⟩=>?_)
  have I5':=I5.pinned (stat fr5) (T.obj _ _ st5)
  refine wpAny_passesOwn hp (cV (hg _ s5 σ3 H5 x u _ I5' r5 (step x H5 y5)) fun _ s6 ⟨σ6,H6,I6,q6⟩=>?_)
  refine wpAny_passesOwn hp (cV (hb _ s6 σ6 H6 _ I6 q6) fun f s7 q7=>?_)
  have again:∀ {σ7:St} {H7:Hp},aQ X (pins++sF fp s5.heap) σ7 H7 s7->N σ7 H7->∃ m,m<n/\∃ i σ' H',aQ X pins σ' H' s7/\tn i s7.heap/\(∀ b∈fp,H' b=none)/\W i m σ' H':=fun {σ7 H7} I7 n7=>by
   obtain ⟨m',hm,w7⟩:=hN σ7 H7 n7
   refine ⟨m',hm,i+1,σ7,H7,I7.unpinned,T.keep _ _ _ st5 fun b hb o e=>(I7.pin (b,o) (List.mem_append_right _ (List.mem_append_right _ (iQ hb e)))).1,fun b hb=>?_,w7⟩
   obtain ⟨o,e,d⟩:=T.obj _ _ st5 b hb
   exact (I7.pin (b,o) (List.mem_append_right _ (List.mem_append_right _ (iQ hb e)))).2.1
  cases f with
  |next=>obtain ⟨σ7,H7,I7,n7⟩:=q7;exact again I7 n7
  |cont=>obtain ⟨σ7,H7,I7,n7⟩:=q7;exact again I7 n7
  |brk=>obtain ⟨σ7,H7,I7,q7⟩:=q7;exact ⟨σ7,H7,I7.unpinned,q7⟩
  |ret v=>obtain ⟨x7,σ7,H7,I7,r7,q7⟩:=q7;exact ⟨x7,σ7,H7,I7.unpinned,r7,q7⟩
end
theorem Fh {K:PySem.W.Frag} {a:Addr} {xs:List V} {g:TG} {tb:TS} {D:fZ} {σ:St} {H:Hp} (Pv:Nat->St->Hp->Prop) (h0:Pv 0 σ H) (hl:∀ i σ H,i<=xs.length->Pv i σ H->cW K H a xs)
  (hs:∀ i x σ H,xs[i]?=some x->Pv i σ H->g x σ H fun σ2 H2=>tb {D with nx:=Pv (i+1),ct:=Pv (i+1),bk:=D.nx} σ2 H2) (hd:∀ σ H,Pv xs.length σ H->D.nx σ H):
  ∃ W:Nat->Nat->St->Hp->Prop,(∃ m,W 0 m σ H)/\∀ i m σ H,W i m σ H->
   ((Qr K a).stop i H/\D.nx σ H)\/((Qr K a).go i H/\∃ N:St->Hp->Prop,(∀ σ' H',N σ' H'->∃ m',m'<m/\W (i+1) m' σ' H')/\∀ x H',(Qr K a).yld i H x H'->g x σ H' fun σ2 H2=>tb {D with nx:=N,ct:=N,bk:=D.nx} σ2 H2):=by
 refine ⟨fun i m σ H=>m=xs.length - i/\i<=xs.length/\Pv i σ H,⟨xs.length,by simp,Nat.zero_le _,h0⟩,?_⟩
 rintro i m σ H ⟨rfl,hi,p⟩
 have q:=hl i σ H hi p
 by_cases hlt:i<xs.length
 ·refine .inr ⟨⟨xs,xs[i],q,by simp [hlt]⟩,Pv (i+1),fun σ' H' p'=>⟨xs.length - (i+1),by omega,rfl,hlt,p'⟩,fun x H' y=>?_⟩
  obtain ⟨e,y⟩:=y
  subst e
  exact hs i x σ _ (y xs q) p
 ·have e:i=xs.length:=by omega
  subst e
  exact .inl ⟨⟨xs,q,Nat.le_refl _⟩,hd σ H p⟩
theorem Kz {K:PySem.W.Frag} {a:Addr} {xs:List V} {g:TG} {tb:TS} {D:fZ} {σ:St} {H:Hp} (Pv:Nat->St->Hp->Prop) (h0:Pv 0 σ H) (hl:∀ i σ H,i<=xs.length->Pv i σ H->cN K H a xs)
  (hs:∀ i x σ H,xs[i]?=some x->Pv i σ H->g x σ H fun σ2 H2=>tb {D with nx:=Pv (i+1),ct:=Pv (i+1),bk:=D.nx} σ2 H2) (hd:∀ σ H,Pv xs.length σ H->D.nx σ H):
  ∃ W:Nat->Nat->St->Hp->Prop,(∃ m,W 0 m σ H)/\∀ i m σ H,W i m σ H->
   ((Itt K a).stop i H/\D.nx σ H)\/((Itt K a).go i H/\∃ N:St->Hp->Prop,(∀ σ' H',N σ' H'->∃ m',m'<m/\W (i+1) m' σ' H')/\∀ x H',(Itt K a).yld i H x H'->g x σ H' fun σ2 H2=>tb {D with nx:=N,ct:=N,bk:=D.nx} σ2 H2):=by
 refine ⟨fun i m σ H=>m=xs.length - i/\i<=xs.length/\Pv i σ H,⟨xs.length,by simp,Nat.zero_le _,h0⟩,?_⟩
 rintro i m σ H ⟨rfl,hi,p⟩
 have q:=hl i σ H hi p
 by_cases hlt:i<xs.length
 ·refine .inr ⟨⟨xs,xs[i],q,by simp [hlt]⟩,Pv (i+1),fun σ' H' p'=>⟨xs.length - (i+1),by omega,rfl,hlt,p'⟩,fun x H' y=>?_⟩
  obtain ⟨e,y⟩:=y
  subst e
  exact hs i x σ _ (y xs q) p
 ·have e:i=xs.length:=by omega
  subst e
  exact .inl ⟨⟨xs,q,Nat.le_refl _⟩,hd σ H p⟩
theorem rY {lo:Int} {n:Nat} {g:TG} {tb:TS} {D:fZ} {σ:St} {H:Hp} (Pv:Nat->St->Hp->Prop) (h0:Pv 0 σ H)
  (hs:∀ i σ H,i<n->Pv i σ H->g (.int (lo+i)) σ H fun σ2 H2=>tb {D with nx:=Pv (i+1),ct:=Pv (i+1),bk:=D.nx} σ2 H2) (hd:∀ σ H,Pv n σ H->D.nx σ H):
  ∃ W:Nat->Nat->St->Hp->Prop,(∃ m,W 0 m σ H)/\∀ i m σ H,W i m σ H->
   ((Tj lo n).stop i H/\D.nx σ H)\/((Tj lo n).go i H/\∃ N:St->Hp->Prop,(∀ σ' H',N σ' H'->∃ m',m'<m/\W (i+1) m' σ' H')/\∀ x H',(Tj lo n).yld i H x H'->g x σ H' fun σ2 H2=>tb {D with nx:=N,ct:=N,bk:=D.nx} σ2 H2):=by
 refine ⟨fun i m σ H=>m=n - i/\i<=n/\Pv i σ H,⟨n,by simp,Nat.zero_le _,h0⟩,?_⟩
 rintro i m σ H ⟨rfl,hi,p⟩
 by_cases hlt:i<n
 ·refine .inr ⟨hlt,Pv (i+1),fun σ' H' p'=>⟨n - (i+1),by omega,rfl,hlt,p'⟩,fun x H' y=>?_⟩
  obtain ⟨e,y⟩:=y
  subst e y
  exact hs i σ _ hlt p
 ·have e:i=n:=by omega
  subst e
  exact .inl ⟨Nat.le_refl _,hd σ H p⟩
abbrev R2:=V->V->Hp->VK->Prop
def uA (X:Cx) (f:Value->Value->Sem Value) (r:R2):Prop:=
 ∀ (pins:List (Addr×Obj)) (s:Shared) (σ:St) (H:Hp) (x y:V) (v u:Value) (Q:VK),aQ X pins σ H s->cD x v->cD y u->r x y H Q->
  wpAny (model X.prog X.w) X.A (f v u) (EP X pins σ Q) X.xe s
def UnR (X:Cx) (f:Value->Sem Value) (r:V->Hp->VK->Prop):Prop:=
 ∀ (pins:List (Addr×Obj)) (s:Shared) (σ:St) (H:Hp) (x:V) (v:Value) (Q:VK),aQ X pins σ H s->cD x v->r x H Q->
  wpAny (model X.prog X.w) X.A (f v) (EP X pins σ Q) X.xe s
def mK (X:Cx) (f:Value) (r:List V->Hp->VK->Prop):Prop:=
 ∀ (pins:List (Addr×Obj)) (s:Shared) (σ:St) (H:Hp) (xs:List V) (us:List Value) (Q:VK),aQ X pins σ H s->bS xs us->r xs H Q->
  wpAny (model X.prog X.w) X.A (call f us) (EP X pins σ Q) X.xe s
def zE (r:R2) (ta tb:TE):TE:=fun σ H Q=>ta σ H fun x H1=>tb σ H1 fun y H2=>r x y H2 Q
def tUn (r:V->Hp->VK->Prop) (ta:TE):TE:=fun σ H Q=>ta σ H fun x H1=>r x H1 Q
def rI (C:Int->Int->Prop) (g:Int->Int->V):R2:=fun x y H Q=>∃ i j,x=.int i/\y=.int j/\C i j/\Q (g i j) H
def Qc (g:Int->Int->V):R2:=fun x y H Q=>∃ i j,x=.int i/\y=.int j/\Q (g i j) H
def rU (g:Int->V):V->Hp->VK->Prop:=fun x H Q=>∃ i,x=.int i/\Q (g i) H
section
variable {X:Cx} {a b c:Expr} {ta tb tc:TE} {pos:Pos}
theorem aAc (ha:PE X a ta) (hb:PE X b tb) {pins:List (Addr×Obj)} {s:Shared} {σ:St} {H:Hp} {R:V->V->Hp->Prop} (I:aQ X pins σ H s)
  (h:ta σ H fun x H1=>tb σ H1 fun y H2=>R x y H2) {Q:Value->Shared->Prop} {f:Value->Value->Sem Value}
  (hf:∀ v u s2 x y H2,aQ X pins σ H2 s2->cD x v->cD y u->R x y H2->wpAny (model X.prog X.w) X.A (f v u) Q X.xe s2):
  wpAny (model X.prog X.w) X.A (eval a X.env) (fun v s₁=>wpAny (model X.prog X.w) X.A (eval b X.env) (fun u s₂=>wpAny (model X.prog X.w) X.A (f v u) Q X.xe s₂) X.xe s₁) X.xe s:=by
 refine cV (ha pins s σ H _ I h) fun v s1 ⟨x,H1,I1,r1,q1⟩=>?_
 refine cV (hb pins s1 σ H1 _ I1 q1) fun u s2 ⟨y,H2,I2,r2,q2⟩=>?_
 exact hf v u s2 x y H2 I2 r1 r2 q2
theorem bZ {op:Operator} {r:R2} (ho:uA X (binaryOp op) r) (ha:PE X a ta) (hb:PE X b tb):PE X (.BinOp a op b pos) (zE r ta tb):=by
 intro pins s σ H Q I h
 exact wpAny_BinOp (aAc ha hb I h fun v u s2 x y H2 I2 rx ry q=>ho pins s2 σ H2 x y v u Q I2 rx ry q)
theorem qP {op:UnaryOp} {r:V->Hp->VK->Prop} (ho:UnR X (unaryOp op) r) (ha:PE X a ta):PE X (.UnaryOp op a pos) (tUn r ta):=by
 intro pins s σ H Q I h
 exact UnaryOp_ (cV (ha pins s σ H _ I h) fun v s1 ⟨x,H1,I1,r1,q1⟩=>ho pins s1 σ H1 x v Q I1 r1 q1)
theorem opI {f:Value->Value->Sem Value} {C:Int->Int->Prop} {g:Int->Int->Int}
  (rule:∀ (i j:Int) (t u:Tok) (s:Shared) (Q:Value->Shared->Prop) (E:Value->Shared->Prop),C i j->Q (.int (g i j) s.toks) {s with toks:=s.toks+1}->wpAny (model X.prog X.w) X.A (f (.int i t) (.int j u)) Q E s):
  uA X f (rI C fun i j=>.int (g i j)):=by
 intro pins s σ H x y v u Q I rx ry h
 obtain ⟨i,j,rfl,rfl,hc,q⟩:=h
 obtain ⟨t,rfl⟩:=rx
 obtain ⟨t',rfl⟩:=ry
 exact rule i j t t' s _ _ hc ⟨.int (g i j),H,I.tok _,⟨_,rfl⟩,q⟩
theorem aB2 {f:Value->Value->Sem Value} {g:Int->Int->Int}
  (rule:∀ (i j:Int) (t u:Tok) (s:Shared) (Q:Value->Shared->Prop) (E:Value->Shared->Prop),Q (.int (g i j) s.toks) {s with toks:=s.toks+1}->wpAny (model X.prog X.w) X.A (f (.int i t) (.int j u)) Q E s):
  uA X f (Qc fun i j=>.int (g i j)):=by
 intro pins s σ H x y v u Q I rx ry h
 obtain ⟨i,j,rfl,rfl,q⟩:=h
 obtain ⟨t,rfl⟩:=rx
 obtain ⟨t',rfl⟩:=ry
 exact rule i j t t' s _ _ ⟨.int (g i j),H,I.tok _,⟨_,rfl⟩,q⟩
theorem aA9 {f:Value->Value->Sem Value} {g:Int->Int->Bool}
  (rule:∀ (i j:Int) (t u:Tok) (s:Shared) (Q:Value->Shared->Prop) (E:Value->Shared->Prop),Q (.bool (g i j)) s->wpAny (model X.prog X.w) X.A (f (.int i t) (.int j u)) Q E s):
  uA X f (Qc fun i j=>.bl (g i j)):=by
 intro pins s σ H x y v u Q I rx ry h
 obtain ⟨i,j,rfl,rfl,q⟩:=h
 obtain ⟨t,rfl⟩:=rx
 obtain ⟨t',rfl⟩:=ry
 exact rule i j t t' s _ _ ⟨.bl (g i j),H,I,rfl,q⟩
def Zs (i j:Int):Prop:=(-(2 ^ 64)<i/\i<2 ^ 64)\/(-(2 ^ 64)<j/\j<2 ^ 64)
theorem Zs.ok {i j:Int} (h:Zs i j):IntMulOk i j:=by
 rcases h with ⟨h1,h2⟩|⟨h1,h2⟩
 ·exact .of_left (intBits_le_64 h1 h2)
 ·exact .of_right (intBits_le_64 h1 h2)
theorem fJ:uA X (binaryOp .Add) (Qc fun i j=>.int (i+j)):=aB2 fun _ _ _ _ _ _ _ q=>add_int q
theorem eC:uA X (binaryOp .Sub) (Qc fun i j=>.int (i - j)):=aB2 fun _ _ _ _ _ _ _ q=>sub_int q
theorem Ou:uA X (binaryOp .Mult) (rI Zs fun i j=>.int (i * j)):=opI fun _ _ _ _ _ _ _ hc q=>mul_int q hc.ok
theorem Rn:uA X (binaryOp .Mod) (rI (fun _ j=>0<j) fun i j=>.int (i % j)):=opI fun i j _ _ _ _ _ hc q=>by
 have h1:(0:Int)<j:=hc
 exact mod_int' (by omega) (by rw [Int.fmod_eq_emod_of_nonneg i (by omega)];exact q)
theorem unI {f:Value->Sem Value} {g:Int->Int}
  (rule:∀ (i:Int) (t:Tok) (s:Shared) (Q:Value->Shared->Prop) (E:Value->Shared->Prop),Q (.int (g i) s.toks) {s with toks:=s.toks+1}->wpAny (model X.prog X.w) X.A (f (.int i t)) Q E s):
  UnR X f (rU fun i=>.int (g i)):=by
 intro pins s σ H x v Q I rx h
 obtain ⟨i,rfl,q⟩:=h
 obtain ⟨t,rfl⟩:=rx
 exact rule i t s _ _ ⟨.int (g i),H,I.tok _,⟨_,rfl⟩,q⟩
theorem lM:UnR X (unaryOp .USub) (rU fun i=>.int (-i)):=unI fun _ _ _ _ _ q=>neg_int q
end
def aA7:V->V->Bool
 |.non,.non=>true|.non,.int _=>true|.int _,.non=>true|.non,.bl _=>true|.bl _,.non=>true|.non,.str _=>true|.str _,.non=>true
 |.int _,.int _=>true|.bl _,.bl _=>true|.str _,.str _=>true|.byt _,.byt _=>true
 |.int _,.str _=>true|.str _,.int _=>true|.bl _,.str _=>true|.str _,.bl _=>true
 |_,_=>false
def rEq:R2:=fun x y H Q=>aA7 x y=true/\Q (.bl (decide (x=y))) H
def rNe:R2:=fun x y H Q=>aA7 x y=true/\Q (.bl (!decide (x=y))) H
theorem uH {i j:Int}:decide (V.int i=V.int j)=(i==j):=by
 rw [Bool.eq_iff_iff]
 simp
theorem Ti {i j:Bool}:decide (V.bl i=V.bl j)=(i==j):=by
 rw [Bool.eq_iff_iff]
 simp
theorem Lh {i j:Str}:decide (V.str i=V.str j)=(i==j):=by
 rw [Bool.eq_iff_iff]
 simp
theorem Ll {i j:Array UInt8}:decide (V.byt i=V.byt j)=(i.toList==j.toList):=by
 rw [Bool.eq_iff_iff]
 cases i
 cases j
 simp
section
variable {X:Cx} {a b c:Expr} {ta tb tc:TE} {pos:Pos}
theorem cJ {pins:List (Addr×Obj)} {σ:St} {H:Hp} {s:Shared} {Q:VK} {k k':Bool} (I:aQ X pins σ H s) (q:Q (.bl k) H) (e:k=k'):EP X pins σ Q (.bool k') s:=by
 subst e
 exact ⟨.bl k,H,I,rfl,q⟩
theorem pY:uA X (compareOp .Eq) rEq:=by
 intro pins s σ H x y v u Q I rx ry h
 obtain ⟨hs,q⟩:=h
 cases x with
 |non=>
  cases rx
  cases y with
  |non=>cases ry;exact PySem.EqNone.eq_none_none (cJ I q (by simp))
  |bl j=>cases ry;exact PySem.EqNone.eq_none_bool (cJ I q (by simp))
  |int j=>obtain ⟨t',rfl⟩:=ry;exact PySem.EqNone.eq_none_int (cJ I q (by simp))
  |str j=>obtain ⟨t',rfl⟩:=ry;exact PySem.EqNone.eq_none_str (cJ I q (by simp))
  |_=>exact absurd (show false=true from hs) Bool.false_ne_true
 |bl i=>
  cases rx
  cases y with
  |non=>cases ry;exact PySem.EqNone.eq_bool_none (cJ I q (by simp))
  |bl j=>cases ry;exact eq_bool (cJ I q Ti)
  |str j=>obtain ⟨t',rfl⟩:=ry;exact PySem.EqMixed.eq_bool_str (cJ I q (by simp))
  |_=>exact absurd (show false=true from hs) Bool.false_ne_true
 |int i=>
  obtain ⟨t,rfl⟩:=rx
  cases y with
  |non=>cases ry;exact PySem.EqNone.eq_int_none (cJ I q (by simp))
  |int j=>obtain ⟨t',rfl⟩:=ry;exact eq_int (cJ I q uH)
  |str j=>obtain ⟨t',rfl⟩:=ry;exact PySem.EqMixed.eq_int_str (cJ I q (by simp))
  |_=>exact absurd (show false=true from hs) Bool.false_ne_true
 |str i=>
  obtain ⟨t,rfl⟩:=rx
  cases y with
  |non=>cases ry;exact PySem.EqNone.eq_str_none (cJ I q (by simp))
  |bl j=>cases ry;exact PySem.EqMixed.eq_str_bool (cJ I q (by simp))
  |int j=>obtain ⟨t',rfl⟩:=ry;exact PySem.EqMixed.eq_str_int (cJ I q (by simp))
  |str j=>obtain ⟨t',rfl⟩:=ry;exact eq_str (cJ I q Lh)
  |_=>exact absurd (show false=true from hs) Bool.false_ne_true
 |byt i=>
  obtain ⟨t,rfl⟩:=rx
  cases y with
  |byt j=>obtain ⟨t',rfl⟩:=ry;exact PySem.W.eq_bytes (cJ I q Ll)
  |_=>exact absurd (show false=true from hs) Bool.false_ne_true
 |_=>cases y<;>exact absurd (show false=true from hs) Bool.false_ne_true
theorem aB7:uA X (compareOp .NotEq) rNe:=by
 intro pins s σ H x y v u Q I rx ry h
 obtain ⟨hs,q⟩:=h
 cases x with
 |non=>
  cases rx
  cases y with
  |non=>cases ry;exact PySem.EqNone.ne_none_none (cJ I q (by simp))
  |bl j=>cases ry;exact PySem.EqNone.ne_none_bool (cJ I q (by simp))
  |int j=>obtain ⟨t',rfl⟩:=ry;exact PySem.EqNone.ne_none_int (cJ I q (by simp))
  |str j=>obtain ⟨t',rfl⟩:=ry;exact PySem.EqNone.ne_none_str (cJ I q (by simp))
  |_=>exact absurd (show false=true from hs) Bool.false_ne_true
 |bl i=>
  cases rx
  cases y with
  |non=>cases ry;exact PySem.EqNone.ne_bool_none (cJ I q (by simp))
  |bl j=>cases ry;exact ne_bool (cJ I q (congrArg not Ti))
  |str j=>obtain ⟨t',rfl⟩:=ry;exact PySem.EqMixed.ne_bool_str (cJ I q (by simp))
  |_=>exact absurd (show false=true from hs) Bool.false_ne_true
 |int i=>
  obtain ⟨t,rfl⟩:=rx
  cases y with
  |non=>cases ry;exact PySem.EqNone.ne_int_none (cJ I q (by simp))
  |int j=>obtain ⟨t',rfl⟩:=ry;exact ne_int (cJ I q (congrArg not uH))
  |str j=>obtain ⟨t',rfl⟩:=ry;exact PySem.EqMixed.ne_int_str (cJ I q (by simp))
  |_=>exact absurd (show false=true from hs) Bool.false_ne_true
 |str i=>
  obtain ⟨t,rfl⟩:=rx
  cases y with
  |non=>cases ry;exact PySem.EqNone.ne_str_none (cJ I q (by simp))
  |bl j=>cases ry;exact PySem.EqMixed.ne_str_bool (cJ I q (by simp))
  |int j=>obtain ⟨t',rfl⟩:=ry;exact PySem.EqMixed.ne_str_int (cJ I q (by simp))
  |str j=>obtain ⟨t',rfl⟩:=ry;exact ne_str (cJ I q (congrArg not Lh))
  |_=>exact absurd (show false=true from hs) Bool.false_ne_true
 |byt i=>
  obtain ⟨t,rfl⟩:=rx
  cases y with
  |byt j=>obtain ⟨t',rfl⟩:=ry;exact PySem.W.ne_bytes (cJ I q (congrArg not Ll))
  |_=>exact absurd (show false=true from hs) Bool.false_ne_true
 |_=>cases y<;>exact absurd (show false=true from hs) Bool.false_ne_true
theorem Rt:uA X (compareOp .Lt) (Qc fun i j=>.bl (decide (i<j))):=aA9 fun _ _ _ _ _ _ _ q=>lt_int q
theorem qT:uA X (compareOp .LtE) (Qc fun i j=>.bl (decide (i<=j))):=aA9 fun _ _ _ _ _ _ _ q=>le_int q
theorem gX (b:Expr) {op:CmpOp} (h:op≠.In:=by decide) (h2:op≠.NotIn:=by decide):behindInMarks op b=false:=by
 have e1:(op==CmpOp.In)=false:=by cases op<;>first|rfl|exact absurd rfl h
 have e2:(op==CmpOp.NotIn)=false:=by cases op<;>first|rfl|exact absurd rfl h2
 cases b<;>simp [behindInMarks,e1,e2]
theorem kZ {op:CmpOp} {r:R2} (ho:uA X (compareOp op) r) (ha:PE X a ta) (hb:PE X b tb) (hm:behindInMarks op b=false):PE X (.Compare a [op] [b] pos) (zE r ta tb):=by
 intro pins s σ H Q I h
 exact wpAny_Compare1 (aAc ha hb I h fun v u s2 x y H2 I2 rx ry q=>ho pins s2 σ H2 x y v u Q I2 rx ry q) hm
def Td (t:TE):TT:=fun σ H Q=>t σ H fun x H'=>∃ k,x=.bl k/\Q k H'
theorem hX {op:CmpOp} {r:R2} (ho:uA X (compareOp op) r) (ha:PE X a ta) (hb:PE X b tb) (hm:behindInMarks op b=false):PT X (.Compare a [op] [b] pos) (Td (zE r ta tb)):=by
 intro pins s σ H Q I h
 refine wpAny_isTrue_Compare1 (cV (ha pins s σ H _ I h) fun v s1 ⟨x,H1,I1,r1,q1⟩=>cV (hb pins s1 σ H1 _ I1 q1) fun u s2 ⟨y,H2,I2,r2,q2⟩=>
  cV (ho pins s2 σ H2 x y v u _ I2 r1 r2 q2) fun c s3 ⟨z,H3,I3,r3,k,e,q3⟩=>?_) hm
 subst e
 cases r3
 exact wpAny_truthy_bool ⟨H3,I3,q3⟩
def Ib (r r':R2) (ta tb tc:TE):TE:=fun σ H Q=>ta σ H fun x H1=>tb σ H1 fun y H2=>r x y H2 fun z H3=>∃ k,z=.bl k/\
 (if k=true then tc σ H3 fun w' H4=>r' y w' H4 Q else Q (.bl false) H3)
theorem mS {op op':CmpOp} {r r':R2} (ho:uA X (compareOp op) r) (ho':uA X (compareOp op') r') (ha:PE X a ta) (hb:PE X b tb) (hc:PE X c tc)
  (hm:lastMarks [op,op'] [b,c]=false:=by with_unfolding_all rfl):PE X (.Compare a [op,op'] [b,c] pos) (Ib r r' ta tb tc):=by
 intro pins s σ H Q I h
 refine Compare_chain (cV (ha pins s σ H _ I h) fun v s1 ⟨x,H1,I1,r1,q1⟩=>chain_link (cV (hb pins s1 σ H1 _ I1 q1) fun u s2 ⟨y,H2,I2,r2,q2⟩=>
  cV (ho pins s2 σ H2 x y v u _ I2 r1 r2 q2) fun d s3 ⟨z,H3,I3,r3,k,e,q3⟩=>?_)) hm
 subst e
 cases r3
 refine wpAny_truthy_bool ?_
 cases k with
 |false=>exact ite_ff ⟨.bl false,H3,I3,rfl,q3⟩
 |true=>exact ite_tt (chain_last (cV (hc pins s3 σ H3 _ I3 q3) fun w' s4 ⟨z',H4,I4,r4,q4⟩=>ho' pins s4 σ H4 y z' u w' Q I4 r2 r4 q4))
theorem Qe {op op':CmpOp} {r r':R2} (ho:uA X (compareOp op) r) (ho':uA X (compareOp op') r') (ha:PE X a ta) (hb:PE X b tb) (hc:PE X c tc)
  (hm:lastMarks [op,op'] [b,c]=false:=by with_unfolding_all rfl):PT X (.Compare a [op,op'] [b,c] pos) (Td (Ib r r' ta tb tc)):=by
 intro pins s σ H Q I h
 refine isTrue_chain (cV (ha pins s σ H _ I h) fun v s1 ⟨x,H1,I1,r1,q1⟩=>test_link (cV (hb pins s1 σ H1 _ I1 q1) fun u s2 ⟨y,H2,I2,r2,q2⟩=>
  cV (ho pins s2 σ H2 x y v u _ I2 r1 r2 q2) fun d s3 ⟨z,H3,I3,r3,k,e,q3⟩=>?_)) hm
 subst e
 cases r3
 refine wpAny_truthy_bool ?_
 cases k with
 |false=>
  obtain ⟨k',e',q'⟩:=q3
  cases e'
  exact ite_ff ⟨H3,I3,q'⟩
 |true=>
  refine ite_tt (test_last (cV (hc pins s3 σ H3 _ I3 q3) fun w' s4 ⟨z',H4,I4,r4,q4⟩=>cV (ho' pins s4 σ H4 y z' u w' _ I4 r2 r4 q4) fun d' s5 ⟨z2,H5,I5,r5,k2,e2,q5⟩=>?_))
  subst e2
  cases r5
  exact wpAny_truthy_bool ⟨H5,I5,q5⟩
theorem Gr:(sizeLine:Nat)<2 ^ 63:=by rw [sizeLine_eq];decide
theorem xO {x:V} {us:List Value} (r:bS [x] us):∃ u,us=[u]/\cD x u:=by
 cases r with
 |cons r1 r2=>cases r2;exact ⟨_,rfl,r1⟩
theorem xP:mK X (.builtin "ord") (fun xs H Q=>∃ x,xs=[.str x]/\x.length=1/\Q (.int (x.cps.getD 0 0:Nat)) H):=by
 intro pins s σ H xs us Q I r h
 obtain ⟨x,rfl,hz,q⟩:=h
 obtain ⟨u,rfl,t,rfl⟩:=xO r
 exact ord_of_one hz ⟨.int _,H,I.tok _,⟨_,rfl⟩,q⟩
end
structure Gu (h:Heap) (x dx C:Addr) (mA:Str->Option Value):Prop where
 obj:h.get? x=some (PySem.W.instObj C dx)
 ns:h.Ns1 dx mA
 ne:dx≠x
theorem Nr {h:Heap} {dx:Addr} {mA:Str->Option Value} (n:h.Ns1 dx mA):∃ od,h.get? dx=some od/\∀ name,PySem.W.lookIn name od=some (mA name):=by
 obtain ⟨o,es,ep,ho,hd,hk,_,hm⟩:=n
 refine ⟨o,ho,fun name=>?_⟩
 have e:=hm name
 unfold nsFind findBy at e
 rw [<-Array.find?_toList] at e
 unfold PySem.W.lookIn
 rw [hd]
 dsimp only
 split
 ·rename_i y q
  rw [q] at e
  exact congrArg some e
 ·rename_i q
  rw [q] at e
  have a:es.toList.any (·.refKey)=false:=by
   rw [List.any_eq_false]
   intro y hy
   obtain ⟨z,t,hkey⟩:=hk y (Array.mem_toList_iff.mp hy)
   simp [DictEntry.refKey,hkey]
  have a':¬es.toList.any (·.refKey)=true:=by rw [a];exact Bool.false_ne_true
  rw [if_neg a']
  exact congrArg some e
theorem Gu.look {h:Heap} {x dx C:Addr} {mA:Str->Option Value} (I:Gu h x dx C mA):∃ od,PySem.W.InstAt h x (PySem.W.instObj C dx) C (some od)/\∀ name,PySem.W.lookIn name od=some (mA name):=
 let ⟨od,ho,hl⟩:=Nr I.ns
 ⟨od,⟨I.obj,rfl,rfl,ho⟩,hl⟩
section
variable {prog:Program} {w:World} {A:Around} {E:Value->Shared->Prop} {s:Shared} {K:PySem.W.Frag} {x dx C f:Addr} {mA:Str->Option Value} {name:Str} {v:Value}
theorem Ua {expr:Bool} {Q:Value->Shared->Prop} (X:K.In s.heap) (I:Gu s.heap x dx C mA) (hg:PySem.W.plainGet K C name=true) (hh:PySem.W.hasDictIn K C=true)
  (ha:PySem.W.findIn K (.ref C) name=some none) (hv:mA name=some v) (hv':PySem.W.handedIn v=true) (h:Q v {s with toks:=s.toks+1}):
  wpAny (model prog w) A (getAttr (.ref x) name expr) Q E s:=by
 obtain ⟨od,J,hl⟩:=I.look
 exact PySem.W.get_value X J (PySem.W.plainGet_of hg).1 (PySem.W.findObj_own hh ha rfl (by rw [hl,hv])) hv' h
theorem Rr {pl:Sem Bool} {Q:Value×List Value->Shared->Prop} (X:K.In s.heap) (I:Gu s.heap x dx C mA) (hg:PySem.W.plainGet K C name=true)
  (hf:PySem.W.findIn K (.ref C) name=some (some (.ref f))) (ht:PySem.W.isFn K (.ref f)=true) (hv:mA name=none) (h:Q (.ref f,[.ref x]) s):
  wpAny (model prog w) A (getMethod (.ref x) name pl) Q E s:=by
 obtain ⟨od,J,hl⟩:=I.look
 exact PySem.W.method_fn X J (PySem.W.plainGet_of hg).1 (PySem.W.plainGet_of hg).2 hf (beq_iff_eq.mp ht) (by show (PySem.W.lookIn name od).map (·.isSome)=some false;rw [hl,hv];rfl) h
theorem We {ns:List Str} {Q:Unit->Shared->Prop} (X:K.In s.heap) (I:Gu s.heap x dx C mA)
  (hs:PySem.W.findIn K (.ref C) "__setattr__"=some (some (.builtin "object.__setattr__"))) (hp:PySem.W.plainOver K C=true) (ht:PySem.W.takerIn K C name=some none) (hh:PySem.W.hasDictIn K C=true)
  (hw:PySem.Within mA ns) (hsz:ns.length<=sizeLine)
  (h:∀ h',Gu h' x dx C (fun y=>if y=name then some v else mA y)->Heap.SameBut dx s.heap h'->Q () {s with heap:=h',toks:=s.toks+2}):
  wpAny (model prog w) A (setAttr (.ref x) name v) Q E s:=by
 obtain ⟨od,J,hl⟩:=I.look
 refine PySem.W.set_plain X J hs (PySem.W.osa_open (s:={s with toks:=s.toks+1}) (r:=none) X J hp ht fun b=>?_)
 obtain ⟨cd,hc,hd'⟩:=PySem.W.any_some hh
 have hx:s.heap.get? x=some ⟨.ref C,some dx,.plain,#[]⟩:=I.obj
 refine wpAny_bind (wpAny_pure (wpAny_bind (wpAny_bind (wpAny_loadPart hx (wpAny_bind (PySem.W.Looks.here (s:={s with toks:=s.toks+1}) (PySem.W.looks_clsIn X hc) ?_))))))
 rw [hd']
 refine wpAny_pure (a:=some dx) (wpAny_bind (wpAny_pure (wpAny_bind ?_)))
 refine wpAny_nsSet1 (s:={s with toks:=s.toks+1}) I.ns fun h' hn2 hs2=>?_
 obtain ⟨oD,esD,epD,hoD,hdD,hcD⟩:=hn2.count (PySem.Within.cons name v hw)
 refine wpAny_bind (wpAny_lookBehind hoD (by rw [hdD];exact pastItsLine_dict (Nat.le_trans hcD (by rw [List.length_cons];omega))) ?_)
 exact wpAny_pure (h _ ⟨(hs2.2 _ (Ne.symm I.ne)).trans I.obj,hn2,I.ne⟩ hs2)
theorem Fp {R:Result->Shared->Prop} {vs:List Value} {kw:List (Str×Value)} (X:K.In s.heap) (hm:PySem.W.makesIn K C=true)
  (hi:PySem.W.findIn K (.ref C) "__init__"=some (some (.ref f))) (hf:PySem.W.typeIn K (.ref f)=some (.type "function"))
  (h:codeAny (model prog w) (A.under (.builtin "type.__call__" ⟨.ref C::vs,kw⟩)) (.call (.ref f) ⟨.ref (s.heap.objs.size+1)::vs,kw⟩) (PySem.W.InitBack (s.heap.objs.size+1) R)
   {s with heap:=(s.heap.push PySem.W.emptyDict).push (PySem.W.instObj C s.heap.objs.size)}):
  codeAny (model prog w) A (.call (.ref C) ⟨vs,kw⟩) R s:=by
 obtain ⟨hh,g,d,t,os⟩:=s
 exact PySem.W.make_core (PySem.W.makes_of X hm) (PySem.W.looks_findIn X hi) (fun self=>PySem.W.bind_fn X self hf) (.inl rfl) h
end
def lZ (f:Str) (v:V):List (Str×V)->List (Str×V)
 |[]=>[(f,v)]
 |(g,x)::r=>if g=f then (g,v)::r else (g,x)::lZ f v r
theorem mU (f g:Str) (v:V):∀ fs:List (Str×V),(lZ f v fs).lookup g=if g=f then some v else fs.lookup g
 |[]=>by
  show List.lookup g [(f,v)]=_
  by_cases h:g=f
  ·have hb:(g==f)=true:=beq_iff_eq.mpr h
   simp only [List.lookup,hb,if_pos h]
  ·have hb:(g==f)=false:=beq_eq_false_iff_ne.mpr h
   simp only [List.lookup,hb,if_neg h]
 |(k,x)::r=>by
  have ih:=mU f g v r
  rw [show lZ f v ((k,x)::r)=(if k=f then (k,v)::r else (k,x)::lZ f v r) from rfl]
  by_cases hk:k=f
  ·rw [if_pos hk]
   by_cases h:g=k
   ·have hb:(g==k)=true:=beq_iff_eq.mpr h
    simp only [List.lookup,hb,if_pos (h.trans hk)]
   ·have hb:(g==k)=false:=beq_eq_false_iff_ne.mpr h
    simp only [List.lookup,hb,if_neg (fun e:g=f=>h (e.trans hk.symm))]
  ·rw [if_neg hk]
   by_cases h:g=k
   ·have hb:(g==k)=true:=beq_iff_eq.mpr h
    simp only [List.lookup,hb,if_neg (fun e:g=f=>hk (h.symm.trans e))]
   ·have hb:(g==k)=false:=beq_eq_false_iff_ne.mpr h
    simp only [List.lookup,hb]
    exact ih
theorem sN (f:Str) (v:V):∀ fs:List (Str×V),f∈(lZ f v fs).map (·.1)/\∀ g,g∈fs.map (·.1)->g∈(lZ f v fs).map (·.1)
 |[]=>⟨by simp [lZ],fun g h=>by simp at h⟩
 |(k,x)::r=>by
  obtain ⟨i1,i2⟩:=sN f v r
  rw [show lZ f v ((k,x)::r)=(if k=f then (k,v)::r else (k,x)::lZ f v r) from rfl]
  by_cases hk:k=f
  ·rw [if_pos hk]
   subst hk
   exact ⟨by simp,fun g h=>by simpa using h⟩
  ·rw [if_neg hk]
   refine ⟨?_,fun g h=>?_⟩
   ·rw [List.map_cons]
    exact List.mem_cons_of_mem _ i1
   ·rw [List.map_cons] at h ⊢
    rcases List.mem_cons.mp h with e|e
    ·exact List.mem_cons.mpr (.inl e)
    ·exact List.mem_cons_of_mem _ (i2 g e)
theorem tP (f:Str) (v:V):∀ fs:List (Str×V),(lZ f v fs).length<=fs.length+1
 |[]=>by simp [lZ]
 |(k,x)::r=>by
  have ih:=tP f v r
  rw [show lZ f v ((k,x)::r)=(if k=f then (k,v)::r else (k,x)::lZ f v r) from rfl]
  by_cases hk:k=f
  ·rw [if_pos hk,List.length_cons,List.length_cons];omega
  ·rw [if_neg hk,List.length_cons,List.length_cons];omega
theorem lC.some_of {v:V} {o:Option Value} (r:lC (some v) o):∃ u,o=some u/\cD v u:=by
 cases o with
 |none=>exact (show False from r).elim
 |some u=>exact ⟨u,rfl,r⟩
theorem lC.none_of {o:Option Value} (r:lC none o):o=none:=by
 cases o with
 |none=>rfl
 |some u=>exact (show False from r).elim
theorem Mx {v:V} {u:Value} (r:cD v u):PySem.W.handedIn u=true:=by
 cases v with
 |non=>cases (show u=Value.none from r);rfl
 |bl b=>cases (show u=Value.bool b from r);rfl
 |int i=>obtain ⟨t,e⟩:=(show ∃ t,u=Value.int i t from r);cases e;rfl
 |str x=>obtain ⟨t,e⟩:=(show ∃ t,u=Value.str x t from r);cases e;rfl
 |byt b=>obtain ⟨t,e⟩:=(show ∃ t,u=Value.bytes b t from r);cases e;rfl
 |flt b=>obtain ⟨t,e⟩:=(show ∃ t,u=Value.float b t from r);cases e;rfl
 |ref a=>cases (show u=Value.ref a from r);rfl
 |ty n=>cases (show u=Value.type n from r);rfl
section
variable {P:Program} {w:World} {H H':Hp} {h h':Heap} {a C dx:Addr} {fs fs':List (Str×V)}
theorem Ce (hok:kR P w H h) (e:H a=some (.ins C dx fs)):∃ mA,Gu h a dx C mA/\(∀ f,lC (fs.lookup f) (mA f))/\PySem.Within mA (fs.map (·.1))/\fs.length<=1000/\H dx=some (.own a):=by
 obtain ⟨d,z,ne,ob,mA,n,r,q⟩:=(show cK P w H h a (.ins C dx fs) from hok a _ e)
 exact ⟨mA,⟨ob,n,ne⟩,r,q,z,d⟩
end
structure Gk (K:PySem.W.Frag) (C:Addr):Prop where
 pg:PySem.W.plainGet K C Str.empty=true
 hd:PySem.W.hasDictIn K C=true
 po:PySem.W.plainOver K C=true
 sa:PySem.W.findIn K (.ref C) "__setattr__"=some (some (.builtin "object.__setattr__"))
theorem Gk.get {K:PySem.W.Frag} {C:Addr} (c:Gk K C) (f:Str):PySem.W.plainGet K C f=true:=c.pg
def dF (K:PySem.W.Frag) (C:Addr) (f:Str):Prop:=PySem.W.findIn K (.ref C) f=some none
theorem dF.taker {K:PySem.W.Frag} {C:Addr} {f:Str} (n:dF K C f):PySem.W.takerIn K C f=some none:=by
 unfold PySem.W.takerIn
 rw [show PySem.W.findIn K (.ref C) f=some none from n]
 rfl
structure Wn (K:PySem.W.Frag) (C:Addr) (m:Str) (f:Addr):Prop where
 at_:PySem.W.findIn K (.ref C) m=some (some (.ref f))
 fn:PySem.W.isFn K (.ref f)=true
 kp:PySem.W.keepIn K (.ref f)=true
section
variable {X:Cx} {pins:List (Addr×Obj)} {σ:St} {H:Hp} {s:Shared} {a C dx:Addr} {fs:List (Str×V)} {f:Str} {v:V} {A:Around} {E:Value->Shared->Prop}
theorem wX {b:Bool} {Q:Value->Shared->Prop} (I:aQ X pins σ H s) (e:H a=some (.ins C dx fs)) (c:Gk X.K C) (n:dF X.K C f) (l:fs.lookup f=some v)
  (h:∀ u s',aQ X pins σ H s'->cD v u->Q u s'):wpAny (model X.prog X.w) A (getAttr (.ref a) f b) Q E s:=by
 obtain ⟨mA,O,r,_,_,_⟩:=Ce I.hok e
 obtain ⟨u,hu,ru⟩:=lC.some_of (v:=v) (o:=mA f) (by rw [<-l];exact r f)
 exact Ua I.kIn O (c.get f) c.hd n hu (Mx ru) (h u _ (I.tok _) ru)
theorem wZ {m:Str} {g:Addr} {pl:Sem Bool} {Q:Value×List Value->Shared->Prop} (I:aQ X pins σ H s) (e:H a=some (.ins C dx fs)) (c:Gk X.K C) (k:Wn X.K C m g) (l:fs.lookup m=none)
  (h:Q (.ref g,[.ref a]) s):wpAny (model X.prog X.w) A (getMethod (.ref a) m pl) Q E s:=by
 obtain ⟨mA,O,r,_,_,_⟩:=Ce I.hok e
 have hn:mA m=none:=lC.none_of (by rw [<-l];exact r m)
 exact Rr I.kIn O (c.get m) k.at_ k.fn hn h
theorem wW {y:V} {u:Value} {Q:Unit->Shared->Prop} (I:aQ X pins σ H s) (e:H a=some (.ins C dx fs)) (c:Gk X.K C) (n:dF X.K C f) (hl:fs.length<1000) (ry:cD y u)
  (h:∀ s',aQ X pins σ (upd H a (.ins C dx (lZ f y fs))) s'->Q () s'):wpAny (model X.prog X.w) A (setAttr (.ref a) f u) Q E s:=by
 obtain ⟨mA,O,r,wi,_,ho⟩:=Ce I.hok e
 have hz:(fs.map (·.1)).length<=sizeLine:=by rw [List.length_map,sizeLine_eq];omega
 refine We I.kIn O c.sa c.po n.taker c.hd wi hz fun h' O' sb=>h _ ?_
 have hd:∃ o,h'.get? dx=some o:=let ⟨o,_,_,e',_⟩:=O'.ns;⟨o,e'⟩
 refine I.write (x:=a) (e:=dx) (by rw [e];exact True.intro) (.inr ho) (fun b q hb z=>(sb.2 b hb).trans z) hd ?_
 refine ⟨by rw [aC O.ne];exact ho,?_,O.ne,O'.obj,_,O'.ns,fun g=>?_,fun g hg=>?_⟩
 ·have:=tP f y fs;omega
 ·show lC ((lZ f y fs).lookup g) (if g=f then some u else mA g)
  rw [mU]
  by_cases q:g=f
  ·rw [if_pos q,if_pos q];exact ry
  ·rw [if_neg q,if_neg q];exact r g
 ·by_cases q:g=f
  ·rw [q];exact (sN f y fs).1
  ·refine (sN f y fs).2 g (wi g fun z=>hg ?_)
   show (if g=f then some u else mA g)=none
   rw [if_neg q];exact z
theorem aQ.made (I:aQ X pins σ H s):aQ X pins σ (upd (upd H s.heap.objs.size (.own (s.heap.objs.size+1))) (s.heap.objs.size+1) (.ins C s.heap.objs.size []))
  {s with heap:=(s.heap.push PySem.W.emptyDict).push (PySem.W.instObj C s.heap.objs.size)}:=by
 have e1:(s.heap.push PySem.W.emptyDict).get? s.heap.objs.size=some PySem.W.emptyDict:=Heap.get?_push_size s.heap rfl
 have e2:((s.heap.push PySem.W.emptyDict).push (PySem.W.instObj C s.heap.objs.size)).get? (s.heap.objs.size+1)=some (PySem.W.instObj C s.heap.objs.size):=by
  have:=Heap.get?_push_size (s.heap.push PySem.W.emptyDict) (o:=PySem.W.instObj C s.heap.objs.size) rfl
  rwa [Heap.size_push] at this
 have e3:(s.heap.push PySem.W.emptyDict).Ns s.heap.objs.size (fun _=>none):=⟨PySem.W.emptyDict,#[],_,e1,rfl,(fun e he=>absurd he (by simp)),fun _=>rfl⟩
 have I1:=I.laid (a:=s.heap.objs.size) (o:=.own (s.heap.objs.size+1)) (h':=s.heap.push PySem.W.emptyDict) (t':=s.toks) (fun b u q=>Heap.get?_push_of_some _ q) (Nat.le_refl _) ⟨_,e1⟩
 refine I1.laid (a:=s.heap.objs.size+1) (o:=.ins C s.heap.objs.size []) (t':=s.toks) (fun b u q=>Heap.get?_push_of_some _ q) (Nat.le_of_eq (Heap.size_push _ _)) ?_
 have ne:s.heap.objs.size≠s.heap.objs.size+1:=Nat.ne_of_lt (Nat.lt_succ_self _)
 refine ⟨by rw [aC ne,aB],Nat.zero_le _,ne,e2,fun _=>none,(Heap.Ns1.of_empty e3).at fun o q=>Heap.get?_push_of_some _ q,fun _=>True.intro,fun y hy=>absurd rfl hy⟩
theorem Kx {prog:Program} {w:World} {env:Env} {e:Expr} {f:Str} {pos:Pos} {s:Shared} {Q:Value->Shared->Prop} (hb:attributeBase e f env (eval e env)=eval e env)
  (h:wpAny (model prog w) A (eval e env) (fun o s₁=>wpAny (model prog w) A (getAttr o f true) Q E s₁) E s):wpAny (model prog w) A (eval (.Attribute e f pos) env) Q E s:=
 Attribute_any_ h (by rw [arm_eval_Attribute,hb])
end
def Tp (K:PySem.W.Frag) (ta:TE) (f:Str):TE:=fun σ H Q=>ta σ H fun x H1=>∃ a C dx fs v,x=.ref a/\H1 a=some (.ins C dx fs)/\Gk K C/\dF K C f/\fs.lookup f=some v/\Q v H1
def aAn (K:PySem.W.Frag) (ta tv:TE) (f:Str):TS:=fun D σ H=>tv σ H fun y H1=>ta σ H1 fun x H2=>∃ a C dx fs,x=.ref a/\H2 a=some (.ins C dx fs)/\Gk K C/\dF K C f/\fs.length<1000/\
 D.nx σ (upd H2 a (.ins C dx (lZ f y fs)))
def aBf (X:Cx) (op:Operator) (rd:V->V->Hp->VK->Prop):Prop:=
 ∀ (pins:List (Addr×Obj)) (s:Shared) (σ:St) (H:Hp) (x y:V) (u v:Value) (Q:VK),aQ X pins σ H s->cD x u->cD y v->rd x y H Q->wpAny (model X.prog X.w) X.A (inplaceOp op u v) (EP X pins σ Q) X.xe s
def Us (K:PySem.W.Frag) (ta tv:TE) (rd:V->V->Hp->VK->Prop) (f:Str):TS:=fun D σ H=>ta σ H fun x H1=>∃ a C dx fs v,x=.ref a/\H1 a=some (.ins C dx fs)/\Gk K C/\dF K C f/\fs.lookup f=some v/\
 tv σ H1 fun y H2=>rd v y H2 fun z H3=>∃ dx' fs',H3 a=some (.ins C dx' fs')/\fs'.length<1000/\D.nx σ (upd H3 a (.ins C dx' (lZ f z fs')))
section
variable {X:Cx} {o e value:Expr} {f:Str} {pos pos' tpos:Pos} {ta tv:TE}
theorem aT (he:PE X e ta) (hb:attributeBase e f X.env (eval e X.env)=eval e X.env):PE X (.Attribute e f pos) (Tp X.K ta f):=by
 intro pins s σ H Q I h
 refine Kx hb (cV (he pins s σ H _ I h) fun u s1 ⟨x,H1,I1,rx,a,C,dx,fs,v,ex,ea,c,n,l,q⟩=>?_)
 subst ex
 obtain rfl:u=Value.ref a:=rx
 exact wX I1 ea c n l fun u' s2 I2 ru=>⟨v,H1,I2,ru,q⟩
theorem dX (ha:PE X o ta) (hv:PE X value tv) (hs:swapsWith value (some (.Attribute o f pos')) pos.line X.env=pure false):PS X (.Assign [.Attribute o f pos'] value pos) (aAn X.K ta tv f):=by
 intro pins s σ H D I h
 refine plainObj_wpAny_Assign_Attribute (cV (hv pins s σ H _ I h) fun u s1 ⟨y,H1,I1,ry,q⟩=>cV (ha pins s1 σ H1 _ I1 q) fun ov s2 ⟨x,H2,I2,rx,a,C,dx,fs,ex,ea,c,n,l,q2⟩=>?_) hs
 subst ex
 obtain rfl:ov=Value.ref a:=rx
 exact wW I2 ea c n l ry fun s3 I3=>⟨σ,_,I3,q2⟩
theorem Ly {op:Operator} {rd:V->V->Hp->VK->Prop} (ha:PE X o ta) (hv:PE X value tv) (hop:aBf X op rd):PS X (.AugAssign (.Attribute o f tpos) op value pos) (Us X.K ta tv rd f):=by
 intro pins s σ H D I h
 refine wpAny_AugAssign_AttributeAny (cV (ha pins s σ H _ I h) fun ov s1 ⟨x,H1,I1,rx,a,C,dx,fs,v,ex,ea,c,n,l,q⟩=>?_)
 subst ex
 obtain rfl:ov=Value.ref a:=rx
 refine wX I1 ea c n l fun u s2 I2 ru=>cV (hv pins s2 σ H1 _ I2 q) fun w3 s3 ⟨y,H2,I3,ry,q3⟩=>cV (hop pins s3 σ H2 v y u w3 _ I3 ru ry q3) fun w4 s4 ⟨z,H3,I4,rz,dx',fs',ea',l',q4⟩=>?_
 exact wW I4 ea' c n l' rz fun s5 I5=>⟨σ,_,I5,q4⟩
def aC0:V->V->Hp->VK->Prop:=fun x y H Q=>∃ i j,x=.int i/\y=.int j/\Q (.int (i+j)) H
theorem Zt:aBf X .Add aC0:=by
 rintro pins s σ H x y u v Q I rx ry ⟨i,j,rfl,rfl,q⟩
 obtain ⟨t,rfl⟩:=(show ∃ t,u=Value.int i t from rx)
 obtain ⟨t',rfl⟩:=(show ∃ t',v=Value.int j t' from ry)
 exact PyProof.Rows.iadd_int ⟨.int (i+j),H,I.tok _,⟨_,rfl⟩,q⟩
end
section
variable {X:Cx} {pins:List (Addr×Obj)} {σ:St} {H:Hp} {s:Shared} {A:Around} {E:Value->Shared->Prop} {Q:Value->Shared->Prop} {c:Value} {b:Bool}
end
structure fY (k:Nat) (A:Around):Prop where
 hd:A.handled=none
 dp:A.depth+3 * k+5<recursionLimit
 un:A.units+16 * k+200<cLine
theorem fY.mono {j k:Nat} {A:Around} (r:fY k A) (h:j<=k):fY j A:=⟨r.hd,by have:=r.dp;omega,by have:=r.un;omega⟩
theorem fY.deeper {k:Nat} {A:Around} (r:fY (k+1) A) (env:Env):fY k (A.deeper env):=
 ⟨r.hd,by have:=r.dp;show A.depth+1+3 * k+5<_;omega,by have:=r.un;show A.units+3+16 * k+200<_;omega⟩
theorem wB {A:Around} {C:Addr} {us:List Value} {kw:List (Str×Value)}:(A.under (.builtin "type.__call__" ⟨.ref C::us,kw⟩)).depth=A.depth+1:=by
 first|rfl|simp [Around.under,Code.weight,Code.isCreation,Code.isGuard,Code.isCaller,Code.frames,Code.isFrame,guardIds]
theorem xF {A:Around} {C:Addr} {us:List Value} {kw:List (Str×Value)}:(A.under (.builtin "type.__call__" ⟨.ref C::us,kw⟩)).units=A.units+1:=by
 first|rfl|simp [Around.under,Code.cUnits,Code.frames,Code.isFrame]
theorem fY.make {k:Nat} {A:Around} (r:fY (k+1) A) (C:Addr) (us:List Value) (kw:List (Str×Value)):fY k (A.under (.builtin "type.__call__" ⟨.ref C::us,kw⟩)):=
 ⟨r.hd,by have:=r.dp;rw [wB];omega,by have:=r.un;rw [xF];omega⟩
theorem fY.depth {k:Nat} {A:Around} (r:fY k A):A.depth<recursionLimit:=by have:=r.dp;omega
theorem fY.units {k:Nat} {A:Around} (r:fY k A):A.units+64<cLine:=by have:=r.un;omega
def gR:TA:=fun _ H Q=>Q [] H
def dO (ta:TE) (tr:TA):TA:=fun σ H Q=>ta σ H fun x H1=>tr σ H1 fun xs H2=>Q (x::xs) H2
section
variable {X:Cx} {e:Expr} {es:List Expr} {te:TE} {t:TA} {pos:Pos}
theorem aE:PA X [] gR:=fun _ _ _ _ H Q I h=>Calls.spliced_nil ⟨[],H,I,.nil,h⟩
theorem aA (ha:PE X e te) (hr:PA X es t) (hs:starEach (e::es) X.env=(false,eval e X.env)::starEach es X.env:=by rfl):PA X (e::es) (dO te t):=by
 intro pos pins s σ H Q I h
 rw [hs]
 show wpAny _ _ (spliced ((false,eval e X.env)::backTo pos (starEach es X.env))) _ _ s
 refine Calls.spliced_cons (cV (ha pins s σ H _ I h) fun u s1 ⟨x,H1,I1,r1,q1⟩=>?_)
 exact cV (hr pos pins s1 σ H1 _ I1 q1) fun us s2 ⟨xs,H2,I2,r2,q2⟩=>⟨x::xs,H2,I2,.cons r1 r2,q2⟩
def Zk (t:TA):TE:=fun σ H Q=>t σ H fun xs H1=>xs.length<=sizeLine/\∀ p,H1 p=none->Q (.ref p) (upd H1 p (.tup xs))
def aC1 (t:TA):TE:=fun σ H Q=>t σ H fun xs H1=>xs.length<=sizeLine/\∀ p,H1 p=none->Q (.ref p) (upd H1 p (.lst xs))
theorem eJ {x1} (h:PA X es t):PE X (.Tuple es x1 pos) (Zk t):=by
 intro pins s σ H Q I hq
 refine wpAny_Tuple_spliced (cV (h pos pins s σ H _ I hq) fun us s1 ⟨xs,H1,I1,r,z,q⟩=>⟨by rw [<-r.length];exact z,?_⟩)
 have hf:H1 s1.heap.objs.size=none:=I1.hok.fresh (Nat.le_refl _)
 refine ⟨.ref s1.heap.objs.size,upd H1 s1.heap.objs.size (.tup xs),I1.laid (t':=s1.toks) (fun b u e=>Heap.get?_push_of_some _ e) (Nat.le_refl _) ?_,rfl,q _ hf⟩
 exact ⟨z,us,r,⟨_,Heap.get?_push_size _ rfl,rfl,_,rfl⟩⟩
theorem eE (h:PA X es t):PE X (.List es pos) (aC1 t):=by
 intro pins s σ H Q I hq
 refine wpAny_List_spliced (cV (h pos pins s σ H _ I hq) fun us s1 ⟨xs,H1,I1,r,z,q⟩=>⟨by rw [<-r.length];exact z,?_⟩)
 have hf:H1 s1.heap.objs.size=none:=I1.hok.fresh (Nat.le_refl _)
 refine ⟨.ref s1.heap.objs.size,upd H1 s1.heap.objs.size (.lst xs),I1.laid (t':=s1.toks) (fun b u e=>Heap.get?_push_of_some _ e) (Nat.le_refl _) ?_,rfl,q _ hf⟩
 exact ⟨z,us,0,r,Heap.get?_push_size _ rfl⟩
end
abbrev Sp:=List V->Hp->VK->XK->Prop
abbrev Gm:=List Env->Hp->Shared->XK->Value->Shared->Prop
structure Do (P:Program) (w:World) (K:PySem.W.Frag) (mg:Str->Option Value) (base:Heap) (A:Around) (outer:List Env) (s:Shared) (H:Hp):Prop where
 frames:A.frames=some outer
 mod:Mod K mg base
 bs:∀ b o,base.get? b=some o->s.heap.get? b=some o/\H b=none
 bsz:base.objs.size<=s.heap.objs.size
 funs:s.heap.FunFrames base outer
 frf:∀ b∈An outer,H b=none
 hok:kR P w H s.heap
 bare:AllBare s.gens
def CE (outer:List Env) (P:Program) (w:World) (H:Hp) (s:Shared) (Q:VK) (u:Value) (s':Shared):Prop:=
 ∃ v H',s'.os=s.os/\AllBare s'.gens/\Un (An outer) [] H H' s.heap s'.heap/\kR P w H' s'.heap/\cD v u/\Q v H'
def CR (CX:Gm) (outer:List Env) (P:Program) (w:World) (H:Hp) (s:Shared) (Q:VK) (E:XK) (r:Result) (s':Shared):Prop:=
 match r with
 |.ok (.ret u)=>CE outer P w H s Q u s'
 |.ok _=>False
 |.error e=>CX outer H s E e s'
structure bV (P:Program) (w:World) (K:PySem.W.Frag) (mg:Str->Option Value) (base:Heap) (CX:Gm) (k:Nat) (f:Addr) (fd:FuncData) (ps:List Str) (sp:Sp):Prop where
 len:∀ vs H Q E,sp vs H Q E->vs.length=ps.length
 run:∀ (A:Around) (outer:List Env) (s:Shared) (H:Hp) (args:Args) (us:List Value) (vs:List V) (Q:VK) (E:XK),fY k A->Do P w K mg base A outer s H->BindsTo s fd args (ps.zip us)->bS vs us->sp vs H Q E->
  codeAny (model P w) A (.call (.ref f) args) (CR CX outer P w H s Q E) s
theorem Do.make {P:Program} {w:World} {K:PySem.W.Frag} {mg:Str->Option Value} {base:Heap} {A:Around} {outer:List Env} {s:Shared} {H:Hp} (e:Do P w K mg base A outer s H) (C:Addr) (us:List Value) (kw:List (Str×Value)):
  Do P w K mg base (A.under (.builtin "type.__call__" ⟨.ref C::us,kw⟩)) outer s H:=⟨by first|exact e.frames|(simpa [Around.under,Code.envs,Code.isFrame,pushEnvs] using e.frames),e.mod,e.bs,e.bsz,e.funs,e.frf,e.hok,e.bare⟩
section
variable {X:Cx} {pins:List (Addr×Obj)} {σ:St} {H:Hp} {s s':Shared}
theorem aQ.env0 (I:aQ X pins σ H s):Do X.prog X.w X.K X.mg X.base X.A X.stack s H:=
 ⟨I.ok.frames,I.ok.mod,I.bs,Nat.le_trans I.ok.bsz I.sz,I.stack,I.stkFree,I.hok,I.bare⟩
theorem aQ.after {Q:VK} {u:Value} (I:aQ X pins σ H s) (h:CE X.stack X.prog X.w H s Q u s'):EP X pins σ Q u s':=by
 obtain ⟨v,H',os,bare,un,hok,r,q⟩:=h
 obtain ⟨hh,g,d,t,os'⟩:=s'
 obtain rfl:os'=s.os:=os
 exact ⟨v,H',I.call (h':=hh) (g':=g) (d':=d) (t':=t) (ch:=[]) un hok bare (fun b z=>absurd z (by simp)),r,q⟩
end
def zF (sp:Sp) (dvs:List V) (E:XK) (t:TA):TE:=fun σ H Q=>t σ H fun vs H1=>sp (vs++dvs) H1 Q E
def mF (C:Addr) (m:Str) (sp:Sp) (dvs:List V) (E:XK) (ta:TE) (t:TA):TE:=fun σ H Q=>ta σ H fun x H1=>∃ a dx fs,x=.ref a/\H1 a=some (.ins C dx fs)/\fs.lookup m=none/\
 t σ H1 fun vs H2=>sp (x::(vs++dvs)) H2 Q E
def Kl (C:Addr) (sp:Sp) (dvs:List V) (E:XK) (t:TA):TE:=fun σ H Q=>t σ H fun vs H1=>∀ x dx,H1 x=none->H1 dx=none->dx≠x->
 sp (.ref x::(vs++dvs)) (upd (upd H1 dx (.own x)) x (.ins C dx [])) (fun v H2=>v=.non/\Q (.ref x) H2) E
def fF (K:PySem.W.Frag) (fd:FuncData) (ps:List Str) (ds:List Value):Prop:=
 ∀ (s:Shared) (us:List Value),K.In s.heap->(us++ds).length=ps.length->BindsTo s fd ⟨us,[]⟩ (ps.zip (us++ds))
theorem fF.all {K:PySem.W.Frag} {fd:FuncData} {ps:List Str} (h:∀ us:List Value,us.length=ps.length->bindArgs fd ⟨us,[]⟩=pure (ps.zip us)):fF K fd ps []:=fun s us _ hl=>by
 rw [List.append_nil] at hl ⊢
 exact .of_eq (h us hl)
def iR (CX:Gm) (X:Cx) (E:XK):Prop:=∀ (pins:List (Addr×Obj)) (σ:St) (H:Hp) (s:Shared) (e:Value) (s':Shared),aQ X pins σ H s->CX X.stack H s E e s'->X.xe e s'
section
variable {X:Cx} {CX:Gm} {k:Nat} {f C:Addr} {fd:FuncData} {ps:List Str} {sp:Sp} {dvs:List V} {ds:List Value} {E:XK} {x m:Str} {p pos apos:Pos} {e o:Expr} {es:List Expr} {ta:TE} {t:TA}
theorem Hd {pins:List (Addr×Obj)} {σ:St} {H:Hp} {s:Shared} {Q:VK} {us:List Value} {vs:List V} (F:bV X.prog X.w X.K X.mg X.base CX k f fd ps sp) (hr:fY k X.A) (hb:fF X.K fd ps ds) (hd:bS dvs ds) (hx:iR CX X E)
  (I:aQ X pins σ H s) (r:bS vs us) (h:sp (vs++dvs) H Q E):wpAny (model X.prog X.w) X.A (call (.ref f) us) (EP X pins σ Q) X.xe s:=by
 have r2:bS (vs++dvs) (us++ds):=r.append hd
 have hl:(us++ds).length=ps.length:=by rw [<-r2.length];exact F.len _ _ _ _ h
 refine wpAny_call (codeAny_mono (F.run X.A X.stack s H ⟨us,[]⟩ (us++ds) (vs++dvs) Q E hr I.env0 (hb s us I.kIn hl) r2 h) fun r s' hq=>?_)
 cases r with
 |error e=>exact hx pins σ H s e s' I hq
 |ok fl=>
  cases fl with
  |ret u=>exact I.after hq
  |next=>exact False.elim hq
  |brk=>exact False.elim hq
  |cont=>exact False.elim hq
theorem aP (F:bV X.prog X.w X.K X.mg X.base CX k f fd ps sp) (hr:fY k X.A) (hg:Gl X x) (hm:X.mg x=some (.ref f)) (hk:PySem.W.keepIn X.K (.ref f)=true) (hb:fF X.K fd ps ds) (hd:bS dvs ds) (hx:iR CX X E)
  (ha:PA X (e::es) t) (hdb:(x==("__debug__":Str))=false:=by decide) (he:starEach (e::es) X.env=(false,eval e X.env)::starEach es X.env:=by rfl) (hpl:(backTo pos (starEach es X.env)).any (·.1)=false:=by rfl):
  PE X (.Call (.Name x p) (e::es) [] pos) (zF sp dvs E t):=by
 intro pins s σ H Q I h
 refine wpAny_Call_Name_kw (jD I hg hm ?_ hdb)
 refine PySem.W.callWith_K (h₀:=X.base) I.ok.mod.kin hk (cV (ha pos pins s σ H _ I h) fun us s1 ⟨vs,H1,I1,r,q⟩=>⟨I1.kIn,?_⟩) he hpl
 exact Hd F hr hb hd hx I1 r q
theorem cZ {pl:Sem Bool} (he:PE X o ta) (c:Gk X.K C) (hm:Wn X.K C m f) (F:bV X.prog X.w X.K X.mg X.base CX k f fd ps sp) (hr:fY k X.A) (hb:fF X.K fd ps ds) (hd:bS dvs ds) (hx:iR CX X E) (ha:PA X (e::es) t)
  (hst:starEach (e::es) X.env=(false,eval e X.env)::starEach es X.env:=by rfl) (hpl:(backTo pos (starEach es X.env)).any (·.1)=false:=by rfl)
  (ht:eval (.Call (.Attribute o m apos) (e::es) [] pos) X.env=(do
   let ov <-eval o X.env
   standAt apos.atName
   let (f,first) <-holding [ov] (getMethod ov m pl)
   callWith pos f first (backTo pos (starEach (e::es) X.env)) (backToKw pos (keywordEach [] X.env))):=by rfl):
  PE X (.Call (.Attribute o m apos) (e::es) [] pos) (mF C m sp dvs E ta t):=by
 intro pins s σ H Q I h
 refine PySem.W.methodCall_KW (pl:=pl) (cV (he pins s σ H _ I h) fun u s1 ⟨x,H1,I1,rx,a,dx,fs,ex,ea,l,q⟩=>?_) ht
 subst ex
 obtain rfl:u=Value.ref a:=rx
 refine wZ I1 ea c hm l ?_
 refine PySem.W.callWith_K (first:=[.ref a]) (h₀:=X.base) I.ok.mod.kin hm.kp (cV (ha pos pins s1 σ H1 _ I1 q) fun us s2 ⟨vs,H2,I2,r,q2⟩=>⟨I2.kIn,?_⟩) hst hpl
 exact Hd (us:=.ref a::us) (vs:=.ref a::vs) F hr hb hd hx I2 (.cons rfl r) q2
theorem cG {pl:Sem Bool} (he:PE X o ta) (c:Gk X.K C) (hm:Wn X.K C m f) (F:bV X.prog X.w X.K X.mg X.base CX k f fd ps sp) (hr:fY k X.A) (hb:fF X.K fd ps ds) (hd:bS dvs ds) (hx:iR CX X E)
  (ht:eval (.Call (.Attribute o m apos) [] [] pos) X.env=(do
   let ov <-eval o X.env
   standAt apos.atName
   let (f,first) <-holding [ov] (getMethod ov m pl)
   callWith pos f first (backTo pos (starEach [] X.env)) (backToKw pos (keywordEach [] X.env))):=by rfl):
  PE X (.Call (.Attribute o m apos) [] [] pos) (mF C m sp dvs E ta gR):=by
 intro pins s σ H Q I h
 refine PySem.W.methodCall_KW (pl:=pl) (cV (he pins s σ H _ I h) fun u s1 ⟨x,H1,I1,rx,a,dx,fs,ex,ea,l,q⟩=>?_) ht
 subst ex
 obtain rfl:u=Value.ref a:=rx
 refine wZ I1 ea c hm l ?_
 exact PySem.W.callWith_K0 (first:=[.ref a]) I1.kIn hm.kp (Hd (us:=[.ref a]) (vs:=[.ref a]) F hr hb hd hx I1 (.cons rfl .nil) q)
structure Mk (K:PySem.W.Frag) (C f:Addr):Prop where
 makes:PySem.W.makesIn K C=true
 init:PySem.W.findIn K (.ref C) "__init__"=some (some (.ref f))
 fn:PySem.W.isFn K (.ref f)=true
 kp:PySem.W.keepIn K (.ref C)=true
theorem Dk {pins:List (Addr×Obj)} {σ:St} {H:Hp} {s:Shared} {Q:VK} {us:List Value} {vs:List V} (M:Mk X.K C f) (F:bV X.prog X.w X.K X.mg X.base CX k f fd ps sp) (hr:fY (k+1) X.A) (hb:fF X.K fd ps ds) (hd:bS dvs ds)
  (hx:iR CX X E) (I:aQ X pins σ H s) (r:bS vs us)
  (h:∀ x dx,H x=none->H dx=none->dx≠x->sp (.ref x::(vs++dvs)) (upd (upd H dx (.own x)) x (.ins C dx [])) (fun v H2=>v=.non/\Q (.ref x) H2) E):
  wpAny (model X.prog X.w) X.A (call (.ref C) us) (EP X pins σ Q) X.xe s:=by
 have hq:=h (s.heap.objs.size+1) s.heap.objs.size (I.hok.fresh (Nat.le_succ _)) (I.hok.fresh (Nat.le_refl _)) (Nat.ne_of_lt (Nat.lt_succ_self _))
 have I2:=aQ.made (C:=C) I
 have r2:bS (V.ref (s.heap.objs.size+1)::(vs++dvs)) (Value.ref (s.heap.objs.size+1)::(us++ds)):=.cons rfl (r.append hd)
 have hl:(Value.ref (s.heap.objs.size+1)::us++ds).length=ps.length:=by
  have e:=r2.length
  rw [F.len _ _ _ _ hq] at e
  exact e.symm
 refine wpAny_call (Fp (f:=f) I.kIn M.makes M.init (beq_iff_eq.mp M.fn) (codeAny_mono (F.run _ X.stack _ _ ⟨Value.ref (s.heap.objs.size+1)::us,[]⟩ (Value.ref (s.heap.objs.size+1)::(us++ds)) _ _ E (hr.make C us [])
  (I2.env0.make C us []) (hb _ (Value.ref (s.heap.objs.size+1)::us) I2.kIn hl) r2 hq) fun r s' hq'=>?_))
 cases r with
 |error e=>exact hx pins σ _ _ e s' I2 hq'
 |ok fl=>
  cases fl with
  |ret u=>
   obtain ⟨v,H',I3,rv,ev,q3⟩:=I2.after hq'
   subst ev
   exact ⟨rv,⟨V.ref (s.heap.objs.size+1),H',I3,rfl,q3⟩⟩
  |next=>exact False.elim hq'
  |brk=>exact False.elim hq'
  |cont=>exact False.elim hq'
theorem nN (M:Mk X.K C f) (F:bV X.prog X.w X.K X.mg X.base CX k f fd ps sp) (hr:fY (k+1) X.A) (hg:Gl X x) (hm:X.mg x=some (.ref C)) (hb:fF X.K fd ps ds) (hd:bS dvs ds) (hx:iR CX X E)
  (ha:PA X (e::es) t) (hdb:(x==("__debug__":Str))=false:=by decide) (he:starEach (e::es) X.env=(false,eval e X.env)::starEach es X.env:=by rfl) (hpl:(backTo pos (starEach es X.env)).any (·.1)=false:=by rfl):
  PE X (.Call (.Name x p) (e::es) [] pos) (Kl C sp dvs E t):=by
 intro pins s σ H Q I h
 refine wpAny_Call_Name_kw (jD I hg hm ?_ hdb)
 refine PySem.W.callWith_K (h₀:=X.base) I.ok.mod.kin M.kp (cV (ha pos pins s σ H _ I h) fun us s1 ⟨vs,H1,I1,r,q⟩=>⟨I1.kIn,?_⟩) he hpl
 exact Dk M F hr hb hd hx I1 r q
theorem Qa (M:Mk X.K C f) (F:bV X.prog X.w X.K X.mg X.base CX k f fd ps sp) (hr:fY (k+1) X.A) (hg:Gl X x) (hm:X.mg x=some (.ref C)) (hb:fF X.K fd ps ds) (hd:bS dvs ds) (hx:iR CX X E)
  (hdb:(x==("__debug__":Str))=false:=by decide):PE X (.Call (.Name x p) [] [] pos) (Kl C sp dvs E gR):=by
 intro pins s σ H Q I h
 refine wpAny_Call_Name_kw (jD I hg hm ?_ hdb)
 exact PySem.W.callWith_K0 I.kIn M.kp (Dk (us:=[]) M F hr hb hd hx I .nil h)
end
section
variable {X:Cx} {CX:Gm} {k:Nat} {f C:Addr} {fd:FuncData} {ps ks:List Str} {sp:Sp} {E:XK} {x m:Str} {p pos apos kpos:Pos} {e o:Expr} {es:List Expr} {kws:List Keyword} {te ta:TE} {t tk:TA} {nm:Option Str}
variable {g:List Value->List Value->List Value} {gV:List V->List V->List V}
end
structure aO (N P:List Str) (sc:Scope):Prop where
 kind:sc.kind=.function
 co:sc.isCoroutine=false
 gen:sc.isGenerator=false
 nd:N.Nodup
 pre:N.take P.length=P
 par:∀ x∈P,sc.names.lookup x=some .local\/sc.names.lookup x=some .cell
 nofree:∀ y∈sc.names,y.2≠.free
theorem Ab {kindOf:Str->Option NameKind} {x:Str}:∀ {binds:List (Str×Value)} {m:Str->Option Value},(∀ v,(x,v)∉binds)->bindL kindOf binds m x=m x
 |[],_,_=>rfl
 |(n,v)::r,m,h=>by
  unfold bindL
  rw [Ab fun w hw=>h w (List.mem_cons_of_mem _ hw)]
  split
  ·have:x≠n:=by rintro rfl;exact h v List.mem_cons_self
   simp [this]
  ·rfl
theorem yR {kindOf:Str->Option NameKind} {x:Str}:∀ {binds:List (Str×Value)} {m:Str->Option Value},(∀ v,(x,v)∉binds)->bindC kindOf binds m x=m x
 |[],_,_=>rfl
 |(n,v)::r,m,h=>by
  unfold bindC
  rw [yR fun w hw=>h w (List.mem_cons_of_mem _ hw)]
  split
  ·rfl
  ·have:x≠n:=by rintro rfl;exact h v List.mem_cons_self
   simp [this]
theorem Aj {kindOf:Str->Option NameKind} {x:Str} {v:Value}:∀ {P:List Str} {vs:List Value} {i:Nat} {m:Str->Option Value},P.Nodup->P[i]?=some x->vs[i]?=some v->kindOf x=some .local->
  bindL kindOf (P.zip vs) m x=some v
 |[],_,_,_,_,h,_,_=>by simp at h
 |_::_,[],_,_,_,_,h,_=>by simp at h
 |p::P,w::vs,0,m,nd,h1,h2,hk=>by
  simp at h1 h2;subst h1;subst h2
  show bindL kindOf ((p,w)::P.zip vs) m p=_
  unfold bindL
  rw [Ab fun v hv=>(List.nodup_cons.mp nd).1 (List.of_mem_zip hv).1,if_pos hk]
  simp
 |p::P,w::vs,i+1,m,nd,h1,h2,hk=>by
  show bindL kindOf ((p,w)::P.zip vs) m x=_
  unfold bindL
  exact Aj (i:=i) (List.nodup_cons.mp nd).2 (by simpa using h1) (by simpa using h2) hk
theorem Ad {kindOf:Str->Option NameKind} {x:Str} {v:Value}:∀ {P:List Str} {vs:List Value} {i:Nat} {m:Str->Option Value},P.Nodup->P[i]?=some x->vs[i]?=some v->kindOf x≠some .local->
  bindC kindOf (P.zip vs) m x=some v
 |[],_,_,_,_,h,_,_=>by simp at h
 |_::_,[],_,_,_,_,h,_=>by simp at h
 |p::P,w::vs,0,m,nd,h1,h2,hk=>by
  simp at h1 h2;subst h1;subst h2
  show bindC kindOf ((p,w)::P.zip vs) m p=_
  unfold bindC
  rw [yR fun v hv=>(List.nodup_cons.mp nd).1 (List.of_mem_zip hv).1,if_neg hk]
  simp
 |p::P,w::vs,i+1,m,nd,h1,h2,hk=>by
  show bindC kindOf ((p,w)::P.zip vs) m x=_
  unfold bindC
  exact Ad (i:=i) (List.nodup_cons.mp nd).2 (by simpa using h1) (by simpa using h2) hk
def lT (N:List Str) (vs:List V):St:=vs.map some++List.replicate (N.length - vs.length) none
def Ca (CX:Gm) (P:Program) (w:World) (K:PySem.W.Frag) (mg:Str->Option Value) (base:Heap) (N:List Str) (qual:Str) (scope:Scope) (f:Addr) (cd:Value) (A:Around) (outer:List Env) (s:Shared) (H:Hp) (E:XK):Cx where
 prog:=P
 w:=w
 K:=K
 mg:=mg
 base:=base
 A:=A.deeper (envOfC qual scope s.heap.objs.size f cd)
 N:=N
 s_0:=s
 H_0:=H
 env:=envOfC qual scope s.heap.objs.size f cd
 outer:=outer
 stack:=envOfC qual scope s.heap.objs.size f cd::outer
 ex:=[]
 calm:=true
 fn:=fun _=>true
 pn:=[]
 xe:=fun e s'=>wpAny (model P w) (A.deeper (envOfC qual scope s.heap.objs.size f cd)) (leaving (envOfC qual scope s.heap.objs.size f cd) e) (fun _ s''=>CX outer H s E e s'') (fun e' s''=>CX outer H s E e' s'') s'
theorem Ea {sc:Scope} {n:Nat} {x:Str} (h:sc.names.lookup x=some .cell):∃ c,(cellsFrom n sc.names []).lookup x=some c:=by
 have q:=PySem.W.cellsFrom_some sc.names n [] (.inl h)
 exact Option.isSome_iff_exists.mp q
theorem yU {CX:Gm} {P:Program} {w:World} {K:PySem.W.Frag} {mg:Str->Option Value} {base:Heap} {N ps:List Str} {qual:Str} {scope:Scope} {f:Addr} {cd:Value} {A:Around} {outer:List Env} {s s1:Shared} {H:Hp} {E:XK} {us:List Value} {vs:List V}
  (S:aO N ps scope) (hd:A.handled=none) (e0:Do P w K mg base A outer s H) (hl:vs.length=ps.length) (r:bS vs us)
  (x:InCallC s s.heap.objs.size (bindL (envOfC qual scope s.heap.objs.size f cd).kindOf (ps.zip us) fun _=>none) (cellsFrom (s.heap.objs.size+1) scope.names []) (bindC (envOfC qual scope s.heap.objs.size f cd).kindOf (ps.zip us) fun _=>none) s1):
  aQ (Ca CX P w K mg base N qual scope f cd A outer s H E) [] (lT N vs) H s1:=by
 have hpl:ps.length<=N.length:=by have:=congrArg List.length S.pre;rw [List.length_take] at this;omega
 obtain ⟨h1,tk,rfl,hk⟩:=x.done
 have noA:∀ b:Addr,b∉(Ca CX P w K mg base N qual scope f cd A outer s H E).ex:=fun b z=>absurd (show b∈([]:List Addr) from z) (by simp)
 refine ⟨⟨e0.mod,S.kind,rfl,rfl,Nat.le_refl _,fun y z c h1 h2=>?_,fun y hy=>?_,fun y c _ h=>?_,fun _=>hd,Around.frames_deeper e0.frames,.inr ⟨rfl,rfl⟩,fun b z=>absurd z (noA b),e0.bs,e0.bsz,fun b _ _=>noA b,fun b z=>absurd z (noA b),e0.funs,e0.frf⟩,
  rfl,e0.bare,Un.kept hk,⟨_,x.toInCall.ns,fun i y v h1 h2 h3=>?_⟩,fun y c h=>⟨_,x.cell y c h⟩,e0.hok.fresh (Nat.le_refl _),fun y c h=>?_,fun p hp=>absurd (show p∈([]:List (Addr×Obj)) from hp) (by simp),e0.hok.kept hk,?_⟩
 ·exact name_of_addr x.apart (PySem.mem_of_lookup h1) (PySem.mem_of_lookup h2)
 ·have hy:scope.names.lookup y=some .cell\/scope.names.lookup y=some .free:=hy
  rcases hy with hy|hy
  ·exact Ea hy
  ·exact absurd rfl (S.nofree _ (PySem.mem_of_lookup hy))
 ·exact Nat.le_of_lt (x.above y c (PySem.mem_of_lookup h))
 ·have hi:i<vs.length:=by
   unfold lT at h2
   by_cases hi:i<vs.length
   ·exact hi
   ·rw [List.getElem?_append_right (by simpa using hi)] at h2
    rw [List.getElem?_replicate] at h2
    split at h2<;>cases h2
  have ha:vs[i]?=some v:=by
   unfold lT at h2
   rw [List.getElem?_append_left (by simpa using hi),List.getElem?_map] at h2
   cases e:vs[i]? with
   |none=>rw [e] at h2;cases h2
   |some a=>rw [e] at h2;cases h2;rfl
  obtain ⟨u,hu,rv⟩:=r.get ha
  have hp:ps[i]?=some y:=by
   rw [<-S.pre,List.getElem?_take_of_lt (by omega)];exact h1
  have ndP:ps.Nodup:=by rw [<-S.pre];exact S.nd.sublist (List.take_sublist _ _)
  refine ⟨u,rv,?_⟩
  rcases S.par y (List.mem_of_getElem? hp) with k|k
  ·exact .inl ⟨k,Aj ndP hp hu k⟩
  ·obtain ⟨c,e⟩:=Ea (n:=s.heap.objs.size+1) k
   refine .inr ⟨.inl k,c,e,?_⟩
   have q:=x.cell y c e
   rw [Ad ndP hp hu (by show scope.names.lookup y≠_;rw [k];decide)] at q
   exact q
 ·exact e0.hok.fresh (Nat.le_of_lt (x.above y c (PySem.mem_of_lookup h)))
 ·unfold lT
  show _=N.length
  rw [List.length_append,List.length_map,List.length_replicate]
  omega
theorem Xd {CX:Gm} {P:Program} {w:World} {K:PySem.W.Frag} {mg:Str->Option Value} {base:Heap} {k:Nat} {f:Addr} {name qual:Str} {params:Arguments} {body:List Stmt} {scope:Scope} {dV kV doc pm cdv ct oc:Value} {an od:Option Addr}
  {osl:Array (Option Value)} {N ps:List Str} {sp:Sp} (lk:K.lookup f=some ⟨oc,od,.func (PySem.W.fnOf name qual params body scope dV kV doc pm an cdv ct),osl⟩) (hcd:PySem.W.codeIn K cdv qual=true) (S:aO N ps scope)
  (len:∀ vs H Q E,sp vs H Q E->vs.length=ps.length)
  (hbody:∀ (A:Around) (outer:List Env) (s:Shared) (H:Hp) (vs:List V) (Q:VK) (E:XK),fY k (A.deeper (envOfC qual scope s.heap.objs.size f cdv))->sp vs H Q E->
   ∃ t,Ap (Ca CX P w K mg base N qual scope f cdv A outer s H E) body t/\t {nx:=fun _ H'=>Q .non H',rt:=Q} (lT N vs) H):
  bV P w K mg base CX (k+1) f (PySem.W.fnOf name qual params body scope dV kV doc pm an cdv ct) ps sp:=by
 refine ⟨len,fun A outer s H args us vs Q E hr e0 hb r hsp=>?_⟩
 have hl:=len _ _ _ _ hsp
 have KX:K.In s.heap:=e0.mod.kin.keeps fun b o e=>(e0.bs b o e).1
 have lim:s.heap.NoLimit:=e0.mod.nolimit.keeps fun b o e=>(e0.bs b o e).1
 have hkind:∀ y∈ps.zip us,scope.names.lookup y.1=some .local\/(scope.names.lookup y.1=some .cell/\((cellsFrom (s.heap.objs.size+1) scope.names []).lookup y.1).isSome=true):=fun ⟨n,v⟩ hy=>by
  rcases S.par n (List.of_mem_zip hy).1 with q|q
  ·exact .inl q
  ·exact .inr ⟨q,PySem.W.cellsFrom_some _ _ _ (.inl q)⟩
 refine codeAny_call_function hr.depth (KX _ _ lk) rfl S.co S.gen rfl (PySem.W.codeRec_of KX hcd) (hb _ _ _ _ ?_)
 refine wpAny_newFunctionEnv_cells S.kind hkind fun env he s1 x=>?_
 subst he
 refine ⟨lim.keeps x.toInCall.keep,codeAny_func ?_⟩
 obtain ⟨t,ht,hq⟩:=hbody A outer s H vs Q E (hr.deeper _) hsp
 have I:aQ (Ca CX P w K mg base N qual scope f cdv A outer s H E) [] (lT N vs) H s1:=yU S hr.hd e0 hl r x
 refine wpAny_mono (ht [] s1 (lT N vs) H _ I hq) (fun fl s' hs=>?_) fun e s' hs=>hs
 have fin:∀ {σ':St} {H':Hp} {v:V} {u:Value},aQ (Ca CX P w K mg base N qual scope f cdv A outer s H E) [] σ' H' s'->cD v u->Q v H'->CE outer P w H s Q u s':=
  fun {σ' H' v u} J rv q=>⟨v,H',J.os,J.bare,J.base,J.hok,rv,q⟩
 cases fl with
 |ret u=>
  obtain ⟨v,σ',H',J,rv,q⟩:=hs
  exact fin J rv q
 |next=>
  obtain ⟨σ',H',J,q⟩:=hs
  exact fin (v:=V.non) (u:=Value.none) J rfl q
 |brk=>
  obtain ⟨_,_,_,q⟩:=hs
  exact False.elim q
 |cont=>
  obtain ⟨_,_,_,q⟩:=hs
  exact False.elim q
section
variable {X:Cx} {x:Str} {p pos:Pos} {e:Expr} {es:List Expr} {t:TA} {id T:String} {r:List V->Hp->VK->Prop}
def tCB (r:List V->Hp->VK->Prop) (t:TA):TE:=fun σ H Q=>t σ H fun vs H1=>r vs H1 Q
theorem bQ (hc:mK X (.builtin id) r) (hg:Gl X x) (hm:X.mg x=none) (hv:bootBuiltins x=some (.builtin id)) (ha:PA X (e::es) t) (hn:x≠"__name__":=by decide) (hdb:(x==("__debug__":Str))=false:=by decide)
  (he:starEach (e::es) X.env=(false,eval e X.env)::starEach es X.env:=by rfl) (hpl:(backTo pos (starEach es X.env)).any (·.1)=false:=by rfl):PE X (.Call (.Name x p) (e::es) [] pos) (tCB r t):=by
 intro pins s σ H Q I h
 refine wpAny_Call_Name_kw (rQ I hg hm hv ?_ hn hdb)
 exact PyProof.Rows.callWith_builtin1 (cV (ha pos pins s σ H _ I h) fun us s1 ⟨vs,H1,I1,r1,q1⟩=>hc pins s1 σ H1 vs us Q I1 r1 q1) he hpl
theorem kQ (hc:mK X (.type T) r) (hg:Gl X x) (hm:X.mg x=none) (hv:bootBuiltins x=some (.type T)) (ha:PA X (e::es) t) (hn:x≠"__name__":=by decide) (hdb:(x==("__debug__":Str))=false:=by decide)
  (he:starEach (e::es) X.env=(false,eval e X.env)::starEach es X.env:=by rfl) (hpl:(backTo pos (starEach es X.env)).any (·.1)=false:=by rfl):PE X (.Call (.Name x p) (e::es) [] pos) (tCB r t):=by
 intro pins s σ H Q I h
 refine wpAny_Call_Name_kw (rQ I hg hm hv ?_ hn hdb)
 exact PyProof.Rows.callWith_type1 (cV (ha pos pins s σ H _ I h) fun us s1 ⟨vs,H1,I1,r1,q1⟩=>hc pins s1 σ H1 vs us Q I1 r1 q1) he hpl
end
end L2
namespace HT
open PySem PyProof.Rows
theorem Rc (A:Around) (s:Shared) (a:Int) (t:Tok) (c:Int) (u:Tok):∃ e,SeqAt.EqAt A s (.int a t) (.int c u) e/\(e=true↔a=c):=
 ⟨(a==c),SeqAt.EqAt.int_int a t c u,by simp⟩
section
open PySem.SeqAt
open PySem.AutoSeq1 (wpAny_loadPart')
open PySem.MeetsSeq PySem.MeetsSeq2 PySem.MeetsSeq3
end
section
variable {prog:Program} {w:World} {A:Around} {E:Value->Shared->Prop} {s:Shared}
theorem Ue {t b:Addr} {vs ws:List Value} {Q:Value->Shared->Prop} (ht:IsTup s.heap t vs.toArray) (hb:IsTup s.heap b ws.toArray) (hv:vs≠[])
  (h1:ws=[]->Q (.ref t) s) (h2:ws≠[]->Q (.ref s.heap.objs.size) {s with heap:=s.heap.push {cls:=.type "tuple",data:=.seq (vs++ws).toArray}})
  (hsz:vs.length+ws.length<=sizeLine):wpAny (model prog w) A (binaryOp .Add (.ref t) (.ref b)) Q E s:=by
 obtain ⟨⟨cls,dd,data,sl⟩,ho,hc,n,hd⟩:=id ht
 obtain ⟨⟨cls2,dd2,data2,sl2⟩,ho2,hc2,n2,hd2⟩:=id hb
 simp only at hc hd hc2 hd2
 subst hc hd hc2 hd2
 have e:vs.toArray++ws.toArray=(vs++ws).toArray:=by simp
 by_cases hw:ws=[]
 ·exact concat_meets ⟨_,ho,rfl⟩ ⟨_,ho2,rfl⟩ noFill_tuple_add seq_tuple_add PySem.F.slot_tuple_add PySem.F.entry_tuple_add (PySem.F.args_tuple_add_2 _ _)
   (tuple_addW1 t b vs.toArray ws.toArray n n2 dd dd2 sl sl2 (by simpa using hv) (by simp [hw])) ⟨ho,ho2,h1 hw⟩
 ·refine concat_meets ⟨_,ho,rfl⟩ ⟨_,ho2,rfl⟩ noFill_tuple_add seq_tuple_add PySem.F.slot_tuple_add PySem.F.entry_tuple_add (PySem.F.args_tuple_add_2 _ _)
   (tuple_addW2 t b vs.toArray ws.toArray n n2 dd dd2 sl sl2 (by simpa using hv) (by simpa using hw) (by rw [List.size_toArray,List.size_toArray];exact hsz)) ⟨ho,ho2,?_⟩
  rw [e]
  exact h2 hw
def gQ (n d:Nat):Option Int->Nat
 |none=>d
 |some v=>if v<0 then (v+(n:Int)).toNat else min v.toNat n
theorem Tc (n d:Nat):gQ n d none=d:=rfl
theorem Ji (n d k:Nat):gQ n d (some (k:Int))=min k n:=by
 show (if (k:Int)<0 then ((k:Int)+(n:Int)).toNat else min (k:Int).toNat n)=min k n
 rw [if_neg (by omega),Int.toNat_natCast]
theorem Yz (n d:Nat) (hd:d<=n) (o:Option Int):gQ n d o<=n:=by
 cases o with
 |none=>exact hd
 |some v=>
  show (if v<0 then (v+(n:Int)).toNat else min v.toNat n)<=n
  by_cases hv:v<0
  ·rw [if_pos hv];omega
  ·rw [if_neg hv];exact Nat.min_le_right _ _
theorem Kk (v:Int) (n d:Nat):(if v<0 then max (v+(n:Int)) 0 else min v (n:Int))=((gQ n d (some v):Nat):Int):=by
 show (if v<0 then max (v+(n:Int)) 0 else min v (n:Int))=(((if v<0 then (v+(n:Int)).toNat else min v.toNat n):Nat):Int)
 by_cases hv:v<0
 ·simp only [if_pos hv];omega
 ·simp only [if_neg hv];omega
theorem Ig (lo hi:Option Int) (n:Nat):Builtin.Slice.sliceAdjust lo hi 1 (n:Int)=(((gQ n 0 lo:Nat):Int),((gQ n n hi:Nat):Int)):=by
 have h1:¬((1:Int)<0):=by omega
 unfold Builtin.Slice.sliceAdjust
 simp only [h1,if_false]
 refine Prod.ext ?_ ?_
 ·cases lo with
  |none=>rfl
  |some v=>exact Kk v n 0
 ·cases hi with
  |none=>rfl
  |some v=>exact Kk v n n
theorem Ir (i j:Nat):Builtin.Slice.slicePlaces (i:Int) (j:Int) 1=j - i:=by
 unfold Builtin.Slice.slicePlaces
 have h1:(1:Int)>0:=by omega
 simp only [h1,if_true,Int.ediv_one]
 split<;>omega
theorem vJ {v:Value} {o:Option Int} {Q:Option Int->Shared->Prop} (p:IsPart v o) (h:Q o s):wpAny (model prog w) A (Builtin.Slice.slicePartIndex v) Q E s:=by
 cases p with
 |none=>exact slicePart_none h
 |int i t=>exact slicePart_int h
theorem kG {sl:Addr} {vl vu:Value} {lo hi:Option Int} {n:Nat} {Q:Int×Int×Nat->Shared->Prop} (hs:s.heap.IsSliceOf sl vl vu .none) (pl:IsPart vl lo) (pu:IsPart vu hi)
  (h:Q (((gQ n 0 lo:Nat):Int),1,gQ n n hi - gQ n 0 lo) s):wpAny (model prog w) A (Builtin.Slice.sliceApplied (.ref sl) (pure (n:Int))) Q E s:=by
 obtain ⟨os,hos,hcs,hds⟩:=id hs
 unfold Builtin.Slice.sliceApplied Builtin.Slice.sliceFields
 refine wpAny_bind (wpAny_bind (wpAny_field hos hds (x:=vl) rfl (wpAny_bind (wpAny_field hos hds (x:=vu) rfl (wpAny_bind (wpAny_field hos hds (x:=.none) rfl (wpAny_pure ?_)))))))
 refine wpAny_bind (slicePart_none ?_)
 show wpAny _ _ (if ((1:Int)==0)=true then _ else _) _ _ s
 rw [if_neg (by decide)]
 refine wpAny_bind (vJ pl (wpAny_bind (vJ pu (wpAny_bind (wpAny_pure ?_)))))
 show wpAny _ _ (match Builtin.Slice.sliceAdjust lo hi 1 (n:Int) with|(lo,hi)=>pure (lo,(1:Int),Builtin.Slice.slicePlaces lo hi 1)) _ _ s
 rw [Ig lo hi n]
 show wpAny _ _ (pure (((gQ n 0 lo:Nat):Int),(1:Int),Builtin.Slice.slicePlaces ((gQ n 0 lo:Nat):Int) ((gQ n n hi:Nat):Int) 1)) _ _ s
 rw [Ir]
 exact wpAny_pure h
theorem Pi (xs:Array Value) (i k:Nat):((List.range k).filterMap fun (m:Nat)=>xs[((i:Int)+(m:Int) * 1).toNat]?).toArray=((xs.toList.drop i).take k).toArray:=by
 have e:(fun (m:Nat)=>xs[((i:Int)+(m:Int) * 1).toNat]?)=fun m=>xs[i+m]?:=by
  funext m
  have:((i:Int)+(m:Int) * 1).toNat=i+m:=by omega
  rw [this]
 rw [e]
 have:=pick_run xs i k
 rw [List.filterMap_map] at this
 have e2:((fun x=>xs[x]?)∘fun x=>i+x)=fun m=>xs[i+m]?:=rfl
 rw [e2] at this
 rw [this]
theorem rA {t sl:Addr} {items:Array Value} {vl vu:Value} {lo hi:Option Int} {Q:Value->Shared->Prop} (ht:IsTup s.heap t items) (hs:s.heap.IsSliceOf sl vl vu .none) (pl:IsPart vl lo) (pu:IsPart vu hi)
  (hw:¬(gQ items.size 0 lo=0/\gQ items.size items.size hi=items.size))
  (h:Q (.ref s.heap.objs.size) {s with heap:=s.heap.push {cls:=.type "tuple",data:=.seq ((items.toList.drop (gQ items.size 0 lo)).take (gQ items.size items.size hi - gQ items.size 0 lo)).toArray}})
  (hsz:items.size<=sizeLine):wpAny (model prog w) A (getItem (.ref t) (.ref sl)) Q E s:=by
 have htake:sizeOk (.seq ((items.toList.drop (gQ items.size 0 lo)).take (gQ items.size items.size hi - gQ items.size 0 lo)).toArray):=by
  show ((items.toList.drop (gQ items.size 0 lo)).take (gQ items.size items.size hi - gQ items.size 0 lo)).toArray.size<=sizeLine
  rw [List.size_toArray,List.length_take,List.length_drop,Array.length_toList]
  omega
 have hj:gQ items.size items.size hi<=items.size:=Yz _ _ (Nat.le_refl _) hi
 obtain ⟨os,hos,hcs,hds⟩:=id hs
 have hTs:s.TypeIs (.ref sl) "slice":=⟨os,hos,hcs⟩
 unfold getItem
 try with_reducible refine wpAny_holding ?_
 first|refine wpAny_bind (wpAny_pure ?_)|skip
 refine wpAny_bind (wpAny_sequenceKey ht.typeIs (by decide) ?_)
 refine wpAny_bind (wpAny_callSpecial?_slot (name:=Str.ofString "__getitem__") ht.typeIs PyProof.Rows.slot_tuple_getitem
  (wpAny_call_entry PyProof.Rows.slot_tuple_getitem ht.typeIs entry_tuple_getitem ?_ (args_tuple_getitem _ _)))
 show wpAny _ _ (Builtin.Tuple.tupleItemsOf (.ref t)>>=_) _ _ s
 refine wpAny_bind (tupleItemsOf_ ht ?_)
 refine wpAny_bind (wpAny_typeOf hTs ?_)
 rw [if_pos (by decide)]
 refine wpAny_bind (kG hs pl pu ?_)
 have hno:¬((((gQ items.size 0 lo:Nat):Int)==0 && (1:Int)==1 && (gQ items.size items.size hi - gQ items.size 0 lo)==items.size)=true):=by
  intro q
  rw [Bool.and_eq_true,Bool.and_eq_true] at q
  have q1:((gQ items.size 0 lo:Nat):Int)=0:=eq_of_beq q.1.1
  have q2:gQ items.size items.size hi - gQ items.size 0 lo=items.size:=eq_of_beq q.2
  exact hw ⟨by omega,by omega⟩
 show wpAny _ _ (if (((gQ items.size 0 lo:Nat):Int)==0 && (1:Int)==1 && (gQ items.size items.size hi - gQ items.size 0 lo)==items.size)=true then _ else _) _ _ s
 rw [if_neg hno,Pi]
 first
  |exact wpAny_bind (m:=Builtin.Tuple.tupleExact _) (wpAny_newObj_type (wpAny_pure ⟨_,rfl,wpAny_pure h⟩) htake)
  |exact wpAny_bind (m:=Builtin.Tuple.tupleExact _) (wpAny_newObj_type (wpAny_bind (wpAny_pure (wpAny_pure ⟨_,rfl,wpAny_pure h⟩))) htake)
  |exact wpAny_bind (wpAny_bind (m:=Builtin.Tuple.tupleExact _) (wpAny_newObj_type (wpAny_pure (wpAny_pure ⟨_,rfl,wpAny_pure h⟩)) htake))
  |exact wpAny_bind (wpAny_bind (m:=Builtin.Tuple.tupleExact _) (wpAny_newObj_type (wpAny_pure ⟨_,rfl,wpAny_pure h⟩) htake))
end
end HT
namespace L2
open PySem PySem.Spec PyProof.Rows
abbrev TO:=St->Hp->(Option Int->Hp->Prop)->Prop
def PO (X:Cx) (e:Option Expr) (t:TO):Prop:=
 ∀ (pins:List (Addr×Obj)) (s:Shared) (σ:St) (H:Hp) (Q:Option Int->Hp->Prop),aQ X pins σ H s->t σ H Q->
  wpAny (model X.prog X.w) X.A (evalPart e X.env) (fun u s'=>∃ o H',aQ X pins σ H' s'/\IsPart u o/\Q o H') X.xe s
def Jn:TO:=fun _ H Q=>Q none H
def Xg (t:TE):TO:=fun σ H Q=>t σ H fun x H1=>∃ i,x=.int i/\Q (some i) H1
theorem fQ {ns:List Int}:∀ {us:List Value},bS (ns.map V.int) us->IntsAre us ns:=by
 induction ns with
 |nil=>intro us r;rw [List.map_nil] at r;cases r;exact .nil
 |cons n ns ih=>
  intro us r
  rw [List.map_cons] at r
  cases r with
  |cons r1 r2=>
   obtain ⟨t,e⟩:=r1
   subst e
   exact .cons n t (ih r2)
section
variable {X:Cx} {e:Expr} {te:TE} {lo hi:Option Expr} {tl th:TO} {pos p2:Pos}
theorem Kn:PO X none Jn:=by
 intro pins s σ H Q I h
 rw [evalPart_none]
 exact wpAny_pure ⟨none,H,I,.none,h⟩
theorem Kp (h:PE X e te):PO X (some e) (Xg te):=by
 intro pins s σ H Q I hw
 rw [evalPart_some]
 refine cV (h pins s σ H _ I hw) fun u s1 ⟨x,H1,I1,r1,q1⟩=>?_
 obtain ⟨i,rfl,q⟩:=q1
 obtain ⟨t,rfl⟩:=r1
 exact ⟨some i,H1,I1,.int i t,q⟩
def SlR (X:Cx) (r:V->Option Int->Option Int->Hp->VK->Prop):Prop:=
 ∀ (pins:List (Addr×Obj)) (s:Shared) (σ:St) (H:Hp) (x:V) (v vl vu:Value) (lo hi:Option Int) (sl:Addr) (Q:VK),aQ X pins σ H s->cD x v->s.heap.IsSliceOf sl vl vu .none->IsPart vl lo->IsPart vu hi->r x lo hi H Q->
  ∃ T id,typeLookup (.type T) "__getitem__"=pure (some (.builtin id))/\s.TypeIs v T/\wpAny (model X.prog X.w) X.A (getItem v (.ref sl)) (EP X pins σ Q) X.xe s
def tSl (r:V->Option Int->Option Int->Hp->VK->Prop) (te:TE) (tl th:TO):TE:=fun σ H Q=>te σ H fun x H1=>tl σ H1 fun l H2=>th σ H2 fun u H3=>r x l u H3 Q
theorem Eb {r:V->Option Int->Option Int->Hp->VK->Prop} (hr:SlR X r) (he:PE X e te) (hl:PO X lo tl) (hu:PO X hi th):PE X (.Subscript e (.Slice lo hi none p2) pos) (tSl r te tl th):=by
 intro pins s σ H Q I h
 refine Subscript_ (cV (he pins s σ H _ I h) fun v s1 ⟨x,H1,I1,r1,q1⟩=>?_)
 refine wpAny_Slice (cV (hl pins s1 σ H1 _ I1 q1) fun vl s2 ⟨l,H2,I2,pl,q2⟩=>cV (hu pins s2 σ H2 _ I2 q2) fun vu s3 ⟨u,H3,I3,pu,q3⟩=>?_)
 rw [evalPart_none]
 refine wpAny_pure ?_
 have I4:aQ X pins σ H3 {s3 with heap:=s3.heap.push {cls:=.type "slice",data:=.fields #[vl,vu,.none]}}:=I3.kept (t':=s3.toks) fun b ob q=>Heap.get?_push_of_some _ q
 obtain ⟨T,id,hT,ht,hg⟩:=hr pins {s3 with heap:=s3.heap.push {cls:=.type "slice",data:=.fields #[vl,vu,.none]}} σ H3 x v vl vu l u s3.heap.objs.size Q I4 r1 (Heap.IsSliceOf.new ..) pl pu q3
 show wpAny (model X.prog X.w) X.A (subscriptTail e (.Slice lo hi none p2) v (.ref s3.heap.objs.size)) (EP X pins σ Q) X.xe {s3 with heap:=s3.heap.push {cls:=.type "slice",data:=.fields #[vl,vu,.none]}}
 exact tail_any (ops:=[.ref s3.heap.objs.size,v]) ht hT hg (by with_unfolding_all rfl)
def wY (xs:List V) (lo hi:Option Int):List V:=(xs.drop (HT.gQ xs.length 0 lo)).take (HT.gQ xs.length xs.length hi - HT.gQ xs.length 0 lo)
theorem Gg (xs:List V) (lo hi:Option Int):(wY xs lo hi).length<=xs.length:=by
 unfold wY
 rw [List.length_take,List.length_drop]
 omega
def aDd (K:PySem.W.Frag):V->Option Int->Option Int->Hp->VK->Prop:=fun x lo hi H Q=>∃ a xs,x=.ref a/\cN K H a xs/\
 ¬(HT.gQ xs.length 0 lo=0/\HT.gQ xs.length xs.length hi=xs.length)/\∀ p,H p=none->Q (.ref p) (upd H p (.tup (wY xs lo hi)))
theorem aAp:SlR X (aDd X.K):=by
 intro pins s σ H x v vl vu lo hi sl Q I rx hs pl pu h
 obtain ⟨a,xs,rfl,hx,hw,q⟩:=h
 cases rx
 obtain ⟨its,r,ht,hz⟩:=I.tuple hx
 have hlen:its.toArray.size=xs.length:=by rw [List.size_toArray];exact r.length.symm
 refine ⟨"tuple",_,PyProof.Rows.slot_tuple_getitem.lookup,ht.typeIs,?_⟩
 refine HT.rA ht hs pl pu (by rw [hlen];exact hw) ?_ (by rw [hlen];exact hz)
 rw [hlen]
 refine ⟨.ref s.heap.objs.size,_,I.laid (t':=s.toks) (o:=.tup (wY xs lo hi)) (fun b ob q=>Heap.get?_push_of_some _ q) (Nat.le_refl _) ?_,rfl,q _ (I.hok.fresh (Nat.le_refl _))⟩
 exact ⟨Nat.le_trans (Gg xs lo hi) hz,_,(r.drop (HT.gQ xs.length 0 lo)).take (HT.gQ xs.length xs.length hi - HT.gQ xs.length 0 lo),IsTup.new _ _⟩
def aB5 (K:PySem.W.Frag):R2:=fun x y H Q=>∃ a b xs ys,x=.ref a/\y=.ref b/\cN K H a xs/\cN K H b ys/\xs≠[]/\xs.length+ys.length<=sizeLine/\
 (ys=[]->Q (.ref a) H)/\(ys≠[]->∀ p,H p=none->Q (.ref p) (upd H p (.tup (xs++ys))))
theorem bS.nil_iff {xs:List V} {us:List Value} (r:bS xs us):us=[]↔xs=[]:=by
 cases r with
 |nil=>simp
 |cons _ _=>simp
theorem Wb:uA X (binaryOp .Add) (aB5 X.K):=by
 intro pins s σ H x y v u Q I rx ry h
 obtain ⟨a,b,xs,ys,rfl,rfl,ha,hb,hx,hz,q1,q2⟩:=h
 cases rx
 cases ry
 obtain ⟨its,r1,p1,_⟩:=I.tuple ha
 obtain ⟨its2,r2,p2,_⟩:=I.tuple hb
 refine HT.Ue p1 p2 (fun z=>hx (r1.nil_iff.mp z)) (fun z=>⟨.ref a,H,I,rfl,q1 (r2.nil_iff.mp z)⟩) (fun z=>?_) (by rw [<-r1.length,<-r2.length];exact hz)
 refine ⟨.ref s.heap.objs.size,_,I.laid (t':=s.toks) (o:=.tup (xs++ys)) (fun b ob q=>Heap.get?_push_of_some _ q) (Nat.le_refl _) ?_,rfl,q2 (fun w=>z (r2.nil_iff.mpr w)) _ (I.hok.fresh (Nat.le_refl _))⟩
 exact ⟨by rw [List.length_append];exact hz,_,r1.append r2,IsTup.new _ _⟩
end
def ixN (n:Nat) (i:Int):Option Nat:=if 0<=i then (if i<n then some i.toNat else none) else if -(n:Int)<=i then some (i+n).toNat else none
def Mf {α:Type} (xs:List α) (i:Int):Option α:=(ixN xs.length i).bind fun j=>xs[j]?
theorem Vt {n:Nat} {i:Int} {j:Nat} (h:ixN n i=some j):seqIndex? i n=some j/\j<n/\ -(n:Int)<=i/\i<n:=by
 unfold ixN at h
 by_cases h0:0<=i
 ·rw [if_pos h0] at h
  by_cases h1:i<n
  ·rw [if_pos h1] at h
   have e:i.toNat=j:=Option.some.inj h
   exact ⟨by rw [seqIndex_of h0 h1,e],by omega,by omega,h1⟩
  ·rw [if_neg h1] at h;cases h
 ·rw [if_neg h0] at h
  by_cases h1: -(n:Int)<=i
  ·rw [if_pos h1] at h
   have e:(i+n).toNat=j:=Option.some.inj h
   exact ⟨by rw [seqIndex_neg (by omega) h1,e],by omega,h1,by omega⟩
  ·rw [if_neg h1] at h;cases h
theorem Ki {α:Type} {xs:List α} {i:Int} {v:α} (h:Mf xs i=some v):∃ j,seqIndex? i xs.length=some j/\xs[j]?=some v/\j<xs.length/\ -(xs.length:Int)<=i/\i<xs.length:=by
 unfold Mf at h
 cases e:ixN xs.length i with
 |none=>rw [e] at h;cases h
 |some j=>
  rw [e] at h
  obtain ⟨h1,h2,h3,h4⟩:=Vt e
  exact ⟨j,h1,h,h2,h3,h4⟩
theorem iC {α:Type} {xs:List α} {j:Nat} {v:α} (h:xs[j]?=some v):Mf xs (j:Int)=some v:=by
 have hj:j<xs.length:=(List.getElem?_eq_some_iff.mp h).1
 have e:ixN xs.length (j:Int)=some j:=by
  unfold ixN
  rw [if_pos (by omega),if_pos (by omega)];simp
 unfold Mf;rw [e];exact h
def Wh (b:Expr):Prop:=∀ o i,subscripted b false o i=operate [o,i] (getItem o i)
def IxR (X:Cx) (r:R2):Prop:=
 ∀ (value slice:Expr) (pins:List (Addr×Obj)) (s:Shared) (σ:St) (H:Hp) (x y:V) (v u:Value) (Q:VK),aQ X pins σ H s->cD x v->cD y u->r x y H Q->
  subscripted slice false v u=operate [v,u] (getItem v u)->wpAny (model X.prog X.w) X.A (subscriptTail value slice v u) (EP X pins σ Q) X.xe s
def MtR (X:Cx) (id:String) (r:V->List V->Hp->VK->Prop):Prop:=
 ∀ (pins:List (Addr×Obj)) (s:Shared) (σ:St) (H:Hp) (x:V) (xs:List V) (v:Value) (us:List Value) (Q:VK),aQ X pins σ H s->cD x v->bS xs us->r x xs H Q->
  wpAny (model X.prog X.w) X.A (call (.builtin id) (v::us)) (EP X pins σ Q) X.xe s
section
variable {X:Cx} {a b:Expr} {ta tb:TE} {pos:Pos}
theorem bO {r:R2} (hr:IxR X r) (ha:PE X a ta) (hb:PE X b tb) (hs:Wh b):PE X (.Subscript a b pos) (zE r ta tb):=by
 intro pins s σ H Q I h
 exact Subscript_ (aAc ha hb I h fun v u s2 x y H2 I2 rx ry q=>hr a b pins s2 σ H2 x y v u Q I2 rx ry q (hs _ _))
def aDn (K:PySem.W.Frag):R2:=fun x y H Q=>∃ p xs i v,x=.ref p/\y=.int i/\cW K H p xs/\Mf xs i=some v/\Q v H
def iW (K:PySem.W.Frag):R2:=fun x y H Q=>∃ p xs i v,x=.ref p/\y=.int i/\cN K H p xs/\Mf xs i=some v/\Q v H
theorem jE:IxR X (aDn X.K):=by
 intro value slice pins s σ H x y v u Q I rx ry h hs
 obtain ⟨p,xs,i,z,rfl,rfl,hq,he,q⟩:=h
 cases rx
 obtain ⟨t,rfl⟩:=ry
 obtain ⟨its,r,pl,hz⟩:=I.list hq
 obtain ⟨j,h1,h2,h3,h4,h5⟩:=Ki he
 obtain ⟨w,ew,rw'⟩:=r.get h2
 have hl:=r.length
 have hn:=Gr
 have fin:EP X pins σ Q w s:=⟨z,H,I,rw',q⟩
 by_cases h0:0<=i
 ·have hj:i.toNat=j:=by
   rw [seqIndex_of h0 h5] at h1
   exact Option.some.inj h1
  exact item_listR pl.isList h0 (by omega) (by rw [hj];simpa using ew) fin hs
 ·have hj:(i+(its.toArray.size:Int)).toNat=j:=by
   rw [seqIndex_neg (by omega) h4] at h1
   rw [List.size_toArray,<-hl]
   exact Option.some.inj h1
  exact subscriptTail_builtinR (x:=w) pl.isList.typeIs slot_list_getitem.lookup
   (wpAny_getItem_list_neg (Q:=fun r s'=>r=w/\EP X pins σ Q r s') pl.isList (by omega) (by rw [List.size_toArray]<;>omega) (by omega) (by rw [hj];simpa using ew) ⟨rfl,fin⟩) hs
theorem aZ:IxR X (iW X.K):=by
 intro value slice pins s σ H x y v u Q I rx ry h hs
 obtain ⟨p,xs,i,z,rfl,rfl,hq,he,q⟩:=h
 cases rx
 obtain ⟨t,rfl⟩:=ry
 obtain ⟨its,r,pl,hz⟩:=I.tuple hq
 obtain ⟨j,h1,h2,h3,h4,h5⟩:=Ki he
 obtain ⟨w,ew,rw'⟩:=r.get h2
 have hl:=r.length
 have hn:=Gr
 have fin:EP X pins σ Q w s:=⟨z,H,I,rw',q⟩
 exact subscriptTail_builtinR (x:=w) pl.typeIs slot_tuple_getitem.lookup
  (getItem_tuple (j:=j) (Q:=fun r s'=>r=w/\EP X pins σ Q r s') pl (by omega) (by omega) (by rw [List.size_toArray,<-hl];exact h1) (by simpa using ew) ⟨rfl,fin⟩) hs
def oU:V->Bool
 |.non=>true
 |.bl _=>true
 |.int _=>true
 |.str _=>true
 |_=>false
def Wx:V->V->Bool
 |.non,.non=>true
 |.bl a,.bl b=>a==b
 |.bl a,.int b=>(if a then 1 else 0)==b
 |.int a,.bl b=>a==(if b then 1 else 0)
 |.int a,.int b=>a==b
 |.str a,.str b=>a==b
 |_,_=>false
theorem Yu {A:Around} {s:Shared} {y x:V} {u v:Value} (ry:cD y u) (rx:cD x v) (fy:oU y=true) (fx:oU x=true):SeqAt.EqAt A s u v (Wx y x):=by
 cases y with
 |non=>
  cases ry
  cases x with
  |non=>cases rx;exact SeqAt.EqAt.same _
  |bl b=>cases rx;exact SeqAt.EqAt.none_bool b
  |int b=>obtain ⟨t,rfl⟩:=rx;exact SeqAt.EqAt.none_int b t
  |str b=>obtain ⟨t,rfl⟩:=rx;exact SeqAt.EqAt.none_str b t
  |_=>exact absurd (show false=true from fx) Bool.false_ne_true
 |bl a=>
  cases ry
  cases x with
  |non=>cases rx;exact SeqAt.EqAt.bool_none a
  |bl b=>cases rx;exact SeqAt.EqAt.bool_bool a b
  |int b=>obtain ⟨t,rfl⟩:=rx;exact SeqAt.EqAt.bool_int a b t
  |str b=>obtain ⟨t,rfl⟩:=rx;exact SeqAt.EqAt.bool_str a b t
  |_=>exact absurd (show false=true from fx) Bool.false_ne_true
 |int a=>
  obtain ⟨t',rfl⟩:=ry
  cases x with
  |non=>cases rx;exact SeqAt.EqAt.int_none a t'
  |bl b=>cases rx;exact SeqAt.EqAt.int_bool a t' b
  |int b=>obtain ⟨t,rfl⟩:=rx;exact SeqAt.EqAt.int_int a t' b t
  |str b=>obtain ⟨t,rfl⟩:=rx;exact SeqAt.EqAt.int_str a t' b t
  |_=>exact absurd (show false=true from fx) Bool.false_ne_true
 |str a=>
  obtain ⟨t',rfl⟩:=ry
  cases x with
  |non=>cases rx;exact SeqAt.EqAt.str_none a t'
  |bl b=>cases rx;exact SeqAt.EqAt.str_bool a t' b
  |int b=>obtain ⟨t,rfl⟩:=rx;exact SeqAt.EqAt.str_int a t' b t
  |str b=>obtain ⟨t,rfl⟩:=rx;exact SeqAt.EqAt.str_str a t' b t
  |_=>exact absurd (show false=true from fx) Bool.false_ne_true
 |_=>exact absurd (show false=true from fy) Bool.false_ne_true
def Tx (x:V) (u:Value):Bool:=match u with
 |.none=>Wx .non x
 |.bool b=>Wx (.bl b) x
 |.int i _=>Wx (.int i) x
 |.str z _=>Wx (.str z) x
 |_=>false
theorem Sr {x y:V} {u:Value} (r:cD y u) (f:oU y=true):Tx x u=Wx y x:=by
 cases y with
 |non=>cases r;rfl
 |bl b=>cases r;rfl
 |int i=>obtain ⟨t,rfl⟩:=r;rfl
 |str z=>obtain ⟨t,rfl⟩:=r;rfl
 |_=>exact absurd (show false=true from f) Bool.false_ne_true
theorem Cf {x:V}:∀ {xs:List V} {us:List Value},bS xs us->xs.all oU=true->us.any (Tx x)=xs.any fun y=>Wx y x
 |_,_,.nil,_=>rfl
 |y::xs,u::us,.cons r t,f=>by
  rw [List.all_cons,Bool.and_eq_true] at f
  rw [List.any_cons,List.any_cons,Sr r f.1,Cf t f.2]
theorem xM {A:Around} {s:Shared} {x:V} {v:Value} (rx:cD x v) (fx:oU x=true):∀ {xs:List V} {us:List Value},bS xs us->xs.all oU=true->∀ u∈us,SeqAt.EqAt A s u v (Tx x u)
 |_,_,.nil,_=>fun u hu=>by cases hu
 |y::xs,u::us,.cons r t,f=>fun u' hu=>by
  rw [List.all_cons,Bool.and_eq_true] at f
  rcases List.mem_cons.mp hu with rfl|hu
  ·rw [Sr r f.1];exact Yu r rx f.1 fx
  ·exact xM rx fx t f.2 u' hu
def Px (x:V) (xs:List V):Bool:=xs.any fun y=>Wx y x
def rIn (K:PySem.W.Frag) (neg:Bool):R2:=fun x y H Q=>∃ p xs,y=.ref p/\(cW K H p xs\/cN K H p xs)/\oU x=true/\xs.all oU=true/\Q (.bl (if neg then !Px x xs else Px x xs)) H
theorem lL:uA X (compareOp .NotIn) (rIn X.K true):=by
 intro pins s σ H x y v u Q I rx ry h
 obtain ⟨p,xs,rfl,hq,fx,fs,q⟩:=h
 cases ry
 rcases hq with hq|hq
 ·obtain ⟨its,r,pl,hz⟩:=I.list hq
  refine SeqAt.notIn_listAt (Tx x) pl.isList (fun w hw=>xM rx fx r fs w (by simpa using hw)) ⟨.bl _,H,I,rfl,?_⟩
  rw [show its.toArray.any (Tx x)=its.any (Tx x) by simp,Cf r fs]
  exact q
 ·obtain ⟨its,r,pl,hz⟩:=I.tuple hq
  refine SeqAt.notIn_tupleAt (Tx x) pl (fun w hw=>xM rx fx r fs w (by simpa using hw)) ⟨.bl _,H,I,rfl,?_⟩
  rw [show its.toArray.any (Tx x)=its.any (Tx x) by simp,Cf r fs]
  exact q
theorem bW:mK X (.builtin "len") (fun xs H Q=>∃ p ys,xs=[.ref p]/\(cW X.K H p ys\/cN X.K H p ys)/\Q (.int ys.length) H):=by
 intro pins s σ H xs us Q I r h
 obtain ⟨p,ys,rfl,hq,q⟩:=h
 obtain ⟨u,rfl,rx⟩:=xO r
 cases rx
 have hn:=Gr
 rcases hq with hq|hq
 ·obtain ⟨its,r',pl,hz⟩:=I.list hq
  have hlen:=r'.length
  exact Calls.call_len_list pl.isList (by simp only [List.size_toArray]<;>omega) ⟨.int ys.length,H,I.tok _,⟨s.toks+1,by rw [List.size_toArray,hlen]⟩,q⟩
 ·obtain ⟨its,r',pl,hz⟩:=I.tuple hq
  have hlen:=r'.length
  exact len_tuple pl (by simp only [List.size_toArray]<;>omega) ⟨.int ys.length,H,I.tok _,⟨s.toks+1,by rw [List.size_toArray,hlen]⟩,q⟩
theorem pQ:mK X (.type "list") (fun xs H Q=>∃ p ys,xs=[.ref p]/\(cW X.K H p ys\/cN X.K H p ys)/\∀ l,H l=none->Q (.ref l) (upd H l (.lst ys))):=by
 intro pins s σ H xs us Q I r h
 obtain ⟨p,ys,rfl,hq,q⟩:=h
 obtain ⟨u,rfl,rx⟩:=xO r
 cases rx
 have fin:∀ (its:List Value),bS ys its->ys.length<=sizeLine->∀ (h':Heap) (c':Nat),(∀ b o',s.heap.get? b=some o'->h'.get? b=some o')->
   h'.get? s.heap.objs.size=some {cls:=.type "list",dict:=none,data:=.seq its.toArray c',slots:=#[]}->EP X pins σ Q (.ref s.heap.objs.size) {s with heap:=h'}:=fun its r' hz h' c' kp e=>
  ⟨.ref s.heap.objs.size,_,I.laid (t':=s.toks) kp (Nat.le_refl _) (show cK X.prog X.w _ h' _ (.lst ys) from ⟨hz,its,c',r',e⟩),rfl,q _ (I.hok.fresh (Nat.le_refl _))⟩
 rcases hq with hq|hq
 ·obtain ⟨its,r',pl,hz⟩:=I.list hq
  have hlen:=r'.length
  obtain ⟨o,ho,hc,n,hd⟩:=pl.isList
  exact call_list_seq p (.inl rfl) ho hc hd (fun h' c' kp e=>fin its r' hz h' c' kp e) (by simp only [List.size_toArray]<;>omega)
 ·obtain ⟨its,r',pl,hz⟩:=I.tuple hq
  have hlen:=r'.length
  obtain ⟨o,ho,hc,n,hd⟩:=pl
  exact call_list_seq p (.inr rfl) ho hc hd (fun h' c' kp e=>fin its r' hz h' c' kp e) (by simp only [List.size_toArray]<;>omega)
theorem oV:mK X (.type "tuple") (fun xs H Q=>∃ p ys,xs=[.ref p]/\((cW X.K H p ys/\∀ l,H l=none->Q (.ref l) (upd H l (.tup ys)))\/(cN X.K H p ys/\Q (.ref p) H))):=by
 intro pins s σ H xs us Q I r h
 obtain ⟨p,ys,rfl,h⟩:=h
 obtain ⟨u,rfl,rx⟩:=xO r
 cases rx
 rcases h with ⟨hq,q⟩|⟨hq,q⟩
 ·obtain ⟨its,r',pl,hz⟩:=I.list hq
  have hlen:=r'.length
  refine call_tuple_list pl.isList (fun h' kp=>?_) (by simp only [List.size_toArray]<;>omega)
  have I1:aQ X pins σ H {s with heap:=h'}:=I.kept (t':=s.toks) kp
  have I2:aQ X pins σ (upd H h'.objs.size (.tup ys)) {s with heap:=h'.push {cls:=.type "tuple",data:=.seq its.toArray}}:=
   I1.laid (t':=s.toks) (fun b o e=>Heap.get?_push_of_some _ e) (Nat.le_refl _) (show cK X.prog X.w _ _ _ (.tup ys) from ⟨hz,its,r',IsTup.new _ _⟩)
  exact ⟨.ref h'.objs.size,_,I2,rfl,q _ (I1.hok.fresh (Nat.le_refl _))⟩
 ·obtain ⟨its,r',pl,hz⟩:=I.tuple hq
  exact call_tuple_same pl ⟨.ref p,H,I,rfl,q⟩
def tyV (K:PySem.W.Frag) (T:String) (x:V) (H:Hp):Prop:=match x with
 |.str _=>T="str"
 |.int _=>T="int"
 |.ref p=>(T="list"/\∃ xs,cW K H p xs)\/(T="tuple"/\∃ o,K.lookup p=some o/\o.cls=.type "tuple"/\o.dict=none)\/
   (T="dict"/\((∃ aJ,H p=some (.dK aJ))\/∃ aJ,H p=some (.dT aJ)))\/(T="set"/\∃ S n,H p=some (.set S n))
 |_=>False
theorem Sn {pins:List (Addr×Obj)} {σ:St} {H:Hp} {s:Shared} {T:String} {x:V} {v:Value} (I:aQ X pins σ H s) (r:cD x v) (ty:tyV X.K T x H):
  s.TypeIs v T/\∀ a,v=.ref a->∃ ob,s.heap.get? a=some ob/\ob.dict=none:=by
 cases x with
 |str z=>
  obtain ⟨t,rfl⟩:=r
  cases (show T="str" from ty)
  exact ⟨typeIs_str s z t,fun _ e=>nomatch e⟩
 |int i=>
  obtain ⟨t,rfl⟩:=r
  cases (show T="int" from ty)
  exact ⟨typeIs_int s i t,fun _ e=>nomatch e⟩
 |ref p=>
  cases r
  rcases ty with ⟨rfl,xs,hq⟩|⟨rfl,o,hk,hc,hd⟩|⟨rfl,hk⟩|⟨rfl,S,n,hk⟩
  ·obtain ⟨its,_,pl,_⟩:=I.list hq
   refine ⟨pl.isList.typeIs,fun a e=>?_⟩
   cases e
   obtain ⟨o,n,e,c,hd,_⟩:=pl
   exact ⟨o,e,hd⟩
  ·refine ⟨⟨o,I.kIn p o hk,hc⟩,fun a e=>?_⟩
   cases e
   exact ⟨o,I.kIn _ o hk,hd⟩
  ·have z:∃ o,s.heap.get? p=some o/\o.ExactDict:=by
    rcases hk with ⟨aJ,hk⟩|⟨aJ,hk⟩
    ·obtain ⟨_,_,_,_,o,_,_,e,ex,_⟩:=I.hok p _ hk
     exact ⟨o,e,ex⟩
    ·obtain ⟨_,_,_,_,o,_,_,e,ex,_⟩:=I.hok p _ hk
     exact ⟨o,e,ex⟩
   obtain ⟨o,e,ex⟩:=z
   refine ⟨⟨o,e,ex.1⟩,fun a e2=>?_⟩
   cases e2
   exact ⟨o,e,ex.2.1⟩
  ·obtain ⟨o,_,_,_,e,ex,_⟩:=I.hok p _ hk
   refine ⟨⟨o,e,ex.1⟩,fun a e2=>?_⟩
   cases e2
   exact ⟨o,e,ex.2.1⟩
 |_=>exact False.elim ty
def aCr (K:PySem.W.Frag) (T:String) (r:V->List V->Hp->VK->Prop) (to:TE):TE:=fun σ H Q=>to σ H fun x H1=>tyV K T x H1/\r x [] H1 Q
def tBM (K:PySem.W.Frag) (T:String) (r:V->List V->Hp->VK->Prop) (to:TE) (t:TA):TE:=fun σ H Q=>to σ H fun x H1=>tyV K T x H1/\t σ H1 fun xs H2=>r x xs H2 Q
variable {o e:Expr} {es:List Expr} {to:TE} {t:TA} {name:Str} {apos cpos:Pos} {T id:String} {r:V->List V->Hp->VK->Prop}
theorem aAs (pa:PlainAttrs T) (slot:Slot T name id) (hty:typeOf (.builtin id)=pure (.type "method_descriptor")) (hm:MtR X id r) (ho:PE X o to)
  (hbase:attributeBase o name X.env (eval o X.env)=eval o X.env:=by rfl) (hline:(apos.endLine==cpos.line)=true:=by rfl):PE X (.Call (.Attribute o name apos) [] [] cpos) (aCr X.K T r to):=by
 intro pins s σ H Q I h
 refine wpAny_Call_method0_late hbase hline (cV (ho pins s σ H _ I h) fun v s1 ⟨x,H1,I1,r1,ty,q1⟩=>?_)
 obtain ⟨h1,h2⟩:=Sn I1 r1 ty
 exact ⟨T,id,pa,slot,hty,h1,h2,Calls.callWith_builtin rfl (PySem.evalArgs_none (hm pins s1 σ H1 x [] v [] Q I1 r1 .nil q1))⟩
theorem mV (pa:PlainAttrs T) (slot:Slot T name id) (hty:typeOf (.builtin id)=pure (.type "method_descriptor")) (hm:MtR X id r) (ho:PE X o to) (ha:PA X (e::es) t)
  (hbase:attributeBase o name X.env (eval o X.env)=eval o X.env:=by rfl)
  (hfew:((backTo cpos (starEach (e::es) X.env)).all (fun x=> !x.1) && (backToKw cpos (keywordEach [] X.env)).all (fun x=>x.1.isSome)
   && decide ((e::es).length+([]:List Keyword).length+(if ([]:List Keyword).isEmpty then 0 else 1)<30))=true:=by rfl)
  (hline:(apos.endLine==cpos.line)=true:=by rfl) (hs:starEach (e::es) X.env=(false,eval e X.env)::starEach es X.env:=by rfl) (hplain:(backTo cpos (starEach es X.env)).any (·.1)=false:=by rfl):
  PE X (.Call (.Attribute o name apos) (e::es) [] cpos) (tBM X.K T r to t):=by
 intro pins s σ H Q I h
 refine wpAny_Call_method_late hbase hfew hline rfl (cV (ho pins s σ H _ I h) fun v s1 ⟨x,H1,I1,r1,ty,q1⟩=>?_)
 obtain ⟨h1,h2⟩:=Sn I1 r1 ty
 refine ⟨T,id,pa,slot,hty,h1,h2,?_⟩
 have hA:=ha cpos pins s1 σ H1 _ I1 q1
 rw [hs] at hA ⊢
 refine Calls.callWith_builtin (by show (false||(backTo cpos (starEach es X.env)).any (·.1))=false;rw [hplain]<;>rfl) (Calls.evalArgs_plain ?_)
 exact cV hA fun us s2 ⟨vs,H2,I2,r2,q2⟩=>hm pins s2 σ H2 x vs v us Q I2 r1 r2 q2
end
def MtM (X:Cx) (id:String) (r:V->List V->Hp->VK->Prop):Prop:=
 ∀ (pins:List (Addr×Obj)) (s:Shared) (σ:St) (H:Hp) (x:V) (xs:List V) (v:Value) (us:List Value) (Q:VK),aQ X pins σ H s->cD x v->bS xs us->r x xs H Q->
  wpAny (model X.prog X.w) X.A (call (.builtin id) (v::us)) (EP X pins σ Q) X.xe s
theorem bS.one:∀ {x:V} {us:List Value},bS [x] us->∃ u,us=[u]/\cD x u
 |_,_,.cons r .nil=>⟨_,rfl,r⟩
theorem bS.zero:∀ {us:List Value},bS [] us->us=[]
 |_,.nil=>rfl
theorem bS.dropLast {xs:List V} {us:List Value} (h:bS xs us):bS xs.dropLast us.dropLast:=by
 induction h with
 |nil=>exact .nil
 |cons r t ih=>
  cases t with
  |nil=>exact .nil
  |cons q t'=>exact .cons r ih
theorem Ja {α:Type} (l:List α):l.eraseIdx (l.length - 1)=l.dropLast:=by
 induction l with
 |nil=>rfl
 |cons a r ih=>
  cases r with
  |nil=>rfl
  |cons b r=>
   have e:(a::b::r).length - 1=((b::r).length - 1)+1:=by
    have h1:(a::b::r).length=r.length+2:=rfl
    have h2:(b::r).length=r.length+1:=rfl
    omega
   rw [e,List.eraseIdx_cons_succ,ih]
   all_goals rfl
section
variable {X:Cx} {pins:List (Addr×Obj)} {σ:St} {H:Hp} {s:Shared} {l b:Addr} {xs ys zs:List V}
theorem aQ.lset {its its':List Value} {n:Nat} {f:Array Value->Array Value} {t':Nat} (I:aQ X pins σ H s) (hH:H l=some (.lst xs))
  (e:s.heap.get? l=some {cls:=.type "list",data:=.seq its.toArray n}) (hf:f its.toArray=its'.toArray) (hv:bS ys its') (hz:ys.length<=sizeLine):
  aQ X pins σ (upd H l (.lst ys)) {s with heap:=s.heap.update l (Obj.mapSeq f),toks:=t'}:=by
 have q:=PySem.IsL.update e f
 rw [hf] at q
 refine I.write (x:=l) (e:=l) (by rw [hH];exact trivial) (.inl rfl) (fun b' u hb hu=>(Heap.get?_update_other s.heap (Obj.mapSeq f) (Ne.symm hb)).trans hu) ⟨_,q⟩ ?_
 exact ⟨hz,its',_,hv,q⟩
theorem aQ.lnew {its:List Value} {t':Nat} (I:aQ X pins σ H s) (hv:bS ys its) (hz:ys.length<=sizeLine):
  aQ X pins σ (upd H s.heap.objs.size (.lst ys)) {s with heap:=s.heap.push {cls:=.type "list",data:=.seq its.toArray},toks:=t'}:=
 I.laid (fun _ _ q=>Heap.get?_push_of_some _ q) (Nat.le_refl _) ⟨hz,its,0,hv,Heap.get?_push_size _ rfl⟩
theorem aQ.fresh (I:aQ X pins σ H s):H s.heap.objs.size=none:=I.hok.fresh (Nat.le_refl _)
theorem aQ.lstM (I:aQ X pins σ H s) (hH:H l=some (.lst xs)):xs.length<=sizeLine/\∃ (its:List Value) (n:Nat),bS xs its/\xs.length=its.length/\s.heap.get? l=some {cls:=.type "list",data:=.seq its.toArray n}:=by
 obtain ⟨z,its,n,r,e⟩:=I.hok l _ hH
 exact ⟨z,its,n,r,r.length,e⟩
theorem Pq {n:Nat} (h:n<=sizeLine):Builtin.List.listTooLong n=false:=by
 unfold Builtin.List.listTooLong
 exact decide_eq_false (by omega)
end
section
variable {X:Cx}
def Ky:V->List V->Hp->VK->Prop:=fun x vs H Q=>∃ l xs y,x=.ref l/\vs=[y]/\H l=some (.lst xs)/\xs.length<sizeLine/\Q .non (upd H l (.lst (xs++[y])))
theorem gJ:MtM X "list.append" Ky:=by
 intro pins s σ H x vs v us Q I rx rv h
 obtain ⟨l,xs,y,rfl,rfl,hH,hz,q⟩:=h
 cases rx
 obtain ⟨u,rfl,ru⟩:=rv.one
 obtain ⟨z,its,n,r,hl,e⟩:=I.lstM hH
 refine call_meets F.slot_list_append ⟨_,e,rfl⟩ F.entry_list_append (F.args_list_append_2 _ _) (PySem.list_append l its.toArray n u (by rw [List.size_toArray];omega)) ⟨e,?_⟩
 refine ⟨.non,_,I.lset (its':=its++[u]) hH e (by simp) (r.append (.cons ru .nil)) ?_,rfl,q⟩
 rw [List.length_append,List.length_singleton]
 omega
def Vw:V->List V->Hp->VK->Prop:=fun x vs H Q=>∃ l b xs zs,x=.ref l/\vs=[.ref b]/\H l=some (.lst xs)/\H b=some (.lst zs)/\xs.length+zs.length<=sizeLine/\Q .non (upd H l (.lst (xs++zs)))
theorem sT:MtM X "list.extend" Vw:=by
 intro pins s σ H x vs v us Q I rx rv h
 obtain ⟨l,b,xs,zs,rfl,rfl,hH,hB,hz,q⟩:=h
 cases rx
 obtain ⟨u,rfl,ru⟩:=rv.one
 cases ru
 obtain ⟨z,its,n,r,hl,e⟩:=I.lstM hH
 obtain ⟨z2,its2,n2,r2,hl2,e2⟩:=I.lstM hB
 have hsz:its.toArray.size+its2.toArray.size<=sizeLine:=by rw [List.size_toArray,List.size_toArray];omega
 have hlong:¬(!its.toArray.isEmpty && Builtin.List.listTooLong (its.toArray.size+its2.toArray.size))=true:=by
  rw [Pq hsz,Bool.and_false]
  exact Bool.false_ne_true
 refine call_meets F.slot_list_extend ⟨_,e,rfl⟩ F.entry_list_extend (F.args_list_extend_2 _ _)
  (AutoSeq1.list_extend_list_list_0 l its.toArray n b its2.toArray n2 hlong (by rw [List.size_toArray];omega) (by omega)) ⟨e,e2,?_⟩
 refine ⟨.non,_,I.lset (its':=its++its2) hH e (by simp) (r.append r2) ?_,rfl,q⟩
 rw [List.length_append]
 omega
def aDk:V->List V->Hp->VK->Prop:=fun x vs H Q=>∃ l xs y,x=.ref l/\vs=[]/\H l=some (.lst xs)/\xs[xs.length - 1]?=some y/\Q y (upd H l (.lst xs.dropLast))
theorem aAa:MtM X "list.pop" aDk:=by
 intro pins s σ H x vs v us Q I rx rv h
 obtain ⟨l,xs,y,rfl,rfl,hH,hy,q⟩:=h
 cases rx
 have hus:=rv.zero
 subst hus
 obtain ⟨z,its,n,r,hl,e⟩:=I.lstM hH
 obtain ⟨u,hu,ru⟩:=r.get hy
 have hy':its.toArray[its.toArray.size - 1]?=some u:=by
  show its.toArray[its.length - 1]?=some u
  rw [<-Array.getElem?_toList,<-hl]
  exact hu
 refine call_meets F.slot_list_pop ⟨_,e,rfl⟩ F.entry_list_pop (F.args_list_pop_1 _) (MeetsSeq.list_pop_last l its.toArray n u hy' (by rw [List.size_toArray];omega)) ⟨e,?_⟩
 refine ⟨y,_,I.lset (its':=its.dropLast) hH e ?_ r.dropLast ?_,ru,q⟩
 ·show its.toArray.eraseIdxIfInBounds (its.toArray.size - 1)=its.dropLast.toArray
  rw [List.size_toArray,List.eraseIdxIfInBounds_toArray,Ja]
 ·rw [List.length_dropLast]
  omega
def aDw:R2:=fun x y H Q=>∃ l b xs zs,x=.ref l/\y=.ref b/\H l=some (.lst xs)/\H b=some (.lst zs)/\xs.length+zs.length<=sizeLine/\∀ p,H p=none->Q (.ref p) (upd H p (.lst (xs++zs)))
theorem Ci:uA X (binaryOp .Add) aDw:=by
 intro pins s σ H x y v u Q I rx ry h
 obtain ⟨l,b,xs,zs,rfl,rfl,hH,hB,hz,q⟩:=h
 cases rx
 cases ry
 obtain ⟨z,its,n,r,hl,e⟩:=I.lstM hH
 obtain ⟨z2,its2,n2,r2,hl2,e2⟩:=I.lstM hB
 refine PySem.P.add_list e e2 ?_ (by rw [List.size_toArray,List.size_toArray];omega)
 have ea:its.toArray++its2.toArray=(its++its2).toArray:=by simp
 rw [ea]
 exact ⟨.ref _,_,I.lnew (t':=s.toks) (r.append r2) (by rw [List.length_append];omega),rfl,q _ I.fresh⟩
end
section
variable {prog:Program} {w:World} {A:Around} {E:Value->Shared->Prop} {s:Shared}
end
section
variable {X:Cx}
end
theorem bS.ints:∀ {ns:List Int} {us:List Value},bS (ns.map V.int) us->IntsAre us ns
 |[],us,h=>by
  rw [List.map_nil] at h
  cases h
  exact IntsAre.nil
 |n::ns,us,h=>by
  rw [List.map_cons] at h
  cases h with
  |cons r t=>
   obtain ⟨k,rfl⟩:=r
   exact IntsAre.cons n k (bS.ints t)
theorem bS.bls:∀ {bs:List Bool} {us:List Value},bS (bs.map V.bl) us->us=bs.map Value.bool
 |[],us,h=>by
  rw [List.map_nil] at h
  cases h
  rfl
 |b::bs,us,h=>by
  rw [List.map_cons] at h
  cases h with
  |cons r t=>
   cases r
   rw [bS.bls t,List.map_cons]
theorem bS.ref1 {a:Addr} {us:List Value} (r:bS [V.ref a] us):us=[Value.ref a]:=by
 cases r with
 |cons r t=>
  cases t
  cases r
  rfl
section
variable {prog:Program} {w:World} {A:Around} {E:Value->Shared->Prop} {s:Shared} {l:Addr} {its:List Value} {ns:List Int} {Q:Value->Shared->Prop}
theorem Vn (hh:A.handled=none) (hl:s.heap.IsList l its.toArray) (hi:IntsAre its ns) (hne:0<ns.length)
  (h:∀ h' tk M t',(∀ b o,s.heap.get? b=some o->h'.get? b=some o)->M∈ns->(∀ a,a∈ns->M<=a)->Q (.int M t') {s with heap:=h',toks:=tk}):wpAny (model prog w) A (call (.builtin "min") [.ref l]) Q E s:=by
 obtain ⟨xs,e⟩:=hi.allInts.items
 have hn:numsOf (intItems xs).toList=ns:=by rw [<-e];exact hi.numsOf
 rw [nums_intItems] at hn
 subst hn
 rw [e] at hl
 have hsz:0<xs.size:=by simpa using hne
 refine PySem.min_intList hh hl hsz fun v h' tk hv hk=>?_
 obtain ⟨t,rfl⟩:=intItems_at hv
 obtain ⟨h1,h2⟩:=argBest_lt (numAt xs) (xs.size - 1)
 refine h h' tk _ t hk ?_ fun a ha=>?_
 ·rw [numAt_eq];exact PySem.getD_mem (by rw [List.length_map,Array.length_toList];omega)
 ·obtain ⟨j,hj,rfl⟩:=mem_getD ha
  rw [List.length_map,Array.length_toList] at hj
  rw [<-numAt_eq];exact h2 j (by omega)
end
section
variable {X:Cx}
def aC3 (K:PySem.W.Frag):List V->Hp->VK->Prop:=fun vs H Q=>∃ (a:Addr) (ns:List Int),vs=[V.ref a]/\cW K H a (ns.map V.int)/\0<ns.length/\∀ m,m∈ns->(∀ y,y∈ns->m<=y)->Q (.int m) H
theorem vB (hc:X.calm=true):mK X (.builtin "min") (aC3 X.K):=by
 intro pins s σ H vs us Q I r h
 obtain ⟨a,ns,rfl,hs,hne,q⟩:=h
 obtain ⟨its,rv,hl,_⟩:=I.list hs
 rw [bS.ref1 r]
 exact Vn (I.ok.hd hc) hl.isList rv.ints hne fun h' tk m t' hk h1 h2=>⟨.int _,H,I.kept hk,⟨_,rfl⟩,q m h1 h2⟩
end
section
variable {X:Cx}
end
section
variable {X:Cx}
end
theorem Fk {prog:Program} {w:World} {A:Around} {E:Value->Shared->Prop} {s:Shared} {l:Addr} {items:Array Value} {Q:Value->Shared->Prop} (hl:s.heap.IsList l items)
  (h:∀ s₂:Shared,s₂={s with heap:=s.heap.push {cls:=.type "list_iterator",data:=.fields #[.ref l,.int 0 0]}}->
   (s₂.heap.IsListIter s.heap.objs.size l 0/\s₂.heap.IsList l items)->l≠s.heap.objs.size->Q (.ref s.heap.objs.size) s₂):wpAny (model prog w) A (pyIter (.ref l)) Q E s:=by
 have hlt:l<s.heap.objs.size:=by obtain ⟨_,e,_⟩:=hl;exact Heap.lt_size e
 exact wpAny_pyIter_list hl (h _ rfl ⟨⟨_,Heap.get?_push_size _ rfl,rfl,rfl⟩,hl.push _⟩ (Nat.ne_of_lt hlt))
theorem sV {prog:Program} {w:World} {A:Around} {bs:List Bool} {its:List Value} (e:its=bs.map Value.bool):
  TruthOf prog w A (fun i v=>its.toArray[i]?=some v) (fun i=>bs.getD i false):=fun i v s Q E hv hq=>by
 have hv':its[i]?=some v:=by simpa using hv
 rw [e,List.getElem?_map] at hv'
 obtain ⟨b,hb,rfl⟩:=Option.map_eq_some_iff.mp hv'
 have hg:bs.getD i false=b:=by rw [List.getD_eq_getElem?_getD,hb]<;>rfl
 have hq':Q (bs.getD i false) s:=hq
 rw [hg] at hq'
 exact wpAny_truthy_bool hq'
theorem zR:∀ bs:List Bool,(List.range bs.length).any (fun i=>bs.getD i false)=bs.any id
 |[]=>rfl
 |b::bs=>by
  rw [List.length_cons,List.range_succ_eq_map,List.any_cons,List.any_map,List.any_cons,<-zR bs]
  all_goals rfl
theorem yO:∀ bs:List Bool,(List.range bs.length).all (fun i=>bs.getD i false)=bs.all id
 |[]=>rfl
 |b::bs=>by
  rw [List.length_cons,List.range_succ_eq_map,List.all_cons,List.all_map,List.all_cons,<-yO bs]
  all_goals rfl
section
variable {X:Cx}
def aCo (K:PySem.W.Frag):List V->Hp->VK->Prop:=fun vs H Q=>∃ (a:Addr) (bs:List Bool),vs=[V.ref a]/\cW K H a (bs.map V.bl)/\Q (.bl (bs.any id)) H
def aCp (K:PySem.W.Frag):List V->Hp->VK->Prop:=fun vs H Q=>∃ (a:Addr) (bs:List Bool),vs=[V.ref a]/\cW K H a (bs.map V.bl)/\Q (.bl (bs.all id)) H
theorem Yr (hc:X.calm=true):mK X (.builtin "any") (aCo X.K):=by
 intro pins s σ H vs us Q I r h
 obtain ⟨a,bs,rfl,hs,q⟩:=h
 obtain ⟨its,rv,hl,_⟩:=I.list hs
 rw [bS.ref1 r]
 have hb:=rv.bls
 refine call_any_walk (Fk hl.isList fun s₂ e2 st hne=>?_)
 subst e2
 refine ⟨_,_,_,_,_,_,_,rfl,Walks.list (A:=X.A.in1) (I.ok.hd hc) _ a hne its.toArray,st,sV hb,fun h' tk hk=>?_⟩
 refine ⟨.bl _,H,I.kept fun b o eo=>hk b o (fun hmem=>?_) (Heap.get?_push_of_some _ eo),?_,q⟩
 ·rcases List.mem_cons.mp hmem with e1|hmem
  ·exact absurd (e1▸Heap.lt_size eo) (Nat.lt_irrefl _)
  ·cases hmem
 ·show Value.bool _=Value.bool _
  rw [<-zR,hb,List.size_toArray,List.length_map]
theorem Zp (hc:X.calm=true):mK X (.builtin "all") (aCp X.K):=by
 intro pins s σ H vs us Q I r h
 obtain ⟨a,bs,rfl,hs,q⟩:=h
 obtain ⟨its,rv,hl,_⟩:=I.list hs
 rw [bS.ref1 r]
 have hb:=rv.bls
 refine call_all_walk (Fk hl.isList fun s₂ e2 st hne=>?_)
 subst e2
 refine ⟨_,_,_,_,_,_,_,rfl,Walks.list (A:=X.A.in1) (I.ok.hd hc) _ a hne its.toArray,st,sV hb,fun h' tk hk=>?_⟩
 refine ⟨.bl _,H,I.kept fun b o eo=>hk b o (fun hmem=>?_) (Heap.get?_push_of_some _ eo),?_,q⟩
 ·rcases List.mem_cons.mp hmem with e1|hmem
  ·exact absurd (e1▸Heap.lt_size eo) (Nat.lt_irrefl _)
  ·cases hmem
 ·show Value.bool _=Value.bool _
  rw [<-yO,hb,List.size_toArray,List.length_map]
end
mutual
inductive Dp (K:PySem.W.Frag) (H:Hp):V->PyData->Prop
 |non:Dp K H .non .none
 |bl (b:Bool):Dp K H (.bl b) (.bool b)
 |int (i:Int):Dp K H (.int i) (.int i)
 |str (x:Str):Dp K H (.str x) (.str x)
 |lst {a:Addr} {xs:List V} {ds:List PyData}:cW K H a xs->Ao K H xs ds->Dp K H (.ref a) (.list ds)
 |tup {a:Addr} {xs:List V} {ds:List PyData}:cN K H a xs->Ao K H xs ds->Dp K H (.ref a) (.tuple ds)
inductive Ao (K:PySem.W.Frag) (H:Hp):List V->List PyData->Prop
 |nil:Ao K H [] []
 |cons {v:V} {vs:List V} {d:PyData} {ds:List PyData}:Dp K H v d->Ao K H vs ds->Ao K H (v::vs) (d::ds)
end
section
variable {X:Cx} {pins:List (Addr×Obj)} {σ:St} {H:Hp} {s:Shared}
mutual
theorem Dp.reads (I:aQ X pins σ H s):∀ (d:PyData) (v:V) (u:Value),Dp X.K H v d->cD v u->∃ as,Reads s.heap u d as
 |.none,_,_,h,r=>by
  cases h
  cases r
  exact ⟨_,Reads.none⟩
 |.bool b,_,_,h,r=>by
  cases h
  cases r
  exact ⟨_,Reads.bool b⟩
 |.int i,_,_,h,r=>by
  cases h
  obtain ⟨t,rfl⟩:=r
  exact ⟨_,Reads.int i t⟩
 |.str x,_,_,h,r=>by
  cases h
  obtain ⟨t,rfl⟩:=r
  exact ⟨_,Reads.str x t⟩
 |.list ds,_,_,h,r=>by
  cases h with
  |lst hs ha=>
   cases r
   obtain ⟨its,rv,⟨o,n,ho,hc,_,hd⟩,_⟩:=I.list hs
   obtain ⟨as,hr⟩:=Dp.readsAll I ds _ its ha rv
   exact ⟨_,Reads.list ho hc hd hr⟩
 |.tuple ds,_,_,h,r=>by
  cases h with
  |tup hs ha=>
   cases r
   obtain ⟨its,rv,⟨o,ho,hc,n,hd⟩,_⟩:=I.tuple hs
   obtain ⟨as,hr⟩:=Dp.readsAll I ds _ its ha rv
   exact ⟨_,Reads.tuple ho hc hd hr⟩
 |.dict _,_,_,h,_=>by cases h
theorem Dp.readsAll (I:aQ X pins σ H s):∀ (ds:List PyData) (vs:List V) (us:List Value),Ao X.K H vs ds->bS vs us->∃ as,ReadsAll s.heap us ds as
 |[],_,_,h,r=>by
  cases h
  cases r
  exact ⟨_,ReadsAll.nil⟩
 |d::ds,_,_,h,r=>by
  cases h with
  |cons h1 h2=>
   cases r with
   |cons r1 r2=>
    obtain ⟨as,q1⟩:=Dp.reads I d _ _ h1 r1
    obtain ⟨bs,q2⟩:=Dp.readsAll I ds _ _ h2 r2
    exact ⟨_,ReadsAll.cons q1 q2⟩
end
end
section
variable {X:Cx}
end
abbrev Te (h:Heap) (c:Addr) (v:Option Value):Prop:=h.IsCell c v
def aCy (scope sc:Scope):Scope:=
 {scope with names:=scope.names.map fun (n,k)=>if (k==.free && sc.kind==.function && sc.names.lookup n==some .cell) then (n,.cell) else (n,k)}
def cX (cells:List (Str×Addr)):List (Str×NameKind)->List (Str×Addr)->List (Str×Addr)
 |[],acc=>acc
 |(n,k)::r,acc=>if k==.free then cX cells r ((n,(cells.lookup n).getD 0)::acc) else cX cells r acc
theorem qS (env:Env) (f:Str×NameKind->List (Str×Addr)->Sem (ForInStep (List (Str×Addr))))
  (hf:∀ n k c,f (n,k) c=if k==.free then (do let a <-cellOf env n;pure (.yield ((n,a)::c))) else pure (.yield c)):
  ∀ (names:List (Str×NameKind)) (acc:List (Str×Addr)),(∀ y∈names,y.2=.free->∃ c,env.cells.lookup y.1=some c)->forIn names acc f=pure (cX env.cells names acc)
 |[],acc,_=>by rw [List.forIn_nil];rfl
 |(n,k)::r,acc,h=>by
  rw [List.forIn_cons,hf]
  have ih:=fun acc=>qS env f hf r acc fun y hy=>h y (List.mem_cons_of_mem _ hy)
  unfold cX
  by_cases hk:(k==NameKind.free)=true
  ·rw [if_pos hk,if_pos hk]
   obtain ⟨c,hc⟩:=h (n,k) List.mem_cons_self (by simpa using hk)
   have e:cellOf env n=pure c:=by unfold cellOf;rw [hc]
   rw [e]
   have e2:(env.cells.lookup n).getD 0=c:=by rw [hc];rfl
   rw [e2]
   exact ih _
  ·rw [if_neg hk,if_neg hk]
   exact ih _
theorem Ha {scope:Scope} {env:Env} (h:∀ y∈scope.names,y.2=.free->∃ c,env.cells.lookup y.1=some c):closureFor scope env=pure (cX env.cells scope.names []):=by
 simp only [closureFor]
 rw [qS env _ (fun n k c=>rfl) scope.names [] h]
 rfl
theorem pF {α:Type}:∀ {l:List (Str×α)} {n:Str} {c:α},(n,c)∈l->∃ c',l.lookup n=some c'
 |(k,v)::r,n,c,h=>by
  rw [List.lookup_cons]
  cases hb:n==k with
  |true=>exact ⟨_,rfl⟩
  |false=>
   rcases List.mem_cons.mp h with e|h
   ·cases e;simp at hb
   ·exact pF h
theorem jN {cells:List (Str×Addr)}:∀ {names:List (Str×NameKind)} {acc:List (Str×Addr)} {n:Str} {c:Addr},(n,c)∈cX cells names acc->(n,c)∈acc\/((n,.free)∈names/\c=(cells.lookup n).getD 0)
 |[],_,_,_,h=>.inl h
 |(m,k)::r,acc,n,c,h=>by
  unfold cX at h
  split at h
  ·rename_i hk
   have hk:k=.free:=by simpa using hk
   rcases jN h with h|⟨h1,h2⟩
   ·rcases List.mem_cons.mp h with e|h
    ·cases e;exact .inr ⟨hk▸List.mem_cons_self,rfl⟩
    ·exact .inl h
   ·exact .inr ⟨List.mem_cons_of_mem _ h1,h2⟩
  ·rcases jN h with h|⟨h1,h2⟩
   ·exact .inl h
   ·exact .inr ⟨List.mem_cons_of_mem _ h1,h2⟩
theorem nB {cells:List (Str×Addr)}:∀ {names:List (Str×NameKind)} {acc:List (Str×Addr)} {p:Str×Addr},p∈acc->p∈cX cells names acc
 |[],_,_,h=>h
 |(m,k)::r,acc,p,h=>by
  unfold cX
  split
  ·exact nB (List.mem_cons_of_mem _ h)
  ·exact nB h
theorem nJ {cells:List (Str×Addr)}:∀ {names:List (Str×NameKind)} {acc:List (Str×Addr)} {n:Str},(n,.free)∈names->(n,(cells.lookup n).getD 0)∈cX cells names acc
 |(m,k)::r,acc,n,h=>by
  unfold cX
  rcases List.mem_cons.mp h with e|h
  ·cases e
   exact nB List.mem_cons_self
  ·split
   ·exact nJ h
   ·exact nJ h
theorem kF:∀ {names:List (Str×NameKind)} {h:Heap} {acc:List (Str×Addr)} {x:Str} {c:Addr},(x,c)∈cellsFrom h.objs.size names acc->
  (x,c)∈acc\/((x,.cell)∈names/\h.objs.size<=c/\Te (pushCells h names) c none)
 |[],_,_,_,_,h=>.inl h
 |(n,k)::r,h,acc,x,c,hm=>by
  unfold cellsFrom at hm
  unfold pushCells
  split at hm
  ·rename_i hk
   rw [if_pos hk]
   have hk:k=.cell:=by simpa using hk
   rw [<-Heap.size_push h {cls:=.type "cell",data:=.cell none}] at hm
   rcases kF hm with hm|⟨h1,h2,h3⟩
   ·rcases List.mem_cons.mp hm with e|hm
    ·cases e
     exact .inr ⟨hk▸List.mem_cons_self,Nat.le_refl _,_,pushCells_keeps r _ _ _ (Heap.get?_push_size _ rfl),rfl⟩
    ·exact .inl hm
   ·rw [Heap.size_push] at h2
    exact .inr ⟨List.mem_cons_of_mem _ h1,Nat.le_of_succ_le h2,h3⟩
  ·rename_i hk
   rw [if_neg hk]
   rcases kF hm with hm|⟨h1,h2,h3⟩
   ·exact .inl hm
   ·exact .inr ⟨List.mem_cons_of_mem _ h1,h2,h3⟩
theorem oK:∀ {names:List (Str×NameKind)} {n:Nat} {acc:List (Str×Addr)} {p:Str×Addr},p∈acc->p∈cellsFrom n names acc
 |[],_,_,_,h=>h
 |(m,k)::r,n,acc,p,h=>by
  unfold cellsFrom
  split
  ·exact oK (List.mem_cons_of_mem _ h)
  ·exact oK h
theorem rL:∀ {names:List (Str×NameKind)} {n:Nat} {acc:List (Str×Addr)} {x:Str},(x,.cell)∈names->∃ c,(x,c)∈cellsFrom n names acc
 |(m,k)::r,n,acc,x,h=>by
  unfold cellsFrom
  rcases List.mem_cons.mp h with e|h
  ·cases e
   exact ⟨n,oK List.mem_cons_self⟩
  ·split
   ·exact rL h
   ·exact rL h
theorem rX:∀ {names:List (Str×NameKind)} {h:Heap} {acc:List (Str×Addr)} {x y:Str} {c:Addr},(∀ p∈acc,p.2<h.objs.size)->(∀ x y c,(x,c)∈acc->(y,c)∈acc->x=y)->
  (x,c)∈cellsFrom h.objs.size names acc->(y,c)∈cellsFrom h.objs.size names acc->x=y
 |[],_,_,_,_,_,_,hi,h1,h2=>hi _ _ _ h1 h2
 |(n,k)::r,h,acc,x,y,c,hl,hi,h1,h2=>by
  unfold cellsFrom at h1 h2
  split at h1
  ·rename_i hk
   rw [if_pos hk] at h2
   rw [<-Heap.size_push h {cls:=.type "cell",data:=.cell none}] at h1 h2
   refine rX (h:=h.push _) (fun p hp=>?_) (fun x y c a b=>?_) h1 h2
   ·rw [Heap.size_push]
    rcases List.mem_cons.mp hp with rfl|hp
    ·exact Nat.lt_succ_self _
    ·exact Nat.lt_succ_of_lt (hl p hp)
   ·rcases List.mem_cons.mp a with e|a<;>rcases List.mem_cons.mp b with e'|b
    ·cases e;cases e';rfl
    ·cases e;exact absurd (hl _ b) (Nat.lt_irrefl _)
    ·cases e';exact absurd (hl _ a) (Nat.lt_irrefl _)
    ·exact hi _ _ _ a b
  ·rename_i hk
   rw [if_neg hk] at h2
   exact rX hl hi h1 h2
theorem Fv {M:Model} {A:Around} {E:Value->Shared->Prop} {s:Shared} {scope:Scope} {globals:Addr} {closure:List (Str×Addr)} {qual:Str} {func:Option Addr} {code:Value} {around:Env} {builtins:Addr} {Q:Env->Shared->Prop}
  (h:Q (newEnv scope s.heap.objs.size globals (cellsFrom (s.heap.objs.size+1) scope.names closure) qual func code (some around) builtins)
   {s with heap:=pushCells (s.heap.push {cls:=.type "dict",data:=.dict #[]}) scope.names}):
  wpAny M A (newFunctionEnv scope globals closure [] qual func code (some around) builtins) Q E s:=by
 simp only [newFunctionEnv,Option.isSome_some,if_true]
 refine wpAny_bind (wpAny_alloc ?_)
 refine wpAny_bind (wpAny_layCells _ (fun n k c=>rfl) scope.names closure _ _ ?_)
 rw [show ({s with heap:=s.heap.push {cls:=.type "dict",data:=.dict #[]}}:Shared).heap.objs.size=s.heap.objs.size+1 from Heap.size_push ..]
 rw [List.forIn_nil]
 exact wpAny_bind (wpAny_pure (wpAny_pure h))
theorem mI {sc:Scope}:∀ {names:List (Str×NameKind)} {x:Str} {k:NameKind},
  (names.map fun (n,k)=>if (k==NameKind.free && sc.kind==.function && sc.names.lookup n==some .cell) then (n,NameKind.cell) else (n,k)).lookup x=some k->
  ∃ k',names.lookup x=some k'/\(k=k'\/(k'=.free/\k=.cell))
 |[],_,_,h=>by simp at h
 |(n,k₀)::r,x,k,h=>by
  have ih:= @mI sc r x k
  have h':List.lookup x ((if (k₀==NameKind.free && sc.kind==.function && sc.names.lookup n==some .cell)=true then (n,NameKind.cell) else (n,k₀))::(r.map _))=some k:=h
  cases hx:x==n with
  |true=>
   simp only [List.lookup_cons,hx]
   by_cases hc:(k₀==NameKind.free && sc.kind==.function && sc.names.lookup n==some .cell)=true
   ·rw [if_pos hc] at h'
    simp only [List.lookup_cons,hx] at h'
    cases h'
    simp only [Bool.and_eq_true,beq_iff_eq] at hc
    exact ⟨k₀,rfl,.inr ⟨hc.1.1,rfl⟩⟩
   ·rw [if_neg hc] at h'
    simp only [List.lookup_cons,hx] at h'
    cases h'
    exact ⟨_,rfl,.inl rfl⟩
  |false=>
   simp only [List.lookup_cons,hx]
   by_cases hc:(k₀==NameKind.free && sc.kind==.function && sc.names.lookup n==some .cell)=true
   ·rw [if_pos hc] at h'
    simp only [List.lookup_cons,hx] at h'
    exact ih h'
   ·rw [if_neg hc] at h'
    simp only [List.lookup_cons,hx] at h'
    exact ih h'
structure Et (N:List Str) (sc scope:Scope) (own:List (Str×Nat)):Prop where
 kind:scope.kind=.function
 uniq:∀ y∈scope.names,scope.names.lookup y.1=some y.2
 ix:∀ p∈own,N[p.2]?=some p.1
 free:∀ y∈scope.names,y.2=.free->sc.names.lookup y.1=some .cell\/sc.names.lookup y.1=some .free
 own:∀ y∈scope.names,y.2=.local\/y.2=.cell->y.1∈own.map (·.1)\/y.1∉N
def eX (σ:St):List Nat->St
 |[]=>σ
 |v::vs=>(eX σ vs).set v none
theorem nL (σ:St):∀ vs:List Nat,(eX σ vs).length=σ.length
 |[]=>rfl
 |v::vs=>by unfold eX;rw [List.length_set,nL σ vs]
theorem sE {σ:St} {i:Nat} {x:V}:∀ {vs:List Nat},(eX σ vs)[i]?=some (some x)->σ[i]?=some (some x)/\i∉vs
 |[],h=>⟨h,by simp⟩
 |v::vs,h=>by
  unfold eX at h
  by_cases hi:v=i
  ·subst hi
   by_cases hv:v<(eX σ vs).length
   ·rw [List.getElem?_set_self hv] at h;cases h
   ·rw [List.getElem?_eq_none (by simpa using hv)] at h;cases h
  ·rw [List.getElem?_set_ne hi] at h
   obtain ⟨h1,h2⟩:=sE h
   exact ⟨h1,by simp only [List.mem_cons,not_or];exact ⟨fun e=>hi e.symm,h2⟩⟩
abbrev Cx.blk (X:Cx) (s:Shared) (H:Hp) (scope:Scope) (cenv:Env) (fp:List Addr):Cx:={X with s_0:=s,H_0:=H,env:=cenv,outer:=X.stack,ex:=fp,fn:=fun x=>scope.names.lookup x==some .cell,pn:=[],xe:=fun _ _=>False}
section
variable {X:Cx} {pins:List (Addr×Obj)} {σ:St} {H:Hp} {s:Shared}
theorem Dr {scope:Scope} {own:List (Str×Nat)} {fp:List Addr} (I:aQ X pins σ H s) (ok:Et X.N X.env.scope scope own) (hN:X.N.Nodup) (hfp:∀ b∈fp,tY X pins H b/\b<s.heap.objs.size):
  aQ (X.blk s H scope (compEnvC scope (cellsFrom (s.heap.objs.size+1) scope.names (cX X.env.cells scope.names [])) s.heap.objs.size X.env) fp) [] (eX σ (own.map (·.2))) H {s with heap:=pushCells (s.heap.push {cls:=.type "dict",data:=.dict #[]}) scope.names}:=by
 have hfree:∀ y∈scope.names,y.2=.free->∃ c,X.env.cells.lookup y.1=some c:=fun y hy e=>by
  rcases ok.free y hy e with k|k
  ·exact I.ok.has _ (.inl k)
  ·exact I.ok.has _ (.inr k)
 generalize hcenv:compEnvC scope (cellsFrom (s.heap.objs.size+1) scope.names (cX X.env.cells scope.names [])) s.heap.objs.size X.env=cenv
 have kp:∀ b o,s.heap.get? b=some o->(pushCells (s.heap.push {cls:=.type "dict",data:=.dict #[]}) scope.names).get? b=some o:=fun b o e=>pushCells_keeps _ _ _ _ (Heap.get?_push_of_some _ e)
 have hL:cenv.locals=s.heap.objs.size:=by rw [<-hcenv];rfl
 have hcl:cenv.cells=cellsFrom (s.heap.objs.size+1) scope.names (cX X.env.cells scope.names []):=by rw [<-hcenv];rfl
 have hsc:cenv.scope=aCy scope X.env.scope:=by rw [<-hcenv];rfl
 rw [<-Heap.size_push s.heap {cls:=.type "dict",data:=.dict #[]}] at hcl
 have cm:∀ {y c},(y,c)∈cX X.env.cells scope.names []->X.env.cells.lookup y=some c/\c<s.heap.objs.size:=fun {y c} hm=>by
  rcases jN hm with hm|⟨h1,rfl⟩
  ·cases hm
  ·obtain ⟨c,hc⟩:=hfree _ h1 rfl
   rw [hc]
   obtain ⟨w,z⟩:=I.cell _ _ hc
   exact ⟨rfl,z.lt⟩
 have mem:∀ {y c},cenv.cells.lookup y=some c->(X.env.cells.lookup y=some c/\c<s.heap.objs.size)\/(s.heap.objs.size+1<=c/\Te (pushCells (s.heap.push {cls:=.type "dict",data:=.dict #[]}) scope.names) c none):=fun {y c} e=>by
  rw [hcl] at e
  rcases kF (PySem.mem_of_lookup e) with hm|⟨_,h2,h3⟩
  ·exact .inl (cm hm)
  ·rw [Heap.size_push] at h2;exact .inr ⟨h2,h3⟩
 have look:∀ {y},scope.names.lookup y=some .free->∃ c,cenv.cells.lookup y=some c/\X.env.cells.lookup y=some c:=fun {y} hl=>by
  have hy:(y,NameKind.free)∈scope.names:=PySem.mem_of_lookup hl
  obtain ⟨c',e'⟩:=pF (oK (names:=scope.names) (n:=(s.heap.push {cls:=.type "dict",data:=.dict #[]}).objs.size) (nJ (cells:=X.env.cells) (acc:=[]) hy))
  rw [<-hcl] at e'
  refine ⟨c',e',?_⟩
  rw [hcl] at e'
  rcases kF (PySem.mem_of_lookup e') with hm|⟨h1,_,_⟩
  ·exact (cm hm).1
  ·have:=ok.uniq _ h1
   rw [hl] at this;cases this
 have Rm:(X.blk s H scope cenv fp).Ok:=by
  refine ⟨I.ok.mod,by show cenv.scope.kind=_;rw [hsc];exact ok.kind,by show cenv.globals=_;rw [<-hcenv];exact I.ok.glob,by show cenv.builtins=_;rw [<-hcenv];exact I.ok.blt,by show s.heap.objs.size<=cenv.locals;rw [hL];exact Nat.le_refl _,
   fun y z c e1 e2=>?_,fun y hy=>?_,fun y c z e=>?_,I.ok.hd,I.ok.frames,.inl rfl,fun b hb=>⟨?_,fun y c e z=>?_⟩,I.bs,Nat.le_trans I.ok.bsz I.sz,fun b o e hb=>?_,fun b hb z=>?_,I.stack,I.stkFree⟩
  ·have e1:cenv.cells.lookup y=some c:=e1
   have e2:cenv.cells.lookup z=some c:=e2
   rw [hcl] at e1 e2
   refine rX (fun p hp=>?_) (fun y z c a b=>I.ok.inj y z c (cm a).1 (cm b).1) (PySem.mem_of_lookup e1) (PySem.mem_of_lookup e2)
   rw [Heap.size_push]
   exact Nat.lt_succ_of_lt (cm (y:=p.1) (c:=p.2) hp).2
  ·show ∃ c,cenv.cells.lookup y=some c
   have key:∀ k,cenv.kindOf y=some k->(k=.cell\/k=.free)->∃ c,cenv.cells.lookup y=some c:=fun k hk hk'=>by
    unfold Env.kindOf at hk
    rw [hsc] at hk
    obtain ⟨k',e,r⟩:=mI hk
    have:k'=.cell\/k'=.free:=by
     rcases r with rfl|⟨rfl,_⟩
     ·exact hk'
     ·exact .inr rfl
    rcases this with rfl|rfl
    ·obtain ⟨c,hm⟩:=rL (n:=(s.heap.push {cls:=.type "dict",data:=.dict #[]}).objs.size) (acc:=cX X.env.cells scope.names []) (PySem.mem_of_lookup e)
     obtain ⟨c',e'⟩:=pF hm
     exact ⟨c',by rw [hcl];exact e'⟩
    ·obtain ⟨c,h1,_⟩:=look e
     exact ⟨c,h1⟩
   rcases hy with hy|hy
   ·exact key _ hy (.inl rfl)
   ·exact key _ hy (.inr rfl)
  ·have z:(scope.names.lookup y==some NameKind.cell)=true:=z
   have z:scope.names.lookup y=some .cell:=by simpa using z
   have e:cenv.cells.lookup y=some c:=e
   rw [hcl] at e
   rcases kF (PySem.mem_of_lookup e) with hm|⟨_,h2,_⟩
   ·rcases jN hm with hm|⟨h1,_⟩
    ·cases hm
    ·have q:=ok.uniq _ h1
     rw [z] at q;cases q
   ·rw [Heap.size_push] at h2
    exact Nat.le_of_succ_le h2
  ·show b≠cenv.locals
   rw [hL];exact Nat.ne_of_lt (hfp b hb).2
  ·have e:cenv.cells.lookup y=some c:=e
   rcases mem e with ⟨h1,_⟩|⟨h1,_⟩
   ·exact (hfp b hb).1.2.2.2.2.1 y c h1 z
   ·have h2:s.heap.objs.size+1<=b:=by rw [<-z];exact h1
    exact absurd (Nat.lt_of_lt_of_le (hfp b hb).2 (Nat.le_of_succ_le h2)) (Nat.lt_irrefl _)
  ·rcases (hfp b hb).1.2.2.2.1 with z|z
   ·exact I.ok.noex b o e z
   ·exact absurd (Nat.lt_of_lt_of_le (Heap.lt_size e) (Nat.le_trans I.ok.bsz z)) (Nat.lt_irrefl _)
  ·rcases List.mem_cons.mp (I.stkSub b z) with z|z
   ·exact (hfp b hb).1.2.1 z
   ·exact (hfp b hb).1.2.2.1 z
 refine ⟨Rm,rfl,I.bare,Un.kept kp,⟨fun _=>none,?_,fun i y av e1 e2 e3=>?_⟩,fun y c e=>?_,?_,fun y c e=>?_,fun p hp=>?_,I.hok.kept kp,by rw [nL];exact I.len⟩
 ·show Heap.Ns _ cenv.locals _
  rw [hL]
  exact Heap.Ns.keeps (Heap.Ns.new ..) fun b o e=>pushCells_keeps _ _ _ _ e
 ·obtain ⟨e2,hne⟩:=sE e2
  have hfr:scope.names.lookup y=some .free/\(cenv.kindOf y=some .cell\/cenv.kindOf y=some .free):=by
   have key:∀ k,cenv.scope.names.lookup y=some k->k=.local\/k=.cell\/k=.free->scope.names.lookup y=some .free/\(cenv.kindOf y=some .cell\/cenv.kindOf y=some .free):=fun k hk hk'=>by
    have hk0:=hk
    rw [hsc] at hk
    obtain ⟨k',e,r⟩:=mI hk
    have no:¬(k'=.local\/k'=.cell):=fun hh=>by
     rcases ok.own _ (PySem.mem_of_lookup e) hh with e'|e'
     ·obtain ⟨p,hp,hpy⟩:=List.mem_map.mp e'
      have e3:=ok.ix p hp
      have:p.1=y:=hpy
      rw [this] at e3
      exact hne (List.mem_map.mpr ⟨p,hp,xK hN e3 e1⟩)
     ·exact e' (List.mem_of_getElem? e1)
    rcases r with rfl|⟨rfl,rfl⟩
    ·rcases hk' with rfl|rfl|rfl
     ·exact absurd (.inl rfl) no
     ·exact absurd (.inr rfl) no
     ·exact ⟨e,.inr hk0⟩
    ·exact ⟨e,.inl hk0⟩
   have e3:Vis cenv.scope y:=e3
   rcases e3 with e3|e3|e3
   ·exact key _ e3 (.inl rfl)
   ·exact key _ e3 (.inr (.inl rfl))
   ·exact key _ e3 (.inr (.inr rfl))
  obtain ⟨m,hn,hl⟩:=I.loc
  have hvis:Vis X.env.scope y:=(ok.free _ (PySem.mem_of_lookup hfr.1) rfl).elim (fun k=>.inr (.inl k)) (fun k=>.inr (.inr k))
  obtain ⟨w,r,q⟩:=hl i y av e1 e2 hvis
  refine ⟨w,r,.inr ⟨hfr.2,?_⟩⟩
  obtain ⟨c,h1,h2⟩:=look hfr.1
  rcases q with ⟨k,_⟩|⟨_,c',e',z⟩
  ·have k:X.env.scope.names.lookup y=some .local:=k
   rcases ok.free _ (PySem.mem_of_lookup hfr.1) rfl with k'|k'<;>rw [show X.env.scope.names.lookup y=_ from k'] at k<;>cases k
  ·rw [h2] at e';cases e'
   exact ⟨c,h1,z.keeps kp⟩
 ·have e:cenv.cells.lookup y=some c:=e
  rcases mem e with ⟨h1,_⟩|⟨_,z⟩
  ·obtain ⟨w,z⟩:=I.cell y c h1
   exact ⟨w,z.keeps kp⟩
  ·exact ⟨_,z⟩
 ·show H cenv.locals=none
  rw [hL];exact I.hok.fresh (Nat.le_refl _)
 ·have e:cenv.cells.lookup y=some c:=e
  rcases mem e with ⟨h1,_⟩|⟨h1,_⟩
  ·exact I.freeC y c h1
  ·exact I.hok.fresh (Nat.le_of_succ_le h1)
 ·exact absurd (show p∈([]:List (Addr×Obj))++[] from hp) (by simp)
theorem Yl {E:Value->Shared->Prop} {D:Addr} {xs:List V} {y:V} {v:Value} {Q:Value->Shared->Prop} (I:aQ X pins σ H s) (hD:H D=some (.lst xs)) (hz:xs.length<sizeLine) (r:cD y v)
  (h:∀ s',aQ X pins σ (upd H D (.lst (xs++[y]))) s'->Q .none s'):wpAny (model X.prog X.w) X.A (call (.builtin "list.append") [.ref D,v]) Q E s:=by
 obtain ⟨hz',its,n,ri,e⟩:=I.hok D _ hD
 have hl:=ri.length
 refine append_at (hsz:=by rw [List.size_toArray];omega) e fun h' sb ho'=>?_
 refine h {s with heap:=h'} (I.write (t':=s.toks) (by rw [hD];trivial) (.inl rfl) (fun b u hb q=>(sb.2 b hb).trans q) ⟨_,ho'⟩ ⟨by rw [List.length_append];exact hz,its++[v],n+1,ri.append (.cons r .nil),?_⟩)
 rw [ho']
 simp
def PTs (X:Cx) (ifs:List Expr) (t:TT):Prop:=
 ∀ (pins:List (Addr×Obj)) (s:Shared) (σ:St) (H:Hp) (Q:Bool->Hp->Prop),aQ X pins σ H s->t σ H Q->
  wpAny (model X.prog X.w) X.A (forIn ifs true fun c r=>if r=true then do let ok <-isTrue c X.env (eval c X.env);pure (ForInStep.yield ok) else pure (ForInStep.yield r)) (TP X pins σ Q) X.xe s
def aBv:TT:=fun _ H Q=>Q true H
theorem gL:PTs X [] aBv:=fun _ _ _ H _ I h=>wpAny_tests_nil ⟨H,I,h⟩
theorem Uo {c:Expr} {t:TT} (h:PT X c t):PTs X [c] t:=fun pins s σ H Q I hw=>wpAny_tests_one (h pins s σ H Q I hw)
end
theorem Nb {α:Type} {t:Sem α} {Q Q':α->Shared->Prop} {M:Model} {A:Around} {E:Value->Shared->Prop} {s:Shared} (h:wpAny M A t Q (fun _ _=>False) s) (hQ:∀ a s,Q a s->Q' a s):wpAny M A t Q' E s:=wpAny_mono h hQ fun _ _ z=>False.elim z
theorem Bh {prog:Program} {w:World} {A:Around} {R:Result->Shared->Prop} {s:Shared} {elt target iter:Expr} {ifs:List Expr} {scope:Scope} {pos:Pos} {it acc:Value} {env:Env} (I:Nat->Shared->Prop)
  (turn:∀ n s,I n s->wpAny (model prog w) A (pyNext it) (fun r s₁=>match r with
   |none=>R (.ok .next) s₁
   |some v=>wpAny (model prog w) A (letOwnedTupleGo target it v) (fun _ s₁'=>wpAny (model prog w) A (assign target env v) (fun _ s₂=>
     wpAny (model prog w) A (forIn ifs true fun c r=>if r=true then do let ok <-isTrue c env (eval c env);pure (ForInStep.yield ok) else pure (ForInStep.yield r)) (fun ok s₃=>
      if ok=true then wpAny (model prog w) A (eval elt env) (fun x s₄=>
       wpAny (model prog w) A (call (.builtin "list.append") [acc,x]) (fun _ s₅=>∃ m,m<n/\I m s₅) (notedBy (model prog w) A env fun e s'=>R (.error e) s') s₄) (notedBy (model prog w) A env fun e s'=>R (.error e) s') s₃
      else ∃ m,m<n/\I m s₃) (notedBy (model prog w) A env fun e s'=>R (.error e) s') s₂) (notedBy (model prog w) A env fun e s'=>R (.error e) s') s₁') (notedBy (model prog w) A env fun e s'=>R (.error e) s') s₁) (notedBy (model prog w) A env fun e s'=>R (.error e) s') s)
  (n:Nat) (h:I n s):
  codeAny (model prog w) A (.compLoop (.ListComp elt [⟨target,iter,ifs,0⟩] scope pos) 0 it acc env) R s:=by
 refine codeAny_loop rfl I (fun n s hI=>?_) n h
 show wpAny _ A ((compTurn (.ListComp elt [⟨target,iter,ifs,0⟩] scope pos) 0 it acc env).onRaise (fun x=>do noteFrame x env;theTreesLotGoes x)) _ _ s
 refine wpAny_noted ?_
 rw [compTurn_list]
 refine wpAny_bind (wpAny_standAt (wpAny_bind (wpAny_mono (turn n s hI) (fun r s₁ h₁=>?_) fun _ _ h'=>h')))
 cases r with
 |none=>exact wpAny_pure h₁
 |some v=>
  refine wpAny_bind (wpAny_mono h₁ (fun _ s₁' h₁'=>?_) fun _ _ h'=>h')
  refine wpAny_bind (wpAny_mono h₁' (fun _ s₂ h₂=>wpAny_bind (wpAny_mono h₂ (fun ok s₃ h₃=>?_) fun _ _ h'=>h')) fun _ _ h'=>h')
  cases ok with
  |false=>exact wpAny_pure ⟨rfl,h₃⟩
  |true=>
   exact wpAny_bind (wpAny_bind (wpAny_mono h₃ (fun x s₄ h₄=>wpAny_bind (wpAny_mono h₄ (fun _ s₅ h₅=>wpAny_pure (wpAny_pure ⟨rfl,h₅⟩)) fun _ _ h'=>h')) fun _ _ h'=>h'))
section
variable {X:Cx}
def tLc (wi:TI) (g:TG) (tt:TT) (te:TE) (vs:List Nat):TE:=fun σ H Q=>wi σ H fun J H1=>∀ D,H1 D=none->∃ W:Nat->Nat->Hp->Prop,(∃ m,W 0 m (upd H1 D (.lst [])))/\∀ i m H,W i m H->
 (J.stop i H/\Q (.ref D) H)\/(J.go i H/\∃ Nx:Hp->Prop,(∀ H',Nx H'->∃ m',m'<m/\W (i+1) m' H')/\∀ x H',J.yld i H x H'->g x (eX σ vs) H' fun σ2 H2=>eX σ2 vs=eX σ vs/\tt σ2 H2 fun b H3=>
  if b=true then te σ2 H3 fun y H4=>∃ acc,H4 D=some (.lst acc)/\acc.length<sizeLine/\Nx (upd H4 D (.lst (acc++[y]))) else Nx H3)
theorem Kg {pins:List (Addr×Obj)} {s:Shared} {σ:St} {H:Hp} {Q:VK} {elt tg iter:Expr} {ifs:List Expr} {scope:Scope} {own:List (Str×Nat)} {pos pos':Pos} {wi:TI} {g:TG} {tt:TT} {te:TE} {use:Option (Value->Sem Unit)} {Qf:Value->Shared->Prop}
  (hc:X.calm=true) (hN:X.N.Nodup) (I:aQ X pins σ H s) (hi:PI X tg iter wi) (ok:Et X.N X.env.scope scope own)
  (hg:∀ (s:Shared) (H:Hp) (C:Addr) (cl:List (Str×Addr)) (fp:List Addr),PG (X.blk s H scope (compEnvC scope cl C X.env) fp) tg g) (ht:∀ (s:Shared) (H:Hp) (C:Addr) (cl:List (Str×Addr)) (fp:List Addr),PTs (X.blk s H scope (compEnvC scope cl C X.env) fp) ifs tt)
  (he:∀ (s:Shared) (H:Hp) (C:Addr) (cl:List (Str×Addr)) (fp:List Addr),PE (X.blk s H scope (compEnvC scope cl C X.env) fp) elt te) (hs:∀ x,foldedSetIterable iter X.env x=pure x)
  (h:tLc wi g tt te (own.map (·.2)) σ H Q)
  (hRR:∀ D C s' m H',aQ X pins σ H' s'->Q (.ref D) H'->s'.heap.Ns C m->tY X pins H' C->compPost (model X.prog X.w) X.A X.xe use Qf (.ref D) C (.ok .next) s'):
  wpAny (model X.prog X.w) X.A (comprehension (.ListComp elt [⟨tg,iter,ifs,0⟩] scope pos) scope X.env pos' (newList []) false (eval iter X.env) use) Qf X.xe s:=by
 have hfree:∀ y∈scope.names,y.2=.free->∃ c,X.env.cells.lookup y.1=some c:=fun y hy e=>by
  rcases ok.free y hy e with k|k
  ·exact I.ok.has _ (.inl k)
  ·exact I.ok.has _ (.inr k)
 refine wpAny_comprehension_free (use:=use) rfl hs (Ha hfree) ok.kind (fun y hy e=>by rw [ok.uniq y hy,e])
  (cV (hi pins s σ H _ I h) fun xv s1 hx=>cV hx fun itv s2 h2=>?_)
 obtain ⟨it,fp,tn,J,H2,e,I2,T,st2,f2,q⟩:=h2
 subst e
 refine wpAny_newObj_type (Fv ?_) (by show 0<=sizeLine;decide)
 generalize hD:s2.heap.objs.size=D
 have hDn:H2 D=none:=I2.hok.fresh (Nat.le_of_eq hD)
 obtain ⟨W,⟨m0,w0⟩,turn⟩:=q D hDn
 generalize hs3:({s2 with heap:=s2.heap.push {cls:=.type "list",data:=.seq ([]:List Value).toArray}}:Shared)=s3
 have I3:aQ X pins σ (upd H2 D (.lst [])) s3:=by
  rw [<-hs3]
  refine I2.laid (t':=s2.toks) (fun b o e=>Heap.get?_push_of_some _ e) (Nat.le_of_eq hD) ⟨Nat.zero_le _,[],0,.nil,?_⟩
  rw [<-hD]
  exact Heap.get?_push_size _ rfl
 have h3:s3.heap=s2.heap.push {cls:=.type "list",data:=.seq ([]:List Value).toArray}:=by rw [<-hs3]
 have sz:∀ b∈fp,b<s2.heap.objs.size:=fun b hb=>by
  obtain ⟨o,e,_⟩:=T.obj _ _ st2 b hb
  exact Heap.lt_size e
 have f3:∀ b∈fp,tY X pins (upd H2 D (.lst [])) b/\b<s3.heap.objs.size:=fun b hb=>by
  have hlt:=sz b hb
  refine ⟨⟨?_,(f2 b hb).2⟩,by rw [h3,Heap.size_push];exact Nat.lt_succ_of_lt hlt⟩
  rw [aC (by rw [<-hD];exact Nat.ne_of_lt hlt)]
  exact (f2 b hb).1
 have st3:tn 0 s3.heap:=T.keep _ _ _ st2 fun b _ o e=>by rw [h3];exact Heap.get?_push_of_some _ e
 have I4:=Dr I3 ok hN f3
 have pg:=hg s3 (upd H2 D (.lst [])) s3.heap.objs.size (cellsFrom (s3.heap.objs.size+1) scope.names (cX X.env.cells scope.names [])) fp
 have pt:=ht s3 (upd H2 D (.lst [])) s3.heap.objs.size (cellsFrom (s3.heap.objs.size+1) scope.names (cX X.env.cells scope.names [])) fp
 have pe:=he s3 (upd H2 D (.lst [])) s3.heap.objs.size (cellsFrom (s3.heap.objs.size+1) scope.names (cX X.env.cells scope.names [])) fp
 show codeAny _ _ (.compStart (.ListComp elt [⟨tg,iter,ifs,0⟩] scope pos) 0 (.ref it) (.ref D) (compEnvC scope (cellsFrom (s3.heap.objs.size+1) scope.names (cX X.env.cells scope.names [])) s3.heap.objs.size X.env)) (compPost (model X.prog X.w) X.A X.xe use Qf (.ref D) s3.heap.objs.size) {s3 with heap:=pushCells (s3.heap.push {cls:=.type "dict",data:=.dict #[]}) scope.names}
 have nfp:∀ b∈fp,(upd H2 D (.lst [])) b=none:=fun b hb=>(f3 b hb).1.1
 generalize hce:compEnvC scope (cellsFrom (s3.heap.objs.size+1) scope.names (cX X.env.cells scope.names [])) s3.heap.objs.size X.env=ce at I4 pg pt pe ⊢
 have cL:ce.locals=s3.heap.objs.size:=by subst hce;rfl
 generalize hH3:upd H2 D (.lst [])=H3 at I3 I4 pg pt pe w0 nfp f3
 generalize hs4:({s3 with heap:=pushCells (s3.heap.push {cls:=.type "dict",data:=.dict #[]}) scope.names}:Shared)=s4 at I4 ⊢
 have st4:tn 0 s4.heap:=T.keep _ _ _ st3 fun b _ o e=>by rw [<-hs4];exact pushCells_keeps _ _ _ _ (Heap.get?_push_of_some _ e)
 have stat:∀ {σ':St} {H':Hp} {s':Shared},aQ (X.blk s3 H3 scope ce fp) [] σ' H' s'->(∀ b∈fp,H' b=none)->∀ b∈fp,tY (X.blk s3 H3 scope ce fp) [] H' b:=fun {σ' H' s'} I' hn b hb=>
  ⟨hn b hb,(I'.ok.exf b hb).1,I'.ok.exfs b hb,.inl hb,fun x c e=>(I'.ok.exf b hb).2 x c e,fun p hp=>absurd (show p∈([]:List (Addr×Obj))++[] from hp) (by simp)⟩
 have loop:codeAny (model X.prog X.w) X.A (.compLoop (.ListComp elt [⟨tg,iter,ifs,0⟩] scope pos) 0 (.ref it) (.ref D) ce) (compPost (model X.prog X.w) X.A X.xe use Qf (.ref D) s3.heap.objs.size) s4:=by
  refine Bh (fun n s'=>∃ i H',aQ (X.blk s3 H3 scope ce fp) [] (eX σ (own.map (·.2))) H' s'/\tn i s'.heap/\(∀ b∈fp,H' b=none)/\W i n H') ?_ m0 ⟨0,H3,I4,st4,nfp,w0⟩
  rintro n s5 ⟨i,H5,I5,st5,n5,w5⟩
  rcases turn i n H5 w5 with ⟨stop,qq⟩|⟨go,Nx,hNx,step⟩
  ·have td:=T.done (X.blk s3 H3 scope ce fp) rfl rfl rfl hc i [] s5 _ H5 (fun _ _=>False) I5 (stat I5 n5) st5 stop
   refine Nb td fun r s6 ⟨hr,I6⟩=>?_
   subst hr
   have I7:aQ X pins σ H5 s6:=I3.call' (ch:=fp) I6.os I6.base I6.hok I6.bare fun b hb=>⟨(f3 b hb).1.2.2.2.1,(f3 b hb).1.2.1,(f3 b hb).1.2.2.2.2.1,(f3 b hb).1.2.2.2.2.2⟩
   have nC:H5 s3.heap.objs.size=none:=by
    have z:H5 ce.locals=none:=I6.free
    rw [cL] at z
    exact z
   obtain ⟨m,hn,_⟩:=I6.loc
   have hn:s6.heap.Ns ce.locals m:=hn
   rw [cL] at hn
   exact hRR D s3.heap.objs.size s6 m H5 I7 qq hn (I3.fpOk (Nat.le_refl _) nC)
  ·have ti:=T.item (X.blk s3 H3 scope ce fp) rfl rfl rfl hc i [] s5 _ H5 (fun _ _=>False) I5 (stat I5 n5) st5 go
   refine Nb ti fun r s6 ⟨u,hr,h6⟩=>?_
   subst hr
   refine Nb h6 fun _ s7 ⟨x,H7,I7,r7,y7,st7,n7⟩=>?_
   have I7':=I7.pinned (stat I7 n7) (T.obj _ _ st7)
   refine Nb (pg _ s7 _ H7 x u _ I7' r7 (step x H7 y7)) fun _ s8 ⟨σ8,H8,I8,hw8,q8⟩=>?_
   refine Nb (pt _ s8 σ8 H8 _ I8 q8) fun b s9 ⟨H9,I9,q9⟩=>?_
   have fin:∀ {s':Shared} {H':Hp},aQ (X.blk s3 H3 scope ce fp) ([]++sF fp s7.heap) σ8 H' s'->Nx H'->∃ m,m<n/\∃ i H',aQ (X.blk s3 H3 scope ce fp) [] (eX σ (own.map (·.2))) H' s'/\tn i s'.heap/\(∀ b∈fp,H' b=none)/\W i m H':=fun {s' H'} I' nx=>by
    obtain ⟨m',hm,w'⟩:=hNx H' nx
    have pin':∀ b∈fp,∀ o,s7.heap.get? b=some o->s'.heap.get? b=some o/\H' b=none:=fun b hb o e=>
     let z:=I'.pin (b,o) (List.mem_append_right _ (List.mem_append_right _ (iQ hb e)))
     ⟨z.1,z.2.1⟩
    have hl:(eX σ (own.map (·.2))).length=σ8.length:=by rw [<-hw8,nL]
    refine ⟨m',hm,i+1,H',(I'.unpinned (pins:=[])).weak hl (fun j v e=>?_),T.keep _ _ _ st7 fun b hb o e=>(pin' b hb o e).1,fun b hb=>?_,w'⟩
    ·rw [<-hw8] at e
     exact (sE e).1
    ·obtain ⟨o,e,_⟩:=T.obj _ _ st7 b hb
     exact (pin' b hb o e).2
   cases b with
   |false=>
    simp only [Bool.false_eq_true,if_false] at q9 ⊢
    exact fin I9 q9
   |true=>
    simp only [if_true] at q9 ⊢
    refine Nb (pe _ s9 σ8 H9 _ I9 q9) fun z s10 ⟨yv,H10,I10,r10,acc,hD10,hz10,nx⟩=>?_
    exact Yl (X:=X.blk s3 H3 scope ce fp) I10 hD10 hz10 r10 fun s11 I11=>fin I11 nx
 exact codeAny_compStart_list loop (T.self X.A 0 _ _ _ st4 loop)
theorem tL {elt tg iter:Expr} {ifs:List Expr} {scope:Scope} {own:List (Str×Nat)} {pos:Pos} {wi:TI} {g:TG} {tt:TT} {te:TE} (hc:X.calm=true) (hN:X.N.Nodup) (hi:PI X tg iter wi) (ok:Et X.N X.env.scope scope own)
  (hg:∀ (s:Shared) (H:Hp) (C:Addr) (cl:List (Str×Addr)) (fp:List Addr),PG (X.blk s H scope (compEnvC scope cl C X.env) fp) tg g) (ht:∀ (s:Shared) (H:Hp) (C:Addr) (cl:List (Str×Addr)) (fp:List Addr),PTs (X.blk s H scope (compEnvC scope cl C X.env) fp) ifs tt)
  (he:∀ (s:Shared) (H:Hp) (C:Addr) (cl:List (Str×Addr)) (fp:List Addr),PE (X.blk s H scope (compEnvC scope cl C X.env) fp) elt te) (hs:∀ x,foldedSetIterable iter X.env x=pure x:=by intro _;rfl):
  PE X (.ListComp elt [⟨tg,iter,ifs,0⟩] scope pos) (tLc wi g tt te (own.map (·.2))):=by
 intro pins s σ H Q I h
 rw [eval_ListComp]
 refine Kg hc hN I hi ok hg ht he hs h fun D C s' m H' I' q hn f=>⟨m,hn,fun h'' sb=>?_⟩
 obtain ⟨f0,f1,f2,f3,f4,f5⟩:=f
 exact ⟨.ref D,H',I'.turned (t':=s'.toks) (fun b o hb e=>(sb.2 b hb).trans e) f0 f1 f3 f4 f5,rfl,q⟩
theorem wT {i:Nat} {y:Str} {py:Pos} {elt tg iter:Expr} {ifs:List Expr} {scope:Scope} {own:List (Str×Nat)} {pos spos:Pos} {wi:TI} {g:TG} {tt:TT} {te:TE} (hc:X.calm=true) (hN:X.N.Nodup) (hy:X.N[i]?=some y) (hyl:X.env.scope.names.lookup y=some .local)
  (hsw:swapsWith (.ListComp elt [⟨tg,iter,ifs,0⟩] scope pos) (some (.Name y py)) spos.line X.env=pure true) (hi:PI X tg iter wi) (ok:Et X.N X.env.scope scope own)
  (hg:∀ (s:Shared) (H:Hp) (C:Addr) (cl:List (Str×Addr)) (fp:List Addr),PG (X.blk s H scope (compEnvC scope cl C X.env) fp) tg g) (ht:∀ (s:Shared) (H:Hp) (C:Addr) (cl:List (Str×Addr)) (fp:List Addr),PTs (X.blk s H scope (compEnvC scope cl C X.env) fp) ifs tt)
  (he:∀ (s:Shared) (H:Hp) (C:Addr) (cl:List (Str×Addr)) (fp:List Addr),PE (X.blk s H scope (compEnvC scope cl C X.env) fp) elt te) (hs:∀ x,foldedSetIterable iter X.env x=pure x:=by intro _;rfl):
  PS X (.Assign [.Name y py] (.ListComp elt [⟨tg,iter,ifs,0⟩] scope pos) spos) (Fi (tLc wi g tt te (own.map (·.2))) (lV i)):=by
 intro pins s σ H D I h
 rw [exec_Assign_Name_used _ _ _ _ hsw]
 refine wpAny_bind (wpAny_standAt (wpAny_bind ?_))
 show wpAny _ X.A (do let _ <-comprehension (.ListComp elt [⟨tg,iter,ifs,0⟩] scope pos) scope X.env (firstIterPos [⟨tg,iter,ifs,0⟩] pos) (newList []) false (eval iter X.env) (some (assign (.Name y py) X.env))) _ _ s
 have h:tLc wi g tt te (own.map (·.2)) σ H (fun x H1=>lV i x σ H1 D.nx):=h
 refine wpAny_bind (cV (Kg (Qf:=fun _ s'=>SP X pins D .next s') hc hN I hi ok hg ht he hs h fun L C s' m H' I' q hn f=>?_) fun _ s' hq=>wpAny_pure (wpAny_pure hq))
 show wpAny _ _ (assign (.Name y py) X.env (.ref L)) _ _ _
 refine wpAny_assign_Name (zN (v:=V.ref L) I' hN hy (.inl hyl) rfl (fun s2 I2 ⟨a,sb,ha⟩=>?_) (.inr hyl))
 obtain ⟨f0,f1,f2,f3,f4,f5⟩:=f
 have haC:C≠a:=by
  rcases ha with z|z
  ·rw [z];exact f1
  ·exact fun e=>f4 y a z e.symm
 refine ⟨m,hn.sameBut sb haC,fun h3 sb3=>?_⟩
 exact ⟨_,H',I2.turned (t':=s2.toks) (fun b o hb e=>(sb3.2 b hb).trans e) f0 f1 f3 f4 f5,q⟩
end
theorem nZ {K:PySem.W.Frag} {a:Addr} {xs:List V} {g:TG} {tt:TT} {te:TE} {vs:List Nat} {σ:St} {H1:Hp} {D:Addr} {Qd:Hp->Prop} (Pv:Nat->Hp->Prop) (h0:Pv 0 (upd H1 D (.lst []))) (hl:∀ i H,i<=xs.length->Pv i H->cW K H a xs)
  (hs:∀ i x H,xs[i]?=some x->Pv i H->g x (eX σ vs) H fun σ2 H2=>eX σ2 vs=eX σ vs/\tt σ2 H2 fun b H3=>
   if b=true then te σ2 H3 fun y H4=>∃ acc,H4 D=some (.lst acc)/\acc.length<sizeLine/\Pv (i+1) (upd H4 D (.lst (acc++[y]))) else Pv (i+1) H3) (hd:∀ H,Pv xs.length H->Qd H):
  ∃ W:Nat->Nat->Hp->Prop,(∃ m,W 0 m (upd H1 D (.lst [])))/\∀ i m H,W i m H->
   ((Qr K a).stop i H/\Qd H)\/((Qr K a).go i H/\∃ Nx:Hp->Prop,(∀ H',Nx H'->∃ m',m'<m/\W (i+1) m' H')/\∀ x H',(Qr K a).yld i H x H'->g x (eX σ vs) H' fun σ2 H2=>eX σ2 vs=eX σ vs/\tt σ2 H2 fun b H3=>
    if b=true then te σ2 H3 fun y H4=>∃ acc,H4 D=some (.lst acc)/\acc.length<sizeLine/\Nx (upd H4 D (.lst (acc++[y]))) else Nx H3):=by
 refine ⟨fun i m H=>m=xs.length - i/\i<=xs.length/\Pv i H,⟨xs.length,by simp,Nat.zero_le _,h0⟩,?_⟩
 rintro i m H ⟨rfl,hi,p⟩
 have q:=hl i H hi p
 by_cases hlt:i<xs.length
 ·refine .inr ⟨⟨xs,xs[i],q,by simp [hlt]⟩,Pv (i+1),fun H' p'=>⟨xs.length - (i+1),by omega,rfl,hlt,p'⟩,fun x H' y=>?_⟩
  obtain ⟨e,y⟩:=y
  subst e
  exact hs i x _ (y xs q) p
 ·have e:i=xs.length:=by omega
  subst e
  exact .inl ⟨⟨xs,q,Nat.le_refl _⟩,hd H p⟩
def aBe (N:List Str) (sc scope:Scope) (own:List (Str×Nat)):Bool:=
 (match scope.kind with|.function=>true|_=>false) && (scope.names.all fun y=>decide (scope.names.lookup y.1=some y.2)) && (own.all fun p=>decide (N[p.2]?=some p.1)) &&
  (scope.names.all fun y=>match y.2 with
   |.free=>(match sc.names.lookup y.1 with|some .cell=>true|some .free=>true|_=>false)
   |.local=>decide (y.1∈own.map (·.1))||decide (y.1∉N)
   |.cell=>decide (y.1∈own.map (·.1))||decide (y.1∉N)
   |_=>true)
theorem eW {N:List Str} {sc scope:Scope} {own:List (Str×Nat)} (h:aBe N sc scope own=true):Et N sc scope own:=by
 unfold aBe at h
 simp only [Bool.and_eq_true,List.all_eq_true,decide_eq_true_eq] at h
 obtain ⟨⟨⟨h1,h2⟩,h3⟩,h4⟩:=h
 refine ⟨?_,h2,h3,fun y hy e=>?_,fun y hy e=>?_⟩
 ·split at h1
  ·assumption
  ·cases h1
 ·have q:=h4 y hy
  simp only [e] at q
  split at q<;>first|exact .inl (by assumption)|exact .inr (by assumption)|cases q
 ·have q:=h4 y hy
  rcases e with e|e<;>(simp only [e,Bool.or_eq_true,decide_eq_true_eq] at q;exact q)
section
variable {prog:Program} {w:World} {A:Around} {R:Result->Shared->Prop} {s:Shared} {elt t0 i0 t1 i1:Expr} {ifs0 ifs1:List Expr} {scope:Scope} {pos:Pos} {it acc:Value} {env:Env}
end
section
variable {X:Cx}
end
section
variable {κ:Type} [DecidableEq κ]
def lP (aJ:List (κ×V)) (k:κ):Option V:=(aJ.find? fun kv=>decide (kv.1=k)).map (·.2)
def lG (aJ:List (κ×V)) (k:κ) (v:V):List (κ×V):=
 if (aJ.any fun kv=>decide (kv.1=k))=true then aJ.map (fun kv=>if kv.1=k then (kv.1,v) else kv) else aJ++[(k,v)]
theorem vO {p:κ×V} {r:List (κ×V)} {k:κ} (e:p.1=k):lP (p::r) k=some p.2:=by simp [lP,List.find?_cons,e]
theorem xW {p:κ×V} {r:List (κ×V)} {k:κ} (e:¬p.1=k):lP (p::r) k=lP r k:=by simp [lP,List.find?_cons,e]
theorem vZ (k:κ):∀ aJ:List (κ×V),(aJ.any fun kv=>decide (kv.1=k))=(lP aJ k).isSome
 |[]=>rfl
 |p::r=>by
  rw [List.any_cons]
  by_cases e:p.1=k
  ·simp only [vO e,decide_eq_true e,Bool.true_or,Option.isSome_some]
  ·rw [xW e,decide_eq_false e,Bool.false_or];exact vZ k r
theorem sW (aJ:List (κ×V)) (k:κ) (v:V):(lG aJ k v).length<=aJ.length+1:=by
 unfold lG
 split
 ·rw [List.length_map];omega
 ·rw [List.length_append,List.length_cons,List.length_nil];omega
theorem xG {aJ:List (κ×V)} {k:κ} (v:V) (h:lP aJ k=none):lG aJ k v=aJ++[(k,v)]:=by
 unfold lG
 rw [vZ,h]
 exact if_neg (by decide)
theorem lC.isSome_eq {o:Option V} {u:Option Value} (r:lC o u):o.isSome=u.isSome:=by
 cases o with
 |none=>cases u with
  |none=>rfl
  |some _=>exact (show False from r).elim
 |some _=>cases u with
  |none=>exact (show False from r).elim
  |some _=>rfl
theorem KV.val {aJ:List (κ×V)} {vs:List (κ×Value)} (r:KV aJ vs) (k:κ):lC (lP aJ k) (valueAt vs k):=by
 unfold KV at r
 induction r with
 |nil=>exact True.intro
 | @cons p q ps qs h t ih=>
  obtain ⟨h1,h2⟩:=h
  by_cases e:p.1=k
  ·have e':q.1=k:=h1.symm.trans e
   have b:valueAt (q::qs) k=some q.2:=by simp [valueAt,List.find?_cons,e']
   rw [vO e,b];exact h2
  ·have e':¬q.1=k:=fun z=>e (h1.trans z)
   have b:valueAt (q::qs) k=valueAt qs k:=by simp [valueAt,List.find?_cons,e']
   rw [xW e,b];exact ih
theorem KV.any {aJ:List (κ×V)} {vs:List (κ×Value)} (r:KV aJ vs) (k:κ):(aJ.any fun kv=>decide (kv.1=k))=vs.any fun kv=>decide (kv.1=k):=by
 unfold KV at r
 induction r with
 |nil=>rfl
 |cons h t ih=>rw [List.any_cons,List.any_cons,ih,h.1]
theorem KV.repl {aJ:List (κ×V)} {vs:List (κ×Value)} (r:KV aJ vs) (k:κ) {y:V} {u:Value} (ry:cD y u):
  KV (aJ.map fun kv=>if kv.1=k then (kv.1,y) else kv) (vs.map fun kv=>if kv.1=k then (kv.1,u) else kv):=by
 unfold KV at r ⊢
 induction r with
 |nil=>exact .nil
 | @cons p q ps qs h t ih=>
  rw [List.map_cons,List.map_cons]
  refine .cons ?_ ih
  obtain ⟨h1,h2⟩:=h
  by_cases e:p.1=k
  ·rw [if_pos e,if_pos (h1.symm.trans e)];exact ⟨h1,ry⟩
  ·rw [if_neg e,if_neg (fun z=>e (h1.trans z))];exact ⟨h1,h2⟩
theorem KV.put {aJ:List (κ×V)} {vs:List (κ×Value)} (r:KV aJ vs) (k:κ) {y:V} {u:Value} (ry:cD y u):KV (lG aJ k y) (stored vs k u):=by
 unfold lG stored
 rw [r.any k]
 by_cases e:(vs.any fun kv=>decide (kv.1=k))=true
 ·rw [if_pos e,if_pos e];exact r.repl k ry
 ·rw [if_neg e,if_neg e];exact Paired.snoc r ⟨rfl,ry⟩
theorem KV.length {aJ:List (κ×V)} {vs:List (κ×Value)} (r:KV aJ vs):aJ.length=vs.length:=Paired.length r
end
theorem Fd {P:Program} {w:World} {k:eF} {u:Value} (r:cD (kV k) u):(eT P w).is k u=true:=by
 cases k with
 |inl i=>obtain ⟨t,e⟩:=(show ∃ t,u=Value.int i t from r);subst e;exact Ed P w i t
 |inr x=>obtain ⟨t,e⟩:=(show ∃ t,u=Value.str x t from r);subst e;exact Ek P w x t
theorem Ak {P:Program} {w:World}:∀ {ks:List eF} {us:List Value},bS (ks.map kV) us->ItemsAre (eT P w) ks us
 |[],_,r=>by rw [List.map_nil] at r;cases r;exact .nil
 |k::ks,_,r=>by
  rw [List.map_cons] at r
  cases r with
  |cons h t=>exact .cons (Fd h) (Ak t)
abbrev KT (H:Hp):List (List eF×V)->List (List eF×Addr×Value)->Prop:=Paired fun p q=>p.1=q.1/\H q.2.1=some (.tup (p.1.map kV))/\cD p.2 q.2.2
theorem KT.val {H:Hp} {aJ:List (List eF×V)} {xs:List (List eF×Addr×Value)} (r:KT H aJ xs) (k:List eF):lC (lP aJ k) ((atKey xs k).map (·.2)):=by
 induction r with
 |nil=>exact True.intro
 | @cons p q ps qs h t ih=>
  obtain ⟨h1,_,h2⟩:=h
  by_cases e:p.1=k
  ·have e':q.1=k:=h1.symm.trans e
   have b:atKey (q::qs) k=some q.2:=by simp [atKey,List.find?_cons,e']
   rw [vO e,b];exact h2
  ·have e':¬q.1=k:=fun z=>e (h1.trans z)
   have b:atKey (q::qs) k=atKey qs k:=by simp [atKey,List.find?_cons,e']
   rw [xW e,b];exact ih
theorem KT.repl {H:Hp} {aJ:List (List eF×V)} {xs:List (List eF×Addr×Value)} (r:KT H aJ xs) (k:List eF) {y:V} {u:Value} (ry:cD y u):
  KT H (aJ.map fun kv=>if kv.1=k then (kv.1,y) else kv) (xs.map (putAt k u)):=by
 induction r with
 |nil=>exact .nil
 | @cons p q ps qs h t ih=>
  rw [List.map_cons,List.map_cons]
  refine .cons ?_ ih
  obtain ⟨h1,h2,h3⟩:=h
  unfold putAt
  by_cases e:p.1=k
  ·rw [if_pos e,if_pos (h1.symm.trans e)];exact ⟨h1,h2,ry⟩
  ·rw [if_neg e,if_neg (fun z=>e (h1.trans z))];exact ⟨h1,h2,h3⟩
theorem KT.put {H:Hp} {aJ:List (List eF×V)} {xs:List (List eF×Addr×Value)} (r:KT H aJ xs) (k:List eF) {b:Addr} {y:V} {u:Value} (hb:H b=some (.tup (k.map kV))) (ry:cD y u):
  KT H (lG aJ k y) (storedH xs k b u):=by
 have e:(aJ.any fun kv=>decide (kv.1=k))=(atKey xs k).isSome:=by
  rw [vZ,(r.val k).isSome_eq,Option.isSome_map]
 unfold lG storedH
 rw [e]
 by_cases q:(atKey xs k).isSome=true
 ·rw [if_pos q,if_pos q];exact r.repl k ry
 ·rw [if_neg q,if_neg q];exact Paired.snoc r ⟨rfl,hb,ry⟩
theorem KT.keeps {H H':Hp} {aJ:List (List eF×V)} {xs:List (List eF×Addr×Value)} (r:KT H aJ xs) (ht:∀ b ys,H b=some (.tup ys)->H' b=some (.tup ys)):KT H' aJ xs:=
 Paired.mapP r fun _ _ z=>⟨z.1,ht _ _ z.2.1,z.2.2⟩
section
variable {P:Program} {w:World} {H:Hp} {h:Heap} {a:Addr}
theorem Rk {u:HO} (ok:kR P w H h) (e:Rd H a u):cK P w H h a u:=e.ok ok
theorem El {aJ:List (eF×V)} (ok:kR P w H h) (e:Rd H a (.dK aJ)):aJ.length<=sizeLine/\(a==sysModules)=false/\∃ vs,KV aJ vs/\h.DictOf (eT P w) a vs:=
 show cK P w H h a (.dK aJ) from Rk ok e
theorem aA1 {aJ:List (eF×V)} (ok:kR P w H h) (e:H a=some (.dK aJ)):aJ.length<=sizeLine/\(a==sysModules)=false/\∃ vs,KV aJ vs/\h.DictOf (eT P w) a vs:=El ok (.inl e)
theorem sU {ks:List eF} (ok:kR P w H h) (e:H a=some (.tup (ks.map kV))):(tupleKind (eT P w)).is h ks a:=by
 obtain ⟨_,its,r,o,h1,h2,n,h3⟩:=(show cK P w H h a (.tup (ks.map kV)) from ok a _ e)
 exact ⟨o,its.toArray,n,h1,h2,h3,by simpa using Ak r⟩
theorem Fq {aJ:List (List eF×V)} (ok:kR P w H h) (e:Rd H a (.dT aJ)):aJ.length<=sizeLine/\(a==sysModules)=false/\
  ∃ xs,KT H aJ xs/\h.DictOfH (tupleKind (eT P w)) a xs:=by
 obtain ⟨z,y,xs,r,o,es,ep,h1,h2,h3,h4,h5⟩:=(show cK P w H h a (.dT aJ) from Rk ok e)
 refine ⟨z,y,xs,r,o,es,ep,h1,h2,h3,h4,fun x hx=>?_,h5⟩
 have all:∀ {l:List (List eF×V)} {m:List (List eF×Addr×Value)},KT H l m->∀ x∈m,(tupleKind (eT P w)).is h x.1 x.2.1:=by
  intro l m q
  induction q with
  |nil=>intro x hx;exact nomatch hx
  | @cons p q ps qs hq t ih=>
   intro x hx
   rcases List.mem_cons.mp hx with e|hx
   ·subst e
    exact sU ok (by rw [<-hq.1];exact hq.2.1)
   ·exact ih x hx
 exact all r x hx
theorem Ww {aJ:List (List eF×V)} (ok:kR P w H h) (e:H a=some (.dT aJ)):aJ.length<=sizeLine/\(a==sysModules)=false/\
  ∃ xs,KT H aJ xs/\h.DictOfH (tupleKind (eT P w)) a xs:=Fq ok (.inl e)
end
def sD (H:Hp) (a:Addr) (y:V) (r:Option V):Prop:=
 (∃ aJ k,Rd H a (.dK aJ)/\y=kV k/\r=lP aJ k)\/∃ aJ k b,Rd H a (.dT aJ)/\y=.ref b/\H b=some (.tup (k.map kV))/\r=lP aJ k
def yC (H:Hp) (a:Addr) (y v:V) (H':Hp):Prop:=
 (∃ aJ k,H a=some (.dK aJ)/\y=kV k/\aJ.length<sizeLine/\H'=upd H a (.dK (lG aJ k v)))\/
 ∃ aJ k b,H a=some (.dT aJ)/\y=.ref b/\H b=some (.tup (k.map kV))/\aJ.length<sizeLine/\H'=upd H a (.dT (lG aJ k v))
theorem sD.t {H:Hp} {a b:Addr} {aJ:List (List eF×V)} {k:List eF} (e:H a=some (.dT aJ)) (eb:H b=some (.tup (k.map kV))):sD H a (.ref b) (lP aJ k):=.inr ⟨aJ,k,b,.inl e,rfl,eb,rfl⟩
theorem yC.t {H:Hp} {a b:Addr} {aJ:List (List eF×V)} {k:List eF} {v:V} (e:H a=some (.dT aJ)) (eb:H b=some (.tup (k.map kV))) (hl:aJ.length<sizeLine):
  yC H a (.ref b) v (upd H a (.dT (lG aJ k v))):=.inr ⟨aJ,k,b,e,rfl,eb,hl,rfl⟩
section
variable {X:Cx} {pins:List (Addr×Obj)} {σ:St} {H:Hp} {s:Shared} {a:Addr} {y v:V} {u r:Value} {o:Option V} {A:Around} {E:Value->Shared->Prop}
theorem aQ.big (I:aQ X pins σ H s):sysModules<s.heap.objs.size:=by
 have h:mainGlobals<s.heap.objs.size:=(I.mod.glob.keeps I.bk).lt
 exact Nat.lt_trans (by decide) h
theorem Na {Q:Value->Shared->Prop} (hu:A.units+1<cLine) (I:aQ X pins σ H s) (g:sD H a y (some v)) (ry:cD y u) (h:∀ w' s',aQ X pins σ H s'->cD v w'->Q w' s'):
  wpAny (model X.prog X.w) A (getItem (.ref a) u) Q E s:=by
 rcases g with ⟨aJ,k,e,ey,l⟩|⟨aJ,k,b,e,ey,eb,l⟩
 ·subst ey
  obtain ⟨z,hd,vs,rel,dd⟩:=El I.hok e
  obtain ⟨w',hw,rw'⟩:=lC.some_of (v:=v) (o:=valueAt vs k) (by rw [l];exact rel.val k)
  exact wpAny_getItem_of (Fd ry) dd.mapOf hw (h w' _ (I.tok _) rw')
 ·subst ey
  cases (show u=Value.ref b from ry)
  obtain ⟨z,hd,xs,rel,dd⟩:=Fq I.hok e
  obtain ⟨w',hw,rw'⟩:=lC.some_of (v:=v) (o:=(atKey xs k).map (·.2)) (by rw [l];exact rel.val k)
  obtain ⟨p,hp,hp2⟩:=Option.map_eq_some_iff.mp hw
  refine wpAny_getItem_heap (tupleKind_room_in1 hu) (sU I.hok eb) dd hp ?_
  rw [hp2]
  exact h w' _ (I.tok _) rw'
theorem aDs {Q:Value->Shared->Prop} (hu:A.units+1<cLine) (I:aQ X pins σ H s) (g:sD H a y o) (ry:cD y u) (h:∀ s',aQ X pins σ H s'->Q (.bool o.isSome) s'):
  wpAny (model X.prog X.w) A (compareOp .In u (.ref a)) Q E s:=by
 rcases g with ⟨aJ,k,e,ey,l⟩|⟨aJ,k,b,e,ey,eb,l⟩
 ·subst ey
  obtain ⟨z,hd,vs,rel,dd⟩:=El I.hok e
  refine wpAny_in_of (Fd ry) hd dd.mapOf ?_
  rw [<-(rel.val k).isSome_eq,<-l]
  exact h _ (I.tok _)
 ·subst ey
  cases (show u=Value.ref b from ry)
  obtain ⟨z,hd,xs,rel,dd⟩:=Fq I.hok e
  refine wpAny_in_heap (tupleKind_room_in1 hu) (sU I.hok eb) hd dd ?_
  have q:=(rel.val k).isSome_eq
  rw [Option.isSome_map] at q
  rw [<-q,<-l]
  exact h _ (I.tok _)
theorem Vx {Q:Value->Shared->Prop} (hu:A.units+1<cLine) (I:aQ X pins σ H s) (g:sD H a y o) (ry:cD y u) (h:∀ s',aQ X pins σ H s'->Q (.bool (!o.isSome)) s'):
  wpAny (model X.prog X.w) A (compareOp .NotIn u (.ref a)) Q E s:=by
 rcases g with ⟨aJ,k,e,ey,l⟩|⟨aJ,k,b,e,ey,eb,l⟩
 ·subst ey
  obtain ⟨z,hd,vs,rel,dd⟩:=El I.hok e
  refine wpAny_notIn_of (Fd ry) hd dd.mapOf ?_
  rw [<-(rel.val k).isSome_eq,<-l]
  exact h _ (I.tok _)
 ·subst ey
  cases (show u=Value.ref b from ry)
  obtain ⟨z,hd,xs,rel,dd⟩:=Fq I.hok e
  refine wpAny_notIn_heap (tupleKind_room_in1 hu) (sU I.hok eb) hd dd ?_
  have q:=(rel.val k).isSome_eq
  rw [Option.isSome_map] at q
  rw [<-q,<-l]
  exact h _ (I.tok _)
theorem Cm {h':Heap} {t':Nat} {ob:HO} (I:aQ X pins σ H s) (mu:Xr (H a)) (hs:Heap.SameBut a s.heap h') (he:∃ q,h'.get? a=some q) (new:cK X.prog X.w (upd H a ob) h' a ob):
  aQ X pins σ (upd H a ob) {s with heap:=h',toks:=t'}:=
 I.write (x:=a) (e:=a) mu (.inl rfl) (fun b q hb z=>(hs.2 b hb).trans z) he new
theorem Yg {P:Program} {w:World} {H':Hp} {h':Heap} {aJ:List (eF×V)} {vs:List (eF×Value)} (z:aJ.length<=sizeLine) (hd:(a==sysModules)=false) (rel:KV aJ vs) (dd:h'.DictOf (eT P w) a vs):
  cK P w H' h' a (.dK aJ):=⟨z,hd,vs,rel,dd⟩
theorem Me {H':Hp} {Q:Unit->Shared->Prop} (hu:A.units+1<cLine) (I:aQ X pins σ H s) (g:yC H a y v H') (ry:cD y u) (rv:cD v r) (h:∀ s',aQ X pins σ H' s'->Q () s'):
  wpAny (model X.prog X.w) A (setItem (.ref a) u r) Q E s:=by
 rcases g with ⟨aJ,k,e,ey,l,eH⟩|⟨aJ,k,b,e,ey,eb,l,eH⟩
 ·subst ey eH
  obtain ⟨z,hd,vs,rel,dd⟩:=aA1 I.hok e
  have hz:vs.length<=sizeLine:=by rw [<-rel.length];exact z
  have hl:(lG aJ k v).length<=sizeLine:=by have:=sW aJ k v;omega
  refine wpAny_setItem_pairs (hsz:=hz) (Fd ry) dd fun h' dd' hs=>h _ ?_
  have he:∃ q,h'.get? a=some q:=let ⟨q,_,_,hq,_⟩:=dd';⟨q,hq⟩
  exact Cm I (by rw [e];exact True.intro) hs he (Yg hl hd (rel.put k rv) dd')
 ·subst ey eH
  cases (show u=Value.ref b from ry)
  obtain ⟨z,hd,xs,rel,dd⟩:=Ww I.hok e
  have hz:xs.length<=sizeLine:=by rw [<-Paired.length rel];exact z
  have hl:(lG aJ k v).length<=sizeLine:=by have:=sW aJ k v;omega
  refine wpAny_setItem_heap (hsz:=hz) (tupleKind_room_in1 hu) (sU I.hok eb) dd fun h' dd' hs=>h _ ?_
  obtain ⟨q,es,ep,hq,h2,h3,h4,_,h5⟩:=dd'
  refine Cm I (by rw [e];exact True.intro) hs ⟨q,hq⟩ ⟨hl,hd,_,(rel.put k eb rv).keeps fun c ys ec=>?_,q,es,ep,hq,h2,h3,h4,h5⟩
  rw [aC (Xv ec e (fun z=>nomatch z))]
  exact ec
end
section
variable {X:Cx} {pins:List (Addr×Obj)} {σ:St} {H:Hp} {s:Shared} {a:Addr} {aJ:List (eF×V)} {k:eF} {u:Value} {A:Around} {E:Value->Shared->Prop}
end
def aA8 (i:Expr):Prop:=∀ ov iv,subscripted i false ov iv=operate [ov,iv] (getItem ov iv)
theorem Vz {prog:Program} {w:World} {A:Around} {E:Value->Shared->Prop} {s:Shared} {env:Env} {value slice:Expr} {pos:Pos} {T id:String} {Q:Value->Shared->Prop}
  (hl:typeLookup (.type T) "__getitem__"=pure (some (.builtin id))) (hs:aA8 slice)
  (h:wpAny (model prog w) A (eval value env) (fun o s₁=>wpAny (model prog w) A (eval slice env) (fun i s₂=>s₂.TypeIs o T/\wpAny (model prog w) A (getItem o i) Q E s₂) E s₁) E s):
  wpAny (model prog w) A (eval (.Subscript value slice pos) env) Q E s:=by
 refine Subscript_ (wpAny_mono h (fun o s₁ h₁=>wpAny_mono h₁ (fun i s₂ h₂=>?_) fun _ _ x=>x) fun _ _ x=>x)
 obtain ⟨hT,h₂⟩:=h₂
 unfold subscriptTail
 refine wpAny_bind ?_
 rw [getitemInPython_of_ne hT.not_modules]
 refine wpAny_bind (wpAny_specialOf hT hl ?_)
 have fin:wpAny (model prog w) A (subscripted slice false o i) (fun r s₃=>wpAny (model prog w) A (letTemporaryGo value o r>>=fun _=>pure r) Q E s₃) E s₂:=by
  rw [hs o i]
  exact wpAny_operating (wpAny_mono h₂ (fun r s₃ h₃=>wpAny_bind (wpAny_letTemporaryGo (wpAny_pure h₃))) fun _ _ x=>x)
 first
  |exact wpAny_pure (wpAny_bind fin)
  |exact wpAny_bind (wpAny_pure (wpAny_bind fin))
  |exact wpAny_bind fin
theorem Fj {X:Cx} {pins:List (Addr×Obj)} {σ:St} {H:Hp} {s:Shared} {a:Addr} {y:V} {o:Option V} (I:aQ X pins σ H s) (g:sD H a y o):s.TypeIs (.ref a) "dict":=by
 rcases g with ⟨aJ,k,e,_,_⟩|⟨aJ,k,b,e,_,_,_⟩
 ·obtain ⟨_,_,vs,_,dd⟩:=El I.hok e
  exact dd.typeIs
 ·obtain ⟨_,_,xs,_,dd⟩:=Fq I.hok e
  exact dd.typeIs
def Xm (td ty:TE):TE:=fun σ H Q=>td σ H fun x H1=>ty σ H1 fun y H2=>∃ a v,x=.ref a/\sD H2 a y (some v)/\Q v H2
def aA4 (ty td:TE):TE:=fun σ H Q=>ty σ H fun y H1=>td σ H1 fun x H2=>∃ a o,x=.ref a/\sD H2 a y o/\Q (.bl o.isSome) H2
def Wk (ty td:TE):TE:=fun σ H Q=>ty σ H fun y H1=>td σ H1 fun x H2=>∃ a o,x=.ref a/\sD H2 a y o/\Q (.bl (!o.isSome)) H2
def Xf (td ty tv:TE):TS:=fun D σ H=>tv σ H fun v H1=>td σ H1 fun x H2=>ty σ H2 fun y H3=>∃ a H4,x=.ref a/\yC H3 a y v H4/\D.nx σ H4
section
variable {X:Cx} {o i e value:Expr} {pos pos' tpos:Pos} {td ty tv:TE}
theorem pR (hu:X.A.units+1<cLine) (ho:PE X o td) (hi:PE X i ty) (hs:aA8 i):PE X (.Subscript o i pos) (Xm td ty):=by
 intro pins s σ H Q I h
 refine Vz PySem.F.slot_dict_getitem.lookup hs (cV (ho pins s σ H _ I h) fun u s1 ⟨x,H1,I1,rx,q1⟩=>cV (hi pins s1 σ H1 _ I1 q1) fun iv s2 ⟨y,H2,I2,ry,a,v,ex,g,q2⟩=>?_)
 subst ex
 obtain rfl:u=Value.ref a:=rx
 exact ⟨Fj I2 g,Na hu I2 g ry fun w' s3 I3 rw'=>⟨v,H2,I3,rw',q2⟩⟩
theorem sM (hu:X.A.units+1<cLine) (hi:PE X i ty) (ho:PE X o td):PC X .In i o (aA4 ty td):=by
 intro pins s σ H Q I h
 refine cV (hi pins s σ H _ I h) fun iv s1 ⟨y,H1,I1,ry,q1⟩=>cV (ho pins s1 σ H1 _ I1 q1) fun u s2 ⟨x,H2,I2,rx,a,ov,ex,g,q2⟩=>?_
 subst ex
 obtain rfl:u=Value.ref a:=rx
 exact aDs hu I2 g ry fun s3 I3=>⟨.bl ov.isSome,H2,I3,rfl,q2⟩
theorem Mn (hu:X.A.units+1<cLine) (hi:PE X i ty) (ho:PE X o td):PC X .NotIn i o (Wk ty td):=by
 intro pins s σ H Q I h
 refine cV (hi pins s σ H _ I h) fun iv s1 ⟨y,H1,I1,ry,q1⟩=>cV (ho pins s1 σ H1 _ I1 q1) fun u s2 ⟨x,H2,I2,rx,a,ov,ex,g,q2⟩=>?_
 subst ex
 obtain rfl:u=Value.ref a:=rx
 exact Vx hu I2 g ry fun s3 I3=>⟨.bl (!ov.isSome),H2,I3,rfl,q2⟩
theorem nS (hu:X.A.units+1<cLine) (ho:PE X o td) (hi:PE X i ty) (hv:PE X value tv) (hs:swapsWith value (some (.Subscript o i pos')) pos.line X.env=pure false):
  PS X (.Assign [.Subscript o i pos'] value pos) (Xf td ty tv):=by
 intro pins s σ H D I h
 refine wpAny_Assign_Subscript (cV (hv pins s σ H _ I h) fun r s1 ⟨v,H1,I1,rv,q1⟩=>cV (ho pins s1 σ H1 _ I1 q1) fun u s2 ⟨x,H2,I2,rx,q2⟩=>cV (hi pins s2 σ H2 _ I2 q2) fun iv s3 ⟨y,H3,I3,ry,a,H4,ex,g,q3⟩=>?_) hs
 subst ex
 obtain rfl:u=Value.ref a:=rx
 exact Me hu I3 g ry rv fun s4 I4=>⟨σ,H4,I4,q3⟩
end
theorem Ev {P:Program} {w:World} {H:Hp} (h:Heap) (hb:sysModules<h.objs.size):cK P w H (h.push {cls:=.type "dict",data:=.dict #[]}) h.objs.size (.dT []):=
 ⟨Nat.zero_le _,beq_eq_false_iff_ne.mpr (Ne.symm (Nat.ne_of_lt hb)),[],.nil,_,#[],0,Heap.get?_push_size _ rfl,⟨rfl,rfl,rfl⟩,rfl,rfl,List.nodup_nil⟩
def aAo:TE:=fun _ H Q=>∀ p,H p=none->Q (.ref p) (upd H p (.dT []))
section
variable {X:Cx} {pos:Pos}
theorem mQ:PE X (.Dict [] [] pos) aAo:=fun pins s σ H Q I h=>
 wpAny_Dict_empty ⟨.ref s.heap.objs.size,_,I.laid (a:=s.heap.objs.size) (o:=.dT []) (t':=s.toks) (fun _ _ q=>Heap.get?_push_of_some _ q) (Nat.le_refl _) (Ev s.heap I.big),rfl,h _ (I.hok.fresh (Nat.le_refl _))⟩
end
section
variable {X:Cx} {pins:List (Addr×Obj)} {σ:St} {H:Hp} {s:Shared} {a:Addr} {y d:V} {u r:Value} {o:Option V} {A:Around} {E:Value->Shared->Prop}
end
section
variable {X:Cx} {o e f:Expr} {apos cpos:Pos} {td ty tx:TE}
end
section
variable {X:Cx} {pins:List (Addr×Obj)} {σ:St} {H:Hp} {s:Shared} {a:Addr} {aJ:List (eF×V)} {A:Around} {E:Value->Shared->Prop}
end
section
variable {X:Cx} {pins:List (Addr×Obj)} {σ:St} {H:Hp} {s:Shared} {a:Addr} {y:V} {u:Value} {A:Around} {E:Value->Shared->Prop}
end
section
variable {prog:Program} {w:World} {A:Around} {E:Value->Shared->Prop}
end
section
variable {X:Cx}
end
section
variable {X:Cx} {pins:List (Addr×Obj)} {σ:St} {H:Hp} {s:Shared} {h':Heap}
theorem aQ.turnedNew {t':Nat} {ch:List Addr} {T:Addr} {ob:HO} (I:aQ X pins σ H s) (k:∀ b o,b∉ch->s.heap.get? b=some o->h'.get? b=some o) (hf:∀ b∈ch,tY X pins H b) (hT:s.heap.objs.size<=T)
  (new:cK X.prog X.w (upd H T ob) h' T ob):aQ X pins σ (upd H T ob) {s with heap:=h',toks:=t'}:=by
 have hn:H T=none:=I.hok.fresh hT
 have nit:∀ b u,H b=some u->b∉ch:=fun b u e z=>by
  have q:=(hf b z).1
  rw [q] at e;cases e
 refine I.step (g':=s.gens) (d':=s.drawn) (ch:=ch) (fun b hb=>⟨(hf b hb).2.2.2.1,(hf b hb).2.1,(hf b hb).2.2.2.2.1,(hf b hb).2.2.2.2.2⟩) (fun b o _ _ hc e _=>k b o hc e) (fun b o _ _ hc e _=>⟨o.slots,k b o hc e⟩)
  (fun b o _ e n=>?_) (fun b o hc e=>⟨o,k b o hc e⟩) (fun b xs e=>?_) (fun b o u e=>?_) (fun b ps e=>⟨#[],?_⟩) (fun m hm=>?_) (fun b u e=>?_) I.bare
 ·rw [aC (Nat.ne_of_lt (Nat.lt_of_lt_of_le (Heap.lt_size e) hT))];exact n
 ·rw [aC (aD e hn)];exact e
 ·rw [aC (aD e hn)];exact e
 ·rw [aC (aD e hn),e];simp
 ·obtain ⟨o,es,ep,ho,r⟩:=hm
  exact ⟨o,es,ep,k _ o (fun z=>(hf _ z).2.1 rfl) ho,r⟩
 ·by_cases hb:b=T
  ·subst hb
   rw [aB] at e
   cases e
   exact new
  ·rw [aC hb] at e
   refine (I.hok b u e).stay (fun c v hc q=>k c v ?_ q) (fun c q=>by rw [aC (aD q hn)];exact q) fun c xs q=>by rw [aC (aD q hn)];exact q
   rcases hc with z|z
   ·rw [z];exact nit b u e
   ·exact nit c _ z
theorem aQ.lock {d:Addr} {u:HO} (I:aQ X pins σ H s) (h:H d=some u) (mu:Xr (some u)):∃ od,aQ X pins σ (upd H d (.frz od u)) s:=by
 have x:=I.hok d u h
 have ex:∃ od,s.heap.get? d=some od:=by
  cases u with
  |lst xs=>obtain ⟨_,_,_,_,e⟩:=x;exact ⟨_,e⟩
  |dK aJ=>obtain ⟨_,_,_,_,o,_,_,e,_⟩:=x;exact ⟨o,e⟩
  |dT aJ=>obtain ⟨_,_,_,_,o,_,_,e,_⟩:=x;exact ⟨o,e⟩
  |set S n=>obtain ⟨o,_,_,_,e,_⟩:=x;exact ⟨o,e⟩
  |ins C dx fs=>obtain ⟨_,_,_,e,_⟩:=x;exact ⟨_,e⟩
  |ext φ=>obtain ⟨_,⟨_,e⟩,_⟩:=x;exact ⟨_,e⟩
  |_=>exact False.elim mu
 obtain ⟨od,e⟩:=ex
 have new:cK X.prog X.w (upd H d (.frz od u)) s.heap d (.frz od u):=by
  refine ⟨e,x.stay (fun b v _ q=>q) (fun b q=>?_) fun b xs q=>?_⟩
  ·rw [aC (fun z=>by rw [z,h] at q;cases q;exact mu)];exact q
  ·rw [aC (fun z=>by rw [z,h] at q;cases q;exact mu)];exact q
 exact ⟨od,I.write (x:=d) (e:=d) (t':=s.toks) (h':=s.heap) (by rw [h];exact mu) (.inl rfl) (fun b v _ q=>q) ⟨od,e⟩ new⟩
theorem aQ.nofrz {d:Addr} {u:HO} (I:aQ X pins σ H s) (h:H d=some u) (mu:Xr (some u)):∀ o' u',X.H_0 d≠some (.frz o' u'):=fun o' u' e=>by
 have q:=I.base.frzs d o' u' e
 rw [h] at q
 cases q
 exact mu
theorem aQ.unlock {d:Addr} {od:Obj} {u:HO} (I:aQ X pins σ H s) (h:H d=some (.frz od u)) (hn:∀ o' u',X.H_0 d≠some (.frz o' u')):aQ X pins σ (upd H d u) s:=by
 have neH:∀ b o,H b=some o->(∀ o' u',o≠.frz o' u')->b≠d:=fun b o e hne z=>by
  rw [z,h] at e
  cases e
  exact hne _ _ rfl
 have neN:∀ b,H b=none->b≠d:=fun b e z=>by rw [z,h] at e;cases e
 refine ⟨I.ok,I.os,I.bare,⟨I.base.keep,I.base.slot,fun b o e n hx=>?_,I.base.there,fun b xs e=>?_,fun b o x e=>?_,fun b ps e=>?_⟩,I.loc,I.cell,?_,fun x c e=>?_,fun p hp=>?_,fun b o e=>?_,I.len⟩
 ·rw [aC (neN b (I.base.free b o e n hx))];exact I.base.free b o e n hx
 ·have q:=I.base.tups b xs e
  rw [aC (neH b _ q (fun _ _ z=>nomatch z))];exact q
 ·have q:=I.base.frzs b o x e
  rw [aC (fun z=>by rw [z] at e;exact hn _ _ e)];exact q
 ·obtain ⟨m,q⟩:=I.base.tbls b ps e
  exact ⟨m,by rw [aC (neH b _ q (fun _ _ z=>nomatch z))];exact q⟩
 ·rw [aC (neN _ I.free)];exact I.free
 ·rw [aC (neN c (I.freeC x c e))];exact I.freeC x c e
 ·obtain ⟨e,n,r⟩:=I.pin p hp
  exact ⟨e,by rw [aC (neN _ n)];exact n,r⟩
 ·by_cases hb:b=d
  ·rw [hb,aB] at e
   cases e
   rw [hb]
   obtain ⟨_,x⟩:=I.hok d _ h
   exact x.stay (fun c v _ q=>q) (fun c q=>by rw [aC (neH c _ q (fun _ _ z=>nomatch z))];exact q) fun c xs q=>by rw [aC (neH c _ q (fun _ _ z=>nomatch z))];exact q
  ·rw [aC hb] at e
   exact (I.hok b o e).stay (fun c v _ q=>q) (fun c q=>by rw [aC (neH c _ q (fun _ _ z=>nomatch z))];exact q) fun c xs q=>by rw [aC (neH c _ q (fun _ _ z=>nomatch z))];exact q
end
def aBi (t:TS):TS:=fun D σ H=>∃ d u,H d=some u/\Xr (some u)/\∀ od,t ⟨fun σ' H'=>H' d=some (.frz od u)/\D.nx σ' (upd H' d u),fun v H'=>H' d=some (.frz od u)/\D.rt v (upd H' d u),fun σ' H'=>H' d=some (.frz od u)/\D.bk σ' (upd H' d u),fun σ' H'=>H' d=some (.frz od u)/\D.ct σ' (upd H' d u)⟩ σ (upd H d (.frz od u))
section
variable {X:Cx}
theorem kW {st:Stmt} {t:TS} (h:PS X st t):PS X st (aBi t):=by
 intro pins s σ H D I hw
 obtain ⟨d,u,hd,mu,hw⟩:=hw
 obtain ⟨od,I1⟩:=I.lock hd mu
 refine cV (h pins s σ _ _ I1 (hw od)) fun f s1 q=>?_
 cases f with
 |next=>obtain ⟨σ',H',I2,e,q⟩:=q;exact ⟨σ',_,I2.unlock e (I.nofrz hd mu),q⟩
 |brk=>obtain ⟨σ',H',I2,e,q⟩:=q;exact ⟨σ',_,I2.unlock e (I.nofrz hd mu),q⟩
 |cont=>obtain ⟨σ',H',I2,e,q⟩:=q;exact ⟨σ',_,I2.unlock e (I.nofrz hd mu),q⟩
 |ret v=>obtain ⟨x,σ',H',I2,r,e,q⟩:=q;exact ⟨x,σ',_,I2.unlock e (I.nofrz hd mu),r,q⟩
theorem rK {tg:Expr} {pins:List (Addr×Obj)} {σ:St} {H:Hp} {s:Shared} {R:It->Hp->Prop} {J:It} {tn:Nat->Heap->Prop} {tk:Nat} (I:aQ X pins σ H s) (o:Obj)
  (T:xX X.prog X.w X.K tg J [s.heap.objs.size] s.heap.objs.size tn) (st:tn 0 (s.heap.push o)) (q:R J H):PIE X pins σ tg R (.ref s.heap.objs.size) {s with heap:=s.heap.push o,toks:=tk}:=by
 refine ⟨s.heap.objs.size,[s.heap.objs.size],tn,J,H,rfl,I.kept fun b ob e=>Heap.get?_push_of_some _ e,T,st,fun b hb=>?_,q⟩
 have e:b=s.heap.objs.size:=by simpa using hb
 subst e
 exact I.fpOk (Nat.le_refl _) (I.hok.fresh (Nat.le_refl _))
end
section
variable {X:Cx} {tg:Expr}
end
section
variable {X:Cx} {tg:Expr}
end
def Xc (x:Str):It:=⟨fun i _=>i<x.cps.size,fun i H v H'=>H'=H/\∃ c,x.cps[i]?=some c/\v=.str ⟨#[c]⟩,fun i _=>x.cps.size<=i⟩
theorem De {P:Program} {w:World} {K:PySem.W.Frag} {tg:Expr} (it:Addr) (x:Str) (t:Tok) (ty:String) (hty:ty="str_ascii_iterator"\/ty="str_iterator"):
  xX P w K tg (Xc x) [it] it (fun i h=>h.IsStrIter it ty x t i) where
 mem:=by simp
 obj:=fun i h st b hb=>by
  have e:b=it:=by simpa using hb
  subst e
  obtain ⟨o,e,c,d⟩:=st
  exact ⟨o,e,fun v z=>by rw [d] at z;cases z⟩
 keep:=fun i h h' st k=>let ⟨o,ho,r⟩:=st;⟨o,k it (by simp) o ho,r⟩
 item:=by
  intro X hP hw hK hc i pins s σ H E I hf st hg
  subst hP hw hK
  obtain ⟨f0,f1,f2,f3,f4,f5⟩:=hf it (by simp)
  have W:Walks X.prog X.w X.A it [it] [it] x.cps.size (SignAt x) (fun i h=>h.IsStrIter it ty x t i):=by
   rcases hty with e|e
   ·rw [e];exact Walks.strAscii (I.ok.hd hc) it x t
   ·rw [e];exact Walks.strWide (I.ok.hd hc) it x t
  have hno:["enumerate","zip","dict_itemiterator","dict_reverseitemiterator","odict_iterator","itertools.zip_longest","itertools.pairwise"].contains ty=false:=by
   rcases hty with e|e
   ·rw [e];decide
   ·rw [e];decide
  refine W.item i s _ _ hg st fun v h' tk hv st' kk=>?_
  obtain ⟨c,u,hcx,rfl⟩:=hv
  have I1:aQ X pins σ H {s with heap:=h',toks:=tk}:=I.turned (fun b o hb e=>kk b o (by simpa using hb) e) f0 f1 f3 f4 f5
  obtain ⟨oi,e,cc,dd⟩:=id st'
  exact ⟨_,rfl,yI (s:={s with heap:=h',toks:=tk}) e cc dd hno ⟨.str ⟨#[c]⟩,H,I1,⟨u,rfl⟩,⟨rfl,c,hcx,rfl⟩,st',fun b hb=>(hf b hb).1⟩⟩
 done:=by
  intro X hP hw hK hc i pins s σ H E I hf st hg
  subst hP hw hK
  obtain ⟨f0,f1,f2,f3,f4,f5⟩:=hf it (by simp)
  have hx:x.cps[i]?=none:=Array.getElem?_eq_none hg
  rcases hty with e|e
  ·rw [e] at st
   exact wpAny_pyNext_ascii_end (I.ok.hd hc) st hx fun h' eb=>⟨rfl,I.turned (t':=s.toks) (fun b o hb e=>eb b o hb e) f0 f1 f3 f4 f5⟩
  ·rw [e] at st
   exact wpAny_pyNext_wide_end (I.ok.hd hc) st hx fun h' eb=>⟨rfl,I.turned (t':=s.toks) (fun b o hb e=>eb b o hb e) f0 f1 f3 f4 f5⟩
 self:=fun A i s Q E st h=>by
  rcases hty with e|e
  ·rw [e] at st;exact wpAny_pyIter_striter_ascii st h
  ·rw [e] at st;exact wpAny_pyIter_striter_wide st h
def aC4 (te:TE):TI:=fun σ H R=>te σ H fun v H1=>∃ x,v=.str x/\R (Xc x) H1
theorem Pd {X:Cx} {tg e:Expr} {te:TE} (he:PE X e te):PI X tg e (aC4 te):=by
 intro pins s σ H R I h
 refine cV (he pins s σ H _ I h) fun v s1 ⟨y,H1,I1,r1,x,ex,q⟩=>?_
 subst ex
 obtain ⟨t,rfl⟩:=r1
 cases ha:x.cps.all (· <128)
 ·exact wpAny_pyIter_wide ha (rK (tk:=s1.toks) I1 _ (De _ x t "str_iterator" (.inr rfl)) ⟨_,Heap.get?_push_size _ rfl,rfl,rfl⟩ q)
 ·exact wpAny_pyIter_ascii ha (rK (tk:=s1.toks) I1 _ (De _ x t "str_ascii_iterator" (.inl rfl)) ⟨_,Heap.get?_push_size _ rfl,rfl,rfl⟩ q)
section
variable {prog:Program} {w:World} {A:Around} {E:Value->Shared->Prop} {s:Shared}
theorem rZ {d:Addr} {o:Obj} {es:Array DictEntry} {ep:Nat} {Q:Value->Shared->Prop} (hd:(d==sysModules)=false) (ho:s.heap.get? d=some o) (hc:o.ExactDict) (hdat:o.data=.dict es ep)
  (hQ:Q (.ref s.heap.objs.size) {s with heap:=s.heap.push {cls:=.type "dict_keyiterator",data:=.fields #[.ref d,.int 0 0,.int es.size 0,.int ep 0]}}):
  wpAny (model prog w) A (pyIter (.ref d)) Q E s:=by
 have hT:s.TypeIs (.ref d) "dict":=⟨o,ho,hc.1⟩
 refine wpAny_pyIter_slot hT F.slot_dict_iter (wpAny_call_entry F.slot_dict_iter hT F.entry_dict_iter ?_ (F.args_dict_iter_1 _))
 unfold Builtin.«dict.__iter__»
 refine wpAny_bind ?_
 unfold Builtin.Dict.dictSlotNone
 refine wpAny_bind (wpAny_notOrdered_dict hT ?_)
 show wpAny _ _ (pure (Value.ref d)) _ _ s
 refine wpAny_pure ?_
 show wpAny _ _ (Builtin.Dict.showsAll d>>=_) _ _ s
 unfold Builtin.Dict.showsAll
 rw [if_neg (by rw [hd];exact Bool.false_ne_true)]
 refine wpAny_bind (wpAny_pure ?_)
 refine wpAny_bind (wpAny_dictEntries ho hdat ?_)
 refine wpAny_bind (wpAny_dictEpoch ho hdat ?_)
 refine wpAny_bind (wpAny_newObj_type (wpAny_pure ⟨_,rfl,"dict_keyiterator",_,⟨_,Heap.get?_push_size _ rfl,rfl⟩,F.slot_dict_keyiterator_next.lookup,?_⟩))
 simpa [rawInt] using hQ
theorem oW {it d:Addr} {i n ep:Nat} {od:Obj} {es:Array DictEntry} {en:DictEntry} {Q:Option Value->Shared->Prop} (hit:s.heap.IsKeyIter it d i n ep) (hod:s.heap.get? d=some od) (hdd:od.data=.dict es ep)
  (hsz:es.size=n) (hx:es[i]?=some en) (hQ:∀ h',h'.IsKeyIter it d (i+1) n ep->Heap.SameBut it s.heap h'->Q (some en.key) {s with heap:=h'}):wpAny (model prog w) A (pyNext (.ref it)) Q E s:=by
 obtain ⟨o,ho,hc,hd⟩:=id hit
 unfold pyNext
 refine wpAny_bind (wpAny_attempt (wpAny_callSpecial?_slot (name:=Str.ofString "__next__") hit.typeIs F.slot_dict_keyiterator_next
  (wpAny_call_entry F.slot_dict_keyiterator_next hit.typeIs F.entry_dict_keyiterator_next ?_ (F.args_dict_keyiterator_next_1 _))))
 refine wpAny_bind (wpAny_pure ?_)
 refine wpAny_bind ?_
 refine wpAny_bind ?_
 first|refine wpAny_bind (wpAny_typeNameOfWhole_keyiter hit.typeIs (wpAny_pure ?_))|refine wpAny_bind (wpAny_typeNameOf_keyiter hit.typeIs (wpAny_pure ?_))
 refine wpAny_bind (wpAny_fieldsOf ho hd ?_)
 have hown:Builtin.Dict_items.ownsTuple "dict_keyiterator"=false:=by decide
 simp only [hown,Bool.false_eq_true,if_false]
 show wpAny _ _ (if (Value.ref d==Value.none)=true then _ else _) _ _ s
 rw [if_neg (show ¬((Value.ref d==Value.none)=true) from Bool.false_ne_true)]
 refine wpAny_bind (wpAny_pure ?_)
 refine wpAny_bind (wpAny_dictEntries hod hdd ?_)
 rw [if_neg (by rw [hsz];simp)]
 refine wpAny_bind (wpAny_pure ?_)
 refine wpAny_bind (wpAny_dictEpoch hod hdd ?_)
 rw [if_neg (by simp)]
 refine wpAny_pure ?_
 obtain ⟨hlt',hen⟩:=Array.getElem?_eq_some_iff.mp hx
 simp only [show ¬((i:Int)<0) from by omega,if_false,Int.toNat_natCast,Array.getElem?_eq_getElem hlt']
 refine wpAny_bind ?_
 first|refine wpAny_bind (wpAny_typeNameOfWhole_keyiter hit.typeIs (wpAny_pure ?_))|refine wpAny_bind (wpAny_typeNameOf_keyiter hit.typeIs (wpAny_pure ?_))
 refine wpAny_bind (wpAny_isOneOf_keyiter hit.typeIs ?_)
 show wpAny _ _ (setField (.ref it) 1 (rawInt ((i:Int)+1))>>=_) _ _ s
 refine wpAny_bind (wpAny_setField ho hd (by simp) ?_)
 have hit':(s.heap.update it (Obj.mapFields (·.setIfInBounds 1 (rawInt ((i:Int)+1))))).IsKeyIter it d (i+1) n ep:=
  ⟨_,Heap.get?_update_self _ ho (Obj.isFreed_of_fields (Obj.data_mapFields hd _)),(Obj.cls_mapFields ..).trans hc,by rw [Obj.data_mapFields hd];simp [rawInt]⟩
 refine wpAny_bind (wpAny_holding ?_)
 refine wpAny_bind (wpAny_isOneOf_keyiter (s:={s with heap:=s.heap.update it (Obj.mapFields (·.setIfInBounds 1 (rawInt ((i:Int)+1))))}) hit'.typeIs ?_)
 show wpAny _ _ (pure es[i].key) _ _ _
 rw [hen]
 exact wpAny_pure (wpAny_pure ⟨_,rfl,wpAny_pure (hQ _ hit' (Heap.SameBut.update ..))⟩)
theorem kU {it d:Addr} {i n ep:Nat} {od:Obj} {es:Array DictEntry} {Q:Option Value->Shared->Prop} (hh:A.handled=none) (hit:s.heap.IsKeyIter it d i n ep) (hod:s.heap.get? d=some od) (hdd:od.data=.dict es ep)
  (hsz:es.size=n) (hge:n<=i) (hQ:∀ h',Heap.ExtBut it s.heap h'->Q none {s with heap:=h'}):wpAny (model prog w) A (pyNext (.ref it)) Q E s:=by
 obtain ⟨o,ho,hc,hd⟩:=id hit
 unfold pyNext
 refine wpAny_bind (wpAny_attempt (wpAny_callSpecial?_slot (name:=Str.ofString "__next__") hit.typeIs F.slot_dict_keyiterator_next
  (wpAny_call_entry F.slot_dict_keyiterator_next hit.typeIs F.entry_dict_keyiterator_next ?_ (F.args_dict_keyiterator_next_1 _))))
 refine wpAny_bind (wpAny_pure ?_)
 refine wpAny_bind ?_
 refine wpAny_bind ?_
 first|refine wpAny_bind (wpAny_typeNameOfWhole_keyiter hit.typeIs (wpAny_pure ?_))|refine wpAny_bind (wpAny_typeNameOf_keyiter hit.typeIs (wpAny_pure ?_))
 refine wpAny_bind (wpAny_fieldsOf ho hd ?_)
 have hown:Builtin.Dict_items.ownsTuple "dict_keyiterator"=false:=by decide
 simp only [hown,Bool.false_eq_true,if_false]
 show wpAny _ _ (if (Value.ref d==Value.none)=true then _ else _) _ _ s
 rw [if_neg (show ¬((Value.ref d==Value.none)=true) from Bool.false_ne_true)]
 refine wpAny_bind (wpAny_pure ?_)
 refine wpAny_bind (wpAny_dictEntries hod hdd ?_)
 rw [if_neg (by rw [hsz];simp)]
 refine wpAny_bind (wpAny_pure ?_)
 refine wpAny_bind (wpAny_dictEpoch hod hdd ?_)
 rw [if_neg (by simp)]
 refine wpAny_pure ?_
 have hge':es.size<=i:=by rw [hsz];exact hge
 simp only [show ¬((i:Int)<0) from by omega,if_false,Int.toNat_natCast,Array.getElem?_eq_none hge']
 refine wpAny_bind ?_
 first|refine wpAny_bind (wpAny_typeNameOfWhole_keyiter hit.typeIs (wpAny_pure ?_))|refine wpAny_bind (wpAny_typeNameOf_keyiter hit.typeIs (wpAny_pure ?_))
 show wpAny _ _ (setField (.ref it) 0 .none>>=_) _ _ s
 refine wpAny_bind (wpAny_setField ho hd (by simp) ?_)
 show wpAny _ _ (newExc (.type "StopIteration") []>>=_) _ _ _
 refine wpAny_bind ?_
 simp only [newExc,newTuple]
 refine wpAny_bind (wpAny_newObj_type ?_ (by size_fits))
 refine wpAny_bind (m:=firstArgMember _ _) (wpAny_of_eq (a:=Value.none) (by first|rfl|(simp only [firstArgMember];rfl)) ?_)
 refine wpAny_newObj_type ?_ (by size_fits)
 simp only [raiseNew]
 refine wpAny_bind (wpAny_handled ?_)
 rw [show A.in1.handled=none from hh]
 refine wpAny_bind (wpAny_pure (wpAny_throw ?_))
 refine wpAny_bind (wpAny_isInstance (T:="StopIteration") (b:=true) ⟨_,Heap.get?_push_size _ rfl,rfl⟩ isSubtype_stop ?_)
 exact wpAny_pure (hQ _ (((Heap.SameBut.update ..).extBut.push _).push _))
end
theorem Xy {κ:Type} {aJ:List (κ×V)} {vs:List (κ×Value)} (h:KV aJ vs):∀ {i:Nat} {k:κ} {v:V},aJ[i]?=some (k,v)->∃ u,vs[i]?=some (k,u)/\cD v u:=by
 unfold KV at h
 induction h with
 |nil=>intro i k v e;simp at e
 | @cons a b l₁ l₂ r t ih=>
  intro i k v e
  cases i with
  |zero=>
   simp only [List.getElem?_cons_zero,Option.some.injEq] at e
   subst e
   refine ⟨b.2,?_,r.2⟩
   simp only [List.getElem?_cons_zero]
   exact congrArg some (Prod.ext r.1.symm rfl)
  |succ j=>
   simp only [List.getElem?_cons_succ] at e ⊢
   exact ih e
theorem oX {α β:Type} {G:α->β->Prop} {l₁:List α} {l₂:List β} (h:Paired G l₁ l₂):∀ {i:Nat} {a:α},l₁[i]?=some a->∃ b,l₂[i]?=some b/\G a b:=by
 induction h with
 |nil=>intro i a e;simp at e
 | @cons a b l₁ l₂ r t ih=>
  intro i a' e
  cases i with
  |zero=>
   simp only [List.getElem?_cons_zero,Option.some.injEq] at e
   subst e
   exact ⟨b,rfl,r⟩
  |succ j=>
   simp only [List.getElem?_cons_succ] at e ⊢
   exact ih e
theorem Ot {k:eF} {u:Value} (h:tU k u=true):cD (kV k) u:=by
 rcases dJ h with ⟨i,t,rfl,rfl⟩|⟨x,t,rfl,rfl⟩
 ·exact ⟨t,rfl⟩
 ·exact ⟨t,rfl⟩
section
variable {X:Cx} {pins:List (Addr×Obj)} {σ:St} {H:Hp} {s:Shared} {d:Addr} {o:Obj}
theorem aQ.frzK {aJ:List (eF×V)} (I:aQ X pins σ H s) (h:H d=some (.frz o (.dK aJ))):
  (d==sysModules)=false/\s.heap.get? d=some o/\o.ExactDict/\∃ (es:Array DictEntry) (ep:Nat) (vs:List (eF×Value)),o.data=.dict es ep/\es.size=aJ.length/\KV aJ vs/\s.heap.DictAt (eT X.prog X.w) d vs ep:=by
 obtain ⟨hd,z,hs,vs,kv,o',es,ep,ho,hx,hdt,r⟩:=I.hok d _ h
 rw [hd] at ho
 cases ho
 refine ⟨hs,hd,hx,es,ep,vs,hdt,?_,kv,o,es,hd,hx,hdt,r⟩
 have l1:=r.2.1.length
 have l2:aJ.length=vs.length:=Paired.length kv
 rw [Array.length_toList] at l1
 omega
theorem aQ.frzT {aJ:List (List eF×V)} (I:aQ X pins σ H s) (h:H d=some (.frz o (.dT aJ))):
  (d==sysModules)=false/\s.heap.get? d=some o/\o.ExactDict/\∃ (es:Array DictEntry) (ep:Nat),o.data=.dict es ep/\es.size=aJ.length/\
   ∀ (i:Nat) (k:List eF) (v:V),aJ[i]?=some (k,v)->∃ (en:DictEntry) (q:Addr),es[i]?=some en/\en.key=.ref q/\H q=some (.tup (k.map kV)):=by
 obtain ⟨hd,z,hs,xs,pr,o',es,ep,ho,hx,hdt,he,_⟩:=I.hok d _ h
 rw [hd] at ho
 cases ho
 refine ⟨hs,hd,hx,es,ep,hdt,?_,fun i k v e=>?_⟩
 ·have l1:es.size=xs.length:=size_of_entries he
  have l2:aJ.length=xs.length:=Paired.length pr
  omega
 ·obtain ⟨b,hb,e1,e2,_⟩:=oX pr e
  have q:=entry_at he i
  rw [hb] at q
  exact ⟨_,b.2.1,q,rfl,e2⟩
end
def Itk (d:Addr) (o:Obj) (aJ:List (eF×V)):It:=
 ⟨fun i H=>H d=some (.frz o (.dK aJ))/\i<aJ.length,fun i H x H'=>H'=H/\∃ k v,aJ[i]?=some (k,v)/\x=kV k,fun i H=>H d=some (.frz o (.dK aJ))/\aJ.length<=i⟩
def Ru (d:Addr) (o:Obj) (aJ:List (List eF×V)):It:=
 ⟨fun i H=>H d=some (.frz o (.dT aJ))/\i<aJ.length,fun i H x H'=>H'=H/\∃ (k:List eF) (v:V) (q:Addr),aJ[i]?=some (k,v)/\x=.ref q/\H q=some (.tup (k.map kV)),fun i H=>H d=some (.frz o (.dT aJ))/\aJ.length<=i⟩
theorem oA {o:Obj} {es es':Array DictEntry} {ep ep':Nat} (h:o.data=.dict es ep) (h':o.data=.dict es' ep'):es'=es/\ep'=ep:=by
 rw [h] at h'
 cases h'
 exact ⟨rfl,rfl⟩
section
variable {P:Program} {w:World} {K:PySem.W.Frag} {tg:Expr} {d:Addr} {o:Obj} {es:Array DictEntry} {ep:Nat}
theorem Lu {aJ:List (eF×V)} (it:Addr) (hod:o.data=.dict es ep):xX P w K tg (Itk d o aJ) [it] it (fun i h=>h.IsKeyIter it d i aJ.length ep) where
 mem:=by simp
 obj:=fun i h st b hb=>by
  have e:b=it:=by simpa using hb
  subst e
  obtain ⟨oi,e,c,dd⟩:=st
  exact ⟨oi,e,fun v z=>by rw [dd] at z;cases z⟩
 keep:=fun i h h' st k=>st.at fun oi e=>k it (by simp) oi e
 item:=by
  intro X hP hw hK hc i pins s σ H E I hf st hg
  subst hP hw hK
  obtain ⟨hd,hi⟩:=hg
  obtain ⟨f0,f1,f2,f3,f4,f5⟩:=hf it (by simp)
  obtain ⟨hs,hgd,hx,es',ep',vs,hdt,hsz,kv,hm⟩:=I.frzK hd
  obtain ⟨rfl,rfl⟩:=oA hod hdt
  obtain ⟨⟨k,v⟩,hkv⟩:∃ p,aJ[i]?=some p:=⟨aJ[i],List.getElem?_eq_getElem hi⟩
  obtain ⟨u,hu,ru⟩:=Xy kv hkv
  have hl:aJ.length=vs.length:=Paired.length kv
  rw [hl] at st
  refine wpAny_pyNext_dict_item st hm hu fun key h' hkey st' sb=>?_
  have I1:aQ X pins σ H {s with heap:=h'}:=I.turned (t':=s.toks) (fun b ob hb e=>(sb.2 b hb).trans e) f0 f1 f3 f4 f5
  obtain ⟨oi,e,c,dd⟩:=id st'
  refine ⟨key,rfl,yI (s:={s with heap:=h'}) e c dd (by decide) ⟨kV k,H,I1,Ot (show tU k key=true from hkey),⟨rfl,k,v,hkv,rfl⟩,?_,fun b hb=>(hf b hb).1⟩⟩
  show h'.IsKeyIter it d (i+1) aJ.length _
  rw [hl]
  exact st'
 done:=by
  intro X hP hw hK hc i pins s σ H E I hf st hg
  subst hP hw hK
  obtain ⟨hd,hi⟩:=hg
  obtain ⟨f0,f1,f2,f3,f4,f5⟩:=hf it (by simp)
  obtain ⟨hs,hgd,hx,es',ep',vs,hdt,hsz,kv,hm⟩:=I.frzK hd
  obtain ⟨rfl,rfl⟩:=oA hod hdt
  exact kU (I.ok.hd hc) st hgd hdt hsz hi fun h' eb=>⟨rfl,I.turned (t':=s.toks) (fun b ob hb e=>eb b ob hb e) f0 f1 f3 f4 f5⟩
 self:=fun A i s Q E st h=>wpAny_pyIter_keyiter st h
theorem Iv {aJ:List (List eF×V)} (it:Addr) (hod:o.data=.dict es ep):xX P w K tg (Ru d o aJ) [it] it (fun i h=>h.IsKeyIter it d i aJ.length ep) where
 mem:=by simp
 obj:=fun i h st b hb=>by
  have e:b=it:=by simpa using hb
  subst e
  obtain ⟨oi,e,c,dd⟩:=st
  exact ⟨oi,e,fun v z=>by rw [dd] at z;cases z⟩
 keep:=fun i h h' st k=>st.at fun oi e=>k it (by simp) oi e
 item:=by
  intro X hP hw hK hc i pins s σ H E I hf st hg
  subst hP hw hK
  obtain ⟨hd,hi⟩:=hg
  obtain ⟨f0,f1,f2,f3,f4,f5⟩:=hf it (by simp)
  obtain ⟨hs,hgd,hx,es',ep',hdt,hsz,ent⟩:=I.frzT hd
  obtain ⟨rfl,rfl⟩:=oA hod hdt
  obtain ⟨⟨k,v⟩,hkv⟩:∃ p,aJ[i]?=some p:=⟨aJ[i],List.getElem?_eq_getElem hi⟩
  obtain ⟨en,q,hen,hkey,hq⟩:=ent i k v hkv
  refine oW st hgd hdt hsz hen fun h' st' sb=>?_
  have I1:aQ X pins σ H {s with heap:=h'}:=I.turned (t':=s.toks) (fun b ob hb e=>(sb.2 b hb).trans e) f0 f1 f3 f4 f5
  obtain ⟨oi,e,c,dd⟩:=id st'
  exact ⟨en.key,rfl,yI (s:={s with heap:=h'}) e c dd (by decide) ⟨.ref q,H,I1,hkey,⟨rfl,k,v,q,hkv,rfl,hq⟩,st',fun b hb=>(hf b hb).1⟩⟩
 done:=by
  intro X hP hw hK hc i pins s σ H E I hf st hg
  subst hP hw hK
  obtain ⟨hd,hi⟩:=hg
  obtain ⟨f0,f1,f2,f3,f4,f5⟩:=hf it (by simp)
  obtain ⟨hs,hgd,hx,es',ep',hdt,hsz,ent⟩:=I.frzT hd
  obtain ⟨rfl,rfl⟩:=oA hod hdt
  exact kU (I.ok.hd hc) st hgd hdt hsz hi fun h' eb=>⟨rfl,I.turned (t':=s.toks) (fun b ob hb e=>eb b ob hb e) f0 f1 f3 f4 f5⟩
 self:=fun A i s Q E st h=>by
  refine wpAny_pyIter_slot st.typeIs F.slot_dict_keyiterator_iter (wpAny_call_entry F.slot_dict_keyiterator_iter st.typeIs F.entry_dict_keyiterator_iter ?_ (F.args_dict_keyiterator_iter_1 _))
  show wpAny _ _ (ret (.ref it)) _ _ s
  exact wpAny_pure ⟨_,rfl,"dict_keyiterator",_,st.typeIs,F.slot_dict_keyiterator_next.lookup,h⟩
end
def aB6 (td:TE):TI:=fun σ H R=>td σ H fun x H1=>∃ d o,x=.ref d/\((∃ aJ,H1 d=some (.frz o (.dK aJ))/\R (Itk d o aJ) H1)\/∃ aJ,H1 d=some (.frz o (.dT aJ))/\R (Ru d o aJ) H1)
section
variable {X:Cx} {tg e:Expr} {td:TE} {apos cpos:Pos}
theorem Ka (he:PE X e td):PI X tg e (aB6 td):=by
 intro pins s σ H R I h
 refine cV (he pins s σ H _ I h) fun u s1 ⟨x,H1,I1,rx,d,o,ex,q⟩=>?_
 subst ex
 obtain rfl:u=Value.ref d:=rx
 rcases q with ⟨aJ,hd,q⟩|⟨aJ,hd,q⟩
 ·obtain ⟨hs,hgd,hx,es,ep,vs,hdt,hsz,kv,hm⟩:=I1.frzK hd
  refine rZ hs hgd hx hdt (rK (tk:=s1.toks) I1 _ (Lu _ hdt) ⟨_,Heap.get?_push_size _ rfl,rfl,?_⟩ q)
  rw [hsz]<;>rfl
 ·obtain ⟨hs,hgd,hx,es,ep,hdt,hsz,ent⟩:=I1.frzT hd
  refine rZ hs hgd hx hdt (rK (tk:=s1.toks) I1 _ (Iv _ hdt) ⟨_,Heap.get?_push_size _ rfl,rfl,?_⟩ q)
  rw [hsz]<;>rfl
end
def Ite (K:PySem.W.Frag) (a:Addr):It:=
 ⟨fun i H=>∃ (xs:List V) (x:V),cW K H a xs/\xs[i]?=some x,fun i H v H'=>∃ T x,v=.ref T/\H T=none/\H'=upd H T (.tup [.int (i:Nat),x])/\∀ xs,cW K H a xs->xs[i]?=some x,fun i H=>∃ xs:List V,cW K H a xs/\xs.length<=i⟩
theorem Mo {P:Program} {w:World} {K:PySem.W.Frag} {elts:List Expr} {kk:Nat} {tpos:Pos} (a e it:Addr):
  xX P w K (.Tuple elts kk tpos) (Ite K a) [e,it] e (fun i h=>(∃ old,IsEnum h e it ((i:Nat):Int) old)/\h.IsListIter it a i/\e≠it) where
 mem:=by simp
 obj:=fun i h st b hb=>by
  obtain ⟨⟨old,he⟩,⟨o,ho,hc,hd⟩,_⟩:=st
  have e':b=e\/b=it:=by simpa using hb
  rcases e' with z|z
  ·rw [z];exact ⟨_,he,fun v q=>nomatch q⟩
  ·rw [z];exact ⟨o,ho,fun v q=>by rw [hd] at q;cases q⟩
 keep:=fun i h h' st k=>let ⟨⟨old,he⟩,hi,hne⟩:=st;⟨⟨old,k e (by simp) _ he⟩,hi.at fun o q=>k it (by simp) o q,hne⟩
 item:=by
  intro X hP hw hK hc i pins s σ H E I hf st hg
  subst hP hw hK
  obtain ⟨⟨old,he⟩,hit,hne⟩:=st
  obtain ⟨xs,x,hq,hx⟩:=hg
  obtain ⟨its,rv,p,hz⟩:=I.list hq
  obtain ⟨u,hu,ru⟩:=rv.get hx
  have hel:e<s.heap.objs.size:=Heap.lt_size he
  have hil:it<s.heap.objs.size:=by obtain ⟨_,q,_⟩:=hit;exact Heap.lt_size q
  refine wpAny_pyNext_enum_item he hit p.isList (x:=u) (by simpa using hu) hne fun h' ho hit' hT hsz hk=>?_
  refine ⟨_,rfl,wpAny_letOwnedTupleGo_enum (s:={s with heap:=h',toks:=s.toks+1}) ho fun h'' he' sb=>?_⟩
  have hT2:h''.get? s.heap.objs.size=some {cls:=.type "tuple",data:=.seq #[.int i s.toks,u]}:=(sb.2 _ (Nat.ne_of_gt hel)).trans hT
  have new:cK X.prog X.w (upd H s.heap.objs.size (.tup [.int (i:Nat),x])) h'' s.heap.objs.size (.tup [.int (i:Nat),x]):=
   ⟨by show 2<=sizeLine;decide,[.int i s.toks,u],.cons ⟨_,rfl⟩ (.cons ru .nil),⟨_,hT2,rfl,_,rfl⟩⟩
  have I1:aQ X pins σ (upd H s.heap.objs.size (.tup [.int (i:Nat),x])) {s with heap:=h'',toks:=s.toks+1}:=
   I.turnedNew (ch:=[e,it]) (fun b ob hb q=>(sb.2 b (fun z=>hb (by simp [z]))).trans (hk b ob (fun z=>hb (by simp [z])) (fun z=>hb (by simp [z])) q)) hf (Nat.le_refl _) new
  refine ⟨.ref s.heap.objs.size,_,I1,rfl,⟨_,x,rfl,I.hok.fresh (Nat.le_refl _),rfl,fun ys hy=>by rw [I.list_inj hy hq];exact hx⟩,⟨⟨u,?_⟩,hit'.at fun o q=>(sb.2 it (Ne.symm hne)).trans q,hne⟩,fun b hb=>?_⟩
  ·have e1:((i+1:Nat):Int)=(i:Int)+1:=by omega
   rw [e1];exact he'
  ·have hb':b<s.heap.objs.size:=by
    have e':b=e\/b=it:=by simpa using hb
    rcases e' with z|z
    ·rw [z];exact hel
    ·rw [z];exact hil
   rw [aC (Nat.ne_of_lt hb')]
   exact (hf b hb).1
 done:=by
  intro X hP hw hK hc i pins s σ H E I hf st hg
  subst hP hw hK
  obtain ⟨⟨old,he⟩,hit,hne⟩:=st
  obtain ⟨xs,hq,hx⟩:=hg
  obtain ⟨its,rv,p,hz⟩:=I.list hq
  obtain ⟨f0,f1,f2,f3,f4,f5⟩:=hf it (by simp)
  have hl:=rv.length
  exact wpAny_pyNext_enum_end (I.ok.hd hc) he hit p.isList (by simp;omega) fun h' eb=>⟨rfl,I.turned (t':=s.toks) (fun b o hb q=>eb b o hb q) f0 f1 f3 f4 f5⟩
 self:=fun A i s Q E st h=>let ⟨⟨_,he⟩,_⟩:=st;wpAny_pyIter_enum he h
def aBo (K:PySem.W.Frag) (ta:TA):TI:=fun σ H R=>ta σ H fun vs H1=>∃ a xs,vs=[.ref a]/\cW K H1 a xs/\R (Ite K a) H1
theorem Tv {X:Cx} {e:Expr} {ta:TA} {p pos tpos:Pos} {elts:List Expr} {kk:Nat} (hg:Gl X "enumerate") (hm:X.mg "enumerate"=none) (ha:PA X [e] ta) (hs:starEach [e] X.env=[(false,eval e X.env)]:=by rfl):
  PI X (.Tuple elts kk tpos) (.Call (.Name "enumerate" p) [e] [] pos) (aBo X.K ta):=by
 intro pins s σ H R I h
 refine Call_ (rQ I hg hm boot_enumerate (PyProof.Rows.callWith_type1 (cV (ha pos pins s σ H _ I h) fun us s1 ⟨vs,H1,I1,r1,q1⟩=>?_) hs rfl))
 obtain ⟨a,xs,ex,hq,q⟩:=q1
 subst ex
 cases r1 with
 |cons r rr=>
  cases rr
  cases r
  obtain ⟨its,rv,p',hz⟩:=I1.list hq
  refine call_enumerate_list p'.isList fun h' he hit hsz hk=>wpAny_pyIter_enum he ?_
  have I2:aQ X pins σ H1 {s1 with heap:=h'}:=I1.kept (t':=s1.toks) hk
  refine ⟨s1.heap.objs.size+1,[s1.heap.objs.size+1,s1.heap.objs.size],_,_,H1,rfl,I2,Mo a (s1.heap.objs.size+1) s1.heap.objs.size,⟨⟨.none,he⟩,hit,Nat.succ_ne_self _⟩,fun b hb=>?_,q⟩
  have e':b=s1.heap.objs.size+1\/b=s1.heap.objs.size:=by simpa using hb
  have hle:s1.heap.objs.size<=b:=by
   rcases e' with z|z
   ·rw [z];exact Nat.le_add_right _ _
   ·rw [z];exact Nat.le_refl _
  exact I1.fpOk hle (I1.hok.fresh hle)
end L2
section
namespace Bits
open PySem PyProof.Rows
end Bits
end
section
namespace TL
open PySem PySem.Builtin PySem.Builtin.Str PySem.StrLaws
end TL
end
namespace L2
open PySem PySem.Spec PyProof.Rows
section
variable {X:Cx} {pins:List (Addr×Obj)} {σ:St} {H:Hp} {s:Shared} {Q:VK}
end
section
variable {X:Cx}
end
section
variable {X:Cx} {o e:Expr} {to te:TE}
end
section
variable {X:Cx}
end
end L2
namespace Att
open PySem PySem.W PySem.Calls PyProof.Rows
section
variable {prog:Program} {w:World} {A:Around} {E:Value->Shared->Prop} {s:Shared} {K:Frag}
end
end Att
namespace L2
open PySem PySem.Spec PyProof.Rows
abbrev bU:Gm:=fun _ _ _ _ _ _=>False
abbrev E0:XK:=fun _ _ _=>False
theorem aX {X:Cx}:iR bU X E0:=fun _ _ _ _ _ _ _ h=>h.elim
structure fE (K:PySem.W.Frag) (x qual:Str) (st:Stmt) (f:Addr) (fd:FuncData):Prop where
 ex:∃ (oc:Value) (od:Option Addr) (kV doc pm:Value) (an:Option Addr) (cdv ct:Value) (osl:Array (Option Value)),
  fd=PySem.W.fnOf x qual (eR st) (dU st) (aG st) .none kV doc pm an cdv ct/\K.lookup f=some ⟨oc,od,.func fd,osl⟩/\PySem.W.codeIn K cdv qual=true
 kp:PySem.W.keepIn K (.ref f)=true
section
variable {P:Program} {w:World} {K:PySem.W.Frag} {mg:Str->Option Value} {base:Heap}
theorem fE.ok {x qual:Str} {st:Stmt} {f:Addr} {fd:FuncData} {N ps:List Str} {k:Nat} {sp:Sp} (F:fE K x qual st f fd) (S:aO N ps (aG st)) (len:∀ vs H Q E,sp vs H Q E->vs.length=ps.length)
  (hbody:∀ (cdv:Value) (A:Around) (outer:List Env) (s:Shared) (H:Hp) (vs:List V) (Q:VK) (E:XK),fY k (A.deeper (envOfC qual (aG st) s.heap.objs.size f cdv))->sp vs H Q E->
   ∃ t,Ap (Ca bU P w K mg base N qual (aG st) f cdv A outer s H E).nox (dU st) t/\t {nx:=fun _ H'=>Q .non H',rt:=Q} (lT N vs) H):bV P w K mg base bU (k+1) f fd ps sp:=by
 obtain ⟨oc,od,kV,doc,pm,an,cdv,ct,osl,rfl,lk,hcd⟩:=F.ex
 refine Xd lk hcd S len fun A outer s H vs Q E hr hsp=>?_
 obtain ⟨t,h,q⟩:=hbody cdv A outer s H vs Q E hr hsp
 exact ⟨t,h.nox,q⟩
theorem fE.binds {x qual:Str} {st:Stmt} {f:Addr} {fd:FuncData} {ps:List Str} (F:fE K x qual st f fd)
  (h:∀ (kV doc pm:Value) (an:Option Addr) (cdv ct:Value) (us:List Value),us.length=ps.length->bindArgs (PySem.W.fnOf x qual (eR st) (dU st) (aG st) .none kV doc pm an cdv ct) ⟨us,[]⟩=pure (ps.zip us)):fF K fd ps []:=by
 obtain ⟨oc,od,kV,doc,pm,an,cdv,ct,osl,rfl,lk,hcd⟩:=F.ex
 exact .all (h kV doc pm an cdv ct)
theorem sG {x qual:Str} {st:Stmt} {f:Addr} {oc:Value} {od an:Option Addr} {osl:Array (Option Value)} {kV doc pm cdv ct:Value} (l:K.lookup f=some ⟨oc,od,.func (PySem.W.fnOf x qual (eR st) (dU st) (aG st) .none kV doc pm an cdv ct),osl⟩)
  (c:PySem.W.codeIn K cdv qual=true) (k:PySem.W.keepIn K (.ref f)=true):fE K x qual st f (PySem.W.fnOf x qual (eR st) (dU st) (aG st) .none kV doc pm an cdv ct):=⟨⟨oc,od,kV,doc,pm,an,cdv,ct,osl,rfl,l,c⟩,k⟩
end
theorem lU {A:Around} {k:Nat} (hr:fY k A):A.units+1<cLine:=Nat.lt_of_le_of_lt (Nat.add_le_add_left (by decide:1<=64) _) hr.units
section
variable {X:Cx}
theorem pv (i:Nat) {x:Str} {pos:Pos} (hN:X.N[i]?=some x:=by rfl) (hv:Vis X.env.scope x:=by first|exact Or.inl rfl|exact Or.inr (Or.inl rfl)|exact Or.inr (Or.inr rfl)) (hd:(x==("__debug__":Str))=false:=by decide)
  (hcd:(x==("__classdict__":Str))=false:=by decide):PE X (.Name x pos) (dD i):=Zz hN hv hd hcd
end
theorem tW {A B:Prop} (h:B):if false=true then A else B:=by
 rw [if_neg Bool.false_ne_true]
 exact h
theorem Sv {A B:Prop} (h:A):if true=true then A else B:=by
 rw [if_pos rfl]
 exact h
theorem cF {c A B:Prop} [Decidable c] (h1:c->A) (h2:¬c->B):if c then A else B:=by
 by_cases h:c
 ·rw [if_pos h]
  exact h1 h
 ·rw [if_neg h]
  exact h2 h
def aL (H H':Hp):Prop:=∀ b o,H b=some o->H' b=some o
theorem aL.trans {H H1 H2:Hp} (a:aL H H1) (b:aL H1 H2):aL H H2:=fun c o h=>b c o (a c o h)
theorem aL.free {H H':Hp} (e:aL H H') {l:Addr} (h:H' l=Option.none):H l=Option.none:=by
 cases q:H l with
 |none=>rfl
 |some o=>
  rw [e l o q] at h
  cases h
theorem aL.seq {K:PySem.W.Frag} {H H':Hp} {a:Addr} {xs:List V} (e:aL H H') (h:cW K H a xs):cW K H' a xs:=by
 rcases h with (h|⟨o,h⟩)|h
 ·exact .inl (.inl (e _ _ h))
 ·exact .inl (.inr ⟨o,e _ _ h⟩)
 ·exact .inr h
section
variable {κ:Type} [DecidableEq κ]
end
end L2
section
namespace L2
open PySem PySem.Spec PyProof.Rows
open PySem.W (WData Codec OpenSpec Well WellAll ReadsW ReadsAllW)
mutual
inductive Dw (K:PySem.W.Frag) (H:Hp):V->WData->Prop
 |non:Dw K H .non .none
 |bl (b:Bool):Dw K H (.bl b) (.bool b)
 |int (i:Int):Dw K H (.int i) (.int i)
 |str (x:Str):Dw K H (.str x) (.str x)
 |byt (b:Array UInt8):Dw K H (.byt b) (.bytes b.toList)
 |lst {a:Addr} {xs:List V} {ds:List WData}:cW K H a xs->nG K H xs ds->Dw K H (.ref a) (.list ds)
 |tup {a:Addr} {xs:List V} {ds:List WData}:cN K H a xs->nG K H xs ds->Dw K H (.ref a) (.tuple ds)
inductive nG (K:PySem.W.Frag) (H:Hp):List V->List WData->Prop
 |nil:nG K H [] []
 |cons {v:V} {vs:List V} {d:WData} {ds:List WData}:Dw K H v d->nG K H vs ds->nG K H (v::vs) (d::ds)
end
theorem Jm {K:PySem.W.Frag} {H:Hp}:∀ ns:List Int,nG K H (ns.map V.int) (ns.map WData.int)
 |[]=>.nil
 |n::r=>.cons (.int n) (Jm r)
theorem Bm {K:PySem.W.Frag} {H:Hp}:∀ (ns:List Int) (xs:List V),nG K H xs (ns.map WData.int)->xs=ns.map V.int
 |[],xs,h=>by
  cases h
  rfl
 |n::r,xs,h=>by
  cases h with
  |cons h1 h2=>
   cases h1
   rw [Bm r _ h2]<;>rfl
section
variable {P:Program} {w:World} {K:PySem.W.Frag} {H:Hp} {h:Heap} {R:PySem.W.WRecords} {cl:Str->Option Addr}
theorem Yb {a:Addr} {xs:List V} (hok:kR P w H h) (KX:K.In h) (q:cW K H a xs):∃ (its:List Value) (o:Obj) (n:Nat),bS xs its/\h.get? a=some o/\o.cls=.type "list"/\o.data=.seq its.toArray n:=by
 rcases q with q|⟨o,its,n,e,hc,_,hd,_,hv⟩
 ·obtain ⟨_,its,n,hv,e⟩:=(show cK P w H h a (.lst xs) from q.ok hok)
  exact ⟨its,_,n,hv,e,rfl,rfl⟩
 ·exact ⟨its.toList,o,n,hv,KX _ _ e,hc,by simp [hd]⟩
theorem Yx {a:Addr} {xs:List V} (hok:kR P w H h) (KX:K.In h) (q:cN K H a xs):∃ (its:List Value) (o:Obj) (n:Nat),bS xs its/\h.get? a=some o/\o.cls=.type "tuple"/\o.data=.seq its.toArray n:=by
 rcases q with q|⟨o,its,n,e,hc,hd,_,hv⟩
 ·obtain ⟨_,its,hv,o,e,hc,n,hd⟩:=(show cK P w H h a (.tup xs) from q.ok hok)
  exact ⟨its,o,n,hv,e,hc,hd⟩
 ·exact ⟨its.toList,o,n,hv,KX _ _ e,hc,by simp [hd]⟩
mutual
theorem Dw.reads (hok:kR P w H h) (KX:K.In h):∀ (d:WData) (v:V) (u:Value),Dw K H v d->cD v u->∃ as,ReadsW R cl h u d as
 |.none,_,_,x,r=>by
  cases x
  cases r
  exact ⟨_,ReadsW.none⟩
 |.bool b,_,_,x,r=>by
  cases x
  cases r
  exact ⟨_,ReadsW.bool b⟩
 |.int i,_,_,x,r=>by
  cases x
  obtain ⟨t,rfl⟩:=r
  exact ⟨_,ReadsW.int i t⟩
 |.str s,_,_,x,r=>by
  cases x
  obtain ⟨t,rfl⟩:=r
  exact ⟨_,ReadsW.str s t⟩
 |.bytes b,_,_,x,r=>by
  cases x
  obtain ⟨t,rfl⟩:=r
  exact ⟨_,ReadsW.bytes _ t⟩
 |.list ds,_,_,x,r=>by
  cases x with
  |lst hs ha=>
   cases r
   obtain ⟨its,o,n,rv,ho,hc,hd⟩:=Yb hok KX hs
   obtain ⟨as,hr⟩:=Dw.readsAll hok KX ds _ its ha rv
   exact ⟨_,ReadsW.list ho hc hd hr⟩
 |.tuple ds,_,_,x,r=>by
  cases x with
  |tup hs ha=>
   cases r
   obtain ⟨its,o,n,rv,ho,hc,hd⟩:=Yx hok KX hs
   obtain ⟨as,hr⟩:=Dw.readsAll hok KX ds _ its ha rv
   exact ⟨_,ReadsW.tuple ho hc hd hr⟩
 |.float _,_,_,x,_=>by cases x
 |.dict _,_,_,x,_=>by cases x
 |.bytearray _,_,_,x,_=>by cases x
 |.set _,_,_,x,_=>by cases x
 |.frozenset _,_,_,x,_=>by cases x
 |.obj _ _,_,_,x,_=>by cases x
theorem Dw.readsAll (hok:kR P w H h) (KX:K.In h):∀ (ds:List WData) (vs:List V) (us:List Value),nG K H vs ds->bS vs us->∃ as,ReadsAllW R cl h us ds as
 |[],_,_,x,r=>by
  cases x
  cases r
  exact ⟨_,ReadsAllW.nil⟩
 |d::ds,_,_,x,r=>by
  cases x with
  |cons h1 h2=>
   cases r with
   |cons r1 r2=>
    obtain ⟨as,q1⟩:=Dw.reads hok KX d _ _ h1 r1
    obtain ⟨bs,q2⟩:=Dw.readsAll hok KX ds _ _ h2 r2
    exact ⟨_,ReadsAllW.cons q1 q2⟩
end
end
mutual
def Jl:WData->Bool
 |.none=>true
 |.bool _=>true
 |.int _=>true
 |.str _=>true
 |.bytes _=>true
 |.list xs=>tZ xs
 |.tuple xs=>tZ xs
 |_=>false
def tZ:List WData->Bool
 |[]=>true
 |x::r=>Jl x && tZ r
end
theorem Gi {α:Type} {f:α->WData} (h:∀ a,Jl (f a)=true):∀ l:List α,tZ (l.map f)=true
 |[]=>rfl
 |x::r=>by
  show (Jl (f x) && tZ (r.map f))=true
  rw [h x,Gi h r]<;>rfl
theorem mO:∀ (c:Codec) (a:c.denote),Jl (c.enc a)=true
 |.unit,_=>rfl
 |.bool,_=>rfl
 |.int _ _,_=>rfl
 |.nat _ _,_=>rfl
 |.u8,_=>rfl
 |.bytes _ _,_=>rfl
 |.text _ _ _ _,_=>rfl
 |.list _ _ c,a=>Gi (fun x=>mO c x) a
 |.pair c d,a=>by
  show (Jl (c.enc a.1) && (Jl (d.enc a.2) && true))=true
  rw [mO c a.1,mO d a.2]<;>rfl
 |.triple c d e,a=>by
  show (Jl (c.enc a.1) && (Jl (d.enc a.2.1) && (Jl (e.enc a.2.2) && true)))=true
  rw [mO c a.1,mO d a.2.1,mO e a.2.2]<;>rfl
 |.option c,none=>rfl
 |.option c,some x=>mO c x
theorem yT:∀ (cs:List Codec) (a:Codec.denoteAll cs),tZ (Codec.encAll cs a)=true
 |[],_=>rfl
 |c::cs,a=>by
  show (Jl (c.enc a.1) && tZ (Codec.encAll cs a.2))=true
  rw [mO c a.1,yT cs a.2]<;>rfl
theorem pK:∀ {xs:List WData} {d:WData},d∈xs->d.weight<=WData.weightAll xs
 |[],d,h=>absurd h (by simp)
 |x::r,d,h=>by
  show d.weight<=x.weight+1+WData.weightAll r
  rcases List.mem_cons.mp h with e|m
  ·rw [e]
   omega
  ·have z:=pK m
   omega
def Db:Value->V
 |.none=>.non
 |.bool b=>.bl b
 |.int i _=>.int i
 |.str x _=>.str x
 |.bytes b _=>.byt b
 |.ref a=>.ref a
 |_=>.non
def Ma (A:List Addr):Value->Prop
 |.none=>True
 |.bool _=>True
 |.int _ _=>True
 |.str _ _=>True
 |.bytes _ _=>True
 |.ref a=>a∈A
 |_=>False
theorem Ma.mono {A B:List Addr} (h:∀ a∈A,a∈B):∀ {u:Value},Ma A u->Ma B u:=fun {u} x=>by
 cases u with
 |ref a=>exact h a x
 |none=>trivial
 |bool b=>trivial
 |int i t=>trivial
 |str s t=>trivial
 |bytes b t=>trivial
 |_=>exact False.elim x
theorem Tf {A:List Addr} {u:Value} (x:Ma A u):cD (Db u) u:=by
 cases u with
 |ref a=>rfl
 |none=>rfl
 |bool b=>rfl
 |int i t=>exact ⟨t,rfl⟩
 |str s t=>exact ⟨t,rfl⟩
 |bytes b t=>exact ⟨t,rfl⟩
 |_=>exact False.elim x
theorem jT {A:List Addr}:∀ {vs:List Value},(∀ u∈vs,Ma A u)->bS (vs.map Db) vs
 |[],_=>.nil
 |u::r,h=>.cons (Tf (h u (List.mem_cons_self ..))) (jT fun x hx=>h x (List.mem_cons_of_mem _ hx))
def lX (h:Heap) (A:List Addr) (a:Addr):Prop:=∃ vs:List Value,vs.length<=sizeLine/\(∀ u∈vs,Ma A u)/\
 (h.get? a=some {cls:=.type "list",data:=.seq vs.toArray}\/h.get? a=some {cls:=.type "tuple",data:=.seq vs.toArray})
theorem lX.mono {h:Heap} {A B:List Addr} {a:Addr} (k:∀ a∈A,a∈B) (x:lX h A a):lX h B a:=by
 obtain ⟨vs,h1,h2,h3⟩:=x
 exact ⟨vs,h1,fun u hu=>(h2 u hu).mono k,h3⟩
theorem jM {P:Params} {h:Heap}:∀ {vs:List Value} {ds:List WData},WellAll P h vs ds->vs.length=ds.length
 |_,_,.nil=>rfl
 |_,_,.cons _ b=>by
  show _+1=_+1
  rw [jM b]
theorem zC {P:Params} {h:Heap} {v:Value} {ds:List WData} (x:Well P h v (.list ds)):∃ (a:Addr) (vs:List Value),v=.ref a/\h.get? a=some {cls:=.type "list",data:=.seq vs.toArray}/\WellAll P h vs ds:=by
 cases x with
 |list ho hall=>exact ⟨_,_,rfl,ho,hall⟩
theorem wR {P:Params} {h:Heap} {v:Value} {ds:List WData} (x:Well P h v (.tuple ds)):∃ (a:Addr) (vs:List Value),v=.ref a/\h.get? a=some {cls:=.type "tuple",data:=.seq vs.toArray}/\WellAll P h vs ds:=by
 cases x with
 |tuple ho hall=>exact ⟨_,_,rfl,ho,hall⟩
theorem zS {P:Params} {h:Heap} {us:List Value} {d:WData} {ds:List WData} (x:WellAll P h us (d::ds)):∃ (v:Value) (vs:List Value),us=v::vs/\Well P h v d/\WellAll P h vs ds:=by
 cases x with
 |cons a b=>exact ⟨_,_,rfl,a,b⟩
theorem Ke {n:Nat} (h:n<=1048576):n<=sizeLine:=Nat.le_trans h (by decide)
section
variable {P:Params} {h:Heap}
mutual
theorem Pa:∀ (d:WData) (v:Value),Well P h v d->Jl d=true->d.weight<=1048576->∃ A:List Addr,Ma A v/\∀ a∈A,lX h A a
 |.none,_,x,_,_=>by
  cases x
  exact ⟨[],trivial,fun a m=>absurd m (by simp)⟩
 |.bool b,_,x,_,_=>by
  cases x
  exact ⟨[],trivial,fun a m=>absurd m (by simp)⟩
 |.int i,_,x,_,_=>by
  cases x
  exact ⟨[],trivial,fun a m=>absurd m (by simp)⟩
 |.str s,_,x,_,_=>by
  cases x
  exact ⟨[],trivial,fun a m=>absurd m (by simp)⟩
 |.bytes b,_,x,_,_=>by
  cases x
  exact ⟨[],trivial,fun a m=>absurd m (by simp)⟩
 |.list ds,_,x,p,z=>by
  obtain ⟨a,vs,rfl,ho,hall⟩:=zC x
  have z2:WData.weightAll ds<=1048576:=z
  obtain ⟨A,h1,h2⟩:=qF ds _ hall p fun d hd=>Nat.le_trans (pK hd) z2
  have k:∀ b∈A,b∈a::A:=fun b hb=>List.mem_cons_of_mem _ hb
  refine ⟨a::A,List.mem_cons_self ..,fun b hb=>?_⟩
  rcases List.mem_cons.mp hb with e|m
  ·rw [e]
   exact ⟨vs,Ke (by rw [jM hall];exact Nat.le_trans (PySem.W.length_le_weightAllW ds) z2),fun u hu=>(h1 u hu).mono k,.inl ho⟩
  ·exact (h2 b m).mono k
 |.tuple ds,_,x,p,z=>by
  obtain ⟨a,vs,rfl,ho,hall⟩:=wR x
  have z2:WData.weightAll ds<=1048576:=z
  obtain ⟨A,h1,h2⟩:=qF ds _ hall p fun d hd=>Nat.le_trans (pK hd) z2
  have k:∀ b∈A,b∈a::A:=fun b hb=>List.mem_cons_of_mem _ hb
  refine ⟨a::A,List.mem_cons_self ..,fun b hb=>?_⟩
  rcases List.mem_cons.mp hb with e|m
  ·rw [e]
   exact ⟨vs,Ke (by rw [jM hall];exact Nat.le_trans (PySem.W.length_le_weightAllW ds) z2),fun u hu=>(h1 u hu).mono k,.inr ho⟩
  ·exact (h2 b m).mono k
 |.float _,_,_,p,_=>Bool.noConfusion (show false=true from p)
 |.dict _,_,_,p,_=>Bool.noConfusion (show false=true from p)
 |.bytearray _,_,_,p,_=>Bool.noConfusion (show false=true from p)
 |.set _,_,_,p,_=>Bool.noConfusion (show false=true from p)
 |.frozenset _,_,_,p,_=>Bool.noConfusion (show false=true from p)
 |.obj _ _,_,_,p,_=>Bool.noConfusion (show false=true from p)
theorem qF:∀ (ds:List WData) (vs:List Value),WellAll P h vs ds->tZ ds=true->(∀ d∈ds,d.weight<=1048576)->∃ A:List Addr,(∀ u∈vs,Ma A u)/\∀ a∈A,lX h A a
 |[],_,x,_,_=>by
  cases x
  exact ⟨[],fun u m=>absurd m (by simp),fun a m=>absurd m (by simp)⟩
 |d::ds,_,x,p,z=>by
  obtain ⟨v,vs,rfl,x1,x2⟩:=zS x
  have q:Jl d=true/\tZ ds=true:=Bool.and_eq_true_iff.mp p
  obtain ⟨A,a1,a2⟩:=Pa d v x1 q.1 (z d (List.mem_cons_self ..))
  obtain ⟨B,b1,b2⟩:=qF ds vs x2 q.2 fun e he=>z e (List.mem_cons_of_mem _ he)
  have kA:∀ b∈A,b∈A++B:=fun b hb=>List.mem_append.mpr (.inl hb)
  have kB:∀ b∈B,b∈A++B:=fun b hb=>List.mem_append.mpr (.inr hb)
  refine ⟨A++B,fun u hu=>?_,fun b hb=>?_⟩
  ·rcases List.mem_cons.mp hu with e|m
   ·rw [e]
    exact a1.mono kA
   ·exact (b1 u m).mono kB
  ·rcases List.mem_append.mp hb with m|m
   ·exact (a2 b m).mono kA
   ·exact (b2 b m).mono kB
end
end
def Tm (o:Obj):Option HO:=match o.data with
 |.seq vs _=>if (o.cls==Value.type "list")=true then some (.frz o (.lst (vs.toList.map Db))) else some (.frz o (.tup (vs.toList.map Db)))
 |_=>none
def lH (K:PySem.W.Frag) (h:Heap) (A:List Addr):Hp:=fun b=>if b∈A then (if (K.lookup b).isNone=true then (h.get? b).bind Tm else none) else none
def Kj (H:Hp):Prop:=∀ b,H b=none\/∃ o u,H b=some (.frz o u)
theorem Eo (vs:List Value):Tm {cls:=.type "list",data:=.seq vs.toArray}=some (.frz {cls:=.type "list",data:=.seq vs.toArray} (.lst (vs.map Db))):=by
 show (if (Value.type "list"==Value.type "list")=true then some (HO.frz {cls:=.type "list",data:=.seq vs.toArray} (.lst (vs.toArray.toList.map Db))) else some (HO.frz {cls:=.type "list",data:=.seq vs.toArray} (.tup (vs.toArray.toList.map Db))))=_
 rw [if_pos (beq_self_eq_true _)]
theorem Ec (vs:List Value):Tm {cls:=.type "tuple",data:=.seq vs.toArray}=some (.frz {cls:=.type "tuple",data:=.seq vs.toArray} (.tup (vs.map Db))):=by
 show (if (Value.type "tuple"==Value.type "list")=true then some (HO.frz {cls:=.type "tuple",data:=.seq vs.toArray} (.lst (vs.toArray.toList.map Db))) else some (HO.frz {cls:=.type "tuple",data:=.seq vs.toArray} (.tup (vs.toArray.toList.map Db))))=_
 rw [if_neg (by decide)]
section
variable {P:Program} {w:World} {K:PySem.W.Frag} {h:Heap} {A:List Addr}
theorem uC {b:Addr} {o:Obj} (hb:b∈A) (hk:K.lookup b=none) (e:h.get? b=some o):lH K h A b=Tm o:=by
 unfold lH
 rw [if_pos hb,hk,if_pos (show (none:Option Obj).isNone=true from rfl),e]<;>rfl
theorem Ud {b:Addr} {u:HO} (q:lH K h A b=some u):b∈A/\K.lookup b=none:=by
 unfold lH at q
 by_cases hb:b∈A
 ·rw [if_pos hb] at q
  cases hk:K.lookup b with
  |none=>exact ⟨hb,rfl⟩
  |some o=>
   rw [hk,if_neg (by simp)] at q
   cases q
 ·rw [if_neg hb] at q
  cases q
theorem uQ (ar:∀ a∈A,lX h A a) {b:Addr} {u:HO} (q:lH K h A b=some u):K.lookup b=none/\∃ vs:List Value,vs.length<=sizeLine/\(∀ u∈vs,Ma A u)/\
  ((h.get? b=some {cls:=.type "list",data:=.seq vs.toArray}/\u=.frz {cls:=.type "list",data:=.seq vs.toArray} (.lst (vs.map Db)))\/
   (h.get? b=some {cls:=.type "tuple",data:=.seq vs.toArray}/\u=.frz {cls:=.type "tuple",data:=.seq vs.toArray} (.tup (vs.map Db)))):=by
 obtain ⟨hb,hk⟩:=Ud q
 obtain ⟨vs,h1,h2,h3⟩:=ar b hb
 refine ⟨hk,vs,h1,h2,?_⟩
 rcases h3 with e|e
 ·rw [uC hb hk e,Eo] at q
  exact .inl ⟨e,(Option.some.inj q).symm⟩
 ·rw [uC hb hk e,Ec] at q
  exact .inr ⟨e,(Option.some.inj q).symm⟩
theorem Mi (ar:∀ a∈A,lX h A a):Kj (lH K h A):=fun b=>by
 cases q:lH K h A b with
 |none=>exact .inl rfl
 |some u=>
  obtain ⟨_,vs,_,_,⟨_,e⟩|⟨_,e⟩⟩:=uQ ar q
  ·exact .inr ⟨_,_,by rw [e]⟩
  ·exact .inr ⟨_,_,by rw [e]⟩
theorem Vo (ar:∀ a∈A,lX h A a):kR P w (lH K h A) h:=fun b u q=>by
 obtain ⟨_,vs,h1,h2,⟨e,rfl⟩|⟨e,rfl⟩⟩:=uQ ar q
 ·exact ⟨e,by rw [List.length_map];exact h1,vs,_,jT h2,e⟩
 ·exact ⟨e,by rw [List.length_map];exact h1,vs,jT h2,_,e,rfl,_,rfl⟩
theorem uF {c c':Value} {vs us:List Value} (e:(some {cls:=c,data:=.seq vs.toArray}:Option Obj)=some {cls:=c',data:=.seq us.toArray}):c=c'/\vs=us:=by
 have e1:=Option.some.inj e
 have e2:c=c':=congrArg Obj.cls e1
 have e3:Data.seq vs.toArray=Data.seq us.toArray:=congrArg Obj.data e1
 injection e3 with e4
 refine ⟨e2,?_⟩
 have e5:=congrArg Array.toList e4
 simpa using e5
theorem aCu (KX:K.In h) (ar:∀ a∈A,lX h A a) {a:Addr} {vs:List Value} (ha:a∈A) (e:h.get? a=some {cls:=.type "list",data:=.seq vs.toArray}):(∀ u∈vs,Ma A u)/\cW K (lH K h A) a (vs.map Db):=by
 obtain ⟨us,h1,h2,h3⟩:=ar a ha
 have hu:us=vs:=by
  rcases h3 with q|q
  ·rw [e] at q
   exact (uF q).2.symm
  ·rw [e] at q
   exact absurd (Value.type.inj (uF q).1) (by decide)
 subst hu
 refine ⟨h2,?_⟩
 cases hk:K.lookup a with
 |none=>exact .inl (.inr ⟨_,by rw [uC ha hk e,Eo]⟩)
 |some o=>
  have e2:=KX a o hk
  rw [e] at e2
  obtain rfl:=Option.some.inj e2
  exact .inr ⟨_,us.toArray,_,hk,rfl,rfl,rfl,by rw [List.size_toArray];exact h1,by simpa using jT h2⟩
theorem aDo (KX:K.In h) (ar:∀ a∈A,lX h A a) {a:Addr} {vs:List Value} (ha:a∈A) (e:h.get? a=some {cls:=.type "tuple",data:=.seq vs.toArray}):(∀ u∈vs,Ma A u)/\cN K (lH K h A) a (vs.map Db):=by
 obtain ⟨us,h1,h2,h3⟩:=ar a ha
 have hu:us=vs:=by
  rcases h3 with q|q
  ·rw [e] at q
   exact absurd (Value.type.inj (uF q).1) (by decide)
  ·rw [e] at q
   exact (uF q).2.symm
 subst hu
 refine ⟨h2,?_⟩
 cases hk:K.lookup a with
 |none=>exact .inl (.inr ⟨_,by rw [uC ha hk e,Ec]⟩)
 |some o=>
  have e2:=KX a o hk
  rw [e] at e2
  obtain rfl:=Option.some.inj e2
  exact .inr ⟨_,us.toArray,_,hk,rfl,rfl,by rw [List.size_toArray];exact h1,by simpa using jT h2⟩
mutual
theorem Zw {Pm:Params} (KX:K.In h) (ar:∀ a∈A,lX h A a):∀ (d:WData) (v:Value),Well Pm h v d->Jl d=true->Ma A v->Dw K (lH K h A) (Db v) d
 |.none,_,x,_,_=>by
  cases x
  exact .non
 |.bool b,_,x,_,_=>by
  cases x
  exact .bl b
 |.int i,_,x,_,_=>by
  cases x
  exact .int i
 |.str s,_,x,_,_=>by
  cases x
  exact .str s
 |.bytes b,_,x,_,_=>by
  cases x
  have z:=Dw.byt (K:=K) (H:=lH K h A) b.toArray
  exact z
 |.list ds,_,x,p,hu=>by
  obtain ⟨a,vs,rfl,ho,hall⟩:=zC x
  obtain ⟨h2,hs⟩:=aCu KX ar hu ho
  exact .lst hs (Bk KX ar ds _ hall p h2)
 |.tuple ds,_,x,p,hu=>by
  obtain ⟨a,vs,rfl,ho,hall⟩:=wR x
  obtain ⟨h2,hs⟩:=aDo KX ar hu ho
  exact .tup hs (Bk KX ar ds _ hall p h2)
 |.float _,_,_,p,_=>Bool.noConfusion (show false=true from p)
 |.dict _,_,_,p,_=>Bool.noConfusion (show false=true from p)
 |.bytearray _,_,_,p,_=>Bool.noConfusion (show false=true from p)
 |.set _,_,_,p,_=>Bool.noConfusion (show false=true from p)
 |.frozenset _,_,_,p,_=>Bool.noConfusion (show false=true from p)
 |.obj _ _,_,_,p,_=>Bool.noConfusion (show false=true from p)
theorem Bk {Pm:Params} (KX:K.In h) (ar:∀ a∈A,lX h A a):∀ (ds:List WData) (vs:List Value),WellAll Pm h vs ds->tZ ds=true->(∀ u∈vs,Ma A u)->nG K (lH K h A) (vs.map Db) ds
 |[],_,x,_,_=>by
  cases x
  exact .nil
 |d::ds,_,x,p,hu=>by
  obtain ⟨v,vs,rfl,x1,x2⟩:=zS x
  have q:Jl d=true/\tZ ds=true:=Bool.and_eq_true_iff.mp p
  exact .cons (Zw KX ar d v x1 q.1 (hu _ (List.mem_cons_self ..))) (Bk KX ar ds vs x2 q.2 fun u m=>hu u (List.mem_cons_of_mem _ m))
end
end
theorem Nq {P:Program} {w:World} {K:PySem.W.Frag} {mg mb:Str->Option Value} {CX:Gm} {k:Nat} {fa:Addr} {fd:FuncData} {ps:List Str} {sp:Sp} {s₁:Shared} {vals:List Value} {ds:List WData} {R:PySem.W.WRecords} {cl:Str->Option Addr} {d0:WData}
  (KX:K.In s₁.heap) (hns:s₁.heap.Ns mainGlobals mg) (hb:s₁.heap.Ns builtinsNs mb) (hbb:∀ x:Str,x≠"__name__"->mb x=bootBuiltins x) (hlim:s₁.heap.NoLimit) (hg:s₁.gens=#[])
  (hwl:WellAll w.params s₁.heap vals ds) (hpl:tZ ds=true) (hwt:∀ d∈ds,d.weight<=1048576) (hr:fY k callerA)
  (F:∀ base:Heap,K.In base->base.Ns mainGlobals mg->bV P w K mg base CX k fa fd ps sp) (hbind:∀ (s:Shared) (us:List Value),us.length=ps.length->BindsTo s fd ⟨us,[]⟩ (ps.zip us)) (hlen:ds.length=ps.length)
  (hsp:∀ (H:Hp) (xs:List V),Kj H->nG K H xs ds->sp xs H (fun v H'=>Dw K H' v d0) fun _ _ _=>False)
  (hCX:∀ H e s',CX [] H s₁ (fun _ _ _=>False) e s'->False):
  codeAny (model P w) callerA (.call (.ref fa) ⟨vals,[]⟩) (fun r s'=>∃ u as,r=.ok (.ret u)/\ReadsW R cl s'.heap u d0 as/\OldK s₁.heap s'.heap/\s'.os=s₁.os/\AllBare s'.gens) s₁:=by
 obtain ⟨A,ho,ar⟩:=qF ds vals hwl hpl hwt
 have hO:Kj (lH K s₁.heap A):=Mi ar
 have hok:kR P w (lH K s₁.heap A) s₁.heap:=Vo ar
 have hS:=Bk KX ar ds vals hwl hpl ho
 have hV:=jT ho
 have hK:∀ b u,lH K s₁.heap A b=some u->K.lookup b=none:=fun b u q=>(uQ ar q).1
 have noA:∀ {b:Addr} {o:Obj} {es:Array DictEntry} {ep:Nat},s₁.heap.get? b=some o->o.data=.dict es ep->lH K s₁.heap A b=none:=fun {b o es ep} e d=>by
  cases q:lH K s₁.heap A b with
  |none=>rfl
  |some u=>
   obtain ⟨_,vs,_,_,⟨e2,_⟩|⟨e2,_⟩⟩:=uQ ar q
   ·rw [e2] at e
    cases e
    have d':Data.seq vs.toArray _=Data.dict es ep:=d
    cases d'
   ·rw [e2] at e
    cases e
    have d':Data.seq vs.toArray _=Data.dict es ep:=d
    cases d'
 generalize lH K s₁.heap A=H at hO hok hS hK noA
 have base_of:∀ {b:Addr} {o:Obj},s₁.heap.get? b=some o->H b=none->(Cc s₁.heap H).get? b=some o:=fun e n=>Ow e n
 have nsK:∀ {b:Addr} {m:Str->Option Value},s₁.heap.Ns b m->(Cc s₁.heap H).Ns b m:=fun {b m} ⟨o,es,ep,e,d,r⟩=>⟨o,es,ep,base_of e (noA e d),d,r⟩
 have nK:∀ b o,K.lookup b=some o->H b=none:=fun b o e=>by
  cases q:H b with
  |none=>rfl
  |some u=>
   rw [hK b u q] at e
   cases e
 have hKb:K.In (Cc s₁.heap H):=fun b o e=>base_of (KX b o e) (nK b o e)
 have hM:Mod K mg (Cc s₁.heap H):=⟨hKb,nsK hns,⟨mb,nsK hb,hbb⟩,let ⟨mc,h1,h2⟩:=hlim;⟨mc,nsK h1,h2⟩⟩
 have e0:Do P w K mg (Cc s₁.heap H) callerA [] s₁ H:=⟨rfl,hM,fun b o e=>Wc e,Nat.le_of_eq (Nw _ _),trivial,fun b hb=>absurd (show b∈([]:List Addr) from hb) (by simp),hok,.of_eq hg⟩
 have hl:vals.length=ps.length:=by rw [jM hwl];exact hlen
 refine codeAny_mono ((F _ hKb (nsK hns)).run callerA [] s₁ H ⟨vals,[]⟩ vals (vals.map Db) _ _ hr e0 (hbind s₁ vals hl) hV (hsp H _ hO hS)) fun r s' x=>?_
 cases r with
 |error e=>exact (hCX H e s' x).elim
 |ok fl=>
  cases fl with
  |next=>exact False.elim x
  |brk=>exact False.elim x
  |cont=>exact False.elim x
  |ret u=>
   obtain ⟨v,H',os,bare,un,hok',r',q⟩:=x
   have kept:∀ b o,s₁.heap.get? b=some o->s'.heap.get? b=some o:=fun b o e=>by
    cases q2:H b with
    |none=>exact un.keep b o e q2 (by intro z;exact absurd (show b∈([]:List Addr) from z) (by simp)) (by simp)
    |some u2=>
     rcases hO b with z|⟨ob,u3,z⟩
     ·rw [q2] at z
      cases z
     ·have z2:=un.frzs b ob _ z
      obtain ⟨e1,_⟩:=hok b _ z
      obtain ⟨e2,_⟩:=hok' b _ z2
      rw [e] at e1
      cases e1
      exact e2
   have KX':K.In s'.heap:=fun b o e=>kept b o (KX b o e)
   obtain ⟨as,hrd⟩:=Dw.reads (R:=R) (cl:=cl) hok' KX' d0 v u q r'
   exact ⟨u,as,rfl,hrd,OldK.of_keep kept,os,bare⟩
theorem xR {ds:List WData} (h:WData.layableAll ds=true):∀ d∈ds,d.weight<=1048576:=fun d hd=>
 (PySem.W.layableW_iff.mp (List.all_eq_true.mp h d hd)).2.2
theorem xI:∀ (cs:List Codec) (a:Codec.denoteAll cs),(Codec.encAll cs a).length=cs.length
 |[],_=>rfl
 |c::cs,a=>by
  show (Codec.encAll cs a.2).length+1=cs.length+1
  rw [xI cs a.2]
end L2
end
namespace L2
open PySem PySem.Spec PyProof.Rows
structure Fg (fr:List Addr) (e T0 T:Addr) (h h':Heap):Prop where
 keep:∀ b o,b∉fr->b≠e->b≠T0->h.get? b=some o->h'.get? b=some o
 slot:∀ b o,b∈fr->h.get? b=some o->∃ sl,h'.get? b=some {o with slots:=sl}
 big:h.objs.size<=T
 self:∀ oe vs,h.get? e=some oe->oe.data=.fields vs->1<vs.size->∃ oe' vs',h'.get? e=some oe'/\oe'.cls=oe.cls/\oe'.dict=oe.dict/\oe'.data=.fields vs'/\vs'.size=vs.size/\vs'[1]?=some (.ref T)
 head:∃ oT ts,h'.get? T=some oT/\oT.data=.fields ts/\ts[3]?=some .none
 old:∀ o,h.get? T0=some o->∃ o',h'.get? T0=some o'
theorem lR (o:Obj) (f:Array Value->Array Value):(o.mapFields f).cls=o.cls/\(o.mapFields f).dict=o.dict:=by
 obtain ⟨c,d,dt,sl⟩:=o
 cases dt<;>exact ⟨rfl,rfl⟩
section
variable {M:Model} {A:Around} {E:Value->Shared->Prop} {s:Shared}
theorem wJ {base:Heap} {env:Env} {outer:List Env} {L e:Addr} {oe:Obj} {vs:Array Value} {head:Value} {hadNext:Bool} {Q:Unit->Shared->Prop}
  (hfr:A.frames=some (env::outer)) (hl:s.heap.FunFrames base (env::outer)) (hf:env.frame=some L)
  (he:s.heap.get? e=some oe) (hd:oe.data=.fields vs) (hsz:1<vs.size)
  (h:∀ h' T,Fg ((env::outer).filterMap (·.frame)) e e T s.heap h'->Q () {s with heap:=h'}):
  wpAny M A (do let a <-frameOf env;let pl <-entryPlaceOf L hadNext;let b <-EntryCells.newEntry head a .none (rawInt L) .none pl;setField (.ref e) 1 b) (fun _ s'=>wpAny M A (setFlight (.ref e) none) Q E s') E s:=by
 have hene:e∉(env::outer).filterMap (·.frame):=fun hm=>by
  obtain ⟨_,o,ho,hnf⟩:=hl.mem hm
  rw [he] at ho;injection ho with ho;subst ho;exact hnf vs hd
 refine wpAny_bind (wpAny_frameOf_fun hfr hl hf fun h₁ hs₁=>?_)
 refine wpAny_bind (wpAny_entryPlaceOf fun pl hpl=>?_)
 unfold EntryCells.newEntry newFields
 refine wpAny_bind (wpAny_newObj_type ?_ (hpl.sizeOk5 _ _ _ _ _))
 have he₁:h₁.get? e=some oe:=(hs₁.2.1 e hene).trans he
 have he₂:=Heap.get?_push_of_some (h:=h₁) {cls:=.type "traceback",dict:=none,data:=.fields ([head,.ref L,.none,rawInt L,.none]++(if pl.isEmpty then List.replicate 6 Value.none else pl)).toArray} he₁
 refine wpAny_setField he₂ hd hsz ?_
 have hTe:h₁.objs.size≠e:=Nat.ne_of_gt (Heap.lt_size he₁)
 have hd₃:=Obj.data_mapFields hd (·.setIfInBounds 1 (Value.ref h₁.objs.size))
 have he₃:=Heap.get?_update_self (Obj.mapFields (·.setIfInBounds 1 (Value.ref h₁.objs.size))) he₂ (Obj.isFreed_of_fields hd₃)
 have hT₃:=(Heap.get?_update_other (h₁.push {cls:=.type "traceback",dict:=none,data:=.fields ([head,.ref L,.none,rawInt L,.none]++(if pl.isEmpty then List.replicate 6 Value.none else pl)).toArray})
  (Obj.mapFields (·.setIfInBounds 1 (Value.ref h₁.objs.size))) (Ne.symm hTe)).trans (Heap.get?_push_size h₁ rfl)
 unfold setFlight
 refine wpAny_bind (wpAny_field he₃ hd₃ (x:=.ref h₁.objs.size) (by simp [hsz]) ?_)
 rw [if_pos (show (Value.ref h₁.objs.size !=Value.none)=true from by simp)]
 refine wpAny_setField hT₃ rfl (by simp only [List.size_toArray,List.length_append,List.length_cons,List.length_nil]<;>(clear hTe hene hsz;omega)) (h _ h₁.objs.size ?_)
 have keep:∀ b o,b≠e->h₁.get? b=some o->
   (((h₁.push {cls:=.type "traceback",dict:=none,data:=.fields ([head,.ref L,.none,rawInt L,.none]++(if pl.isEmpty then List.replicate 6 Value.none else pl)).toArray}).update e (Obj.mapFields (·.setIfInBounds 1 (Value.ref h₁.objs.size)))).update h₁.objs.size
    (Obj.mapFields (·.setIfInBounds 3 ((none:Option Addr).elim Value.none fun f=>rawInt f)))).get? b=some o:=fun b o hbe hb=>by
  have hbT:h₁.objs.size≠b:=Nat.ne_of_gt (Heap.lt_size hb)
  rw [Heap.get?_update_other _ _ hbT,Heap.get?_update_other _ _ (Ne.symm hbe)]
  exact Heap.get?_push_of_some _ hb
 have he₄:=(Heap.get?_update_other ((h₁.push {cls:=.type "traceback",dict:=none,data:=.fields ([head,.ref L,.none,rawInt L,.none]++(if pl.isEmpty then List.replicate 6 Value.none else pl)).toArray}).update e (Obj.mapFields (·.setIfInBounds 1 (Value.ref h₁.objs.size))))
  (Obj.mapFields (·.setIfInBounds 3 ((none:Option Addr).elim Value.none fun f=>rawInt f))) hTe).trans he₃
 refine ⟨fun b o hb hbe _ hbo=>keep b o hbe ((hs₁.2.1 b hb).trans hbo),fun b o hb hbo=>?_,Nat.le_of_eq hs₁.1.symm,fun oe' vs' h1 h2 _=>?_,?_,fun o ho=>⟨_,he₄⟩⟩
 ·obtain ⟨sl,hs⟩:=hs₁.2.2 b o hbo
  exact ⟨sl,keep b _ (fun q=>hene (q▸hb)) hs⟩
 ·rw [he] at h1;cases h1
  rw [hd] at h2;cases h2
  exact ⟨_,_,he₄,(lR _ _).1,(lR _ _).2,hd₃,by simp,by simp [hsz]⟩
 ·exact ⟨_,_,Heap.get?_update_self _ hT₃ (Obj.isFreed_of_fields (Obj.data_mapFields rfl _)),Obj.data_mapFields rfl _,by first|(simp;done)|(rcases hpl with rfl|⟨_,_,_,_,_,_,_,rfl⟩<;>simp)⟩
theorem Gz {base:Heap} {env:Env} {outer:List Env} {L e:Addr} {oe:Obj} {vs:Array Value} {Q:Unit->Shared->Prop}
  (hfr:A.frames=some (env::outer)) (hl:s.heap.FunFrames base (env::outer)) (hf:env.frame=some L)
  (he:s.heap.get? e=some oe) (hd:oe.data=.fields vs) (h1:vs[1]?=some .none)
  (h:∀ h' T,Fg ((env::outer).filterMap (·.frame)) e e T s.heap h'->Q () {s with heap:=h'}):
  wpAny M A (noteFrame (.ref e) env) (fun _ s'=>wpAny M A (setFlight (.ref e) none) Q E s') E s:=by
 unfold noteFrame
 simp only [hf]
 refine wpAny_bind (wpAny_field he hd h1 ?_)
 rw [if_neg (by decide)]
 exact wJ hfr hl hf he hd (Array.getElem?_eq_some_iff.mp h1).1 h
theorem zA {base:Heap} {env:Env} {outer:List Env} {L e T oeT:Addr} {oe oT:Obj} {vs ts:Array Value} {Q:Unit->Shared->Prop}
  (hfr:A.frames=some (env::outer)) (hl:s.heap.FunFrames base (env::outer)) (hf:env.frame=some L)
  (he:s.heap.get? e=some oe) (hd:oe.data=.fields vs) (h1:vs[1]?=some (.ref T)) (hTe:T≠e) (hT:s.heap.get? T=some oT) (hdT:oT.data=.fields ts) (h3:ts[3]?=some .none)
  (h:∀ h' T',Fg ((env::outer).filterMap (·.frame)) e T T' s.heap h'->Q () {s with heap:=h'}):
  wpAny M A (noteFrame (.ref e) env) (fun _ s'=>wpAny M A (setFlight (.ref e) none) Q E s') E s:=by
 unfold noteFrame
 simp only [hf]
 refine wpAny_bind (wpAny_field he hd h1 ?_)
 rw [if_pos (show (Value.ref T !=Value.none)=true from by simp)]
 refine wpAny_bind (wpAny_field hT hdT h3 ?_)
 rw [if_neg (show ¬((Value.none==rawInt L)=true) from by simp [rawInt])]
 refine wpAny_bind (wpAny_setField hT hdT (Array.getElem?_eq_some_iff.mp h3).1 ?_)
 have other:∀ b,b≠T->(s.heap.update T (Obj.mapFields (·.setIfInBounds 3 Value.none))).get? b=s.heap.get? b:=fun b hb=>Heap.get?_update_other _ _ (Ne.symm hb)
 have noRecord:∀ b o,s.heap.get? b=some o->(∀ vs,o.data≠.fields vs)->b≠T:=fun b o hb hnf q=>by
  rw [q,hT] at hb;injection hb with hb;subst hb;exact hnf ts hdT
 have hfT:∀ b∈(env::outer).filterMap (·.frame),b≠T:=fun b hb=>by
  obtain ⟨_,o,ho,hnf⟩:=hl.mem hb
  exact noRecord b o ho hnf
 have hTself:=Heap.get?_update_self (Obj.mapFields (·.setIfInBounds 3 Value.none)) hT (Obj.isFreed_of_fields (Obj.data_mapFields hdT _))
 refine wJ (base:=base) hfr (hl.of_keeps fun b o hb hnf=>⟨o,(other b (noRecord b o hb hnf)).trans hb,rfl⟩) hf ((other e (Ne.symm hTe)).trans he) hd (Array.getElem?_eq_some_iff.mp h1).1 fun h' T' N=>h h' T' ?_
 refine ⟨fun b o hb hbe hbT hbo=>N.keep b o hb hbe hbe ((other b hbT).trans hbo),fun b o hb hbo=>N.slot b o hb ((other b (hfT b hb)).trans hbo),?_,fun oe' vs' q1 q2 q3=>N.self oe' vs' ((other e (Ne.symm hTe)).trans q1) q2 q3,N.head,fun o _=>?_⟩
 ·have:=N.big
  rwa [Heap.size_after_update] at this
 ·by_cases hb:T∈(env::outer).filterMap (·.frame)
  ·exact absurd rfl (hfT T hb)
  ·exact ⟨_,N.keep T _ hb hTe hTe hTself⟩
end
section
variable {X:Cx} {pins:List (Addr×Obj)} {σ:List (Option V)} {H H':Hp} {s:Shared} {h':Heap}
theorem aQ.step2 {g':Array GenState} {t':Nat} {d':Drawn} {ch:List Addr} (I:aQ X pins σ H s)
  (hch:∀ b∈ch,(b∈X.ex\/X.s_0.heap.get? b=none)/\b≠X.env.locals/\(∀ x c,X.env.cells.lookup x=some c->c≠b)/\∀ p∈X.pn++pins,p.1≠b)
  (keep:∀ b o,b≠X.env.locals->b∉X.fs->b∉ch->s.heap.get? b=some o->H b=none->h'.get? b=some o)
  (slot:∀ b o,b≠X.env.locals->b∈X.fs->b∉ch->s.heap.get? b=some o->H b=none->∃ sl,h'.get? b=some {o with slots:=sl}) (free:∀ b o,b∉ch->s.heap.get? b=some o->H b=none->H' b=none)
  (there:∀ b o,b∉ch->s.heap.get? b=some o->∃ o',h'.get? b=some o')
  (tups:∀ b xs,H b=some (.tup xs)->H' b=some (.tup xs)) (frzs:∀ b o u,H b=some (.frz o u)->H' b=some (.frz o u)) (tbls:∀ b ps,H b=some (.tbl ps)->∃ more,H' b=some (.tbl (ps++more)))
  (ns:∀ m,s.heap.Ns X.env.locals m->h'.Ns X.env.locals m) (hok:kR X.prog X.w H' h') (hg:AllBare g'):
  aQ X pins σ H' {s with heap:=h',gens:=g',drawn:=d',toks:=t'}:=by
 have neL:∀ b o,X.s_0.heap.get? b=some o->b≠X.env.locals:=fun b o e=>Nat.ne_of_lt (Nat.lt_of_lt_of_le (Heap.lt_size e) I.ok.above)
 have neC:∀ b o,X.s_0.heap.get? b=some o->b∉X.ex->b∉ch:=fun b o e hx hb=>by
  rcases (hch b hb).1 with z|z
  ·exact hx z
  ·rw [e] at z;cases z
 have cellK:∀ x c,X.env.cells.lookup x=some c->∀ v,s.heap.IsCell c v->h'.IsCell c v:=fun x c e v ⟨o,ho,hd⟩=>by
  have nch:c∉ch:=fun z=>(hch c z).2.2.1 x c e rfl
  by_cases hc:c∈X.fs
  ·obtain ⟨sl,q⟩:=slot c o (I.cne x c e) hc nch ho (I.freeC x c e)
   exact ⟨_,q,hd⟩
  ·exact ⟨o,keep c o (I.cne x c e) hc nch ho (I.freeC x c e),hd⟩
 refine ⟨I.ok,I.os,hg,⟨fun b o e n hb hx=>?_,fun b o e n hb hx=>?_,fun b o e n hx=>?_,fun b o e hx=>?_,fun b xs e=>tups b xs (I.base.tups b xs e),fun b o xs e=>frzs b o xs (I.base.frzs b o xs e),fun b ps e=>?_⟩,?_,fun x c e=>?_,?_,fun x c e=>?_,fun p hp=>?_,hok,I.len⟩
 ·exact keep b o (neL b o e) hb (neC b o e hx) (I.base.keep b o e n hb hx) (I.base.free b o e n hx)
 ·obtain ⟨sl,e1⟩:=I.base.slot b o e n hb hx
  obtain ⟨sl',e2⟩:=slot b _ (neL b o e) hb (neC b o e hx) e1 (I.base.free b o e n hx)
  exact ⟨sl',e2⟩
 ·obtain ⟨o',e1⟩:=I.base.there b o e hx
  exact free b o' (neC b o e hx) e1 (I.base.free b o e n hx)
 ·obtain ⟨o',e1⟩:=I.base.there b o e hx
  exact there b o' (neC b o e hx) e1
 ·obtain ⟨m1,e1⟩:=I.base.tbls b ps e
  obtain ⟨m2,e2⟩:=tbls b _ e1
  exact ⟨m1++m2,by rw [e2,Array.append_assoc]⟩
 ·obtain ⟨m,hn,hl⟩:=I.loc
  refine ⟨m,ns m hn,fun i x v e1 e2 e3=>?_⟩
  obtain ⟨u,r,l⟩:=hl i x v e1 e2 e3
  refine ⟨u,r,?_⟩
  rcases l with l|⟨k,c,e,z⟩
  ·exact .inl l
  ·exact .inr ⟨k,c,e,cellK x c e _ z⟩
 ·obtain ⟨v,z⟩:=I.cell x c e
  exact ⟨v,cellK x c e v z⟩
 ·obtain ⟨m,⟨o,_,_,ho,_⟩,_⟩:=I.loc
  exact free _ o (fun z=>(hch _ z).2.1 rfl) ho I.free
 ·obtain ⟨v,o,ho,hd⟩:=I.cell x c e
  exact free c o (fun z=>(hch c z).2.2.1 x c e rfl) ho (I.freeC x c e)
 ·obtain ⟨e,n,ne,nf,d⟩:=I.pin p hp
  have nch:p.1∉ch:=fun z=>(hch p.1 z).2.2.2 p hp rfl
  exact ⟨keep p.1 p.2 ne nf nch e n,free p.1 p.2 nch e n,ne,nf,d⟩
end
structure Xn (C:Addr) (H:Hp) (h h0:Heap) (e:Addr) (n:Int) (tb:Value):Prop where
 at_:∃ oe vs d mA,h.get? e=some oe/\oe.cls=.ref C/\oe.dict=some d/\oe.data=.fields vs/\vs[1]?=some tb/\h.Ns1 d mA/\(∀ f,lC (([("fault",V.int n)]:List (Str×V)).lookup f) (mA f))/\H d=none/\h0.get? d=none/\d≠e
 he:H e=none
 lo:h0.get? e=none
def tG (C:Addr) (H:Hp) (h h0:Heap) (e:Addr) (n:Int):Prop:=
 ∃ T,Xn C H h h0 e n (.ref T)/\T≠e/\h0.get? T=none/\H T=none/\∃ oT ts,h.get? T=some oT/\oT.data=.fields ts/\ts[3]?=some .none
def Sub (h0 h1:Heap):Prop:=∀ b o,h0.get? b=some o->∃ o',h1.get? b=some o'
theorem Sub.no {h0 h1:Heap} (x:Sub h0 h1) {b:Addr} (e:h1.get? b=none):h0.get? b=none:=by
 cases q:h0.get? b with
 |none=>rfl
 |some o=>
  obtain ⟨o',z⟩:=x b o q
  rw [e] at z;cases z
theorem Xn.mono {C:Addr} {H:Hp} {h h0 h1:Heap} {e:Addr} {n:Int} {tb:Value} (x:Xn C H h h1 e n tb) (hl:Sub h0 h1):Xn C H h h0 e n tb:=by
 obtain ⟨oe,vs,d,mA,g1,g2,g3,g4,g5,g6,g7,g8,g9,g10⟩:=x.at_
 exact ⟨⟨oe,vs,d,mA,g1,g2,g3,g4,g5,g6,g7,g8,hl.no g9,g10⟩,x.he,hl.no x.lo⟩
theorem tG.mono {C:Addr} {H:Hp} {h h0 h1:Heap} {e:Addr} {n:Int} (x:tG C H h h1 e n) (hl:Sub h0 h1):tG C H h h0 e n:=by
 obtain ⟨T,x,g1,g2,g3⟩:=x
 exact ⟨T,x.mono hl,g1,hl.no g2,g3⟩
def iV (C:Addr) (P:Program) (w:World):Gm:=fun outer H s E e s'=>
 ∃ (ea:Addr) (n:Int) (H':Hp),e=.ref ea/\s'.os=s.os/\AllBare s'.gens/\Un (An outer) [] H H' s.heap s'.heap/\kR P w H' s'.heap/\tG C H' s'.heap s.heap ea n/\E (.int n 0) none H'
section
variable {X:Cx} {pins:List (Addr×Obj)} {σ:St} {H:Hp} {s:Shared} {h' h0:Heap} {e T0 T:Addr}
structure Ds (X:Cx) (pins:List (Addr×Obj)) (h0:Heap):Prop where
 s0:∀ b o,X.s_0.heap.get? b=some o->b∉X.ex->∃ o',h0.get? b=some o'
 loc:∃ o,h0.get? X.env.locals=some o
 cell:∀ x c,X.env.cells.lookup x=some c->∃ o,h0.get? c=some o
 pin:∀ p∈X.pn++pins,∃ o,h0.get? p.1=some o
 fr:∀ b∈An X.stack,∃ o,h0.get? b=some o
theorem eO {h0:Heap} {a b:Addr} (x:∃ o,h0.get? a=some o) (e:h0.get? b=none):a≠b:=by
 rintro rfl
 obtain ⟨o,q⟩:=x
 rw [e] at q;cases q
theorem aQ.below (I:aQ X pins σ H s):Ds X pins s.heap where
 s0:=I.base.there
 loc:=let ⟨_,⟨o,_,_,ho,_⟩,_⟩:=I.loc;⟨o,ho⟩
 cell:=fun x c e=>let ⟨_,o,z,_⟩:=I.cell x c e;⟨o,z⟩
 pin:=fun p hp=>⟨_,(I.pin p hp).1⟩
 fr:=fun b hb=>let ⟨_,o,ho,_⟩:=I.stack.mem hb;⟨o,ho⟩
theorem aQ.noted (I:aQ X pins σ H s) (N:Fg (An X.stack) e T0 T s.heap h') (B:Ds X pins h0) (he:h0.get? e=none) (ht:h0.get? T0=none) (ne:H e=none) (nt:H T0=none):aQ X pins σ H {s with heap:=h'}:=by
 have hch:∀ b∈[e,T0],h0.get? b=none:=fun b hb=>by
  rcases List.mem_cons.mp hb with rfl|hb
  ·exact he
  ·rw [List.mem_singleton.mp hb];exact ht
 have keep:∀ b o,b∉An X.stack->b∉[e,T0]->s.heap.get? b=some o->h'.get? b=some o:=fun b o h1 h2 h3=>N.keep b o h1 (fun z=>h2 (by simp [z])) (fun z=>h2 (by simp [z])) h3
 have any:∀ b o,b∉[e,T0]->s.heap.get? b=some o->∃ sl,h'.get? b=some {o with slots:=sl}:=fun b o h2 h3=>by
  by_cases hb:b∈An X.stack
  ·exact N.slot b o hb h3
  ·exact ⟨o.slots,keep b o hb h2 h3⟩
 refine I.step2 (g':=s.gens) (d':=s.drawn) (t':=s.toks) (ch:=[e,T0]) (fun b hb=>?_) (fun b o h1 h2 h3 h4 _=>?_) (fun b o _ _ h3 h4 _=>any b o h3 h4) (fun _ _ _ _ n=>n) (fun b o h3 h4=>?_) (fun _ _ q=>q) (fun _ _ _ q=>q) (fun b ps q=>⟨#[],by rw [q];simp⟩) (fun m hm=>?_) (fun b u q=>?_) I.bare
 ·have hb:=hch b hb
  refine ⟨?_,Ne.symm (eO B.loc hb),fun x c q=>eO (B.cell x c q) hb,fun p hp=>eO (B.pin p hp) hb⟩
  by_cases hx:b∈X.ex
  ·exact .inl hx
  ·refine .inr ?_
   cases q:X.s_0.heap.get? b with
   |none=>rfl
   |some o=>exact absurd rfl (eO (B.s0 b o q hx) hb)
 ·refine keep b o (fun z=>?_) h3 h4
  rcases List.mem_cons.mp (I.stkSub b z) with z|z
  ·exact h1 z
  ·exact h2 z
 ·obtain ⟨sl,q⟩:=any b o h3 h4
  exact ⟨_,q⟩
 ·obtain ⟨o,es,ep,ho,hd,r⟩:=hm
  obtain ⟨sl,q⟩:=any X.env.locals o (fun z=>absurd rfl (eO B.loc (hch _ z))) ho
  exact ⟨_,es,ep,q,hd,r⟩
 ·have tr:∀ c v,H c=some v->c∉An X.stack/\c∉[e,T0]:=fun c v q=>by
   refine ⟨fun z=>?_,fun z=>?_⟩
   ·rw [I.stkFree c z] at q;cases q
   ·rcases List.mem_cons.mp z with rfl|z
    ·rw [ne] at q;cases q
    ·rw [List.mem_singleton.mp z,nt] at q;cases q
  refine (I.hok b u q).stay (fun c v hc r=>?_) (fun _ z=>z) fun _ _ z=>z
  rcases hc with rfl|hc
  ·exact keep c v (tr c u q).1 (tr c u q).2 r
  ·exact keep c v (tr c _ hc).1 (tr c _ hc).2 r
theorem Xn.noted {C:Addr} {n:Int} {tb:Value} (I:aQ X pins σ H s) (N:Fg (An X.stack) e T0 T s.heap h') (B:Ds X pins h0) (hs:Sub h0 s.heap) (x:Xn C H s.heap h0 e n tb) (hk:∀ o es ep,s.heap.get? T0=some o->o.data≠.dict es ep):tG C H h' h0 e n:=by
 obtain ⟨oe,vs,d,mA,h1,h2,h3,h4,h5,h6,h7,h8,h9,h10⟩:=x.at_
 obtain ⟨oe',vs',g1,g2,g3,g4,g5,g6⟩:=N.self oe vs h1 h4 (Array.getElem?_eq_some_iff.mp h5).1
 have hTs:e<s.heap.objs.size:=Heap.lt_size h1
 refine ⟨T,⟨⟨oe',vs',d,mA,g1,g2.trans h2,g3.trans h3,g4,g6,h6.at fun o q=>N.keep d o (fun z=>absurd rfl (eO (B.fr d z) h9)) h10 (fun z=>?_) q,h7,h8,h9,h10⟩,x.he,x.lo⟩,fun z=>?_,hs.no (Heap.get?_none_of_le N.big),I.hok.fresh N.big,N.head⟩
 ·obtain ⟨o',es,ep,q1,q2,_⟩:=h6
  rw [z] at q1
  exact hk o' es ep q1 q2
 ·exact absurd (Nat.lt_of_lt_of_le hTs N.big) (by rw [z];exact Nat.lt_irrefl _)
end
structure Oz (C:Addr) (X:Cx) (E:XK):Prop where
 pass:iR (iV C X.prog X.w) X E
 new:∀ (pins:List (Addr×Obj)) (σ:St) (H:Hp) (s:Shared) (ea:Addr) (n:Int) (h0:Heap),aQ X pins σ H s->Ds X pins h0->Sub h0 s.heap->Xn C H s.heap h0 ea n .none->E (.int n 0) none H->X.xe (.ref ea) s
 own:PassesOwn (model X.prog X.w) X.A X.env X.xe
theorem aN {C:Addr} {P:Program} {w:World} {K:PySem.W.Frag} {mg:Str->Option Value} {base:Heap} {N:List Str} {qual:Str} {scope:Scope} {f:Addr} {cd:Value} {A:Around} {outer:List Env} {s:Shared} {H:Hp} {E:XK}:
  Oz C (Ca (iV C P w) P w K mg base N qual scope f cd A outer s H E) E where
 pass:=by
  intro pins σ H1 s1 e s' I ⟨ea,n,H',he,hos,hb,un,hok,fl,hE⟩
  subst he
  have I':=I.call' (ch:=[]) hos un hok hb (fun _ z=>nomatch z)
  have B:=I.below
  obtain ⟨T,x,hTe,hTl,hTn,oT,ts,t1,t2,t3⟩:=fl
  obtain ⟨oe,vs,d,mA,h1,h2,h3,h4,h5,h6,h7,h8,h9,h10⟩:=id x.at_
  show wpAny _ _ (leaving _ _) _ _ _
  unfold leaving
  refine wpAny_bind (zA (oeT:=0) I'.ok.frames I'.stack rfl h1 h4 h5 hTe t1 t2 t3 fun h' T' Nt=>?_)
  have I2:=I'.noted Nt B x.lo hTl x.he hTn
  have fl2:=Xn.noted (C:=C) I' Nt B (fun b o q=>un.there b o q (by simp)) x (fun o es ep q z=>by rw [t1] at q;cases q;rw [t2] at z;cases z)
  exact ⟨ea,n,H',rfl,I2.os,I2.bare,I2.base,I2.hok,(fl2.mono fun b o q=>B.s0 b o q (fun z=>nomatch (show b∈([]:List Addr) from z))),hE⟩
 new:=by
  intro pins σ H1 s1 ea n h0 I B hs x hE
  obtain ⟨oe,vs,d,mA,h1,h2,h3,h4,h5,h6,h7,h8,h9,h10⟩:=id x.at_
  show wpAny _ _ (leaving _ _) _ _ _
  unfold leaving
  refine wpAny_bind (Gz I.ok.frames I.stack rfl h1 h4 h5 fun h' T' Nt=>?_)
  have I2:=I.noted Nt B x.lo x.lo x.he x.he
  have fl2:=Xn.noted (C:=C) I Nt B hs x (fun o es ep q z=>by rw [h1] at q;cases q;rw [h4] at z;cases z)
  exact ⟨ea,n,H1,rfl,I2.os,I2.bare,I2.base,I2.hok,(fl2.mono fun b o q=>B.s0 b o q (fun z=>nomatch (show b∈([]:List Addr) from z))),hE⟩
 own:=PassesOwn.leaving
section
open Builtin Builtin.ObjectAttr
variable {prog:Program} {w:World} {A:Around} {E:Value->Shared->Prop} {h:Heap} {g:Array GenState} {d:Drawn} {t:Nat} {os:OsState}
variable {nm q:Str} {C N x:Addr} {bs bm:List Value} {sn:List Str} {sub:List Value} {ab:Bool} {col:Option Bool} {dd:Option Addr} {k0 k1 k2 k3 k5:Option Value} {B newId sa owner:String}
 {mN:Str->Option Value} {name:Str} {v:Value} {o:Obj}
structure yN (h h':Heap) (x:Addr) (o:Obj) (name:Str) (v:Value):Prop where
 obj:h'.get? x=some {o with dict:=some h.objs.size}
 ns:h'.Ns1 h.objs.size (fun y=>if y=name then some v else none)
 keep:∀ b ob,b≠x->h.get? b=some ob->h'.get? b=some ob
theorem Dv {tk:Tok} {Q:Fin->Shared->Prop} (SF:StoreFacts B bm sa owner)
  (hC:h.get? C=some (excClassObj nm q C N bs bm true sn sub ab col dd k0 k1 k2 k3 k5 newId)) (hn:h.Ns N mN) (hna:mN name=none)
  (hB:typeLookup (.type B) name=pure none) (hx:h.get? x=some o) (hc:o.cls=.ref C) (hnc:∀ c,o.data≠.cls c) (hdn:o.dict=none)
  (hq:∀ h' tk',yN h h' x o name v->Q (.done (.ret .none)) ⟨h',g,d,tk',os⟩):
  wpAny (model prog w) A (Builtin.«object.__setattr__» ⟨[.ref x,.str name tk,v],[]⟩) Q E ⟨h,g,d,t,os⟩:=by
 have hpass:=SF.passes (.ref x)
 unfold Builtin.«object.__setattr__»
 repeat (first|rw [refuse_eq]|(rw [refuseLoop_ref,hpass])|(with_reducible refine wpAny_loadPart_at hx ?_;rw [hc])|with_reducible refine wpAny_mroOf_exc hC ?_|(with_reducible refine wpAny_typeLookup_exc hC hn SF.mro hB ?_;rw [hna])|wp_step)
 rw [hdn,if_neg (by simp [typeHasDict])]
 split
 ·rename_i hcd
  cases hcd
 split
 ·rename_i c hcd
  exact absurd hcd (hnc c)
 ·have hx1:(h.push {cls:=.type "dict",data:=.dict #[]}).get? x=some o:=Heap.get?_push_of_some _ hx
  have hxs:x≠h.objs.size:=Nat.ne_of_lt (Heap.lt_size hx)
  refine wpAny_bind (wpAny_alloc' (wpAny_bind (wpAny_update' hx1 (wpAny_pure ?_))))
  have hgd:((h.push {cls:=.type "dict",data:=.dict #[]}).update x fun o=>{cls:=o.cls,dict:=some h.objs.size,data:=o.data,slots:=o.slots}).get? h.objs.size
    =some {cls:=.type "dict",data:=.dict #[]}:=(Heap.get?_update_ne _ _ _ _ hxs.symm).trans (Heap.get?_push_at rfl rfl)
  have hnd:((h.push {cls:=.type "dict",data:=.dict #[]}).update x fun o=>{cls:=o.cls,dict:=some h.objs.size,data:=o.data,slots:=o.slots}).Ns h.objs.size (fun _=>none):=
   ⟨_,#[],_,hgd,rfl,fun e he=>absurd he (by simp),fun _=>rfl⟩
  show wpAny _ _ (storeInDict h.objs.size (.str name tk) name v) _ _ _
  unfold storeInDict newKeyGuard
  refine wpAny_bind (wpAny_pure (wpAny_bind (wpAny_nsSet1 (Heap.Ns1.of_empty hnd) fun h' hn' hs=>?_)))
  obtain ⟨oD,esD,epD,hoD,hdD,hcD⟩:=hn'.count (Within.cons name v Within.nil)
  refine wpAny_bind (wpAny_lookBehind hoD (by rw [hdD];exact pastItsLine_dict (Nat.le_trans hcD (by rw [List.length_cons,List.length_nil,sizeLine_eq];(clear hcD;omega)))) ?_)
  wp_walk
  refine hq h' _ ⟨?_,hn',fun b ob hbx hb=>(hs.2 b (Nat.ne_of_lt (Heap.lt_size hb))).trans ((Heap.get?_update_ne _ _ _ _ hbx).trans (Heap.get?_push_of_some _ hb))⟩
  refine (hs.2 x hxs).trans (Heap.get?_update_self _ hx1 ?_)
  have hfr:=(Heap.get?_some_iff.mp hx).2
  obtain ⟨oc,od,odt,osl⟩:=o
  cases odt<;>first|rfl|exact hfr
theorem Gs {Q:Unit->Shared->Prop} (SF:StoreFacts B bm sa owner)
  (hC:h.get? C=some (excClassObj nm q C N bs bm true sn sub ab col dd k0 k1 k2 k3 k5 newId)) (hn:h.Ns N mN) (hns:mN "__setattr__"=none) (hna:mN name=none)
  (hB:typeLookup (.type B) name=pure none) (hx:h.get? x=some o) (hc:o.cls=.ref C) (hnc:∀ c,o.data≠.cls c) (hdn:o.dict=none)
  (hq:∀ h' tk',yN h h' x o name v->Q () ⟨h',g,d,tk',os⟩):
  wpAny (model prog w) A (setAttr (.ref x) name v) Q E ⟨h,g,d,t,os⟩:=by
 have f3:=SF.slot.bind (.ref x)
 unfold setAttr callSpecial? specialOf
 repeat (any_goals (first|assumption|(with_reducible refine wpAny_loadPart_at hx ?_;rw [hc])|(with_reducible refine wpAny_typeLookup_exc hC hn SF.mro SF.slot.lookup ?_;rw [hns])|wp_step))
 refine codeAny_call_builtin SF.slot.plain SF.entry (wpAny_check_sa SF hC hx hc (Dv SF hC hn hna hB hx hc hnc hdn fun h' tk' I'=>?_))
 repeat (any_goals (first|assumption|wp_step))
 exact hq h' tk' I'
end
section
open Builtin Builtin.ObjectAttr
variable {prog:Program} {w:World} {A:Around} {E:Value->Shared->Prop} {h:Heap} {g:Array GenState} {d:Drawn} {t:Nat} {os:OsState}
variable {nm q:Str} {C N x dx:Addr} {bs bm:List Value} {sn:List Str} {sub:List Value} {ab:Bool} {col:Option Bool} {dd:Option Addr} {k0 k1 k2 k3 k5:Option Value} {B newId:String}
 {mN mA:Str->Option Value} {name:Str} {v:Value} {o:Obj}
theorem Oe {tk:Tok} {Q:Fin->Shared->Prop} (FB:ExcAttrBase B bm)
  (hC:h.get? C=some (excClassObj nm q C N bs bm true sn sub ab col dd k0 k1 k2 k3 k5 newId)) (hn:h.Ns N mN) (hna:mN name=none)
  (hB:typeLookup (.type B) name=pure none) (hx:h.get? x=some o) (hc:o.cls=.ref C) (hnc:∀ c,o.data≠.cls c) (hdx:o.dict=some dx) (hA:h.Ns1 dx mA) (hv:mA name=some v) (hq:Q (.done (.ret v)) ⟨h,g,d,t,os⟩):
  wpAny (model prog w) A (Builtin.«object.__getattribute__» ⟨[.ref x,.str name tk],[]⟩) Q E ⟨h,g,d,t,os⟩:=by
 unfold Builtin.«object.__getattribute__»
 repeat (first|(with_reducible refine wpAny_loadPart_at hx ?_;rw [hc])|(with_reducible refine wpAny_typeLookup_exc hC hn FB.mro hB ?_;rw [hna])|wp_step)
 split
 ·rename_i c hcd
  exact absurd hcd (hnc c)
 unfold instanceDict
 repeat (first|(with_reducible refine wpAny_loadPart_at hx ?_;rw [hc])|with_reducible refine wpAny_loadPart_at hC ?_|wp_step)
 rw [hdx]
 repeat (first|(with_reducible refine wpAny_nsGet hA.ns ?_;rw [hv])|wp_step)
 exact hq
theorem Zv {tk:Tok} {fill expr:Bool} {Q:Value->Shared->Prop} (FB:ExcAttrBase B bm)
  (hC:h.get? C=some (excClassObj nm q C N bs bm true sn sub ab col dd k0 k1 k2 k3 k5 newId)) (hn:h.Ns N mN) (hng:mN "__getattribute__"=none) (hnh:mN "__getattr__"=none) (hna:mN name=none)
  (hB:typeLookup (.type B) name=pure none) (hx:h.get? x=some o) (hc:o.cls=.ref C) (hnc:∀ c,o.data≠.cls c) (hdx:o.dict=some dx) (hA:h.Ns1 dx mA) (hv:mA name=some v) (hh:handedOut v=pure v) (hq:Q v ⟨h,g,d,t,os⟩):
  wpAny (model prog w) A (getAttrBy (.ref x) (.str name tk) fill expr) Q E ⟨h,g,d,t,os⟩:=by
 have f3:=FB.ga.bind (.ref x)
 have hx0:(expr && onTheHeap (Value.builtin "BaseException.__getattribute__"))=false:=by cases expr<;>rfl
 have hx2:(Value.builtin "BaseException.__getattribute__"==Value.builtin "object.__getattribute__")=false:=by decide+kernel
 have hx1:(onTheHeap (Value.ref C) && Value.builtin "BaseException.__getattribute__"==Value.builtin "object.__getattribute__")=false:=by rw [hx2];rfl
 repeat (any_goals (first|assumption|(with_reducible refine wpAny_loadPart_at hx ?_;rw [hc])|(with_reducible refine wpAny_typeLookup_exc hC hn FB.mro FB.ga.lookup ?_;rw [hng])|(with_reducible refine wpAny_typeLookup_exc hC hn FB.mro FB.noGetattr ?_;rw [hnh])|wp_step))
 refine codeAny_call_builtin FB.ga.plain F.entry_bexc_ga (wpAny_check_ga_own FB hC .base hx hc (Oe FB hC hn hna hB hx hc hnc hdx hA hv ?_))
 repeat (any_goals (first|assumption|wp_step))
theorem Se {expr:Bool} {Q:Value->Shared->Prop} (FB:ExcAttrBase B bm)
  (hC:h.get? C=some (excClassObj nm q C N bs bm true sn sub ab col dd k0 k1 k2 k3 k5 newId)) (hn:h.Ns N mN) (hng:mN "__getattribute__"=none) (hnh:mN "__getattr__"=none) (hna:mN name=none)
  (hB:typeLookup (.type B) name=pure none) (hx:h.get? x=some o) (hc:o.cls=.ref C) (hnc:∀ c,o.data≠.cls c) (hdx:o.dict=some dx) (hA:h.Ns1 dx mA) (hv:mA name=some v) (hh:handedOut v=pure v) (hq:Q v ⟨h,g,d,t+1,os⟩):
  wpAny (model prog w) A (getAttr (.ref x) name expr) Q E ⟨h,g,d,t,os⟩:=by
 unfold getAttr
 repeat (any_goals (first|assumption|with_reducible apply Zv FB hC hn hng hnh hna hB hx hc hnc hdx hA hv hh|wp_step))
end
structure Cp (K:PySem.W.Frag) (C fI:Addr):Prop where
 cls:∃ nm q N bs sn sub ab col dd k0 k1 k2 k3 k5,K.lookup C=some (excClassObj nm q C N bs Bw true sn sub ab col dd k0 k1 k2 k3 k5 "Exception.__new__")/\PySem.W.nsOkIn K N=true/\PySem.W.nsIn K N "__init__"=some (some (.ref fI))/\
  PySem.W.nsIn K N "fault"=some none/\PySem.W.nsIn K N "__setattr__"=some none/\PySem.W.nsIn K N "__getattribute__"=some none/\PySem.W.nsIn K N "__getattr__"=some none
 fn:PySem.W.isFn K (.ref fI)=true
 kp:PySem.W.keepIn K (.ref C)=true
theorem Vs {K:PySem.W.Frag} {h:Heap} {N:Addr} {m:Str->Option Value} {x:Str} {v:Value} (X:K.In h) (G:h.Ns N m) (e:PySem.W.nsIn K N x=some (some v)):m x=some v:=by
 obtain ⟨o,es,ep,ho,hd,_,hf⟩:=G
 unfold PySem.W.nsIn at e
 split at e
 ·rename_i q
  have z:=X _ _ q
  rw [ho] at z
  cases z
  cases hd
  split at e
  ·rename_i en he
   cases e
   rw [<-hf]
   unfold nsFind findBy
   rw [<-Array.find?_toList,he]
   rfl
  ·split at e<;>cases e
 ·cases e
theorem vD:typeLookup (.type "Exception") "fault"=pure none:=by rw [typeLookup_type,builtinLookup_eq_fast];kernel_rfl
theorem Zu {K:PySem.W.Frag} {f:Addr} (h:PySem.W.isFn K (.ref f)=true):∃ o,K.lookup f=some o/\o.cls=.type "function":=by
 have h:((K.lookup f).map (·.cls)==some (.type "function"))=true:=h
 cases q:K.lookup f with
 |none=>rw [q] at h;cases h
 |some o=>
  rw [q] at h
  exact ⟨o,rfl,Option.some.inj (beq_iff_eq.mp h)⟩
theorem cK.there {P:Program} {w:World} {H:Hp} {h:Heap} {a:Addr} {o:HO} (x:cK P w H h a o):∃ ob,h.get? a=some ob:=by
 cases o with
 |lst xs=>obtain ⟨_,_,_,_,e⟩:=x;exact ⟨_,e⟩
 |tup xs=>obtain ⟨_,_,_,o,e,_⟩:=x;exact ⟨_,e⟩
 |dK aJ=>obtain ⟨_,_,_,_,o,_,_,e,_⟩:=x;exact ⟨_,e⟩
 |dT aJ=>obtain ⟨_,_,_,_,o,_,_,e,_⟩:=x;exact ⟨_,e⟩
 |set S n=>obtain ⟨o,_,_,_,e,_⟩:=x;exact ⟨_,e⟩
 |ins C dx fs=>obtain ⟨_,_,_,e,_⟩:=x;exact ⟨_,e⟩
 |own y=>exact x
 |xd fs=>obtain ⟨_,⟨_,_,_,e,_⟩,_⟩:=x;exact ⟨_,e⟩
 |rng lo hi=>obtain ⟨_,_,_,e⟩:=x;exact ⟨_,e⟩
 |frz ob u=>obtain ⟨e,_⟩:=x;exact ⟨_,e⟩
 |tbl ps=>exact ⟨_,(show h.get? a=some _ from x)⟩
 |met f y=>exact ⟨_,(show h.get? a=some _ from x)⟩
 |ext φ=>obtain ⟨_,e,_⟩:=x;exact e
theorem kR.none_of {P:Program} {w:World} {H:Hp} {h:Heap} {a:Addr} (x:kR P w H h) (e:h.get? a=none):H a=none:=by
 cases q:H a with
 |none=>rfl
 |some o=>
  obtain ⟨ob,z⟩:=(x a o q).there
  rw [e] at z;cases z
section
variable {X:Cx} {pins:List (Addr×Obj)} {σ:St} {H H':Hp} {s:Shared} {h':Heap} {a:Addr} {o:HO}
theorem aQ.laidN {t':Nat} (I:aQ X pins σ H s) (k:∀ b u,s.heap.get? b=some u->h'.get? b=some u) (hp:s.heap.get? a=none) (new:cK X.prog X.w (upd H a o) h' a o):
  aQ X pins σ (upd H a o) {s with heap:=h',toks:=t'}:=by
 have hn:=I.hok.none_of hp
 have ne:∀ b u,s.heap.get? b=some u->b≠a:=fun b u q z=>by rw [z,hp] at q;cases q
 refine I.un ⟨fun b u q _ _ _=>k b u q,fun b u q _ _ _=>⟨u.slots,k b u q⟩,fun b u q n _=>by rw [aC (ne b u q)];exact n,fun b u q _=>⟨u,k b u q⟩,
  fun b xs q=>by rw [aC (aD q hn)];exact q,fun b u xs q=>by rw [aC (aD q hn)];exact q,fun b ps q=>⟨#[],by rw [aC (aD q hn),q];simp⟩⟩ fun b u q=>?_
 by_cases hb:b=a
 ·subst hb;rw [aB] at q;cases q;exact new
 ·rw [aC hb] at q
  exact (I.hok b u q).stay (fun c v _ z=>k c v z) (fun c z=>by rw [aC (aD z hn)];exact z) fun c xs z=>by rw [aC (aD z hn)];exact z
theorem aQ.untrack {pins0:List (Addr×Obj)} {σ0:St} {s0:Shared} (I:aQ X pins σ H' s) (I0:aQ X pins0 σ0 H s0) (sub:∀ b o,H b=some o->H' b=some o)
  (own:∀ b a,H' b=some (.own a)->H b=some (.own a)) (tup:∀ b xs,H' b=some (.tup xs)->H b=some (.tup xs)):aQ X pins σ H s:=by
 have no:∀ b,H' b=none->H b=none:=fun b e=>by
  cases q:H b with
  |none=>rfl
  |some o=>rw [sub b o q] at e;cases e
 refine ⟨I.ok,I.os,I.bare,⟨I.base.keep,I.base.slot,fun b o e n hx=>no b (I.base.free b o e n hx),I.base.there,I0.base.tups,I0.base.frzs,I0.base.tbls⟩,I.loc,I.cell,no _ I.free,fun x c e=>no c (I.freeC x c e),fun p hp=>?_,fun b o e=>?_,I.len⟩
 ·obtain ⟨h1,h2,h3⟩:=I.pin p hp
  exact ⟨h1,no _ h2,h3⟩
 ·exact (I.hok b o (sub b o e)).stay (fun _ _ _ q=>q) (fun c q=>own c b q) fun c xs q=>tup c xs q
end
def XO (C t e:Addr) (od:Option Addr):HO:=.ext fun h=>h.get? e=some {cls:=.ref C,dict:=od,data:=.fields #[.ref t,.none,.none,.none,.bool false,.none]}
theorem XO.ok {P:Program} {w:World} {H:Hp} {h:Heap} {C t e:Addr} {od:Option Addr} (q:h.get? e=some {cls:=.ref C,dict:=od,data:=.fields #[.ref t,.none,.none,.none,.bool false,.none]}):cK P w H h e (XO C t e od):=
 ⟨q,⟨_,q⟩,fun _ _ z k=>k _ z⟩
def aAi (C:Addr):Sp:=fun vs H Q _=>∃ e t n,vs=[.ref e,.int n]/\H e=some (XO C t e none)/\∀ d,H d=none->d≠e->Q .non (upd (upd H d (.xd [("fault",.int n)])) e (XO C t e (some d)))
def sXF (C:Addr) (ta tv:TE):TS:=fun D σ H=>tv σ H fun y H1=>ta σ H1 fun x H2=>∃ e t n,y=.int n/\x=.ref e/\H2 e=some (XO C t e none)/\∀ d,H2 d=none->d≠e->D.nx σ (upd (upd H2 d (.xd [("fault",.int n)])) e (XO C t e (some d)))
theorem Ui {X:Cx} {o value:Expr} {pos pos':Pos} {ta tv:TE} {C fI:Addr} (T:Cp X.K C fI) (ha:PE X o ta) (hv:PE X value tv) (hs:swapsWith value (some (.Attribute o "fault" pos')) pos.line X.env=pure false):
  PS X (.Assign [.Attribute o "fault" pos'] value pos) (sXF C ta tv):=by
 intro pins s σ H D I h
 refine plainObj_wpAny_Assign_Attribute (cV (hv pins s σ H _ I h) fun u s1 ⟨y,H1,I1,ry,q⟩=>cV (ha pins s1 σ H1 _ I1 q) fun ov s2 ⟨x,H2,I2,rx,e,t,n,ey,ex,ee,q2⟩=>?_) hs
 subst ex ey
 obtain rfl:ov=Value.ref e:=rx
 obtain ⟨tk,rfl⟩:=(show ∃ t,u=Value.int n t from ry)
 obtain ⟨nm,qn,N,bs,sn,sub,ab,col,dd,k0,k1,k2,k3,k5,lk,nok,ni,nf,ns,ng,nh⟩:=T.cls
 have hC:=I2.kIn _ _ lk
 have hN:s2.heap.Ns N (s2.heap.nsMap N):=.of_isNs (PySem.W.isNs_of_in I2.kIn nok)
 obtain ⟨obj,_,_⟩:=(show cK X.prog X.w H2 s2.heap e (XO C t e none) from I2.hok e _ ee)
 obtain ⟨hp,g,dr,tks,os⟩:=s2
 refine Gs F.store_Exception hC hN (PySem.W.ns_none_of I2.kIn hN ns) (PySem.W.ns_none_of I2.kIn hN nf) vD obj rfl (fun c z=>nomatch z) rfl fun h' tk' A=>?_
 have hde:hp.objs.size≠e:=Nat.ne_of_gt (Heap.lt_size obj)
 have hdn:H2 hp.objs.size=none:=I2.hok.fresh (Nat.le_refl _)
 refine ⟨σ,_,?_,q2 hp.objs.size hdn hde⟩
 have nb:∀ b (u:Obj),H2 b=none->b≠e:=fun b u z y=>by rw [y,ee] at z;cases z
 have nd:∀ b u,hp.get? b=some u->b≠hp.objs.size:=fun b u z=>Nat.ne_of_lt (Heap.lt_size z)
 have other:∀ b u,H2 b=some u->b≠e->upd (upd H2 hp.objs.size (.xd [("fault",.int n)])) e (XO C t e (some hp.objs.size)) b=some u:=fun b u z y=>by
  rw [aC y,aC (aD z hdn)];exact z
 refine I2.un (t':=tk') ⟨fun b u z y _ _=>A.keep b u (nb b u y) z,fun b u z y _ _=>⟨u.slots,A.keep b u (nb b u y) z⟩,fun b u z y _=>by rw [aC (nb b u y),aC (nd b u z)];exact y,fun b u z _=>?_,fun b xs z=>other b _ z ?_,fun b u xs z=>other b _ z ?_,fun b ps z=>⟨#[],by rw [other b _ z (by rintro rfl;rw [ee] at z;cases z)];simp⟩⟩ fun b u z=>?_
 ·by_cases y:b=e
  ·exact ⟨_,by rw [y];exact A.obj⟩
  ·exact ⟨u,A.keep b u y z⟩
 ·rintro rfl;rw [ee] at z;cases z
 ·rintro rfl;rw [ee] at z;cases z
 ·by_cases y:b=e
  ·subst y
   rw [aB] at z
   cases z
   exact XO.ok A.obj
  ·rw [aC y] at z
   by_cases y2:b=hp.objs.size
   ·subst y2
    rw [aB] at z
    cases z
    refine ⟨_,A.ns,fun f=>?_⟩
    show lC ((lZ "fault" (V.int n) []).lookup f) (if f="fault" then some (Value.int n tk) else none)
    rw [mU]
    by_cases y3:f="fault"
    ·rw [if_pos y3,if_pos y3];exact ⟨tk,rfl⟩
    ·rw [if_neg y3,if_neg y3];exact True.intro
   ·rw [aC y2] at z
    refine (I2.hok b u z).stay (fun c v hc q=>A.keep c v ?_ q) (fun c q=>other c _ q ?_) fun c xs q=>other c _ q ?_
    ·rcases hc with rfl|hc
     ·exact y
     ·rintro rfl;rw [ee] at hc;cases hc
    ·rintro rfl;rw [ee] at q;cases q
    ·rintro rfl;rw [ee] at q;cases q
section
variable {M:Model} {A:Around} {E:Value->Shared->Prop} {env:Env}
variable {nm q:Str} {C N:Addr} {bs bm:List Value} {hdct:Bool} {sn:List Str} {sub:List Value} {ab:Bool} {col:Option Bool} {dd:Option Addr} {k0 k1 k2 k3 k5:Option Value} {newId:String}
theorem Gv {s:Shared} {x:Sem Value} {Q:Flow->Shared->Prop} (hbase:bm.contains (.type "BaseException")=true) (hh:A.handled=none)
  (h:wpAny M A x (fun v s1=>∃ e oe vs,v=.ref e/\s1.heap.get? C=some (excClassObj nm q C N bs bm hdct sn sub ab col dd k0 k1 k2 k3 k5 newId)/\s1.heap.get? e=some oe/\oe.cls=.ref C/\oe.data=.fields vs/\vs[1]?=some .none/\E (.ref e) s1) E s):
  wpAny M A (raiseStmt env (some x) none) Q E s:=by
 have hcB:(Value.ref C::bm).contains (.type "BaseException")=true:=by rw [List.contains_cons,hbase,Bool.or_true]
 unfold raiseStmt
 refine wpAny_bind (wpAny_mono h (fun v s1 h1=>?_) fun _ _ x=>x)
 obtain ⟨e,oe,vs,rfl,hC,he,hcl,hd,h1,hE⟩:=h1
 obtain ⟨hp,g,d,tk,os⟩:=s1
 repeat (first|(with_reducible refine wpAny_loadPart_at he ?_;rw [hcl])|with_reducible refine wpAny_loadPart_at hC ?_|(with_reducible refine wpAny_isSubtype_exc hC ?_;rw [hcB])|with_reducible refine wpAny_field he hd h1 ?_|wp_step)
 exact wpAny_raiseNew_none hh hE
end
def aAe (E:XK):List V->Hp->Prop:=fun vs H=>match vs with
 |[x]=>∃ n,x=.int n/\E (.int n 0) none H
 |_=>False
def Ys (E:XK) (te:TE):TS:=fun _ σ H=>te σ H fun v H1=>∃ n,v=.int n/\E (.int n 0) none H1
theorem mM {X:Cx} {C fI:Addr} {fd:FuncData} {k:Nat} {E:XK} {x:Str} {np cpos pos:Pos} {e:Expr} {te:TE} (L:Oz C X E) (hc:X.calm=true) (T:Cp X.K C fI)
  (G:bV X.prog X.w X.K X.mg X.base bU k fI fd ["self","fault"] (aAi C)) (hr:fY (k+1) X.A) (hg:Gl X x) (hm:X.mg x=some (.ref C)) (hb:fF X.K fd ["self","fault"] []) (he:PE X e te)
  (hdb:(x==("__debug__":Str))=false:=by decide) (hst:starEach [e] X.env=(false,eval e X.env)::starEach [] X.env:=by rfl):
  PS X (.Raise (some (.Call (.Name x np) [e] [] cpos)) none pos) (Ys E te):=by
 intro pins s σ H D I h
 have ha:PA X [e] (dO te gR):=aA he aE hst
 have h':dO te gR σ H (aAe E):=h
 obtain ⟨nm,qn,N,bs,sn,sub,ab,col,dd,k0,k1,k2,k3,k5,lk,nok,ni,nf,ns,ng,nh⟩:=id T.cls
 rw [arm_exec_Raise]
 refine wpAny_bind (wpAny_standAt (Gv (C:=C) (nm:=nm) (q:=qn) (N:=N) (bs:=bs) (bm:=Bw) (hdct:=true) (sn:=sn) (sub:=sub) (ab:=ab) (col:=col) (dd:=dd) (k0:=k0) (k1:=k1) (k2:=k2) (k3:=k3) (k5:=k5) (newId:="Exception.__new__")
  F.excBase_Exception.hasBase (I.ok.hd hc) (wpAny_bind (cV (Q:=fun v s3=>∃ ea oe vs,v=.ref ea/\s3.heap.get? C=some (excClassObj nm qn C N bs Bw true sn sub ab col dd k0 k1 k2 k3 k5 "Exception.__new__")/\s3.heap.get? ea=some oe/\oe.cls=.ref C/\oe.data=.fields vs/\vs[1]?=some .none/\X.xe (.ref ea) s3) ?_ fun v s3 h3=>wpAny_bind (wpAny_standAt (wpAny_pure h3))))))
 refine wpAny_Call_Name_kw (jD I hg hm ?_ hdb)
 refine PySem.W.callWith_K (h₀:=X.base) I.ok.mod.kin T.kp (cV (ha cpos pins s σ H _ I h') fun us s1 ⟨vs,H1,I1,r,q⟩=>⟨I1.kIn,?_⟩) hst rfl
 match vs,r,q with
 |[x1],.cons (b:=u) r1 .nil,q=>
  obtain ⟨n,rfl,hE⟩:=q
  obtain ⟨tk,rfl⟩:=(show ∃ t,u=Value.int n t from r1)
  obtain ⟨oI,hoI,hfc⟩:=Zu T.fn
  have hC:=I1.kIn _ _ lk
  have hN:s1.heap.Ns N (s1.heap.nsMap N):=.of_isNs (PySem.W.isNs_of_in I1.kIn nok)
  have B:=I1.below
  obtain ⟨hp,g,dr,tks,os⟩:=s1
  refine wpAny_call_exc_init F.excBase_Exception hC hN (Vs I1.kIn hN ni) (I1.kIn _ _ hoI) hfc (fun h1 ea hm=>?_)
  obtain ⟨t,ht,htn,htt⟩:=hm.there
  have I2:aQ X pins σ (upd H1 ea (XO C t ea none)) ⟨h1,g,dr,tks,os⟩:=I1.laidN (t':=tks) hm.keeps hm.new (XO.ok ht)
  refine wpAny_call (codeAny_mono (G.run (X.A.under (.builtin "type.__call__" ⟨.ref C::[.int n tk],[]⟩)) X.stack ⟨h1,g,dr,tks,os⟩ (upd H1 ea (XO C t ea none)) ⟨.ref ea::[.int n tk],[]⟩ [.ref ea,.int n tk] [.ref ea,.int n]
   (fun v H2=>v=.non/\∃ d,d≠ea/\H1 d=none/\H2=upd (upd (upd H1 ea (XO C t ea none)) d (.xd [("fault",.int n)])) ea (XO C t ea (some d))) E0 (hr.make C [.int n tk] []) (I2.env0.make C [.int n tk] [])
   (hb _ [.ref ea,.int n tk] I2.kIn rfl) (.cons rfl (.cons ⟨tk,rfl⟩ .nil)) ⟨ea,t,n,rfl,aB,fun d hd hde=>⟨rfl,d,hde,by rw [aC hde] at hd;exact hd,rfl⟩⟩) fun r s' hq'=>?_)
  cases r with
  |error e=>exact False.elim hq'
  |ok fl=>
   cases fl with
   |ret u=>
    obtain ⟨v,H',hos,hbare,un,hok,rv,ev,d,hde,hdn,hH⟩:=hq'
    subst ev
    have I3:aQ X pins σ H' s':=I2.call' (ch:=[]) hos un hok hbare (fun _ z=>nomatch z)
    have hobj:=(show cK X.prog X.w H' s'.heap ea (XO C t ea (some d)) from I3.hok ea _ (by rw [hH];exact aB)).1
    refine ⟨rv,ea,_,_,rfl,I3.kIn _ _ lk,hobj,rfl,rfl,rfl,?_⟩
    have hea:H1 ea=none:=I1.hok.none_of hm.new
    have hHd:H' d=some (.xd [("fault",.int n)]):=by rw [hH,aC hde,aB]
    have hHe:H' ea=some (XO C t ea (some d)):=by rw [hH];exact aB
    have oth:∀ b,b≠ea->b≠d->H' b=H1 b:=fun b z1 z2=>by rw [hH,aC z1,aC z2,aC z1]
    have hnew:h1.get? d=none:=by
     cases z:h1.get? d with
     |none=>rfl
     |some ob=>
      have y:=un.free d ob z (by rw [aC hde];exact hdn) (by simp)
      rw [hHd] at y;cases y
    have hnp:hp.get? d=none:=by
     cases z:hp.get? d with
     |none=>rfl
     |some ob=>rw [hm.keeps d ob z] at hnew;cases hnew
    have I4:aQ X pins σ H1 s':=I3.untrack I1 (fun b o z=>by rw [oth b (aD z hea) (aD z hdn)];exact z)
     (fun b a z=>by rw [<-oth b (by rintro rfl;rw [hHe] at z;cases z) (by rintro rfl;rw [hHd] at z;cases z)];exact z)
     (fun b a z=>by rw [<-oth b (by rintro rfl;rw [hHe] at z;cases z) (by rintro rfl;rw [hHd] at z;cases z)];exact z)
    obtain ⟨mA,nsd,rel⟩:=(show cK X.prog X.w H' s'.heap d (.xd [("fault",.int n)]) from I3.hok d _ hHd)
    exact L.new pins σ H1 s' ea n hp I4 B (fun b o z=>un.there b o (hm.keeps b o z) (by simp)) ⟨⟨_,_,d,mA,hobj,rfl,rfl,rfl,rfl,nsd,rel,hdn,hnp,hde⟩,hea,hm.new⟩ hE
   |next=>exact False.elim hq'
   |brk=>exact False.elim hq'
   |cont=>exact False.elim hq'
abbrev Cx.tryIn (X:Cx) (xe:Value->Shared->Prop) (pn:List (Addr×Obj)):Cx:={X with xe:=xe,pn:=pn}
abbrev Cx.inH (X:Cx) (ea:Addr):Cx:={X with A:=X.A.mark (some (.ref ea)),calm:=false,xe:=fun _ _=>False}
section
variable {X:Cx} {pins pins':List (Addr×Obj)} {σ:St} {H:Hp} {s:Shared} {xe:Value->Shared->Prop} {ea:Addr}
theorem Cx.Ok.tryIn (ok:X.Ok) (xe:Value->Shared->Prop) (pn:List (Addr×Obj)):(X.tryIn xe pn).Ok:=
 ⟨ok.mod,ok.kind,ok.glob,ok.blt,ok.above,ok.inj,ok.has,ok.cab,ok.hd,ok.frames,ok.stk,ok.exf,ok.bs,ok.bsz,ok.noex,ok.exfs,ok.funs,ok.frf⟩
theorem Cx.Ok.inH (ok:X.Ok) (ea:Addr):(X.inH ea).Ok:=
 ⟨ok.mod,ok.kind,ok.glob,ok.blt,ok.above,ok.inj,ok.has,ok.cab,(fun z=>nomatch (show false=true from z)),ok.frames,ok.stk,ok.exf,ok.bs,ok.bsz,ok.noex,ok.exfs,ok.funs,ok.frf⟩
theorem aQ.tryIn (I:aQ X pins σ H s) (xe:Value->Shared->Prop):aQ (X.tryIn xe (X.pn++pins)) [] σ H s:=
 ⟨I.ok.tryIn _ _,I.os,I.bare,I.base,I.loc,I.cell,I.free,I.freeC,fun p hp=>I.pin p (by rw [List.append_nil] at hp;exact hp),I.hok,I.len⟩
theorem aQ.untry (ok:X.Ok) (I:aQ (X.tryIn xe (X.pn++pins)) pins' σ H s):aQ X pins σ H s:=
 ⟨ok,I.os,I.bare,I.base,I.loc,I.cell,I.free,I.freeC,fun p hp=>I.pin p (List.mem_append_left _ hp),I.hok,I.len⟩
theorem aQ.inH (I:aQ X pins σ H s) (ea:Addr):aQ (X.inH ea) pins σ H s:=⟨I.ok.inH ea,I.os,I.bare,I.base,I.loc,I.cell,I.free,I.freeC,I.pin,I.hok,I.len⟩
theorem aQ.outH (ok:X.Ok) (I:aQ (X.inH ea) pins σ H s):aQ X pins σ H s:=⟨ok,I.os,I.bare,I.base,I.loc,I.cell,I.free,I.freeC,I.pin,I.hok,I.len⟩
theorem SP.untry {D:fZ} {f:Flow} (ok:X.Ok) (h:SP (X.tryIn xe (X.pn++pins)) pins' D f s):SP X pins D f s:=by
 cases f with
 |next=>obtain ⟨σ',H',I,q⟩:=h;exact ⟨σ',H',I.untry ok,q⟩
 |brk=>obtain ⟨σ',H',I,q⟩:=h;exact ⟨σ',H',I.untry ok,q⟩
 |cont=>obtain ⟨σ',H',I,q⟩:=h;exact ⟨σ',H',I.untry ok,q⟩
 |ret u=>obtain ⟨v,σ',H',I,r,q⟩:=h;exact ⟨v,σ',H',I.untry ok,r,q⟩
theorem SP.outH {D:fZ} {f:Flow} (ok:X.Ok) (h:SP (X.inH ea) pins D f s):SP X pins D f s:=by
 cases f with
 |next=>obtain ⟨σ',H',I,q⟩:=h;exact ⟨σ',H',I.outH ok,q⟩
 |brk=>obtain ⟨σ',H',I,q⟩:=h;exact ⟨σ',H',I.outH ok,q⟩
 |cont=>obtain ⟨σ',H',I,q⟩:=h;exact ⟨σ',H',I.outH ok,q⟩
 |ret u=>obtain ⟨v,σ',H',I,r,q⟩:=h;exact ⟨v,σ',H',I.outH ok,r,q⟩
theorem tH {C:Addr} {Q:Shared->Prop} {E:Value->Shared->Prop} {H':Hp} {s':Shared} {n:Int} (hst:X.stack=X.env::X.outer) (hfr:X.env.frame=some X.env.locals) (I:aQ X pins σ H s) (hos:s'.os=s.os) (hb:AllBare s'.gens)
  (un:Un (An X.stack) [] H H' s.heap s'.heap) (hok:kR X.prog X.w H' s'.heap) (fl:tG C H' s'.heap s.heap ea n)
  (h:∀ s3,aQ X pins σ H' s3->tG C H' s3.heap s.heap ea n->Q s3):
  wpAny (model X.prog X.w) X.A (noteFrame (.ref ea) X.env) (fun _ s2=>wpAny (model X.prog X.w) X.A (setFlight (.ref ea) none) (fun _ s3=>Q s3) E s2) E s':=by
 have I':=I.call' (ch:=[]) hos un hok hb (fun _ z=>nomatch z)
 have B:=I.below
 obtain ⟨T,x,hTe,hTl,hTn,oT,ts,t1,t2,t3⟩:=fl
 obtain ⟨oe,vs,d,mA,h1,h2,h3,h4,h5,h6,h7,h8,h9,h10⟩:=id x.at_
 have fe:An X.stack=(X.env::X.outer).filterMap (·.frame):=by rw [hst];rfl
 refine zA (outer:=X.outer) (base:=X.base) (oeT:=0) (by rw [I'.ok.frames,hst]) (by rw [<-hst];exact I'.stack) hfr h1 h4 h5 hTe t1 t2 t3 fun h' T' Nt=>?_
 rw [<-fe] at Nt
 have I2:=I'.noted Nt B x.lo hTl x.he hTn
 have fl2:=Xn.noted (C:=C) I' Nt B (fun b o q=>un.there b o q (by simp)) x (fun o es ep q z=>by rw [t1] at q;cases q;rw [t2] at z;cases z)
 exact h _ I2 fl2
theorem tT {M:Model} {A:Around} {C:Addr} {h0:Heap} {n:Int} {Q:Unit->Shared->Prop} {E:Value->Shared->Prop} (fl:tG C H s.heap h0 ea n) (h:Q () s):wpAny M A (setFlight (.ref ea) none) Q E s:=by
 obtain ⟨T,x,hTe,hTl,hTn,oT,ts,t1,t2,t3⟩:=fl
 obtain ⟨oe,vs,d,mA,h1,h2,h3,h4,h5,h6,h7,h8,h9,h10⟩:=id x.at_
 refine wpAny_setFlight_none h1 h4 h5 t1 t2 (Array.getElem?_eq_some_iff.mp t3).1 ?_
 rw [Heap.update_setField_same s.heap T oT ts 3 .none t1 t2 t3]
 exact h
end
def aDg (n:Nat) (tb:XK->TS) (ts:TS):TS:=fun D σ H=>tb (fun _ _ H'=>∀ σ':St,σ'.length=n->ts D σ' H') D σ H
theorem Zl {X:Cx} {C fI:Addr} {x:Str} {np hpos pos:Pos} {body:List Stmt} {b0:Stmt} {suite:List Stmt} {tb:XK->TS} {ts:TS} (T:Cp X.K C fI) (hst:X.stack=X.env::X.outer) (hfr:X.env.frame=some X.env.locals) (hg:Gl X x) (hm:X.mg x=some (.ref C))
  (hb:∀ xe pn E',iR (iV C X.prog X.w) (X.tryIn xe pn) E'->Ap (X.tryIn xe pn) body (tb E')) (hs:∀ ea,Ap (X.inH ea) (b0::suite) ts) (hdb:(x==("__debug__":Str))=false:=by decide):
  PS X (.Try body [.ExceptHandler (some (.Name x np)) none (b0::suite) hpos] [] [] pos) (aDg X.N.length tb ts):=by
 intro pins s σ H D I h
 have ok:=I.ok
 refine wpAny_Try_except (cV (hb _ (X.pn++pins) _ ?_ [] s σ H D (I.tryIn _) h) fun f s1 q=>?_)
 ·intro pins' σ' H1 s1 e s' I1 ⟨ea,n,H',he,hos,hbare,un,hok,fl,hE⟩
  subst he
  refine tH hst hfr (I1.untry ok) hos hbare un hok fl fun s3 I3 fl3=>?_
  obtain ⟨nm,qn,N,bs,sn,sub,ab,col,dd,k0,k1,k2,k3,k5,lk,nok,ni,nf,ns,ng,nh⟩:=id T.cls
  refine wpAny_handleBy_cons (codeAny_handlers_test (jD (X:=X.inH ea) (I3.inH ea) hg hm ?_ hdb)) (fun z=>nomatch z)
  obtain ⟨oe,vs,d,mA,h1,h2,h3,h4,h5,h6⟩:=fl3.choose_spec.1.at_
  have hC:=I3.kIn _ _ lk
  obtain ⟨hp,g,dr,tks,os⟩:=s3
  refine wpAny_excMatches_sub_self hC h1 h2 F.excBase_Exception.hasBase ?_
  refine codeAny_handlers_suite (tT fl3 ?_)
  exact wpAny_mono (hs ea pins _ σ' H' D (I3.inH ea) (hE σ' I3.len)) (fun f s4 q=>q.outH ok) fun _ _ z=>False.elim z
 ·have q':=q.untry ok
  cases f with
  |next=>exact wpAny_execs_nil q'
  |brk=>exact q'
  |cont=>exact q'
  |ret u=>exact q'
section
variable {X:Cx} {pins:List (Addr×Obj)} {σ:St} {H:Hp} {s:Shared} {h' h0:Heap} {a:Addr} {o:HO}
theorem aQ.track (I:aQ X pins σ H s) (B:Ds X pins h0) (hn:h0.get? a=none) (hH:H a=none) (ok:cK X.prog X.w (upd H a o) s.heap a o):aQ X pins σ (upd H a o) s:=by
 refine ⟨I.ok,I.os,I.bare,⟨I.base.keep,I.base.slot,fun b ob e n hx=>?_,I.base.there,fun b xs e=>?_,fun b ob xs e=>?_,fun b ps e=>?_⟩,I.loc,I.cell,?_,fun x c e=>?_,fun p hp=>?_,fun b u e=>?_,I.len⟩
 ·rw [aC (eO (B.s0 b ob e hx) hn)]
  exact I.base.free b ob e n hx
 ·have e:=I.base.tups b xs e
  rw [aC (aD e hH)];exact e
 ·have e:=I.base.frzs b ob xs e
  rw [aC (aD e hH)];exact e
 ·obtain ⟨m,e⟩:=I.base.tbls b ps e
  exact ⟨m,by rw [aC (aD e hH)];exact e⟩
 ·rw [aC (eO B.loc hn)];exact I.free
 ·rw [aC (eO (B.cell x c e) hn)];exact I.freeC x c e
 ·obtain ⟨h1,h2,h3⟩:=I.pin p hp
  exact ⟨h1,by rw [aC (eO (B.pin p hp) hn)];exact h2,h3⟩
 ·by_cases hb:b=a
  ·subst hb;rw [aB] at e;cases e;exact ok
  ·rw [aC hb] at e
   exact (I.hok b u e).stay (fun _ _ _ q=>q) (fun c q=>by rw [aC (aD q hH)];exact q) fun c xs q=>by rw [aC (aD q hH)];exact q
theorem aQ.forget {m':Str->Option Value} {t':Nat} (I:aQ X pins σ H s) (hn:h'.Ns X.env.locals m') (hs:Heap.SameBut X.env.locals s.heap h'):aQ X pins (List.replicate X.N.length none) H {s with heap:=h',toks:=t'}:=by
 have old:∀ b ob,X.s_0.heap.get? b=some ob->b≠X.env.locals:=fun b ob e=>Nat.ne_of_lt (Nat.lt_of_lt_of_le (Heap.lt_size e) I.ok.above)
 refine ⟨I.ok,I.os,I.bare,⟨fun b ob e n hb hx=>(hs.2 b (old b ob e)).trans (I.base.keep b ob e n hb hx),fun b ob e n hb hx=>?_,I.base.free,fun b ob e hx=>?_,I.base.tups,I.base.frzs,I.base.tbls⟩,⟨_,hn,fun j y v e1 e2 e3=>?_⟩,fun y c e=>?_,I.free,I.freeC,fun p hp=>?_,fun b ob e=>?_,by simp⟩
 ·obtain ⟨sl,e1⟩:=I.base.slot b ob e n hb hx
  exact ⟨sl,(hs.2 b (old b ob e)).trans e1⟩
 ·obtain ⟨o',e1⟩:=I.base.there b ob e hx
  exact ⟨o',(hs.2 b (old b ob e)).trans e1⟩
 ·rw [List.getElem?_replicate] at e2
  split at e2<;>cases e2
 ·obtain ⟨w',z⟩:=I.cell y c e
  exact ⟨w',z.sameBut hs (I.cne y c e)⟩
 ·obtain ⟨e,n,ne,nf,d⟩:=I.pin p hp
  exact ⟨(hs.2 p.1 ne).trans e,n,ne,nf,d⟩
 ·refine (I.hok b ob e).stay (fun c w' hc q=>(hs.2 c ?_).trans q) (fun _ q=>q) fun _ _ q=>q
  rintro rfl
  rcases hc with rfl|hc
  ·rw [I.free] at e;cases e
  ·rw [I.free] at hc;cases hc
end
def XR (C d e:Addr):HO:=.ext fun h=>∃ oe vs,h.get? e=some oe/\oe.cls=.ref C/\oe.dict=some d/\oe.data=.fields vs
theorem XR.ok {P:Program} {w:World} {H:Hp} {h:Heap} {C d e:Addr} {oe:Obj} {vs:Array Value} (h1:h.get? e=some oe) (h2:oe.cls=.ref C) (h3:oe.dict=some d) (h4:oe.data=.fields vs):cK P w H h e (XR C d e):=
 ⟨⟨oe,vs,h1,h2,h3,h4⟩,⟨_,h1⟩,fun _ _ ⟨oe,vs,z,r⟩ k=>⟨oe,vs,k _ z,r⟩⟩
def aAy (C:Addr) (ta:TE):TE:=fun σ H Q=>ta σ H fun x H1=>∃ e d n,x=.ref e/\H1 e=some (XR C d e)/\H1 d=some (.xd [("fault",.int n)])/\Q (.int n) H1
theorem Ts {X:Cx} {C fI:Addr} {e:Expr} {pos:Pos} {ta:TE} (T:Cp X.K C fI) (he:PE X e ta) (hb:attributeBase e "fault" X.env (eval e X.env)=eval e X.env):PE X (.Attribute e "fault" pos) (aAy C ta):=by
 intro pins s σ H Q I h
 refine Kx hb (cV (he pins s σ H _ I h) fun u s1 ⟨x,H1,I1,rx,ea,d,n,ex,h1,h2,q⟩=>?_)
 subst ex
 obtain rfl:u=Value.ref ea:=rx
 obtain ⟨nm,qn,N,bs,sn,sub,ab,col,dd,k0,k1,k2,k3,k5,lk,nok,ni,nf,ns,ng,nh⟩:=id T.cls
 have hC:=I1.kIn _ _ lk
 have hN:s1.heap.Ns N (s1.heap.nsMap N):=.of_isNs (PySem.W.isNs_of_in I1.kIn nok)
 obtain ⟨⟨oe,vs,g1,g2,g3,g4⟩,_,_⟩:=(show cK X.prog X.w H1 s1.heap ea (XR C d ea) from I1.hok ea _ h1)
 obtain ⟨mA,nsd,rel⟩:=(show cK X.prog X.w H1 s1.heap d (.xd [("fault",.int n)]) from I1.hok d _ h2)
 obtain ⟨uf,hf,tk',rfl⟩:=lC.some_of (v:=V.int n) (o:=mA "fault") (rel "fault")
 have I2:=I1.tok (s1.toks+1)
 obtain ⟨hp,g,dr,tks,os⟩:=s1
 exact Se F.attrBase_Exception hC hN (PySem.W.ns_none_of I1.kIn hN ng) (PySem.W.ns_none_of I1.kIn hN nh) (PySem.W.ns_none_of I1.kIn hN nf) vD g1 g2 (fun c z=>by rw [g4] at z;cases z) g3 nsd hf rfl ⟨.int n,H1,I2,⟨_,rfl⟩,q⟩
def Ym (C:Addr) (i n:Nat) (tb:XK->TS) (ts:TS):TS:=fun D σ H=>tb (fun v _ H'=>∃ f,v=.int f 0/\∀ (σ':St) (e d:Addr),σ'.length=n->H' e=none->H' d=none->d≠e->
 ts {nx:=fun _ _=>False,rt:=D.rt} (σ'.set i (some (.ref e))) (upd (upd H' d (.xd [("fault",.int f)])) e (XR C d e))) D σ H
theorem Qt {X:Cx} {C fI:Addr} {x y:Str} {i:Nat} {np hpos pos:Pos} {body:List Stmt} {b0:Stmt} {suite:List Stmt} {tb:XK->TS} {ts:TS} (T:Cp X.K C fI) (hst:X.stack=X.env::X.outer) (hfr:X.env.frame=some X.env.locals) (hg:Gl X x) (hm:X.mg x=some (.ref C))
  (hN:X.N.Nodup) (hi:X.N[i]?=some y) (hy:X.env.kindOf y=some .local)
  (hb:∀ xe pn E',iR (iV C X.prog X.w) (X.tryIn xe pn) E'->Ap (X.tryIn xe pn) body (tb E')) (hs:∀ ea,Ap (X.inH ea) (b0::suite) ts) (hdb:(x==("__debug__":Str))=false:=by decide):
  PS X (.Try body [.ExceptHandler (some (.Name x np)) (some y) (b0::suite) hpos] [] [] pos) (Ym C i X.N.length tb ts):=by
 intro pins s σ H D I h
 have ok:=I.ok
 refine wpAny_Try_except (cV (hb _ (X.pn++pins) _ ?_ [] s σ H D (I.tryIn _) h) fun f s1 q=>?_)
 ·intro pins' σ' H1 s1 e s' I1 ⟨ea,n,H',he,hos,hbare,un,hok,fl,fn,hfn,hE⟩
  subst he
  obtain rfl:n=fn:=by cases hfn;rfl
  have B:=(I1.untry ok).below
  refine tH hst hfr (I1.untry ok) hos hbare un hok fl fun s3 I3 fl3=>?_
  obtain ⟨nm,qn,N,bs,sn,sub,ab,col,dd,k0,k1,k2,k3,k5,lk,nok,ni,nf,ns,ng,nh⟩:=id T.cls
  refine wpAny_handleBy_cons (codeAny_handlers_test (jD (X:=X.inH ea) (I3.inH ea) hg hm ?_ hdb)) (fun z=>nomatch z)
  have fl4:=fl3
  obtain ⟨TT,xn,_⟩:=fl4
  obtain ⟨oe,vs,d,mA,h1,h2,h3,h4,h5,h6,h7,h8,h9,h10⟩:=id xn.at_
  have hC:=I3.kIn _ _ lk
  have It:aQ X pins σ' (upd (upd H' d (.xd [("fault",.int n)])) ea (XR C d ea)) s3:=by
   have J:=I3.track (a:=d) (o:=.xd [("fault",.int n)]) B h9 h8 ?_
   ·exact J.track (a:=ea) (o:=XR C d ea) B xn.lo (by rw [aC (Ne.symm h10)];exact xn.he) (XR.ok h1 h2 h3 h4)
   ·exact ⟨mA,h6,h7⟩
  obtain ⟨hp,g,dr,tks,os⟩:=s3
  refine wpAny_excMatches_sub_self hC h1 h2 F.excBase_Exception.hasBase ?_
  refine codeAny_handlers_suite_as (tT fl3 ?_)
  refine vF (X:=X.inH ea) (v:=.ref ea) (It.inH ea) hN hi (.inl hy) rfl (fun s4 I4=>?_) (.inr hy)
  refine wpAny_mono (hs ea pins _ _ _ _ I4 (hE σ' ea d I3.len xn.he h8 h10)) (fun f s5 q=>?_) fun _ _ z=>False.elim z
  cases f with
  |next=>obtain ⟨_,_,_,z⟩:=q;exact False.elim z
  |brk=>obtain ⟨_,_,_,z⟩:=q;exact False.elim z
  |cont=>obtain ⟨_,_,_,z⟩:=q;exact False.elim z
  |ret u=>
   obtain ⟨v,σ6,H6,I6,r,q⟩:=q
   have I6:=I6.outH ok
   obtain ⟨m,hns,_⟩:=id I6.loc
   refine wpAny_nameGoes hy hns (by rw [ok.kind];rfl) fun h' m' hn' hs'=>?_
   exact ⟨v,_,H6,I6.forget hn' hs',r,q⟩
 ·have q':=q.untry ok
  cases f with
  |next=>exact wpAny_execs_nil q'
  |brk=>exact q'
  |cont=>exact q'
  |ret u=>exact q'
structure hU (k:Nat) (A:Around):Prop where
 dp:A.depth+3 * k+5<recursionLimit
 un:A.units+16 * k+200<cLine
theorem fY.n {k:Nat} {A:Around} (r:fY k A):hU k A:=⟨r.dp,r.un⟩
theorem hU.mark {k:Nat} {A:Around} (r:hU k A) (h:Option Value):hU k (A.mark h):=⟨r.dp,r.un⟩
theorem hU.make {k:Nat} {A:Around} (r:hU (k+1) A) (C:Addr) (us:List Value) (kw:List (Str×Value)):hU k (A.under (.builtin "type.__call__" ⟨.ref C::us,kw⟩)):=
 ⟨by have:=r.dp;rw [wB];omega,by have:=r.un;rw [xF];omega⟩
theorem hU.deeper {k:Nat} {A:Around} (r:hU (k+1) A) (env:Env):hU k (A.deeper env):=
 ⟨by have:=r.dp;show A.depth+1+3 * k+5<_;omega,by have:=r.un;show A.units+3+16 * k+200<_;omega⟩
theorem hU.depth {k:Nat} {A:Around} (r:hU k A):A.depth<recursionLimit:=by have:=r.dp;omega
structure yP (P:Program) (w:World) (K:PySem.W.Frag) (mg:Str->Option Value) (base:Heap) (CX:Gm) (k:Nat) (f:Addr) (fd:FuncData) (ps:List Str) (sp:Sp):Prop where
 len:∀ vs H Q E,sp vs H Q E->vs.length=ps.length
 run:∀ (A:Around) (outer:List Env) (s:Shared) (H:Hp) (args:Args) (us:List Value) (vs:List V) (Q:VK) (E:XK),hU k A->Do P w K mg base A outer s H->BindsTo s fd args (ps.zip us)->bS vs us->sp vs H Q E->
  codeAny (model P w) A (.call (.ref f) args) (CR CX outer P w H s Q E) s
abbrev cxN (P:Program) (w:World) (K:PySem.W.Frag) (mg:Str->Option Value) (base:Heap) (N:List Str) (qual:Str) (scope:Scope) (f:Addr) (cd:Value) (A:Around) (outer:List Env) (s:Shared) (H:Hp) (E:XK):Cx:=
 {Ca bU P w K mg base N qual scope f cd A outer s H E with calm:=false}
theorem fE.okN {P:Program} {w:World} {K:PySem.W.Frag} {mg:Str->Option Value} {base:Heap} {x qual:Str} {st:Stmt} {f:Addr} {fd:FuncData} {N ps:List Str} {k:Nat} {sp:Sp} (F:fE K x qual st f fd) (S:aO N ps (aG st))
  (len:∀ vs H Q E,sp vs H Q E->vs.length=ps.length)
  (hbody:∀ (cdv:Value) (A:Around) (outer:List Env) (s:Shared) (H:Hp) (vs:List V) (Q:VK) (E:XK),hU k (A.deeper (envOfC qual (aG st) s.heap.objs.size f cdv))->sp vs H Q E->
   ∃ t,Ap (cxN P w K mg base N qual (aG st) f cdv A outer s H E).nox (dU st) t/\t {nx:=fun _ H'=>Q .non H',rt:=Q} (lT N vs) H):yP P w K mg base bU (k+1) f fd ps sp:=by
 obtain ⟨oc,od,kV,doc,pm,an,cdv,ct,osl,rfl,lk,hcd⟩:=F.ex
 refine ⟨len,fun A outer s H args us vs Q E hr e0 hb r hsp=>?_⟩
 have hl:=len _ _ _ _ hsp
 have KX:K.In s.heap:=e0.mod.kin.keeps fun b o e=>(e0.bs b o e).1
 have lim:s.heap.NoLimit:=e0.mod.nolimit.keeps fun b o e=>(e0.bs b o e).1
 have hkind:∀ y∈ps.zip us,(aG st).names.lookup y.1=some .local\/((aG st).names.lookup y.1=some .cell/\((cellsFrom (s.heap.objs.size+1) (aG st).names []).lookup y.1).isSome=true):=fun ⟨n,v⟩ hy=>by
  rcases S.par n (List.of_mem_zip hy).1 with q|q
  ·exact .inl q
  ·exact .inr ⟨q,PySem.W.cellsFrom_some _ _ _ (.inl q)⟩
 refine codeAny_call_function hr.depth (KX _ _ lk) rfl S.co S.gen rfl (PySem.W.codeRec_of KX hcd) (hb _ _ _ _ ?_)
 refine wpAny_newFunctionEnv_cells S.kind hkind fun env he s1 x=>?_
 subst he
 refine ⟨lim.keeps x.toInCall.keep,codeAny_func ?_⟩
 obtain ⟨t,ht,hq⟩:=hbody cdv A outer s H vs Q E (hr.deeper _) hsp
 have I0:=yU (CX:=bU) (P:=P) (w:=w) (K:=K) (mg:=mg) (base:=base) (N:=N) (qual:=qual) (f:=f) (cd:=cdv) (A:={A with handled:=none}) (outer:=outer) (H:=H) (E:=E) S rfl ⟨e0.frames,e0.mod,e0.bs,e0.bsz,e0.funs,e0.frf,e0.hok,e0.bare⟩ hl r x
 have ok:=I0.ok
 have I:aQ (cxN P w K mg base N qual (aG st) f cdv A outer s H E).nox [] (lT N vs) H s1:=
  ⟨⟨ok.mod,ok.kind,ok.glob,ok.blt,ok.above,ok.inj,ok.has,ok.cab,(fun z=>nomatch (show false=true from z)),ok.frames,ok.stk,ok.exf,ok.bs,ok.bsz,ok.noex,ok.exfs,ok.funs,ok.frf⟩,I0.os,I0.bare,I0.base,I0.loc,I0.cell,I0.free,I0.freeC,I0.pin,I0.hok,I0.len⟩
 refine wpAny_mono (ht [] s1 (lT N vs) H _ I hq) (fun fl s' hs=>?_) fun e s' hs=>False.elim hs
 have fin:∀ {σ':St} {H':Hp} {v:V} {u:Value},aQ (cxN P w K mg base N qual (aG st) f cdv A outer s H E).nox [] σ' H' s'->cD v u->Q v H'->CE outer P w H s Q u s':=
  fun {σ' H' v u} J rv q=>⟨v,H',J.os,J.bare,J.base,J.hok,rv,q⟩
 cases fl with
 |ret u=>
  obtain ⟨v,σ',H',J,rv,q⟩:=hs
  exact fin J rv q
 |next=>
  obtain ⟨σ',H',J,q⟩:=hs
  exact fin (v:=V.non) (u:=Value.none) J rfl q
 |brk=>
  obtain ⟨_,_,_,q⟩:=hs
  exact False.elim q
 |cont=>
  obtain ⟨_,_,_,q⟩:=hs
  exact False.elim q
section
variable {X:Cx} {k:Nat} {f C:Addr} {fd:FuncData} {ps:List Str} {sp:Sp} {x:Str} {p pos:Pos} {e:Expr} {es:List Expr} {t:TA}
theorem nD (M:Mk X.K C f) (F:yP X.prog X.w X.K X.mg X.base bU k f fd ps sp) (hr:hU (k+1) X.A) (hg:Gl X x) (hm:X.mg x=some (.ref C)) (hb:fF X.K fd ps [])
  (ha:PA X (e::es) t) (hdb:(x==("__debug__":Str))=false:=by decide) (he:starEach (e::es) X.env=(false,eval e X.env)::starEach es X.env:=by rfl) (hpl:(backTo pos (starEach es X.env)).any (·.1)=false:=by rfl):
  PE X (.Call (.Name x p) (e::es) [] pos) (Kl C sp [] E0 t):=by
 intro pins s σ H Q I h
 refine wpAny_Call_Name_kw (jD I hg hm ?_ hdb)
 refine PySem.W.callWith_K (h₀:=X.base) I.ok.mod.kin M.kp (cV (ha pos pins s σ H _ I h) fun us s1 ⟨vs,H1,I1,r,q⟩=>⟨I1.kIn,?_⟩) he hpl
 have hq:=q (s1.heap.objs.size+1) s1.heap.objs.size (I1.hok.fresh (Nat.le_succ _)) (I1.hok.fresh (Nat.le_refl _)) (Nat.ne_of_lt (Nat.lt_succ_self _))
 rw [List.append_nil] at hq
 have I2:=aQ.made (C:=C) I1
 have r2:bS (V.ref (s1.heap.objs.size+1)::vs) (Value.ref (s1.heap.objs.size+1)::us):=.cons rfl r
 have hl:(Value.ref (s1.heap.objs.size+1)::us++[]).length=ps.length:=by
  have e:=r2.length
  rw [F.len _ _ _ _ hq] at e
  rw [List.append_nil]
  exact e.symm
 have hb2:=hb _ (Value.ref (s1.heap.objs.size+1)::us) I2.kIn hl
 rw [List.append_nil] at hb2
 refine wpAny_call (Fp (f:=f) I1.kIn M.makes M.init (beq_iff_eq.mp M.fn) (codeAny_mono (F.run _ X.stack _ _ ⟨Value.ref (s1.heap.objs.size+1)::us,[]⟩ (Value.ref (s1.heap.objs.size+1)::us) _ _ E0 (hr.make C us [])
  (I2.env0.make C us []) hb2 r2 hq) fun r s' hq'=>?_))
 cases r with
 |error e=>exact False.elim hq'
 |ok fl=>
  cases fl with
  |ret u=>
   obtain ⟨v,H',I3,rv,ev,q3⟩:=I2.after hq'
   subst ev
   exact ⟨rv,⟨V.ref (s1.heap.objs.size+1),H',I3,rfl,q3⟩⟩
  |next=>exact False.elim hq'
  |brk=>exact False.elim hq'
  |cont=>exact False.elim hq'
end
theorem fE.okX {P:Program} {w:World} {K:PySem.W.Frag} {mg:Str->Option Value} {base:Heap} {C:Addr} {x qual:Str} {st:Stmt} {f:Addr} {fd:FuncData} {N ps:List Str} {k:Nat} {sp:Sp} (F:fE K x qual st f fd) (S:aO N ps (aG st))
  (len:∀ vs H Q E,sp vs H Q E->vs.length=ps.length)
  (hbody:∀ (cdv:Value) (A:Around) (outer:List Env) (s:Shared) (H:Hp) (vs:List V) (Q:VK) (E:XK),fY k (A.deeper (envOfC qual (aG st) s.heap.objs.size f cdv))->sp vs H Q E->
   ∃ t,Ap (Ca (iV C P w) P w K mg base N qual (aG st) f cdv A outer s H E) (dU st) t/\t {nx:=fun _ H'=>Q .non H',rt:=Q} (lT N vs) H):bV P w K mg base (iV C P w) (k+1) f fd ps sp:=by
 obtain ⟨oc,od,kV,doc,pm,an,cdv,ct,osl,rfl,lk,hcd⟩:=F.ex
 exact Xd lk hcd S len fun A outer s H vs Q E hr hsp=>hbody cdv A outer s H vs Q E hr hsp
theorem jL {X:Cx} {x:Str} (n:Int) {j:Nat} {p pp pos:Pos} (hm:X.mg "ord"=none) (hg:Gl X "ord":=by rfl) (hl:x.length=1:=by decide+kernel) (hn:((x.cps.getD 0 0:Nat):Int)=n:=by decide+kernel)
  (he:starEach [.Constant (.str x) j pp] X.env=(false,eval (.Constant (.str x) j pp) X.env)::starEach [] X.env:=by rfl):PE X (.Call (.Name "ord" p) [.Constant (.str x) j pp] [] pos) (tC (.int n)):=by
 intro pins s σ H Q I h
 refine bQ (r:=fun xs H Q=>∃ x,xs=[.str x]/\x.length=1/\Q (.int (x.cps.getD 0 0:Nat)) H) xP hg hm boot_ord (aA eU aE he) (by decide) (by decide) he rfl pins s σ H Q I ?_
 refine ⟨x,rfl,hl,?_⟩
 rw [hn]
 exact h
end L2
namespace Br1
open PySem PySem.Spec PyProof.Rows L2
section
variable {P:Program} {w:World} {K:PySem.W.Frag} {mg:Str->Option Value} {base:Heap}
def kM (b:Int):Bool:=decide (97<=b) && decide (b<=122)
def jG (b:Int):Bool:=decide (48<=b) && decide (b<=57)
def pE:Sp:=fun vs H Q _=>∃ b:Int,vs=[.int b]/\Q (.bl (kM b)) H
def nR:Sp:=fun vs H Q _=>∃ b:Int,vs=[.int b]/\Q (.bl (jG b)) H
theorem Di:aO ["byte"] ["byte"] (aG oF):=⟨rfl,rfl,rfl,by decide+kernel,rfl,by decide+kernel,by decide+kernel⟩
theorem Dq {f:Addr} {fd:FuncData} (F:fE K "is_letter" "is_letter" oF f fd) (hord:mg "ord"=none):bV P w K mg base bU 1 f fd ["byte"] pE:=by
 refine F.ok Di (fun vs H Q E h=>?_) (fun cdv A outer s H vs Q E hr h=>?_)
 ·obtain ⟨b,rfl,_⟩:=h
  rfl
 ·obtain ⟨b,rfl,k⟩:=h
  refine ⟨_,aH (aU (mS qT qT (jL 97 hord) (pv 0) (jL 122 hord))),?_⟩
  refine ⟨_,rfl,_,_,rfl,rfl,_,rfl,cF (fun h1=>⟨_,_,rfl,rfl,?_⟩) (fun h1=>?_)⟩
  ·have e:kM b=decide (b<=122):=by unfold kM;rw [h1,Bool.true_and]
   rw [e] at k
   exact k
  ·have e:kM b=false:=by unfold kM;rw [eq_false_of_ne_true h1,Bool.false_and]
   rw [e] at k
   exact k
theorem Ie:aO ["byte"] ["byte"] (aG qA):=⟨rfl,rfl,rfl,by decide+kernel,rfl,by decide+kernel,by decide+kernel⟩
theorem Hb {f:Addr} {fd:FuncData} (F:fE K "is_digit" "is_digit" qA f fd) (hord:mg "ord"=none):bV P w K mg base bU 1 f fd ["byte"] nR:=by
 refine F.ok Ie (fun vs H Q E h=>?_) (fun cdv A outer s H vs Q E hr h=>?_)
 ·obtain ⟨b,rfl,_⟩:=h
  rfl
 ·obtain ⟨b,rfl,k⟩:=h
  refine ⟨_,aH (aU (mS qT qT (jL 48 hord) (pv 0) (jL 57 hord))),?_⟩
  refine ⟨_,rfl,_,_,rfl,rfl,_,rfl,cF (fun h1=>⟨_,_,rfl,rfl,?_⟩) (fun h1=>?_)⟩
  ·have e:jG b=decide (b<=57):=by unfold jG;rw [h1,Bool.true_and]
   rw [e] at k
   exact k
  ·have e:jG b=false:=by unfold jG;rw [eq_false_of_ne_true h1,Bool.false_and]
   rw [e] at k
   exact k
end
def RdF (a:Addr) (p:Int):List (Str×V):=[("text",.ref a),("position",.int p)]
theorem Gj (a:Addr) (p:Int):(RdF a p).lookup ("text":Str)=some (V.ref a):=rfl
theorem gP (a:Addr) (p:Int):(RdF a p).lookup ("position":Str)=some (V.int p):=rfl
def iF (CR:Addr) (H:Hp) (r a:Addr) (p:Nat):Prop:=∃ dx,H r=some (.ins CR dx (RdF a p))
def SX (r:Addr) (H H':Hp):Prop:=∀ b o,H b=some o->b≠r->H' b=some o
theorem SX.refl (r:Addr) (H:Hp):SX r H H:=fun _ _ e _=>e
theorem SX.trans {r:Addr} {H H1 H2:Hp} (a:SX r H H1) (b:SX r H1 H2):SX r H H2:=fun c o e n=>b c o (a c o e n) n
theorem SX.upd {r:Addr} {H:Hp} (o:HO):SX r H (upd H r o):=fun b u e n=>by rw [aC n];exact e
theorem aL.sx {r:Addr} {H H':Hp} (s:aL H H'):SX r H H':=fun b o e _=>s b o e
theorem SX.seq {K:PySem.W.Frag} {r a:Addr} {H H':Hp} {xs:List V} {C dx:Addr} {fs:List (Str×V)} (s:SX r H H') (hr:H r=some (.ins C dx fs)) (h:cW K H a xs):cW K H' a xs:=by
 rcases h with (h|⟨o,h⟩)|h
 ·exact .inl (.inl (s _ _ h (by rintro rfl;rw [hr] at h;cases h)))
 ·exact .inl (.inr ⟨o,s _ _ h (by rintro rfl;rw [hr] at h;cases h)⟩)
 ·exact .inr h
theorem SX.seqT {K:PySem.W.Frag} {r a:Addr} {H H':Hp} {xs:List V} {C dx:Addr} {fs:List (Str×V)} (s:SX r H H') (hr:H r=some (.ins C dx fs)) (h:cN K H a xs):cN K H' a xs:=by
 rcases h with (h|⟨o,h⟩)|h
 ·exact .inl (.inl (s _ _ h (by rintro rfl;rw [hr] at h;cases h)))
 ·exact .inl (.inr ⟨o,s _ _ h (by rintro rfl;rw [hr] at h;cases h)⟩)
 ·exact .inr h
structure Gn (K:PySem.W.Frag) (CR:Addr):Prop where
 cl:Gk K CR
 nT:dF K CR "text"
 nP:dF K CR "position"
def aR (l:List Int) (p:Nat):Int:=(l[p]?).getD 256
structure jO (K:PySem.W.Frag) (CR:Addr) (H:Hp) (r a:Addr) (l:List Int) (p:Nat):Prop where
 rd:iF CR H r a p
 tx:cW K H a (l.map V.int)
 le:p<=l.length
theorem jO.same {K:PySem.W.Frag} {CR:Addr} {H H':Hp} {r a:Addr} {l:List Int} {p q:Nat} (x:jO K CR H r a l p) (s:SX r H H') (hr:iF CR H' r a q) (hq:q<=l.length):jO K CR H' r a l q:=
 let ⟨_,e⟩:=x.rd
 ⟨hr,s.seq e x.tx,hq⟩
section
variable {P:Program} {w:World} {K:PySem.W.Frag} {mg:Str->Option Value} {base:Heap}
theorem Od:aO ["self","fault"] ["self","fault"] (aG qH):=⟨rfl,rfl,rfl,by decide+kernel,rfl,by decide+kernel,by decide+kernel⟩
theorem Mh {f C:Addr} {fd:FuncData} (F:fE K "__init__" "Stuck.__init__" qH f fd) (T:Cp K C f):bV P w K mg base bU 1 f fd ["self","fault"] (aAi C):=by
 refine F.ok Od (fun vs H Q E h=>?_) (fun cdv A outer s H vs Q E hr h=>?_)
 ·obtain ⟨e,t,n,rfl,_⟩:=h
  rfl
 ·obtain ⟨e,t,n,rfl,he,k⟩:=h
  refine ⟨_,aH (Ui T (pv 0) (pv 1) rfl),?_⟩
  exact ⟨_,rfl,_,rfl,e,t,n,rfl,rfl,he,k⟩
def aA3 (CR:Addr):Sp:=fun vs H Q _=>∃ r dx a:Addr,vs=[.ref r,.ref a]/\H r=some (.ins CR dx [])/\∀ H':Hp,iF CR H' r a 0->SX r H H'->Q .non H'
theorem aAq:aO ["self","text"] ["self","text"] (aG Vf):=⟨rfl,rfl,rfl,by decide+kernel,rfl,by decide+kernel,by decide+kernel⟩
theorem Xz {f CR:Addr} {fd:FuncData} (F:fE K "__init__" "Reader.__init__" Vf f fd) (T:Gn K CR):bV P w K mg base bU 1 f fd ["self","text"] (aA3 CR):=by
 refine F.ok aAq (fun vs H Q E h=>?_) (fun cdv A outer s H vs Q E hr h=>?_)
 ·obtain ⟨r,dx,a,rfl,_⟩:=h
  rfl
 ·obtain ⟨r,dx,a,rfl,hp,k⟩:=h
  refine ⟨_,aF (dX (pv 0) (pv 1) rfl) (aH (dX (pv 0) aI rfl)),?_⟩
  refine ⟨_,rfl,_,rfl,r,CR,dx,[],rfl,hp,T.cl,T.nT,(by show 0<1000;decide),?_⟩
  refine ⟨_,rfl,r,CR,dx,_,rfl,aB,T.cl,T.nP,(by show 1<1000;decide),?_⟩
  exact k _ ⟨dx,aB⟩ fun b o e hb=>by rw [aC hb,aC hb];exact e
def oM (K:PySem.W.Frag) (CR:Addr):Sp:=fun vs H Q _=>∃ (r a:Addr) (l:List Int) (p:Nat),vs=[.ref r]/\jO K CR H r a l p/\Q (.bl (decide (p=l.length))) H
theorem Rh:aO ["self"] ["self"] (aG Cy):=⟨rfl,rfl,rfl,by decide+kernel,rfl,by decide+kernel,by decide+kernel⟩
theorem Pw {f CR:Addr} {fd:FuncData} (F:fE K "ended" "Reader.ended" Cy f fd) (T:Gn K CR) (hlen:mg "len"=none):bV P w K mg base bU 1 f fd ["self"] (oM K CR):=by
 refine F.ok Rh (fun vs H Q E h=>?_) (fun cdv A outer s H vs Q E hr h=>?_)
 ·obtain ⟨r,a,l,p,rfl,_⟩:=h
  rfl
 ·obtain ⟨r,a,l,p,rfl,⟨⟨dx,h1⟩,tx,le⟩,k⟩:=h
  refine ⟨_,aH (aU (kZ pY (aT (pv 0) rfl) (bQ bW (by rfl) hlen PySem.boot_len (aA (aT (pv 0) rfl) aE)) (gX _))),?_⟩
  refine ⟨_,rfl,r,CR,dx,_,_,rfl,h1,T.cl,T.nP,gP _ _,_,rfl,r,CR,dx,_,_,rfl,h1,T.cl,T.nT,Gj _ _,a,_,rfl,.inl tx,rfl,?_⟩
  have e:decide (V.int (p:Int)=V.int ((l.map V.int).length:Int))=decide (p=l.length):=by
   rw [List.length_map,uH,Bool.eq_iff_iff,beq_iff_eq,decide_eq_true_iff]
   (clear le;omega)
  show Q (.bl (decide (V.int (p:Int)=V.int ((l.map V.int).length:Int)))) H
  rw [e]
  exact k
structure nQ (P:Program) (w:World) (K:PySem.W.Frag) (mg:Str->Option Value) (base:Heap) (CR:Addr) (m:Str) (CX:Gm) (k:Nat) (ps:List Str) (sp:Sp):Prop where
 ex:∃ f fd,Wn K CR m f/\bV P w K mg base CX k f fd ps sp/\fF K fd ps []
def pM (K:PySem.W.Frag) (CR:Addr):Sp:=fun vs H Q _=>∃ (r a:Addr) (l:List Int) (p:Nat),vs=[.ref r]/\jO K CR H r a l p/\Q (.int (aR l p)) H
theorem Uk:aO ["self"] ["self"] (aG Li):=⟨rfl,rfl,rfl,by decide+kernel,rfl,by decide+kernel,by decide+kernel⟩
theorem Ut {f CR:Addr} {fd:FuncData} {tk:Tok} (F:fE K "here" "Reader.here" Li f fd) (T:Gn K CR) (hno:mg "NO_BYTE"=some (.int 256 tk)) (M:nQ P w K mg base CR "ended" bU 1 ["self"] (oM K CR)):bV P w K mg base bU 2 f fd ["self"] (pM K CR):=by
 obtain ⟨fe,fde,me,Ge,be⟩:=M.ex
 refine F.ok Uk (fun vs H Q E h=>?_) (fun cdv A outer s H vs Q E hr h=>?_)
 ·obtain ⟨r,a,l,p,rfl,_⟩:=h
  rfl
 ·obtain ⟨r,a,l,p,rfl,x,k⟩:=h
  obtain ⟨⟨dx,h1⟩,tx,le⟩:=id x
  refine ⟨_,aF (eG (eP (cG (pv 0) T.cl me Ge hr be .nil aX)) (aH (aU (Au (v:=.int 256) (by rfl) hno ⟨tk,rfl⟩))) cC) (aH (aU (bO jE (aT (pv 0) rfl) (aT (pv 0) rfl) (fun _ _=>rfl)))),?_⟩
  refine ⟨_,rfl,r,dx,_,rfl,h1,rfl,r,a,l,p,rfl,x,_,rfl,cF (fun hc=>?_) (fun hc=>?_)⟩
  ·have e:p=l.length:=of_decide_eq_true hc
   have e2:aR l p=256:=by unfold aR;rw [List.getElem?_eq_none (Nat.le_of_eq e.symm)];rfl
   rw [e2] at k
   exact k
  ·have e:p<l.length:=Nat.lt_of_le_of_ne le fun z=>hc (decide_eq_true z)
   refine ⟨_,rfl,r,CR,dx,_,_,rfl,h1,T.cl,T.nT,Gj _ _,_,rfl,r,CR,dx,_,_,rfl,h1,T.cl,T.nP,gP _ _,a,_,_,_,rfl,rfl,tx,iC (j:=p) (v:=V.int (aR l p)) ?_,k⟩
   unfold aR
   rw [List.getElem?_map,List.getElem?_eq_getElem e]
   rfl
def pN (K:PySem.W.Frag) (CR:Addr):Sp:=fun vs H Q _=>∃ (r a:Addr) (l:List Int) (p:Nat),vs=[.ref r]/\jO K CR H r a l p/\∀ H':Hp,iF CR H' r a (p+1)->SX r H H'->Q (.int (aR l p)) H'
theorem Lk:aO ["self","byte"] ["self"] (aG Jv):=⟨rfl,rfl,rfl,by decide+kernel,rfl,by decide+kernel,by decide+kernel⟩
theorem Wi {f CR:Addr} {fd:FuncData} (F:fE K "take" "Reader.take" Jv f fd) (T:Gn K CR) (M:nQ P w K mg base CR "here" bU 2 ["self"] (pM K CR)):bV P w K mg base bU 3 f fd ["self"] (pN K CR):=by
 obtain ⟨fe,fde,me,Ge,be⟩:=M.ex
 refine F.ok Lk (fun vs H Q E h=>?_) (fun cdv A outer s H vs Q E hr h=>?_)
 ·obtain ⟨r,a,l,p,rfl,_⟩:=h
  rfl
 ·obtain ⟨r,a,l,p,rfl,x,k⟩:=h
  obtain ⟨⟨dx,h1⟩,tx,le⟩:=id x
  refine ⟨_,aF (bI (i:=1) Lk.nd rfl (Or.inl rfl) (cG (pv 0) T.cl me Ge hr be .nil aX)) (aF (Ly (pv 0) aI Zt) (aH (aU (pv 1)))),?_⟩
  refine ⟨_,rfl,r,dx,_,rfl,h1,rfl,r,a,l,p,rfl,x,?_⟩
  refine ⟨_,rfl,r,CR,dx,_,_,rfl,h1,T.cl,T.nP,gP _ _,_,_,rfl,rfl,dx,_,h1,(by show 2<1000;decide),?_⟩
  refine ⟨_,rfl,k _ ⟨dx,?_⟩ (SX.upd _)⟩
  rw [aB]
  rfl
end
structure Zq (P:Program) (w:World) (K:PySem.W.Frag) (mg:Str->Option Value) (base:Heap) (C:Addr):Prop where
 ex:∃ f fd,Cp K C f/\bV P w K mg base bU 1 f fd ["self","fault"] (aAi C)/\fF K fd ["self","fault"] []
 mg:mg "Stuck"=some (.ref C)
theorem gB {l:List Int} {p:Nat} (h:aR l p≠256):p<l.length:=by
 by_cases z:p<l.length
 ·exact z
 ·refine absurd ?_ h
  unfold aR
  rw [List.getElem?_eq_none (Nat.le_of_not_lt z)]
  rfl
theorem iS (x:Int):∀ l:List Int,Px (.int x) (l.map V.int)=decide (x∈l)
 |[]=>by simp [Px]
 |y::r=>by
  have ih:=iS x r
  unfold Px at ih ⊢
  rw [List.map_cons,List.any_cons,ih,Bool.eq_iff_iff]
  show ((y==x)||decide (x∈r))=true↔_
  rw [Bool.or_eq_true,beq_iff_eq,decide_eq_true_iff,decide_eq_true_iff,List.mem_cons]
  constructor
  ·rintro (h|h)
   ·exact .inl h.symm
   ·exact .inr h
  ·rintro (h|h)
   ·exact .inl h.symm
   ·exact .inr h
theorem yZ:∀ l:List Int,(l.map V.int).all oU=true
 |[]=>rfl
 |_::r=>by rw [List.map_cons,List.all_cons,yZ r];rfl
section
variable {P:Program} {w:World} {K:PySem.W.Frag} {mg:Str->Option Value} {base:Heap} {C CR:Addr}
def qY (K:PySem.W.Frag) (CR:Addr):Sp:=fun vs H Q E=>∃ (r a g:Addr) (l sl:List Int) (p:Nat),vs=[.ref r,.ref g]/\jO K CR H r a l p/\cN K H g (sl.map V.int)/\256∉sl/\
 (aR l p∈sl->∀ H':Hp,iF CR H' r a (p+1)->SX r H H'->Q (.int (aR l p)) H')/\(aR l p∉sl->E (.int p 0) none H)
theorem Pu:aO ["self","signs"] ["self","signs"] (aG Ck):=⟨rfl,rfl,rfl,by decide+kernel,rfl,by decide+kernel,by decide+kernel⟩
theorem Sm {f:Addr} {fd:FuncData} (F:fE K "read_one_of" "Reader.read_one_of" Ck f fd) (T:Gn K CR) (S:Zq P w K mg base C) (M1:nQ P w K mg base CR "here" bU 2 ["self"] (pM K CR)) (M2:nQ P w K mg base CR "take" bU 3 ["self"] (pN K CR)):
  bV P w K mg base (iV C P w) 4 f fd ["self","signs"] (qY K CR):=by
 obtain ⟨f1,fd1,m1,G1,b1⟩:=M1.ex
 obtain ⟨f2,fd2,m2,G2,b2⟩:=M2.ex
 obtain ⟨fx,fdx,XT,GX,bx⟩:=S.ex
 refine F.okX Pu (fun vs H Q E h=>?_) (fun cdv A outer s H vs Q E hr h=>?_)
 ·obtain ⟨r,a,g,l,sl,p,rfl,_⟩:=h
  rfl
 ·obtain ⟨r,a,g,l,sl,p,rfl,x,hg,h256,k1,k2⟩:=h
  obtain ⟨⟨dx,h1⟩,tx,le⟩:=id x
  have hr2:=hr.mono (j:=2) (by decide)
  refine ⟨_,aF (eG (hX lL (cG (pv 0) T.cl m1 G1 hr2 b1 .nil aX) (pv 1) (by with_unfolding_all rfl)) (aH (mM aN rfl XT GX hr2 (by rfl) S.mg bx (aT (pv 0) rfl))) cC)
   (aH (aU (cG (pv 0) T.cl m2 G2 hr b2 .nil aX))),?_⟩
  refine ⟨_,rfl,r,dx,_,rfl,h1,rfl,r,a,l,p,rfl,x,_,rfl,g,_,rfl,.inr hg,rfl,yZ sl,_,rfl,cF (fun hc=>?_) (fun hc=>?_)⟩
  ·have hc:(!Px (.int (aR l p)) (sl.map V.int))=true:=hc
   rw [iS,Bool.not_eq_true',decide_eq_false_iff_not] at hc
   exact ⟨_,rfl,r,CR,dx,_,_,rfl,h1,T.cl,T.nP,gP _ _,_,rfl,k2 hc⟩
  ·have hc:¬(!Px (.int (aR l p)) (sl.map V.int))=true:=hc
   rw [iS,Bool.not_eq_true',decide_eq_false_iff_not,Classical.not_not] at hc
   exact ⟨_,rfl,r,dx,_,rfl,h1,rfl,r,a,l,p,rfl,x,k1 hc⟩
end
end Br1
namespace L2
open PySem PySem.Spec PyProof.Rows
theorem Vq {x:Str} {g:TG} {tb:TS} {D:fZ} {σ:St} {H:Hp} (Pv:Nat->St->Hp->Prop) (h0:Pv 0 σ H)
  (hs:∀ i c σ H,x.cps[i]?=some c->Pv i σ H->g (.str ⟨#[c]⟩) σ H fun σ2 H2=>tb {D with nx:=Pv (i+1),ct:=Pv (i+1),bk:=D.nx} σ2 H2) (hd:∀ σ H,Pv x.cps.size σ H->D.nx σ H):
  ∃ W:Nat->Nat->St->Hp->Prop,(∃ m,W 0 m σ H)/\∀ i m σ H,W i m σ H->
   ((Xc x).stop i H/\D.nx σ H)\/((Xc x).go i H/\∃ N:St->Hp->Prop,(∀ σ' H',N σ' H'->∃ m',m'<m/\W (i+1) m' σ' H')/\∀ v H',(Xc x).yld i H v H'->g v σ H' fun σ2 H2=>tb {D with nx:=N,ct:=N,bk:=D.nx} σ2 H2):=by
 refine ⟨fun i m σ H=>m=x.cps.size - i/\i<=x.cps.size/\Pv i σ H,⟨x.cps.size,by simp,Nat.zero_le _,h0⟩,?_⟩
 rintro i m σ H ⟨rfl,hi,p⟩
 by_cases hlt:i<x.cps.size
 ·refine .inr ⟨hlt,Pv (i+1),fun σ' H' p'=>⟨x.cps.size - (i+1),by (clear hi;omega),rfl,hlt,p'⟩,fun v H' y=>?_⟩
  obtain ⟨e,c,hc,rfl⟩:=y
  subst e
  exact hs i c σ _ hc p
 ·have e:i=x.cps.size:=by omega
  subst e
  exact .inl ⟨Nat.le_refl _,hd σ H p⟩
end L2
namespace Br1
open PySem PySem.Spec PyProof.Rows L2
def aV (l:List Int):Nat->List Nat->Except Nat Nat
 |p,[]=>.ok p
 |p,c::r=>if aR l p=c then aV l (p+1) r else .error p
def gT (b:Int):Bool:=kM b||jG b
def bJ (l:List Int):Nat->Nat->List Int
 |_,0=>[]
 |p,n+1=>if gT (aR l p)=true then aR l p::bJ l (p+1) n else []
def dE (l:List Int) (hi:Int):Nat->Nat->Int->Int×Nat
 |0,p,v=>(v,p)
 |n+1,p,v=>if 0<v/\jG (aR l p)=true/\v * 10+aR l p - 48<=hi then dE l hi n (p+1) (v * 10+aR l p - 48) else (v,p)
def iZ (l:List Int) (p:Nat) (lo hi:Int):Prop:=jG (aR l p)=true/\lo<=aR l p - 48/\aR l p - 48<=hi
def eI (l:List Int) (p:Nat) (hi:Int):Int×Nat:=dE l hi (l.length - (p+1)) (p+1) (aR l p - 48)
theorem Ph {l:List Int} {p:Nat} (h:gT (aR l p)=true):p<l.length:=gB fun z=>by rw [z] at h;revert h;decide
theorem Qu {l:List Int} {p:Nat} (h:jG (aR l p)=true):p<l.length:=gB fun z=>by rw [z] at h;revert h;decide
theorem iG {b:Int} (h:jG b=true):48<=b/\b<=57:=by
 unfold jG at h
 rw [Bool.and_eq_true,decide_eq_true_iff,decide_eq_true_iff] at h
 exact h
section
variable {P:Program} {w:World} {K:PySem.W.Frag} {mg:Str->Option Value} {base:Heap} {C CR:Addr}
def lN (K:PySem.W.Frag) (CR:Addr):Sp:=fun vs H Q E=>∃ (r a:Addr) (l:List Int) (p:Nat) (x:Str),vs=[.ref r,.str x]/\jO K CR H r a l p/\(∀ c∈x.cps.toList,c<256)/\
 match aV l p x.cps.toList with
 |.ok p'=>∀ H':Hp,iF CR H' r a p'->p'<=l.length->SX r H H'->Q .non H'
 |.error i=>∀ H':Hp,SX r H H'->E (.int i 0) none H'
theorem Lq:aO ["self","word","sign"] ["self","word"] (aG Lf):=⟨rfl,rfl,rfl,by decide+kernel,rfl,by decide+kernel,by decide+kernel⟩
theorem Uy {f:Addr} {fd:FuncData} (F:fE K "read_word" "Reader.read_word" Lf f fd) (T:Gn K CR) (hord:mg "ord"=none) (M1:nQ P w K mg base CR "read_one_of" (iV C P w) 4 ["self","signs"] (qY K CR)):
  bV P w K mg base (iV C P w) 5 f fd ["self","word"] (lN K CR):=by
 obtain ⟨f1,fd1,m1,G1,b1⟩:=M1.ex
 refine F.okX Lq (fun vs H Q E h=>?_) (fun cdv A outer s H vs Q E hr h=>?_)
 ·obtain ⟨r,a,l,p,x,rfl,_⟩:=h
  rfl
 ·obtain ⟨r,a,l,p,x,rfl,tx,hx,k⟩:=h
  refine ⟨_,aH (eQ aN.own rfl (Pd (pv 1)) (bH (i:=2) Lq.nd rfl (Or.inl rfl))
   (aH (cH (cZ (pv 0) T.cl m1 G1 hr b1 .nil aN.pass (aA (eJ (aA (bQ xP (by rfl) hord boot_ord (aA (pv 2) aE)) aE)) aE))))),?_⟩
  refine ⟨_,rfl,x,rfl,Vq (fun i σ H'=>∃ v2:Option V,σ=[some (.ref r),some (.str x),v2]/\SX r H H'/\jO K CR H' r a l (p+i)/\aV l p x.cps.toList=aV l (p+i) (x.cps.toList.drop i))
   ⟨none,rfl,SX.refl r H,tx,rfl⟩ ?_ ?_⟩
  ·rintro i c σ H1 hc ⟨v2,rfl,s1,x1,e1⟩
   have hcl:x.cps.toList[i]?=some c:=by rw [Array.getElem?_toList];exact hc
   have hdr:x.cps.toList.drop i=c::x.cps.toList.drop (i+1):=by
    obtain ⟨hlt,e⟩:=List.getElem?_eq_some_iff.mp hcl
    rw [<-e]
    exact List.drop_eq_getElem_cons hlt
   rw [hdr] at e1
   have c256:c<256:=hx c (List.mem_of_getElem? hcl)
   obtain ⟨⟨dx,h1⟩,_,_⟩:=id x1
   refine ⟨_,rfl,r,dx,_,rfl,h1,rfl,⟨_,rfl,⟨#[c]⟩,rfl,rfl,(by show 1<=sizeLine;decide),fun g hg=>?_⟩⟩
   have sg:aL H1 (upd H1 g (.tup [.int c])):=fun b o e=>by rw [aC (aD e hg)];exact e
   have x2:jO K CR (upd H1 g (.tup [.int c])) r a l (p+i):=x1.same (aL.sx sg) ⟨dx,sg _ _ h1⟩ x1.le
   refine ⟨r,a,g,l,[(c:Int)],p+i,rfl,x2,.inl (.inl aB),by simp;omega,fun hin H2 hr2 s2=>?_,fun hin=>?_⟩
   ·have hin:aR l (p+i)=c:=by simpa using hin
    have lt:p+i<l.length:=gB (by rw [hin];(clear hin;omega))
    refine ⟨_,rfl,(s1.trans (aL.sx sg)).trans s2,x2.same s2 hr2 lt,?_⟩
    rw [e1]
    show (if aR l (p+i)=c then _ else _)=_
    rw [if_pos hin]
    rfl
   ·have hin:¬aR l (p+i)=c:=by simpa using hin
    have e2:aV l p x.cps.toList=.error (p+i):=by
     rw [e1]
     show (if aR l (p+i)=c then _ else _)=_
     rw [if_neg hin]
    rw [e2] at k
    exact k _ (s1.trans (aL.sx sg))
  ·rintro σ H1 ⟨v2,rfl,s1,x1,e1⟩
   have e2:aV l p x.cps.toList=.ok (p+x.cps.size):=by
    rw [e1,List.drop_eq_nil_of_le (by simp)]
    rfl
   rw [e2] at k
   exact k H1 x1.rd x1.le s1
def yW (K:PySem.W.Frag) (CR:Addr):Sp:=fun vs H Q E=>∃ (r a:Addr) (l:List Int) (p:Nat),vs=[.ref r]/\jO K CR H r a l p/\(p=l.length->Q .non H)/\(p≠l.length->E (.int p 0) none H)
theorem Zi:aO ["self"] ["self"] (aG Vg):=⟨rfl,rfl,rfl,by decide+kernel,rfl,by decide+kernel,by decide+kernel⟩
theorem Zr {f:Addr} {fd:FuncData} (F:fE K "read_end" "Reader.read_end" Vg f fd) (T:Gn K CR) (S:Zq P w K mg base C) (M1:nQ P w K mg base CR "ended" bU 1 ["self"] (oM K CR)):
  bV P w K mg base (iV C P w) 3 f fd ["self"] (yW K CR):=by
 obtain ⟨f1,fd1,m1,G1,b1⟩:=M1.ex
 obtain ⟨fx,fdx,XT,GX,bx⟩:=S.ex
 refine F.okX Zi (fun vs H Q E h=>?_) (fun cdv A outer s H vs Q E hr h=>?_)
 ·obtain ⟨r,a,l,p,rfl,_⟩:=h
  rfl
 ·obtain ⟨r,a,l,p,rfl,x,k1,k2⟩:=h
  obtain ⟨⟨dx,h1⟩,tx,le⟩:=id x
  refine ⟨_,aH (eG (lF (eP (cG (pv 0) T.cl m1 G1 (hr.mono (by decide)) b1 .nil aX))) (aH (mM aN rfl XT GX hr (by rfl) S.mg bx (aT (pv 0) rfl))) cC),?_⟩
  refine ⟨_,rfl,r,dx,_,rfl,h1,rfl,r,a,l,p,rfl,x,_,rfl,cF (fun hc=>?_) (fun hc=>?_)⟩
  ·rw [Bool.not_eq_true',decide_eq_false_iff_not] at hc
   exact ⟨_,rfl,r,CR,dx,_,_,rfl,h1,T.cl,T.nP,gP _ _,_,rfl,k2 hc⟩
  ·rw [Bool.not_eq_true',decide_eq_false_iff_not,Classical.not_not] at hc
   exact k1 hc
end
theorem aY:20000<sizeLine:=by rw [sizeLine_eq];decide
theorem cR {b:Bool} (h:¬b=true):b=false:=by cases b<;>simp_all
section
variable {P:Program} {w:World} {K:PySem.W.Frag} {mg:Str->Option Value} {base:Heap} {C CR:Addr}
structure dL (P:Program) (w:World) (K:PySem.W.Frag) (mg:Str->Option Value) (base:Heap) (x:Str) (CX:Gm) (k:Nat) (ps:List Str) (sp:Sp):Prop where
 ex:∃ f fd,bV P w K mg base CX k f fd ps sp/\fF K fd ps []/\PySem.W.keepIn K (.ref f)=true/\mg x=some (.ref f)
theorem As {l:List Int} {p i n:Nat} {xs:List Int} (e:bJ l p (i+(n+1))=xs++bJ l (p+i) (n+1)) (h:gT (aR l (p+i))=true):bJ l p (i+(n+1))=(xs++[aR l (p+i)])++bJ l (p+(i+1)) n:=by
 rw [e,List.append_assoc]
 congr 1
 show (if gT (aR l (p+i))=true then _ else _)=_
 rw [if_pos h]
 rfl
def Ku (CR:Addr) (H:Hp) (r a q:Addr) (l:List Int) (p L:Nat) (m:Nat) (σ:List (Option V)) (H':Hp):Prop:=
 ∃ i,m+i=L/\∃ xs:List Int,σ=[some (.ref r),some (.int L),some (.ref q)]/\xs.length=i/\SX r H H'/\iF CR H' r a (p+i)/\p+i<=l.length/\H' q=some (.lst (xs.map V.int))/\bJ l p L=xs++bJ l (p+i) m
theorem zL {H H1:Hp} {r a q:Addr} {l:List Int} {p i n:Nat} {xs:List Int} {D:fZ} (x:jO K CR H r a l p) (hq:H q=none) (nrq:r≠q) (hxl:xs.length=i) (hL:i+(n+1)<=1000) (s1:SX r H H1) (hr1:iF CR H1 r a (p+i)) (le1:p+i<=l.length)
  (hq1:H1 q=some (.lst (xs.map V.int))) (e1:bJ l p (i+(n+1))=xs++bJ l (p+i) (n+1)) (ha:gT (aR l (p+i))=true) (hD:∀ σ H',Ku CR H r a q l p (i+(n+1)) n σ H'->D.nx σ H'):
  zI (tBM K "list" Ky (dD 2) (dO (mF CR "take" (pN K CR) [] E0 (dD 0) gR) gR)) D [some (.ref r),some (.int ((i+(n+1):Nat):Int)),some (.ref q)] H1:=by
 have lt:=Ph ha
 obtain ⟨dx1,g1⟩:=id hr1
 refine ⟨_,rfl,.inl ⟨rfl,_,cW.of hq1⟩,_,rfl,r,dx1,_,rfl,g1,rfl,r,a,l,p+i,rfl,x.same s1 hr1 le1,fun H2 hr2 s2=>?_⟩
 have hq2:H2 q=some (.lst (xs.map V.int)):=s2 _ _ hq1 (Ne.symm nrq)
 refine ⟨q,_,_,rfl,rfl,hq2,?_,?_⟩
 ·rw [List.length_map]
  have:=aY
  (clear lt le1;omega)
 ·obtain ⟨dx2,g2⟩:=hr2
  have s3:SX r H (upd H2 q (.lst (xs.map V.int++[V.int (aR l (p+i))]))):=fun b o e hb=>by
   rw [aC (aD e hq)]
   exact s2 b o (s1 b o e hb) hb
  refine hD _ _ ⟨i+1,by (clear lt le1 hL hxl;omega),xs++[aR l (p+i)],rfl,by simp [hxl],s3,⟨dx2,by rw [aC nrq];exact g2⟩,lt,?_,As e1 ha⟩
  rw [aB,List.map_append]
  rfl
def oY (K:PySem.W.Frag) (CR:Addr):Sp:=fun vs H Q E=>∃ (r a:Addr) (l:List Int) (p L:Nat),vs=[.ref r,.int L]/\jO K CR H r a l p/\L<=1000/\
 (kM (aR l p)=true->∀ (H':Hp) (q:Addr),iF CR H' r a (p+(bJ l p L).length)->p+(bJ l p L).length<=l.length->SX r H H'->H' q=some (.tup ((bJ l p L).map V.int))->Q (.ref q) H')/\
 (kM (aR l p)=false->E (.int p 0) none H)
theorem Jq:aO ["self","longest","name"] ["self","longest"] (aG Kf):=⟨rfl,rfl,rfl,by decide+kernel,rfl,by decide+kernel,by decide+kernel⟩
theorem Wa {f:Addr} {fd:FuncData} (F:fE K "read_name" "Reader.read_name" Kf f fd) (T:Gn K CR) (S:Zq P w K mg base C) (hlen:mg "len"=none) (htup:mg "tuple"=none)
  (M1:nQ P w K mg base CR "here" bU 2 ["self"] (pM K CR)) (M2:nQ P w K mg base CR "take" bU 3 ["self"] (pN K CR)) (L1:dL P w K mg base "is_letter" bU 1 ["byte"] pE) (L2:dL P w K mg base "is_digit" bU 1 ["byte"] nR):
  bV P w K mg base (iV C P w) 4 f fd ["self","longest"] (oY K CR):=by
 obtain ⟨f1,fd1,m1,G1,b1⟩:=M1.ex
 obtain ⟨f2,fd2,m2,G2,b2⟩:=M2.ex
 obtain ⟨g1,gd1,GL,bL,kL,hL⟩:=L1.ex
 obtain ⟨g2,gd2,GD,bD,kD,hD⟩:=L2.ex
 obtain ⟨fx,fdx,XT,GX,bx⟩:=S.ex
 refine F.okX Jq (fun vs H Q E h=>?_) (fun cdv A outer s H vs Q E hr h=>?_)
 ·obtain ⟨r,a,l,p,L,rfl,_⟩:=h
  rfl
 ·obtain ⟨r,a,l,p,L,rfl,x,hL1000,k1,k2⟩:=h
  obtain ⟨⟨dx,h1⟩,tx,le⟩:=id x
  have hr2:=hr.mono (j:=2) (by decide)
  have hr1:=hr.mono (j:=1) (by decide)
  refine ⟨_,aF (eG (lF (eP (aP GL hr1 (by rfl) hL kL bL .nil aX (aA (cG (pv 0) T.cl m1 G1 hr2 b1 .nil aX) aE)))) (aH (mM aN rfl XT GX hr2 (by rfl) S.mg bx (aT (pv 0) rfl))) cC)
   (aF (bI (i:=2) Jq.nd rfl (Or.inl rfl) (eE aE))
   (aF (kJ aN.own (gZ (dR (Kv (bQ bW (by rfl) hlen PySem.boot_len (aA (pv 2) aE)) (pv 1)))
     (iA (Le (eP (aP GL hr1 (by rfl) hL kL bL .nil aX (aA (cG (pv 0) T.cl m1 G1 hr2 b1 .nil aX) aE))) (Cw (eP (aP GD hr1 (by rfl) hD kD bD .nil aX (aA (cG (pv 0) T.cl m1 G1 hr2 b1 .nil aX) aE))))).pt)).pt
    (aH (cH (mV PySem.F.plainAttrs_list PySem.F.slot_list_append PySem.F.type_list_append gJ (pv 2) (aA (cG (pv 0) T.cl m2 G2 hr b2 .nil aX) aE)))))
   (aH (aU (kQ oV (by rfl) htup boot_tuple (aA (pv 2) aE)))))),?_⟩
  refine ⟨_,rfl,r,dx,_,rfl,h1,rfl,r,a,l,p,rfl,x,_,rfl,_,rfl,cF (fun hc=>?_) (fun hc=>?_)⟩
  ·rw [Bool.not_eq_true'] at hc
   exact ⟨_,rfl,r,CR,dx,_,_,rfl,h1,T.cl,T.nP,gP _ _,_,rfl,k2 hc⟩
  ·rw [Bool.not_eq_true',Bool.not_eq_false] at hc
   refine ⟨Nat.zero_le _,fun q hq=>?_⟩
   have sq:aL H (upd H q (.lst [])):=fun b o e=>by rw [aC (aD e hq)];exact e
   have nrq:r≠q:=aD h1 hq
   refine ⟨Ku CR H r a q l p L,⟨L,0,rfl,[],rfl,rfl,aL.sx sq,⟨dx,sq _ _ h1⟩,le,aB,rfl⟩,?_⟩
   rintro m σ H1 ⟨i,hmi,xs,rfl,hxl,s1,hr1,le1,hq1,e1⟩
   have x1:=x.same s1 hr1 le1
   obtain ⟨dx1,g1⟩:=id hr1
   have fin:bJ l p L=xs->∀ t,H1 t=none->Q (.ref t) (upd H1 t (.tup (xs.map V.int))):=by
    intro e2 t ht
    have st:aL H1 (upd H1 t (.tup (xs.map V.int))):=fun b o e=>by rw [aC (aD e ht)];exact e
    refine k1 hc _ t ⟨dx1,?_⟩ ?_ (s1.trans (aL.sx st)) ?_
    ·rw [e2,hxl];exact st _ _ g1
    ·rw [e2,hxl];exact le1
    ·rw [e2];exact aB
   refine ⟨_,rfl,q,_,rfl,.inl (cW.of hq1),_,rfl,_,_,rfl,rfl,_,rfl,cF (fun hlt=>?_) (fun hlt=>?_)⟩
   ·have hlt:((xs.map V.int).length:Int)<(L:Int):=of_decide_eq_true hlt
    rw [List.length_map] at hlt
    obtain ⟨n,rfl⟩:∃ n,m=n+1:=⟨m - 1,by (clear le1 le hL1000;omega)⟩
    obtain rfl:L=i+(n+1):=by (clear hlt le1 hxl le hL1000;omega)
    refine ⟨_,rfl,r,dx1,_,rfl,g1,rfl,r,a,l,p+i,rfl,x1,_,rfl,_,rfl,cF (fun hl=>Sv ?_) (fun hl=>?_)⟩
    ·exact ⟨Ku CR H r a q l p (i+(n+1)) n,fun _ _ z=>⟨n,Nat.lt_succ_self n,z⟩,zL x hq nrq hxl hL1000 s1 hr1 le1 hq1 e1 (by unfold gT;rw [hl];rfl) fun _ _ z=>z⟩
    ·refine ⟨_,rfl,r,dx1,_,rfl,g1,rfl,r,a,l,p+i,rfl,x1,_,rfl,_,rfl,cF (fun hd=>?_) (fun hd=>?_)⟩
     ·exact ⟨Ku CR H r a q l p (i+(n+1)) n,fun _ _ z=>⟨n,Nat.lt_succ_self n,z⟩,zL x hq nrq hxl hL1000 s1 hr1 le1 hq1 e1 (by unfold gT;rw [hd,Bool.or_true]) fun _ _ z=>z⟩
     ·refine ⟨_,rfl,q,_,rfl,.inl ⟨cW.of hq1,fin ?_⟩⟩
      rw [e1]
      show xs++(if gT (aR l (p+i))=true then _ else _)=xs
      rw [if_neg (by unfold gT;rw [cR hl,cR hd];decide),List.append_nil]
   ·have hlt:¬((xs.map V.int).length:Int)<(L:Int):=fun z=>hlt (decide_eq_true z)
    rw [List.length_map] at hlt
    refine tW ⟨_,rfl,q,_,rfl,.inl ⟨cW.of hq1,fin ?_⟩⟩
    rw [e1,show m=0 by (clear le1 le hL1000;omega)]
    exact List.append_nil _
end
section
variable {P:Program} {w:World} {K:PySem.W.Frag} {mg:Str->Option Value} {base:Heap} {C CR:Addr}
def aA2 (CR:Addr) (H:Hp) (r a:Addr) (l:List Int) (p:Nat) (lo hi:Int) (m:Nat) (σ:List (Option V)) (H':Hp):Prop:=
 ∃ (q:Nat) (v:Int),m+q=l.length/\σ=[some (.ref r),some (.int lo),some (.int hi),some (.int v)]/\SX r H H'/\iF CR H' r a q/\0<=v/\v<=hi/\eI l p hi=dE l hi m q v
def jQ (K:PySem.W.Frag) (CR:Addr):Sp:=fun vs H Q E=>∃ (r a:Addr) (l:List Int) (p:Nat) (lo hi:Int),vs=[.ref r,.int lo,.int hi]/\jO K CR H r a l p/\0<=lo/\hi<=100000/\
 (iZ l p lo hi->∀ H':Hp,iF CR H' r a (eI l p hi).2->(eI l p hi).2<=l.length->0<=(eI l p hi).1->(eI l p hi).1<=hi->SX r H H'->Q (.int (eI l p hi).1) H')/\(¬iZ l p lo hi->E (.int p 0) none H)
theorem sQ:aO ["self","least","most","value"] ["self","least","most"] (aG uN):=⟨rfl,rfl,rfl,by decide+kernel,rfl,by decide+kernel,by decide+kernel⟩
theorem Lw {f:Addr} {fd:FuncData} (F:fE K "read_number" "Reader.read_number" uN f fd) (T:Gn K CR) (S:Zq P w K mg base C) (hord:mg "ord"=none)
  (M1:nQ P w K mg base CR "here" bU 2 ["self"] (pM K CR)) (M2:nQ P w K mg base CR "take" bU 3 ["self"] (pN K CR)) (L2:dL P w K mg base "is_digit" bU 1 ["byte"] nR):
  bV P w K mg base (iV C P w) 4 f fd ["self","least","most"] (jQ K CR):=by
 obtain ⟨f1,fd1,m1,G1,b1⟩:=M1.ex
 obtain ⟨f2,fd2,m2,G2,b2⟩:=M2.ex
 obtain ⟨g2,gd2,GD,bD,kD,hD⟩:=L2.ex
 obtain ⟨fx,fdx,XT,GX,bx⟩:=S.ex
 refine F.okX sQ (fun vs H Q E h=>?_) (fun cdv A outer s H vs Q E hr h=>?_)
 ·obtain ⟨r,a,l,p,lo,hi,rfl,_⟩:=h
  rfl
 ·obtain ⟨r,a,l,p,lo,hi,rfl,x,hlo,hhi,k1,k2⟩:=h
  obtain ⟨⟨dx,h1⟩,tx,le⟩:=id x
  have hr2:=hr.mono (j:=2) (by decide)
  have hr1:=hr.mono (j:=1) (by decide)
  refine ⟨_,aF (eG (Le (lF (eP (aP GD hr1 (by rfl) hD kD bD .nil aX (aA (cG (pv 0) T.cl m1 G1 hr2 b1 .nil aX) aE))))
     (Cw (lF (Qe qT qT (pv 1) (bZ eC (cG (pv 0) T.cl m1 G1 hr2 b1 .nil aX) (jL 48 hord)) (pv 2))))).pt (aH (mM aN rfl XT GX hr2 (by rfl) S.mg bx (aT (pv 0) rfl))) cC)
   (aF (bI (i:=3) sQ.nd rfl (Or.inl rfl) (bZ eC (cG (pv 0) T.cl m2 G2 hr b2 .nil aX) (jL 48 hord)))
   (aF (kJ aN.own (gZ (dR (rB (pv 3) aI)) (gZ (eP (aP GD hr1 (by rfl) hD kD bD .nil aX (aA (cG (pv 0) T.cl m1 G1 hr2 b1 .nil aX) aE)))
     (iA (dR (aBp (bZ eC (bZ fJ (bZ Ou (pv 3) aI) (cG (pv 0) T.cl m1 G1 hr2 b1 .nil aX)) (jL 48 hord)) (pv 2)))))).pt
    (aH (bI (i:=3) sQ.nd rfl (Or.inl rfl) (bZ eC (bZ fJ (bZ Ou (pv 3) aI) (cG (pv 0) T.cl m2 G2 hr b2 .nil aX)) (jL 48 hord)))))
   (aH (aU (pv 3))))),?_⟩
  refine ⟨_,rfl,r,dx,_,rfl,h1,rfl,r,a,l,p,rfl,x,_,rfl,_,rfl,cF (fun hc=>Sv ?_) (fun hc=>?_)⟩
  ·rw [Bool.not_eq_true'] at hc
   exact ⟨_,rfl,r,CR,dx,_,_,rfl,h1,T.cl,T.nP,gP _ _,_,rfl,k2 fun z=>by rw [z.1] at hc;cases hc⟩
  ·rw [Bool.not_eq_true',Bool.not_eq_false] at hc
   refine ⟨_,rfl,_,rfl,r,dx,_,rfl,h1,rfl,r,a,l,p,rfl,x,_,_,rfl,rfl,_,_,rfl,rfl,_,rfl,cF (fun h3=>⟨_,rfl,_,_,rfl,rfl,_,rfl,cF (fun h4=>?_) (fun h4=>?_)⟩) (fun h3=>⟨_,rfl,Sv ?_⟩)⟩
   ·rw [Bool.not_eq_true',decide_eq_false_iff_not] at h4
    exact ⟨_,rfl,r,CR,dx,_,_,rfl,h1,T.cl,T.nP,gP _ _,_,rfl,k2 fun z=>h4 z.2.2⟩
   ·rw [Bool.not_eq_true',decide_eq_false_iff_not,Classical.not_not] at h4
    have h3:=of_decide_eq_true h3
    have hn:iZ l p lo hi:=⟨hc,h3,h4⟩
    have lt:=Qu hc
    have dr:=iG hc
    refine ⟨_,rfl,r,dx,_,rfl,h1,rfl,r,a,l,p,rfl,x,fun H1 hr1 s1=>⟨_,_,rfl,rfl,?_⟩⟩
    refine ⟨aA2 CR H r a l p lo hi,⟨l.length - (p+1),p+1,aR l p - 48,by (clear dr h3 h4 le hhi hlo;omega),rfl,s1,hr1,by (clear dr lt h4 le hhi;omega),h4,rfl⟩,?_⟩
    rintro m σ H2 ⟨q,v,hmq,rfl,s2,hr2,v0,vh,e2⟩
    have x2:=x.same s2 hr2 (by (clear vh v0 dr lt h3 h4 le hhi hlo;omega))
    obtain ⟨dx2,g2⟩:=id hr2
    have fin:eI l p hi=(v,q)->Q (.int v) H2:=fun e3=>by
     have z:=k1 hn H2
     rw [e3] at z
     exact z hr2 (by show q<=l.length;(clear vh v0 dr lt h3 h4 le hhi hlo;omega)) v0 vh s2
    refine ⟨_,rfl,_,_,rfl,rfl,_,rfl,cF (fun h5=>?_) (fun h5=>tW ⟨_,rfl,fin ?_⟩)⟩
    ·have h5:=of_decide_eq_true h5
     refine ⟨_,rfl,r,dx2,_,rfl,g2,rfl,r,a,l,q,rfl,x2,_,rfl,_,rfl,cF (fun h6=>?_) (fun h6=>tW ⟨_,rfl,fin ?_⟩)⟩
     ·have lt2:=Qu h6
      have dr2:=iG h6
      obtain ⟨n,rfl⟩:∃ n,m=n+1:=⟨m - 1,by (clear dr2 h5 vh v0 dr lt h3 h4 le hhi hlo;omega)⟩
      refine ⟨_,rfl,_,_,rfl,rfl,.inl ⟨by (clear hmq dr2 lt2 h5 vh dr lt h3 h4 le hhi hlo;omega),by (clear hmq dr2 lt2 h5 v0 dr lt h3 h4 le hlo;omega)⟩,_,rfl,r,dx2,_,rfl,g2,rfl,r,a,l,q,rfl,x2,_,_,rfl,rfl,_,_,rfl,rfl,_,rfl,_,_,rfl,rfl,_,rfl,cF (fun h7=>?_) (fun h7=>⟨_,rfl,fin ?_⟩)⟩
      ·have h7:=of_decide_eq_true h7
       refine ⟨aA2 CR H r a l p lo hi n,fun _ _ z=>⟨n,Nat.lt_succ_self n,z⟩,?_⟩
       refine ⟨_,rfl,_,_,rfl,rfl,.inl ⟨by (clear h7 hmq dr2 lt2 h5 vh dr lt h3 h4 le hhi hlo;omega),by (clear h7 hmq dr2 lt2 h5 v0 dr lt h3 h4 le hlo;omega)⟩,_,rfl,r,dx2,_,rfl,g2,rfl,r,a,l,q,rfl,x2,fun H3 hr3 s3=>⟨_,_,rfl,rfl,_,_,rfl,rfl,?_⟩⟩
       refine ⟨q+1,v * 10+aR l q - 48,by (clear h7 dr2 lt2 h5 vh v0 dr lt h3 h4 le hhi hlo;omega),rfl,s2.trans s3,hr3,by (clear h7 hmq lt2 h5 vh dr lt h3 h4 le hhi hlo;omega),h7,?_⟩
       rw [e2]
       show (if _ then _ else _)=_
       rw [if_pos ⟨h5,h6,h7⟩]
      ·rw [e2]
       show (if _ then _ else _)=_
       rw [if_neg fun z=>h7 (decide_eq_true z.2.2)]
     ·rw [e2]
      cases m with
      |zero=>rfl
      |succ n=>
       show (if _ then _ else _)=_
       rw [if_neg fun z=>h6 z.2.1]
    ·rw [e2]
     cases m with
     |zero=>rfl
     |succ n=>
      show (if _ then _ else _)=_
      rw [if_neg fun z=>h5 (decide_eq_true z.1)]
   ·exact ⟨_,rfl,r,CR,dx,_,_,rfl,h1,T.cl,T.nP,gP _ _,_,rfl,k2 fun z=>h3 (decide_eq_true z.2.1)⟩
end
def gF {α:Type} (x:α):Except Nat (List α×Nat)->Except Nat (List α×Nat)
 |.ok r=>.ok (x::r.1,r.2)
 |.error i=>.error i
def bY (l:List Int):Nat->Nat->Except Nat (List Int×Nat)
 |0,p=>.ok ([],p)
 |n+1,p=>if aR l p∈cP then gF (aR l p) (bY l n (p+1)) else .error p
def fL (l:List Int) (w p:Nat):Except Nat (List Int×Nat):=match bY l w p with
 |.ok r=>if aR l r.2=10 then .ok (r.1,r.2+1) else .error r.2
 |.error i=>.error i
def bX (l:List Int) (w:Nat):Nat->Nat->Except Nat (List (List Int)×Nat)
 |0,p=>.ok ([],p)
 |n+1,p=>match fL l w p with
  |.ok r=>gF r.1 (bX l w n r.2)
  |.error i=>.error i
def fW {α:Type} (xs:List α):Except Nat (List α×Nat)->Except Nat (List α×Nat)
 |.ok r=>.ok (xs++r.1,r.2)
 |.error i=>.error i
theorem jS {α:Type} (r:Except Nat (List α×Nat)):fW [] r=r:=by cases r<;>rfl
theorem iT {α:Type} (xs:List α) (x:α) (r:Except Nat (List α×Nat)):fW xs (gF x r)=fW (xs++[x]) r:=by
 cases r with
 |error i=>rfl
 |ok r=>unfold fW gF;simp
abbrev eN (x y z:Int):List eF:=[Sum.inl x,Sum.inl y,Sum.inl z]
def fG (y z:Nat):Nat->List Int->List (List eF×V)
 |_,[]=>[]
 |x,s::r=>(if s=46 then [] else [(eN x y z,V.int s)])++fG y z (x+1) r
def dY (d:Nat):Nat->List (List Int)->List (List eF×V)
 |_,[]=>[]
 |j,r::rs=>fG (j % d) (j / d) 0 r++dY d (j+1) rs
theorem vI (y z:Nat) (s:Int):∀ (xs:List Int) (x:Nat),fG y z x (xs++[s])=fG y z x xs++(if s=46 then [] else [(eN ((x+xs.length:Nat):Int) y z,V.int s)])
 |[],x=>by simp [fG]
 |a::r,x=>by
  show _++fG y z (x+1) (r++[s])=(_++fG y z (x+1) r)++_
  rw [vI y z s r (x+1),<-List.append_assoc,List.length_cons,show x+1+r.length=x+(r.length+1) by omega]
theorem tQ (d:Nat) (r:List Int):∀ (rs:List (List Int)) (j:Nat),dY d j (rs++[r])=dY d j rs++fG ((j+rs.length) % d) ((j+rs.length) / d) 0 r
 |[],j=>by simp [dY]
 |a::rs,j=>by
  show _++dY d (j+1) (rs++[r])=(_++dY d (j+1) rs)++_
  rw [tQ d r rs (j+1),<-List.append_assoc,List.length_cons,show j+1+rs.length=j+(rs.length+1) by omega]
theorem sJ {y z:Nat} {kv:List eF×V}:∀ {xs:List Int} {x:Nat},kv∈fG y z x xs->∃ x':Nat,kv.1=eN x' y z/\x<=x'/\x'<x+xs.length
 |[],x,h=>by simp [fG] at h
 |a::r,x,h=>by
  have h:kv∈(if a=46 then [] else [(eN x y z,V.int a)])++fG y z (x+1) r:=h
  rcases List.mem_append.mp h with h|h
  ·split at h
   ·cases h
   ·rw [List.mem_singleton.mp h]
    exact ⟨x,rfl,Nat.le_refl _,by simp⟩
  ·obtain ⟨x',e,h1,h2⟩:=sJ h
   exact ⟨x',e,by (clear h2;omega),by rw [List.length_cons];(clear h1;omega)⟩
theorem vS {d:Nat} {kv:List eF×V}:∀ {rs:List (List Int)} {j:Nat},kv∈dY d j rs->∃ x' j':Nat,kv.1=eN x' ((j' % d:Nat):Int) ((j' / d:Nat):Int)/\j<=j'/\j'<j+rs.length
 |[],j,h=>by simp [dY] at h
 |a::rs,j,h=>by
  have h:kv∈fG (j % d) (j / d) 0 a++dY d (j+1) rs:=h
  rcases List.mem_append.mp h with h|h
  ·obtain ⟨x',e,_⟩:=sJ h
   exact ⟨x',j,e,Nat.le_refl _,by simp⟩
  ·obtain ⟨x',j',e,h1,h2⟩:=vS h
   exact ⟨x',j',e,by (clear h2;omega),by rw [List.length_cons];(clear h1;omega)⟩
theorem sL (y z:Nat):∀ (xs:List Int) (x:Nat),(fG y z x xs).length<=xs.length
 |[],x=>by simp [fG]
 |a::r,x=>by
  show (_++fG y z (x+1) r).length<=_
  rw [List.length_append,List.length_cons]
  have:=sL y z r (x+1)
  split<;>simp<;>omega
theorem pD (d w:Nat):∀ (rs:List (List Int)) (j:Nat),(∀ r∈rs,r.length=w)->(dY d j rs).length<=rs.length * w
 |[],j,_=>by simp [dY]
 |a::rs,j,h=>by
  show (fG (j % d) (j / d) 0 a++dY d (j+1) rs).length<=_
  have h1:=sL (j % d) (j / d) a 0
  have h2:=pD d w rs (j+1) fun r hr=>h r (List.mem_cons_of_mem _ hr)
  have h3:=h a List.mem_cons_self
  rw [List.length_append,List.length_cons,Nat.succ_mul]
  omega
theorem Lz {κ:Type} [DecidableEq κ] {aJ:List (κ×V)} {k:κ} (h:∀ kv∈aJ,kv.1≠k):lP aJ k=none:=by
 unfold lP
 rw [List.find?_eq_none.mpr fun kv hkv=>by simpa using h kv hkv]
 rfl
theorem To {d:Nat} {rs:List (List Int)} {xs:List Int} (hd:0<d):lP (dY d 0 rs++fG (rs.length % d) (rs.length / d) 0 xs) (eN (xs.length:Int) ((rs.length % d:Nat):Int) ((rs.length / d:Nat):Int))=none:=by
 refine Lz fun kv hkv e=>?_
 rcases List.mem_append.mp hkv with h|h
 ·obtain ⟨x',j',e',h1,h2⟩:=vS h
  rw [e'] at e
  simp only [eN,List.cons.injEq,Sum.inl.injEq,and_true] at e
  obtain ⟨_,e1,e2⟩:=e
  have q1:=Nat.div_add_mod j' d
  have q2:=Nat.div_add_mod rs.length d
  have e1':j' % d=rs.length % d:=by (clear q2 q1 e2 h2 h1 hd;omega)
  have e2':j' / d=rs.length / d:=by (clear e1' q2 q1 e1 h2 h1 hd;omega)
  rw [e1',e2'] at q1
  (clear e2' e1' e2 e1 h1 hd;omega)
 ·obtain ⟨x',e',h1,h2⟩:=sJ h
  rw [e'] at e
  simp only [eN,List.cons.injEq,Sum.inl.injEq,and_true] at e
  obtain ⟨e1,_⟩:=e
  (clear h1 hd;omega)
section
variable {P:Program} {w:World} {K:PySem.W.Frag} {mg:Str->Option Value} {base:Heap} {C CR CP:Addr}
def CI (mg:Str->Option Value) (x:Str) (n:Int):Prop:=∃ tk,mg x=some (.int n tk)
theorem eM {X:Cx} {x:Str} {n:Int} {pos:Pos} (h:CI X.mg x n) (hg:Gl X x:=by rfl) (hd:(x==("__debug__":Str))=false:=by decide):PE X (.Name x pos) (tC (.int n)):=by
 obtain ⟨tk,h⟩:=h
 exact Au hg h ⟨tk,rfl⟩ hd
def fA (s:Int):Bool:=decide (s=115)||decide (s=98)
def dW (s:Int):Bool:=decide (s=116)||decide (s=98)
def vA:Sp:=fun vs H Q _=>∃ s:Int,vs=[.int s]/\Q (.bl (fA s)) H
def xD:Sp:=fun vs H Q _=>∃ s:Int,vs=[.int s]/\Q (.bl (dW s)) H
theorem hG (i j:Int):decide (V.int i=V.int j)=decide (i=j):=by rw [uH,Bool.beq_eq_decide_eq]
theorem Wq:aO ["sign"] ["sign"] (aG qD):=⟨rfl,rfl,rfl,by decide+kernel,rfl,by decide+kernel,by decide+kernel⟩
theorem Uq {f:Addr} {fd:FuncData} (F:fE K "has_stud" "has_stud" qD f fd) (h1:CI mg "STUD" 115) (h2:CI mg "BOTH" 98):bV P w K mg base bU 1 f fd ["sign"] vA:=by
 refine F.ok Wq (fun vs H Q E h=>?_) (fun cdv A outer s H vs Q E hr h=>?_)
 ·obtain ⟨b,rfl,_⟩:=h
  rfl
 ·obtain ⟨b,rfl,k⟩:=h
  refine ⟨_,aH (aU (So (kZ pY (pv 0) (eM h1) (gX _)) (rS (kZ pY (pv 0) (eM h2) (gX _))))),?_⟩
  unfold fA at k
  rw [<-hG,<-hG] at k
  refine ⟨_,rfl,rfl,_,rfl,cF (fun h=>?_) (fun h=>⟨_,rfl,rfl,?_⟩)⟩
  ·rw [h] at k;exact k
  ·rw [cR h] at k;exact k
theorem Ug:aO ["sign"] ["sign"] (aG qK):=⟨rfl,rfl,rfl,by decide+kernel,rfl,by decide+kernel,by decide+kernel⟩
theorem Vb {f:Addr} {fd:FuncData} (F:fE K "has_tube" "has_tube" qK f fd) (h1:CI mg "TUBE" 116) (h2:CI mg "BOTH" 98):bV P w K mg base bU 1 f fd ["sign"] xD:=by
 refine F.ok Ug (fun vs H Q E h=>?_) (fun cdv A outer s H vs Q E hr h=>?_)
 ·obtain ⟨b,rfl,_⟩:=h
  rfl
 ·obtain ⟨b,rfl,k⟩:=h
  refine ⟨_,aH (aU (So (kZ pY (pv 0) (eM h1) (gX _)) (rS (kZ pY (pv 0) (eM h2) (gX _))))),?_⟩
  unfold dW at k
  rw [<-hG,<-hG] at k
  refine ⟨_,rfl,rfl,_,rfl,cF (fun h=>?_) (fun h=>⟨_,rfl,rfl,?_⟩)⟩
  ·rw [h] at k;exact k
  ·rw [cR h] at k;exact k
def oH:Sp:=fun vs H Q _=>∃ (g:Addr) (x y z:Int),vs=[.ref g]/\H g=some (.tup [.int x,.int y,.int z])/\∀ q,H q=none->Q (.ref q) (upd H q (.tup [.int x,.int y,.int (z+1)]))
def nU:Sp:=fun vs H Q _=>∃ (g:Addr) (x y z:Int),vs=[.ref g]/\H g=some (.tup [.int x,.int y,.int z])/\∀ q,H q=none->Q (.ref q) (upd H q (.tup [.int x,.int y,.int (z - 1)]))
theorem Qh:aO ["place"] ["place"] (aG Cr):=⟨rfl,rfl,rfl,by decide+kernel,rfl,by decide+kernel,by decide+kernel⟩
theorem Ox {f:Addr} {fd:FuncData} (F:fE K "above" "above" Cr f fd):bV P w K mg base bU 1 f fd ["place"] oH:=by
 refine F.ok Qh (fun vs H Q E h=>?_) (fun cdv A outer s H vs Q E hr h=>?_)
 ·obtain ⟨g,x,y,z,rfl,_⟩:=h
  rfl
 ·obtain ⟨g,x,y,z,rfl,hg,k⟩:=h
  refine ⟨_,aH (aU (eJ (aA (bO aZ (pv 0) aI (fun _ _=>rfl)) (aA (bO aZ (pv 0) aI (fun _ _=>rfl)) (aA (bZ fJ (bO aZ (pv 0) aI (fun _ _=>rfl)) aI) aE))))),?_⟩
  refine ⟨_,rfl,g,_,_,_,rfl,rfl,cN.of hg,rfl,_,rfl,g,_,_,_,rfl,rfl,cN.of hg,rfl,_,rfl,g,_,_,_,rfl,rfl,cN.of hg,rfl,_,_,rfl,rfl,(by show 3<=sizeLine;decide),k⟩
theorem Oq:aO ["place"] ["place"] (aG Cn):=⟨rfl,rfl,rfl,by decide+kernel,rfl,by decide+kernel,by decide+kernel⟩
theorem Ro {f:Addr} {fd:FuncData} (F:fE K "below" "below" Cn f fd):bV P w K mg base bU 1 f fd ["place"] nU:=by
 refine F.ok Oq (fun vs H Q E h=>?_) (fun cdv A outer s H vs Q E hr h=>?_)
 ·obtain ⟨g,x,y,z,rfl,_⟩:=h
  rfl
 ·obtain ⟨g,x,y,z,rfl,hg,k⟩:=h
  refine ⟨_,aH (aU (eJ (aA (bO aZ (pv 0) aI (fun _ _=>rfl)) (aA (bO aZ (pv 0) aI (fun _ _=>rfl)) (aA (bZ eC (bO aZ (pv 0) aI (fun _ _=>rfl)) aI) aE))))),?_⟩
  refine ⟨_,rfl,g,_,_,_,rfl,rfl,cN.of hg,rfl,_,rfl,g,_,_,_,rfl,rfl,cN.of hg,rfl,_,rfl,g,_,_,_,rfl,rfl,cN.of hg,rfl,_,_,rfl,rfl,(by show 3<=sizeLine;decide),k⟩
def Op (nm:Addr) (W D Hh g:Int) (cells:Addr):List (Str×V):=[("name",.ref nm),("width",.int W),("depth",.int D),("height",.int Hh),("weight",.int g),("cells",.ref cells)]
structure Oo (K:PySem.W.Frag) (CP:Addr):Prop where
 cl:Gk K CP
 n1:dF K CP "name"
 n2:dF K CP "width"
 n3:dF K CP "depth"
 n4:dF K CP "height"
 n5:dF K CP "weight"
 n6:dF K CP "cells"
def Jo (CP:Addr):Sp:=fun vs H Q _=>∃ (r dx nm cells:Addr) (W D Hh g:Int),vs=[.ref r,.ref nm,.int W,.int D,.int Hh,.int g,.ref cells]/\H r=some (.ins CP dx [])/\∀ H':Hp,H' r=some (.ins CP dx (Op nm W D Hh g cells))->SX r H H'->Q .non H'
theorem Qi:aO ["self","name","width","depth","height","weight","cells"] ["self","name","width","depth","height","weight","cells"] (aG Bf):=⟨rfl,rfl,rfl,by decide+kernel,rfl,by decide+kernel,by decide+kernel⟩
theorem Qm {f:Addr} {fd:FuncData} (F:fE K "__init__" "Part.__init__" Bf f fd) (T:Oo K CP):bV P w K mg base bU 1 f fd ["self","name","width","depth","height","weight","cells"] (Jo CP):=by
 refine F.ok Qi (fun vs H Q E h=>?_) (fun cdv A outer s H vs Q E hr h=>?_)
 ·obtain ⟨r,dx,nm,cells,W,D,Hh,g,rfl,_⟩:=h
  rfl
 ·obtain ⟨r,dx,nm,cells,W,D,Hh,g,rfl,hp,k⟩:=h
  refine ⟨_,aF (dX (pv 0) (pv 1) rfl) (aF (dX (pv 0) (pv 2) rfl) (aF (dX (pv 0) (pv 3) rfl) (aF (dX (pv 0) (pv 4) rfl) (aF (dX (pv 0) (pv 5) rfl) (aH (dX (pv 0) (pv 6) rfl)))))),?_⟩
  refine ⟨_,rfl,_,rfl,r,CP,dx,_,rfl,hp,T.cl,T.n1,(by show 0<1000;decide),?_⟩
  refine ⟨_,rfl,_,rfl,r,CP,dx,_,rfl,aB,T.cl,T.n2,(by show 1<1000;decide),?_⟩
  refine ⟨_,rfl,_,rfl,r,CP,dx,_,rfl,aB,T.cl,T.n3,(by show 2<1000;decide),?_⟩
  refine ⟨_,rfl,_,rfl,r,CP,dx,_,rfl,aB,T.cl,T.n4,(by show 3<1000;decide),?_⟩
  refine ⟨_,rfl,_,rfl,r,CP,dx,_,rfl,aB,T.cl,T.n5,(by show 4<1000;decide),?_⟩
  refine ⟨_,rfl,_,rfl,r,CP,dx,_,rfl,aB,T.cl,T.n6,(by show 5<1000;decide),?_⟩
  exact k _ aB fun b o e hb=>by rw [aC hb,aC hb,aC hb,aC hb,aC hb,aC hb];exact e
end
end Br1
namespace L2
open PySem PySem.Spec PyProof.Rows
theorem kX {n:Nat} {g:TG} {tb:TS} {D:fZ} {σ:St} {H:Hp} (Pv:Nat->St->Hp->Prop) (h0:Pv 0 σ H)
  (hs:∀ i σ H,i<n->Pv i σ H->g (.int (i:Int)) σ H fun σ2 H2=>tb {D with nx:=Pv (i+1),ct:=Pv (i+1),bk:=D.nx} σ2 H2) (hd:∀ σ H,Pv n σ H->D.nx σ H):
  ∃ W:Nat->Nat->St->Hp->Prop,(∃ m,W 0 m σ H)/\∀ i m σ H,W i m σ H->
   ((Tj 0 ((n:Int)).toNat).stop i H/\D.nx σ H)\/((Tj 0 ((n:Int)).toNat).go i H/\∃ N:St->Hp->Prop,(∀ σ' H',N σ' H'->∃ m',m'<m/\W (i+1) m' σ' H')/\∀ x H',(Tj 0 ((n:Int)).toNat).yld i H x H'->g x σ H' fun σ2 H2=>tb {D with nx:=N,ct:=N,bk:=D.nx} σ2 H2):=by
 rw [Int.toNat_natCast]
 refine rY (lo:=0) (n:=n) Pv h0 (fun i σ H hi p=>?_) hd
 rw [Int.zero_add]
 exact hs i σ H hi p
end L2
namespace Br1
open PySem PySem.Spec PyProof.Rows L2
theorem Lv {l:List Int} {w n pr i:Nat} {rs:List (List Int)} (h:bY l w pr=.error i):fW rs (bX l w (n+1) pr)=.error i:=by
 have e:fL l w pr=.error i:=by
  unfold fL
  rw [h]
 unfold bX
 rw [e]
 rfl
theorem Tw {l:List Int} {w n pr q:Nat} {rs:List (List Int)} {xs:List Int} (h:bY l w pr=.ok (xs,q)) (h2:¬aR l q=10):fW rs (bX l w (n+1) pr)=.error q:=by
 have e:fL l w pr=.error q:=by
  unfold fL
  rw [h]
  exact if_neg h2
 unfold bX
 rw [e]
 rfl
theorem Zm {l:List Int} {w n pr q:Nat} {rs:List (List Int)} {xs:List Int} (h:bY l w pr=.ok (xs,q)) (h2:aR l q=10):fW rs (bX l w (n+1) pr)=fW (rs++[xs]) (bX l w n (q+1)):=by
 have e:fL l w pr=.ok (xs,q+1):=by
  unfold fL
  rw [h]
  exact if_pos h2
 rw [<-iT]
 show fW rs (bX l w (n+1) pr)=_
 rw [bX,e]
theorem qZ:("\n":Str).cps.toList=[10]:=by decide+kernel
section
variable {P:Program} {w:World} {K:PySem.W.Frag} {mg:Str->Option Value} {base:Heap} {C CR CP:Addr}
def Bt (K:PySem.W.Frag) (CR:Addr):Sp:=fun vs H Q E=>∃ (r a:Addr) (l:List Int) (p W D Hh:Nat),vs=[.ref r,.int W,.int D,.int Hh]/\jO K CR H r a l p/\W<=16/\D<=16/\Hh<=18/\0<D/\
 match bX l W (D * Hh) p with
 |.ok q=>∀ (H':Hp) (c:Addr),iF CR H' r a q.2->q.2<=l.length->SX r H H'->H c=none->H' c=some (.dT (dY D 0 q.1))->(∀ x∈q.1,x.length=W)->Q (.ref c) H'
 |.error i=>∀ H':Hp,SX r H H'->E (.int i 0) none H'
structure CS (CR:Addr) (H:Hp) (r a c:Addr) (l:List Int) (d:Nat) (rs:List (List Int)) (xs:List Int) (p':Nat) (H':Hp):Prop where
 sx:SX r H H'
 rd:iF CR H' r a p'
 le:p'<=l.length
 dc:H' c=some (.dT (dY d 0 rs++fG (rs.length % d) (rs.length / d) 0 xs))
def SgC (r c:Addr) (W D Hh z y:Nat) (v7 v8:Option V):List (Option V):=[some (.ref r),some (.int W),some (.int D),some (.int Hh),some (.ref c),some (.int z),some (.int y),v7,v8]
abbrev Ze (K:PySem.W.Frag) (CR aS:Addr) (E:XK):TS:=Ei (Fi (mF CR "read_one_of" (qY K CR) [] E (dD 0) (dO (tC (.ref aS)) gR)) (lV 8)) (Yv (Td (zE rNe (dD 8) (tC (.int 46)))) (Xf (dD 4) (Zk (dO (dD 7) (dO (dD 6) (dO (dD 5) gR)))) (dD 8)) Xl)
theorem Hi {H H1:Hp} {r a c aS:Addr} {l:List Int} {p W D Hh z y i pr p':Nat} {rs:List (List Int)} {xs:List Int} {v8:Option V} {E:XK} {Dn:fZ} (x:jO K CR H r a l p) (hc:H c=none) (nrc:r≠c) (hS:∀ H,cN K H aS (cP.map V.int)) (hW:W<=16)
  (hrs:rs.length<=300) (hrw:∀ q∈rs,q.length=W) (hD:0<D) (hz:z=rs.length / D) (hy:y=rs.length % D) (hi:i<W) (hx:xs.length=i) (cs:CS CR H r a c l D rs xs p' H1) (e1:bY l W pr=fW xs (bY l (W - i) p'))
  (kE:∀ q,bY l W pr=.error q->∀ H',SX r H H'->E (.int q 0) none H')
  (kN:∀ (v8:Option V) (H':Hp) (xs':List Int) (q:Nat),xs'.length=i+1->CS CR H r a c l D rs xs' q H'->bY l W pr=fW xs' (bY l (W - (i+1)) q)->Dn.nx (SgC r c W D Hh z y (some (.int i)) v8) H'):
  Ze K CR aS E Dn (SgC r c W D Hh z y (some (.int i)) v8) H1:=by
 subst hz hy
 obtain ⟨dx,h1⟩:=id cs.rd
 have x1:=x.same cs.sx cs.rd cs.le
 obtain ⟨n,hn⟩:∃ n,W - i=n+1:=⟨W - i - 1,by (clear hx hD hrs hW;omega)⟩
 have hn2:W - (i+1)=n:=by (clear hx hi hD hrs hW;omega)
 rw [hn] at e1
 refine ⟨_,rfl,r,dx,_,rfl,h1,rfl,⟨r,a,aS,l,cP,p',rfl,x1,hS H1,by decide,fun hin H2 hr2 s2=>?_,fun hin=>?_⟩⟩
 ·have lt:p'<l.length:=gB fun q=>by rw [q] at hin;revert hin;decide
  have e2:bY l W pr=fW (xs++[aR l p']) (bY l n (p'+1)):=by
   rw [e1,<-iT]
   show fW xs (if aR l p'∈cP then _ else _)=_
   rw [if_pos hin]
  have c2:H2 c=some (.dT (dY D 0 rs++fG (rs.length % D) (rs.length / D) 0 xs)):=s2 _ _ cs.dc (Ne.symm nrc)
  have ls:(xs++[aR l p']).length=i+1:=by simp [hx]
  have ek:=vI (rs.length % D) (rs.length / D) (aR l p') xs 0
  rw [Nat.zero_add] at ek
  refine ⟨_,rfl,rfl,_,rfl,cF (fun hne=>?_) (fun hne=>?_)⟩
  ·have hne:¬aR l p'=46:=by
    intro q
    rw [q] at hne
    revert hne
    decide
   rw [if_neg hne,hx] at ek
   refine ⟨_,rfl,_,rfl,_,rfl,_,rfl,_,rfl,(by show 3<=sizeLine;decide),fun g hg=>?_⟩
   have sg:aL H2 (upd H2 g (.tup [.int i,.int ((rs.length % D:Nat):Int),.int ((rs.length / D:Nat):Int)])):=fun b o e=>by rw [aC (aD e hg)];exact e
   refine ⟨c,_,rfl,yC.t (k:=eN i ((rs.length % D:Nat):Int) ((rs.length / D:Nat):Int)) (sg _ _ c2) aB ?_,?_⟩
   ·have h1:=pD D W rs 0 hrw
    have h2:=sL (rs.length % D) (rs.length / D) xs 0
    have h3:rs.length * W<=300 * 16:=Nat.mul_le_mul hrs hW
    have:=aY
    rw [List.length_append]
    (clear hne ls lt hn2 hn hD hrs;omega)
   ·have kn:=To (d:=D) (rs:=rs) (xs:=xs) hD
    rw [hx] at kn
    have kp:=xG (V.int (aR l p')) kn
    refine kN _ _ (xs++[aR l p']) (p'+1) ls ⟨fun b o e hb=>?_,?_,lt,?_⟩ (by rw [hn2];exact e2)
    ·rw [aC (aD e hc)]
     exact sg b o (s2 b o (cs.sx b o e hb) hb)
    ·obtain ⟨dx2,g2⟩:=hr2
     exact ⟨dx2,by rw [aC nrc];exact sg _ _ g2⟩
    ·rw [aB,kp,List.append_assoc,ek]
  ·have hne:aR l p'=46:=by
    refine Classical.byContradiction fun q=>hne ?_
    show (!decide (V.int (aR l p')=V.int 46))=true
    rw [hG,decide_eq_false q]
    rfl
   rw [if_pos hne,List.append_nil] at ek
   refine kN _ _ (xs++[aR l p']) (p'+1) ls ⟨cs.sx.trans s2,hr2,lt,?_⟩ (by rw [hn2];exact e2)
   rw [ek]
   exact c2
 ·refine kE p' ?_ _ cs.sx
  rw [e1]
  show fW xs (if aR l p'∈cP then _ else _)=_
  rw [if_neg hin]
  rfl
end
theorem zQ {l:List Int}:∀ {n p:Nat} {r:List Int×Nat},bY l n p=.ok r->r.1.length=n
 |0,p,r,h=>by cases h;rfl
 |n+1,p,r,h=>by
  rw [bY] at h
  split at h
  ·cases e:bY l n (p+1) with
   |error i=>rw [e] at h;cases h
   |ok q=>
    rw [e] at h
    cases h
    show (_::q.1).length=n+1
    rw [List.length_cons,zQ e]
  ·cases h
section
variable {P:Program} {w:World} {K:PySem.W.Frag} {mg:Str->Option Value} {base:Heap} {C CR CP:Addr}
theorem kK:aO ["reader","width","depth","height","cells","z","y","x","sign"] ["reader","width","depth","height"] (aG lK):=⟨rfl,rfl,rfl,by decide+kernel,rfl,by decide+kernel,by decide+kernel⟩
theorem Ps {f aS:Addr} {fd:FuncData} (F:fE K "read_cells" "read_cells" lK f fd) (T:Gn K CR) (hrange:mg "range"=none) (hS:∀ H,cN K H aS (cP.map V.int)) (hSg:mg "SIGNS"=some (.ref aS)) (hNC:CI mg "NO_CELL" 46)
  (M1:nQ P w K mg base CR "read_one_of" (iV C P w) 4 ["self","signs"] (qY K CR)) (M2:nQ P w K mg base CR "read_word" (iV C P w) 5 ["self","word"] (lN K CR)):
  bV P w K mg base (iV C P w) 6 f fd ["reader","width","depth","height"] (Bt K CR):=by
 obtain ⟨f1,fd1,m1,G1,b1⟩:=M1.ex
 obtain ⟨f2,fd2,m2,G2,b2⟩:=M2.ex
 refine F.okX kK (fun vs H Q E h=>?_) (fun cdv A outer s H vs Q E hr h=>?_)
 ·obtain ⟨r,a,l,p,W,D,Hh,rfl,_⟩:=h
  rfl
 ·obtain ⟨r,a,l,p,W,D,Hh,rfl,x,hW,hD,hH,hD0,k⟩:=h
  obtain ⟨⟨dx,h1⟩,tx,le⟩:=id x
  have hr4:=hr.mono (j:=4) (by decide)
  have hu:=lU hr
  refine ⟨_,aF (bI (i:=4) kK.nd rfl (Or.inl rfl) mQ)
   (aF (eQ aN.own rfl (kO rfl hrange (aA (pv 3) aE)) (bH (i:=5) kK.nd rfl (Or.inl rfl))
    (aH (eQ aN.own rfl (kO rfl hrange (aA (pv 2) aE)) (bH (i:=6) kK.nd rfl (Or.inl rfl))
     (aF (eQ aN.own rfl (kO rfl hrange (aA (pv 1) aE)) (bH (i:=7) kK.nd rfl (Or.inl rfl))
      (aF (bI (i:=8) kK.nd rfl (Or.inl rfl) (cZ (pv 0) T.cl m1 G1 hr4 b1 .nil aN.pass (aA (Au (v:=.ref aS) (by rfl) hSg rfl) aE)))
      (aH (eG (hX aB7 (pv 8) (eM hNC) (gX _)) (aH (nS hu (pv 4) (eJ (aA (pv 7) (aA (pv 6) (aA (pv 5) aE)))) (pv 8) rfl)) cC))))
     (aH (cH (cZ (pv 0) T.cl m2 G2 hr b2 .nil aN.pass (aA eU aE))))))))
   (aH (aU (pv 4)))),?_⟩
  intro c hc
  have nrc:r≠c:=aD h1 hc
  have sc0:aL H (upd H c (.dT [])):=fun b o e=>by rw [aC (aD e hc)];exact e
  refine ⟨_,rfl,_,rfl,by (clear hu le hD0 hH hD hW;omega),by (clear hu le hD0 hD hW;omega),kX (n:=Hh) (fun z σ H'=>∃ (rs:List (List Int)) (p':Nat) (v5 v6 v7 v8:Option V),σ=[some (.ref r),some (.int W),some (.int D),some (.int Hh),some (.ref c),v5,v6,v7,v8]/\
   rs.length=z * D/\(∀ q∈rs,q.length=W)/\CS CR H r a c l D rs [] p' H'/\bX l W (D * Hh) p=fW rs (bX l W (D * Hh - z * D) p'))
   ⟨[],p,none,none,none,none,rfl,by simp,(fun q hq=>nomatch hq),⟨aL.sx sc0,⟨dx,sc0 _ _ h1⟩,le,aB⟩,by rw [jS,Nat.zero_mul,Nat.sub_zero]⟩ ?_ ?_⟩
  ·rintro z σ H1 hz ⟨rs,p1,v5,v6,v7,v8,rfl,hrl,hrw,cs,e1⟩
   have zD:z * D+D<=D * Hh:=by
    rw [Nat.mul_comm D Hh,<-Nat.succ_mul]
    exact Nat.mul_le_mul_right D hz
   have DH:D * Hh<=16 * 18:=Nat.mul_le_mul hD hH
   refine ⟨_,rfl,_,rfl,by (clear DH zD hrl hz hu le hD0 hH hD hW;omega),by (clear DH zD hrl hz hu le hD0 hH hW;omega),kX (n:=D) (fun y σ H'=>∃ (rs:List (List Int)) (p':Nat) (v6 v7 v8:Option V),σ=[some (.ref r),some (.int W),some (.int D),some (.int Hh),some (.ref c),some (.int z),v6,v7,v8]/\
    rs.length=z * D+y/\(∀ q∈rs,q.length=W)/\CS CR H r a c l D rs [] p' H'/\bX l W (D * Hh) p=fW rs (bX l W (D * Hh - (z * D+y)) p'))
    ⟨rs,p1,v6,v7,v8,rfl,hrl,hrw,cs,e1⟩ ?_ ?_⟩
   ·rintro y σ H2 hy ⟨rs,pr,v6,v7,v8,rfl,hrl,hrw,cs,e1⟩
    obtain ⟨n,hn⟩:∃ n,D * Hh - (z * D+y)=n+1:=⟨D * Hh - (z * D+y) - 1,by (clear hrl DH hz hu le hD0 hH hD hW;omega)⟩
    have hn2:D * Hh - (z * D+(y+1))=n:=by (clear hrl hy DH zD hz hu le hD0 hH hD hW;omega)
    rw [hn] at e1
    have ey:y=rs.length % D:=by
     rw [hrl,Nat.add_comm,Nat.add_mul_mod_self_right,Nat.mod_eq_of_lt hy]
    have ez:z=rs.length / D:=by
     rw [hrl,Nat.add_comm,Nat.add_mul_div_right _ _ hD0,Nat.div_eq_of_lt hy,Nat.zero_add]
    have kE:∀ q,bX l W (D * Hh) p=.error q->∀ H',SX r H H'->E (.int q 0) none H':=fun q e H' s'=>by
     rw [e] at k
     exact k H' s'
    refine ⟨_,rfl,_,rfl,by (clear ez ey hn2 hn hrl hy DH zD hz hu le hD0 hH hD hW;omega),by (clear ez ey hn2 hn hrl hy DH zD hz hu le hD0 hH hD;omega),kX (n:=W) (fun i σ H'=>∃ (xs:List Int) (p':Nat) (v7 v8:Option V),σ=SgC r c W D Hh z y v7 v8/\xs.length=i/\CS CR H r a c l D rs xs p' H'/\bY l W pr=fW xs (bY l (W - i) p'))
     ⟨[],pr,v7,v8,rfl,rfl,cs,by rw [jS,Nat.sub_zero]⟩ ?_ ?_⟩
    ·rintro i σ H3 hi ⟨xs,p',v7,v8,rfl,hx,cs,e2⟩
     exact Hi x hc nrc hS hW (by (clear hx hi ez ey hn2 hn hz hu le hD0 hH hD hW;omega)) hrw hD0 ez ey hi hx cs e2 (fun q e H' s'=>kE q (by rw [e1];exact Lv e) H' s') fun v8 H' xs' q g1 g2 g3=>⟨xs',q,_,v8,rfl,g1,g2,g3⟩
    ·rintro σ H3 ⟨xs,p',v7,v8,rfl,hx,cs,e2⟩
     have e3:bY l W pr=.ok (xs,p'):=by
      rw [e2,Nat.sub_self]
      show Except.ok (xs++[],p')=_
      rw [List.append_nil]
     obtain ⟨dx3,g3⟩:=id cs.rd
     refine ⟨_,rfl,r,dx3,_,rfl,g3,rfl,r,a,l,p',"\n",rfl,x.same cs.sx cs.rd cs.le,?_,?_⟩
     ·rw [qZ]
      intro q hq
      rw [List.mem_singleton.mp hq]
      decide
     ·rw [qZ]
      have ew:aV l p' [10]=if aR l p'=10 then .ok (p'+1) else .error p':=rfl
      rw [ew]
      by_cases h10:aR l p'=10
      ·rw [if_pos h10]
       intro H4 hr4 le4 s4
       have c4:H4 c=some (.dT (dY D 0 rs++fG (rs.length % D) (rs.length / D) 0 xs)):=s4 _ _ cs.dc (Ne.symm nrc)
       refine ⟨rs++[xs],p'+1,_,v7,v8,rfl,by simp [hrl];(clear le4 h10 hx ez ey hn2 hn hrl hy DH zD hz hu le hD0 hH hD hW;omega),fun q hq=>?_,⟨cs.sx.trans s4,hr4,le4,?_⟩,?_⟩
       ·rcases List.mem_append.mp hq with hq|hq
        ·exact hrw q hq
        ·rw [List.mem_singleton.mp hq];exact hx
       ·have ek:=tQ D xs rs 0
        rw [Nat.zero_add] at ek
        rw [ek,c4]
        show _=some (HO.dT ((_++_)++[]))
        rw [List.append_nil]
       ·rw [e1,Zm e3 h10,hn2]
      ·rw [if_neg h10]
       intro H4 s4
       exact kE p' (by rw [e1];exact Tw e3 h10) H4 (cs.sx.trans s4)
   ·rintro σ H2 ⟨rs,p',v6,v7,v8,rfl,hrl,hrw,cs,e1⟩
    exact ⟨rs,p',_,v6,v7,v8,rfl,by rw [hrl,Nat.succ_mul],hrw,cs,by rw [Nat.succ_mul];exact e1⟩
  ·rintro σ H1 ⟨rs,p',v5,v6,v7,v8,rfl,hrl,hrw,cs,e1⟩
   have e2:bX l W (D * Hh) p=.ok (rs,p'):=by
    rw [e1,Nat.mul_comm Hh D,Nat.sub_self]
    show Except.ok (rs++[],p')=_
    rw [List.append_nil]
   rw [e2] at k
   refine ⟨_,rfl,k H1 c cs.rd cs.le cs.sx hc ?_ hrw⟩
   rw [cs.dc]
   show some (HO.dT (_++[]))=_
   rw [List.append_nil]
end
def eK {α β:Type} (r:Except Nat α) (f:α->Except Nat β):Except Nat β:=match r with
 |.ok a=>f a
 |.error i=>.error i
theorem cB {α β:Type} (a:α) (f:α->Except Nat β):eK (.ok a) f=f a:=rfl
theorem Bi {α β:Type} (i:Nat) (f:α->Except Nat β):eK (.error i) f=.error i:=rfl
instance {l:List Int} {p:Nat} {lo hi:Int}:Decidable (iZ l p lo hi):=by unfold iZ;infer_instance
def gE (l:List Int) (p L:Nat):Except Nat (List Int×Nat):=if kM (aR l p)=true then .ok (bJ l p L,p+(bJ l p L).length) else .error p
def iX (l:List Int) (p:Nat) (lo hi:Int):Except Nat (Nat×Nat):=if iZ l p lo hi then .ok ((eI l p hi).1.toNat,(eI l p hi).2) else .error p
structure aM where
 name:List Int
 w:Nat
 d:Nat
 h:Nat
 g:Nat
 rows:List (List Int)
def dS (l:List Int) (p:Nat):Except Nat (aM×Nat):=
 eK (aV l p [112,97,114,116,32]) fun p1=>eK (gE l p1 8) fun nm=>eK (aV l nm.2 [32]) fun p3=>eK (iX l p3 1 16) fun w=>eK (aV l w.2 [32]) fun p5=>eK (iX l p5 1 16) fun d=>
 eK (aV l d.2 [32]) fun p7=>eK (iX l p7 1 18) fun h=>eK (aV l h.2 [32]) fun p9=>eK (iX l p9 1 9999) fun g=>eK (aV l g.2 [10]) fun p11=>eK (bX l w.1 (d.1 * h.1) p11) fun rs=>.ok (⟨nm.1,w.1,d.1,h.1,g.1,rs.1⟩,rs.2)
theorem Oj:("part ":Str).cps.toList=[112,97,114,116,32]:=by decide+kernel
theorem iM:(" ":Str).cps.toList=[32]:=by decide+kernel
theorem Po:∀ {l:List Int} {hi:Int} {n p:Nat} {v:Int},1<=v->1<=(dE l hi n p v).1
 |l,hi,0,p,v,h=>h
 |l,hi,n+1,p,v,h=>by
  rw [dE]
  split
  ·rename_i q
   have:=iG q.2.1
   exact Po (by (clear q;omega))
  ·exact h
theorem Ub {l:List Int} {p:Nat} {lo hi:Int} (h:iZ l p lo hi):iX l p lo hi=.ok ((eI l p hi).1.toNat,(eI l p hi).2):=if_pos h
theorem Pb {l:List Int} {p:Nat} {lo hi:Int} (h:¬iZ l p lo hi):iX l p lo hi=.error p:=if_neg h
section
variable {P:Program} {w:World} {K:PySem.W.Frag} {mg:Str->Option Value} {base:Heap} {C CR CP:Addr}
theorem yY {H:Hp} {r a:Addr} {l:List Int} {p:Nat} {x:Str} {cs:List Nat} {Q:V->Hp->Prop} {E:XK} (hx:x.cps.toList=cs) (h256:∀ c∈cs,c<256) (tx:jO K CR H r a l p)
  (k1:∀ p',aV l p cs=.ok p'->∀ H',jO K CR H' r a l p'->SX r H H'->Q .non H') (k2:∀ i,aV l p cs=.error i->∀ H',SX r H H'->E (.int i 0) none H'):lN K CR [.ref r,.str x] H Q E:=by
 refine ⟨r,a,l,p,x,rfl,tx,by rw [hx];exact h256,?_⟩
 rw [hx]
 cases e:aV l p cs with
 |ok p'=>exact fun H' hr hl s=>k1 p' e H' (tx.same s hr hl) s
 |error i=>exact fun H' s=>k2 i e H' s
theorem Es {H:Hp} {r a:Addr} {l:List Int} {p:Nat} {lo:Int} {hi:Nat} {Q:V->Hp->Prop} {E:XK} (tx:jO K CR H r a l p) (hlo:0<=lo) (hhi:hi<=100000)
  (k1:∀ v:Nat×Nat,iX l p lo hi=.ok v->v.1<=hi->(1<=lo->1<=v.1)->∀ H',jO K CR H' r a l v.2->SX r H H'->Q (.int v.1) H') (k2:iX l p lo hi=.error p->E (.int p 0) none H):jQ K CR [.ref r,.int lo,.int hi] H Q E:=by
 refine ⟨r,a,l,p,lo,hi,rfl,tx,hlo,by (clear hlo;omega),fun ok H' hr hl h0 hh s=>?_,fun no=>k2 (Pb no)⟩
 have e:=k1 _ (Ub ok) (by show (eI l p hi).1.toNat<=hi;(clear h0 hl hhi hlo;omega)) (fun h1=>by
  have z:=Po (l:=l) (hi:=hi) (n:=l.length - (p+1)) (p:=p+1) (v:=aR l p - 48) (by have:=ok.2.1;(clear hh h0 hl hhi hlo;omega))
  show 1<=(eI l p hi).1.toNat
  unfold eI
  (clear h1 hh h0 hl hhi hlo;omega)) H' (tx.same s hr hl) s
 have z:(((eI l p hi).1.toNat:Nat):Int)=(eI l p hi).1:=by (clear hh hl hhi hlo;omega)
 rw [<-z]
 exact e
def eD (CP:Addr) (H:Hp) (b:Addr) (pr:aM):Prop:=∃ dx nm c,H b=some (.ins CP dx (Op nm pr.w pr.d pr.h pr.g c))/\H nm=some (.tup (pr.name.map V.int))/\H c=some (.dT (dY pr.d 0 pr.rows))
structure rF (pr:aM):Prop where
 w1:1<=pr.w
 w2:pr.w<=16
 d1:1<=pr.d
 d2:pr.d<=16
 h1:1<=pr.h
 h2:pr.h<=18
 g2:pr.g<=9999
 rw:∀ q∈pr.rows,q.length=pr.w
 rl:pr.rows.length=pr.d * pr.h
 nm:pr.name.length<=8
def Hj (K:PySem.W.Frag) (CR CP:Addr):Sp:=fun vs H Q E=>∃ (r a:Addr) (l:List Int) (p:Nat),vs=[.ref r]/\jO K CR H r a l p/\
 match dS l p with
 |.ok q=>∀ (H':Hp) (b:Addr),jO K CR H' r a l q.2->SX r H H'->H b=none->eD CP H' b q.1->rF q.1->Q (.ref b) H'
 |.error i=>∀ H':Hp,SX r H H'->E (.int i 0) none H'
theorem Gh {l:List Int} {w:Nat}:∀ {n p:Nat} {r:List (List Int)×Nat},bX l w n p=.ok r->r.1.length=n
 |0,p,r,h=>by cases h;rfl
 |n+1,p,r,h=>by
  rw [bX] at h
  cases e:fL l w p with
  |error i=>rw [e] at h;cases h
  |ok q=>
   rw [e] at h
   cases e2:bX l w n q.2 with
   |error i=>
    have h:gF q.1 (bX l w n q.2)=.ok r:=h
    rw [e2] at h;cases h
   |ok q2=>
    have h:gF q.1 (bX l w n q.2)=.ok r:=h
    rw [e2] at h
    cases h
    show (_::q2.1).length=n+1
    rw [List.length_cons,Gh e2]
theorem sZ {l:List Int}:∀ {n p:Nat},(bJ l p n).length<=n
 |0,p=>Nat.le_refl _
 |n+1,p=>by
  rw [bJ]
  split
  ·rw [List.length_cons];exact Nat.succ_le_succ sZ
  ·exact Nat.zero_le _
theorem oC:aO ["reader","name","width","depth","height","weight"] ["reader"] (aG nX):=⟨rfl,rfl,rfl,by decide+kernel,rfl,by decide+kernel,by decide+kernel⟩
end
section
variable {P:Program} {w:World} {K:PySem.W.Frag} {mg:Str->Option Value} {base:Heap} {C CR CP:Addr}
theorem zK {H:Hp} {r a:Addr} {l:List Int} {p L:Nat} {Q:V->Hp->Prop} {E:XK} (tx:jO K CR H r a l p) (hL:L<=1000)
  (k1:∀ v:List Int×Nat,gE l p L=.ok v->∀ (H':Hp) (q:Addr),jO K CR H' r a l v.2->SX r H H'->H' q=some (.tup (v.1.map V.int))->v.1.length<=L->Q (.ref q) H') (k2:gE l p L=.error p->E (.int p 0) none H):oY K CR [.ref r,.int L] H Q E:=by
 refine ⟨r,a,l,p,L,rfl,tx,hL,fun ok H' q hr hl s hq=>?_,fun no=>k2 ?_⟩
 ·exact k1 (bJ l p L,p+(bJ l p L).length) (if_pos ok) H' q (tx.same s hr hl) s hq sZ
 ·exact if_neg (by rw [no];decide)
theorem eV {t u:TS} {D:fZ} {σ:List (Option V)} {H:Hp} (h:t {D with nx:=u D} σ H):Ei t u D σ H:=h
theorem iE {H:Hp} {r a:Addr} {l:List Int} {p:Nat} {x:Str} {cs:List Nat} {D:fZ} {σ:List (Option V)} {E:XK} (hσ:σ[0]?=some (some (.ref r))) (hx:x.cps.toList=cs) (h256:∀ c∈cs,c<256) (tx:jO K CR H r a l p)
  (k2:∀ i,aV l p cs=.error i->∀ H',SX r H H'->E (.int i 0) none H') (k1:∀ p',aV l p cs=.ok p'->∀ H',jO K CR H' r a l p'->SX r H H'->D.nx σ H'):zI (mF CR "read_word" (lN K CR) [] E (dD 0) (dO (tC (.str x)) gR)) D σ H:=by
 obtain ⟨⟨dx,h1⟩,_,_⟩:=id tx
 exact ⟨_,hσ,r,dx,_,rfl,h1,rfl,yY (Q:=fun _ H1=>D.nx σ H1) hx h256 tx (fun p' e H' x' s'=>k1 p' e H' x' s') k2⟩
theorem Cv {H:Hp} {r a:Addr} {l:List Int} {p i:Nat} {lo hiI:Int} {hi:Nat} {D:fZ} {σ:List (Option V)} {E:XK} (hh:hiI=(hi:Int)) (hσ:σ[0]?=some (some (.ref r))) (tx:jO K CR H r a l p) (hlo:0<=lo) (hhi:hi<=100000)
  (k2:iX l p lo hiI=.error p->E (.int p 0) none H) (k1:∀ v:Nat×Nat,iX l p lo hiI=.ok v->v.1<=hi->(1<=lo->1<=v.1)->∀ H',jO K CR H' r a l v.2->SX r H H'->D.nx (σ.set i (some (.int v.1))) H'):
  Fi (mF CR "read_number" (jQ K CR) [] E (dD 0) (dO (tC (.int lo)) (dO (tC (.int hiI)) gR))) (lV i) D σ H:=by
 subst hh
 obtain ⟨⟨dx,h1⟩,_,_⟩:=id tx
 exact ⟨_,hσ,r,dx,_,rfl,h1,rfl,Es (Q:=fun y H1=>D.nx (σ.set i (some y)) H1) tx hlo hhi (fun v e g1 g2 H' x' s'=>k1 v e g1 g2 H' x' s') k2⟩
theorem Vj {H:Hp} {r a:Addr} {l:List Int} {p L i:Nat} {D:fZ} {σ:List (Option V)} {E:XK} (hσ:σ[0]?=some (some (.ref r))) (tx:jO K CR H r a l p) (hL:L<=1000) (k2:gE l p L=.error p->E (.int p 0) none H)
  (k1:∀ v:List Int×Nat,gE l p L=.ok v->∀ (H':Hp) (q:Addr),jO K CR H' r a l v.2->SX r H H'->H' q=some (.tup (v.1.map V.int))->v.1.length<=L->D.nx (σ.set i (some (.ref q))) H'):
  Fi (mF CR "read_name" (oY K CR) [] E (dD 0) (dO (tC (.int L)) gR)) (lV i) D σ H:=by
 obtain ⟨⟨dx,h1⟩,_,_⟩:=id tx
 exact ⟨_,hσ,r,dx,_,rfl,h1,rfl,zK (Q:=fun y H1=>D.nx (σ.set i (some y)) H1) tx hL (fun v e H' q x' s' g1 g2=>k1 v e H' q x' s' g1 g2) k2⟩
theorem SX.tup {CR r q:Addr} {H H':Hp} {xs:List V} {a:Addr} {p:Nat} (s:SX r H H') (hr:iF CR H r a p) (h:H q=some (.tup xs)):H' q=some (.tup xs):=by
 obtain ⟨dx,g⟩:=hr
 exact s _ _ h (by rintro rfl;rw [g] at h;cases h)
theorem b32:∀ c∈([32]:List Nat),c<256:=by decide
theorem b10:∀ c∈([10]:List Nat),c<256:=by decide
structure PtM (P:Program) (w:World) (K:PySem.W.Frag) (mg:Str->Option Value) (base:Heap) (CP:Addr):Prop where
 ex:∃ f fd,Mk K CP f/\bV P w K mg base bU 1 f fd ["self","name","width","depth","height","weight","cells"] (Jo CP)/\fF K fd ["self","name","width","depth","height","weight","cells"] []
 mg:mg "Part"=some (.ref CP)
theorem Vy {f:Addr} {fd:FuncData} (F:fE K "read_part" "read_part" nX f fd) (T:Gn K CR) (PM:PtM P w K mg base CP) (c1:CI mg "LONGEST_PART_NAME" 8) (c2:CI mg "MOST_WIDTH" 16) (c3:CI mg "MOST_DEPTH" 16) (c4:CI mg "MOST_HEIGHT" 18) (c5:CI mg "MOST_WEIGHT" 9999)
  (M1:nQ P w K mg base CR "read_word" (iV C P w) 5 ["self","word"] (lN K CR)) (M2:nQ P w K mg base CR "read_name" (iV C P w) 4 ["self","longest"] (oY K CR)) (M3:nQ P w K mg base CR "read_number" (iV C P w) 4 ["self","least","most"] (jQ K CR))
  (L1:dL P w K mg base "read_cells" (iV C P w) 6 ["reader","width","depth","height"] (Bt K CR)):bV P w K mg base (iV C P w) 7 f fd ["reader"] (Hj K CR CP):=by
 obtain ⟨f1,fd1,m1,G1,b1⟩:=M1.ex
 obtain ⟨f2,fd2,m2,G2,b2⟩:=M2.ex
 obtain ⟨f3,fd3,m3,G3,b3⟩:=M3.ex
 obtain ⟨g1,gd1,GC,bC,kC,hC⟩:=L1.ex
 obtain ⟨fp,fdp,MP,GP,bP⟩:=PM.ex
 refine F.okX oC (fun vs H Q E h=>?_) (fun cdv A outer s H vs Q E hr h=>?_)
 ·obtain ⟨r,a,l,p,rfl,_⟩:=h
  rfl
 ·obtain ⟨r,a,l,p,rfl,x,k⟩:=h
  have hr5:=hr.mono (j:=5) (by decide)
  have hr4:=hr.mono (j:=4) (by decide)
  have hr2:=hr.mono (j:=2) (by decide)
  refine ⟨_,aF (cH (cZ (pv 0) T.cl m1 G1 hr5 b1 .nil aN.pass (aA eU aE)))
   (aF (bI (i:=1) oC.nd rfl (Or.inl rfl) (cZ (pv 0) T.cl m2 G2 hr4 b2 .nil aN.pass (aA (eM c1) aE)))
   (aF (cH (cZ (pv 0) T.cl m1 G1 hr5 b1 .nil aN.pass (aA eU aE)))
   (aF (bI (i:=2) oC.nd rfl (Or.inl rfl) (cZ (pv 0) T.cl m3 G3 hr4 b3 .nil aN.pass (aA aI (aA (eM c2) aE))))
   (aF (cH (cZ (pv 0) T.cl m1 G1 hr5 b1 .nil aN.pass (aA eU aE)))
   (aF (bI (i:=3) oC.nd rfl (Or.inl rfl) (cZ (pv 0) T.cl m3 G3 hr4 b3 .nil aN.pass (aA aI (aA (eM c3) aE))))
   (aF (cH (cZ (pv 0) T.cl m1 G1 hr5 b1 .nil aN.pass (aA eU aE)))
   (aF (bI (i:=4) oC.nd rfl (Or.inl rfl) (cZ (pv 0) T.cl m3 G3 hr4 b3 .nil aN.pass (aA aI (aA (eM c4) aE))))
   (aF (cH (cZ (pv 0) T.cl m1 G1 hr5 b1 .nil aN.pass (aA eU aE)))
   (aF (bI (i:=5) oC.nd rfl (Or.inl rfl) (cZ (pv 0) T.cl m3 G3 hr4 b3 .nil aN.pass (aA aI (aA (eM c5) aE))))
   (aF (cH (cZ (pv 0) T.cl m1 G1 hr5 b1 .nil aN.pass (aA eU aE)))
   (aH (aU (nN MP GP hr2 (by rfl) PM.mg bP .nil aX (aA (pv 1) (aA (pv 2) (aA (pv 3) (aA (pv 4) (aA (pv 5)
    (aA (aP GC hr (by rfl) hC kC bC .nil aN.pass (aA (pv 0) (aA (pv 2) (aA (pv 3) (aA (pv 4) aE))))) aE))))))))))))))))))),?_⟩
  unfold dS at k
  refine eV (iE rfl Oj (by decide) x (fun i e1 H' s1=>by rw [e1] at k;exact k H' s1) fun p1 e1 H1 x1 s1=>?_)
  rw [e1,cB] at k
  refine eV (Vj (L:=8) rfl x1 (by decide) (fun e2=>by rw [e2] at k;exact k _ s1) fun nm e2 H2 qn x2 s2 hn hn8=>?_)
  rw [e2,cB] at k
  have s2:=s1.trans s2
  refine eV (iE rfl iM b32 x2 (fun i e3 H' s3=>by rw [e3] at k;exact k H' (s2.trans s3)) fun p3 e3 H3 x3 s3=>?_)
  rw [e3,cB] at k
  have hn3:=s3.tup x2.rd hn
  have s3:=s2.trans s3
  refine eV (Cv (lo:=1) (hiI:=16) (hi:=16) rfl rfl x3 (by decide) (by decide) (fun e4=>by rw [e4] at k;exact k _ s3) fun W e4 hW2 hW1 H4 x4 s4=>?_)
  rw [e4,cB] at k
  have hn4:=s4.tup x3.rd hn3
  have s4:=s3.trans s4
  refine eV (iE rfl iM b32 x4 (fun i e5 H' s5=>by rw [e5] at k;exact k H' (s4.trans s5)) fun p5 e5 H5 x5 s5=>?_)
  rw [e5,cB] at k
  have hn5:=s5.tup x4.rd hn4
  have s5:=s4.trans s5
  refine eV (Cv (lo:=1) (hiI:=16) (hi:=16) rfl rfl x5 (by decide) (by decide) (fun e6=>by rw [e6] at k;exact k _ s5) fun D e6 hD2 hD1 H6 x6 s6=>?_)
  rw [e6,cB] at k
  have hn6:=s6.tup x5.rd hn5
  have s6:=s5.trans s6
  refine eV (iE rfl iM b32 x6 (fun i e7 H' s7=>by rw [e7] at k;exact k H' (s6.trans s7)) fun p7 e7 H7 x7 s7=>?_)
  rw [e7,cB] at k
  have hn7:=s7.tup x6.rd hn6
  have s7:=s6.trans s7
  refine eV (Cv (lo:=1) (hiI:=18) (hi:=18) rfl rfl x7 (by decide) (by decide) (fun e8=>by rw [e8] at k;exact k _ s7) fun Hh e8 hH2 hH1 H8 x8 s8=>?_)
  rw [e8,cB] at k
  have hn8':=s8.tup x7.rd hn7
  have s8:=s7.trans s8
  refine eV (iE rfl iM b32 x8 (fun i e9 H' s9=>by rw [e9] at k;exact k H' (s8.trans s9)) fun p9 e9 H9 x9 s9=>?_)
  rw [e9,cB] at k
  have hn9:=s9.tup x8.rd hn8'
  have s9:=s8.trans s9
  refine eV (Cv (lo:=1) (hiI:=9999) (hi:=9999) rfl rfl x9 (by decide) (by decide) (fun e10=>by rw [e10] at k;exact k _ s9) fun g e10 hg2 hg1 H10 x10 s10=>?_)
  rw [e10,cB] at k
  have hn10:=s10.tup x9.rd hn9
  have s10:=s9.trans s10
  refine eV (iE rfl qZ b10 x10 (fun i e11 H' s11=>by rw [e11] at k;exact k H' (s10.trans s11)) fun p11 e11 H11 x11 s11=>?_)
  rw [e11,cB] at k
  have hn11:=s11.tup x10.rd hn10
  have s11:=s10.trans s11
  obtain ⟨⟨dx,h1⟩,_,_⟩:=id x11
  have hD0:=hD1 (by decide)
  refine ⟨_,rfl,_,rfl,_,rfl,_,rfl,_,rfl,_,rfl,_,rfl,_,rfl,_,rfl,r,a,l,p11,W.1,D.1,Hh.1,rfl,x11,hW2,hD2,hH2,hD0,?_⟩
  cases e12:bX l W.1 (D.1 * Hh.1) p11 with
  |error i=>
   intro H' s'
   rw [e12] at k
   exact k H' (s11.trans s')
  |ok q=>
   intro H12 c hr12 le12 s12 hc hcc hrw
   rw [e12,cB] at k
   have hn12:=s12 _ _ hn11 (by rintro rfl;rw [h1] at hn11;cases hn11)
   have s12':=s11.trans s12
   intro b db hb hdb hne
   obtain ⟨dx12,g12⟩:=id hr12
   refine ⟨b,db,qn,c,W.1,D.1,Hh.1,g.1,rfl,aB,fun H13 hpt s13=>⟨rfl,?_⟩⟩
   have up:∀ y o,H12 y=some o->upd (upd H12 db (.own b)) b (.ins CP db []) y=some o:=fun y o e=>by rw [aC (aD e hb),aC (aD e hdb)];exact e
   have up2:∀ y o,H12 y=some o->H13 y=some o:=fun y o e=>s13 y o (up y o e) (aD e hb)
   have sH:SX r H H13:=fun y o e hy=>up2 y o (s12' y o e hy)
   have hb0:H b=none:=by
    cases z:H b with
    |none=>rfl
    |some o=>
     have:=s12' b o z (by rintro rfl;rw [g12] at hb;cases hb)
     rw [hb] at this;cases this
   refine k H13 b (x.same sH ⟨dx12,up2 _ _ g12⟩ le12) sH hb0 ⟨db,qn,c,hpt,up2 _ _ hn12,up2 _ _ hcc⟩ ⟨hW1 (by decide),hW2,hD0,hD2,hH1 (by decide),hH2,hg2,hrw,Gh e12,hn8⟩
end
def cT (l:List Int):Nat->Nat->Except Nat (List aM×Nat)
 |0,p=>.ok ([],p)
 |n+1,p=>if p=l.length then .ok ([],p) else eK (dS l p) fun q=>gF q.1 (cT l n q.2)
def gY (l:List Int):Except Nat (List aM):=eK (dS l 0) fun q=>eK (cT l 63 q.2) fun r=>if r.2=l.length then .ok (q.1::r.1) else .error r.2
theorem eD.keep {CP:Addr} {H H':Hp} {b:Addr} {pr:aM} (h:eD CP H b pr) (k:∀ y o,H y=some o->(y=b\/(∃ xs,o=.tup xs)\/∃ aJ,o=.dT aJ)->H' y=some o):eD CP H' b pr:=by
 obtain ⟨dx,nm,c,h1,h2,h3⟩:=h
 exact ⟨dx,nm,c,k _ _ h1 (.inl rfl),k _ _ h2 (.inr (.inl ⟨_,rfl⟩)),k _ _ h3 (.inr (.inr ⟨_,rfl⟩))⟩
theorem eD.same {CP:Addr} {H H':Hp} {b:Addr} {pr:aM} (h:eD CP H b pr) (s:aL H H'):eD CP H' b pr:=h.keep fun y o e _=>s y o e
theorem eD.sx {CP CR r a:Addr} {p:Nat} {H H':Hp} {b:Addr} {pr:aM} (h:eD CP H b pr) (hb:b≠r) (hr:iF CR H r a p) (s:SX r H H'):eD CP H' b pr:=by
 obtain ⟨dx,g⟩:=hr
 refine h.keep fun y o e z=>s y o e ?_
 rintro rfl
 rw [g] at e
 cases e
 rcases z with z|⟨_,z⟩|⟨_,z⟩
 ·exact hb z.symm
 ·cases z
 ·cases z
theorem eD.list {CP q:Addr} {H:Hp} {b:Addr} {pr:aM} {xs ys:List V} (h:eD CP H b pr) (hq:H q=some (.lst xs)):eD CP (upd H q (.lst ys)) b pr:=by
 have hb:b≠q:=by
  obtain ⟨dx,nm,c,h1,_⟩:=h
  rintro rfl
  rw [h1] at hq
  cases hq
 refine h.keep fun y o e z=>?_
 rw [aC ?_]
 ·exact e
 ·rintro rfl
  rw [hq] at e
  cases e
  rcases z with z|⟨_,z⟩|⟨_,z⟩
  ·exact hb z.symm
  ·cases z
  ·cases z
def dI (CP:Addr) (H:Hp) (bs:List Addr) (prs:List aM):Prop:=Paired (fun b pr=>eD CP H b pr/\rF pr) bs prs
section
variable {P:Program} {w:World} {K:PySem.W.Frag} {mg:Str->Option Value} {base:Heap} {C CR CP:Addr}
def Kt (K:PySem.W.Frag) (CP:Addr):Sp:=fun vs H Q E=>∃ (a:Addr) (l:List Int),vs=[.ref a]/\cW K H a (l.map V.int)/\
 match gY l with
 |.ok prs=>∀ (H':Hp) (q:Addr) (bs:List Addr),aL H H'->H' q=some (.lst (bs.map V.ref))->dI CP H' bs prs->prs.length<=64->1<=prs.length->Q (.ref q) H'
 |.error i=>∀ H':Hp,aL H H'->E (.int i 0) none H'
theorem Gp:aO ["c","reader","parts"] ["c"] (aG pS):=⟨rfl,rfl,rfl,by decide+kernel,rfl,by decide+kernel,by decide+kernel⟩
structure RdK (P:Program) (w:World) (K:PySem.W.Frag) (mg:Str->Option Value) (base:Heap) (CR:Addr):Prop where
 ex:∃ f fd,Mk K CR f/\bV P w K mg base bU 1 f fd ["self","text"] (aA3 CR)/\fF K fd ["self","text"] []
 mg:mg "Reader"=some (.ref CR)
def aBk (CR CP:Addr) (H:Hp) (r a q:Addr) (l:List Int) (p0 m:Nat) (pr0:aM) (σ:List (Option V)) (H':Hp):Prop:=
 ∃ (ps:List aM) (bs:List Addr) (p':Nat),σ=[some (.ref a),some (.ref r),some (.ref q)]/\ps.length+m=63/\p'<=l.length/\aL H H'/\iF CR H' r a p'/\H' q=some (.lst (bs.map V.ref))/\
  Paired (fun b pr=>b≠r/\eD CP H' b pr/\rF pr) bs (pr0::ps)/\cT l 63 p0=fW ps (cT l m p')
theorem Zh {f:Addr} {fd:FuncData} (F:fE K "read_catalogue" "read_catalogue" pS f fd) (T:Gn K CR) (RK:RdK P w K mg base CR) (hlen:mg "len"=none) (c1:CI mg "MOST_PARTS" 64) (M1:nQ P w K mg base CR "ended" bU 1 ["self"] (oM K CR))
  (M2:nQ P w K mg base CR "read_end" (iV C P w) 3 ["self"] (yW K CR)) (L1:dL P w K mg base "read_part" (iV C P w) 7 ["reader"] (Hj K CR CP)):bV P w K mg base (iV C P w) 8 f fd ["c"] (Kt K CP):=by
 obtain ⟨f1,fd1,m1,G1,b1⟩:=M1.ex
 obtain ⟨f2,fd2,m2,G2,b2⟩:=M2.ex
 obtain ⟨g1,gd1,GP,bP,kP,hP⟩:=L1.ex
 obtain ⟨fr,fdr,MR,GR,bR⟩:=RK.ex
 refine F.okX Gp (fun vs H Q E h=>?_) (fun cdv A outer s H vs Q E hr h=>?_)
 ·obtain ⟨a,l,rfl,_⟩:=h
  rfl
 ·obtain ⟨a,l,rfl,tx,k⟩:=h
  have hr3:=hr.mono (j:=3) (by decide)
  have hr2:=hr.mono (j:=2) (by decide)
  have hr1:=hr.mono (j:=1) (by decide)
  refine ⟨_,aF (bI (i:=1) Gp.nd rfl (Or.inl rfl) (nN MR GR hr2 (by rfl) RK.mg bR .nil aX (aA (pv 0) aE)))
   (aF (bI (i:=2) Gp.nd rfl (Or.inl rfl) (eE (aA (aP GP hr (by rfl) hP kP bP .nil aN.pass (aA (pv 1) aE)) aE)))
   (aF (kJ aN.own (gZ (dR (Kv (bQ bW (by rfl) hlen PySem.boot_len (aA (pv 2) aE)) (eM c1))) (iA (lF (eP (cG (pv 1) T.cl m1 G1 hr1 b1 .nil aX))))).pt
    (aH (cH (mV PySem.F.plainAttrs_list PySem.F.slot_list_append PySem.F.type_list_append gJ (pv 2) (aA (aP GP hr (by rfl) hP kP bP .nil aN.pass (aA (pv 1) aE)) aE)))))
   (aF (cH (cG (pv 1) T.cl m2 G2 hr3 b2 .nil aN.pass))
   (aH (aU (pv 2)))))),?_⟩
  refine ⟨_,rfl,fun r dr nr ndr ndrr=>?_⟩
  refine ⟨r,dr,a,rfl,aB,fun H1 hr1 s1=>⟨rfl,?_⟩⟩
  have up:∀ y o,H y=some o->H1 y=some o:=fun y o e=>s1 y o (by rw [aC (aD e nr),aC (aD e ndr)];exact e) (aD e nr)
  have S1:aL H H1:=up
  have x1:jO K CR H1 r a l 0:=⟨hr1,S1.seq tx,Nat.zero_le _⟩
  have sxs:∀ {H2:Hp},SX r H1 H2->aL H H2:=fun s2 y o e=>s2 y o (S1 y o e) (aD e nr)
  unfold gY at k
  refine ⟨_,rfl,r,a,l,0,rfl,x1,?_⟩
  cases e1:dS l 0 with
  |error i=>
   intro H' s'
   rw [e1] at k
   exact k H' (sxs s')
  |ok q0=>
   intro H2 b0 x2 s2 nb0 pa0 po0
   rw [e1,cB] at k
   refine ⟨by show 1<=sizeLine;decide,fun q hq=>?_⟩
   have hb0:b0≠r:=fun z=>by rw [z] at nb0;obtain ⟨dx,g⟩:=hr1;rw [nb0] at g;cases g
   have sq:aL H2 (upd H2 q (.lst [.ref b0])):=fun b o e=>by rw [aC (aD e hq)];exact e
   have hqH:H q=none:=(sxs s2).free hq
   obtain ⟨dx2,g2⟩:=x2.rd
   refine ⟨fun m=>aBk CR CP H r a q l q0.2 m q0.1,⟨63,[],[b0],q0.2,rfl,rfl,x2.le,(sxs s2).trans sq,⟨dx2,sq _ _ g2⟩,aB,.cons ⟨hb0,pa0.same sq,po0⟩ .nil,by rw [jS]⟩,?_⟩
   rintro m σ H3 ⟨ps,bs,p',rfl,hm,lp,S3,hr3,hq3,pp,e3⟩
   have x3:jO K CR H3 r a l p':=⟨hr3,S3.seq tx,lp⟩
   obtain ⟨dx3,g3⟩:=id hr3
   have hbl:bs.length=ps.length+1:=by
    have:=Paired.length pp
    rw [List.length_cons] at this
    exact this
   have nrq:r≠q:=fun z=>by rw [z,hq3] at g3;cases g3
   have fin:cT l m p'=.ok ([],p')->Ei (zI (mF CR "read_end" (yW K CR) [] E (dD 1) gR)) (Zf (dD 2)) {nx:=fun _ H'=>Q .non H',rt:=Q} [some (.ref a),some (.ref r),some (.ref q)] H3:=by
    intro e4
    have e5:cT l 63 q0.2=.ok (ps,p'):=by
     rw [e3,e4]
     show Except.ok (ps++[],p')=_
     rw [List.append_nil]
    rw [e5,cB] at k
    refine ⟨_,rfl,r,dx3,_,rfl,g3,rfl,r,a,l,p',rfl,x3,fun he=>⟨_,rfl,?_⟩,fun he=>?_⟩
    ·have he:p'=l.length:=he
     rw [if_pos he] at k
     refine k H3 q bs S3 hq3 (Paired.mapP pp fun _ _ z=>z.2) ?_ ?_
     ·show (q0.1::ps).length<=64
      rw [List.length_cons]
      (clear he hbl lp;omega)
     ·show 1<=(q0.1::ps).length
      rw [List.length_cons]
      (clear he hbl lp hm;omega)
    ·have he:¬p'=l.length:=he
     rw [if_neg he] at k
     exact k H3 S3
   refine ⟨_,rfl,q,_,rfl,.inl (cW.of hq3),_,_,rfl,rfl,_,rfl,cF (fun hlt=>?_) (fun hlt=>tW (fin ?_))⟩
   ·have hlt:((bs.map V.ref).length:Int)<64:=of_decide_eq_true hlt
    rw [List.length_map] at hlt
    obtain ⟨n,rfl⟩:∃ n,m=n+1:=⟨m - 1,by (clear lp;omega)⟩
    refine ⟨_,rfl,r,dx3,_,rfl,g3,rfl,r,a,l,p',rfl,x3,_,rfl,cF (fun hne=>?_) (fun hne=>fin ?_)⟩
    ·rw [Bool.not_eq_true',decide_eq_false_iff_not] at hne
     refine ⟨aBk CR CP H r a q l q0.2 n q0.1,fun _ _ z=>⟨n,Nat.lt_succ_self n,z⟩,?_⟩
     refine ⟨_,rfl,.inl ⟨rfl,_,cW.of hq3⟩,_,rfl,r,a,l,p',rfl,x3,?_⟩
     have e4:cT l (n+1) p'=eK (dS l p') fun q=>gF q.1 (cT l n q.2):=if_neg hne
     cases e5:dS l p' with
     |error i=>
      intro H' s'
      have e6:cT l 63 q0.2=.error i:=by
       rw [e3,e4,e5]
       rfl
      rw [e6] at k
      exact k H' fun y o e=>s' y o (S3 y o e) (aD e nr)
     |ok q1=>
      intro H4 b4 x4 s4 nb4 pa4 po4
      have hq4:H4 q=some (.lst (bs.map V.ref)):=s4 _ _ hq3 (Ne.symm nrq)
      refine ⟨q,_,_,rfl,rfl,hq4,?_,?_⟩
      ·rw [List.length_map]
       have:=aY
       (clear hne hm hbl lp;omega)
      ·have hb4:b4≠r:=fun z=>by rw [z,g3] at nb4;cases nb4
       obtain ⟨dx4,g4⟩:=x4.rd
       refine ⟨ps++[q1.1],bs++[b4],q1.2,rfl,by simp;(clear hne hlt hbl lp;omega),x4.le,fun y o e=>?_,⟨dx4,by rw [aC nrq];exact g4⟩,by rw [aB,List.map_append];rfl,?_,?_⟩
       ·have e7:=S3 y o e
        have e8:=s4 y o e7 (aD e nr)
        rw [aC (aD e hqH)]
        exact e8
       ·have pp2:Paired (fun b pr=>b≠r/\eD CP (upd H4 q (.lst (bs.map V.ref++[V.ref b4]))) b pr/\rF pr) bs (q0.1::ps):=Paired.mapP pp fun b pr z=>⟨z.1,(z.2.1.sx z.1 hr3 s4).list hq4,z.2.2⟩
        exact Paired.snoc pp2 ⟨hb4,pa4.list hq4,po4⟩
       ·rw [e3,e4,e5,cB,iT]
    ·rw [Bool.not_eq_true',decide_eq_false_iff_not,Classical.not_not] at hne
     exact if_pos hne
   ·have hlt:¬((bs.map V.ref).length:Int)<64:=fun z=>hlt (decide_eq_true z)
    rw [List.length_map] at hlt
    rw [show m=0 by (clear lp;omega)]
    rfl
end
end Br1
namespace L2
open PySem PySem.Spec PyProof.Rows
section
variable {prog:Program} {w:World} {A:Around} {E:Value->Shared->Prop} {s:Shared} {d:Addr} {o:Obj} {es:Array DictEntry} {ep:Nat}
theorem Ah (hs:(d==sysModules)=false):MeetsIn prog w (Builtin.«dict.items» ⟨[.ref d],[]⟩) (fun _ R s=>s.TypeIs (.ref d) "dict"/\
  R (.ok (.ret (.ref s.heap.objs.size))) {s with heap:=s.heap.push {cls:=.type "dict_items",data:=.fields #[.ref d]}}):=
 .of_wp fun A R s ⟨hm,h⟩=>by
  unfold Builtin.«dict.items» Builtin.Dict.noArgs
  refine wpAny_bind (wpAny_bind (wpAny_notOrdered_dict hm ?_))
  show wpAny _ _ (pure d) _ _ s
  refine wpAny_pure ?_
  show wpAny _ _ (Builtin.Dict.showsAll d>>=_) _ _ s
  unfold Builtin.Dict.showsAll
  rw [if_neg (by rw [hs];exact Bool.false_ne_true)]
  exact wpAny_bind (wpAny_pure (wpAny_bind (wpAny_newObj_type (wpAny_pure ⟨_,rfl,h⟩))))
theorem Dc {v:Addr} {n:Nat} {Q:Value->Shared->Prop} (hv:s.heap.IsItemsView v d) (ho:s.heap.get? d=some o) (hdat:o.data=.dict es ep) (hn:es.size=n)
  (hQ:Q (.ref s.heap.objs.size) {s with heap:=s.heap.push {cls:=.type "dict_itemiterator",data:=.fields #[.none,.bool false,.ref d,.int 0 0,.int n 0,.int ep 0,.none,.none]}}):
  wpAny (model prog w) A (pyIter (.ref v)) Q E s:=by
 obtain ⟨ov,hov,hcv,hdv⟩:=id hv
 refine wpAny_pyIter_slot hv.typeIs F.slot_dict_items_iter (wpAny_call_entry F.slot_dict_items_iter hv.typeIs F.entry_dict_items_iter ?_ (F.args_dict_items_iter_1 _))
 unfold Builtin.«dict_items.__iter__»
 refine wpAny_bind (wpAny_pure (wpAny_bind ?_))
 unfold Builtin.Dict_items.dictOf
 refine wpAny_bind (wpAny_field hov hdv (x:=.ref d) rfl (wpAny_pure (wpAny_bind ?_)))
 unfold Builtin.Dict_items.newIterator
 refine wpAny_bind (wpAny_dictEntries ho hdat (wpAny_bind (wpAny_dictEpoch ho hdat ?_)))
 have hown:Builtin.Dict_items.ownsTuple "dict_itemiterator"=true:=by decide
 simp only [hown,if_true]
 refine wpAny_newObj_type (wpAny_pure ⟨_,rfl,"dict_itemiterator",_,⟨_,Heap.get?_push_size _ rfl,rfl⟩,F.slot_dict_itemiterator_next.lookup,?_⟩)
  (by simp only [sizeOk,Builtin.Dict_items.ownedTupleFields,List.size_toArray,List.length_append,List.length_cons,List.length_nil,sizeLine_eq];(clear hn;omega))
 simpa [rawInt,hn,Builtin.Dict_items.ownedTupleFields] using hQ
theorem Rw {it:Addr} {i n:Nat} {en:DictEntry} {ok ov:Value} {Q:Option Value->Shared->Prop} (hit:IsItemIter s.heap it d i n ep ok ov) (hod:s.heap.get? d=some o) (hdd:o.data=.dict es ep) (hsz:es.size=n) (hen:es[i]?=some en)
  (hQ:∀ h',IsItemIterOut h' it d (i+1) n ep en.key en.val s.heap.objs.size->h'.get? s.heap.objs.size=some {cls:=.type "tuple",data:=.seq #[en.key,en.val]}->
   (∀ b ob,b≠it->s.heap.get? b=some ob->h'.get? b=some ob)->Q (some (.ref s.heap.objs.size)) {s with heap:=h'}):
  wpAny (model prog w) A (pyNext (.ref it)) Q E s:=by
 obtain ⟨hp,g,dr,tk,os⟩:=s
 have hT:Shared.TypeIs ⟨hp,g,dr,tk,os⟩ (.ref it) "dict_itemiterator":=⟨_,hit,rfl⟩
 obtain ⟨hlt,hev⟩:=Array.getElem?_eq_some_iff.mp hen
 unfold pyNext
 refine wpAny_bind (wpAny_attempt (wpAny_callSpecial?_slot (name:=Str.ofString "__next__") hT F.slot_dict_itemiterator_next
  (wpAny_call_entry F.slot_dict_itemiterator_next hT F.entry_dict_itemiterator_next ?_ (F.args_dict_itemiterator_next_1 _))))
 refine wpAny_bind (wpAny_pure (wpAny_bind (wpAny_bind ?_)))
 first|refine wpAny_bind (wpAny_typeNameOfWhole_itemiter hT (wpAny_pure ?_))|refine wpAny_bind (wpAny_typeNameOf_itemiter hT (wpAny_pure ?_))
 refine wpAny_bind (wpAny_fieldsOf hit rfl ?_)
 have hown:Builtin.Dict_items.ownsTuple "dict_itemiterator"=true:=by decide
 simp only [hown,if_true]
 show wpAny _ _ (if (Value.ref d==Value.none)=true then _ else _) _ _ _
 rw [if_neg (show ¬((Value.ref d==Value.none)=true) from Bool.false_ne_true)]
 refine wpAny_bind (wpAny_pure (wpAny_bind (wpAny_dictEntries hod hdd ?_)))
 rw [if_neg (by rw [hsz];simp)]
 refine wpAny_bind (wpAny_pure (wpAny_bind (wpAny_dictEpoch hod hdd ?_)))
 rw [if_neg (by simp)]
 refine wpAny_pure ?_
 simp only [show ¬((i:Int)<0) from by (clear hsz;omega),if_false,Int.toNat_natCast,hen]
 refine wpAny_bind ?_
 first|refine wpAny_bind (wpAny_typeNameOfWhole_itemiter hT (wpAny_pure ?_))|refine wpAny_bind (wpAny_typeNameOf_itemiter hT (wpAny_pure ?_))
 refine wpAny_bind (wpAny_isOneOf_itemiter hT ?_)
 show wpAny _ _ (setField (.ref it) 3 (rawInt ((i:Int)+1))>>=_) _ _ ⟨hp,g,dr,tk,os⟩
 refine wpAny_bind (wpAny_setField_rec hit (by simp) fun h1 he1 hs1=>?_)
 replace hs1:Heap.SameBut it hp h1:=hs1
 replace he1:IsItemIter h1 it d (i+1) n ep ok ov:=by
  have e:((i+1:Nat):Int)=(i:Int)+1:=by (clear hsz;omega)
  unfold IsItemIter;rw [e];simpa [rawInt] using he1
 have hT1:Shared.TypeIs ⟨h1,g,dr,tk,os⟩ (.ref it) "dict_itemiterator":=⟨_,he1,rfl⟩
 refine wpAny_bind (wpAny_holding (wpAny_bind (wpAny_isOneOf_itemiter hT1 (wpAny_bind (wpAny_isOneOf_itemiter hT1 ?_)))))
 show wpAny _ _ (Builtin.Dict_items.pairFromOwner (.ref it) 6 en.key en.val) _ _ ⟨h1,g,dr,tk,os⟩
 unfold Builtin.Dict_items.pairFromOwner
 refine wpAny_bind (wpAny_newTuple ?_)
 have he2:IsItemIter (h1.push {cls:=.type "tuple",data:=.seq #[en.key,en.val]}) it d (i+1) n ep ok ov:=Heap.get?_push_of_some _ he1
 generalize hh2:h1.push {cls:=.type "tuple",data:=.seq #[en.key,en.val]}=h2 at he2
 have hz1:h1.objs.size=hp.objs.size:=hs1.1
 have hil:it<hp.objs.size:=Heap.lt_size hit
 have ht2:h2.get? hp.objs.size=some {cls:=.type "tuple",data:=.seq #[en.key,en.val]}:=by rw [<-hh2,<-hz1];exact Heap.get?_push_size _ rfl
 have hk2:∀ b ob,b≠it->hp.get? b=some ob->h2.get? b=some ob:=fun b ob hb e=>by rw [<-hh2];exact Heap.get?_push_of_some _ (hs1.extBut b ob hb e)
 show wpAny _ _ (Builtin.Dict_items.ownedTupleIsFree (.ref it)>>=_) _ _ ⟨h2,g,dr,tk,os⟩
 rw [hz1]
 clear hh2 he1 hs1 hT1 hz1 h1
 refine wpAny_bind ?_
 unfold Builtin.Dict_items.ownedTupleIsFree
 refine wpAny_bind (wpAny_field he2 rfl (x:=.none) rfl (wpAny_pure ?_))
 simp only [if_true]
 refine wpAny_bind (wpAny_field he2 rfl (x:=ok) rfl (wpAny_bind (wpAny_field he2 rfl (x:=ov) rfl ?_)))
 refine wpAny_bind (wpAny_setField_rec he2 (by simp) fun h3 he3 hs3=>?_)
 replace hs3:Heap.SameBut it h2 h3:=hs3
 replace he3:IsItemIter h3 it d (i+1) n ep en.key ov:=he3
 refine wpAny_bind (wpAny_setField_rec he3 (by simp) fun h4 he4 hs4=>?_)
 replace hs4:Heap.SameBut it h3 h4:=hs4
 replace he4:IsItemIter h4 it d (i+1) n ep en.key en.val:=he4
 refine wpAny_bind (wpAny_setField_rec he4 (by simp) fun h5 he5 hs5=>?_)
 replace hs5:Heap.SameBut it h4 h5:=hs5
 replace he5:IsItemIterOut h5 it d (i+1) n ep en.key en.val hp.objs.size:=he5
 refine wpAny_bind (wpAny_setField_rec he5 (by simp) fun h6 he6 hs6=>?_)
 replace hs6:Heap.SameBut it h5 h6:=hs6
 replace he6:IsItemIterOut h6 it d (i+1) n ep en.key en.val hp.objs.size:=he6
 have keep:∀ b ob,b≠it->h2.get? b=some ob->h6.get? b=some ob:=fun b ob hb e=>hs6.extBut b ob hb (hs5.extBut b ob hb (hs4.extBut b ob hb (hs3.extBut b ob hb e)))
 exact wpAny_bind (wpAny_letGo (wpAny_pure (wpAny_pure ⟨_,rfl,wpAny_pure (hQ h6 he6 (keep _ _ (Nat.ne_of_gt hil) ht2) fun b ob hb e=>keep b ob hb (hk2 b ob hb e))⟩)))
theorem Ur {it:Addr} {i n:Nat} {ok ov:Value} {Q:Option Value->Shared->Prop} (hh:A.handled=none) (hit:IsItemIter s.heap it d i n ep ok ov) (hod:s.heap.get? d=some o) (hdd:o.data=.dict es ep) (hsz:es.size=n) (hge:n<=i)
  (hQ:∀ h',Heap.ExtBut it s.heap h'->Q none {s with heap:=h'}):wpAny (model prog w) A (pyNext (.ref it)) Q E s:=by
 have hT:s.TypeIs (.ref it) "dict_itemiterator":=⟨_,hit,rfl⟩
 unfold pyNext
 refine wpAny_bind (wpAny_attempt (wpAny_callSpecial?_slot (name:=Str.ofString "__next__") hT F.slot_dict_itemiterator_next
  (wpAny_call_entry F.slot_dict_itemiterator_next hT F.entry_dict_itemiterator_next ?_ (F.args_dict_itemiterator_next_1 _))))
 refine wpAny_bind (wpAny_pure (wpAny_bind (wpAny_bind ?_)))
 first|refine wpAny_bind (wpAny_typeNameOfWhole_itemiter hT (wpAny_pure ?_))|refine wpAny_bind (wpAny_typeNameOf_itemiter hT (wpAny_pure ?_))
 refine wpAny_bind (wpAny_fieldsOf hit rfl ?_)
 have hown:Builtin.Dict_items.ownsTuple "dict_itemiterator"=true:=by decide
 simp only [hown,if_true]
 show wpAny _ _ (if (Value.ref d==Value.none)=true then _ else _) _ _ s
 rw [if_neg (show ¬((Value.ref d==Value.none)=true) from Bool.false_ne_true)]
 refine wpAny_bind (wpAny_pure (wpAny_bind (wpAny_dictEntries hod hdd ?_)))
 rw [if_neg (by rw [hsz];simp)]
 refine wpAny_bind (wpAny_pure (wpAny_bind (wpAny_dictEpoch hod hdd ?_)))
 rw [if_neg (by simp)]
 refine wpAny_pure ?_
 have hno:es.size<=i:=by rw [hsz];exact hge
 simp only [show ¬((i:Int)<0) from by (clear hno hge hsz;omega),if_false,Int.toNat_natCast,Array.getElem?_eq_none hno]
 refine wpAny_bind ?_
 first|refine wpAny_bind (wpAny_typeNameOfWhole_itemiter hT (wpAny_pure ?_))|refine wpAny_bind (wpAny_typeNameOf_itemiter hT (wpAny_pure ?_))
 show wpAny _ _ (setField (.ref it) 2 .none>>=_) _ _ s
 refine wpAny_bind (wpAny_setField hit rfl (by simp) ?_)
 show wpAny _ _ (newExc (.type "StopIteration") []>>=_) _ _ _
 refine wpAny_bind ?_
 simp only [newExc,newTuple]
 refine wpAny_bind (wpAny_newObj_type ?_ (by size_fits))
 refine wpAny_bind (m:=firstArgMember _ _) (wpAny_of_eq (a:=Value.none) (by first|rfl|(simp only [firstArgMember];rfl)) ?_)
 refine wpAny_newObj_type ?_ (by size_fits)
 simp only [raiseNew]
 refine wpAny_bind (wpAny_handled ?_)
 rw [show A.in1.handled=none from hh]
 refine wpAny_bind (wpAny_pure (wpAny_throw ?_))
 refine wpAny_bind (wpAny_isInstance (T:="StopIteration") (b:=true) ⟨_,Heap.get?_push_size _ rfl,rfl⟩ isSubtype_stop ?_)
 exact wpAny_pure (hQ _ (((Heap.SameBut.update ..).extBut.push _).push _))
end
section
variable {X:Cx} {pins:List (Addr×Obj)} {σ:St} {H:Hp} {s:Shared} {d:Addr} {o:Obj}
theorem aQ.frzT2 {aJ:List (List eF×V)} (I:aQ X pins σ H s) (h:H d=some (.frz o (.dT aJ))):
  (d==sysModules)=false/\s.heap.get? d=some o/\o.ExactDict/\∃ (es:Array DictEntry) (ep:Nat),o.data=.dict es ep/\es.size=aJ.length/\
   ∀ (i:Nat) (k:List eF) (v:V),aJ[i]?=some (k,v)->∃ (en:DictEntry) (q:Addr),es[i]?=some en/\en.key=.ref q/\H q=some (.tup (k.map kV))/\cD v en.val:=by
 obtain ⟨hd,z,hs,xs,pr,o',es,ep,ho,hx,hdt,he,_⟩:=I.hok d _ h
 rw [hd] at ho
 cases ho
 refine ⟨hs,hd,hx,es,ep,hdt,?_,fun i k v e=>?_⟩
 ·have l1:es.size=xs.length:=size_of_entries he
  have l2:aJ.length=xs.length:=Paired.length pr
  (clear z;omega)
 ·obtain ⟨b,hb,e1,e2,e3⟩:=oX pr e
  have q:=entry_at he i
  rw [hb] at q
  exact ⟨_,b.2.1,q,rfl,e2,e3⟩
end
def Gw (d:Addr) (o:Obj) (aJ:List (List eF×V)):It:=
 ⟨fun i H=>H d=some (.frz o (.dT aJ))/\i<aJ.length,fun i H x H'=>∃ T k v q,aJ[i]?=some (k,v)/\x=.ref T/\H T=none/\H q=some (.tup (k.map kV))/\H'=upd H T (.tup [.ref q,v]),fun i H=>H d=some (.frz o (.dT aJ))/\aJ.length<=i⟩
theorem tE {P:Program} {w:World} {K:PySem.W.Frag} {d:Addr} {o:Obj} {es:Array DictEntry} {ep:Nat} {aJ:List (List eF×V)} {elts:List Expr} {kk:Nat} {tpos:Pos} (it:Addr) (hod:o.data=.dict es ep):
  xX P w K (.Tuple elts kk tpos) (Gw d o aJ) [it] it (fun i h=>∃ ok ov,IsItemIter h it d i aJ.length ep ok ov) where
 mem:=by simp
 obj:=fun i h st b hb=>by
  have e:b=it:=by simpa using hb
  subst e
  obtain ⟨ok,ov,e⟩:=st
  exact ⟨_,e,fun v z=>nomatch z⟩
 keep:=fun i h h' st k=>let ⟨ok,ov,e⟩:=st;⟨ok,ov,k it (by simp) _ e⟩
 item:=by
  intro X hP hw hK hc i pins s σ H E I hf st hg
  subst hP hw hK
  obtain ⟨hd,hi⟩:=hg
  obtain ⟨hs,hgd,hx,es',ep',hdt,hsz,ent⟩:=I.frzT2 hd
  obtain ⟨rfl,rfl⟩:=oA hod hdt
  obtain ⟨⟨k,v⟩,hkv⟩:∃ p,aJ[i]?=some p:=⟨aJ[i],List.getElem?_eq_getElem hi⟩
  obtain ⟨en,q,hen,hkey,hq,ru⟩:=ent i k v hkv
  obtain ⟨ok,ov,he⟩:=st
  have hlt:it<s.heap.objs.size:=Heap.lt_size he
  refine Rw he hgd hdt hsz hen fun h' ho hT hk=>?_
  refine ⟨_,rfl,wpAny_letOwnedTupleGo_items (s:={s with heap:=h'}) ho fun h'' he' sb=>?_⟩
  have hT2:h''.get? s.heap.objs.size=some {cls:=.type "tuple",data:=.seq #[en.key,en.val]}:=(sb.2 _ (Nat.ne_of_gt hlt)).trans hT
  have new:cK X.prog X.w (upd H s.heap.objs.size (.tup [.ref q,v])) h'' s.heap.objs.size (.tup [.ref q,v]):=
   ⟨by show 2<=sizeLine;decide,[en.key,en.val],.cons hkey (.cons ru .nil),⟨_,hT2,rfl,_,rfl⟩⟩
  have I1:aQ X pins σ (upd H s.heap.objs.size (.tup [.ref q,v])) {s with heap:=h''}:=
   I.turnedNew (t':=s.toks) (ch:=[it]) (fun b ob hb e=>(sb.2 b (by simpa using hb)).trans (hk b ob (by simpa using hb) e)) hf (Nat.le_refl _) new
  refine ⟨.ref s.heap.objs.size,_,I1,rfl,⟨_,k,v,q,hkv,rfl,I.hok.fresh (Nat.le_refl _),hq,rfl⟩,⟨en.key,en.val,he'⟩,fun b hb=>?_⟩
  have e:b=it:=by simpa using hb
  rw [e,aC (Nat.ne_of_lt hlt)]
  exact (hf it (by simp)).1
 done:=by
  intro X hP hw hK hc i pins s σ H E I hf st hg
  subst hP hw hK
  obtain ⟨hd,hi⟩:=hg
  obtain ⟨f0,f1,f2,f3,f4,f5⟩:=hf it (by simp)
  obtain ⟨hs,hgd,hx,es',ep',hdt,hsz,ent⟩:=I.frzT2 hd
  obtain ⟨rfl,rfl⟩:=oA hod hdt
  obtain ⟨ok,ov,he⟩:=st
  exact Ur (I.ok.hd hc) he hgd hdt hsz hi fun h' eb=>⟨rfl,I.turned (t':=s.toks) (fun b ob hb e=>eb b ob hb e) f0 f1 f3 f4 f5⟩
 self:=fun A i s Q E st h=>let ⟨_,_,e⟩:=st;PySem.W.kcp_self e h
def Vu (td:TE):TI:=fun σ H R=>td σ H fun x H1=>∃ d o aJ,x=.ref d/\H1 d=some (.frz o (.dT aJ))/\R (Gw d o aJ) H1
theorem jZ {X:Cx} {e:Expr} {td:TE} {apos cpos:Pos} {elts:List Expr} {kk:Nat} {tpos:Pos} (he:PE X e td) (hbase:attributeBase e "items" X.env (eval e X.env)=eval e X.env:=by rfl) (hline:(apos.endLine==cpos.line)=true:=by rfl):
  PI X (.Tuple elts kk tpos) (.Call (.Attribute e "items" apos) [] [] cpos) (Vu td):=by
 intro pins s σ H R I h
 refine wpAny_Call_method (T:="dict") (id:="dict.items") hbase rfl hline F.plainAttrs_dict F.slot_dict_items F.type_dict_items (cV (he pins s σ H _ I h) fun u s1 ⟨x,H1,I1,rx,d,o,aJ,ex,hd,q⟩=>?_)
 subst ex
 obtain rfl:u=Value.ref d:=rx
 obtain ⟨hs,hgd,hx,es,ep,hdt,hsz,ent⟩:=I1.frzT2 hd
 have hty:s1.TypeIs (.ref d) "dict":=⟨o,hgd,hx.1⟩
 refine ⟨hty,fun b q=>by cases q;exact ⟨o,hgd,hx.2.1⟩,?_⟩
 have I2:aQ X pins σ H1 {s1 with heap:=s1.heap.push {cls:=.type "dict_items",data:=.fields #[.ref d]}}:=I1.kept (t':=s1.toks) fun b ob q=>Heap.get?_push_of_some _ q
 have fin:wpAny (model X.prog X.w) X.A (pyIter (.ref s1.heap.objs.size)) (PIE X pins σ (.Tuple elts kk tpos) R) X.xe {s1 with heap:=s1.heap.push {cls:=.type "dict_items",data:=.fields #[.ref d]}}:=
  Dc (d:=d) (n:=aJ.length) ⟨_,Heap.get?_push_size _ rfl,rfl,rfl⟩ (Heap.get?_push_of_some _ hgd) hdt hsz (rK (tk:=s1.toks) I2 _ (tE _ hdt) ⟨.none,.none,Heap.get?_push_size _ rfl⟩ q)
 show wpAny _ _ (callWith cpos (.builtin "dict.items") [.ref d] [] []) _ X.xe s1
 exact method_meetsIn F.slot_dict_items F.entry_dict_items rfl (PySem.evalArgs_none ⟨rfl,hty,F.args_dict_items_1 _,_,Ah hs,hty,fin⟩)
section
variable {prog:Program} {w:World} {A:Around} {E:Value->Shared->Prop} {s:Shared} {d:Addr} {o:Obj} {es:Array DictEntry} {ep:Nat}
theorem yB (hd:(d==sysModules)=false):MeetsIn prog w (Builtin.«dict.__len__» ⟨[.ref d],[]⟩) (fun _ R s=>∃ o es ep,s.heap.get? d=some o/\o.data=.dict es ep/\R (.ok (.ret (.int es.size s.toks))) {s with toks:=s.toks+1}):=
 .of_wp fun A R s ⟨o,es,ep,ho,hdat,h⟩=>by
  show wpAny _ _ (dictSize d>>=_) _ _ s
  unfold dictSize
  refine wpAny_bind (wpAny_bind (wpAny_dictEntries ho hdat (wpAny_pure ?_)))
  show wpAny _ _ (Builtin.Dict.pendingCount d>>=_) _ _ s
  refine wpAny_bind (wpAny_pendingCount_other hd (wpAny_ret_mkInt ?_))
  rw [Nat.add_zero]
  exact h
theorem Ve {Q:Value->Shared->Prop} (hd:(d==sysModules)=false) (ho:s.heap.get? d=some o) (hx:o.ExactDict) (hdat:o.data=.dict es ep) (hfit:(es.size:Int)<2 ^ 63)
  (h:Q (.int es.size (s.toks+1)) {s with toks:=s.toks+1+1}):wpAny (model prog w) A (call (.builtin "len") [.ref d]) Q E s:=by
 have hT:s.TypeIs (.ref d) "dict":=⟨o,ho,hx.1⟩
 refine Calls.call_function_entry kind_len plain_len entry_len (args_len1 _) ?_
 unfold Builtin.«len»
 refine wpAny_bind (m:=oneArg "len" _) (wpAny_pure ?_)
 refine wpAny_bind (m:=callSpecial? (.ref d) (Str.ofString "__len__")) (wpAny_callSpecial?_slot (name:=Str.ofString "__len__") hT F.slot_dict_len
  (call_meetsIn F.slot_dict_len hT F.entry_dict_len (F.args_dict_len_1 _) (yB hd) ⟨o,es,ep,ho,hdat,?_⟩))
 show wpAny _ _ _ _ _ {s with toks:=s.toks+1}
 refine wpAny_bind (wpAny_holding (wpAny_pure (wpAny_bind (wpAny_letGo ?_))))
 show wpAny _ _ (if ((es.size:Nat):Int)<0 then _ else _) _ _ _
 rw [if_neg (by (clear hfit;omega))]
 show wpAny _ _ (if ((es.size:Nat):Int)≥2 ^ 63 then _ else _) _ _ _
 rw [if_neg (by omega)]
 exact wpAny_bind (wpAny_mkInt (wpAny_pure ⟨_,rfl,h⟩))
theorem Oy (hh:A.handled=none) (I:Addr) (hne:d≠I) (hdat:o.data=.dict es ep):Walks prog w A I [I,d] [I] es.size (fun i v=>∃ en,es[i]?=some en/\v=en.key) (fun i h=>h.IsKeyIter I d i es.size ep/\h.get? d=some o) where
 sub:=fun b hb=>by simp at hb;simp [hb]
 frame:=fun _ _ _ st hk=>⟨st.1.at fun o e=>hk I (by simp) o e,hk d (by simp) o st.2⟩
 item:=fun i s Q E hi st hQ=>by
  refine oW (en:=es[i]) st.1 st.2 hdat rfl (by simp [hi]) fun h' hit' hs'=>?_
  exact hQ _ h' s.toks ⟨_,by simp [hi],rfl⟩ ⟨hit',hs'.extBut d o hne st.2⟩ fun b o hb e=>hs'.extBut b o (fun h=>hb (by simp [h])) e
 done:=fun s Q E st hQ=>kU hh st.1 st.2 hdat rfl (Nat.le_refl _) fun h' he'=>hQ h' s.toks fun b o hb e=>he' b o (fun h=>hb (by simp [h])) e
 self:=fun _ _ _ _ st hQ=>wpAny_pyIter_keyiter st.1 hQ
theorem Wl (lo:(d==sysModules)=false) (hx:o.ExactDict) (hdat:o.data=.dict es ep):PySem.W.KdlSrc prog w "dict" d d es.size (fun i v=>∃ en,es[i]?=some en/\v=en.key) (fun h=>h.get? d=some o) where
 type:=fun _ hm=>⟨o,hm,hx.1⟩
 there:=fun _ hm=>⟨Heap.lt_size hm,Heap.lt_size hm⟩
 keep:=fun _ _ hm hk=>hk d (.inl rfl) o hm
 notList:=by decide
 notTuple:=by decide
 hint:=fun _ _ _ _ hm hq=>PySem.W.kdl_hint_dict ⟨o,hm,hx.1⟩ hq
 iter:=fun _ _ hh hm=>⟨_,_,(fun _ _ hq=>rZ lo hm hx hdat hq),Oy hh _ (Nat.ne_of_lt (Heap.lt_size hm)) hdat,⟨⟨_,Heap.get?_push_size _ rfl,rfl,rfl⟩,Heap.get?_push_of_some _ hm⟩⟩
end
section
variable {X:Cx} {pins:List (Addr×Obj)} {σ:St} {H:Hp} {s:Shared} {d:Addr} {o:Obj}
theorem aQ.rawT {aJ:List (List eF×V)} (I:aQ X pins σ H s) (h:Rd H d (.dT aJ)):
  (d==sysModules)=false/\aJ.length<=sizeLine/\∃ (o:Obj) (es:Array DictEntry) (ep:Nat),s.heap.get? d=some o/\o.ExactDict/\o.data=.dict es ep/\es.size=aJ.length/\
   ∀ (i:Nat) (k:List eF) (v:V),aJ[i]?=some (k,v)->∃ (en:DictEntry) (q:Addr),es[i]?=some en/\en.key=.ref q/\H q=some (.tup (k.map kV)):=by
 obtain ⟨z,hs,xs,pr,o,es,ep,ho,hx,hdt,he,_⟩:=Rk I.hok h
 refine ⟨hs,z,o,es,ep,ho,hx,hdt,?_,fun i k v e=>?_⟩
 ·have l1:es.size=xs.length:=size_of_entries he
  have l2:aJ.length=xs.length:=Paired.length pr
  (clear z;omega)
 ·obtain ⟨b,hb,e1,e2,e3⟩:=oX pr e
  have q:=entry_at he i
  rw [hb] at q
  exact ⟨_,b.2.1,q,rfl,e2⟩
theorem sC:mK X (.builtin "len") (fun xs H Q=>∃ a aJ,xs=[V.ref a]/\Rd H a (.dT aJ)/\Q (.int aJ.length) H):=by
 intro pins s σ H xs us Q I r h
 obtain ⟨a,aJ,rfl,ha,q⟩:=h
 obtain ⟨u,rfl,ru⟩:=xO r
 cases ru
 obtain ⟨hs,z,o,es,ep,ho,hx,hdt,hsz,_⟩:=I.rawT ha
 refine Ve hs ho hx hdt (by rw [hsz];rw [sizeLine_eq] at z;(clear hsz;omega)) ⟨.int es.size,H,I.tok _,⟨_,rfl⟩,?_⟩
 rw [hsz]
 exact q
theorem Hx (hc:X.calm=true):mK X (.type "list") (fun xs H Q=>∃ a aJ,xs=[V.ref a]/\Rd H a (.dT aJ)/\
  ∀ l ps,H l=none->Paired (fun (p:Addr) (kv:List eF×V)=>H p=some (.tup (kv.1.map kV))) ps aJ->Q (.ref l) (upd H l (.lst (ps.map V.ref)))):=by
 intro pins s σ H xs us Q I r h
 obtain ⟨a,aJ,rfl,ha,q⟩:=h
 obtain ⟨u,rfl,ru⟩:=xO r
 cases ru
 obtain ⟨hs,z,o,es,ep,ho,hx,hdt,hsz,ent⟩:=I.rawT ha
 refine PySem.W.kdl_call (Wl hs hx hdt) (I.ok.hd hc) ho (by rw [hsz];exact z) fun h' tk acc' c' hk hl hacc=>?_
 obtain ⟨hn,hp⟩:=hacc
 have key:∀ (aJ:List (List eF×V)) (vs:List Value),vs.length=aJ.length->(∀ (i:Nat) (k:List eF) (v:V),aJ[i]?=some (k,v)->∃ q:Addr,vs[i]?=some (Value.ref q)/\H q=some (.tup (k.map kV)))->
   ∃ ps:List Addr,vs=ps.map Value.ref/\Paired (fun (p:Addr) (kv:List eF×V)=>H p=some (.tup (kv.1.map kV))) ps aJ:=by
  intro aJ
  induction aJ with
  |nil=>
   intro vs hl _
   cases vs with
   |nil=>exact ⟨[],rfl,.nil⟩
   |cons _ _=>cases hl
  |cons kv r ih=>
   intro vs hl hh
   cases vs with
   |nil=>cases hl
   |cons v vr=>
    obtain ⟨q,e1,e2⟩:=hh 0 kv.1 kv.2 rfl
    cases e1
    obtain ⟨ps,e3,e4⟩:=ih vr (by simpa using hl) fun i k v e=>hh (i+1) k v e
    exact ⟨q::ps,by rw [e3];rfl,.cons e2 e4⟩
 obtain ⟨ps,e1,e2⟩:=key aJ acc'.toList (by rw [Array.length_toList,hn,hsz]) fun i k v e=>by
  obtain ⟨en,q,g1,g2,g3⟩:=ent i k v e
  have hi:i<aJ.length:=(List.getElem?_eq_some_iff.mp e).1
  have hi2:i<acc'.size:=by rw [hn,hsz];exact hi
  obtain ⟨en',g4,g5⟩:=hp i acc'[i] (by simp [hi2])
  rw [g1] at g4
  cases g4
  refine ⟨q,?_,g3⟩
  rw [Array.getElem?_toList]
  simp [hi2,g5,g2]
 have fr:H s.heap.objs.size=none:=I.hok.fresh (Nat.le_refl _)
 have rv:bS (ps.map V.ref) acc'.toList:=by
  rw [e1]
  clear e1 e2 hp hn hl
  induction ps with
  |nil=>exact .nil
  |cons p r ih=>exact .cons rfl ih
 refine ⟨.ref s.heap.objs.size,_,I.laid (o:=.lst (ps.map V.ref)) hk (Nat.le_refl _) ⟨?_,acc'.toList,c',rv,by simpa using hl⟩,rfl,q _ ps fr e2⟩
 rw [List.length_map,Paired.length e2]
 exact z
end
open AutoSeq1 (wpAny_loadPart')
section
variable {prog:Program} {w:World} {A:Around} {E:Value->Shared->Prop} {s:Shared}
theorem vY (l:Addr) (items:Array Value) (n:Nat) (dct:Option Addr) (sl:Array (Option Value)):
  Meets (Builtin.«enumerate.__new__» ⟨[.type "enumerate",.ref l],[]⟩) (fun _ R s=>s.heap.get? l=some {cls:=.type "tuple",dict:=dct,data:=.seq items n,slots:=sl}/\
   R (.ok (.ret (.ref (s.heap.push {cls:=.type "tuple_iterator",data:=.fields #[.ref l,.int 0 0]}).objs.size)))
    {s with heap:=(s.heap.push {cls:=.type "tuple_iterator",data:=.fields #[.ref l,.int 0 0]}).push {cls:=.type "enumerate",data:=.fields #[.none,.bool false,.ref s.heap.objs.size,rawInt 0,.none,.none]}}):=
 .of_wp fun prog w A R s h=>by
  obtain ⟨hp,g,d,tk,os⟩:=s;obtain ⟨hl,h⟩:=h
  have hsub:=sub_enumerate
  have hL:Heap.IsTuple (Shared.heap ⟨hp,g,d,tk,os⟩) l items:=⟨_,hl,rfl,n,rfl⟩
  wp_walk using wpAny_loadPart' hl
  refine wpAny_stack_any fun st=>wpAny_pure ?_
  split
  ·rename_i c _ _ _ _ _
   cases (c==Value.type "enumerate")
   ·wp_walk using wpAny_loadPart' hl,wpAny_pyIter_tuple hL
    exact ⟨_,rfl,h⟩
   ·wp_walk using wpAny_loadPart' hl,wpAny_pyIter_tuple hL
    exact ⟨_,rfl,h⟩
  ·wp_walk using wpAny_loadPart' hl,wpAny_pyIter_tuple hL
   exact ⟨_,rfl,h⟩
theorem yH {l:Addr} {items:Array Value} {Q:Value->Shared->Prop} (hL:IsTup s.heap l items)
  (h:∀ h',IsEnum h' (s.heap.objs.size+1) s.heap.objs.size 0 .none->h'.IsTupleIter s.heap.objs.size l 0->h'.objs.size=s.heap.objs.size+2->
   (∀ b o,s.heap.get? b=some o->h'.get? b=some o)->Q (.ref (s.heap.objs.size+1)) {s with heap:=h'}):
  wpAny (model prog w) A (call (.type "enumerate") [.ref l]) Q E s:=by
 obtain ⟨⟨c,dct,dt,sl⟩,hl,hc,n,hd⟩:=hL
 replace hc:c=.type "tuple":=hc
 replace hd:dt=.seq items n:=hd
 subst hc hd
 refine callType_new F.called_enumerate (by decide) (F.typeCall_enumerate_1 _) (F.newCall_enumerate_1 _) (fun obj=>F.args_object_init_2 obj _) F.entry_enumerate_new
  (vY l items n dct sl) ⟨hl,?_⟩
 have hz:(s.heap.push {cls:=.type "tuple_iterator",data:=.fields #[.ref l,.int 0 0]}).objs.size=s.heap.objs.size+1:=Heap.size_push ..
 show _/\_
 rw [hz]
 have he:IsEnum ((s.heap.push {cls:=.type "tuple_iterator",data:=.fields #[.ref l,.int 0 0]}).push
   {cls:=.type "enumerate",data:=.fields #[.none,.bool false,.ref s.heap.objs.size,rawInt 0,.none,.none]}) (s.heap.objs.size+1) s.heap.objs.size 0 .none:=by
  have:=Heap.get?_push_size (s.heap.push {cls:=.type "tuple_iterator",data:=.fields #[.ref l,.int 0 0]})
   (o:={cls:=.type "enumerate",data:=.fields #[.none,.bool false,.ref s.heap.objs.size,rawInt 0,.none,.none]}) rfl
  rw [hz] at this;exact this
 refine ⟨⟨_,he,rfl⟩,h _ he ⟨_,Heap.get?_push_of_some _ (Heap.get?_push_size _ rfl),rfl,rfl⟩ (by rw [Heap.size_push,hz]) fun b o x=>Heap.get?_push_of_some _ (Heap.get?_push_of_some _ x)⟩
theorem yE {it l:Addr} {i:Nat} {items} {x:Value} {Q:Value->Shared->Prop} (hit:s.heap.IsTupleIter it l i)
  (hl:IsTup s.heap l items) (hx:items[i]?=some x)
  (hQ:∀ h',h'.IsTupleIter it l (i+1)->Heap.SameBut it s.heap h'->Q x {s with heap:=h'}):
  wpAny (model prog w) A (Builtin.SmallTypes.nextOf (.ref it)) Q E s:=by
 obtain ⟨o,ho,hc,hd⟩:=id hit
 obtain ⟨ol,hol,_,nl,hdl⟩:=hl
 unfold Builtin.SmallTypes.nextOf
 refine wpAny_bind (wpAny_callSpecial?_slot (name:=Str.ofString "__next__") hit.typeIs F.slot_tuple_iterator_next
  (wpAny_call_entry F.slot_tuple_iterator_next hit.typeIs F.entry_tuple_iterator_next ?_ (F.args_tuple_iterator_next_1 _)))
 show wpAny _ _ (field (.ref it) 0>>=_) _ _ s
 refine wpAny_bind (wpAny_field ho hd (x:=.ref l) rfl ?_)
 show wpAny _ _ (if (Value.ref l==Value.none)=true then _ else _) _ _ s
 rw [if_neg (show ¬((Value.ref l==Value.none)=true) from Bool.false_ne_true)]
 show wpAny _ _ (field (.ref it) 1>>=_) _ _ s
 refine wpAny_bind (wpAny_field ho hd (x:=.int i 0) rfl ?_)
 show wpAny _ _ (seqItems? (.ref l)>>=_) _ _ s
 refine wpAny_bind (wpAny_seqItems hol hdl ?_)
 simp only [Int.toNat_natCast,hx]
 refine wpAny_bind (wpAny_setField ho hd (by simp) (wpAny_pure ⟨x,rfl,wpAny_pure (hQ _ ?_ (Heap.SameBut.update ..))⟩))
 exact ⟨_,Heap.get?_update_self _ ho (Obj.isFreed_of_fields (Obj.data_mapFields hd _)),(Obj.cls_mapFields ..).trans hc,by
  rw [Obj.data_mapFields hd];simp [rawInt]⟩
theorem Cj {it l:Addr} {i:Nat} {items} {Q:Value->Shared->Prop} (hh:A.handled=none)
  (hit:s.heap.IsTupleIter it l i) (hl:IsTup s.heap l items) (hx:items[i]?=none)
  (hE:∀ h' e,Heap.ExtBut it s.heap h'->(∃ o,h'.get? e=some o/\o.cls=.type "StopIteration")->E (.ref e) {s with heap:=h'}):
  wpAny (model prog w) A (Builtin.SmallTypes.nextOf (.ref it)) Q E s:=by
 obtain ⟨o,ho,hc,hd⟩:=id hit
 obtain ⟨ol,hol,_,nl,hdl⟩:=hl
 unfold Builtin.SmallTypes.nextOf
 refine wpAny_bind (wpAny_callSpecial?_slot (name:=Str.ofString "__next__") hit.typeIs F.slot_tuple_iterator_next
  (wpAny_call_entry F.slot_tuple_iterator_next hit.typeIs F.entry_tuple_iterator_next ?_ (F.args_tuple_iterator_next_1 _)))
 show wpAny _ _ (field (.ref it) 0>>=_) _ _ s
 refine wpAny_bind (wpAny_field ho hd (x:=.ref l) rfl ?_)
 show wpAny _ _ (if (Value.ref l==Value.none)=true then _ else _) _ _ s
 rw [if_neg (show ¬((Value.ref l==Value.none)=true) from Bool.false_ne_true)]
 show wpAny _ _ (field (.ref it) 1>>=_) _ _ s
 refine wpAny_bind (wpAny_field ho hd (x:=.int i 0) rfl ?_)
 show wpAny _ _ (seqItems? (.ref l)>>=_) _ _ s
 refine wpAny_bind (wpAny_seqItems hol hdl ?_)
 simp only [Int.toNat_natCast,hx]
 refine wpAny_bind (wpAny_rule (wpAny_bind (wpAny_setField ho hd (by simp) ?_)))
 show wpAny _ _ (newExc (.type "StopIteration") []>>=_) _ _ _
 refine wpAny_bind ?_
 simp only [newExc,newTuple]
 refine wpAny_bind (wpAny_newObj_type ?_ (by size_fits))
 refine wpAny_bind (m:=firstArgMember _ _) (wpAny_of_eq (a:=Value.none) (by first|rfl|(simp only [firstArgMember];rfl)) ?_)
 refine wpAny_newObj_type ?_ (by size_fits)
 simp only [raiseNew]
 refine wpAny_bind (wpAny_handled ?_)
 first|rw [show A.in1.handled=none from hh]|rw [hh]
 refine wpAny_bind (wpAny_pure (wpAny_throw ?_))
 exact hE _ _ (((Heap.SameBut.update ..).extBut.push _).push _) ⟨_,Heap.get?_push_size _ rfl,rfl⟩
theorem zW (hh:A.handled=none) (it l:Addr) (hne:l≠it) (items:Array Value):
  Draws prog w A it [it,l] items.size (fun i v=>items[i]?=some v) (fun i h=>h.IsTupleIter it l i/\IsTup h l items) where
 live:=fun _ _ st=>let ⟨o,ho,_⟩:=st.1;⟨o,ho⟩
 frame:=fun _ _ _ st hk=>⟨st.1.at fun o e=>hk it (by simp) o e,let ⟨o,ho,r⟩:=st.2;⟨o,hk l (by simp) o ho,r⟩⟩
 item:=fun i s Q E hi st hQ=>by
  refine yE st.1 st.2 (x:=items[i]) (by simp [hi]) fun h' hit' hs'=>?_
  exact hQ _ h' s.toks (by simp [hi]) ⟨hit',st.2.extBut hs'.extBut hne⟩ hs'
 done:=fun s Q E st hE=>Cj hh st.1 st.2 (by simp) hE
end
def Ra (K:PySem.W.Frag) (a:Addr):It:=
 ⟨fun i H=>∃ (xs:List V) (x:V),cN K H a xs/\xs[i]?=some x,fun i H v H'=>∃ T x,v=.ref T/\H T=none/\H'=upd H T (.tup [.int (i:Nat),x])/\∀ xs,cN K H a xs->xs[i]?=some x,fun i H=>∃ xs:List V,cN K H a xs/\xs.length=i⟩
theorem Hc {P:Program} {w:World} {K:PySem.W.Frag} {elts:List Expr} {kk:Nat} {tpos:Pos} (a e it:Addr):
  xX P w K (.Tuple elts kk tpos) (Ra K a) [e,it] e (fun i h=>(∃ old,IsEnum h e it ((i:Nat):Int) old)/\h.IsTupleIter it a i/\e≠it/\a≠e/\a≠it) where
 mem:=by simp
 obj:=fun i h st b hb=>by
  obtain ⟨⟨old,he⟩,⟨o,ho,hc,hd⟩,_⟩:=st
  have e':b=e\/b=it:=by simpa using hb
  rcases e' with z|z
  ·rw [z];exact ⟨_,he,fun v q=>nomatch q⟩
  ·rw [z];exact ⟨o,ho,fun v q=>by rw [hd] at q;cases q⟩
 keep:=fun i h h' st k=>let ⟨⟨old,he⟩,hi,hne⟩:=st;⟨⟨old,k e (by simp) _ he⟩,hi.at fun o q=>k it (by simp) o q,hne⟩
 item:=by
  intro X hP hw hK hc i pins s σ H E I hf st hg
  subst hP hw hK
  obtain ⟨⟨old,he⟩,hit,hne,hae,hai⟩:=st
  obtain ⟨xs,x,hq,hx⟩:=hg
  obtain ⟨its,rv,p,hz⟩:=I.tuple hq
  obtain ⟨u,hu,ru⟩:=rv.get hx
  have hel:e<s.heap.objs.size:=Heap.lt_size he
  have hil:it<s.heap.objs.size:=by obtain ⟨_,q,_⟩:=hit;exact Heap.lt_size q
  have hlt:i<its.toArray.size:=by
   have:=(List.getElem?_eq_some_iff.mp hu).1
   simpa using this
  refine wpAny_pyNext_enum_itemD (zW (A:=X.A.in1) (I.ok.hd hc) it a hai its.toArray) he ⟨hit,p⟩ hlt hne (by simp [hne,Ne.symm hae]) fun x' h' tk hP ho hst hT hsz hk=>?_
  have hxu:x'=u:=by
   have h1:its.toArray[i]?=some u:=by simpa using hu
   rw [h1] at hP
   cases hP
   rfl
  subst hxu
  refine ⟨_,rfl,wpAny_letOwnedTupleGo_enum (s:={s with heap:=h',toks:=tk+1}) ho fun h'' he' sb=>?_⟩
  have hT2:h''.get? s.heap.objs.size=some {cls:=.type "tuple",data:=.seq #[.int i tk,x']}:=(sb.2 _ (Nat.ne_of_gt hel)).trans hT
  have new:cK X.prog X.w (upd H s.heap.objs.size (.tup [.int (i:Nat),x])) h'' s.heap.objs.size (.tup [.int (i:Nat),x]):=
   ⟨by show 2<=sizeLine;decide,[.int i tk,x'],.cons ⟨_,rfl⟩ (.cons ru .nil),⟨_,hT2,rfl,_,rfl⟩⟩
  have I1:aQ X pins σ (upd H s.heap.objs.size (.tup [.int (i:Nat),x])) {s with heap:=h'',toks:=tk+1}:=
   I.turnedNew (ch:=[e,it]) (fun b ob hb q=>(sb.2 b (fun z=>hb (by simp [z]))).trans (hk b ob (fun z=>hb (by simp [z])) (fun z=>hb (by simp [z])) q)) hf (Nat.le_refl _) new
  refine ⟨.ref s.heap.objs.size,_,I1,rfl,⟨_,x,rfl,I.hok.fresh (Nat.le_refl _),rfl,fun ys hy=>by rw [I.tuple_inj hy hq];exact hx⟩,⟨⟨x',?_⟩,hst.1.at fun o q=>(sb.2 it (Ne.symm hne)).trans q,hne,hae,hai⟩,fun b hb=>?_⟩
  ·have e1:((i+1:Nat):Int)=(i:Int)+1:=by (clear hsz hst hlt hil hel hz;omega)
   rw [e1];exact he'
  ·have hb':b<s.heap.objs.size:=by
    have e':b=e\/b=it:=by simpa using hb
    rcases e' with z|z
    ·rw [z];exact hel
    ·rw [z];exact hil
   rw [aC (Nat.ne_of_lt hb')]
   exact (hf b hb).1
 done:=by
  intro X hP hw hK hc i pins s σ H E I hf st hg
  subst hP hw hK
  obtain ⟨⟨old,he⟩,hit,hne,hae,hai⟩:=st
  obtain ⟨xs,hq,hx⟩:=hg
  obtain ⟨its,rv,p,hz⟩:=I.tuple hq
  obtain ⟨f0,f1,f2,f3,f4,f5⟩:=hf it (by simp)
  have hl:=rv.length
  have hn:its.toArray.size=i:=by simp;(clear f3 f2 hz;omega)
  exact wpAny_pyNext_enum_endD (zW (A:=X.A.in1) (I.ok.hd hc) it a hai its.toArray) he (by rw [hn];exact ⟨hit,p⟩) fun h' eb=>⟨rfl,I.turned (t':=s.toks) (fun b o hb q=>eb b o hb q) f0 f1 f3 f4 f5⟩
 self:=fun A i s Q E st h=>let ⟨⟨_,he⟩,_⟩:=st;wpAny_pyIter_enum he h
def aAr (K:PySem.W.Frag) (ta:TA):TI:=fun σ H R=>ta σ H fun vs H1=>∃ a xs,vs=[.ref a]/\cN K H1 a xs/\R (Ra K a) H1
theorem Sx {X:Cx} {e:Expr} {ta:TA} {p pos tpos:Pos} {elts:List Expr} {kk:Nat} (hg:Gl X "enumerate") (hm:X.mg "enumerate"=none) (ha:PA X [e] ta) (hs:starEach [e] X.env=[(false,eval e X.env)]:=by rfl):
  PI X (.Tuple elts kk tpos) (.Call (.Name "enumerate" p) [e] [] pos) (aAr X.K ta):=by
 intro pins s σ H R I h
 refine Call_ (rQ I hg hm boot_enumerate (PyProof.Rows.callWith_type1 (cV (ha pos pins s σ H _ I h) fun us s1 ⟨vs,H1,I1,r1,q1⟩=>?_) hs rfl))
 obtain ⟨a,xs,ex,hq,q⟩:=q1
 subst ex
 cases r1 with
 |cons r rr=>
  cases rr
  cases r
  obtain ⟨its,rv,p',hz⟩:=I1.tuple hq
  have hal:a<s1.heap.objs.size:=p'.lt
  refine yH p' fun h' he hit hsz hk=>wpAny_pyIter_enum he ?_
  have I2:aQ X pins σ H1 {s1 with heap:=h'}:=I1.kept (t':=s1.toks) hk
  refine ⟨s1.heap.objs.size+1,[s1.heap.objs.size+1,s1.heap.objs.size],_,_,H1,rfl,I2,Hc a (s1.heap.objs.size+1) s1.heap.objs.size,⟨⟨.none,he⟩,hit,Nat.succ_ne_self _,Nat.ne_of_lt (Nat.lt_succ_of_lt hal),Nat.ne_of_lt hal⟩,fun b hb=>?_,q⟩
  have e':b=s1.heap.objs.size+1\/b=s1.heap.objs.size:=by simpa using hb
  have hle:s1.heap.objs.size<=b:=by
   rcases e' with z|z
   ·rw [z];exact Nat.le_add_right _ _
   ·rw [z];exact Nat.le_refl _
  exact I1.fpOk hle (I1.hok.fresh hle)
end L2
namespace HT
open PySem PyProof.Rows
def gD:List Int->List Int->Bool
 |[],_=>true
 |_::_,[]=>false
 |x::xs,y::ys=>if x=y then gD xs ys else decide (x<=y)
theorem Ip (x y:Int) (xs ys:List Int):gD (x::xs) (y::ys)=if x=y then gD xs ys else decide (x<=y):=rfl
theorem Mu (ys:List Int):gD [] ys=true:=by cases ys<;>rfl
theorem vK (x:Int) (xs:List Int):gD (x::xs) []=false:=rfl
theorem Sz (A:Around) (s:Shared) (a:Int) (t:Tok) (c:Int) (u:Tok) (prog:Program) (w:World) (E:Value->Shared->Prop) (Q:Value->Shared->Prop) (h:Q (.bool (decide (a<=c))) s):
  wpAny (model prog w) A (richCompare .LtE (.int a t) (.int c u)) Q E s:=
 (PyProof.Rows.le_int h:wpAny (model prog w) A (compareOp .LtE (.int a t) (.int c u)) Q E s)
section
open PySem.SeqAt
open PySem.AutoSeq1 (wpAny_loadPart')
open PySem.MeetsSeq PySem.MeetsSeq2 PySem.MeetsSeq3
theorem yA (l b:Addr) (items items2:Array Value) (n n2:Nat) (dd dd2:Option Addr) (sl sl2:Array (Option Value)) (ns ms:List Int) (hi:IntsAre items.toList ns) (hj:IntsAre items2.toList ms):
  Meets (Builtin.«tuple.__le__» ⟨[.ref l,.ref b],[]⟩)
   (fun _ R s=>s.heap.get? l=some {cls:=.type "tuple",dict:=dd,data:=.seq items n,slots:=sl}/\s.heap.get? b=some {cls:=.type "tuple",dict:=dd2,data:=.seq items2 n2,slots:=sl2}/\
    R (.ok (.ret (.bool (gD ns ms)))) s):=
 .of_wp fun prog w A R s h=>by
  obtain ⟨hp,g,d,tk,os⟩:=s;obtain ⟨hl,hb,h⟩:=h
  have f2:=AutoSeq1.sub_tuple_tuple
  have z1:items.size=ns.length:=by rw [<-hi.length];simp
  have z2:items2.size=ms.length:=by rw [<-hj.length];simp
  wp_walk using wpAny_loadPart' hl,wpAny_loadPart' hb,wpAny_forIn_list _ (fun rest b s'=>b.1=none/\s'=⟨hp,g,d,tk,os⟩/\∃ (vs ws:List Value) (ns' ms':List Int),rest=vs.zip ws/\
   IntsAre vs ns'/\IntsAre ws ms'/\ns'.length+items2.size=ms'.length+items.size/\R (.ok (.ret (.bool (gD ns' ms')))) ⟨hp,g,d,tk,os⟩) _
  case turn=>
   rintro ⟨y,x⟩ rest b s' ⟨hb',rfl,vs,ws,ns',ms',hz,hvi,hwi,hlen,hR⟩
   cases hvi with
   |nil=>rw [List.zip_nil_left] at hz;cases hz
   |cons a t hvi'=>
    cases hwi with
    |nil=>rw [List.zip_nil_right] at hz;cases hz
    |cons c u hwi'=>
     rw [List.zip_cons_cons] at hz
     injection hz with hyx hrest
     injection hyx with hy hx
     subst hy hx
     rw [Ip] at hR
     simp only [List.length_cons] at hlen
     obtain ⟨e,he,hiff⟩:=Rc A.in1 ⟨hp,g,d,tk,os⟩ a t c u
     refine wpAny_bind (he prog w _ _ ?_)
     cases e with
     |true=>
      rw [if_pos (hiff.mp rfl)] at hR
      wp_walk
      exact ⟨rfl,rfl,_,_,_,_,hrest,hvi',hwi',by (clear hiff z2 z1;omega),hR⟩
     |false=>
      rw [if_neg (fun q=>absurd (hiff.mpr q) Bool.false_ne_true)] at hR
      have hri:=Sz A.in1 ⟨hp,g,d,tk,os⟩ a t c u prog w
      wp_walk using hri
      exact ⟨_,rfl,by simpa using hR⟩
  case fin=>
   rintro ⟨b1,b2⟩ s' ⟨hb',rfl,vs,ws,ns',ms',hz,hvi,hwi,hlen,hR⟩
   simp only at hb'
   subst hb'
   have hv:gD ns' ms'=decide (items.size<=items2.size):=by
    cases hvi with
    |nil=>
     simp only [List.length_nil] at hlen
     rw [Mu]
     exact (decide_eq_true (by (clear z2 z1;omega))).symm
    |cons a t hv=>
     cases hwi with
     |nil=>
      simp only [List.length_nil,List.length_cons] at hlen
      rw [vK]
      exact (decide_eq_false (by (clear z2 z1;omega))).symm
     |cons c u hw=>
      rw [List.zip_cons_cons] at hz
      cases hz
   rw [hv] at hR
   wp_walk
   exact ⟨_,rfl,by simpa [Builtin.Tuple.tupleCompareSizes] using hR⟩
  case h=>
   exact ⟨rfl,rfl,items.toList,items2.toList,ns,ms,rfl,hi,hj,by omega,h⟩
end
section
variable {prog:Program} {w:World} {A:Around} {E:Value->Shared->Prop} {s:Shared}
theorem Ho {l b:Addr} {items items2:Array Value} {ns ms:List Int} {Q:Value->Shared->Prop} (hl:IsTup s.heap l items) (hb:IsTup s.heap b items2) (hi:IntsAre items.toList ns) (hj:IntsAre items2.toList ms)
  (hu:A.units<cLine) (h:Q (.bool (gD ns ms)) s):wpAny (model prog w) A (compareOp .LtE (.ref l) (.ref b)) Q E s:=by
 obtain ⟨⟨cls,dd,data,sl⟩,ho,hc,n,hd⟩:=id hl
 obtain ⟨⟨cls2,dd2,data2,sl2⟩,ho2,hc2,n2,hd2⟩:=id hb
 simp only at hc hd hc2 hd2
 subst hc hd hc2 hd2
 exact richCompare_meets_room (op:=.LtE) ⟨_,ho,rfl⟩ ⟨_,ho2,rfl⟩ PySem.F.slot_tuple_le PySem.F.entry_tuple_le (PySem.F.args_tuple_le_2 _ _) (yA l b items items2 n n2 dd dd2 sl sl2 ns ms hi hj)
  ⟨ho,ho2,show Value.bool (gD ns ms)≠Value.notImplemented/\Q (.bool (gD ns ms)) s from ⟨(fun x=>nomatch x),h⟩⟩ hu
theorem Vl {t b:Addr} {ws:List Value} {Q:Value->Shared->Prop} (ht:IsTup s.heap t ([]:List Value).toArray) (hb:IsTup s.heap b ws.toArray) (h:Q (.ref b) s):wpAny (model prog w) A (binaryOp .Add (.ref t) (.ref b)) Q E s:=by
 obtain ⟨⟨cls,dd,data,sl⟩,ho,hc,n,hd⟩:=id ht
 obtain ⟨⟨cls2,dd2,data2,sl2⟩,ho2,hc2,n2,hd2⟩:=id hb
 simp only at hc hd hc2 hd2
 subst hc hd hc2 hd2
 exact concat_meets ⟨_,ho,rfl⟩ ⟨_,ho2,rfl⟩ noFill_tuple_add seq_tuple_add PySem.F.slot_tuple_add PySem.F.entry_tuple_add (PySem.F.args_tuple_add_2 _ _)
   (tuple_addW0 t b #[] ws.toArray n n2 dd dd2 sl sl2 rfl) ⟨ho,ho2,h⟩
theorem zB {l b:Addr} {items items2:Array Value} {ns ms:List Int} (hl:IsTup s.heap l items) (hb:IsTup s.heap b items2) (hi:IntsAre items.toList ns) (hj:IntsAre items2.toList ms) (hu:A.units<cLine):
  SeqAt.RcAt A s (.ref l) (.ref b) (decide (ns=ms)):=by
 have z1:items.size=ns.length:=by rw [<-hi.length];simp
 have z2:items2.size=ms.length:=by rw [<-hj.length];simp
 have at':∀ {vs:List Value} {xs:List Int} (j:Nat),IntsAre vs xs->(h1:j<vs.length)->∃ t,vs[j]=.int (xs.getD j 0) t:=by
  intro vs
  induction vs with
  |nil=>intro xs j _ h1;exact absurd h1 (Nat.not_lt_zero _)
  |cons v r ih=>
   intro xs j h1 hl
   cases h1 with
   |cons a t h1=>
    cases j with
    |zero=>exact ⟨t,rfl⟩
    |succ j=>exact ih j h1 (by simpa using hl)
 have key:=SeqAt.RcAt.tuples (A:=A) (s:=s) (l:=l) (b:=b) (e:=fun j=>decide (ns.getD j 0=ms.getD j 0)) hl hb hu fun j h1 h2=>by
  obtain ⟨t,e1⟩:=at' j hi (by simpa using h1)
  obtain ⟨u,e2⟩:=at' j hj (by simpa using h2)
  rw [show items[j]=.int (ns.getD j 0) t by simpa using e1,show items2[j]=.int (ms.getD j 0) u by simpa using e2,<-Bool.beq_eq_decide_eq]
  exact SeqAt.EqAt.int_int _ _ _ _
 have val:((List.range (min items.size items2.size)).all (fun j=>decide (ns.getD j 0=ms.getD j 0)) && items.size==items2.size)=decide (ns=ms):=by
  rw [z1,z2,Bool.eq_iff_iff,Bool.and_eq_true,List.all_eq_true,decide_eq_true_iff,beq_iff_eq]
  constructor
  ·rintro ⟨h1,h2⟩
   refine List.ext_getElem h2 fun j g1 g2=>?_
   have:=of_decide_eq_true (h1 j (by rw [List.mem_range];(clear g2 z2 z1 hu;omega)))
   rw [List.getD_eq_getElem?_getD,List.getD_eq_getElem?_getD,List.getElem?_eq_getElem g1,List.getElem?_eq_getElem g2] at this
   simpa using this
  ·rintro rfl
   exact ⟨fun j _=>decide_eq_true rfl,rfl⟩
 rw [val] at key
 exact key
theorem tN:∀ {vs:List Value} {xs ys:List Int},IntsAre vs xs->IntsAre vs ys->xs=ys:=by
 intro vs
 induction vs with
 |nil=>intro xs ys h1 h2;cases h1;cases h2;rfl
 |cons v r ih=>
  intro xs ys h1 h2
  cases h1 with
  |cons a t h1=>
   cases h2 with
   |cons _ _ h2=>rw [ih h1 h2]
theorem Mc {l b:Addr} {items items2:Array Value} {ns ms:List Int} (hl:IsTup s.heap l items) (hb:IsTup s.heap b items2) (hi:IntsAre items.toList ns) (hj:IntsAre items2.toList ms) (hu:A.units<cLine):
  SeqAt.EqAt A s (.ref l) (.ref b) (decide (ns=ms)):=by
 by_cases hlb:l=b
 ·subst hlb
  obtain ⟨o,e1,_,n,e2⟩:=hl
  obtain ⟨o2,e3,_,n2,e4⟩:=hb
  rw [e1] at e3
  cases e3
  rw [e2] at e4
  cases e4
  rw [tN hi hj,decide_eq_true rfl]
  exact SeqAt.EqAt.same _
 ·exact SeqAt.EqAt.of_refs hlb (zB hl hb hi hj hu)
end
end HT
namespace L2
open PySem PySem.Spec PyProof.Rows
section
variable {X:Cx}
def aC2 (K:PySem.W.Frag):R2:=fun x y H Q=>∃ a b ns ms,x=.ref a/\y=.ref b/\cN K H a (ns.map V.int)/\cN K H b (ms.map V.int)/\Q (.bl (HT.gD ns ms)) H
theorem Zy (hu:X.A.units<cLine):uA X (compareOp .LtE) (aC2 X.K):=by
 intro pins s σ H x y v u Q I rx ry h
 obtain ⟨a,b,ns,ms,rfl,rfl,ha,hb,q⟩:=h
 cases rx
 cases ry
 obtain ⟨its,r1,p1,_⟩:=I.tuple ha
 obtain ⟨its2,r2,p2,_⟩:=I.tuple hb
 have i1:IntsAre its.toArray.toList ns:=fQ r1
 have i2:IntsAre its2.toArray.toList ms:=fQ r2
 exact HT.Ho p1 p2 i1 i2 hu ⟨.bl (HT.gD ns ms),H,I,rfl,q⟩
def aBm (K:PySem.W.Frag):R2:=fun x y H Q=>∃ a b xs ys,x=.ref a/\y=.ref b/\cN K H a xs/\cN K H b ys/\ys≠[]/\xs.length+ys.length<=sizeLine/\
 ∀ p H',(∀ c o,H c=some o->H' c=some o)->cN K H' p (xs++ys)->Q (.ref p) H'
theorem Lm:uA X (binaryOp .Add) (aBm X.K):=by
 intro pins s σ H x y v u Q I rx ry h
 obtain ⟨a,b,xs,ys,rfl,rfl,ha,hb,hy,hz,q⟩:=h
 by_cases hx:xs=[]
 ·subst hx
  cases rx
  cases ry
  obtain ⟨its,r1,p1,_⟩:=I.tuple ha
  obtain ⟨its2,r2,p2,_⟩:=I.tuple hb
  cases r1
  exact HT.Vl p1 p2 ⟨.ref b,H,I,rfl,q b H (fun _ _ e=>e) hb⟩
 ·refine Wb pins s σ H _ _ v u Q I rx ry ⟨a,b,xs,ys,rfl,rfl,ha,hb,hx,hz,fun e=>absurd e hy,fun _ p hp=>?_⟩
  exact q p _ (fun c o e=>by rw [aC (aD e hp)];exact e) (cN.of aB)
def oS (K:PySem.W.Frag) (H:Hp) (xs:List V) (nss:List (List Int)):Prop:=Paired (fun x ns=>∃ p,x=V.ref p/\cN K H p (ns.map V.int)) xs nss
open Classical in
noncomputable def Ls (s:Shared) (ns:List Int) (v:Value):Bool:=decide (∃ p its,v=.ref p/\IsTup s.heap p its/\IntsAre its.toList ns)
theorem Yt {s:Shared} {p:Addr} {its:Array Value} {ns ms:List Int} (h:IsTup s.heap p its) (hi:IntsAre its.toList ms):Ls s ns (.ref p)=decide (ms=ns):=by
 unfold Ls
 rw [decide_eq_decide]
 constructor
 ·rintro ⟨p',its',e,h',hi'⟩
  cases e
  obtain ⟨o,e1,_,n,e2⟩:=h
  obtain ⟨o2,e3,_,n2,e4⟩:=h'
  rw [e1] at e3
  cases e3
  rw [e2] at e4
  cases e4
  exact HT.tN hi hi'
 ·rintro rfl
  exact ⟨p,its,rfl,h,hi⟩
theorem Cs {pins:List (Addr×Obj)} {σ:St} {H:Hp} {s:Shared} {A:Around} {p:Addr} {its:Array Value} {ns:List Int} (I:aQ X pins σ H s) (hu:A.units<cLine) (hp:IsTup s.heap p its) (hi:IntsAre its.toList ns):
  ∀ {xs:List V} {us:List Value} {nss:List (List Int)},oS X.K H xs nss->bS xs us->(∀ u∈us,SeqAt.EqAt A s u (.ref p) (Ls s ns u))/\us.map (Ls s ns)=nss.map fun ms=>decide (ms=ns)
 |[],_,_,t,v=>by
  cases t
  cases v
  exact ⟨(fun u h=>by cases h),rfl⟩
 |x::xs,_,_,t,v=>by
  cases t with
  |cons t1 t2=>
   cases v with
   |cons v1 v2=>
    obtain ⟨q,rfl,hq⟩:=t1
    cases v1
    obtain ⟨itq,rq,pq,_⟩:=I.tuple hq
    have iq:=fQ rq
    have e:=Yt (ns:=ns) (its:=itq.toArray) pq (by simpa using iq)
    obtain ⟨g1,g2⟩:=Cs I hu hp hi t2 v2
    refine ⟨fun u h=>?_,?_⟩
    ·rcases List.mem_cons.mp h with rfl|h
     ·rw [e]
      exact HT.Mc pq hp (by simpa using iq) hi hu
     ·exact g1 u h
    ·rw [List.map_cons,List.map_cons,e,g2]
def aDa (K:PySem.W.Frag) (neg:Bool):R2:=fun x y H Q=>∃ p a ns xs nss,x=.ref p/\y=.ref a/\cN K H p (ns.map V.int)/\cW K H a xs/\oS K H xs nss/\Q (.bl (if neg then !decide (ns∈nss) else decide (ns∈nss))) H
theorem Vv {s:Shared} {ns:List Int} {us:List Value} {nss:List (List Int)} (h:us.map (Ls s ns)=nss.map fun ms=>decide (ms=ns)):us.toArray.any (Ls s ns)=decide (ns∈nss):=by
 have h1:us.any (Ls s ns)=(us.map (Ls s ns)).any id:=by rw [List.any_map];rfl
 have h2:us.toArray.any (Ls s ns)=us.any (Ls s ns):=by simp
 rw [h2,h1,h,List.any_map,Bool.eq_iff_iff,List.any_eq_true,decide_eq_true_iff]
 constructor
 ·rintro ⟨m,hm,e⟩
  have e:decide (m=ns)=true:=e
  rw [<-of_decide_eq_true e]
  exact hm
 ·intro hm
  exact ⟨ns,hm,show decide (ns=ns)=true from decide_eq_true rfl⟩
theorem Mz (hu:X.A.units+1<cLine):uA X (compareOp .NotIn) (aDa X.K true):=by
 intro pins s σ H x y v u Q I rx ry h
 obtain ⟨p,a,ns,xs,nss,rfl,rfl,hp,ha,ht,q⟩:=h
 cases rx
 cases ry
 obtain ⟨its,r,pl,hz⟩:=I.list ha
 obtain ⟨itp,rp,pp,_⟩:=I.tuple hp
 obtain ⟨g1,g2⟩:=Cs (A:=X.A.in1) I hu pp (by simpa using fQ rp) ht r
 refine SeqAt.notIn_listAt (Ls s ns) pl.isList (fun w hw=>g1 w (by simpa using hw)) ⟨.bl _,H,I,rfl,?_⟩
 rw [Vv g2]
 exact q
def Um (K:PySem.W.Frag):V->List V->Hp->VK->Prop:=fun x ys H Q=>∃ (a p:Addr) (xs:List V) (nss:List (List Int)) (ns:List Int) (j:Nat),x=V.ref a/\ys=[V.ref p]/\cW K H a xs/\oS K H xs nss/\cN K H p (ns.map V.int)/\
 nss[j]?=some ns/\(∀ m ms,m<j->nss[m]?=some ms->ms≠ns)/\Q (.int (j:Nat)) H
theorem Nl (hu:X.A.units+1<cLine):MtR X "list.index" (Um X.K):=by
 intro pins s σ H x xs v us Q I rx rxs h
 obtain ⟨a,p,ys,nss,ns,j,rfl,rfl,hs,ht,hp,hj,hno,q⟩:=h
 cases rx
 obtain ⟨uy,rfl,ry⟩:=xO rxs
 cases ry
 obtain ⟨its,rv,⟨⟨cls,dd,data,sl⟩,n,ho,hc,hdn,hd⟩,hlen⟩:=I.list hs
 simp only at hc hd
 subst hc hd
 obtain ⟨itp,rp,pp,_⟩:=I.tuple hp
 obtain ⟨g1,g2⟩:=Cs (A:=X.A.in1) I hu pp (by simpa using fQ rp) ht rv
 have hl1:its.length=nss.length:=by
  have:=congrArg List.length g2
  simpa using this
 have at':∀ m (hm:m<its.length) ms,nss[m]?=some ms->Ls s ns its[m]=decide (ms=ns):=by
  intro m hm ms e
  have:=congrArg (fun l:List Bool=>l[m]?) g2
  simp only [List.getElem?_map,e,List.getElem?_eq_getElem hm,Option.map_some] at this
  injection this
 have hjl:j<its.length:=by rw [hl1];exact (List.getElem?_eq_some_iff.mp hj).1
 have hsl:=sizeLine_eq
 have hvl:=rv.length
 refine call_meets PySem.F.slot_list_index ⟨_,ho,rfl⟩ PySem.F.entry_list_index (PySem.F.args_list_index_2 _ _)
  (SeqAt.list_indexAt a its.toArray n dd sl (.ref p) (Ls s ns) j (by simpa using hjl) (by (clear hl1 hu;omega)) ?_ ?_) ⟨ho,fun u' hu'=>g1 u' (by simpa using hu'),?_⟩
 ·have e1:its.toArray[j]=its[j]:=by simp
  rw [e1,at' j hjl ns hj]
  exact decide_eq_true rfl
 ·intro m hm hmj
  have hml:m<its.length:=by simpa using hm
  have e1:its.toArray[m]=its[m]:=by simp
  have hmn:m<nss.length:=by rw [<-hl1];exact hml
  rw [e1,at' m hml _ (List.getElem?_eq_getElem hmn)]
  exact decide_eq_false (hno m _ hmj (List.getElem?_eq_getElem hmn))
 ·exact ⟨.int (j:Nat),H,I.tok _,⟨_,rfl⟩,q⟩
def aAd (K:PySem.W.Frag):R2:=fun x y H Q=>∃ (p q:Addr) (ns ms:List Int),x=.ref p/\y=.ref q/\cN K H p (ns.map V.int)/\cN K H q (ms.map V.int)/\Q (.bl (decide (ns=ms))) H
theorem Zg (hu:X.A.units<cLine):uA X (compareOp .Eq) (aAd X.K):=by
 intro pins s σ H x y v u Q I rx ry h
 obtain ⟨a,b,ns,ms,rfl,rfl,ha,hb,q⟩:=h
 cases rx
 cases ry
 obtain ⟨its,r1,p1,_⟩:=I.tuple ha
 obtain ⟨its2,r2,p2,_⟩:=I.tuple hb
 exact HT.zB p1 p2 (by simpa using fQ r1) (by simpa using fQ r2) hu _ _ _ _ ⟨.bl _,H,I,rfl,q⟩
end
theorem iH {d:Addr} {o:Obj} {aJ:List (List eF×V)} {g:TG} {tb:TS} {D:fZ} {σ:St} {H:Hp} (Pv:Nat->St->Hp->Prop) (h0:Pv 0 σ H) (hl:∀ i σ H,i<=aJ.length->Pv i σ H->H d=some (.frz o (.dT aJ)))
  (hs:∀ i σ H T k v q,aJ[i]?=some (k,v)->Pv i σ H->H T=none->H q=some (.tup (k.map kV))->g (.ref T) σ (upd H T (.tup [.ref q,v])) fun σ2 H2=>tb {D with nx:=Pv (i+1),ct:=Pv (i+1),bk:=D.nx} σ2 H2) (hd:∀ σ H,Pv aJ.length σ H->D.nx σ H):
  ∃ W:Nat->Nat->St->Hp->Prop,(∃ m,W 0 m σ H)/\∀ i m σ H,W i m σ H->
   ((Gw d o aJ).stop i H/\D.nx σ H)\/((Gw d o aJ).go i H/\∃ N:St->Hp->Prop,(∀ σ' H',N σ' H'->∃ m',m'<m/\W (i+1) m' σ' H')/\∀ x H',(Gw d o aJ).yld i H x H'->g x σ H' fun σ2 H2=>tb {D with nx:=N,ct:=N,bk:=D.nx} σ2 H2):=by
 refine ⟨fun i m σ H=>m=aJ.length - i/\i<=aJ.length/\Pv i σ H,⟨aJ.length,by simp,Nat.zero_le _,h0⟩,?_⟩
 rintro i m σ H ⟨rfl,hi,p⟩
 have q:=hl i σ H hi p
 by_cases hlt:i<aJ.length
 ·refine .inr ⟨⟨q,hlt⟩,Pv (i+1),fun σ' H' p'=>⟨aJ.length - (i+1),by (clear hi;omega),rfl,hlt,p'⟩,fun x H' y=>?_⟩
  obtain ⟨T,k,v,a,e1,rfl,e2,e3,rfl⟩:=y
  exact hs i σ H T k v a e1 p e2 e3
 ·have e:i=aJ.length:=by omega
  subst e
  exact .inl ⟨⟨q,Nat.le_refl _⟩,hd σ H p⟩
theorem iL {H H':Hp} {c:Addr} {u:HO} {od:Obj} (h:H c=some u) (s:aL (upd H c (.frz od u)) H'):aL H (upd H' c u):=fun b o e=>by
 by_cases hb:b=c
 ·rw [hb] at e ⊢
  rw [aB,<-e,h]
 ·rw [aC hb]
  exact s b o (by rw [aC hb];exact e)
theorem aL.new {H:Hp} {q:Addr} {o:HO} (h:H q=none):aL H (upd H q o):=fun b o' e=>by rw [aC (aD e h)];exact e
theorem aL.id' (H:Hp):aL H H:=fun _ _ e=>e
end L2
namespace Br1
open PySem PySem.Spec PyProof.Rows L2
abbrev Pl:=Int×Int×Int
abbrev CL:=List (Pl×Int)
def Ye (c:Pl×Int):List eF×V:=(eN c.1.1 c.1.2.1 c.1.2.2,V.int c.2)
def aJ (cs:CL):List (List eF×V):=cs.map Ye
def bE (cs:CL) (p:Pl):Option Int:=(cs.find? fun c=>decide (c.1=p)).map (·.2)
def pB (p:Pl):Pl:=(p.1,p.2.1,p.2.2+1)
def pH (p:Pl):Pl:=(p.1,p.2.1,p.2.2 - 1)
theorem vC {p q:Pl}:eN p.1 p.2.1 p.2.2=eN q.1 q.2.1 q.2.2↔p=q:=by
 obtain ⟨a,b,c⟩:=p
 obtain ⟨x,y,z⟩:=q
 simp [eN]
theorem pU (p:Pl):∀ cs:CL,lP (aJ cs) (eN p.1 p.2.1 p.2.2)=(bE cs p).map V.int
 |[]=>rfl
 |c::r=>by
  have ih:=pU p r
  unfold lP bE aJ at *
  rw [List.map_cons,List.find?_cons,List.find?_cons]
  by_cases h:c.1=p
  ·have h2:(Ye c).1=eN p.1 p.2.1 p.2.2:=vC.mpr h
   simp only [h,h2,decide_true,Option.map_some]
   rfl
  ·have h2:¬(Ye c).1=eN p.1 p.2.1 p.2.2:=fun z=>h (vC.mp z)
   simp only [h,h2,decide_false]
   exact ih
theorem jK {cs:CL} {i:Nat} {k:List eF} {v:V} (h:(aJ cs)[i]?=some (k,v)):∃ p s,cs[i]?=some (p,s)/\k=eN p.1 p.2.1 p.2.2/\v=V.int s:=by
 unfold aJ at h
 rw [List.getElem?_map] at h
 obtain ⟨⟨p,s⟩,e1,e2⟩:=Option.map_eq_some_iff.mp h
 cases e2
 exact ⟨p,s,e1,rfl,rfl⟩
theorem Fe {α:Type} {f:α->Bool} {l:List α} {i:Nat} {x:α} (h:(l.take i).all f=true) (e:l[i]?=some x) (hx:f x=true):(l.take (i+1)).all f=true:=by
 have hl:=(List.getElem?_eq_some_iff.mp e).1
 rw [List.take_succ,e,List.all_append,h]
 simp [hx]
def mR (cs:CL):Bool:=cs.all fun c=> !(fA c.2 && (bE cs (pB c.1)).isSome)
def mW (cs:CL):Bool:=cs.all fun c=> !(dW c.2 && (bE cs (pH c.1)).isSome)
section
variable {P:Program} {w:World} {K:PySem.W.Frag} {mg:Str->Option Value} {base:Heap} {C CR CP:Addr}
def yD (CP:Addr) (H:Hp) (b:Addr) (nm:Addr) (W D Hh g:Int) (cs:CL):Prop:=∃ dx c,H b=some (.ins CP dx (Op nm W D Hh g c))/\H c=some (.dT (aJ cs))
def Bq (CP:Addr):Sp:=fun vs H Q _=>∃ (b nm:Addr) (W D Hh g:Int) (cs:CL),vs=[.ref b]/\yD CP H b nm W D Hh g cs/\∀ H',aL H H'->Q (.bl (mR cs)) H'
def Bv (CP:Addr):Sp:=fun vs H Q _=>∃ (b nm:Addr) (W D Hh g:Int) (cs:CL),vs=[.ref b]/\yD CP H b nm W D Hh g cs/\∀ H',aL H H'->Q (.bl (mW cs)) H'
theorem xU:aO ["part","place","sign"] ["part"] (aG Az):=⟨rfl,rfl,rfl,by decide+kernel,rfl,by decide+kernel,by decide+kernel⟩
theorem wU:aO ["part","place","sign"] ["part"] (aG Bc):=⟨rfl,rfl,rfl,by decide+kernel,rfl,by decide+kernel,by decide+kernel⟩
theorem Eu {H:Hp} {c q:Addr} {od:Obj} {cs:CL} {p:Pl} (hc:H c=some (.frz od (.dT (aJ cs)))) (hq:H q=some (.tup [.int p.1,.int p.2.1,.int p.2.2])):sD H c (.ref q) ((bE cs p).map V.int):=
 .inr ⟨aJ cs,eN p.1 p.2.1 p.2.2,q,.inr ⟨od,hc⟩,rfl,hq,(pU p cs).symm⟩
theorem wS {H:Hp} {c q:Addr} {cs:CL} {p:Pl} (hc:H c=some (.dT (aJ cs))) (hq:H q=some (.tup [.int p.1,.int p.2.1,.int p.2.2])):sD H c (.ref q) ((bE cs p).map V.int):=
 .inr ⟨aJ cs,eN p.1 p.2.1 p.2.2,q,.inl hc,rfl,hq,(pU p cs).symm⟩
theorem Qv {f:Addr} {fd:FuncData} (F:fE K "studs_clear" "studs_clear" Az f fd) (T':Oo K CP) (L1:dL P w K mg base "has_stud" bU 1 ["sign"] vA) (L2:dL P w K mg base "above" bU 1 ["place"] oH):
  bV P w K mg base bU 2 f fd ["part"] (Bq CP):=by
 obtain ⟨g1,gd1,G1,b1,k1,h1⟩:=L1.ex
 obtain ⟨g2,gd2,G2,b2,k2,h2⟩:=L2.ex
 refine F.ok xU (fun vs H Q E h=>?_) (fun cdv A outer s H vs Q E hr h=>?_)
 ·obtain ⟨b,nm,W,D,Hh,g,cs,rfl,_⟩:=h
  rfl
 ·obtain ⟨b,nm,W,D,Hh,g,cs,rfl,⟨dx,c,hb,hc⟩,k⟩:=h
  have hr1:=hr.mono (j:=1) (by decide)
  have hu:=lU hr
  refine ⟨_,aF (kW (eQ PassesOwn.never rfl (jZ (aT (pv 0) rfl)) (mP rfl (dG (bH (i:=1) xU.nd rfl (Or.inl rfl)) (dG (bH (i:=2) xU.nd rfl (Or.inl rfl)) jH)))
    (aH (eG (gZ (eP (aP G1 hr1 (by rfl) h1 k1 b1 .nil aX (aA (pv 2) aE))) (iA (dR (sM hu (aP G2 hr1 (by rfl) h2 k2 b2 .nil aX (aA (pv 1) aE)) (aT (pv 0) rfl))))).pt (aH (aU mX)) cC))))
   (aH (aU mX)),?_⟩
  refine ⟨c,_,hc,trivial,fun od=>?_⟩
  have nbc:b≠c:=fun z=>by rw [z,hc] at hb;cases hb
  have hcL:upd H c (.frz od (.dT (aJ cs))) c=some (.frz od (.dT (aJ cs))):=aB
  have hbL:upd H c (.frz od (.dT (aJ cs))) b=some (.ins CP dx (Op nm W D Hh g c)):=by rw [aC nbc];exact hb
  refine ⟨_,rfl,b,CP,dx,_,_,rfl,hbL,T'.cl,T'.n6,rfl,c,od,_,rfl,hcL,?_⟩
  refine iH (fun i σ H'=>∃ v1 v2,σ=[some (.ref b),v1,v2]/\aL (upd H c (.frz od (.dT (aJ cs)))) H'/\(cs.take i).all (fun c=> !(fA c.2 && (bE cs (pB c.1)).isSome))=true) ⟨none,none,rfl,aL.id' _,rfl⟩ ?_ ?_ ?_
  ·rintro i σ H1 hi ⟨v1,v2,rfl,S1,_⟩
   exact S1 _ _ hcL
  ·rintro i σ H1 T k v q e ⟨v1,v2,rfl,S1,al⟩ hT hq
   obtain ⟨p,sg,e1,rfl,rfl⟩:=jK e
   have ST:=aL.new (o:=.tup [.ref q,.int sg]) hT
   have S2:aL (upd H c (.frz od (.dT (aJ cs)))) (upd H1 T (.tup [.ref q,.int sg])):=S1.trans ST
   refine ⟨T,_,rfl,cN.of aB,rfl,_,_,rfl,_,_,rfl,rfl,?_⟩
   have step:(!(fA sg && (bE cs (pB p)).isSome))=true->(cs.take (i+1)).all (fun c=> !(fA c.2 && (bE cs (pB c.1)).isSome))=true:=fun z=>Fe al e1 z
   refine ⟨_,rfl,sg,rfl,_,rfl,cF (fun hs=>?_) (fun hs=>tW ⟨_,_,rfl,S2,step (by rw [cR hs];rfl)⟩)⟩
   refine ⟨_,rfl,q,p.1,p.2.1,p.2.2,rfl,ST _ _ hq,fun q2 hq2=>?_⟩
   have SQ:=aL.new (o:=.tup [.int p.1,.int p.2.1,.int (p.2.2+1)]) hq2
   have S3:=S2.trans SQ
   refine ⟨_,rfl,b,CP,dx,_,_,rfl,S3 _ _ hbL,T'.cl,T'.n6,rfl,c,_,rfl,Eu (p:=pB p) (S3 _ _ hcL) aB,_,rfl,cF (fun hi=>?_) (fun hi=>?_)⟩
   ·refine ⟨S3 _ _ hcL,?_⟩
    have z:=k _ (iL hc S3)
    have e3:mR cs=false:=by
     unfold mR
     rw [Bool.eq_false_iff]
     intro z
     have:=List.all_eq_true.mp z _ (List.mem_of_getElem? e1)
     rw [Option.isSome_map] at hi
     rw [hs,hi] at this
     cases this
    rw [e3] at z
    exact z
   ·refine ⟨_,_,rfl,S3,step ?_⟩
    rw [Option.isSome_map] at hi
    rw [cR hi,Bool.and_false]
    rfl
  ·rintro σ H1 ⟨v1,v2,rfl,S1,al⟩
   refine ⟨S1 _ _ hcL,?_⟩
   have z:=k _ (iL hc S1)
   have e3:mR cs=true:=by
    unfold mR
    have hl:(aJ cs).length=cs.length:=by unfold aJ;rw [List.length_map]
    rw [hl,List.take_length] at al
    exact al
   rw [e3] at z
   exact z
theorem Tg {f:Addr} {fd:FuncData} (F:fE K "tubes_clear" "tubes_clear" Bc f fd) (T':Oo K CP) (L1:dL P w K mg base "has_tube" bU 1 ["sign"] xD) (L2:dL P w K mg base "below" bU 1 ["place"] nU):
  bV P w K mg base bU 2 f fd ["part"] (Bv CP):=by
 obtain ⟨g1,gd1,G1,b1,k1,h1⟩:=L1.ex
 obtain ⟨g2,gd2,G2,b2,k2,h2⟩:=L2.ex
 refine F.ok wU (fun vs H Q E h=>?_) (fun cdv A outer s H vs Q E hr h=>?_)
 ·obtain ⟨b,nm,W,D,Hh,g,cs,rfl,_⟩:=h
  rfl
 ·obtain ⟨b,nm,W,D,Hh,g,cs,rfl,⟨dx,c,hb,hc⟩,k⟩:=h
  have hr1:=hr.mono (j:=1) (by decide)
  have hu:=lU hr
  refine ⟨_,aF (kW (eQ PassesOwn.never rfl (jZ (aT (pv 0) rfl)) (mP rfl (dG (bH (i:=1) wU.nd rfl (Or.inl rfl)) (dG (bH (i:=2) wU.nd rfl (Or.inl rfl)) jH)))
    (aH (eG (gZ (eP (aP G1 hr1 (by rfl) h1 k1 b1 .nil aX (aA (pv 2) aE))) (iA (dR (sM hu (aP G2 hr1 (by rfl) h2 k2 b2 .nil aX (aA (pv 1) aE)) (aT (pv 0) rfl))))).pt (aH (aU mX)) cC))))
   (aH (aU mX)),?_⟩
  refine ⟨c,_,hc,trivial,fun od=>?_⟩
  have nbc:b≠c:=fun z=>by rw [z,hc] at hb;cases hb
  have hcL:upd H c (.frz od (.dT (aJ cs))) c=some (.frz od (.dT (aJ cs))):=aB
  have hbL:upd H c (.frz od (.dT (aJ cs))) b=some (.ins CP dx (Op nm W D Hh g c)):=by rw [aC nbc];exact hb
  refine ⟨_,rfl,b,CP,dx,_,_,rfl,hbL,T'.cl,T'.n6,rfl,c,od,_,rfl,hcL,?_⟩
  refine iH (fun i σ H'=>∃ v1 v2,σ=[some (.ref b),v1,v2]/\aL (upd H c (.frz od (.dT (aJ cs)))) H'/\(cs.take i).all (fun c=> !(dW c.2 && (bE cs (pH c.1)).isSome))=true) ⟨none,none,rfl,aL.id' _,rfl⟩ ?_ ?_ ?_
  ·rintro i σ H1 hi ⟨v1,v2,rfl,S1,_⟩
   exact S1 _ _ hcL
  ·rintro i σ H1 T k v q e ⟨v1,v2,rfl,S1,al⟩ hT hq
   obtain ⟨p,sg,e1,rfl,rfl⟩:=jK e
   have ST:=aL.new (o:=.tup [.ref q,.int sg]) hT
   have S2:aL (upd H c (.frz od (.dT (aJ cs)))) (upd H1 T (.tup [.ref q,.int sg])):=S1.trans ST
   refine ⟨T,_,rfl,cN.of aB,rfl,_,_,rfl,_,_,rfl,rfl,?_⟩
   have step:(!(dW sg && (bE cs (pH p)).isSome))=true->(cs.take (i+1)).all (fun c=> !(dW c.2 && (bE cs (pH c.1)).isSome))=true:=fun z=>Fe al e1 z
   refine ⟨_,rfl,sg,rfl,_,rfl,cF (fun hs=>?_) (fun hs=>tW ⟨_,_,rfl,S2,step (by rw [cR hs];rfl)⟩)⟩
   refine ⟨_,rfl,q,p.1,p.2.1,p.2.2,rfl,ST _ _ hq,fun q2 hq2=>?_⟩
   have SQ:=aL.new (o:=.tup [.int p.1,.int p.2.1,.int (p.2.2 - 1)]) hq2
   have S3:=S2.trans SQ
   refine ⟨_,rfl,b,CP,dx,_,_,rfl,S3 _ _ hbL,T'.cl,T'.n6,rfl,c,_,rfl,Eu (p:=pH p) (S3 _ _ hcL) aB,_,rfl,cF (fun hi=>?_) (fun hi=>?_)⟩
   ·refine ⟨S3 _ _ hcL,?_⟩
    have z:=k _ (iL hc S3)
    have e3:mW cs=false:=by
     unfold mW
     rw [Bool.eq_false_iff]
     intro z
     have:=List.all_eq_true.mp z _ (List.mem_of_getElem? e1)
     rw [Option.isSome_map] at hi
     rw [hs,hi] at this
     cases this
    rw [e3] at z
    exact z
   ·refine ⟨_,_,rfl,S3,step ?_⟩
    rw [Option.isSome_map] at hi
    rw [cR hi,Bool.and_false]
    rfl
  ·rintro σ H1 ⟨v1,v2,rfl,S1,al⟩
   refine ⟨S1 _ _ hcL,?_⟩
   have z:=k _ (iL hc S1)
   have e3:mW cs=true:=by
    unfold mW
    have hl:(aJ cs).length=cs.length:=by unfold aJ;rw [List.length_map]
    rw [hl,List.take_length] at al
    exact al
   rw [e3] at z
   exact z
end
end Br1
namespace L2
open PySem PySem.Spec PyProof.Rows
theorem Ep {d:Addr} {o:Obj} {aJ:List (List eF×V)} {g:TG} {tt:TT} {te:TE} {vs:List Nat} {σ:St} {H1:Hp} {D:Addr} {Qd:Hp->Prop} (Pv:Nat->Hp->Prop) (h0:Pv 0 (upd H1 D (.lst []))) (hl:∀ i H,i<=aJ.length->Pv i H->H d=some (.frz o (.dT aJ)))
  (hs:∀ i k v q H,aJ[i]?=some (k,v)->Pv i H->H q=some (.tup (k.map kV))->g (.ref q) (eX σ vs) H fun σ2 H2=>eX σ2 vs=eX σ vs/\tt σ2 H2 fun b H3=>
   if b=true then te σ2 H3 fun y H4=>∃ acc,H4 D=some (.lst acc)/\acc.length<sizeLine/\Pv (i+1) (upd H4 D (.lst (acc++[y]))) else Pv (i+1) H3) (hd:∀ H,Pv aJ.length H->Qd H):
  ∃ W:Nat->Nat->Hp->Prop,(∃ m,W 0 m (upd H1 D (.lst [])))/\∀ i m H,W i m H->
   ((Ru d o aJ).stop i H/\Qd H)\/((Ru d o aJ).go i H/\∃ Nx:Hp->Prop,(∀ H',Nx H'->∃ m',m'<m/\W (i+1) m' H')/\∀ x H',(Ru d o aJ).yld i H x H'->g x (eX σ vs) H' fun σ2 H2=>eX σ2 vs=eX σ vs/\tt σ2 H2 fun b H3=>
    if b=true then te σ2 H3 fun y H4=>∃ acc,H4 D=some (.lst acc)/\acc.length<sizeLine/\Nx (upd H4 D (.lst (acc++[y]))) else Nx H3):=by
 refine ⟨fun i m H=>m=aJ.length - i/\i<=aJ.length/\Pv i H,⟨aJ.length,by simp,Nat.zero_le _,h0⟩,?_⟩
 rintro i m H ⟨rfl,hi,p⟩
 have q:=hl i H hi p
 by_cases hlt:i<aJ.length
 ·refine .inr ⟨⟨q,hlt⟩,Pv (i+1),fun H' p'=>⟨aJ.length - (i+1),by (clear hi;omega),rfl,hlt,p'⟩,fun x H' y=>?_⟩
  obtain ⟨e,k,v,a,e1,rfl,e2⟩:=y
  subst e
  exact hs i k v a _ e1 p e2
 ·have e:i=aJ.length:=by omega
  subst e
  exact .inl ⟨⟨q,Nat.le_refl _⟩,hd H p⟩
theorem Mq {K:PySem.W.Frag} {a:Addr} {xs:List V} {g:TG} {tb:TS} {D:fZ} {σ:St} {H:Hp} (Pv:Nat->St->Hp->Prop) (h0:Pv 0 σ H) (hl:∀ i σ H,i<=xs.length->Pv i σ H->cN K H a xs)
  (hs:∀ i x σ H T,xs[i]?=some x->Pv i σ H->H T=none->g (.ref T) σ (upd H T (.tup [.int (i:Nat),x])) fun σ2 H2=>tb {D with nx:=Pv (i+1),ct:=Pv (i+1),bk:=D.nx} σ2 H2) (hd:∀ σ H,Pv xs.length σ H->D.nx σ H):
  ∃ W:Nat->Nat->St->Hp->Prop,(∃ m,W 0 m σ H)/\∀ i m σ H,W i m σ H->
   ((Ra K a).stop i H/\D.nx σ H)\/((Ra K a).go i H/\∃ N:St->Hp->Prop,(∀ σ' H',N σ' H'->∃ m',m'<m/\W (i+1) m' σ' H')/\∀ x H',(Ra K a).yld i H x H'->g x σ H' fun σ2 H2=>tb {D with nx:=N,ct:=N,bk:=D.nx} σ2 H2):=by
 refine ⟨fun i m σ H=>m=xs.length - i/\i<=xs.length/\Pv i σ H,⟨xs.length,by simp,Nat.zero_le _,h0⟩,?_⟩
 rintro i m σ H ⟨rfl,hi,p⟩
 have q:=hl i σ H hi p
 by_cases hlt:i<xs.length
 ·refine .inr ⟨⟨xs,xs[i],q,by simp [hlt]⟩,Pv (i+1),fun σ' H' p'=>⟨xs.length - (i+1),by (clear hi;omega),rfl,hlt,p'⟩,fun x H' y=>?_⟩
  obtain ⟨T,x',rfl,hT,rfl,y⟩:=y
  exact hs i x' σ H T (y xs q) p hT
 ·have e:i=xs.length:=by omega
  subst e
  exact .inl ⟨⟨xs,q,rfl⟩,hd σ H p⟩
end L2
namespace Br1
open PySem PySem.Spec PyProof.Rows L2
def coP (p:Pl):Nat->Int
 |0=>p.1
 |1=>p.2.1
 |_=>p.2.2
def fU (cs:CL) (a:Nat):List Int:=cs.map fun c=>coP c.1 a
def fK (cs:CL) (a:Nat) (n:Int):Bool:=decide ((0:Int)∈fU cs a) && decide (n - 1∈fU cs a)
def nA (cs:CL) (W D Hh:Int):Bool:=fK cs 0 W && fK cs 1 D && fK cs 2 Hh
section
variable {P:Program} {w:World} {K:PySem.W.Frag} {mg:Str->Option Value} {base:Heap} {C CR CP:Addr}
def Cu (CP:Addr):Sp:=fun vs H Q _=>∃ (b nm:Addr) (W D Hh g:Int) (cs:CL),vs=[.ref b]/\yD CP H b nm W D Hh g cs/\cs.length<20000/\∀ H',aL H H'->Q (.bl (nA cs W D Hh)) H'
theorem jR:aO ["part","sizes","axis","size","reached","place"] ["part"] (aG wD):=⟨rfl,rfl,rfl,by decide+kernel,rfl,by decide+kernel,by decide+kernel⟩
theorem Rv {f:Addr} {fd:FuncData} (F:fE K "fills_its_box" "fills_its_box" wD f fd) (T':Oo K CP) (henum:mg "enumerate"=none):
  bV P w K mg base bU 2 f fd ["part"] (Cu CP):=by
 refine F.ok jR (fun vs H Q E h=>?_) (fun cdv A outer s H vs Q E hr h=>?_)
 ·obtain ⟨b,nm,W,D,Hh,g,cs,rfl,_⟩:=h
  rfl
 ·obtain ⟨b,nm,W,D,Hh,g,cs,rfl,⟨dx,c,hb,hc⟩,hl,k⟩:=h
  refine ⟨_,aF (bI (i:=1) jR.nd rfl (Or.inl rfl) (eJ (aA (aT (pv 0) rfl) (aA (aT (pv 0) rfl) (aA (aT (pv 0) rfl) aE)))))
   (aF (eQ PassesOwn.never rfl (Sx rfl henum (aA (pv 1) aE)) (mP rfl (dG (bH (i:=2) jR.nd rfl (by first|exact Or.inl rfl|exact Or.inr rfl)) (dG (bH (i:=3) jR.nd rfl (Or.inl rfl)) jH)))
    (aF (kW (wT (i:=4) (te:=zE (iW K) (dD 5) (dD 2)) (own:=[("place",5)]) rfl jR.nd rfl rfl rfl (Ka (aT (pv 0) rfl)) (eW (N:=["part","sizes","axis","size","reached","place"]) (sc:=aG wD) (by decide+kernel))
      (fun _ _ _ _ _=>bH (i:=5) jR.nd rfl (Or.inl rfl)) (fun _ _ _ _ _=>gL) (fun _ _ _ _ _=>bO (r:=iW K) aZ (pv 5) (pv 2) (fun _ _=>rfl))))
     (aH (eG (Le (hX lL aI (pv 4) rfl) (Cw (hX lL (bZ eC (pv 3) aI) (pv 4) rfl))).pt (aH (aU mX)) cC))))
   (aH (aU mX))),?_⟩
  refine ⟨_,rfl,b,CP,dx,_,_,rfl,hb,T'.cl,T'.n2,rfl,_,rfl,b,CP,dx,_,_,rfl,hb,T'.cl,T'.n3,rfl,_,rfl,b,CP,dx,_,_,rfl,hb,T'.cl,T'.n4,rfl,(by show 3<=sizeLine;decide),fun q hq=>?_⟩
  have S0:=aL.new (o:=.tup [.int W,.int D,.int Hh]) hq
  have hsq:cN K (upd H q (.tup [.int W,.int D,.int Hh])) q [.int W,.int D,.int Hh]:=cN.of aB
  have htup:upd H q (.tup [.int W,.int D,.int Hh]) q=some (.tup [.int W,.int D,.int Hh]):=aB
  refine ⟨_,rfl,q,_,rfl,hsq,?_⟩
  refine Mq (xs:=[.int W,.int D,.int Hh]) (fun i σ H'=>∃ v2 v3 v4 v5,σ=[some (.ref b),some (.ref q),v2,v3,v4,v5]/\aL (upd H q (.tup [.int W,.int D,.int Hh])) H'/\∀ j,j<i->fK cs j ([W,D,Hh].getD j 0)=true) ⟨none,none,none,none,rfl,aL.id' _,fun j hj=>absurd hj (Nat.not_lt_zero _)⟩ ?_ ?_ ?_
  ·rintro i σ H1 hi ⟨v2,v3,v4,v5,rfl,S1,_⟩
   exact cN.of (S1 _ _ htup)
  ·rintro i x σ H1 T ex ⟨v2,v3,v4,v5,rfl,S1,al⟩ hT
   have hi:i<3:=(List.getElem?_eq_some_iff.mp ex).1
   obtain ⟨n,rfl,en⟩:∃ n:Int,x=.int n/\[W,D,Hh].getD i 0=n:=by
    match i,hi,ex with
    |0,_,ex=>cases ex;exact ⟨_,rfl,rfl⟩
    |1,_,ex=>cases ex;exact ⟨_,rfl,rfl⟩
    |2,_,ex=>cases ex;exact ⟨_,rfl,rfl⟩
   have ST:=aL.new (o:=.tup [.int (i:Nat),.int n]) hT
   have S2:=(S0.trans S1).trans ST
   refine ⟨T,_,rfl,cN.of aB,rfl,_,_,rfl,_,_,rfl,rfl,?_⟩
   have hb2:=S2 _ _ hb
   have hc2:=S2 _ _ hc
   have S12:=S1.trans ST
   generalize upd H1 T (.tup [.int (i:Nat),.int n])=H2 at hb2 hc2 S2 S12
   have nbc:b≠c:=fun z=>by rw [z,hc2] at hb2;cases hb2
   refine ⟨c,_,hc2,trivial,fun od=>?_⟩
   have hcL:upd H2 c (.frz od (.dT (aJ cs))) c=some (.frz od (.dT (aJ cs))):=aB
   have hbL:upd H2 c (.frz od (.dT (aJ cs))) b=some (.ins CP dx (Op nm W D Hh g c)):=by rw [aC nbc];exact hb2
   refine ⟨_,rfl,b,CP,dx,_,_,rfl,hbL,T'.cl,T'.n6,rfl,c,od,rfl,.inr ⟨aJ cs,hcL,fun Dl hDl=>?_⟩⟩
   refine Ep (fun j H'=>aL (upd H2 c (.frz od (.dT (aJ cs)))) H'/\H' Dl=some (.lst ((fU (cs.take j) i).map V.int))) ⟨aL.new hDl,aB⟩ (fun j H' _ p=>p.1 _ _ hcL) ?_ ?_
   ·rintro j kk vv q2 H3 e3 ⟨S3,hD3⟩ hq2
    obtain ⟨p,sg,e4,rfl,rfl⟩:=jK e3
    have hj:j<cs.length:=(List.getElem?_eq_some_iff.mp e4).1
    refine ⟨rfl,⟨_,rfl,_,rfl,q2,_,(i:Int),.int (coP p i),rfl,rfl,cN.of hq2,?_,_,hD3,?_,?_⟩⟩
    ·match i,hi with
     |0,_=>rfl
     |1,_=>rfl
     |2,_=>rfl
    ·rw [List.length_map]
     unfold fU
     rw [List.length_map,List.length_take]
     have:=aY
     (clear hj en hi;omega)
    ·refine ⟨fun b' o e=>?_,?_⟩
     ·rw [aC (aD e hDl)]
      exact S3 _ _ e
     ·rw [aB]
      unfold fU
      rw [List.take_succ,e4]
      simp
   ·rintro H3 ⟨S3,hD3⟩
    have hl2:(aJ cs).length=cs.length:=by unfold aJ;rw [List.length_map]
    rw [hl2,List.take_length] at hD3
    refine ⟨S3 _ _ hcL,?_⟩
    have S4:=iL hc2 S3
    have nDc:Dl≠c:=fun z=>by rw [z,hcL] at hDl;cases hDl
    have hD4:upd H3 c (.dT (aJ cs)) Dl=some (.lst ((fU cs i).map V.int)):=by rw [aC nDc];exact hD3
    generalize upd H3 c (.dT (aJ cs))=H4 at S4 hD4
    have S5:=S12.trans S4
    have fal:fK cs i n=false->nA cs W D Hh=false:=by
     intro z
     unfold nA
     rw [<-en] at z
     match i,hi,z with
     |0,_,z=>rw [show fK cs 0 W=false from z];rfl
     |1,_,z=>rw [show fK cs 1 D=false from z,Bool.and_false];rfl
     |2,_,z=>rw [show fK cs 2 Hh=false from z,Bool.and_false]
    have fin:fK cs i n=false->Q (.bl false) H4:=fun z=>by
     have kk:=k H4 (S0.trans S5)
     rw [fal z] at kk
     exact kk
    have allf:((fU cs i).map V.int).all oU=true:=List.all_eq_true.mpr fun x hx=>by
     obtain ⟨y,_,rfl⟩:=List.mem_map.mp hx
     rfl
    refine ⟨_,rfl,Dl,_,rfl,.inl (cW.of hD4),rfl,allf,_,rfl,cF (fun h0=>Sv ?_) (fun h0=>?_)⟩
    ·have h0:(!Px (.int 0) ((fU cs i).map V.int))=true:=h0
     rw [iS,Bool.not_eq_true'] at h0
     exact fin (by unfold fK;rw [h0];rfl)
    ·have h0:¬(!Px (.int 0) ((fU cs i).map V.int))=true:=h0
     rw [iS,Bool.not_eq_true',Bool.not_eq_false] at h0
     refine ⟨_,rfl,_,_,rfl,rfl,_,rfl,Dl,_,rfl,.inl (cW.of hD4),rfl,allf,_,rfl,cF (fun h1=>?_) (fun h1=>?_)⟩
     ·have h1:(!Px (.int (n - 1)) ((fU cs i).map V.int))=true:=h1
      rw [iS,Bool.not_eq_true'] at h1
      exact fin (by unfold fK;rw [h1,Bool.and_false])
     ·have h1:¬(!Px (.int (n - 1)) ((fU cs i).map V.int))=true:=h1
      rw [iS,Bool.not_eq_true',Bool.not_eq_false] at h1
      refine ⟨_,_,_,_,rfl,S5,fun j hj=>?_⟩
      by_cases hji:j=i
      ·rw [hji,en]
       unfold fK
       rw [h0,h1]
       rfl
      ·exact al j (by (clear hl2 en hi hl;omega))
  ·rintro σ H1 ⟨v2,v3,v4,v5,rfl,S1,al⟩
   have kk:=k H1 (S0.trans S1)
   have e:nA cs W D Hh=true:=by
    unfold nA
    rw [show fK cs 0 W=true from al 0 (by show 0<3;decide),show fK cs 1 D=true from al 1 (by show 1<3;decide),show fK cs 2 Hh=true from al 2 (by show 2<3;decide)]
    rfl
   rw [e] at kk
   exact kk
end
end Br1
namespace L2
open PySem PySem.Spec PyProof.Rows
def aAf (tk tv:TE):TE:=fun σ H Q=>∀ p,H p=none->tk σ (upd H p (.dT [])) fun x H1=>tv σ H1 fun y H2=>H2 p=some (.dT [])/\∃ (b:Addr) (ks:List eF),x=.ref b/\H2 b=some (.tup (ks.map kV))/\Q (.ref p) (upd H2 p (.dT [(ks,y)]))
theorem aBz {X:Cx} {pins:List (Addr×Obj)} {σ:St} {H:Hp} {s:Shared} {a b:Addr} {v:V} {r:Value} {ks:List eF} {A:Around} {E:Value->Shared->Prop} {Q:Unit->Shared->Prop} (hu:A.units+1<cLine) (I:aQ X pins σ H s) (e:H a=some (.dT [])) (eb:H b=some (.tup (ks.map kV))) (rv:cD v r)
  (h:∀ s',aQ X pins σ (upd H a (.dT [(ks,v)])) s'->Q () s'):wpAny (model X.prog X.w) A (dictSet a (.ref b) r) Q E s:=by
 obtain ⟨z,hd,xs,rel,dd⟩:=Ww I.hok e
 have hz:xs.length<=sizeLine:=by rw [<-Paired.length rel];exact z
 refine wpAny_dictSet_heap (hsz:=hz) (Nat.lt_of_succ_lt hu) (sU I.hok eb) dd fun h' dd' hs=>h _ ?_
 obtain ⟨q,es,ep,hq,h2,h3,h4,_,h5⟩:=dd'
 have hl:(lG ([]:List (List eF×V)) ks v).length<=sizeLine:=by show 1<=sizeLine;decide
 refine Cm I (by rw [e];exact True.intro) hs ⟨q,hq⟩ ⟨hl,hd,_,(rel.put ks eb rv).keeps fun c ys ec=>?_,q,es,ep,hq,h2,h3,h4,h5⟩
 rw [aC (Xv ec e (fun z=>nomatch z))]
 exact ec
theorem Sq {X:Cx} {pos:Pos} {k v:Expr} {tk tv:TE} (hu:X.A.units+1<cLine) (hk:PE X k tk) (hv:PE X v tv):PE X (.Dict [some k] [v] pos) (aAf tk tv):=by
 intro pins s σ H Q I q
 have hn:=I.hok.fresh (Nat.le_refl s.heap.objs.size)
 have I1:=I.laid (a:=s.heap.objs.size) (o:=.dT []) (h':=s.heap.push {cls:=.type "dict",data:=.dict #[]}) (t':=s.toks) (fun _ _ q=>Heap.get?_push_of_some _ q) (Nat.le_refl _) (Ev s.heap I.big)
 rw [arm_eval_Dict,zip_pairTrees [some k] [v] X.env pos rfl rfl,dictDisplay_pairs (pairTrees [some k] [v] X.env pos) (by intro z;cases z) (by show 1<17;decide)]
 refine wpAny_bind (wpAny_standAt (wpAny_bind ?_))
 unfold subDict
 refine wpAny_bind (wpAny_alloc (wpAny_bind (wpAny_holding ?_)))
 rw [if_pos (show (pairTrees [some k] [v] X.env pos).length<=15 by show 1<=15;decide)]
 refine wpAny_bind (pairTrees_cons_walk (cV (hk pins _ σ _ _ I1 (q _ hn)) fun u s1 ⟨x,H1,I2,rx,q1⟩=>cV (hv pins s1 σ H1 _ I2 q1) fun w2 s2 ⟨y,H2,I3,ry,q2⟩=>pairTrees_nil_walk ?_))
 obtain ⟨e,b,ks,rfl,eb,q2⟩:=q2
 cases (show u=Value.ref b from rx)
 refine wpAny_holding ?_
 rw [List.forIn_cons]
 refine wpAny_bind (wpAny_bind (wpAny_bind (aBz hu I3 e eb ry fun s3 I4=>wpAny_pure ?_)))
 show wpAny _ _ (forIn [] _ _) _ _ s3
 rw [List.forIn_nil]
 exact wpAny_pure (wpAny_pure (wpAny_pure (wpAny_pure ⟨.ref s.heap.objs.size,_,I4,rfl,q2⟩)))
end L2
namespace Br1
open PySem PySem.Spec PyProof.Rows L2
def zU (p:Pl):List Pl:=[(p.1 - 1,p.2.1,p.2.2),(p.1+1,p.2.1,p.2.2),(p.1,p.2.1 - 1,p.2.2),(p.1,p.2.1+1,p.2.2),pB p,pH p]
def Tk (p:Pl):List V:=[.int p.1,.int p.2.1,.int p.2.2]
def jI (H:Hp) (qs:List Addr) (ps:List Pl):Prop:=Paired (fun q p=>H q=some (.tup (Tk p))) qs ps
theorem jI.same {H H':Hp} {qs:List Addr} {ps:List Pl} (h:jI H qs ps) (s:aL H H'):jI H' qs ps:=Paired.mapP h fun _ _ e=>s _ _ e
section
variable {P:Program} {w:World} {K:PySem.W.Frag} {mg:Str->Option Value} {base:Heap} {C CR CP:Addr}
def Bl:Sp:=fun vs H Q _=>∃ (g:Addr) (p:Pl),vs=[.ref g]/\H g=some (.tup (Tk p))/\∀ (H':Hp) (l:Addr) (qs:List Addr),aL H H'->H l=none->H' l=some (.lst (qs.map V.ref))->jI H' qs (zU p)->Q (.ref l) H'
theorem qR:aO ["place","x","y","z"] ["place"] (aG Ar):=⟨rfl,rfl,rfl,by decide+kernel,rfl,by decide+kernel,by decide+kernel⟩
theorem Qj {f:Addr} {fd:FuncData} (F:fE K "neighbours" "neighbours" Ar f fd) (L1:dL P w K mg base "above" bU 1 ["place"] oH) (L2:dL P w K mg base "below" bU 1 ["place"] nU):
  bV P w K mg base bU 2 f fd ["place"] Bl:=by
 obtain ⟨g1,gd1,G1,b1,k1,h1⟩:=L1.ex
 obtain ⟨g2,gd2,G2,b2,k2,h2⟩:=L2.ex
 refine F.ok qR (fun vs H Q E h=>?_) (fun cdv A outer s H vs Q E hr h=>?_)
 ·obtain ⟨g,p,rfl,_⟩:=h
  rfl
 ·obtain ⟨g,p,rfl,hg,k⟩:=h
  have hr1:=hr.mono (j:=1) (by decide)
  refine ⟨_,aF (bI (i:=1) qR.nd rfl (Or.inl rfl) (bO aZ (pv 0) aI (fun _ _=>rfl)))
   (aF (bI (i:=2) qR.nd rfl (Or.inl rfl) (bO aZ (pv 0) aI (fun _ _=>rfl)))
   (aF (bI (i:=3) qR.nd rfl (Or.inl rfl) (bO aZ (pv 0) aI (fun _ _=>rfl)))
   (aH (aU (eE (aA (eJ (aA (bZ eC (pv 1) aI) (aA (pv 2) (aA (pv 3) aE)))) (aA (eJ (aA (bZ fJ (pv 1) aI) (aA (pv 2) (aA (pv 3) aE))))
    (aA (eJ (aA (pv 1) (aA (bZ eC (pv 2) aI) (aA (pv 3) aE)))) (aA (eJ (aA (pv 1) (aA (bZ fJ (pv 2) aI) (aA (pv 3) aE))))
    (aA (aP G1 hr1 (by rfl) h1 k1 b1 .nil aX (aA (pv 0) aE)) (aA (aP G2 hr1 (by rfl) h2 k2 b2 .nil aX (aA (pv 0) aE)) aE))))))))))),?_⟩
  refine ⟨_,rfl,g,_,_,_,rfl,rfl,cN.of hg,rfl,?_⟩
  refine ⟨_,rfl,g,_,_,_,rfl,rfl,cN.of hg,rfl,?_⟩
  refine ⟨_,rfl,g,_,_,_,rfl,rfl,cN.of hg,rfl,?_⟩
  have sz:∀ a b c:V,[a,b,c].length<=sizeLine:=fun _ _ _=>by show 3<=sizeLine;decide
  refine ⟨_,rfl,_,_,rfl,rfl,_,rfl,_,rfl,sz _ _ _,fun q1 n1=>?_⟩
  refine ⟨_,rfl,_,_,rfl,rfl,_,rfl,_,rfl,sz _ _ _,fun q2 n2=>?_⟩
  refine ⟨_,rfl,_,rfl,_,_,rfl,rfl,_,rfl,sz _ _ _,fun q3 n3=>?_⟩
  refine ⟨_,rfl,_,rfl,_,_,rfl,rfl,_,rfl,sz _ _ _,fun q4 n4=>?_⟩
  have S1:=aL.new (o:=.tup (Tk (p.1 - 1,p.2.1,p.2.2))) n1
  have S2:=aL.new (o:=.tup (Tk (p.1+1,p.2.1,p.2.2))) n2
  have S3:=aL.new (o:=.tup (Tk (p.1,p.2.1 - 1,p.2.2))) n3
  have S4:=aL.new (o:=.tup (Tk (p.1,p.2.1+1,p.2.2))) n4
  have hg4:=S4 _ _ (S3 _ _ (S2 _ _ (S1 _ _ hg)))
  refine ⟨_,rfl,g,p.1,p.2.1,p.2.2,rfl,hg4,fun q5 n5=>?_⟩
  have S5:=aL.new (o:=.tup (Tk (pB p))) n5
  refine ⟨_,rfl,g,p.1,p.2.1,p.2.2,rfl,S5 _ _ hg4,fun q6 n6=>?_⟩
  have S6:=aL.new (o:=.tup (Tk (pH p))) n6
  refine ⟨by show 6<=sizeLine;decide,fun l nl=>?_⟩
  have S7:=aL.new (o:=.lst [V.ref q1,V.ref q2,V.ref q3,V.ref q4,V.ref q5,V.ref q6]) nl
  have SB:=(((((S1.trans S2).trans S3).trans S4).trans S5).trans S6)
  refine k _ l [q1,q2,q3,q4,q5,q6] (SB.trans S7) (SB.free nl) aB ?_
  ·refine .cons ?_ (.cons ?_ (.cons ?_ (.cons ?_ (.cons ?_ (.cons ?_ .nil)))))
   ·exact (((((S2.trans S3).trans S4).trans S5).trans S6).trans S7) _ _ aB
   ·exact ((((S3.trans S4).trans S5).trans S6).trans S7) _ _ aB
   ·exact (((S4.trans S5).trans S6).trans S7) _ _ aB
   ·exact ((S5.trans S6).trans S7) _ _ aB
   ·exact (S6.trans S7) _ _ aB
   ·exact S7 _ _ aB
def jF:List (List Int)->Bool
 |a::b::r=> !HT.gD b a && jF (b::r)
 |_=>true
def Ty (CP:Addr) (H:Hp) (b:Addr) (nm:List Int):Prop:=∃ dx q W D Hh g c,H b=some (.ins CP dx (Op q W D Hh g c))/\H q=some (.tup (nm.map V.int))
def Hf (K:PySem.W.Frag) (CP:Addr):Sp:=fun vs H Q _=>∃ (a:Addr) (bs:List Addr) (nms:List (List Int)),vs=[.ref a]/\cW K H a (bs.map V.ref)/\Paired (Ty CP H) bs nms/\1<=nms.length/\nms.length<=64/\Q (.bl (jF nms)) H
theorem Ju:aO ["parts","k"] ["parts"] (aG Jp):=⟨rfl,rfl,rfl,by decide+kernel,rfl,by decide+kernel,by decide+kernel⟩
theorem sB:∀ {l:List (List Int)},jF l=true↔∀ i a b,l[i]?=some a->l[i+1]?=some b->HT.gD b a=false
 |[]=>by simp [jF]
 |[x]=>by simp [jF]
 |x::y::r=>by
  have ih:=sB (l:=y::r)
  rw [jF,Bool.and_eq_true,ih,Bool.not_eq_true']
  constructor
  ·rintro ⟨h1,h2⟩ i a b ea eb
   cases i with
   |zero=>
    cases ea
    cases eb
    exact h1
   |succ i=>exact h2 i a b ea eb
  ·intro h
   exact ⟨h 0 x y rfl rfl,fun i a b ea eb=>h (i+1) a b ea eb⟩
theorem cA {α β:Type} {R:α->β->Prop}:∀ {as:List α} {bs:List β},Paired R as bs->∀ {i:Nat} {b:β},bs[i]?=some b->∃ a,as[i]?=some a/\R a b
 |_,_,.nil,i,b,h=>by simp at h
 |_,_,.cons r t,i,b,h=>by
  cases i with
  |zero=>cases h;exact ⟨_,rfl,r⟩
  |succ i=>exact cA t h
theorem Wm {f:Addr} {fd:FuncData} (F:fE K "names_grow" "names_grow" Jp f fd) (T':Oo K CP) (hrange:mg "range"=none) (hlen:mg "len"=none):bV P w K mg base bU 2 f fd ["parts"] (Hf K CP):=by
 refine F.ok Ju (fun vs H Q E h=>?_) (fun cdv A outer s H vs Q E hr h=>?_)
 ·obtain ⟨a,bs,nms,rfl,_⟩:=h
  rfl
 ·obtain ⟨a,bs,nms,rfl,ha,hp,hn1,hn,k⟩:=h
  have hu:=lU hr
  refine ⟨_,aF (eQ PassesOwn.never rfl (Nc rfl hrange (aA aI (aA (bQ bW (by rfl) hlen PySem.boot_len (aA (pv 0) aE)) aE))) (bH (i:=1) Ju.nd rfl (Or.inl rfl))
    (aH (eG (hX (Zy (Nat.lt_of_succ_lt hu)) (aT (bO jE (pv 0) (pv 1) (fun _ _=>rfl)) rfl) (aT (bO jE (pv 0) (bZ eC (pv 1) aI) (fun _ _=>rfl)) rfl) (gX _)) (aH (aU mX)) cC)))
   (aH (aU mX)),?_⟩
  have hbl:bs.length=nms.length:=Paired.length hp
  have hsl:=aY
  have at':∀ (i:Nat) (nm:List Int),nms[i]?=some nm->∃ b,Mf (bs.map V.ref) (i:Int)=some (.ref b)/\Ty CP H b nm:=fun i nm e=>by
   obtain ⟨b,e1,e2⟩:=cA hp e
   exact ⟨b,iC (by rw [List.getElem?_map,e1];rfl),e2⟩
  have hml:(bs.map V.ref).length=nms.length:=by rw [List.length_map,hbl]
  refine ⟨_,rfl,a,_,rfl,.inl ha,1,((bs.map V.ref).length:Int),rfl,⟨by decide,by decide,by (clear hml hsl hbl hu hn hn1;omega),by rw [hml];(clear hml hsl hbl hu hn1;omega)⟩,?_⟩
  have et:(((bs.map V.ref).length:Int) - 1).toNat=nms.length - 1:=by rw [hml];(clear hml hsl hbl hu hn hn1;omega)
  rw [et]
  refine rY (fun i σ H'=>∃ v1,σ=[some (.ref a),v1]/\H'=H/\∀ j x y,j<i->nms[j]?=some x->nms[j+1]?=some y->HT.gD y x=false) ⟨none,rfl,rfl,fun j x y hj=>absurd hj (Nat.not_lt_zero _)⟩ ?_ ?_
  ·rintro i σ H1 hi ⟨v1,rfl,rfl,al⟩
   have e0:nms[i]?=some nms[i]:=List.getElem?_eq_getElem (by (clear et hml hsl hbl hu hn hn1;omega))
   have e1:nms[i+1]?=some nms[i+1]:=List.getElem?_eq_getElem (by (clear et hsl hu;omega))
   obtain ⟨c0,g0,dx0,q0,W0,D0,H0,w0,cc0,f0,t0⟩:=at' i _ e0
   obtain ⟨c1,g1,dx1,q1,W1,D1,H1',w1,cc1,f1,t1⟩:=at' (i+1) _ e1
   have z1:(1:Int)+(i:Int)=((i+1:Nat):Int):=by (clear et hsl hu;omega)
   have z2:(1:Int)+(i:Int) - 1=((i:Nat):Int):=by (clear z1 et hsl hu;omega)
   refine ⟨_,rfl,_,rfl,a,_,_,_,rfl,rfl,ha,by rw [z1];exact g1,c1,CP,dx1,_,_,rfl,f1,T'.cl,T'.n1,rfl,?_⟩
   refine ⟨_,rfl,_,rfl,_,_,rfl,rfl,a,_,_,_,rfl,rfl,ha,by rw [z2];exact g0,c0,CP,dx0,_,_,rfl,f0,T'.cl,T'.n1,rfl,?_⟩
   refine ⟨q1,q0,_,_,rfl,rfl,cN.of t1,cN.of t0,_,rfl,cF (fun hle=>?_) (fun hle=>?_)⟩
   ·have e3:jF nms=false:=by
     rw [Bool.eq_false_iff]
     intro z
     have:=sB.mp z i _ _ e0 e1
     rw [hle] at this
     cases this
    rw [e3] at k
    exact k
   ·refine ⟨_,rfl,rfl,fun j x y hj ex ey=>?_⟩
    by_cases hji:j=i
    ·subst hji
     rw [e0] at ex
     rw [e1] at ey
     cases ex
     cases ey
     exact cR hle
    ·exact al j x y (by (clear hle z2 z1 et hsl hu;omega)) ex ey
  ·rintro σ H1 ⟨v1,rfl,rfl,al⟩
   have e3:jF nms=true:=sB.mpr fun i x y ex ey=>by
    have:=(List.getElem?_eq_some_iff.mp ey).1
    exact al i x y (by (clear et hml hsl hbl hu hn hn1;omega)) ex ey
   rw [e3] at k
   exact k
end
def gU (cs:CL) (st:List Pl×List Pl) (p:Pl):List Pl×List Pl:=if (bE cs p).isSome=true/\p∉st.1 then (st.1++[p],st.2++[p]) else st
def dQ (cs:CL):Nat->List Pl->List Pl->List Pl
 |0,rs,_=>rs
 |n+1,rs,ws=>match ws.getLast? with
  |none=>rs
  |some q=>dQ cs n ((zU q).foldl (gU cs) (rs,ws.dropLast)).1 ((zU q).foldl (gU cs) (rs,ws.dropLast)).2
def vL (cs:CL) (rs:List Pl):Nat:=(cs.filter fun c=> !decide (c.1∈rs)).length
def wK:CL->Bool
 |[]=>false
 |c::r=>decide ((dQ (c::r) (c::r).length [c.1] [c.1]).length=(c::r).length)
theorem nF (c:Pl×Int) (r:CL) (rs:List Pl):vL (c::r) rs=(if c.1∈rs then 0 else 1)+vL r rs:=by
 unfold vL
 by_cases h:c.1∈rs
 ·rw [List.filter_cons_of_neg (by simp [h]),if_pos h,Nat.zero_add]
 ·rw [List.filter_cons_of_pos (by simp [h]),if_neg h,List.length_cons,Nat.add_comm]
theorem Tb (p:Pl) (rs:List Pl):∀ cs:CL,vL cs (rs++[p])<=vL cs rs
 |[]=>Nat.le_refl _
 |c::r=>by
  have ih:=Tb p rs r
  rw [nF,nF]
  by_cases h:c.1∈rs
  ·rw [if_pos h,if_pos (List.mem_append_left _ h)];omega
  ·rw [if_neg h]
   split<;>omega
theorem dM {cs:CL} {p:Pl}:(bE cs p).isSome=true↔∃ c∈cs,c.1=p:=by
 unfold bE
 rw [Option.isSome_map,List.find?_isSome]
 simp
theorem mJ {p:Pl} {rs:List Pl} (hp:p∉rs):∀ {cs:CL},(bE cs p).isSome=true->vL cs (rs++[p])+1<=vL cs rs
 |[],h=>by cases h
 |c::r,h=>by
  have hle:=Tb p rs r
  rw [nF,nF]
  by_cases hc:c.1=p
  ·rw [if_pos (by simp [hc]),if_neg (by rw [hc];exact hp)];(clear hp;omega)
  ·have h2:(bE r p).isSome=true:=by
    rw [dM] at h ⊢
    obtain ⟨x,hx,e⟩:=h
    rcases List.mem_cons.mp hx with rfl|hx
    ·exact absurd e hc
    ·exact ⟨x,hx,e⟩
   have ih:=mJ hp h2
   by_cases h3:c.1∈rs
   ·rw [if_pos h3,if_pos (List.mem_append_left _ h3)];(clear hc hle hp;omega)
   ·rw [if_neg h3,if_neg (by simp [h3,hc])];(clear h3 hc hle hp;omega)
def Oh (rs:List Pl):List (List eF×V):=rs.map fun p=>(eN p.1 p.2.1 p.2.2,V.bl true)
theorem qL (p:Pl):∀ rs:List Pl,lP (Oh rs) (eN p.1 p.2.1 p.2.2)=if p∈rs then some (V.bl true) else none
 |[]=>rfl
 |c::r=>by
  have ih:=qL p r
  unfold lP Oh at *
  rw [List.map_cons,List.find?_cons]
  by_cases h:c=p
  ·subst h
   simp
  ·have h2:¬eN c.1 c.2.1 c.2.2=eN p.1 p.2.1 p.2.2:=fun z=>h (vC.mp z)
   simp only [h2,decide_false]
   rw [ih]
   by_cases h3:p∈r
   ·rw [if_pos h3,if_pos (List.mem_cons_of_mem _ h3)]
   ·rw [if_neg h3,if_neg (by simp [h3,Ne.symm h])]
theorem jI.upd {H:Hp} {a:Addr} {o o':HO} {qs:List Addr} {ps:List Pl} (h:jI H qs ps) (ha:H a=some o) (ho:∀ xs,o≠.tup xs):jI (upd H a o') qs ps:=Paired.mapP h fun q p e=>by
 rw [aC (by rintro rfl;rw [ha] at e;cases e;exact ho _ rfl)]
 exact e
theorem tM {α β:Type} {R:α->β->Prop}:∀ {as:List α} {bs:List β},Paired R as bs->Paired R as.dropLast bs.dropLast
 |_,_,.nil=>.nil
 |_,_,.cons r .nil=>.nil
 |_,_,.cons r (.cons r2 t)=>.cons r (tM (.cons r2 t))
structure HS (CP:Addr) (H:Hp) (cs:CL) (d l:Addr) (rs ws:List Pl) (qs:List Addr) (H':Hp):Prop where
 sm:aL H H'
 dd:H' d=some (.dT (Oh rs))
 ll:H' l=some (.lst (qs.map V.ref))
 pl:jI H' qs ws
 c1:rs.length+vL cs rs<=cs.length
 c2:ws.length<=rs.length
theorem HS.same {CP:Addr} {H H1 H2:Hp} {cs:CL} {d l:Addr} {rs ws:List Pl} {qs:List Addr} (h:HS CP H cs d l rs ws qs H1) (s:aL H1 H2):HS CP H cs d l rs ws qs H2:=⟨h.sm.trans s,s _ _ h.dd,s _ _ h.ll,h.pl.same s,h.c1,h.c2⟩
theorem Ql {rs:List Pl} {p:Pl} (h:p∉rs):lG (Oh rs) (eN p.1 p.2.1 p.2.2) (V.bl true)=Oh (rs++[p]):=by
 rw [xG (V.bl true) (by rw [qL,if_neg h])]
 unfold Oh
 rw [List.map_append]
 rfl
section
variable {P:Program} {w:World} {K:PySem.W.Frag} {mg:Str->Option Value} {base:Heap} {C CR CP:Addr}
def Bb (CP:Addr):Sp:=fun vs H Q _=>∃ (b nm:Addr) (W D Hh g:Int) (cs:CL),vs=[.ref b]/\yD CP H b nm W D Hh g cs/\cs.length<20000/\∀ H',aL H H'->Q (.bl (wK cs)) H'
theorem jW:aO ["part","start","reached","waiting","reached_last","place"] ["part"] (aG Bs):=⟨rfl,rfl,rfl,by decide+kernel,rfl,by decide+kernel,by decide+kernel⟩
theorem Sh {f:Addr} {fd:FuncData} (F:fE K "hangs_together" "hangs_together" Bs f fd) (T':Oo K CP) (hlen:mg "len"=none) (hlist:mg "list"=none) (L1:dL P w K mg base "neighbours" bU 2 ["place"] Bl):
  bV P w K mg base bU 3 f fd ["part"] (Bb CP):=by
 obtain ⟨g1,gd1,G1,b1,k1,h1⟩:=L1.ex
 refine F.ok jW (fun vs H Q E h=>?_) (fun cdv A outer s H vs Q E hr h=>?_)
 ·obtain ⟨b,nm,W,D,Hh,g,cs,rfl,_⟩:=h
  rfl
 ·obtain ⟨b,nm,W,D,Hh,g,cs,rfl,⟨dx,c,hb,hc⟩,hl,k⟩:=h
  have hr2:=hr.mono (j:=2) (by decide)
  have hu:=lU hr
  refine ⟨_,aF (eG (hX pY (bQ sC (by rfl) hlen PySem.boot_len (aA (aT (pv 0) rfl) aE)) aI (gX _)) (aH (aU mX)) cC)
   (aF (bI (i:=1) jW.nd rfl (Or.inl rfl) (bO jE (kQ (Hx rfl) (by rfl) hlist boot_list (aA (aT (pv 0) rfl) aE)) aI (fun _ _=>rfl)))
   (aF (bI (i:=2) jW.nd rfl (Or.inl rfl) (Sq hu (pv 1) mX))
   (aF (bI (i:=3) jW.nd rfl (Or.inl rfl) (eE (aA (pv 1) aE)))
   (aF (kJ PassesOwn.never (dR (rB (bQ bW (by rfl) hlen PySem.boot_len (aA (pv 3) aE)) aI))
    (aF (bI (i:=4) jW.nd rfl (Or.inl rfl) (aAs PySem.F.plainAttrs_list PySem.F.slot_list_pop PySem.F.type_list_pop aAa (pv 3)))
    (aH (eQ PassesOwn.never rfl (gN (aP G1 hr2 (by rfl) h1 k1 b1 .nil aX (aA (pv 4) aE))) (bH (i:=5) jW.nd rfl (Or.inl rfl))
     (aH (eG (gZ (dR (sM hu (pv 5) (aT (pv 0) rfl))) (iA (dR (Mn hu (pv 5) (pv 2))))).pt
      (aF (nS hu (pv 2) (pv 5) mX rfl) (aH (cH (mV PySem.F.plainAttrs_list PySem.F.slot_list_append PySem.F.type_list_append gJ (pv 3) (aA (pv 5) aE))))) cC))))))
   (aH (aU (kZ pY (bQ sC (by rfl) hlen PySem.boot_len (aA (pv 2) aE)) (bQ sC (by rfl) hlen PySem.boot_len (aA (aT (pv 0) rfl) aE)) (gX _)))))))),?_⟩
  have kl:(aJ cs).length=cs.length:=by unfold aJ;rw [List.length_map]
  have hsl:=aY
  refine ⟨_,rfl,b,CP,dx,_,_,rfl,hb,T'.cl,T'.n6,rfl,c,_,rfl,.inl hc,rfl,_,rfl,cF (fun h0=>?_) (fun h0=>?_)⟩
  ·rw [hG] at h0
   have h0:=of_decide_eq_true h0
   have e0:cs=[]:=List.length_eq_zero_iff.mp (by (clear hsl hu hl;omega))
   subst e0
   exact k H (aL.id' _)
  ·rw [hG] at h0
   have h0:¬((aJ cs).length:Int)=0:=fun z=>h0 (decide_eq_true z)
   cases cs with
   |nil=>exact absurd rfl h0
   |cons c0 cr=>
   refine ⟨_,rfl,b,CP,dx,_,_,rfl,hb,T'.cl,T'.n6,rfl,c,_,rfl,.inl hc,fun lk ps hlk hps=>?_⟩
   obtain ⟨st,psr,rfl,hst⟩:∃ st psr,ps=st::psr/\H st=some (.tup (Tk c0.1)):=by
    cases hps with
    |cons r t=>exact ⟨_,_,rfl,r⟩
   have S1:=aL.new (o:=.lst ((st::psr).map V.ref)) hlk
   refine ⟨lk,_,0,.ref st,rfl,rfl,cW.of aB,iC (j:=0) rfl,?_⟩
   have hst1:=S1 _ _ hst
   generalize upd H lk (.lst ((st::psr).map V.ref))=H1 at S1 hst1
   intro d hd
   have S2:=aL.new (o:=.dT []) hd
   refine ⟨_,rfl,aB,st,eN c0.1.1 c0.1.2.1 c0.1.2.2,rfl,S2 _ _ hst1,?_⟩
   refine ⟨_,rfl,by show 1<=sizeLine;decide,fun l hl'=>?_⟩
   have dd0:upd (upd H1 d (.dT [])) d (.dT [(eN c0.1.1 c0.1.2.1 c0.1.2.2,V.bl true)])=upd H1 d (.dT (Oh [c0.1])):=by
    funext x
    by_cases hx:x=d
    ·rw [hx,aB,aB];rfl
    ·rw [aC hx,aC hx,aC hx]
   rw [dd0] at hl' ⊢
   have S3:aL H1 (upd H1 d (.dT (Oh [c0.1]))):=aL.new hd
   have S4:=aL.new (o:=.lst [V.ref st]) hl'
   have hdH:H d=none:=S1.free hd
   have hlH:H l=none:=(S1.trans S3).free hl'
   have ndl:d≠l:=fun z=>by rw [<-z,aB] at hl';cases hl'
   have hb':∀ {H':Hp},aL H H'->H' b=some (.ins CP dx (Op nm W D Hh g c)):=fun s=>s _ _ hb
   have hc':∀ {H':Hp},aL H H'->H' c=some (.dT (aJ (c0::cr))):=fun s=>s _ _ hc
   generalize hcs:c0::cr=cs at *
   refine ⟨fun m σ H'=>∃ rs ws qs v4 v5,σ=[some (.ref b),some (.ref st),some (.ref d),some (.ref l),v4,v5]/\HS CP H cs d l rs ws qs H'/\ws.length+vL cs rs<=m/\dQ cs cs.length [c0.1] [c0.1]=dQ cs m rs ws,
    ⟨cs.length,[c0.1],[c0.1],[st],none,none,rfl,⟨(S1.trans S3).trans S4,S4 _ _ aB,aB,.cons (S4 _ _ (S3 _ _ hst1)) .nil,?_,Nat.le_refl _⟩,?_,rfl⟩,?_⟩
   ·have u1:vL cs [c0.1]+1<=cs.length:=by
     have z:=mJ (p:=c0.1) (rs:=[]) (cs:=cs) (by simp) (dM.mpr ⟨c0,by rw [<-hcs];exact List.mem_cons_self,rfl⟩)
     have z2:vL cs []<=cs.length:=List.length_filter_le _ _
     exact Nat.le_trans z z2
    show 1+vL cs [c0.1]<=cs.length
    (clear h0 kl hl hsl hu;omega)
   ·have u1:vL cs [c0.1]+1<=cs.length:=by
     have z:=mJ (p:=c0.1) (rs:=[]) (cs:=cs) (by simp) (dM.mpr ⟨c0,by rw [<-hcs];exact List.mem_cons_self,rfl⟩)
     have z2:vL cs []<=cs.length:=List.length_filter_le _ _
     exact Nat.le_trans z z2
    show 1+vL cs [c0.1]<=cs.length
    (clear h0 kl hl hsl hu;omega)
   ·rintro m σ H2 ⟨rs,ws,qs,v4,v5,rfl,hs,hm,er⟩
    have ql:qs.length=ws.length:=Paired.length hs.pl
    refine ⟨_,rfl,l,_,rfl,.inl (cW.of hs.ll),_,_,rfl,rfl,_,rfl,cF (fun hw=>?_) (fun hw=>?_)⟩
    ·have hw:(0:Int)<((qs.map V.ref).length:Int):=of_decide_eq_true hw
     rw [List.length_map] at hw
     obtain ⟨n,rfl⟩:∃ n,m=n+1:=⟨m - 1,by (clear h0 kl hl hsl hu;omega)⟩
     obtain ⟨q,eq⟩:∃ q,ws[ws.length - 1]?=some q:=⟨_,List.getElem?_eq_getElem (by (clear hm h0 kl hl hsl hu;omega))⟩
     obtain ⟨qa,eqa,hqa⟩:=cA hs.pl eq
     have elast:ws.getLast?=some q:=by rw [List.getLast?_eq_getElem?];exact eq
     have er2:dQ cs (n+1) rs ws=dQ cs n ((zU q).foldl (gU cs) (rs,ws.dropLast)).1 ((zU q).foldl (gU cs) (rs,ws.dropLast)).2:=by
      rw [dQ,elast]
     have hwd:ws.dropLast.length+1=ws.length:=by rw [List.length_dropLast];(clear hm h0 kl hl hsl hu;omega)
     have nq:qa≠l:=fun z=>by rw [z,hs.ll] at hqa;cases hqa
     refine ⟨fun σ' H'=>∃ rs ws qs v4 v5,σ'=[some (.ref b),some (.ref st),some (.ref d),some (.ref l),v4,v5]/\HS CP H cs d l rs ws qs H'/\ws.length+vL cs rs<=n/\dQ cs cs.length [c0.1] [c0.1]=dQ cs n rs ws,fun σ' H' z=>⟨n,Nat.lt_succ_self n,z⟩,?_⟩
     refine ⟨_,rfl,.inl ⟨rfl,_,cW.of hs.ll⟩,l,_,.ref qa,rfl,rfl,hs.ll,(by rw [List.length_map,List.getElem?_map,ql,eqa];rfl),?_⟩
     have hs3:HS CP H cs d l rs ws.dropLast qs.dropLast (upd H2 l (.lst (qs.map V.ref).dropLast)):=⟨fun x o e=>by rw [aC (aD e hlH)];exact hs.sm _ _ e,by rw [aC ndl];exact hs.dd,by rw [aB,List.map_dropLast],jI.upd (tM hs.pl) hs.ll (fun xs z=>by cases z),hs.c1,by have:=hs.c2;(clear hm hw ql h0 kl hl hsl hu;omega)⟩
     have hqa3:upd H2 l (.lst (qs.map V.ref).dropLast) qa=some (.tup (Tk q)):=by rw [aC nq];exact hqa
     generalize upd H2 l (.lst (qs.map V.ref).dropLast)=H3 at hs3 hqa3
     refine ⟨_,rfl,qa,q,rfl,hqa3,fun H4 nl ns S4 hnl hln pns=>?_⟩
     have nd:nl≠d:=fun z=>by rw [z,hs3.dd] at hnl;cases hnl
     have nll:nl≠l:=fun z=>by rw [z,hs3.ll] at hnl;cases hnl
     have hs4:=hs3.same S4
     refine ⟨nl,rfl,⟨_,cW.of hln⟩,?_⟩
     refine Fh (xs:=ns.map V.ref) (fun i σ H'=>∃ rs' ws' qs' v5,σ=[some (.ref b),some (.ref st),some (.ref d),some (.ref l),some (.ref qa),v5]/\HS CP H cs d l rs' ws' qs' H'/\ws'.length+vL cs rs'<=n/\((zU q).take i).foldl (gU cs) (rs,ws.dropLast)=(rs',ws')/\H' nl=some (.lst (ns.map V.ref))/\jI H' ns (zU q))
      ⟨rs,ws.dropLast,qs.dropLast,v5,rfl,hs4,by (clear hw ql h0 kl hl hsl hu;omega),rfl,hln,pns⟩ (fun i σ H' _ z=>by obtain ⟨_,_,_,_,_,_,_,_,z,_⟩:=z;exact cW.of z) ?_ ?_
     ·rintro i x σ H5 ex ⟨rs',ws',qs',v5,rfl,hs5,hm5,ef,hn5,pn5⟩
      have hi:i<ns.length:=by
       have:=(List.getElem?_eq_some_iff.mp ex).1
       rwa [List.length_map] at this
      have nsl:ns.length=(zU q).length:=Paired.length pn5
      obtain ⟨p,ep⟩:∃ p,(zU q)[i]?=some p:=⟨_,List.getElem?_eq_getElem (by (clear hm5 hwd hm hw ql h0 kl hl hsl hu;omega))⟩
      obtain ⟨pa,epa,hpa⟩:=cA pn5 ep
      rw [List.getElem?_map,epa] at ex
      cases ex
      have ef2:((zU q).take (i+1)).foldl (gU cs) (rs,ws.dropLast)=gU cs (rs',ws') p:=by
       rw [List.take_succ,ep,List.foldl_append,ef]
       rfl
      have stay:¬((bE cs p).isSome=true/\p∉rs')->((zU q).take (i+1)).foldl (gU cs) (rs,ws.dropLast)=(rs',ws'):=fun z=>by
       rw [ef2]
       exact if_neg z
      have hl5:ws'.length<=rs'.length:=hs5.c2
      have hl6:=hs5.c1
      refine ⟨_,rfl,_,rfl,b,CP,dx,_,_,rfl,hb' hs5.sm,T'.cl,T'.n6,rfl,c,_,rfl,wS (hc' hs5.sm) hpa,_,rfl,cF (fun hin=>?_) (fun hin=>tW ⟨rs',ws',qs',_,rfl,hs5,hm5,stay (fun z=>hin (by rw [Option.isSome_map];exact z.1)),hn5,pn5⟩)⟩
      rw [Option.isSome_map] at hin
      refine ⟨_,rfl,_,rfl,d,_,rfl,sD.t (k:=eN p.1 p.2.1 p.2.2) hs5.dd hpa,_,rfl,cF (fun hno=>?_) (fun hno=>?_)⟩
      ·have hnp:p∉rs':=fun z=>by
        rw [qL,if_pos z] at hno
        cases hno
       have hpu:=mJ hnp hin
       refine ⟨_,rfl,_,rfl,d,_,rfl,yC.t (k:=eN p.1 p.2.1 p.2.2) hs5.dd hpa (by unfold Oh;rw [List.length_map];(clear hpu hnp hl5 nsl hi hm5 hwd hm hw ql h0 kl hu;omega)),?_⟩
       rw [Ql hnp]
       have ndl':l≠d:=Ne.symm ndl
       have ql5:qs'.length=ws'.length:=Paired.length hs5.pl
       have ll6:upd H5 d (.dT (Oh (rs'++[p]))) l=some (.lst (qs'.map V.ref)):=by rw [aC ndl'];exact hs5.ll
       refine ⟨_,rfl,.inl ⟨rfl,_,cW.of ll6⟩,_,rfl,l,_,_,rfl,rfl,ll6,by rw [List.length_map];(clear hpu hnp nsl hi hm5 hwd hm hw ql h0 kl hu;omega),?_⟩
       have npd:pa≠d:=fun z=>by rw [z,hs5.dd] at hpa;cases hpa
       have npl:pa≠l:=fun z=>by rw [z,hs5.ll] at hpa;cases hpa
       have pl6:∀ {qq:List Addr} {pp:List Pl},jI H5 qq pp->jI (upd (upd H5 d (.dT (Oh (rs'++[p])))) l (.lst (qs'.map V.ref++[V.ref pa]))) qq pp:=fun z=>jI.upd (jI.upd z hs5.dd (fun xs z=>by cases z)) ll6 (fun xs z=>by cases z)
       refine ⟨rs'++[p],ws'++[p],qs'++[pa],_,rfl,⟨fun x o e=>?_,by rw [aC ndl,aB],by rw [aB,List.map_append];rfl,Paired.snoc (pl6 hs5.pl) (by rw [aC npl,aC npd];exact hpa),?_,?_⟩,?_,?_,by rw [aC nll,aC nd];exact hn5,pl6 pn5⟩
       ·rw [aC (aD e hlH),aC (aD e hdH)]
        exact hs5.sm _ _ e
       ·rw [List.length_append]
        show rs'.length+1+_<=_
        (clear ql5 hnp hl5 nsl hi hm5 hwd hm hw ql h0 kl hl hsl hu;omega)
       ·rw [List.length_append,List.length_append]
        show ws'.length+1<=rs'.length+1
        (clear ql5 hpu hnp hl6 nsl hi hm5 hwd hm hw ql h0 kl hl hsl hu;omega)
       ·rw [List.length_append]
        show ws'.length+1+_<=_
        (clear ql5 hnp hl6 hl5 nsl hi hwd hm hw ql h0 kl hl hsl hu;omega)
       ·rw [ef2]
        exact if_pos ⟨hin,hnp⟩
      ·refine ⟨rs',ws',qs',_,rfl,hs5,hm5,stay (fun z=>hno ?_),hn5,pn5⟩
       rw [qL,if_neg z.2]
       rfl
     ·rintro σ H5 ⟨rs',ws',qs',v5,rfl,hs5,hm5,ef,hn5,pn5⟩
      have nsl:ns.length=(zU q).length:=Paired.length pn5
      rw [List.length_map,nsl,List.take_length] at ef
      refine ⟨rs',ws',qs',_,v5,rfl,hs5,hm5,?_⟩
      rw [er,er2,ef]
    ·have hw:¬(0:Int)<((qs.map V.ref).length:Int):=fun z=>hw (decide_eq_true z)
     rw [List.length_map] at hw
     have e0:ws=[]:=List.length_eq_zero_iff.mp (by (clear hm h0 kl hl hsl hu;omega))
     subst e0
     have er3:dQ cs m rs []=rs:=by cases m<;>rfl
     refine ⟨_,rfl,d,_,rfl,.inl hs.dd,_,rfl,b,CP,dx,_,_,rfl,hb' hs.sm,T'.cl,T'.n6,rfl,c,_,rfl,.inl (hc' hs.sm),rfl,?_⟩
     have kk:=k H2 hs.sm
     have e5:wK cs=decide (V.int ((Oh rs).length:Int)=V.int ((aJ cs).length:Int)):=by
      rw [hG]
      have e6:wK cs=decide ((dQ cs cs.length [c0.1] [c0.1]).length=cs.length):=by rw [<-hcs];rfl
      rw [e6,er,er3,kl]
      unfold Oh
      rw [List.length_map,decide_eq_decide]
      (clear ql hm hw h0 kl hl hsl hu;omega)
     rw [e5] at kk
     exact kk
end
def vE (y z:Nat):Nat->List Int->CL
 |_,[]=>[]
 |x,s::r=>(if s=46 then [] else [(((x:Int),(y:Int),(z:Int)),s)])++vE y z (x+1) r
def pC (d:Nat):Nat->List (List Int)->CL
 |_,[]=>[]
 |j,r::rs=>vE (j % d) (j / d) 0 r++pC d (j+1) rs
theorem Fr (y z:Nat):∀ (xs:List Int) (x:Nat),fG y z x xs=aJ (vE y z x xs)
 |[],x=>rfl
 |s::r,x=>by
  rw [fG,vE,Fr y z r (x+1)]
  unfold aJ
  rw [List.map_append]
  split<;>rfl
theorem rP (d:Nat):∀ (rs:List (List Int)) (j:Nat),dY d j rs=aJ (pC d j rs)
 |[],j=>rfl
 |r::rs,j=>by
  rw [dY,pC,Fr,rP d rs (j+1)]
  unfold aJ
  rw [List.map_append]
def tI (pr:aM):CL:=pC pr.d 0 pr.rows
def Bj (cs:CL) (W D Hh:Int):Bool:=mR cs && (mW cs && (nA cs W D Hh && wK cs))
def gO (pr:aM):Bool:=Bj (tI pr) pr.w pr.d pr.h
def nH (prs:List aM):Bool:=prs.all gO && jF (prs.map (·.name))
theorem eD.pt {CP:Addr} {H:Hp} {b:Addr} {pr:aM} (h:eD CP H b pr):∃ nm,yD CP H b nm pr.w pr.d pr.h pr.g (tI pr):=by
 obtain ⟨dx,nm,c,h1,h2,h3⟩:=h
 exact ⟨nm,dx,c,h1,by rw [h3,rP];rfl⟩
theorem eD.nm {CP:Addr} {H:Hp} {b:Addr} {pr:aM} (h:eD CP H b pr):Ty CP H b pr.name:=by
 obtain ⟨dx,nm,c,h1,h2,h3⟩:=h
 exact ⟨dx,nm,_,_,_,_,c,h1,h2⟩
theorem rF.len {pr:aM} (h:rF pr):(tI pr).length<20000:=by
 have e:(tI pr).length=(dY pr.d 0 pr.rows).length:=by
  rw [rP]
  unfold aJ tI
  rw [List.length_map]
 have h1:=pD pr.d pr.w pr.rows 0 h.rw
 have h2:pr.rows.length * pr.w<=(16 * 18) * 16:=by
  rw [h.rl]
  exact Nat.mul_le_mul (Nat.mul_le_mul h.d2 h.h2) h.w2
 omega
section
variable {P:Program} {w:World} {K:PySem.W.Frag} {mg:Str->Option Value} {base:Heap} {C CR CP:Addr}
def uL (CP:Addr):Sp:=fun vs H Q _=>∃ (b nm:Addr) (W D Hh g:Int) (cs:CL),vs=[.ref b]/\yD CP H b nm W D Hh g cs/\cs.length<20000/\∀ H',aL H H'->Q (.bl (Bj cs W D Hh)) H'
theorem yD.same {H H':Hp} {b nm:Addr} {W D Hh g:Int} {cs:CL} (h:yD CP H b nm W D Hh g cs) (s:aL H H'):yD CP H' b nm W D Hh g cs:=by
 obtain ⟨dx,c,h1,h2⟩:=h
 exact ⟨dx,c,s _ _ h1,s _ _ h2⟩
theorem Ov:aO ["part"] ["part"] (aG lJ):=⟨rfl,rfl,rfl,by decide+kernel,rfl,by decide+kernel,by decide+kernel⟩
theorem Sw {f:Addr} {fd:FuncData} (F:fE K "part_right" "part_right" lJ f fd) (L1:dL P w K mg base "studs_clear" bU 2 ["part"] (Bq CP)) (L2:dL P w K mg base "tubes_clear" bU 2 ["part"] (Bv CP))
  (L3:dL P w K mg base "fills_its_box" bU 2 ["part"] (Cu CP)) (L4:dL P w K mg base "hangs_together" bU 3 ["part"] (Bb CP)):bV P w K mg base bU 4 f fd ["part"] (uL CP):=by
 obtain ⟨g1,gd1,G1,b1,k1,h1⟩:=L1.ex
 obtain ⟨g2,gd2,G2,b2,k2,h2⟩:=L2.ex
 obtain ⟨g3,gd3,G3,b3,k3,h3⟩:=L3.ex
 obtain ⟨g4,gd4,G4,b4,k4,h4⟩:=L4.ex
 refine F.ok Ov (fun vs H Q E h=>?_) (fun cdv A outer s H vs Q E hr h=>?_)
 ·obtain ⟨b,nm,W,D,Hh,g,cs,rfl,_⟩:=h
  rfl
 ·obtain ⟨b,nm,W,D,Hh,g,cs,rfl,hp,hl,k⟩:=h
  have hr2:=hr.mono (j:=2) (by decide)
  have hr3:=hr.mono (j:=3) (by decide)
  refine ⟨_,aH (aU (sP (aP G1 hr2 (by rfl) h1 k1 b1 .nil aX (aA (pv 0) aE)) (sP (aP G2 hr2 (by rfl) h2 k2 b2 .nil aX (aA (pv 0) aE))
   (sP (aP G3 hr2 (by rfl) h3 k3 b3 .nil aX (aA (pv 0) aE)) (rS (aP G4 hr3 (by rfl) h4 k4 b4 .nil aX (aA (pv 0) aE))))))),?_⟩
  unfold Bj at k
  refine ⟨_,rfl,b,nm,W,D,Hh,g,cs,rfl,hp,fun H1 S1=>⟨_,rfl,cF (fun e1=>?_) (fun e1=>?_)⟩⟩
  ·rw [e1,Bool.true_and] at k
   refine ⟨_,rfl,b,nm,W,D,Hh,g,cs,rfl,hp.same S1,fun H2 S2=>⟨_,rfl,cF (fun e2=>?_) (fun e2=>?_)⟩⟩
   ·rw [e2,Bool.true_and] at k
    have S2:=S1.trans S2
    refine ⟨_,rfl,b,nm,W,D,Hh,g,cs,rfl,hp.same S2,hl,fun H3 S3=>⟨_,rfl,cF (fun e3=>?_) (fun e3=>?_)⟩⟩
    ·rw [e3,Bool.true_and] at k
     have S3:=S2.trans S3
     exact ⟨_,rfl,b,nm,W,D,Hh,g,cs,rfl,hp.same S3,hl,fun H4 S4=>k H4 (S3.trans S4)⟩
    ·rw [cR e3,Bool.false_and] at k
     exact k H3 (S2.trans S3)
   ·rw [cR e2,Bool.false_and] at k
    exact k H2 (S1.trans S2)
  ·rw [cR e1,Bool.false_and] at k
   exact k H1 S1
def pO (K:PySem.W.Frag) (CP:Addr):Sp:=fun vs H Q _=>∃ (a:Addr) (bs:List Addr) (prs:List aM),vs=[.ref a]/\cW K H a (bs.map V.ref)/\dI CP H bs prs/\1<=prs.length/\prs.length<=64/\∀ H',aL H H'->Q (.bl (nH prs)) H'
theorem mH:aO ["parts","part"] ["parts"] (aG kI):=⟨rfl,rfl,rfl,by decide+kernel,rfl,by decide+kernel,by decide+kernel⟩
theorem Dd {f:Addr} {fd:FuncData} (F:fE K "catalogue_right" "catalogue_right" kI f fd) (hall:mg "all"=none) (L1:dL P w K mg base "part_right" bU 4 ["part"] (uL CP)) (L2:dL P w K mg base "names_grow" bU 2 ["parts"] (Hf K CP)):
  bV P w K mg base bU 5 f fd ["parts"] (pO K CP):=by
 obtain ⟨g1,gd1,G1,b1,k1,h1⟩:=L1.ex
 obtain ⟨g2,gd2,G2,b2,k2,h2⟩:=L2.ex
 refine F.ok mH (fun vs H Q E h=>?_) (fun cdv A outer s H vs Q E hr h=>?_)
 ·obtain ⟨a,bs,prs,rfl,_⟩:=h
  rfl
 ·obtain ⟨a,bs,prs,rfl,ha,hp,hn1,hn,k⟩:=h
  have hr2:=hr.mono (j:=2) (by decide)
  have hr4:=hr.mono (j:=4) (by decide)
  refine ⟨_,aH (aU (sP (bQ (Zp rfl) (by rfl) hall boot_all (aA (tL (own:=[("part",1)]) (te:=zF (uL CP) [] E0 (dO (dD 1) gR)) rfl mH.nd (gN (pv 0)) (eW (N:=["parts","part"]) (sc:=aG kI) (by decide+kernel))
      (fun _ _ _ _ _=>bH (i:=1) mH.nd rfl (Or.inl rfl)) (fun _ _ _ _ _=>gL) (fun _ _ _ _ _=>aP G1 hr4 (by rfl) h1 k1 b1 .nil aX (aA (pv 1) aE))) aE))
    (rS (aP G2 hr2 (by rfl) h2 k2 b2 .nil aX (aA (pv 0) aE))))),?_⟩
  have hbl:bs.length=prs.length:=Paired.length hp
  have hsl:=aY
  refine ⟨_,rfl,a,rfl,⟨_,ha⟩,fun Dl hDl=>?_⟩
  refine nZ (xs:=bs.map V.ref) (fun i H'=>aL H H'/\H' Dl=some (.lst (((prs.take i).map gO).map V.bl))) ⟨aL.new hDl,aB⟩ (fun i H' _ z=>z.1.seq ha) ?_ ?_
  ·rintro i x H1 ex ⟨S1,hD1⟩
   have hi:i<prs.length:=by
    have:=(List.getElem?_eq_some_iff.mp ex).1
    rwa [List.length_map,hbl] at this
   obtain ⟨pr,ep⟩:∃ pr,prs[i]?=some pr:=⟨_,List.getElem?_eq_getElem hi⟩
   obtain ⟨b,eb,pa,po⟩:=cA hp ep
   rw [List.getElem?_map,eb] at ex
   cases ex
   obtain ⟨nm,pt⟩:=pa.pt
   refine ⟨rfl,_,rfl,b,nm,_,_,_,_,_,rfl,pt.same S1,po.len,fun H2 S2=>⟨_,S2 _ _ hD1,?_,?_,?_⟩⟩
   ·rw [List.length_map,List.length_map,List.length_take]
    (clear hi hbl hn1;omega)
   ·intro b' o e
    rw [aC (aD e hDl)]
    exact S2 _ _ (S1 _ _ e)
   ·rw [aB,List.take_succ,ep,List.map_append,List.map_append]
    rfl
  ·rintro H1 ⟨S1,hD1⟩
   rw [List.length_map,hbl,List.take_length] at hD1
   refine ⟨Dl,_,rfl,cW.of hD1,_,rfl,cF (fun e1=>?_) (fun e1=>?_)⟩
   ·refine ⟨_,rfl,a,bs,prs.map (·.name),rfl,S1.seq ha,?_,by rw [List.length_map];exact hn1,by rw [List.length_map];exact hn,?_⟩
    ·have key:∀ {bs:List Addr} {prs:List aM},dI CP H bs prs->Paired (Ty CP H1) bs (prs.map (·.name)):=by
      intro bs prs z
      unfold dI at z
      induction z with
      |nil=>exact .nil
      |cons h t ih=>exact .cons (h.1.same S1).nm ih
     exact key hp
    ·have kk:=k H1 S1
     unfold nH at kk
     rw [List.all_map] at e1
     have e1:prs.all gO=true:=e1
     rw [e1,Bool.true_and] at kk
     exact kk
   ·have kk:=k H1 S1
    unfold nH at kk
    rw [List.all_map] at e1
    have e1:¬prs.all gO=true:=e1
    rw [cR e1,Bool.false_and] at kk
    exact kk
end
end Br1
namespace HT
open PySem PyProof.Rows
section
variable {prog:Program} {w:World} {A:Around} {E:Value->Shared->Prop} {s:Shared}
theorem oQ {t sl:Addr} {items:Array Value} {vl vu:Value} {lo hi:Option Int} {Q:Value->Shared->Prop} (ht:IsTup s.heap t items) (hs:s.heap.IsSliceOf sl vl vu .none) (pl:IsPart vl lo) (pu:IsPart vu hi)
  (hw:gQ items.size 0 lo=0/\gQ items.size items.size hi=items.size) (h:Q (.ref t) s):wpAny (model prog w) A (getItem (.ref t) (.ref sl)) Q E s:=by
 obtain ⟨os,hos,hcs,hds⟩:=id hs
 have hTs:s.TypeIs (.ref sl) "slice":=⟨os,hos,hcs⟩
 unfold getItem
 try with_reducible refine wpAny_holding ?_
 first|refine wpAny_bind (wpAny_pure ?_)|skip
 refine wpAny_bind (wpAny_sequenceKey ht.typeIs (by decide) ?_)
 refine wpAny_bind (wpAny_callSpecial?_slot (name:=Str.ofString "__getitem__") ht.typeIs PyProof.Rows.slot_tuple_getitem
  (wpAny_call_entry PyProof.Rows.slot_tuple_getitem ht.typeIs entry_tuple_getitem ?_ (args_tuple_getitem _ _)))
 show wpAny _ _ (Builtin.Tuple.tupleItemsOf (.ref t)>>=_) _ _ s
 refine wpAny_bind (tupleItemsOf_ ht ?_)
 refine wpAny_bind (wpAny_typeOf hTs ?_)
 rw [if_pos (by decide)]
 refine wpAny_bind (kG hs pl pu ?_)
 have hyes:((((gQ items.size 0 lo:Nat):Int)==0 && (1:Int)==1 && (gQ items.size items.size hi - gQ items.size 0 lo)==items.size)=true):=by
  rw [hw.1,hw.2]
  simp
 show wpAny _ _ (if (((gQ items.size 0 lo:Nat):Int)==0 && (1:Int)==1 && (gQ items.size items.size hi - gQ items.size 0 lo)==items.size)=true then _ else _) _ _ s
 rw [if_pos hyes]
 unfold Builtin.Tuple.tupleIsExact
 refine wpAny_bind (wpAny_bind (wpAny_typeOf ht.typeIs (wpAny_pure ?_)))
 rw [if_pos (by decide)]
 exact wpAny_bind (wpAny_rule (wpAny_pure ⟨_,rfl,wpAny_pure h⟩))
end
end HT
namespace L2
open PySem PySem.Spec PyProof.Rows
section
variable {X:Cx}
def Xw (K:PySem.W.Frag):V->Option Int->Option Int->Hp->VK->Prop:=fun x lo hi H Q=>∃ a xs,x=.ref a/\cN K H a xs/\∀ p H',aL H H'->cN K H' p (wY xs lo hi)->Q (.ref p) H'
theorem Lp:SlR X (Xw X.K):=by
 intro pins s σ H x v vl vu lo hi sl Q I rx hs pl pu h
 obtain ⟨a,xs,rfl,hx,q⟩:=h
 by_cases hw:HT.gQ xs.length 0 lo=0/\HT.gQ xs.length xs.length hi=xs.length
 ·cases rx
  obtain ⟨its,r,ht,hz⟩:=I.tuple hx
  have hlen:its.toArray.size=xs.length:=by rw [List.size_toArray];exact r.length.symm
  refine ⟨"tuple",_,PyProof.Rows.slot_tuple_getitem.lookup,ht.typeIs,?_⟩
  refine HT.oQ ht hs pl pu (by rw [hlen];exact hw) ⟨.ref a,H,I,rfl,q a H (fun _ _ e=>e) ?_⟩
  have e:wY xs lo hi=xs:=by
   unfold wY
   rw [hw.1,hw.2,List.drop_zero,Nat.sub_zero,List.take_length]
  rw [e]
  exact hx
 ·exact aAp pins s σ H _ v vl vu lo hi sl Q I rx hs pl pu ⟨a,xs,rfl,hx,hw,fun p hp=>q p _ (fun b o e=>by rw [aC (aD e hp)];exact e) (cN.of aB)⟩
end
theorem aL.seqT {K:PySem.W.Frag} {H H':Hp} {a:Addr} {xs:List V} (e:aL H H') (h:cN K H a xs):cN K H' a xs:=by
 rcases h with (h|⟨o,h⟩)|h
 ·exact .inl (.inl (e _ _ h))
 ·exact .inl (.inr ⟨o,e _ _ h⟩)
 ·exact .inr h
end L2
namespace Br1
open PySem PySem.Spec PyProof.Rows L2
def iD (nss:List (List Int)) (ns:List Int):Bool:=nss.any fun m=>decide (m.take ns.length=ns)
theorem Ta (m:List Int) (k:Nat):wY (m.map V.int) none (some (k:Int))=(m.take k).map V.int:=by
 unfold wY
 rw [HT.Tc,HT.Ji,Nat.sub_zero,List.drop_zero,List.length_map]
 rw [<-List.map_take]
 congr 1
 by_cases h:k<=m.length
 ·rw [Nat.min_eq_left h]
 ·rw [Nat.min_eq_right (by omega),List.take_length,List.take_of_length_le (by omega)]
section
variable {P:Program} {w:World} {K:PySem.W.Frag} {mg:Str->Option Value} {base:Heap} {C CR CP:Addr}
theorem oS.same {H H':Hp} {xs:List V} {nss:List (List Int)} (h:oS K H xs nss) (s:aL H H'):oS K H' xs nss:=Paired.mapP h fun x ns z=>by
 obtain ⟨p,e,t⟩:=z
 exact ⟨p,e,s.seqT t⟩
def xQ (K:PySem.W.Frag):Sp:=fun vs H Q _=>∃ (a q:Addr) (xs:List V) (nss:List (List Int)) (ns:List Int),vs=[.ref a,.ref q]/\cW K H a xs/\oS K H xs nss/\cN K H q (ns.map V.int)/\nss.length<=64/\∀ H',aL H H'->Q (.bl (iD nss ns)) H'
theorem rV:aO ["names","beginning","name"] ["names","beginning"] (aG qJ):=⟨rfl,rfl,rfl,by decide+kernel,rfl,by decide+kernel,by decide+kernel⟩
def aBc (K:PySem.W.Frag):List V->Hp->VK->Prop:=fun xs H Q=>∃ p ys,xs=[.ref p]/\(cW K H p ys\/cN K H p ys)/\Q (.int ys.length) H
theorem Mp {f:Addr} {fd:FuncData} (F:fE K "some_begins" "some_begins" qJ f fd) (hany:mg "any"=none) (hlen:mg "len"=none):bV P w K mg base bU 2 f fd ["names","beginning"] (xQ K):=by
 refine F.ok rV (fun vs H Q E h=>?_) (fun cdv A outer s H vs Q E hr h=>?_)
 ·obtain ⟨a,q,xs,nss,ns,rfl,_⟩:=h
  rfl
 ·obtain ⟨a,q,xs,nss,ns,rfl,ha,ht,hq,hn,k⟩:=h
  have hu:=lU hr
  refine ⟨_,aH (aU (bQ (Yr rfl) (by rfl) hany boot_any (aA (tL (own:=[("name",2)]) (te:=zE (aAd K) (tSl (Xw K) (dD 2) Jn (Xg (tCB (aBc K) (dO (dD 1) gR)))) (dD 1)) rfl rV.nd (gN (pv 0)) (eW (N:=["names","beginning","name"]) (sc:=aG qJ) (by decide+kernel))
      (fun _ _ _ _ _=>bH (i:=2) rV.nd rfl (Or.inl rfl)) (fun _ _ _ _ _=>gL)
      (fun _ _ _ _ _=>kZ (r:=aAd K) (Zg (Nat.lt_of_succ_lt hu)) (Eb (r:=Xw K) Lp (pv 2) Kn (Kp (bQ (r:=aBc K) bW (by rfl) hlen PySem.boot_len (aA (pv 1) aE)))) (pv 1) (gX _))) aE))),?_⟩
  have hxl:xs.length=nss.length:=Paired.length ht
  have hsl:=aY
  refine ⟨_,rfl,a,rfl,⟨_,ha⟩,fun Dl hDl=>?_⟩
  refine nZ (xs:=xs) (fun i H'=>aL H H'/\H' Dl=some (.lst (((nss.take i).map fun m=>decide (m.take ns.length=ns)).map V.bl))) ⟨aL.new hDl,aB⟩ (fun i H' _ z=>z.1.seq ha) ?_ ?_
  ·rintro i x H1 ex ⟨S1,hD1⟩
   have hi:i<nss.length:=by
    have:=(List.getElem?_eq_some_iff.mp ex).1
    (clear hsl hu hn;omega)
   obtain ⟨m,em⟩:∃ m,nss[i]?=some m:=⟨_,List.getElem?_eq_getElem hi⟩
   obtain ⟨x',ex',p,rfl,hp⟩:=cA ht em
   rw [ex'] at ex
   cases ex
   have hl:((ns.map V.int).length:Int)=(ns.length:Int):=by rw [List.length_map]
   refine ⟨rfl,_,rfl,_,rfl,q,_,rfl,.inr (S1.seqT hq),_,rfl,p,_,rfl,S1.seqT hp,fun p2 H2 S2 hp2=>?_⟩
   rw [hl,Ta] at hp2
   refine ⟨_,rfl,p2,q,_,_,rfl,rfl,hp2,S2.seqT (S1.seqT hq),_,S2 _ _ hD1,?_,?_,?_⟩
   ·rw [List.length_map,List.length_map,List.length_take]
    (clear hl hi hxl hu;omega)
   ·intro b' o e
    rw [aC (aD e hDl)]
    exact S2 _ _ (S1 _ _ e)
   ·rw [aB,List.take_succ,em,List.map_append,List.map_append]
    rfl
  ·rintro H1 ⟨S1,hD1⟩
   rw [hxl,List.take_length] at hD1
   refine ⟨Dl,_,rfl,cW.of hD1,?_⟩
   have kk:=k H1 S1
   unfold iD at kk
   rw [List.any_map]
   exact kk
end
def cO (nss:List (List Int)) (l:List Int):Nat->Nat->List Int->List Int×Nat
 |0,p,acc=>(acc,p)
 |n+1,p,acc=>if iD nss (acc++[aR l p])=true then cO nss l n (p+1) (acc++[aR l p]) else (acc,p)
def qV (nss:List (List Int)) (ns:List Int):Nat:=nss.findIdx fun m=>decide (m=ns)
def rH (nss:List (List Int)) (l:List Int) (p:Nat):Except Nat (Nat×Nat):=if (cO nss l 8 p []).1∈nss then .ok (qV nss (cO nss l 8 p []).1,(cO nss l 8 p []).2) else .error (cO nss l 8 p []).2
def Xu (nss:List (List Int)):Prop:=nss.length<=64/\∀ m∈nss,m.length<=8/\(256:Int)∉m
theorem Ic {nss:List (List Int)} {acc:List Int} {h:Int} (ok:Xu nss) (e:iD nss (acc++[h])=true):acc.length<8/\h≠256:=by
 unfold iD at e
 obtain ⟨m,hm,z⟩:=List.any_eq_true.mp e
 have z:=of_decide_eq_true z
 obtain ⟨g1,g2⟩:=ok.2 m hm
 have hl:=congrArg List.length z
 rw [List.length_take,List.length_append] at hl
 refine ⟨?_,fun q=>g2 ?_⟩
 ·have:([h]:List Int).length=1:=rfl
  (clear g2;omega)
 ·have:h∈m.take (acc++[h]).length:=by rw [z];simp
  rw [<-q]
  exact List.mem_of_mem_take this
theorem Tq {nss:List (List Int)} {ns:List Int} (h:ns∈nss):nss[qV nss ns]?=some ns:=by
 have hl:qV nss ns<nss.length:=List.findIdx_lt_length_of_exists ⟨ns,h,decide_eq_true rfl⟩
 rw [List.getElem?_eq_getElem hl]
 have:=List.findIdx_getElem (p:=fun m=>decide (m=ns)) (xs:=nss) (w:=hl)
 exact congrArg some (of_decide_eq_true this)
theorem Wg {nss:List (List Int)} {ns ms:List Int} {m:Nat} (hm:m<qV nss ns) (e:nss[m]?=some ms):ms≠ns:=by
 have h:=List.not_of_lt_findIdx (p:=fun m=>decide (m=ns)) (xs:=nss) hm
 obtain ⟨hl,e⟩:=List.getElem?_eq_some_iff.mp e
 intro z
 rw [e,z] at h
 simp at h
section
variable {P:Program} {w:World} {K:PySem.W.Frag} {mg:Str->Option Value} {base:Heap} {C CR CP:Addr}
theorem oS.sx {r:Addr} {H H':Hp} {C' dx:Addr} {fs:List (Str×V)} {xs:List V} {nss:List (List Int)} (h:oS K H xs nss) (s:SX r H H') (hr:H r=some (.ins C' dx fs)):oS K H' xs nss:=Paired.mapP h fun x ns z=>by
 obtain ⟨p,e,t⟩:=z
 exact ⟨p,e,s.seqT hr t⟩
structure Xo (K:PySem.W.Frag) (H:Hp) (na:Addr) (nss:List (List Int)):Prop where
 ex:∃ xs,cW K H na xs/\oS K H xs nss
 ok:Xu nss
theorem Xo.sx {r:Addr} {H H':Hp} {a:Addr} {p:Nat} {na:Addr} {nss:List (List Int)} (h:Xo K H na nss) (s:SX r H H') (hr:iF CR H r a p):Xo K H' na nss:=by
 obtain ⟨⟨xs,h1,h2⟩,h3⟩:=h
 obtain ⟨dx,g⟩:=hr
 exact ⟨⟨xs,s.seq g h1,oS.sx h2 s g⟩,h3⟩
def wH (K:PySem.W.Frag) (CR:Addr):Sp:=fun vs H Q E=>∃ (r a na:Addr) (l:List Int) (p:Nat) (nss:List (List Int)),vs=[.ref r,.ref na]/\jO K CR H r a l p/\Xo K H na nss/\
 match rH nss l p with
 |.ok q=>∀ H':Hp,jO K CR H' r a l q.2->SX r H H'->Q (.int q.1) H'
 |.error i=>∀ H':Hp,SX r H H'->E (.int i 0) none H'
theorem rT:aO ["reader","names","beginning"] ["reader","names"] (aG uV):=⟨rfl,rfl,rfl,by decide+kernel,rfl,by decide+kernel,by decide+kernel⟩
theorem Mj {f:Addr} {fd:FuncData} (F:fE K "read_part_number" "read_part_number" uV f fd) (T:Gn K CR) (S:Zq P w K mg base C) (M1:nQ P w K mg base CR "here" bU 2 ["self"] (pM K CR)) (M2:nQ P w K mg base CR "take" bU 3 ["self"] (pN K CR))
  (L1:dL P w K mg base "some_begins" bU 2 ["names","beginning"] (xQ K)):bV P w K mg base (iV C P w) 5 f fd ["reader","names"] (wH K CR):=by
 obtain ⟨f1,fd1,m1,G1,b1⟩:=M1.ex
 obtain ⟨f2,fd2,m2,G2,b2⟩:=M2.ex
 obtain ⟨gb,gbd,GB,bB,kB,hB⟩:=L1.ex
 obtain ⟨fx,fdx,XT,GX,bx⟩:=S.ex
 refine F.okX rT (fun vs H Q E h=>?_) (fun cdv A outer s H vs Q E hr h=>?_)
 ·obtain ⟨r,a,na,l,p,nss,rfl,_⟩:=h
  rfl
 ·obtain ⟨r,a,na,l,p,nss,rfl,x,hn,k⟩:=h
  have hr3:=hr.mono (j:=3) (by decide)
  have hr2:=hr.mono (j:=2) (by decide)
  have hu:=lU hr
  refine ⟨_,aF (bI (i:=2) rT.nd rfl (Or.inl rfl) (eJ aE))
   (aF (kJ aN.own (eP (aP GB hr2 (by rfl) hB kB bB .nil aX (aA (pv 1) (aA (bZ Lm (pv 2) (eJ (aA (cG (pv 0) T.cl m1 G1 hr2 b1 .nil aX) aE))) aE))))
    (aH (bI (i:=2) rT.nd rfl (Or.inl rfl) (bZ Lm (pv 2) (eJ (aA (cG (pv 0) T.cl m2 G2 hr3 b2 .nil aX) aE))))))
   (aF (eG (hX (Mz hu) (pv 2) (pv 1) (by with_unfolding_all rfl)) (aH (mM aN rfl XT GX hr2 (by rfl) S.mg bx (aT (pv 0) rfl))) cC)
   (aH (aU (mV PySem.F.plainAttrs_list PySem.F.slot_list_index PySem.F.type_list_index (Nl hu) (pv 1) (aA (pv 2) aE)))))),?_⟩
  obtain ⟨⟨dx,h1⟩,tx,le⟩:=id x
  refine ⟨Nat.zero_le _,fun q0 hq0=>?_⟩
  have S0:=aL.new (o:=.tup []) hq0
  have hsl:=aY
  refine ⟨fun m σ H'=>∃ (acc:List Int) (q:Addr) (p':Nat),σ=[some (.ref r),some (.ref na),some (.ref q)]/\SX r H H'/\iF CR H' r a p'/\p'<=l.length/\cN K H' q (acc.map V.int)/\acc.length+m=8/\cO nss l 8 p []=cO nss l m p' acc,
   ⟨8,[],q0,p,rfl,aL.sx S0,⟨dx,S0 _ _ h1⟩,le,cN.of aB,rfl,rfl⟩,?_⟩
  rintro m σ H1 ⟨acc,q,p',rfl,s1,hr1,le1,hq,hm,e1⟩
  have x1:=x.same s1 hr1 le1
  have hn1:=hn.sx s1 x.rd
  obtain ⟨dx1,g1⟩:=id hr1
  obtain ⟨⟨xs,ha,ht⟩,ok⟩:=id hn1
  refine ⟨_,rfl,_,rfl,_,rfl,r,dx1,_,rfl,g1,rfl,r,a,l,p',rfl,x1,by show 1<=sizeLine;decide,fun q1 hq1=>?_⟩
  have S2:=aL.new (o:=.tup [.int (aR l p')]) hq1
  refine ⟨q,q1,acc.map V.int,[.int (aR l p')],rfl,rfl,S2.seqT hq,cN.of aB,(by simp),by rw [List.length_map];show acc.length+1<=_;(clear le1 le hu;omega),fun q2 H2 S3 hq2=>?_⟩
  have S4:aL H1 H2:=S2.trans S3
  have hq2:cN K H2 q2 ((acc++[aR l p']).map V.int):=by rw [List.map_append];exact hq2
  refine ⟨na,q2,xs,nss,_,rfl,S4.seq ha,oS.same ht S4,hq2,ok.1,fun H3 S5=>?_⟩
  have S6:aL H1 H3:=S4.trans S5
  have s3:SX r H H3:=s1.trans (aL.sx S6)
  have hr3:iF CR H3 r a p':=⟨dx1,S6 _ _ g1⟩
  refine ⟨_,rfl,cF (fun hb=>?_) (fun hb=>?_)⟩
  ·obtain ⟨hlt,h256⟩:=Ic ok hb
   have lt:=gB h256
   obtain ⟨n,rfl⟩:∃ n,m=n+1:=⟨m - 1,by (clear lt h256 le1 hsl le hu;omega)⟩
   refine ⟨fun σ' H'=>∃ (acc:List Int) (q:Addr) (p':Nat),σ'=[some (.ref r),some (.ref na),some (.ref q)]/\SX r H H'/\iF CR H' r a p'/\p'<=l.length/\cN K H' q (acc.map V.int)/\acc.length+n=8/\cO nss l 8 p []=cO nss l n p' acc,fun σ' H' z=>⟨n,Nat.lt_succ_self n,z⟩,?_⟩
   refine ⟨_,rfl,_,rfl,r,dx1,_,rfl,S6 _ _ g1,rfl,r,a,l,p',rfl,x.same s3 hr3 le1,fun H4 hr4 s4=>⟨by show 1<=sizeLine;decide,fun q5 hq5=>?_⟩⟩
   have S7:=aL.new (o:=.tup [.int (aR l p')]) hq5
   have hq4:=s4.seqT (S6 _ _ g1) (S6.seqT hq)
   refine ⟨q,q5,acc.map V.int,[.int (aR l p')],rfl,rfl,S7.seqT hq4,cN.of aB,(by simp),by rw [List.length_map];show acc.length+1<=_;(clear hm lt h256 le1 le hu;omega),fun q6 H5 S8 hq6=>?_⟩
   have S9:=S7.trans S8
   obtain ⟨dx4,g4⟩:=hr4
   refine ⟨acc++[aR l p'],q6,p'+1,rfl,(s3.trans s4).trans (aL.sx S9),⟨dx4,S9 _ _ g4⟩,lt,by rw [List.map_append];exact hq6,by rw [List.length_append];show acc.length+1+n=8;(clear lt h256 hlt le1 hsl le hu;omega),?_⟩
   rw [e1]
   show (if _ then _ else _)=_
   rw [if_pos hb]
  ·have e2:cO nss l 8 p []=(acc,p'):=by
    rw [e1]
    cases m with
    |zero=>rfl
    |succ n=>
     show (if _ then _ else _)=_
     rw [if_neg hb]
   have hn3:=hn1.sx (aL.sx S6) hr1
   obtain ⟨⟨xs3,ha3,ht3⟩,_⟩:=id hn3
   unfold rH at k
   rw [e2] at k
   refine ⟨_,rfl,_,rfl,q,na,acc,xs3,nss,rfl,rfl,S6.seqT hq,ha3,ht3,_,rfl,cF (fun hno=>?_) (fun hno=>?_)⟩
   ·have hno:¬acc∈nss:=by
     have hno:(!decide (acc∈nss))=true:=hno
     rw [Bool.not_eq_true',decide_eq_false_iff_not] at hno
     exact hno
    rw [if_neg hno] at k
    exact ⟨_,rfl,r,CR,dx1,_,_,rfl,S6 _ _ g1,T.cl,T.nP,gP _ _,_,rfl,k H3 s3⟩
   ·have hno:acc∈nss:=by
     have hno:¬(!decide (acc∈nss))=true:=hno
     rw [Bool.not_eq_true',decide_eq_false_iff_not,Classical.not_not] at hno
     exact hno
    rw [if_pos hno] at k
    refine ⟨_,rfl,.inl ⟨rfl,_,ha3⟩,_,rfl,na,q,xs3,nss,acc,qV nss acc,rfl,rfl,ha3,ht3,S6.seqT hq,Tq hno,fun m ms hm em=>Wg hm em,?_⟩
    exact k H3 (x.same s3 hr3 le1) s3
end
def cY (l:List Int):List Nat->Nat->Except Nat (List Nat×Nat)
 |[],p=>.ok ([],p)
 |m::ms,p=>eK (aV l p [32]) fun p1=>eK (iX l p1 0 m) fun v=>gF v.1 (cY l ms v.2)
def fM:List Nat:=[255,63,63,95,3]
def eB (nss:List (List Int)) (l:List Int) (p:Nat):Except Nat (List Nat×Nat):=
 eK (aV l p [112,117,116,32]) fun p1=>eK (rH nss l p1) fun q=>eK (cY l fM q.2) fun r=>eK (aV l r.2 [10]) fun p5=>.ok (q.1::r.1,p5)
theorem Pp:("put ":Str).cps.toList=[112,117,116,32]:=by decide+kernel
theorem qW {l:List Int}:∀ {ms:List Nat} {p:Nat} {r:List Nat×Nat},cY l ms p=.ok r->r.1.length=ms.length
 |[],p,r,h=>by cases h;rfl
 |m::ms,p,r,h=>by
  rw [cY] at h
  cases e1:aV l p [32] with
  |error i=>rw [e1] at h;cases h
  |ok p1=>
   rw [e1,cB] at h
   cases e2:iX l p1 0 m with
   |error i=>rw [e2] at h;cases h
   |ok v=>
    rw [e2,cB] at h
    cases e3:cY l ms v.2 with
    |error i=>rw [e3] at h;cases h
    |ok q=>
     rw [e3] at h
     cases h
     show (_::q.1).length=ms.length+1
     rw [List.length_cons,qW e3]
def Co (n:Nat):V:=.int n
section
variable {P:Program} {w:World} {K:PySem.W.Frag} {mg:Str->Option Value} {base:Heap} {C CR CP:Addr}
def Hq (K:PySem.W.Frag) (CR:Addr):Sp:=fun vs H Q E=>∃ (r a na:Addr) (l:List Int) (p:Nat) (nss:List (List Int)),vs=[.ref r,.ref na]/\jO K CR H r a l p/\Xo K H na nss/\
 match eB nss l p with
 |.ok q=>∀ (H':Hp) (t:Addr),jO K CR H' r a l q.2->SX r H H'->H t=none->H' t=some (.tup (q.1.map Co))->q.1.length=6->Q (.ref t) H'
 |.error i=>∀ H':Hp,SX r H H'->E (.int i 0) none H'
theorem Ct:aO ["reader","names","numbers","most"] ["reader","names"] (aG oE):=⟨rfl,rfl,rfl,by decide+kernel,rfl,by decide+kernel,by decide+kernel⟩
theorem Uc {f:Addr} {fd:FuncData} (F:fE K "read_line" "read_line" oE f fd) (T:Gn K CR) (htup:mg "tuple"=none) (c1:CI mg "MOST_COLOUR" 255) (c2:CI mg "ROOM_WIDTH" 64) (c3:CI mg "ROOM_DEPTH" 64) (c4:CI mg "ROOM_HEIGHT" 96) (c5:CI mg "MOST_TURNS" 3)
  (M1:nQ P w K mg base CR "read_word" (iV C P w) 5 ["self","word"] (lN K CR)) (M3:nQ P w K mg base CR "read_number" (iV C P w) 4 ["self","least","most"] (jQ K CR))
  (L1:dL P w K mg base "read_part_number" (iV C P w) 5 ["reader","names"] (wH K CR)):bV P w K mg base (iV C P w) 6 f fd ["reader","names"] (Hq K CR):=by
 obtain ⟨f1,fd1,m1,G1,b1⟩:=M1.ex
 obtain ⟨f3,fd3,m3,G3,b3⟩:=M3.ex
 obtain ⟨gp,gpd,GP,bP,kP,hP⟩:=L1.ex
 refine F.okX Ct (fun vs H Q E h=>?_) (fun cdv A outer s H vs Q E hr h=>?_)
 ·obtain ⟨r,a,na,l,p,nss,rfl,_⟩:=h
  rfl
 ·obtain ⟨r,a,na,l,p,nss,rfl,x,hn,k⟩:=h
  have hr4:=hr.mono (j:=4) (by decide)
  refine ⟨_,aF (cH (cZ (pv 0) T.cl m1 G1 hr b1 .nil aN.pass (aA eU aE)))
   (aF (bI (i:=2) Ct.nd rfl (Or.inl rfl) (eE (aA (aP GP hr (by rfl) hP kP bP .nil aN.pass (aA (pv 0) (aA (pv 1) aE))) aE)))
   (aF (eQ aN.own rfl (Sj (eJ (aA (eM c1) (aA (bZ eC (eM c2) aI) (aA (bZ eC (eM c3) aI) (aA (bZ eC (eM c4) aI) (aA (eM c5) aE))))))) (bH (i:=3) Ct.nd rfl (Or.inl rfl))
    (aF (cH (cZ (pv 0) T.cl m1 G1 hr b1 .nil aN.pass (aA eU aE)))
    (aH (cH (mV PySem.F.plainAttrs_list PySem.F.slot_list_append PySem.F.type_list_append gJ (pv 2) (aA (cZ (pv 0) T.cl m3 G3 hr4 b3 .nil aN.pass (aA aI (aA (pv 3) aE))) aE))))))
   (aF (cH (cZ (pv 0) T.cl m1 G1 hr b1 .nil aN.pass (aA eU aE)))
   (aH (aU (kQ oV (by rfl) htup boot_tuple (aA (pv 2) aE))))))),?_⟩
  unfold eB at k
  have hsl:=aY
  refine eV (iE rfl Pp (by decide) x (fun i e1 H' s1=>by rw [e1] at k;exact k H' s1) fun p1 e1 H1 x1 s1=>?_)
  rw [e1,cB] at k
  refine ⟨_,rfl,_,rfl,r,a,na,l,p1,nss,rfl,x1,hn.sx s1 x.rd,?_⟩
  cases e2:rH nss l p1 with
  |error i=>
   intro H' s'
   rw [e2] at k
   exact k H' (s1.trans s')
  |ok q=>
   intro H2 x2 s2
   rw [e2,cB] at k
   refine ⟨by show 1<=sizeLine;decide,fun nb hnb=>?_⟩
   have S3:=aL.new (o:=.lst [V.int q.1]) hnb
   have s3:SX r H (upd H2 nb (.lst [V.int q.1])):=(s1.trans s2).trans (aL.sx S3)
   obtain ⟨dx2,g2⟩:=x2.rd
   have nbr:nb≠r:=fun z=>by rw [z,g2] at hnb;cases hnb
   have hnbH:H nb=none:=by
    cases z:H nb with
    |none=>rfl
    |some o=>
     have:=(s1.trans s2) nb o z nbr
     rw [hnb] at this
     cases this
   have rd3:iF CR (upd H2 nb (.lst [V.int q.1])) r a q.2:=⟨dx2,S3 _ _ g2⟩
   have nb3:upd H2 nb (.lst [V.int q.1]) nb=some (.lst ((q.1::[]).map Co)):=aB
   generalize upd H2 nb (.lst [V.int q.1])=H3 at S3 s3 rd3 nb3
   refine ⟨_,_,rfl,rfl,_,_,rfl,rfl,_,_,rfl,rfl,by show 5<=sizeLine;decide,fun tb htb=>?_⟩
   have S4:=aL.new (o:=.tup (fM.map Co)) htb
   have tb4:upd H3 tb (.tup (fM.map Co)) tb=some (.tup (fM.map Co)):=aB
   refine ⟨tb,rfl,⟨_,cN.of tb4⟩,?_⟩
   have s4:SX r H (upd H3 tb (.tup (fM.map Co))):=s3.trans (aL.sx S4)
   have rd4:iF CR (upd H3 tb (.tup (fM.map Co))) r a q.2:=let ⟨dx,g⟩:=rd3;⟨dx,S4 _ _ g⟩
   have nb4:=S4 _ _ nb3
   have htb':H3 tb=none:=htb
   have kE:∀ i,cY l fM q.2=.error i->∀ H',SX r H H'->E (.int i 0) none H':=fun i e H' s'=>by
    rw [e] at k
    exact k H' s'
   refine Kz (xs:=fM.map Co) (fun i σ H'=>∃ (vs:List Nat) (p':Nat) (v3:Option V),σ=[some (.ref r),some (.ref na),some (.ref nb),v3]/\vs.length=i/\SX r H H'/\iF CR H' r a p'/\p'<=l.length/\H' nb=some (.lst ((q.1::vs).map Co))/\
     H' tb=some (.tup (fM.map Co))/\cY l fM q.2=fW vs (cY l (fM.drop i) p')) ⟨[],q.2,none,rfl,rfl,s4,rd4,x2.le,nb4,tb4,by rw [jS];rfl⟩ ?_ ?_ ?_
   ·rintro i σ H5 _ ⟨vs,p',v3,_,_,_,_,_,_,h,_⟩
    exact cN.of h
   ·rintro i v σ H5 ev ⟨vs,p',v3,rfl,hvl,s5,rd5,le5,nb5,tb5,e5⟩
    rw [List.getElem?_map] at ev
    obtain ⟨m,em,rfl⟩:=Option.map_eq_some_iff.mp ev
    have hi:i<5:=(List.getElem?_eq_some_iff.mp em).1
    have hm:m<=255:=by
     have:=List.mem_of_getElem? em
     revert this
     unfold fM
     simp
     (clear hi le5 hvl hsl;omega)
    have ed:fM.drop i=m::fM.drop (i+1):=by
     have hl:i<fM.length:=hi
     have:=List.drop_eq_getElem_cons hl
     rw [this]
     have e2:=(List.getElem?_eq_some_iff.mp em).2
     rw [e2]
    rw [ed] at e5
    have x5:=x.same s5 rd5 le5
    have e6:cY l (m::fM.drop (i+1)) p'=eK (aV l p' [32]) fun p1=>eK (iX l p1 0 m) fun v=>gF v.1 (cY l (fM.drop (i+1)) v.2):=rfl
    rw [e6] at e5
    refine eV (iE rfl iM b32 x5 (fun j ej H' s'=>kE j (by rw [e5,ej];rfl) H' (s5.trans s')) fun p6 ew H6 x6 s6=>?_)
    rw [ew,cB] at e5
    have nb6:H6 nb=some (.lst ((q.1::vs).map Co)):=s6 _ _ nb5 nbr
    obtain ⟨dx6,g6⟩:=x6.rd
    refine ⟨_,rfl,.inl ⟨rfl,_,cW.of nb6⟩,_,rfl,r,dx6,_,rfl,g6,rfl,_,rfl,?_⟩
    dsimp only [gR,List.cons_append,List.nil_append]
    refine Es (hi:=m) x6 (by decide) (by (clear hi le5 hvl hsl;omega)) (fun v en hv1 _ H7 x7 s7=>?_) (fun en=>?_)
    ·rw [en,cB,iT] at e5
     have s67:=(s5.trans s6).trans s7
     have nb7:H7 nb=some (.lst ((q.1::vs).map Co)):=s7 _ _ nb6 nbr
     refine ⟨nb,_,_,rfl,rfl,nb7,by rw [List.length_map,List.length_cons];(clear hv1 hm le5;omega),?_⟩
     obtain ⟨dx7,g7⟩:=x7.rd
     have ntb:tb≠nb:=fun z=>by rw [z,nb3] at htb';cases htb'
     have ntr:tb≠r:=fun z=>by obtain ⟨_,g⟩:=rd3;rw [z,g] at htb';cases htb'
     refine ⟨vs++[v.1],v.2,_,rfl,by simp [hvl],fun b o e hb=>?_,⟨dx7,by rw [aC (Ne.symm nbr)];exact g7⟩,x7.le,?_,?_,e5⟩
     ·rw [aC (aD e hnbH)]
      exact s67 b o e hb
     ·rw [aB]
      simp [Co]
     ·rw [aC ntb]
      exact s7 _ _ (s6 _ _ tb5 ntr) ntr
    ·exact kE p6 (by rw [e5,en];rfl) H6 (s5.trans s6)
   ·rintro σ H5 ⟨vs,p',v3,rfl,hvl,s5,rd5,le5,nb5,tb5,e5⟩
    have hvl:vs.length=5:=hvl
    have e6:cY l fM q.2=.ok (vs,p'):=by
     rw [e5]
     show Except.ok (vs++[],p')=_
     rw [List.append_nil]
    rw [e6,cB] at k
    have x5:=x.same s5 rd5 le5
    refine eV (iE rfl qZ b10 x5 (fun j ej H' s'=>by rw [ej] at k;exact k H' (s5.trans s')) fun p7 ew H7 x7 s7=>?_)
    rw [ew,cB] at k
    have nb7:H7 nb=some (.lst ((q.1::vs).map Co)):=s7 _ _ nb5 nbr
    have s57:=s5.trans s7
    refine ⟨_,rfl,nb,_,rfl,.inl ⟨cW.of nb7,fun t ht=>?_⟩⟩
    have ST:=aL.new (o:=.tup ((q.1::vs).map Co)) ht
    obtain ⟨dx7,g7⟩:=x7.rd
    have ntr:t≠r:=fun z=>by rw [z,g7] at ht;cases ht
    refine k _ t (x.same (s57.trans (aL.sx ST)) ⟨dx7,ST _ _ g7⟩ x7.le) (s57.trans (aL.sx ST)) ?_ aB (by rw [List.length_cons,hvl])
    cases z:H t with
    |none=>rfl
    |some o=>
     have:=s57 t o z ntr
     rw [ht] at this
     cases this
end
def cE (nss:List (List Int)) (l:List Int):Nat->Nat->Except Nat (List (List Nat)×Nat)
 |0,p=>.ok ([],p)
 |n+1,p=>if p=l.length then .ok ([],p) else eK (eB nss l p) fun q=>gF q.1 (cE nss l n q.2)
def dH (nss:List (List Int)) (l:List Int):Except Nat (List Int×List (List Nat)):=
 eK (aV l 0 [98,117,105,108,100,32]) fun p1=>eK (gE l p1 16) fun nm=>eK (aV l nm.2 [10]) fun p3=>eK (cE nss l 256 p3) fun r=>if r.2=l.length then .ok (nm.1,r.1) else .error r.2
theorem Ih:("build ":Str).cps.toList=[98,117,105,108,100,32]:=by decide+kernel
def jA (H:Hp) (ts:List Addr) (ls:List (List Nat)):Prop:=Paired (fun t x=>H t=some (.tup (x.map Co))/\x.length=6) ts ls
def BdF (na la:Addr):List (Str×V):=[("name",.ref na),("lines",.ref la)]
structure BdT (K:PySem.W.Frag) (CB:Addr):Prop where
 cl:Gk K CB
 n1:dF K CB "name"
 n2:dF K CB "lines"
def vW (CB:Addr) (H:Hp) (q:Addr) (nm:List Int) (ls:List (List Nat)):Prop:=∃ (dx na la:Addr) (ts:List Addr),H q=some (.ins CB dx (BdF na la))/\H na=some (.tup (nm.map V.int))/\H la=some (.lst (ts.map V.ref))/\jA H ts ls/\ls.length<=256/\nm.length<=16
section
variable {P:Program} {w:World} {K:PySem.W.Frag} {mg:Str->Option Value} {base:Heap} {C CR CP CB:Addr}
theorem jA.keep {H H':Hp} {ts:List Addr} {ls:List (List Nat)} (h:jA H ts ls) (s:∀ b xs,H b=some (.tup xs)->H' b=some (.tup xs)):jA H' ts ls:=Paired.mapP h fun t x e=>⟨s _ _ e.1,e.2⟩
theorem vW.same {H H':Hp} {q:Addr} {nm:List Int} {ls:List (List Nat)} (h:vW CB H q nm ls) (s:aL H H'):vW CB H' q nm ls:=by
 obtain ⟨dx,na,la,ts,h1,h2,h3,h4,h5⟩:=h
 exact ⟨dx,na,la,ts,s _ _ h1,s _ _ h2,s _ _ h3,h4.keep fun b xs e=>s _ _ e,h5⟩
def Rl (CB:Addr):Sp:=fun vs H Q _=>∃ (r dx na la:Addr),vs=[.ref r,.ref na,.ref la]/\H r=some (.ins CB dx [])/\∀ H':Hp,H' r=some (.ins CB dx (BdF na la))->SX r H H'->Q .non H'
theorem Yk:aO ["self","name","lines"] ["self","name","lines"] (aG uJ):=⟨rfl,rfl,rfl,by decide+kernel,rfl,by decide+kernel,by decide+kernel⟩
theorem Yn {f:Addr} {fd:FuncData} (F:fE K "__init__" "Build.__init__" uJ f fd) (T:BdT K CB):bV P w K mg base bU 1 f fd ["self","name","lines"] (Rl CB):=by
 refine F.ok Yk (fun vs H Q E h=>?_) (fun cdv A outer s H vs Q E hr h=>?_)
 ·obtain ⟨r,dx,na,la,rfl,_⟩:=h
  rfl
 ·obtain ⟨r,dx,na,la,rfl,hp,k⟩:=h
  refine ⟨_,aF (dX (pv 0) (pv 1) rfl) (aH (dX (pv 0) (pv 2) rfl)),?_⟩
  refine ⟨_,rfl,_,rfl,r,CB,dx,_,rfl,hp,T.cl,T.n1,(by show 0<1000;decide),?_⟩
  refine ⟨_,rfl,_,rfl,r,CB,dx,_,rfl,aB,T.cl,T.n2,(by show 1<1000;decide),?_⟩
  exact k _ aB fun b o e hb=>by rw [aC hb,aC hb];exact e
structure BdM (P:Program) (w:World) (K:PySem.W.Frag) (mg:Str->Option Value) (base:Heap) (CB:Addr):Prop where
 ex:∃ f fd,Mk K CB f/\bV P w K mg base bU 1 f fd ["self","name","lines"] (Rl CB)/\fF K fd ["self","name","lines"] []
 mg:mg "Build"=some (.ref CB)
theorem Fs {H:Hp} {r a:Addr} {l:List Int} {p j:Nat} {x:Str} {cs:List Nat} {D:fZ} {σ:List (Option V)} {E:XK} (hσ:σ[j]?=some (some (.ref r))) (hx:x.cps.toList=cs) (h256:∀ c∈cs,c<256) (tx:jO K CR H r a l p)
  (k2:∀ i,aV l p cs=.error i->∀ H',SX r H H'->E (.int i 0) none H') (k1:∀ p',aV l p cs=.ok p'->∀ H',jO K CR H' r a l p'->SX r H H'->D.nx σ H'):zI (mF CR "read_word" (lN K CR) [] E (dD j) (dO (tC (.str x)) gR)) D σ H:=by
 obtain ⟨⟨dx,h1⟩,_,_⟩:=id tx
 exact ⟨_,hσ,r,dx,_,rfl,h1,rfl,yY (Q:=fun _ H1=>D.nx σ H1) hx h256 tx (fun p' e H' x' s'=>k1 p' e H' x' s') k2⟩
theorem Rj {H:Hp} {r a:Addr} {l:List Int} {p L j i:Nat} {D:fZ} {σ:List (Option V)} {E:XK} (hσ:σ[j]?=some (some (.ref r))) (tx:jO K CR H r a l p) (hL:L<=1000) (k2:gE l p L=.error p->E (.int p 0) none H)
  (k1:∀ v:List Int×Nat,gE l p L=.ok v->∀ (H':Hp) (q:Addr),jO K CR H' r a l v.2->SX r H H'->H' q=some (.tup (v.1.map V.int))->v.1.length<=L->D.nx (σ.set i (some (.ref q))) H'):
  Fi (mF CR "read_name" (oY K CR) [] E (dD j) (dO (tC (.int L)) gR)) (lV i) D σ H:=by
 obtain ⟨⟨dx,h1⟩,_,_⟩:=id tx
 exact ⟨_,hσ,r,dx,_,rfl,h1,rfl,zK (Q:=fun y H1=>D.nx (σ.set i (some y)) H1) tx hL (fun v e H' q x' s' g1 g2=>k1 v e H' q x' s' g1 g2) k2⟩
def uU (K:PySem.W.Frag) (CB:Addr):Sp:=fun vs H Q E=>∃ (a na:Addr) (l:List Int) (nss:List (List Int)),vs=[.ref a,.ref na]/\cW K H a (l.map V.int)/\Xo K H na nss/\
 match dH nss l with
 |.ok b=>∀ (H':Hp) (q:Addr),aL H H'->vW CB H' q b.1 b.2->Q (.ref q) H'
 |.error i=>∀ H':Hp,aL H H'->E (.int i 0) none H'
theorem qE:aO ["b","names","reader","name","lines"] ["b","names"] (aG kT):=⟨rfl,rfl,rfl,by decide+kernel,rfl,by decide+kernel,by decide+kernel⟩
def aBu (CR:Addr) (H:Hp) (r a na qn q:Addr) (nm:List Int) (nss:List (List Int)) (l:List Int) (p0 m:Nat) (σ:List (Option V)) (H':Hp):Prop:=
 ∃ (ls:List (List Nat)) (ts:List Addr) (p':Nat),σ=[some (.ref a),some (.ref na),some (.ref r),some (.ref qn),some (.ref q)]/\H' qn=some (.tup (nm.map V.int))/\ls.length+m=256/\p'<=l.length/\aL H H'/\iF CR H' r a p'/\H' q=some (.lst (ts.map V.ref))/\
  jA H' ts ls/\cE nss l 256 p0=fW ls (cE nss l m p')
theorem Pf {f:Addr} {fd:FuncData} (F:fE K "read_build" "read_build" kT f fd) (T:Gn K CR) (RK:RdK P w K mg base CR) (BM:BdM P w K mg base CB) (hlen:mg "len"=none) (c1:CI mg "LONGEST_BUILD_NAME" 16) (c2:CI mg "MOST_LINES" 256)
  (M1:nQ P w K mg base CR "ended" bU 1 ["self"] (oM K CR)) (M2:nQ P w K mg base CR "read_end" (iV C P w) 3 ["self"] (yW K CR)) (M3:nQ P w K mg base CR "read_word" (iV C P w) 5 ["self","word"] (lN K CR))
  (M4:nQ P w K mg base CR "read_name" (iV C P w) 4 ["self","longest"] (oY K CR)) (L1:dL P w K mg base "read_line" (iV C P w) 6 ["reader","names"] (Hq K CR)):bV P w K mg base (iV C P w) 7 f fd ["b","names"] (uU K CB):=by
 obtain ⟨fb,fdb,MB,GB,bB⟩:=BM.ex
 obtain ⟨f1,fd1,m1,G1,b1⟩:=M1.ex
 obtain ⟨f2,fd2,m2,G2,b2⟩:=M2.ex
 obtain ⟨f3,fd3,m3,G3,b3⟩:=M3.ex
 obtain ⟨f4,fd4,m4,G4,b4⟩:=M4.ex
 obtain ⟨g1,gd1,GP,bP,kP,hP⟩:=L1.ex
 obtain ⟨fr,fdr,MR,GR,bR⟩:=RK.ex
 refine F.okX qE (fun vs H Q E h=>?_) (fun cdv A outer s H vs Q E hr h=>?_)
 ·obtain ⟨a,na,l,nss,rfl,_⟩:=h
  rfl
 ·obtain ⟨a,na,l,nss,rfl,tx,hn,k⟩:=h
  have hr5:=hr.mono (j:=5) (by decide)
  have hr4:=hr.mono (j:=4) (by decide)
  have hr3:=hr.mono (j:=3) (by decide)
  have hr2:=hr.mono (j:=2) (by decide)
  have hr1:=hr.mono (j:=1) (by decide)
  refine ⟨_,aF (bI (i:=2) qE.nd rfl (Or.inl rfl) (nN MR GR hr2 (by rfl) RK.mg bR .nil aX (aA (pv 0) aE)))
   (aF (cH (cZ (pv 2) T.cl m3 G3 hr5 b3 .nil aN.pass (aA eU aE)))
   (aF (bI (i:=3) qE.nd rfl (Or.inl rfl) (cZ (pv 2) T.cl m4 G4 hr4 b4 .nil aN.pass (aA (eM c1) aE)))
   (aF (cH (cZ (pv 2) T.cl m3 G3 hr5 b3 .nil aN.pass (aA eU aE)))
   (aF (bI (i:=4) qE.nd rfl (Or.inl rfl) (eE aE))
   (aF (kJ aN.own (gZ (dR (Kv (bQ bW (by rfl) hlen PySem.boot_len (aA (pv 4) aE)) (eM c2))) (iA (lF (eP (cG (pv 2) T.cl m1 G1 hr1 b1 .nil aX))))).pt
    (aH (cH (mV PySem.F.plainAttrs_list PySem.F.slot_list_append PySem.F.type_list_append gJ (pv 4) (aA (aP GP hr (by rfl) hP kP bP .nil aN.pass (aA (pv 2) (aA (pv 1) aE))) aE)))))
   (aF (cH (cG (pv 2) T.cl m2 G2 hr3 b2 .nil aN.pass))
   (aH (aU (nN MB GB hr2 (by rfl) BM.mg bB .nil aX (aA (pv 3) (aA (pv 4) aE))))))))))),?_⟩
  refine ⟨_,rfl,fun r dr nr ndr ndrr=>?_⟩
  refine ⟨r,dr,a,rfl,aB,fun H1 hr1 s1=>⟨rfl,?_⟩⟩
  have S1:aL H H1:=fun y o e=>s1 y o (by rw [aC (aD e nr),aC (aD e ndr)];exact e) (aD e nr)
  have x1:jO K CR H1 r a l 0:=⟨hr1,S1.seq tx,Nat.zero_le _⟩
  have sxs:∀ {H2:Hp},SX r H1 H2->aL H H2:=fun s2 y o e=>s2 y o (S1 y o e) (aD e nr)
  unfold dH at k
  refine eV (Fs rfl Ih (by decide) x1 (fun i e1 H' s'=>by rw [e1] at k;exact k H' (sxs s')) fun p1 e1 H2 x2 s2=>?_)
  rw [e1,cB] at k
  refine eV (Rj (L:=16) rfl x2 (by decide) (fun e2=>by rw [e2] at k;exact k _ (sxs s2)) fun nm e2 H3 qn x3 s3 hqn hnl=>?_)
  rw [e2,cB] at k
  have s3:=s2.trans s3
  refine eV (Fs rfl qZ b10 x3 (fun i e3 H' s'=>by rw [e3] at k;exact k H' (sxs (s3.trans s'))) fun p4 e3 H4 x4 s4=>?_)
  rw [e3,cB] at k
  have hqn4:=s4.tup x3.rd hqn
  have s4:=s3.trans s4
  have S4:=sxs s4
  refine ⟨Nat.zero_le _,fun q hq=>?_⟩
  have sq:=aL.new (o:=.lst []) hq
  have hqH:H q=none:=S4.free hq
  obtain ⟨dx4,g4⟩:=x4.rd
  have nrq:r≠q:=fun z=>by rw [z,hq] at g4;cases g4
  refine ⟨fun m=>aBu CR H r a na qn q nm.1 nss l p4 m,⟨256,[],[],p4,rfl,sq _ _ hqn4,rfl,x4.le,S4.trans sq,⟨dx4,sq _ _ g4⟩,aB,.nil,by rw [jS]⟩,?_⟩
  rintro m σ H5 ⟨ls,ts,p',rfl,hqn5,hm,lp,S5,hr5,hq5,pp,e5⟩
  have x5:jO K CR H5 r a l p':=⟨hr5,S5.seq tx,lp⟩
  obtain ⟨dx5,g5⟩:=id hr5
  have htl:ts.length=ls.length:=Paired.length pp
  have fin:cE nss l m p'=.ok ([],p')->Ei (zI (mF CR "read_end" (yW K CR) [] E (dD 2) gR)) (Zf (Kl CB (Rl CB) [] E0 (dO (dD 3) (dO (dD 4) gR)))) {nx:=fun _ H'=>Q .non H',rt:=Q} [some (.ref a),some (.ref na),some (.ref r),some (.ref qn),some (.ref q)] H5:=by
   intro e6
   have e7:cE nss l 256 p4=.ok (ls,p'):=by
    rw [e5,e6]
    show Except.ok (ls++[],p')=_
    rw [List.append_nil]
   rw [e7,cB] at k
   refine ⟨_,rfl,r,dx5,_,rfl,g5,rfl,r,a,l,p',rfl,x5,fun he=>⟨_,rfl,_,rfl,fun b' db nb' ndb nbb=>⟨b',db,qn,q,rfl,aB,fun H6 hb6 s6=>⟨rfl,?_⟩⟩⟩,fun he=>?_⟩
   ·have he:p'=l.length:=he
    rw [if_pos he] at k
    have S6:aL H5 H6:=fun y o e=>s6 y o (by rw [aC (aD e nb'),aC (aD e ndb)];exact e) (aD e nb')
    exact k H6 b' (S5.trans S6) ⟨db,qn,q,ts,hb6,S6 _ _ hqn5,S6 _ _ hq5,pp.keep fun y xs e=>S6 _ _ e,(by show ls.length<=256;(clear he htl lp;omega)),hnl⟩
   ·have he:¬p'=l.length:=he
    rw [if_neg he] at k
    exact k H5 S5
  refine ⟨_,rfl,q,_,rfl,.inl (cW.of hq5),_,_,rfl,rfl,_,rfl,cF (fun hlt=>?_) (fun hlt=>tW (fin ?_))⟩
  ·have hlt:((ts.map V.ref).length:Int)<256:=of_decide_eq_true hlt
   rw [List.length_map] at hlt
   obtain ⟨n,rfl⟩:∃ n,m=n+1:=⟨m - 1,by (clear lp;omega)⟩
   refine ⟨_,rfl,r,dx5,_,rfl,g5,rfl,r,a,l,p',rfl,x5,_,rfl,cF (fun hne=>?_) (fun hne=>fin ?_)⟩
   ·rw [Bool.not_eq_true',decide_eq_false_iff_not] at hne
    refine ⟨aBu CR H r a na qn q nm.1 nss l p4 n,fun _ _ z=>⟨n,Nat.lt_succ_self n,z⟩,?_⟩
    have hn5:Xo K H5 na nss:=by
     obtain ⟨⟨xs,h1,h2⟩,h3⟩:=hn
     exact ⟨⟨xs,S5.seq h1,oS.same h2 S5⟩,h3⟩
    refine ⟨_,rfl,.inl ⟨rfl,_,cW.of hq5⟩,_,rfl,_,rfl,r,a,na,l,p',nss,rfl,x5,hn5,?_⟩
    have e6:cE nss l (n+1) p'=eK (eB nss l p') fun q=>gF q.1 (cE nss l n q.2):=if_neg hne
    cases e7:eB nss l p' with
    |error i=>
     intro H' s'
     have e8:cE nss l 256 p4=.error i:=by
      rw [e5,e6,e7]
      rfl
     rw [e8] at k
     exact k H' fun y o e=>s' y o (S5 y o e) (aD e nr)
    |ok q1=>
     intro H6 t x6 s6 nt ht h6
     have hq6:H6 q=some (.lst (ts.map V.ref)):=s6 _ _ hq5 (Ne.symm nrq)
     have hsl:=aY
     refine ⟨q,_,_,rfl,rfl,hq6,?_,?_⟩
     ·rw [List.length_map]
      (clear h6 hne hm htl lp;omega)
     ·obtain ⟨dx6,g6⟩:=x6.rd
      have tupk:∀ b xs,H6 b=some (.tup xs)->upd H6 q (.lst (ts.map V.ref++[V.ref t])) b=some (.tup xs):=fun b xs e=>by
       rw [aC (fun z=>by rw [z,hq6] at e;cases e)]
       exact e
      refine ⟨ls++[q1.1],ts++[t],q1.2,rfl,tupk _ _ (s6.tup hr5 hqn5),by simp;(clear hsl h6 hne hlt htl lp;omega),x6.le,fun y o e=>?_,⟨dx6,by rw [aC nrq];exact g6⟩,by rw [aB,List.map_append];rfl,?_,?_⟩
      ·rw [aC (aD e hqH)]
       exact s6 y o (S5 y o e) (aD e nr)
      ·refine Paired.snoc ((pp.keep (H':=H6) fun b xs e=>s6.tup hr5 e).keep tupk) ⟨tupk _ _ ht,h6⟩
      ·rw [e5,e6,e7,cB,iT]
   ·rw [Bool.not_eq_true',decide_eq_false_iff_not,Classical.not_not] at hne
    exact if_pos hne
  ·have hlt:¬((ts.map V.ref).length:Int)<256:=fun z=>hlt (decide_eq_true z)
   rw [List.length_map] at hlt
   rw [show m=0 by (clear lp;omega)]
   rfl
end
theorem tD {l:List Int}:∀ {n p:Nat},(256:Int)∉bJ l p n
 |0,p=>by simp [bJ]
 |n+1,p=>by
  rw [bJ]
  split
  ·rename_i h
   intro z
   rcases List.mem_cons.mp z with z|z
   ·rw [<-z] at h
    revert h
    decide
   ·exact tD z
  ·simp
theorem aK {α β:Type} {r:Except Nat α} {f:α->Except Nat β} {b:β} (h:eK r f=.ok b):∃ a,r=.ok a/\f a=.ok b:=by
 cases r with
 |error i=>cases h
 |ok a=>exact ⟨a,rfl,h⟩
theorem Mt {l:List Int} {p L:Nat} {v:List Int×Nat} (h:gE l p L=.ok v):(256:Int)∉v.1:=by
 unfold gE at h
 split at h
 ·cases h
  exact tD
 ·cases h
theorem Fy {l:List Int} {p:Nat} {q:aM×Nat} (h:dS l p=.ok q):(256:Int)∉q.1.name:=by
 unfold dS at h
 obtain ⟨p1,_,h⟩:=aK h
 obtain ⟨nm,e,h⟩:=aK h
 have hn:=Mt e
 obtain ⟨_,_,h⟩:=aK h
 obtain ⟨_,_,h⟩:=aK h
 obtain ⟨_,_,h⟩:=aK h
 obtain ⟨_,_,h⟩:=aK h
 obtain ⟨_,_,h⟩:=aK h
 obtain ⟨_,_,h⟩:=aK h
 obtain ⟨_,_,h⟩:=aK h
 obtain ⟨_,_,h⟩:=aK h
 obtain ⟨_,_,h⟩:=aK h
 obtain ⟨_,_,h⟩:=aK h
 cases h
 exact hn
theorem eZ {α:Type} {x:α} {r:Except Nat (List α×Nat)} {q:List α×Nat} (h:gF x r=.ok q):∃ q',r=.ok q'/\q=(x::q'.1,q'.2):=by
 cases r with
 |error i=>cases h
 |ok q'=>cases h;exact ⟨q',rfl,rfl⟩
theorem zM {l:List Int}:∀ {n p:Nat} {q:List aM×Nat},cT l n p=.ok q->∀ pr∈q.1,(256:Int)∉pr.name
 |0,p,q,h=>by cases h;intro pr hp;cases hp
 |n+1,p,q,h=>by
  rw [cT] at h
  split at h
  ·cases h;intro pr hp;cases hp
  ·obtain ⟨q1,e1,h⟩:=aK h
   obtain ⟨q2,e2,rfl⟩:=eZ h
   intro pr hp
   rcases List.mem_cons.mp hp with rfl|hp
   ·exact Fy e1
   ·exact zM e2 pr hp
theorem Vd {l:List Int} {prs:List aM} (h:gY l=.ok prs):∀ pr∈prs,(256:Int)∉pr.name:=by
 unfold gY at h
 obtain ⟨q,e1,h⟩:=aK h
 obtain ⟨r,e2,h⟩:=aK h
 split at h
 ·cases h
  intro pr hp
  rcases List.mem_cons.mp hp with rfl|hp
  ·exact Fy e1
  ·exact zM e2 pr hp
 ·cases h
def Cz (rf ft:Int) (pa:Addr) (bv rv:V):List (Str×V):=[("refusal",.int rf),("fault",.int ft),("parts",.ref pa),("build",bv),("room",rv)]
structure GvT (K:PySem.W.Frag) (CG:Addr):Prop where
 cl:Gk K CG
 n1:dF K CG "refusal"
 n2:dF K CG "fault"
 n3:dF K CG "parts"
 n4:dF K CG "build"
 n5:dF K CG "room"
inductive Tn
 |no (n:Int)
 |bad (i:Nat)
 |ok (prs:List aM) (nm:List Int) (ls:List (List Nat))
def dC (lc lb:List Int):Tn:=if 1048576<lc.length\/16384<lb.length then .no (-2) else match gY lc with
 |.error _=>.no (-6)
 |.ok prs=>if nH prs=true then (match dH (prs.map (·.name)) lb with
  |.error i=>.bad i
  |.ok b=>.ok prs b.1 b.2) else .no (-8)
def Sd (CG CP CB:Addr) (H:Hp) (g:Addr):Tn->Prop
 |.no n=>∃ dx pa,H g=some (.ins CG dx (Cz n 0 pa .non .non))
 |.bad i=>∃ dx pa,H g=some (.ins CG dx (Cz (-5) i pa .non .non))
 |.ok prs nm ls=>∃ dx pa q bs,H g=some (.ins CG dx (Cz 0 0 pa (.ref q) .non))/\H pa=some (.lst (bs.map V.ref))/\dI CP H bs prs/\vW CB H q nm ls/\1<=prs.length/\prs.length<=64
section
variable {P:Program} {w:World} {K:PySem.W.Frag} {mg:Str->Option Value} {base:Heap} {C CR CP CB CG:Addr}
def Ht (CG:Addr):Sp:=fun vs H Q _=>∃ (r dx pa:Addr) (rf ft:Int) (bv:V),vs=[.ref r,.int rf,.int ft,.ref pa,bv]/\H r=some (.ins CG dx [])/\∀ H':Hp,H' r=some (.ins CG dx (Cz rf ft pa bv .non))->SX r H H'->Q .non H'
theorem Vi:aO ["self","refusal","fault","parts","build"] ["self","refusal","fault","parts","build"] (aG uK):=⟨rfl,rfl,rfl,by decide+kernel,rfl,by decide+kernel,by decide+kernel⟩
theorem Wf {f:Addr} {fd:FuncData} (F:fE K "__init__" "Given.__init__" uK f fd) (T:GvT K CG):yP P w K mg base bU 1 f fd ["self","refusal","fault","parts","build"] (Ht CG):=by
 refine F.okN Vi (fun vs H Q E h=>?_) (fun cdv A outer s H vs Q E hr h=>?_)
 ·obtain ⟨r,dx,pa,rf,ft,bv,rfl,_⟩:=h
  rfl
 ·obtain ⟨r,dx,pa,rf,ft,bv,rfl,hp,k⟩:=h
  refine ⟨_,aF (dX (pv 0) (pv 1) rfl) (aF (dX (pv 0) (pv 2) rfl) (aF (dX (pv 0) (pv 3) rfl) (aF (dX (pv 0) (pv 4) rfl) (aH (dX (pv 0) uZ rfl))))),?_⟩
  refine ⟨_,rfl,_,rfl,r,CG,dx,_,rfl,hp,T.cl,T.n1,(by show 0<1000;decide),?_⟩
  refine ⟨_,rfl,_,rfl,r,CG,dx,_,rfl,aB,T.cl,T.n2,(by show 1<1000;decide),?_⟩
  refine ⟨_,rfl,_,rfl,r,CG,dx,_,rfl,aB,T.cl,T.n3,(by show 2<1000;decide),?_⟩
  refine ⟨_,rfl,_,rfl,r,CG,dx,_,rfl,aB,T.cl,T.n4,(by show 3<1000;decide),?_⟩
  refine ⟨_,rfl,r,CG,dx,_,rfl,aB,T.cl,T.n5,(by show 4<1000;decide),?_⟩
  exact k _ aB fun b o e hb=>by rw [aC hb,aC hb,aC hb,aC hb,aC hb];exact e
structure GvM (P:Program) (w:World) (K:PySem.W.Frag) (mg:Str->Option Value) (base:Heap) (CG:Addr):Prop where
 ex:∃ f fd,Mk K CG f/\yP P w K mg base bU 1 f fd ["self","refusal","fault","parts","build"] (Ht CG)/\fF K fd ["self","refusal","fault","parts","build"] []
 mg:mg "Given"=some (.ref CG)
def Lr (H:Hp) (D:Addr) (prs:List aM):Prop:=∃ qs:List Addr,H D=some (.lst (qs.map V.ref))/\Paired (fun q pr=>H q=some (.tup (pr.name.map V.int))) qs prs
def oJ (K:PySem.W.Frag) (CP:Addr):Sp:=fun vs H Q _=>∃ (pa:Addr) (bs:List Addr) (prs:List aM),vs=[.ref pa]/\cW K H pa (bs.map V.ref)/\dI CP H bs prs/\prs.length<=64/\∀ (H':Hp) (D:Addr),aL H H'->H D=none->Lr H' D prs->Q (.ref D) H'
theorem vQ:aO ["parts","part"] ["parts"] (aG mZ):=⟨rfl,rfl,rfl,by decide+kernel,rfl,by decide+kernel,by decide+kernel⟩
theorem Pk {f:Addr} {fd:FuncData} (F:fE K "names_of" "names_of" mZ f fd) (T':Oo K CP):bV P w K mg base bU 1 f fd ["parts"] (oJ K CP):=by
 refine F.ok vQ (fun vs H Q E h=>?_) (fun cdv A outer s H vs Q E hr h=>?_)
 ·obtain ⟨pa,bs,prs,rfl,_⟩:=h
  rfl
 ·obtain ⟨pa,bs,prs,rfl,hpa,hps,hp64,k⟩:=h
  refine ⟨_,aH (aU (tL (own:=[("part",1)]) (te:=Tp K (dD 1) "name") rfl vQ.nd (gN (pv 0)) (eW (N:=["parts","part"]) (sc:=aG mZ) (by decide+kernel))
   (fun _ _ _ _ _=>bH (i:=1) vQ.nd rfl (Or.inl rfl)) (fun _ _ _ _ _=>gL) (fun _ _ _ _ _=>aT (pv 1) rfl))),?_⟩
  have hbl:bs.length=prs.length:=Paired.length hps
  have hsl:=aY
  refine ⟨_,rfl,pa,rfl,⟨_,hpa⟩,fun Dl hDl=>?_⟩
  refine nZ (xs:=bs.map V.ref) (fun i H'=>aL H H'/\∃ qs,H' Dl=some (.lst (qs.map V.ref))/\Paired (fun q pr=>H q=some (.tup (pr.name.map V.int))) qs (prs.take i)) ⟨aL.new hDl,[],aB,.nil⟩ (fun i H' _ z=>z.1.seq hpa) ?_ ?_
  ·rintro i x H3 ex ⟨S3,qs,hD3,pq⟩
   have hi:i<prs.length:=by
    have:=(List.getElem?_eq_some_iff.mp ex).1
    rwa [List.length_map,hbl] at this
   obtain ⟨pr,ep⟩:∃ pr,prs[i]?=some pr:=⟨_,List.getElem?_eq_getElem hi⟩
   obtain ⟨b',eb,pat,po⟩:=cA hps ep
   rw [List.getElem?_map,eb] at ex
   cases ex
   obtain ⟨dx,nm,cc,f1,f2,f3⟩:=pat
   have hql:qs.length=(prs.take i).length:=Paired.length pq
   rw [List.length_take] at hql
   refine ⟨rfl,_,rfl,b',CP,dx,_,_,rfl,S3 _ _ f1,T'.cl,T'.n1,rfl,_,hD3,by rw [List.length_map];(clear hi hbl;omega),fun y o e=>?_,qs++[nm],by rw [aB,List.map_append];rfl,?_⟩
   ·rw [aC (aD e hDl)]
    exact S3 _ _ e
   ·rw [List.take_succ,ep]
    exact Paired.snoc pq f2
  ·rintro H3 ⟨S3,qs,hD3,pq⟩
   rw [List.length_map,hbl,List.take_length] at pq
   exact k H3 Dl S3 hDl ⟨qs,hD3,Paired.mapP pq fun q pr e=>S3 _ _ e⟩
def By (K:PySem.W.Frag) (CG CP CB:Addr):Sp:=fun vs H Q _=>∃ (c b:Addr) (lc lb:List Int),vs=[.ref c,.ref b]/\cW K H c (lc.map V.int)/\cW K H b (lb.map V.int)/\∀ (H':Hp) (g:Addr),aL H H'->H g=none->Sd CG CP CB H' g (dC lc lb)->Q (.ref g) H'
theorem qG:aO ["c","b","parts","build","e"] ["c","b"] (aG iU):=⟨rfl,rfl,rfl,by decide+kernel,rfl,by decide+kernel,by decide+kernel⟩
theorem Dm {H:Hp} {n ft:Int} {Q:V->Hp->Prop} (k:∀ (H':Hp) (g:Addr),aL H H'->H g=none->(∃ dx pa,H' g=some (.ins CG dx (Cz n ft pa .non .non)))->Q (.ref g) H'):
  ∀ l1,H l1=none->∀ x dx,upd H l1 (.lst []) x=none->upd H l1 (.lst []) dx=none->dx≠x->
   Ht CG [.ref x,.int n,.int ft,.ref l1,.non] (upd (upd (upd H l1 (.lst [])) dx (.own x)) x (.ins CG dx [])) (fun v H2=>v=.non/\Q (.ref x) H2) E0:=by
 intro l1 h1 x dx hx hdx hne
 have S:aL H (upd H l1 (.lst [])):=aL.new h1
 refine ⟨x,dx,l1,n,ft,.non,rfl,aB,fun H' hg s=>⟨rfl,k H' x (fun b o e=>?_) (S.free hx) ⟨dx,l1,hg⟩⟩⟩
 have e2:=S b o e
 exact s b o (by rw [aC (aD e2 hx),aC (aD e2 hdx)];exact e2) (aD e2 hx)
theorem Pj {f:Addr} {fd:FuncData} (F:fE K "read_given" "read_given" iU f fd) (GM:GvM P w K mg base CG) (S:Zq P w K mg base C) (hlen:mg "len"=none) (c1:CI mg "MOST_CATALOGUE_BYTES" 1048576) (c2:CI mg "MOST_BUILD_BYTES" 16384)
  (L1:dL P w K mg base "read_catalogue" (iV C P w) 8 ["c"] (Kt K CP)) (L2:dL P w K mg base "catalogue_right" bU 5 ["parts"] (pO K CP)) (L3:dL P w K mg base "read_build" (iV C P w) 7 ["b","names"] (uU K CB)) (L4:dL P w K mg base "names_of" bU 1 ["parts"] (oJ K CP)):
  bV P w K mg base bU 9 f fd ["c","b"] (By K CG CP CB):=by
 obtain ⟨g1,gd1,G1,b1,k1,h1⟩:=L1.ex
 obtain ⟨g2,gd2,G2,b2,k2,h2⟩:=L2.ex
 obtain ⟨g3,gd3,G3,b3,k3,h3⟩:=L3.ex
 obtain ⟨g4,gd4,G4,b4,k4,h4⟩:=L4.ex
 obtain ⟨fg,fgd,MG,GG,bG⟩:=GM.ex
 obtain ⟨fx,fdx,XT,GX,bx⟩:=S.ex
 refine F.ok qG (fun vs H Q E h=>?_) (fun cdv A outer s H vs Q E hr h=>?_)
 ·obtain ⟨c,b,lc,lb,rfl,_⟩:=h
  rfl
 ·obtain ⟨c,b,lc,lb,rfl,hc,hb,k⟩:=h
  have hr7:=hr.mono (j:=7) (by decide)
  have hr5:=hr.mono (j:=5) (by decide)
  have hr1:=hr.mono (j:=1) (by decide)
  have hr2:hU 2 (A.deeper (envOfC "read_given" (aG iU) s.heap.objs.size f cdv)):=(hr.mono (j:=2) (by decide)).n
  refine ⟨_,aF (eG (Le (dR (rB (bQ bW (by rfl) hlen PySem.boot_len (aA (pv 0) aE)) (eM c1))) (Cw (dR (rB (bQ bW (by rfl) hlen PySem.boot_len (aA (pv 1) aE)) (eM c2))))).pt
    (aH (aU (nD MG GG hr2 (by rfl) GM.mg bG (aA (qP lM aI) (aA aI (aA (eE aE) (aA uZ aE))))))) cC)
   (aF (Zl (tb:=fun E'=>Fi (zF (Kt K CP) [] E' (dO (dD 0) gR)) (lV 2)) XT rfl rfl (by rfl) S.mg (fun xe pn E' hP=>aH (bI (i:=2) qG.nd rfl (Or.inl rfl) (aP G1 hr (by rfl) h1 k1 b1 .nil hP (aA (pv 0) aE))))
    (fun ea=>aH (aU (nD MG GG (hr2.mark _) (by rfl) GM.mg bG (aA (qP lM aI) (aA aI (aA (eE aE) (aA uZ aE))))))))
   (aF (eG (lF (eP (aP G2 hr5 (by rfl) h2 k2 b2 .nil aX (aA (pv 2) aE)))) (aH (aU (nD MG GG hr2 (by rfl) GM.mg bG (aA (qP lM aI) (aA aI (aA (eE aE) (aA uZ aE))))))) cC)
   (aF (Qt (i:=4) (tb:=fun E'=>Fi (zF (uU K CB) [] E' (dO (dD 1) (dO (zF (oJ K CP) [] E0 (dO (dD 2) gR)) gR))) (lV 3)) XT rfl rfl (by rfl) S.mg qG.nd rfl rfl
     (fun xe pn E' hP=>aH (bI (i:=3) qG.nd rfl (Or.inl rfl) (aP G3 hr7 (by rfl) h3 k3 b3 .nil hP (aA (pv 1) (aA (aP G4 hr1 (by rfl) h4 k4 b4 .nil aX (aA (pv 2) aE)) aE)))))
     (fun ea=>aH (aU (nD MG GG (hr2.mark _) (by rfl) GM.mg bG (aA (qP lM aI) (aA (Ts XT (pv 4) rfl) (aA (eE aE) (aA uZ aE))))))))
   (aH (aU (nD MG GG hr2 (by rfl) GM.mg bG (aA aI (aA aI (aA (pv 2) (aA (pv 3) aE)))))))))),?_⟩
  have no:∀ (n:Int) (H1:Hp),aL H H1->dC lc lb=.no n->∀ (H':Hp) (g:Addr),aL H1 H'->H1 g=none->(∃ dx pa,H' g=some (.ins CG dx (Cz n 0 pa .non .non)))->Q (.ref g) H':=fun n H1 S1 e H' g S2 fg hg=>by
   have kk:=k H' g (S1.trans S2) (S1.free fg)
   rw [e] at kk
   exact kk hg
  refine ⟨_,rfl,c,_,rfl,.inl hc,_,_,rfl,rfl,_,rfl,cF (fun e1=>Sv ?_) (fun e1=>⟨_,rfl,b,_,rfl,.inl hb,_,_,rfl,rfl,_,rfl,cF (fun e2=>?_) (fun e2=>?_)⟩)⟩
  ·have e1:(1048576:Int)<((lc.map V.int).length:Int):=of_decide_eq_true e1
   rw [List.length_map] at e1
   have e3:dC lc lb=.no (-2):=if_pos (.inl (by omega))
   exact ⟨_,rfl,Nat.zero_le _,fun l1 n1=>Dm (no (-2) H (aL.id' _) e3) l1 n1⟩
  ·have e2:(16384:Int)<((lb.map V.int).length:Int):=of_decide_eq_true e2
   rw [List.length_map] at e2
   have e3:dC lc lb=.no (-2):=if_pos (.inr (by (clear e1;omega)))
   exact ⟨_,rfl,Nat.zero_le _,fun l1 n1=>Dm (no (-2) H (aL.id' _) e3) l1 n1⟩
  ·have e1:¬(1048576:Int)<((lc.map V.int).length:Int):=fun z=>e1 (decide_eq_true z)
   have e2:¬(16384:Int)<((lb.map V.int).length:Int):=fun z=>e2 (decide_eq_true z)
   rw [List.length_map] at e1 e2
   have e3:¬(1048576<lc.length\/16384<lb.length):=by omega
   unfold dC at k no
   rw [if_neg e3] at k no
   refine ⟨_,rfl,c,lc,rfl,hc,?_⟩
   cases ec:gY lc with
   |error i=>
    intro H1 S1 σ' hσ
    refine ⟨_,rfl,Nat.zero_le _,fun l1 n1=>Dm (no (-6) H1 S1 (by rw [ec])) l1 n1⟩
   |ok prs=>
    intro H1 pa bs S1 hpa hps hp64 hp1
    rw [ec] at k no
    refine ⟨_,rfl,pa,bs,prs,rfl,cW.of hpa,hps,hp1,hp64,fun H2 S2=>⟨_,rfl,cF (fun e4=>?_) (fun e4=>?_)⟩⟩
    ·rw [Bool.not_eq_true'] at e4
     exact ⟨_,rfl,Nat.zero_le _,fun l1 n1=>Dm (no (-8) H2 (S1.trans S2) (by show (if nH prs=true then _ else _)=_;rw [if_neg (by rw [e4];decide)])) l1 n1⟩
    ·rw [Bool.not_eq_true',Bool.not_eq_false] at e4
     have S12:=S1.trans S2
     have hpa2:=S2 _ _ hpa
     have hps2:dI CP H2 bs prs:=Paired.mapP hps fun _ _ z=>⟨z.1.same S2,z.2⟩
     have k:∀ (H':Hp) (g:Addr),aL H H'->H g=none->Sd CG CP CB H' g (match dH (prs.map (·.name)) lb with
       |.error i=>.bad i
       |.ok b=>.ok prs b.1 b.2)->Q (.ref g) H':=fun H' g s fg hg=>k H' g s fg (by show Sd CG CP CB H' g (if nH prs=true then _ else _);rw [if_pos e4];exact hg)
     refine ⟨_,rfl,_,rfl,pa,bs,prs,rfl,cW.of hpa2,hps2,hp64,fun H3 Dl S3 _ hN=>?_⟩
     obtain ⟨qs,hD3,pq⟩:=hN
     have ts3:oS K H3 (qs.map V.ref) (prs.map (·.name)):=by
      have key:∀ {qs:List Addr} {prs:List aM},Paired (fun q pr=>H3 q=some (.tup (pr.name.map V.int))) qs prs->oS K H3 (qs.map V.ref) (prs.map (·.name)):=by
       intro qs prs z
       induction z with
       |nil=>exact .nil
       |cons h t ih=>exact .cons ⟨_,rfl,cN.of h⟩ ih
      exact key pq
     have nms:Xo K H3 Dl (prs.map (·.name)):=by
      refine ⟨⟨_,cW.of hD3,ts3⟩,by rw [List.length_map];exact hp64,fun m hm=>?_⟩
      obtain ⟨pr,hpr,rfl⟩:=List.mem_map.mp hm
      obtain ⟨i,hi⟩:=List.mem_iff_getElem?.mp hpr
      obtain ⟨_,_,_,po⟩:=cA hps hi
      exact ⟨po.nm,Vd ec pr hpr⟩
     have S13:=S12.trans S3
     refine ⟨b,Dl,lb,_,rfl,S13.seq hb,nms,?_⟩
     cases eb:dH (prs.map (·.name)) lb with
     |error i=>
      intro H4 S4
      rw [eb] at k
      refine ⟨i,rfl,fun σ' e d hσ he hd hne=>?_⟩
      have S5:aL H4 (upd (upd H4 d (.xd [("fault",.int i)])) e (XR C d e)):=fun y o z=>by rw [aC (aD z he),aC (aD z hd)];exact z
      have h4:(σ'.set 4 (some (V.ref e)))[4]?=some (some (V.ref e)):=List.getElem?_set_self (by have:σ'.length=5:=hσ;(clear hp1 hp64 e3 e2 e1;omega))
      have S15:=(S13.trans S4).trans S5
      refine ⟨_,rfl,_,h4,e,d,i,rfl,aB,by rw [aC hne,aB],Nat.zero_le _,fun l1 n1=>Dm (fun H' g s fg hg=>k H' g (S15.trans s) (S15.free fg) hg) l1 n1⟩
     |ok bd=>
      intro H4 q S4 hbd
      rw [eb] at k
      have S24:aL H1 H4:=(S2.trans S3).trans S4
      refine ⟨_,rfl,_,rfl,fun x dx hx hdx hne=>?_⟩
      refine ⟨x,dx,pa,0,0,.ref q,rfl,aB,fun H5 hg s5=>⟨rfl,?_⟩⟩
      have S45:aL H4 H5:=fun y o e=>s5 y o (by rw [aC (aD e hx),aC (aD e hdx)];exact e) (aD e hx)
      have S15:=S24.trans S45
      exact k H5 x ((S13.trans S4).trans S45) ((S13.trans S4).free hx) ⟨dx,pa,q,bs,hg,S15 _ _ hpa,Paired.mapP hps fun _ _ z=>⟨z.1.same S15,z.2⟩,hbd.same S45,hp1,hp64⟩
end
theorem Py {lc lb:List Int} {n:Int} (h:dC lc lb=.no n):n= -2\/n= -6\/n= -8:=by
 unfold dC at h
 split at h
 ·cases h;exact .inl rfl
 ·split at h
  ·cases h;exact .inr (.inl rfl)
  ·split at h
   ·split at h<;>cases h
   ·cases h;exact .inr (.inr rfl)
end Br1
namespace L2
open PySem PySem.Spec PyProof.Rows
theorem tK {us:List Value} {x:Str} (h:us.length=([x]:List Str).length):∃ a,us=[a]:=List.length_eq_one_iff.mp h
theorem yG {us:List Value} {x y:Str} (h:us.length=([x,y]:List Str).length):∃ a b,us=[a,b]:=by
 cases us with
 |nil=>cases h
 |cons a r=>
  obtain ⟨b,rfl⟩:=tK (x:=x) (Nat.succ.inj h)
  exact ⟨a,b,rfl⟩
theorem Zj {us:List Value} {x y z:Str} (h:us.length=([x,y,z]:List Str).length):∃ a b c,us=[a,b,c]:=by
 cases us with
 |nil=>cases h
 |cons a r=>
  obtain ⟨b,c,rfl⟩:=yG (x:=x) (y:=y) (Nat.succ.inj h)
  exact ⟨a,b,c,rfl⟩
theorem us4 {us:List Value} {x y z w:Str} (h:us.length=([x,y,z,w]:List Str).length):∃ a b c d,us=[a,b,c,d]:=by
 cases us with
 |nil=>cases h
 |cons a r=>
  obtain ⟨b,c,d,rfl⟩:=Zj (x:=x) (y:=y) (z:=z) (Nat.succ.inj h)
  exact ⟨a,b,c,d,rfl⟩
theorem us5 {us:List Value} {x y z w v:Str} (h:us.length=([x,y,z,w,v]:List Str).length):∃ a b c d e,us=[a,b,c,d,e]:=by
 cases us with
 |nil=>cases h
 |cons a r=>
  obtain ⟨b,c,d,e,rfl⟩:=us4 (x:=x) (y:=y) (z:=z) (w:=w) (Nat.succ.inj h)
  exact ⟨a,b,c,d,e,rfl⟩
theorem us7 {us:List Value} {x y z w v u t:Str} (h:us.length=([x,y,z,w,v,u,t]:List Str).length):∃ a b c d e f g,us=[a,b,c,d,e,f,g]:=by
 cases us with
 |nil=>cases h
 |cons a r=>
  cases r with
  |nil=>cases h
  |cons b r=>
   obtain ⟨c,d,e,f,g,rfl⟩:=us5 (x:=x) (y:=y) (z:=z) (w:=w) (v:=v) (Nat.succ.inj (Nat.succ.inj h))
   exact ⟨a,b,c,d,e,f,g,rfl⟩
def gW (K:PySem.W.Frag) (x qual:Str) (st:Stmt):Prop:=∃ (f:Addr) (oc:Value) (od:Option Addr) (kV doc pm:Value) (an:Option Addr) (cdv ct:Value) (osl:Array (Option Value)),
 PySem.W.nsIn K mainGlobals x=some (some (.ref f))/\K.lookup f=some ⟨oc,od,.func (PySem.W.fnOf x qual (eR st) (dU st) (aG st) .none kV doc pm an cdv ct),osl⟩/\PySem.W.codeIn K cdv qual=true/\PySem.W.keepIn K (.ref f)=true
def Aa (K:PySem.W.Frag) (C:Addr) (x qual:Str) (st:Stmt):Prop:=∃ (f:Addr) (oc:Value) (od:Option Addr) (kV doc pm:Value) (an:Option Addr) (cdv ct:Value) (osl:Array (Option Value)),
 PySem.W.findIn K (.ref C) x=some (some (.ref f))/\K.lookup f=some ⟨oc,od,.func (PySem.W.fnOf x qual (eR st) (dU st) (aG st) .none kV doc pm an cdv ct),osl⟩/\PySem.W.codeIn K cdv qual=true/\PySem.W.keepIn K (.ref f)=true/\PySem.W.isFn K (.ref f)=true
structure Hr (K:PySem.W.Frag) (x:Str) (C:Addr):Prop where
 ns:PySem.W.nsIn K mainGlobals x=some (some (.ref C))
 pg:PySem.W.plainGet K C Str.empty=true
 hd:PySem.W.hasDictIn K C=true
 po:PySem.W.plainOver K C=true
 sa:PySem.W.findIn K (.ref C) "__setattr__"=some (some (.builtin "object.__setattr__"))
 makes:PySem.W.makesIn K C=true
 kp:PySem.W.keepIn K (.ref C)=true
section
variable {P:Program} {w:World} {K:PySem.W.Frag} {h:Heap} {mg:Str->Option Value} {base:Heap} {C:Addr} {x qual:Str} {st:Stmt} {CX:Gm} {k:Nat} {ps:List Str} {sp:Sp}
theorem gW.fn0 (h1:gW K x qual st) (X:K.In h) (G:h.Ns mainGlobals mg) (ok:∀ (f:Addr) (fd:FuncData),fE K x qual st f fd->bV P w K mg base CX k f fd ps sp)
  (hb:∀ (kV doc pm:Value) (an:Option Addr) (cdv ct:Value) (us:List Value),us.length=ps.length->bindArgs (PySem.W.fnOf x qual (eR st) (dU st) (aG st) .none kV doc pm an cdv ct) ⟨us,[]⟩=pure (ps.zip us)):Br1.dL P w K mg base x CX k ps sp:=by
 obtain ⟨f,oc,od,kV,doc,pm,an,cdv,ct,osl,a,l,c,kp⟩:=h1
 have F:=sG (st:=st) l c kp
 exact ⟨f,_,ok _ _ F,F.binds hb,kp,PySem.W.mg_of X G a⟩
theorem Aa.mt (h1:Aa K C x qual st) (ok:∀ (f:Addr) (fd:FuncData),fE K x qual st f fd->bV P w K mg base CX k f fd ps sp)
  (hb:∀ (kV doc pm:Value) (an:Option Addr) (cdv ct:Value) (us:List Value),us.length=ps.length->bindArgs (PySem.W.fnOf x qual (eR st) (dU st) (aG st) .none kV doc pm an cdv ct) ⟨us,[]⟩=pure (ps.zip us)):Br1.nQ P w K mg base C x CX k ps sp:=by
 obtain ⟨f,oc,od,kV,doc,pm,an,cdv,ct,osl,a,l,c,kp,i⟩:=h1
 have F:=sG (st:=st) l c kp
 exact ⟨f,_,⟨a,i,kp⟩,ok _ _ F,F.binds hb⟩
theorem Hr.cl (h1:Hr K x C):Gk K C:=⟨h1.pg,h1.hd,h1.po,h1.sa⟩
theorem Aa.mk (h1:Aa K C "__init__" qual st) (hC:Hr K x C) (ok:∀ (f:Addr) (fd:FuncData),fE K "__init__" qual st f fd->bV P w K mg base CX k f fd ps sp)
  (hb:∀ (kV doc pm:Value) (an:Option Addr) (cdv ct:Value) (us:List Value),us.length=ps.length->bindArgs (PySem.W.fnOf "__init__" qual (eR st) (dU st) (aG st) .none kV doc pm an cdv ct) ⟨us,[]⟩=pure (ps.zip us)):∃ f fd,Mk K C f/\bV P w K mg base CX k f fd ps sp/\fF K fd ps []:=by
 obtain ⟨f,oc,od,kV,doc,pm,an,cdv,ct,osl,a,l,c,kp,i⟩:=h1
 have F:=sG (st:=st) l c kp
 exact ⟨f,_,⟨hC.makes,a,i,hC.kp⟩,ok _ _ F,F.binds hb⟩
theorem Aa.mkN (h1:Aa K C "__init__" qual st) (hC:Hr K x C) (ok:∀ (f:Addr) (fd:FuncData),fE K "__init__" qual st f fd->yP P w K mg base CX k f fd ps sp)
  (hb:∀ (kV doc pm:Value) (an:Option Addr) (cdv ct:Value) (us:List Value),us.length=ps.length->bindArgs (PySem.W.fnOf "__init__" qual (eR st) (dU st) (aG st) .none kV doc pm an cdv ct) ⟨us,[]⟩=pure (ps.zip us)):∃ f fd,Mk K C f/\yP P w K mg base CX k f fd ps sp/\fF K fd ps []:=by
 obtain ⟨f,oc,od,kV,doc,pm,an,cdv,ct,osl,a,l,c,kp,i⟩:=h1
 have F:=sG (st:=st) l c kp
 exact ⟨f,_,⟨hC.makes,a,i,hC.kp⟩,ok _ _ F,F.binds hb⟩
end
end L2
namespace Br1
open PySem PySem.Spec PyProof.Rows L2
def Hn (K:PySem.W.Frag) (x:Str) (n:Int):Prop:=∃ t,PySem.W.nsIn K mainGlobals x=some (some (.int n t))
theorem Hn.ci {K:PySem.W.Frag} {h:Heap} {mg:Str->Option Value} {x:Str} {n:Int} (hk:Hn K x n) (X:K.In h) (G:h.Ns mainGlobals mg):CI mg x n:=by
 obtain ⟨t,e⟩:=hk
 exact ⟨t,PySem.W.mg_of X G e⟩
theorem Il {K:PySem.W.Frag} {f:Addr} {x qual:Str} {st:Stmt} (h:fnD K f x qual=some (Vr st)):∃ (oc:Value) (od:Option Addr) (kV doc pm:Value) (an:Option Addr) (cdv ct:Value) (osl:Array (Option Value)),
  K.lookup f=some ⟨oc,od,.func (PySem.W.fnOf x qual (eR st) (dU st) (aG st) .none kV doc pm an cdv ct),osl⟩/\PySem.W.codeIn K cdv qual=true/\PySem.W.keepIn K (.ref f)=true:=by
 unfold fnD at h
 split at h
 ·rename_i oc od nm q pa b sc gl kV doc pm an cd ct bl osl e
  split at h
  ·rename_i t
   simp only [Bool.and_eq_true,beq_iff_eq] at t
   obtain ⟨rfl,rfl,rfl,rfl,c,k⟩:=t
   cases h
   exact ⟨oc,od,kV,doc,pm,an,cd,ct,osl,e,c,k⟩
  ·cases h
 ·cases h
theorem Tl {K:PySem.W.Frag} {C f:Addr} (h:aAh K C=some f):Cp K C f:=by
 unfold aAh at h
 split at h
 ·rename_i c dd nm bs mro N q hd sn sub ab col hdel sl e
  split at h
  ·rename_i k0 k1 k2 k3 b k5 es
   split at h
   ·rename_i t
    simp only [Bool.and_eq_true,beq_iff_eq,Bool.not_eq_true'] at t
    obtain ⟨rfl,rfl,rfl,rfl,rfl,t1,t2,t3,t4,t5,t6⟩:=t
    split at h
    ·rename_i f' ei
     split at h
     ·rename_i tf
      cases h
      have es:sl=#[k0,k1,k2,k3,some (.builtin "Exception.__new__"),k5]:=by
       cases sl
       exact congrArg Array.mk es
      subst es
      exact ⟨⟨nm,q,N,bs,sn,sub,ab,col,dd,k0,k1,k2,k3,k5,e,t1,ei,t2,t3,t4,t5⟩,tf,t6⟩
     ·cases h
    ·cases h
   ·cases h
  ·cases h
 ·cases h
def Ft.P (K:PySem.W.Frag):Ft->Prop
 |.no x=>PySem.W.nsIn K mainGlobals x=some none
 |.int x n=>Hn K x n
 |.fn x st=>gW K x x st
 |.cl x=>Hr K x (dP K x)
 |.at c f=>PySem.W.findIn K (.ref (dP K c)) f=some none
 |.mt c m q st=>Aa K (dP K c) m q st
 |.ints x l=>∃ a,PySem.W.nsIn K mainGlobals x=some (some (.ref a))/\∃ (o:Obj) (its:Array Value) (n:Nat),K.lookup a=some o/\o.cls=.type "tuple"/\o.data=.seq its n/\its.size<=sizeLine/\bS (l.map V.int) its.toList
 |.exc x q st=>PySem.W.nsIn K mainGlobals x=some (some (.ref (dP K x)))/\∃ (f:Addr) (oc:Value) (od:Option Addr) (kV doc pm:Value) (an:Option Addr) (cdv ct:Value) (osl:Array (Option Value)),
   Cp K (dP K x) f/\K.lookup f=some ⟨oc,od,.func (PySem.W.fnOf "__init__" q (eR st) (dU st) (aG st) .none kV doc pm an cdv ct),osl⟩/\PySem.W.codeIn K cdv q=true/\PySem.W.keepIn K (.ref f)=true
theorem Af:∀ {l:List Int} {vs:List Value},vs.map Wz=l.map some->bS (l.map V.int) vs
 |[],[],_=>.nil
 |[],v::r,h=>by cases h
 |n::l,[],h=>by cases h
 |n::l,v::r,h=>by
  obtain ⟨h1,h2⟩:=List.cons.inj h
  refine .cons ?_ (Af h2)
  cases v with
  |int m t=>cases h1;exact ⟨t,rfl⟩
  |_=>cases h1
theorem Ft.ok {K:PySem.W.Frag}:∀ {f:Ft},f.D K=f.X->f.P K
 |.no x,h=>beq_iff_eq.mp (congrArg Prod.fst h)
 |.int x n,h=>by
  have h:=congrArg Prod.fst h
  simp only [Ft.D,Ft.X] at h
  split at h
  ·rename_i m t e
   rw [beq_iff_eq] at h
   subst h
   exact ⟨t,e⟩
  ·cases h
 |.fn x st,h=>by
  simp only [Ft.D,Ft.X] at h
  split at h
  ·rename_i f e
   obtain ⟨oc,od,kV,doc,pm,an,cdv,ct,osl,l,c,k⟩:=Il (congrArg Prod.snd h)
   exact ⟨f,oc,od,kV,doc,pm,an,cdv,ct,osl,e,l,c,k⟩
  ·cases h
 |.cl x,h=>by
  have h:=congrArg Prod.fst h
  simp only [Ft.D,Ft.X] at h
  simp only [Bool.and_eq_true,beq_iff_eq] at h
  obtain ⟨h1,h2,h3,h4,h5,h6,h7⟩:=h
  exact ⟨h1,h2,h3,h4,h5,h6,h7⟩
 |.at c f,h=>beq_iff_eq.mp (congrArg Prod.fst h)
 |.mt c m q st,h=>by
  simp only [Ft.D,Ft.X] at h
  split at h
  ·rename_i f e
   obtain ⟨oc,od,kV,doc,pm,an,cdv,ct,osl,l,c,k⟩:=Il (congrArg Prod.snd h)
   exact ⟨f,oc,od,kV,doc,pm,an,cdv,ct,osl,e,l,c,k,congrArg Prod.fst h⟩
  ·cases h
 |.ints x l,h=>by
  have h:=congrArg Prod.fst h
  simp only [Ft.D,Ft.X] at h
  split at h
  ·rename_i a e
   split at h
   ·rename_i c d its n sl e2
    simp only [Bool.and_eq_true,beq_iff_eq,decide_eq_true_iff] at h
    obtain ⟨rfl,h2,h3⟩:=h
    have hl:=congrArg List.length h2
    rw [List.length_map,List.length_map,Array.length_toList] at hl
    have hb:=aY
    refine ⟨a,e,_,its,n,e2,rfl,rfl,?_,Af h2⟩
    show its.size<=sizeLine
    omega
   ·cases h
  ·cases h
 |.exc x q st,h=>by
  simp only [Ft.D,Ft.X] at h
  split at h
  ·rename_i f e
   obtain ⟨oc,od,kV,doc,pm,an,cdv,ct,osl,l,c,k⟩:=Il (congrArg Prod.snd h)
   exact ⟨beq_iff_eq.mp (congrArg Prod.fst h),f,oc,od,kV,doc,pm,an,cdv,ct,osl,Tl e,l,c,k⟩
  ·cases h
theorem Hw {h:Heap}:∀ as:List Addr,(frH as h).In h
 |[]=>fun a o e=>by cases e
 |b::r=>fun a o e=>by
  unfold frH at e
  rw [List.filterMap_cons] at e
  cases q:h.get? b with
  |none=>
   rw [q] at e
   exact Hw r a o e
  |some u=>
   rw [q] at e
   have e:List.lookup a ((b,u)::frH r h)=some o:=e
   rw [List.lookup_cons] at e
   split at e
   ·rename_i z
    cases e
    rw [beq_iff_eq.mp z]
    exact q
   ·exact Hw r a o e
def Yp (as:List Addr) (fs:List Ft):PySem.W.Hook where
 α:=List (Bool×Option Df)
 obs s:=fs.map (Ft.D (frH as s.heap))
 val _:=fs.map Ft.X
 says _ h:=∃ K:PySem.W.Frag,K.In h/\∀ f∈fs,f.P K
 of _ s e:=⟨_,Hw as,fun f hf=>Ft.ok (List.map_inj_left.mp e f hf)⟩
 keeps _ _ _ x k:=let ⟨K,a,b⟩:=x;⟨K,a.keeps k,b⟩
theorem Ft.nth {K:PySem.W.Frag} {fs:List Ft} (h:∀ f∈fs,f.P K) (i:Nat) {f:Ft} (e:fs[i]?=some f):f.P K:=h f (List.mem_of_getElem? e)
end Br1
namespace L2
open PySem PySem.Spec PyProof.Rows
open PySem.W (WData Codec OpenSpec)
theorem Jd {r:OpenSpec} {k:Nat} {q:Program} {loose:List Str} {XP:(Str->Option Value)->Heap->Prop} {YP:World->Heap->Prop} {Good:PySem.W.Frag->Prop} {d:DefRec} {CX:Gm} {ps:List Str} {sp:PySem.W.Frag->Sp}
  (hwell:r.wellSaid=true) (hdf:d.params.defaults=[]) (hlen:r.args.length=ps.length) (hr:fY k callerA)
  (hY:∀ (w:World) (h:Heap),YP w h->∃ K:PySem.W.Frag,K.In h/\Good K)
  (F:∀ (w:World) (K:PySem.W.Frag) (mg:Str->Option Value) (fa:Addr) (h:Heap),Good K->K.In h->h.Ns mainGlobals mg->mg d.name=some (.ref fa)->
   ∃ fd:FuncData,(∀ (s:Shared) (us:List Value),us.length=ps.length->BindsTo s fd ⟨us,[]⟩ (ps.zip us))/\
    ∀ base:Heap,K.In base->base.Ns mainGlobals mg->bV r.prog w K mg base CX k fa fd ps (sp K))
  (hsp:∀ (K:PySem.W.Frag) (H:Hp) (xs:List V) (a:Codec.denoteAll r.args),Kj H->Codec.withinAll r.args a=true->Codec.app r.args r.asked a=true->nG K H xs (Codec.encAll r.args a)->
   sp K xs H (fun v H'=>Dw K H' v (r.ret.enc (Codec.app r.args r.f a))) fun _ _ _=>False)
  (hCX:∀ (H:Hp) (s:Shared) (e:Value) (s':Shared),CX [] H s (fun _ _ _=>False) e s'->False):
  PySem.W.WalkOS q loose XP YP r d [] (fun f vs=>PySem.call f vs):=by
 intro w s_0 s₁ mg mb G Y fa o pm cd doc dV kV ho hd hcd hD hmg hg args vals as hpre hlay hrd hwl hlo
 obtain ⟨a,e1,e2⟩:=PySem.W.os_pre_some hpre
 obtain ⟨e3,hwi⟩:=Codec.encAll_of_decAll r.args args a e1
 subst e3
 obtain ⟨K,KX,gk⟩:=hY w _ Y
 obtain ⟨fd,hb,hF⟩:=F w K mg fa _ gk KX G.T.g hmg
 refine PySem.W.enter_call (codeAny_mono (Nq (R:=[]) (cl:=classAt s_0.heap) (d0:=r.ret.enc (Codec.app r.args r.f a)) KX G.T.g G.T.b G.T.builtins G.T.nolimit hg hwl (yT _ _) (xR hlay) hr hF hb (by rw [xI];exact hlen)
  (fun H xs hO hS=>hsp K H xs a hO hwi e2 hS) fun H e s'=>hCX H s₁ e s') fun r' s' hq=>?_)
 obtain ⟨u,as',rfl,h1,h2,h3,h4⟩:=hq
 exact ⟨.inl ⟨u,_,as',rfl,fun _=>rfl,h1,(OpenSpec.post_iff hwell hwi _ _).mpr rfl,fun z=>Bool.noConfusion (show false=true from z)⟩,h2,h3,h4⟩
end L2
namespace Br1
open PySem PySem.Spec PyProof.Rows L2
structure Xb (P:Program) (w:World) (K:PySem.W.Frag) (mg:Str->Option Value) (base:Heap) (CP CB CG:Addr):Prop where
 TG:GvT K CG
 TP:Oo K CP
 TB:BdT K CB
 PM:PtM P w K mg base CP
 BM:BdM P w K mg base CB
 stud:dL P w K mg base "has_stud" bU 1 ["sign"] vA
 tube:dL P w K mg base "has_tube" bU 1 ["sign"] xD
 up:dL P w K mg base "above" bU 1 ["place"] oH
 dn:dL P w K mg base "below" bU 1 ["place"] nU
 names:dL P w K mg base "names_of" bU 1 ["parts"] (oJ K CP)
 given:dL P w K mg base "read_given" bU 9 ["c","b"] (By K CG CP CB)
section
variable {P:Program} {w:World} {K:PySem.W.Frag} {h:Heap} {mg:Str->Option Value} {base:Heap}
theorem aDm (X:K.In h) (G:h.Ns mainGlobals mg) (hK:∀ f∈ftC,f.P K):Xb P w K mg base (dP K "Part") (dP K "Build") (dP K "Given"):=by
 have g:∀ (i:Nat) (f:Ft),ftC[i]?=some f->f.P K:=fun i f e=>Ft.nth hK i e
 have ci:∀ {x:Str} {n:Int},Hn K x n->CI mg x n:=fun hk=>hk.ci X G
 have nn:∀ {x:Str},PySem.W.nsIn K mainGlobals x=some none->mg x=none:=fun e=>PySem.W.mg_none_of X G e
 have T:Gn K (dP K "Reader"):=⟨Hr.cl (g 0 (.cl "Reader") rfl),(g 1 (.at "Reader" "text") rfl),(g 2 (.at "Reader" "position") rfl)⟩
 have TP:Oo K (dP K "Part"):=⟨Hr.cl (g 3 (.cl "Part") rfl),(g 4 (.at "Part" "name") rfl),(g 5 (.at "Part" "width") rfl),(g 6 (.at "Part" "depth") rfl),(g 7 (.at "Part" "height") rfl),(g 8 (.at "Part" "weight") rfl),(g 9 (.at "Part" "cells") rfl)⟩
 have TB:BdT K (dP K "Build"):=⟨Hr.cl (g 10 (.cl "Build") rfl),(g 11 (.at "Build" "name") rfl),(g 12 (.at "Build" "lines") rfl)⟩
 have TG:GvT K (dP K "Given"):=⟨Hr.cl (g 13 (.cl "Given") rfl),(g 14 (.at "Given" "refusal") rfl),(g 15 (.at "Given" "fault") rfl),(g 16 (.at "Given" "parts") rfl),(g 17 (.at "Given" "build") rfl),(g 18 (.at "Given" "room") rfl)⟩
 obtain ⟨aS,sg1,hS0⟩:=(g 19 (.ints "SIGNS" cP) rfl)
 have hS:∀ H,cN K H aS (cP.map V.int):=fun H=>.inr hS0
 obtain ⟨stk,fS,oc,od,kV,doc,pm,an,cdv,ct,osl,XT,lS,cS,kS⟩:=(g 20 (.exc "Stuck" "Stuck.__init__" qH) rfl)
 have FS:=sG (st:=qH) lS cS kS
 have S:Zq P w K mg base (dP K "Stuck"):=⟨⟨fS,_,XT,Mh FS XT,FS.binds fun _ _ _ _ _ _ us hl=>(by obtain ⟨a,b,rfl⟩:=_root_.L2.yG hl;rfl)⟩,PySem.W.mg_of X G stk⟩
 have L1:dL P w K mg base "is_letter" bU 1 ["byte"] pE:=gW.fn0 (g 21 (.fn "is_letter" oF) rfl) X G (fun f fd F=>Dq F (nn (g 22 (.no "ord") rfl))) fun _ _ _ _ _ _ us hl=>(by obtain ⟨a,rfl⟩:=_root_.L2.tK hl;rfl)
 have L2:dL P w K mg base "is_digit" bU 1 ["byte"] nR:=gW.fn0 (g 23 (.fn "is_digit" qA) rfl) X G (fun f fd F=>Hb F (nn (g 22 (.no "ord") rfl))) fun _ _ _ _ _ _ us hl=>(by obtain ⟨a,rfl⟩:=_root_.L2.tK hl;rfl)
 have RK:RdK P w K mg base (dP K "Reader"):=⟨Aa.mk (g 24 (.mt "Reader" "__init__" "Reader.__init__" Vf) rfl) (g 0 (.cl "Reader") rfl) (fun f fd F=>Xz F T) fun _ _ _ _ _ _ us hl=>(by obtain ⟨a,b,rfl⟩:=_root_.L2.yG hl;rfl),PySem.W.mg_of X G (Hr.ns (g 0 (.cl "Reader") rfl))⟩
 have M1:nQ P w K mg base (dP K "Reader") "ended" bU 1 ["self"] (oM K (dP K "Reader")):=Aa.mt (g 25 (.mt "Reader" "ended" "Reader.ended" Cy) rfl) (fun f fd F=>Pw F T (nn (g 26 (.no "len") rfl))) fun _ _ _ _ _ _ us hl=>(by obtain ⟨a,rfl⟩:=_root_.L2.tK hl;rfl)
 obtain ⟨t0,e0⟩:=ci (g 27 (.int "NO_BYTE" 256) rfl)
 have M2:nQ P w K mg base (dP K "Reader") "here" bU 2 ["self"] (pM K (dP K "Reader")):=Aa.mt (g 28 (.mt "Reader" "here" "Reader.here" Li) rfl) (fun f fd F=>Ut F T e0 M1) fun _ _ _ _ _ _ us hl=>(by obtain ⟨a,rfl⟩:=_root_.L2.tK hl;rfl)
 have M3:nQ P w K mg base (dP K "Reader") "take" bU 3 ["self"] (pN K (dP K "Reader")):=Aa.mt (g 29 (.mt "Reader" "take" "Reader.take" Jv) rfl) (fun f fd F=>Wi F T M2) fun _ _ _ _ _ _ us hl=>(by obtain ⟨a,rfl⟩:=_root_.L2.tK hl;rfl)
 have M4:nQ P w K mg base (dP K "Reader") "read_one_of" (iV (dP K "Stuck") P w) 4 ["self","signs"] (qY K (dP K "Reader")):=Aa.mt (g 30 (.mt "Reader" "read_one_of" "Reader.read_one_of" Ck) rfl) (fun f fd F=>Sm F T S M2 M3) fun _ _ _ _ _ _ us hl=>(by obtain ⟨a,b,rfl⟩:=_root_.L2.yG hl;rfl)
 have M5:nQ P w K mg base (dP K "Reader") "read_word" (iV (dP K "Stuck") P w) 5 ["self","word"] (lN K (dP K "Reader")):=Aa.mt (g 31 (.mt "Reader" "read_word" "Reader.read_word" Lf) rfl) (fun f fd F=>Uy F T (nn (g 22 (.no "ord") rfl)) M4) fun _ _ _ _ _ _ us hl=>(by obtain ⟨a,b,rfl⟩:=_root_.L2.yG hl;rfl)
 have M6:nQ P w K mg base (dP K "Reader") "read_name" (iV (dP K "Stuck") P w) 4 ["self","longest"] (oY K (dP K "Reader")):=Aa.mt (g 32 (.mt "Reader" "read_name" "Reader.read_name" Kf) rfl) (fun f fd F=>Wa F T S (nn (g 26 (.no "len") rfl)) (nn (g 33 (.no "tuple") rfl)) M2 M3 L1 L2) fun _ _ _ _ _ _ us hl=>(by obtain ⟨a,b,rfl⟩:=_root_.L2.yG hl;rfl)
 have M7:nQ P w K mg base (dP K "Reader") "read_number" (iV (dP K "Stuck") P w) 4 ["self","least","most"] (jQ K (dP K "Reader")):=Aa.mt (g 34 (.mt "Reader" "read_number" "Reader.read_number" uN) rfl) (fun f fd F=>Lw F T S (nn (g 22 (.no "ord") rfl)) M2 M3 L2) fun _ _ _ _ _ _ us hl=>(by obtain ⟨a,b,c,rfl⟩:=_root_.L2.Zj hl;rfl)
 have M8:nQ P w K mg base (dP K "Reader") "read_end" (iV (dP K "Stuck") P w) 3 ["self"] (yW K (dP K "Reader")):=Aa.mt (g 35 (.mt "Reader" "read_end" "Reader.read_end" Vg) rfl) (fun f fd F=>Zr F T S M1) fun _ _ _ _ _ _ us hl=>(by obtain ⟨a,rfl⟩:=_root_.L2.tK hl;rfl)
 have PM:PtM P w K mg base (dP K "Part"):=⟨Aa.mk (g 36 (.mt "Part" "__init__" "Part.__init__" Bf) rfl) (g 3 (.cl "Part") rfl) (fun f fd F=>Qm F TP) fun _ _ _ _ _ _ us hl=>(by obtain ⟨a,b,c,d,e,f,g,rfl⟩:=_root_.L2.us7 hl;rfl),PySem.W.mg_of X G (Hr.ns (g 3 (.cl "Part") rfl))⟩
 have BM:BdM P w K mg base (dP K "Build"):=⟨Aa.mk (g 37 (.mt "Build" "__init__" "Build.__init__" uJ) rfl) (g 10 (.cl "Build") rfl) (fun f fd F=>Yn F TB) fun _ _ _ _ _ _ us hl=>(by obtain ⟨a,b,c,rfl⟩:=_root_.L2.Zj hl;rfl),PySem.W.mg_of X G (Hr.ns (g 10 (.cl "Build") rfl))⟩
 have GM:GvM P w K mg base (dP K "Given"):=⟨Aa.mkN (g 38 (.mt "Given" "__init__" "Given.__init__" uK) rfl) (g 13 (.cl "Given") rfl) (fun f fd F=>Wf F TG) fun _ _ _ _ _ _ us hl=>(by obtain ⟨a,b,c,d,e,rfl⟩:=_root_.L2.us5 hl;rfl),PySem.W.mg_of X G (Hr.ns (g 13 (.cl "Given") rfl))⟩
 have L3:dL P w K mg base "has_stud" bU 1 ["sign"] vA:=gW.fn0 (g 39 (.fn "has_stud" qD) rfl) X G (fun f fd F=>Uq F (ci (g 40 (.int "STUD" 115) rfl)) (ci (g 41 (.int "BOTH" 98) rfl))) fun _ _ _ _ _ _ us hl=>(by obtain ⟨a,rfl⟩:=_root_.L2.tK hl;rfl)
 have L4:dL P w K mg base "has_tube" bU 1 ["sign"] xD:=gW.fn0 (g 42 (.fn "has_tube" qK) rfl) X G (fun f fd F=>Vb F (ci (g 43 (.int "TUBE" 116) rfl)) (ci (g 41 (.int "BOTH" 98) rfl))) fun _ _ _ _ _ _ us hl=>(by obtain ⟨a,rfl⟩:=_root_.L2.tK hl;rfl)
 have L5:dL P w K mg base "above" bU 1 ["place"] oH:=gW.fn0 (g 44 (.fn "above" Cr) rfl) X G (fun f fd F=>Ox F) fun _ _ _ _ _ _ us hl=>(by obtain ⟨a,rfl⟩:=_root_.L2.tK hl;rfl)
 have L6:dL P w K mg base "below" bU 1 ["place"] nU:=gW.fn0 (g 45 (.fn "below" Cn) rfl) X G (fun f fd F=>Ro F) fun _ _ _ _ _ _ us hl=>(by obtain ⟨a,rfl⟩:=_root_.L2.tK hl;rfl)
 have L9:dL P w K mg base "read_cells" (iV (dP K "Stuck") P w) 6 ["reader","width","depth","height"] (Bt K (dP K "Reader")):=gW.fn0 (g 46 (.fn "read_cells" lK) rfl) X G (fun f fd F=>Ps F T (nn (g 47 (.no "range") rfl)) hS (PySem.W.mg_of X G sg1) (ci (g 48 (.int "NO_CELL" 46) rfl)) M4 M5) fun _ _ _ _ _ _ us hl=>(by obtain ⟨a,b,c,d,rfl⟩:=_root_.L2.us4 hl;rfl)
 have L8:dL P w K mg base "read_part" (iV (dP K "Stuck") P w) 7 ["reader"] (Hj K (dP K "Reader") (dP K "Part")):=gW.fn0 (g 49 (.fn "read_part" nX) rfl) X G (fun f fd F=>Vy F T PM (ci (g 50 (.int "LONGEST_PART_NAME" 8) rfl)) (ci (g 51 (.int "MOST_WIDTH" 16) rfl)) (ci (g 52 (.int "MOST_DEPTH" 16) rfl)) (ci (g 53 (.int "MOST_HEIGHT" 18) rfl)) (ci (g 54 (.int "MOST_WEIGHT" 9999) rfl)) M5 M6 M7 L9) fun _ _ _ _ _ _ us hl=>(by obtain ⟨a,rfl⟩:=_root_.L2.tK hl;rfl)
 have L7:dL P w K mg base "read_catalogue" (iV (dP K "Stuck") P w) 8 ["c"] (Kt K (dP K "Part")):=gW.fn0 (g 55 (.fn "read_catalogue" pS) rfl) X G (fun f fd F=>Zh F T RK (nn (g 26 (.no "len") rfl)) (ci (g 56 (.int "MOST_PARTS" 64) rfl)) M1 M8 L8) fun _ _ _ _ _ _ us hl=>(by obtain ⟨a,rfl⟩:=_root_.L2.tK hl;rfl)
 have L12:dL P w K mg base "studs_clear" bU 2 ["part"] (Bq (dP K "Part")):=gW.fn0 (g 57 (.fn "studs_clear" Az) rfl) X G (fun f fd F=>Qv F TP L3 L5) fun _ _ _ _ _ _ us hl=>(by obtain ⟨a,rfl⟩:=_root_.L2.tK hl;rfl)
 have L13:dL P w K mg base "tubes_clear" bU 2 ["part"] (Bv (dP K "Part")):=gW.fn0 (g 58 (.fn "tubes_clear" Bc) rfl) X G (fun f fd F=>Tg F TP L4 L6) fun _ _ _ _ _ _ us hl=>(by obtain ⟨a,rfl⟩:=_root_.L2.tK hl;rfl)
 have L14:dL P w K mg base "fills_its_box" bU 2 ["part"] (Cu (dP K "Part")):=gW.fn0 (g 59 (.fn "fills_its_box" wD) rfl) X G (fun f fd F=>Rv F TP (nn (g 60 (.no "enumerate") rfl))) fun _ _ _ _ _ _ us hl=>(by obtain ⟨a,rfl⟩:=_root_.L2.tK hl;rfl)
 have L16:dL P w K mg base "neighbours" bU 2 ["place"] Bl:=gW.fn0 (g 61 (.fn "neighbours" Ar) rfl) X G (fun f fd F=>Qj F L5 L6) fun _ _ _ _ _ _ us hl=>(by obtain ⟨a,rfl⟩:=_root_.L2.tK hl;rfl)
 have L15:dL P w K mg base "hangs_together" bU 3 ["part"] (Bb (dP K "Part")):=gW.fn0 (g 62 (.fn "hangs_together" Bs) rfl) X G (fun f fd F=>Sh F TP (nn (g 26 (.no "len") rfl)) (nn (g 63 (.no "list") rfl)) L16) fun _ _ _ _ _ _ us hl=>(by obtain ⟨a,rfl⟩:=_root_.L2.tK hl;rfl)
 have L17:dL P w K mg base "names_grow" bU 2 ["parts"] (Hf K (dP K "Part")):=gW.fn0 (g 64 (.fn "names_grow" Jp) rfl) X G (fun f fd F=>Wm F TP (nn (g 47 (.no "range") rfl)) (nn (g 26 (.no "len") rfl))) fun _ _ _ _ _ _ us hl=>(by obtain ⟨a,rfl⟩:=_root_.L2.tK hl;rfl)
 have L11:dL P w K mg base "part_right" bU 4 ["part"] (uL (dP K "Part")):=gW.fn0 (g 65 (.fn "part_right" lJ) rfl) X G (fun f fd F=>Sw F L12 L13 L14 L15) fun _ _ _ _ _ _ us hl=>(by obtain ⟨a,rfl⟩:=_root_.L2.tK hl;rfl)
 have L10:dL P w K mg base "catalogue_right" bU 5 ["parts"] (pO K (dP K "Part")):=gW.fn0 (g 66 (.fn "catalogue_right" kI) rfl) X G (fun f fd F=>Dd F (nn (g 67 (.no "all") rfl)) L11 L17) fun _ _ _ _ _ _ us hl=>(by obtain ⟨a,rfl⟩:=_root_.L2.tK hl;rfl)
 have L21:dL P w K mg base "some_begins" bU 2 ["names","beginning"] (xQ K):=gW.fn0 (g 68 (.fn "some_begins" qJ) rfl) X G (fun f fd F=>Mp F (nn (g 69 (.no "any") rfl)) (nn (g 26 (.no "len") rfl))) fun _ _ _ _ _ _ us hl=>(by obtain ⟨a,b,rfl⟩:=_root_.L2.yG hl;rfl)
 have L20:dL P w K mg base "read_part_number" (iV (dP K "Stuck") P w) 5 ["reader","names"] (wH K (dP K "Reader")):=gW.fn0 (g 70 (.fn "read_part_number" uV) rfl) X G (fun f fd F=>Mj F T S M2 M3 L21) fun _ _ _ _ _ _ us hl=>(by obtain ⟨a,b,rfl⟩:=_root_.L2.yG hl;rfl)
 have L19:dL P w K mg base "read_line" (iV (dP K "Stuck") P w) 6 ["reader","names"] (Hq K (dP K "Reader")):=gW.fn0 (g 71 (.fn "read_line" oE) rfl) X G (fun f fd F=>Uc F T (nn (g 33 (.no "tuple") rfl)) (ci (g 72 (.int "MOST_COLOUR" 255) rfl)) (ci (g 73 (.int "ROOM_WIDTH" 64) rfl)) (ci (g 74 (.int "ROOM_DEPTH" 64) rfl)) (ci (g 75 (.int "ROOM_HEIGHT" 96) rfl)) (ci (g 76 (.int "MOST_TURNS" 3) rfl)) M5 M7 L20) fun _ _ _ _ _ _ us hl=>(by obtain ⟨a,b,rfl⟩:=_root_.L2.yG hl;rfl)
 have L18:dL P w K mg base "read_build" (iV (dP K "Stuck") P w) 7 ["b","names"] (uU K (dP K "Build")):=gW.fn0 (g 77 (.fn "read_build" kT) rfl) X G (fun f fd F=>Pf F T RK BM (nn (g 26 (.no "len") rfl)) (ci (g 78 (.int "LONGEST_BUILD_NAME" 16) rfl)) (ci (g 79 (.int "MOST_LINES" 256) rfl)) M1 M8 M5 M6 L19) fun _ _ _ _ _ _ us hl=>(by obtain ⟨a,b,rfl⟩:=_root_.L2.yG hl;rfl)
 have L22:dL P w K mg base "names_of" bU 1 ["parts"] (oJ K (dP K "Part")):=gW.fn0 (g 80 (.fn "names_of" mZ) rfl) X G (fun f fd F=>Pk F TP) fun _ _ _ _ _ _ us hl=>(by obtain ⟨a,rfl⟩:=_root_.L2.tK hl;rfl)
 exact ⟨TG,TP,TB,PM,BM,L3,L4,L5,L6,L22,gW.fn0 (g 81 (.fn "read_given" iU) rfl) X G (fun f fd F=>Pj F GM S (nn (g 26 (.no "len") rfl)) (ci (g 82 (.int "MOST_CATALOGUE_BYTES" 1048576) rfl)) (ci (g 83 (.int "MOST_BUILD_BYTES" 16384) rfl)) L7 L10 L18 L22) fun _ _ _ _ _ _ us hl=>(by obtain ⟨a,b,rfl⟩:=_root_.L2.yG hl;rfl)⟩
end
end Br1
namespace Br1
def aW (t:Br.Bytes):List Int:=t.map fun c=>(c.toNat:Int)
abbrev At (t:Br.Bytes) (p:Nat):Nat×Br.Bytes:=(p,t.drop p)
def rD (i:Int):UInt8:=UInt8.ofNat i.toNat
theorem Rq (c:UInt8):rD (c.toNat:Int)=c:=by
 unfold rD
 rw [Int.toNat_natCast]
 exact UInt8.ofNat_toNat
theorem fX {t:Br.Bytes} {p:Nat} {c:UInt8} (h:t[p]?=some c):aR (aW t) p=(c.toNat:Int):=by
 unfold aR aW
 rw [List.getElem?_map,h]
 rfl
theorem fV {t:Br.Bytes} {p:Nat} (h:t[p]?=none):aR (aW t) p=256:=by
 unfold aR aW
 rw [List.getElem?_map,h]
 rfl
theorem qC {t:Br.Bytes} {p:Nat} {c:UInt8}:aR (aW t) p=(c.toNat:Int)↔t[p]?=some c:=by
 constructor
 ·intro h
  cases e:t[p]? with
  |none=>
   rw [fV e] at h
   have:=UInt8.toNat_lt c
   omega
  |some d=>
   rw [fX e] at h
   have:d.toNat=c.toNat:=by omega
   rw [UInt8.toNat_inj.mp this]
 ·exact fX
theorem eY (t:Br.Bytes):(aW t).length=t.length:=List.length_map _
section
variable {α β:Type} {t:Br.Bytes} {p:Nat}
theorem bN {x:Br.Rd α} {f:α->Br.Rd β} {s:Nat×Br.Bytes}:(x>>=f) s=eK (x s) fun r=>f r.1 r.2:=by
 show (StateT.bind x f) s=_
 unfold StateT.bind
 cases x s with
 |error e=>rfl
 |ok r=>rfl
theorem jB:Br.peek (At t p)=.ok (t[p]?,At t p):=by
 show Except.ok ((t.drop p).head?,_)=_
 rw [List.head?_drop]
theorem oO:Br.skip (At t p)=.ok ((),At t (p+1)):=by
 show Except.ok ((),(p+1,(t.drop p).drop 1))=_
 rw [List.drop_drop]
end
def fC {α β:Type} (t:Br.Bytes) (f:α->β):Except Nat (α×Nat)->Except Nat (β×(Nat×Br.Bytes))
 |.ok x=>.ok (f x.1,At t x.2)
 |.error e=>.error e
def Kc (t:Br.Bytes):Except Nat Nat->Except Nat (Unit×(Nat×Br.Bytes))
 |.ok q=>.ok ((),At t q)
 |.error e=>.error e
theorem Bd {t:Br.Bytes} {p:Nat} {c:UInt8}:Br.byte_ c (At t p)=if t[p]?=some c then .ok ((),At t (p+1)) else .error p:=by
 unfold Br.byte_
 rw [bN,jB,cB]
 show (if t[p]?=some c then Br.skip else Br.stray) (At t p)=_
 by_cases h:t[p]?=some c
 ·rw [if_pos h,if_pos h]
  exact oO
 ·rw [if_neg h,if_neg h]
  rfl
theorem qN {t:Br.Bytes}:∀ {cs:Br.Bytes} {p:Nat},Br.bytes_ cs (At t p)=Kc t (aV (aW t) p (cs.map UInt8.toNat))
 |[],p=>rfl
 |c::r,p=>by
  rw [Br.bytes_,bN,Bd]
  rw [List.map_cons,aV]
  by_cases h:t[p]?=some c
  ·rw [if_pos h,if_pos (qC.mpr h)]
   exact qN
  ·rw [if_neg h,if_neg (fun z=>h (qC.mp z))]
   rfl
theorem oB {t:Br.Bytes} {p:Nat} {c:UInt8}:Br.byte_ c (At t p)=Kc t (aV (aW t) p [c.toNat]):=by
 rw [Bd,aV]
 by_cases h:t[p]?=some c
 ·rw [if_pos h,if_pos (qC.mpr h)]
  rfl
 ·rw [if_neg h,if_neg (fun z=>h (qC.mp z))]
  rfl
theorem Xh {lo hi n:Nat} (hlo:lo<=1) (hh:lo<=hi):Br.leadsTo lo hi n=decide (lo<=n/\n<=hi):=by
 unfold Br.leadsTo
 by_cases hn:n=0
 ·rw [if_pos hn,hn,Bool.eq_iff_iff,beq_iff_eq,decide_eq_true_iff]
  (clear hn hh hlo;omega)
 ·rw [if_neg hn,Bool.eq_iff_iff,List.any_eq_true,decide_eq_true_iff]
  constructor
  ·rintro ⟨k,_,h⟩
   rw [Bool.and_eq_true,decide_eq_true_iff,decide_eq_true_iff] at h
   have h1:1<=10 ^ k:=Nat.one_le_pow _ _ (by decide)
   have h2:n * 1<=n * 10 ^ k:=Nat.mul_le_mul_left n h1
   (clear h1 hh;omega)
  ·rintro ⟨h1,h2⟩
   refine ⟨0,by simp,?_⟩
   rw [Bool.and_eq_true,decide_eq_true_iff,decide_eq_true_iff]
   simp
   (clear h1 hh;omega)
theorem fR (c:UInt8):Br.isDigit c=jG (c.toNat:Int):=by
 unfold Br.isDigit jG
 rw [Bool.eq_iff_iff,Bool.and_eq_true,Bool.and_eq_true,decide_eq_true_iff,decide_eq_true_iff,decide_eq_true_iff,decide_eq_true_iff]
 omega
theorem vV (c:UInt8):Br.isLow c=kM (c.toNat:Int):=by
 unfold Br.isLow kM
 rw [Bool.eq_iff_iff,Bool.and_eq_true,Bool.and_eq_true,decide_eq_true_iff,decide_eq_true_iff,decide_eq_true_iff,decide_eq_true_iff]
 omega
theorem tS {t:Br.Bytes} {lo hi f p:Nat} {v:Option Nat}:Br.digits lo hi (f+1) v (At t p)=
  match ((t[p]?).bind fun (c:UInt8)=>if Br.isDigit c=false\/v=some 0 then Option.none else (if Br.leadsTo lo hi (10 * v.getD 0+(c.toNat - 48))=true then some (10 * v.getD 0+(c.toNat - 48)) else Option.none)) with
  |some n=>Br.digits lo hi f (some n) (At t (p+1))
  |Option.none=>match v with
   |some n=>if lo<=n/\n<=hi then .ok (n,At t p) else .error p
   |Option.none=>.error p:=by
 show (Br.peek>>=fun (o:Option UInt8)=>(match (o.bind fun (c:UInt8)=>if Br.isDigit c=false\/v=some 0 then Option.none else (if Br.leadsTo lo hi (10 * v.getD 0+(c.toNat - 48))=true then some (10 * v.getD 0+(c.toNat - 48)) else Option.none)) with
  |some n=>(do Br.skip;Br.digits lo hi f (some n):Br.Rd Nat)
  |Option.none=>(match v with
   |some n=>(if lo<=n/\n<=hi then pure n else Br.stray:Br.Rd Nat)
   |Option.none=>Br.stray))) (At t p)=_
 rw [bN,jB]
 show (match ((t[p]?).bind fun (c:UInt8)=>if Br.isDigit c=false\/v=some 0 then Option.none else (if Br.leadsTo lo hi (10 * v.getD 0+(c.toNat - 48))=true then some (10 * v.getD 0+(c.toNat - 48)) else Option.none)) with
  |some n=>(do Br.skip;Br.digits lo hi f (some n):Br.Rd Nat)
  |Option.none=>(match v with
   |some n=>(if lo<=n/\n<=hi then pure n else Br.stray:Br.Rd Nat)
   |Option.none=>Br.stray)) (At t p)=_
 cases (t[p]?).bind fun (c:UInt8)=>if Br.isDigit c=false\/v=some 0 then Option.none else (if Br.leadsTo lo hi (10 * v.getD 0+(c.toNat - 48))=true then some (10 * v.getD 0+(c.toNat - 48)) else Option.none) with
 |some n=>
  show (Br.skip>>=fun _=>Br.digits lo hi f (some n)) (At t p)=_
  rw [bN,oO]
  rfl
 |none=>
  cases v with
  |none=>rfl
  |some n=>
   by_cases h:lo<=n/\n<=hi
   ·simp only [h,if_true,and_self]
    rfl
   ·simp only [h,if_false]
    rfl
theorem tF {t:Br.Bytes} {lo hi:Nat} (hlo:lo<=1):∀ {f p n m:Nat},1<=f->(n=0\/hi<n * 10 ^ f)->lo<=n->n<=hi->t.length<=p+m->
  Br.digits lo hi f (some n) (At t p)=.ok ((dE (aW t) hi m p (n:Int)).1.toNat,At t (dE (aW t) hi m p (n:Int)).2)
 |0,p,n,m,h,_,_,_,_=>absurd h (by decide)
 |f+1,p,n,m,_,hc,h1,h2,hm=>by
  rw [tS]
  have stop:(dE (aW t) hi m p (n:Int))=((n:Int),p)->(if lo<=n/\n<=hi then (.ok (n,At t p):Except Nat (Nat×(Nat×Br.Bytes))) else .error p)=.ok ((dE (aW t) hi m p (n:Int)).1.toNat,At t (dE (aW t) hi m p (n:Int)).2):=fun e=>by
   rw [if_pos ⟨h1,h2⟩,e]
   show _=Except.ok (((n:Int)).toNat,At t p)
   rw [Int.toNat_natCast]
  cases e:t[p]? with
  |none=>
   show (if lo<=n/\n<=hi then (.ok (n,At t p):Except Nat (Nat×(Nat×Br.Bytes))) else .error p)=_
   refine stop ?_
   cases m with
   |zero=>rfl
   |succ m=>
    rw [dE,if_neg]
    rintro ⟨_,z,_⟩
    rw [fV e] at z
    revert z
    decide
  |some c=>
   have hp:p<t.length:=(List.getElem?_eq_some_iff.mp e).1
   obtain ⟨m,rfl⟩:∃ m',m=m'+1:=⟨m - 1,by (clear h2 h1 hc hlo;omega)⟩
   have hh:=fX e
   by_cases hd:Br.isDigit c=false\/(some n:Option Nat)=some 0
   ·show (match (if Br.isDigit c=false\/(some n:Option Nat)=some 0 then (Option.none:Option Nat) else _) with
     |some n=>_
     |Option.none=>(if lo<=n/\n<=hi then (.ok (n,At t p):Except Nat (Nat×(Nat×Br.Bytes))) else .error p))=_
    rw [if_pos hd]
    refine stop ?_
    rw [dE,if_neg]
    rintro ⟨z1,z2,_⟩
    rw [hh,<-fR] at z2
    rcases hd with hd|hd
    ·rw [hd] at z2;cases z2
    ·cases hd;exact absurd z1 (by decide)
   ·have hd1:Br.isDigit c=true:=by
     cases z:Br.isDigit c with
     |true=>rfl
     |false=>exact absurd (.inl z) hd
    have hn0:n≠0:=fun z=>hd (.inr (by rw [z]))
    have hdr:48<=c.toNat/\c.toNat<=57:=by
     rw [fR] at hd1
     have:=iG hd1
     (clear hn0 hd hh hm hp h2 h1 hc hlo;omega)
    show (match (if Br.isDigit c=false\/(some n:Option Nat)=some 0 then (Option.none:Option Nat) else (if Br.leadsTo lo hi (10 * n+(c.toNat - 48))=true then some (10 * n+(c.toNat - 48)) else Option.none)) with
     |some n=>Br.digits lo hi f (some n) (At t (p+1))
     |Option.none=>(if lo<=n/\n<=hi then (.ok (n,At t p):Except Nat (Nat×(Nat×Br.Bytes))) else .error p))=_
    rw [if_neg hd,Xh hlo (Nat.le_trans h1 h2)]
    by_cases hl:lo<=10 * n+(c.toNat - 48)/\10 * n+(c.toNat - 48)<=hi
    ·rw [if_pos (decide_eq_true hl)]
     have hpow:n * 10 ^ (f+1)=(10 * n) * 10 ^ f:=by rw [Nat.pow_succ,Nat.mul_comm (10 ^ f) 10,<-Nat.mul_assoc,Nat.mul_comm n 10]
     have hc2:hi<n * 10 ^ (f+1):=by
      rcases hc with z|z
      ·exact absurd z hn0
      ·exact z
     have hf:1<=f:=by
      cases f with
      |zero=>rw [hpow,Nat.pow_zero,Nat.mul_one] at hc2;(clear hc2 hpow hdr hd hh hm hp h2 h1 hlo;omega)
      |succ f=>(clear hc2 hpow hc hl hdr hn0 hd hh hm hp h2 h1 hlo;omega)
     have hmul:(10 * n) * 10 ^ f<=(10 * n+(c.toNat - 48)) * 10 ^ f:=Nat.mul_le_mul_right _ (by (clear hf hc2 hpow hl hdr hn0 hd hh hm hp h2 h1 hc hlo;omega))
     show Br.digits lo hi f (some (10 * n+(c.toNat - 48))) (At t (p+1))=_
     rw [tF hlo (m:=m) hf (.inr (by (clear hf hc2 hl hdr hd hh hm hp h2 h1 hlo;omega))) hl.1 hl.2 (by (clear hmul hf hc2 hpow hl hdr hn0 hd hh hp h2 h1 hc hlo;omega))]
     have e2:dE (aW t) hi (m+1) p (n:Int)=dE (aW t) hi m (p+1) ((10 * n+(c.toNat - 48):Nat):Int):=by
      rw [dE,if_pos]
      ·congr 1
       rw [hh]
       (clear hmul hf hc2 hpow hl hn0 hd hh hm hp h2 h1 hc hlo;omega)
      ·rw [hh]
       refine ⟨by (clear hmul hf hc2 hpow hl hdr hd hh hm hp h2 h1 hc hlo;omega),by rw [<-fR];exact hd1,by (clear hmul hf hc2 hpow hdr hn0 hd hh hm hp h2 h1 hc hlo;omega)⟩
     rw [e2]
    ·rw [if_neg (by rw [decide_eq_false hl];decide)]
     refine stop ?_
     rw [dE,if_neg]
     rw [hh]
     rintro ⟨_,_,z⟩
     exact hl ⟨by (clear z hl hdr hn0 hd hh hm hp h2 h1 hc;omega),by (clear hl hn0 hd hh hm hp h2 h1 hc hlo;omega)⟩
theorem Yy {t:Br.Bytes} {lo hi p:Nat} (hlo:lo<=1) (h1:lo<=hi) (hhi:hi<=100000):Br.num lo hi (At t p)=fC t id (iX (aW t) p lo hi):=by
 unfold Br.num
 rw [tS]
 unfold iX
 cases e:t[p]? with
 |none=>
  rw [if_neg]
  ·rfl
  ·rintro ⟨z,_⟩
   rw [fV e] at z
   revert z
   decide
 |some c=>
  have hh:=fX e
  show (match (if Br.isDigit c=false\/(Option.none:Option Nat)=some 0 then (Option.none:Option Nat) else (if Br.leadsTo lo hi (10 * 0+(c.toNat - 48))=true then some (10 * 0+(c.toNat - 48)) else Option.none)) with
   |some n=>Br.digits lo hi 19 (some n) (At t (p+1))
   |Option.none=>(.error p:Except Nat (Nat×(Nat×Br.Bytes))))=_
  by_cases hd:Br.isDigit c=true
  ·have hdr:48<=c.toNat/\c.toNat<=57:=by
    rw [fR] at hd
    have:=iG hd
    (clear hh hhi h1 hlo;omega)
   rw [if_neg (by rw [hd];simp),Xh hlo h1]
   by_cases hl:lo<=10 * 0+(c.toNat - 48)/\10 * 0+(c.toNat - 48)<=hi
   ·have hok:iZ (aW t) p lo hi:=by
     unfold iZ
     rw [hh]
     exact ⟨by rw [<-fR];exact hd,by (clear hh hhi h1 hlo;omega),by (clear hdr hh hhi h1 hlo;omega)⟩
    rw [if_pos (decide_eq_true hl),if_pos hok]
    have hp:p<t.length:=(List.getElem?_eq_some_iff.mp e).1
    have big:10 * 0+(c.toNat - 48)=0\/hi<(10 * 0+(c.toNat - 48)) * 10 ^ 19:=by (clear hp hl hdr hh h1 hlo;omega)
    show Br.digits lo hi 19 (some (10 * 0+(c.toNat - 48))) (At t (p+1))=_
    rw [tF hlo (m:=(aW t).length - (p+1)) (by decide) big hl.1 hl.2 (by rw [eY];(clear big hp hl hdr hh hhi h1 hlo;omega))]
    have e2:((10 * 0+(c.toNat - 48):Nat):Int)=aR (aW t) p - 48:=by rw [hh];(clear big hp hl hh hhi h1 hlo;omega)
    rw [e2]
    rfl
   ·have hno:¬iZ (aW t) p lo hi:=by
     unfold iZ
     rw [hh]
     rintro ⟨_,z1,z2⟩
     exact hl ⟨by (clear z2 hl hdr hh hhi h1 hlo;omega),by (clear z1 hl hdr hh hhi h1 hlo;omega)⟩
    rw [if_neg (by rw [decide_eq_false hl];decide),if_neg hno]
    rfl
  ·have hd:Br.isDigit c=false:=by
    cases z:Br.isDigit c with
    |false=>rfl
    |true=>exact absurd z hd
   have hno:¬iZ (aW t) p lo hi:=by
    unfold iZ
    rw [hh,<-fR,hd]
    rintro ⟨z,_⟩
    cases z
   rw [if_pos (.inl hd),if_neg hno]
   rfl
theorem Eg {t:Br.Bytes}:∀ {n p:Nat},Br.while_ (fun (c:UInt8)=>Br.isLow c||Br.isDigit c) n (At t p)=.ok ((bJ (aW t) p n).map rD,At t (p+(bJ (aW t) p n).length))
 |0,p=>rfl
 |n+1,p=>by
  show (Br.peek>>=fun (o:Option UInt8)=>(match o with
   |some c=>(if (Br.isLow c||Br.isDigit c)=true then (do Br.skip;let r <-Br.while_ (fun (c:UInt8)=>Br.isLow c||Br.isDigit c) n;return c::r) else return []:Br.Rd Br.Bytes)
   |Option.none=>return [])) (At t p)=_
  rw [bN,jB,bJ]
  cases e:t[p]? with
  |none=>
   rw [if_neg (by rw [fV e];decide)]
   rfl
  |some c=>
   have hh:=fX e
   have ea:gT (aR (aW t) p)=(Br.isLow c||Br.isDigit c):=by rw [hh,vV,fR];rfl
   by_cases h:(Br.isLow c||Br.isDigit c)=true
   ·rw [if_pos (by rw [ea];exact h)]
    show (if (Br.isLow c||Br.isDigit c)=true then (do Br.skip;let r <-Br.while_ (fun (c:UInt8)=>Br.isLow c||Br.isDigit c) n;return c::r) else return []:Br.Rd Br.Bytes) (At t p)=_
    rw [if_pos h]
    show (Br.skip>>=fun _=>Br.while_ (fun (c:UInt8)=>Br.isLow c||Br.isDigit c) n>>=fun r=>pure (c::r)) (At t p)=_
    rw [bN,oO]
    show (Br.while_ (fun (c:UInt8)=>Br.isLow c||Br.isDigit c) n>>=fun r=>pure (c::r)) (At t (p+1))=_
    rw [bN,Eg]
    show Except.ok (c::(bJ (aW t) (p+1) n).map rD,At t (p+1+(bJ (aW t) (p+1) n).length))=_
    rw [List.map_cons,List.length_cons,hh,Rq]
    congr 3<;>(clear hh;omega)
   ·rw [if_neg (by rw [ea];exact h)]
    show (if (Br.isLow c||Br.isDigit c)=true then (do Br.skip;let r <-Br.while_ (fun (c:UInt8)=>Br.isLow c||Br.isDigit c) n;return c::r) else return []:Br.Rd Br.Bytes) (At t p)=_
    rw [if_neg h]
    rfl
theorem Km {t:Br.Bytes} {p n:Nat}:(Br.peek>>=fun (o:Option UInt8)=>(match o with
   |some c=>(if Br.isLow c=true then (do Br.skip;let r <-Br.while_ (fun (c:UInt8)=>Br.isLow c||Br.isDigit c) n;return c::r) else Br.stray:Br.Rd Br.Bytes)
   |Option.none=>Br.stray)) (At t p)=fC t (List.map rD) (gE (aW t) p (n+1)):=by
 rw [bN,jB]
 unfold gE
 cases e:t[p]? with
 |none=>
  rw [if_neg (by rw [fV e];decide)]
  rfl
 |some c=>
  have hh:=fX e
  by_cases h:Br.isLow c=true
  ·have hl:kM (aR (aW t) p)=true:=by rw [hh,<-vV];exact h
   have ha:gT (aR (aW t) p)=true:=by unfold gT;rw [hl];rfl
   rw [if_pos hl]
   show (if Br.isLow c=true then (do Br.skip;let r <-Br.while_ (fun (c:UInt8)=>Br.isLow c||Br.isDigit c) n;return c::r) else Br.stray:Br.Rd Br.Bytes) (At t p)=_
   rw [if_pos h]
   show (Br.skip>>=fun _=>Br.while_ (fun (c:UInt8)=>Br.isLow c||Br.isDigit c) n>>=fun r=>pure (c::r)) (At t p)=_
   rw [bN,oO]
   show (Br.while_ (fun (c:UInt8)=>Br.isLow c||Br.isDigit c) n>>=fun r=>pure (c::r)) (At t (p+1))=_
   rw [bN,Eg]
   have en:bJ (aW t) p (n+1)=aR (aW t) p::bJ (aW t) (p+1) n:=by rw [bJ,if_pos ha]
   rw [en]
   show Except.ok (c::(bJ (aW t) (p+1) n).map rD,At t (p+1+(bJ (aW t) (p+1) n).length))=Except.ok ((aR (aW t) p::bJ (aW t) (p+1) n).map rD,At t (p+(aR (aW t) p::bJ (aW t) (p+1) n).length))
   rw [List.map_cons,List.length_cons,hh,Rq]
   congr 3<;>(clear hh;omega)
  ·rw [if_neg (by rw [hh,<-vV];exact h)]
   show (if Br.isLow c=true then (do Br.skip;let r <-Br.while_ (fun (c:UInt8)=>Br.isLow c||Br.isDigit c) n;return c::r) else Br.stray:Br.Rd Br.Bytes) (At t p)=_
   rw [if_neg h]
   rfl
theorem Wo {t:Br.Bytes} {p:Nat}:Br.name_ (At t p)=fC t (List.map rD) (gE (aW t) p 8):=Km
theorem Fo {t:Br.Bytes} {p:Nat}:Br.longName_ (At t p)=fC t (List.map rD) (gE (aW t) p 16):=Km
def oP (i:Int):Br.Place:=if i=46 then .none else if i=35 then .cell false false else if i=115 then .cell true false else if i=116 then .cell false true else .cell true true
theorem Jf (c:UInt8):Br.placeOf c=if (c.toNat:Int)∈cP then some (oP (c.toNat:Int)) else Option.none:=by
 have key:∀ n:Fin 256,Br.placeOf (UInt8.ofNat n.1)=if ((UInt8.ofNat n.1).toNat:Int)∈cP then some (oP ((UInt8.ofNat n.1).toNat:Int)) else Option.none:=by decide+kernel
 have h:=key ⟨c.toNat,UInt8.toNat_lt c⟩
 have e:UInt8.ofNat c.toNat=c:=UInt8.ofNat_toNat
 simp only [e] at h
 exact h
theorem Re {t:Br.Bytes} {p:Nat}:Br.place_ (At t p)=if aR (aW t) p∈cP then .ok (oP (aR (aW t) p),At t (p+1)) else .error p:=by
 show (Br.peek>>=fun (o:Option UInt8)=>(match o.bind Br.placeOf with
   |some q=>(do Br.skip;return q:Br.Rd Br.Place)
   |Option.none=>Br.stray)) (At t p)=_
 rw [bN,jB]
 cases e:t[p]? with
 |none=>
  rw [fV e,if_neg (by decide)]
  rfl
 |some c=>
  rw [fX e]
  show (match Br.placeOf c with
   |some q=>(do Br.skip;return q:Br.Rd Br.Place)
   |Option.none=>Br.stray) (At t p)=_
  rw [Jf]
  by_cases h:(c.toNat:Int)∈cP
  ·rw [if_pos h,if_pos h]
   show (Br.skip>>=fun _=>pure (oP (c.toNat:Int))) (At t p)=_
   rw [bN,oO]
   rfl
  ·rw [if_neg h,if_neg h]
   rfl
theorem wF {α:Type} {n:Nat} {r:Br.Rd α} {s:Nat×Br.Bytes}:Br.times (n+1) r s=eK (r s) fun x=>eK (Br.times n r x.2) fun y=>.ok (x.1::y.1,y.2):=by
 show (r>>=fun x=>Br.times n r>>=fun l=>pure (x::l)) s=_
 rw [bN]
 cases r s with
 |error e=>rfl
 |ok x=>
  show (Br.times n r>>=fun l=>pure (x.1::l)) x.2=_
  rw [bN]
  rfl
theorem Gb {t:Br.Bytes}:∀ {n p:Nat},Br.times n Br.place_ (At t p)=fC t (List.map oP) (bY (aW t) n p)
 |0,p=>rfl
 |n+1,p=>by
  rw [wF,Re,bY]
  by_cases h:aR (aW t) p∈cP
  ·rw [if_pos h,if_pos h]
   show eK (Br.times n Br.place_ (At t (p+1))) (fun y=>Except.ok (oP (aR (aW t) p)::y.1,y.2))=_
   rw [Gb]
   cases bY (aW t) n (p+1) with
   |error e=>rfl
   |ok y=>rfl
  ·rw [if_neg h,if_neg h]
   rfl
theorem Zb {t:Br.Bytes} {w p:Nat}:Br.row_ w (At t p)=fC t (List.map oP) (fL (aW t) w p):=by
 show (Br.times w Br.place_>>=fun l=>Br.byte_ 10>>=fun _=>pure l) (At t p)=_
 rw [bN,Gb]
 unfold fL
 cases bY (aW t) w p with
 |error e=>rfl
 |ok y=>
  show (Br.byte_ 10>>=fun _=>pure (y.1.map oP)) (At t y.2)=_
  rw [bN,Bd]
  have he:aR (aW t) y.2=10↔t[y.2]?=some 10:=qC (c:=10)
  by_cases h:t[y.2]?=some 10
  ·rw [if_pos h]
   show _=fC t (List.map oP) (if aR (aW t) y.2=10 then _ else _)
   rw [if_pos (he.mpr h)]
   rfl
  ·rw [if_neg h]
   show _=fC t (List.map oP) (if aR (aW t) y.2=10 then _ else _)
   rw [if_neg (fun z=>h (he.mp z))]
   rfl
theorem Jj {t:Br.Bytes} {w:Nat}:∀ {n p:Nat},Br.times n (Br.row_ w) (At t p)=fC t (List.map (List.map oP)) (bX (aW t) w n p)
 |0,p=>rfl
 |n+1,p=>by
  rw [wF,Zb,bX]
  cases fL (aW t) w p with
  |error e=>rfl
  |ok y=>
   show eK (Br.times n (Br.row_ w) (At t y.2)) (fun z=>Except.ok (y.1.map oP::z.1,z.2))=_
   rw [Jj]
   show _=fC t (List.map (List.map oP)) (gF y.1 (bX (aW t) w n y.2))
   cases bX (aW t) w n y.2 with
   |error e=>rfl
   |ok z=>rfl
def cI (pr:aM):Br.Part:=⟨pr.name.map rD,pr.w,pr.d,pr.h,pr.g,(pr.rows.map (List.map oP)).flatten⟩
theorem xE {α β γ:Type} {t:Br.Bytes} {x:Br.Rd α} {s:Nat×Br.Bytes} {r:Except Nat (γ×Nat)} {g:γ->α} {k:α->Br.Rd β} {δ:Type} {f:γ×Nat->Except Nat (δ×Nat)} {u:δ->β} (h:x s=fC t g r) (hk:∀ c,r=.ok c->k (g c.1) (At t c.2)=fC t u (f c)):
  (x>>=k) s=fC t u (eK r f):=by
 rw [bN,h]
 cases r with
 |error e=>rfl
 |ok c=>exact hk c rfl
theorem jY {β δ:Type} {t:Br.Bytes} {x:Br.Rd Unit} {s:Nat×Br.Bytes} {r:Except Nat Nat} {k:Unit->Br.Rd β} {f:Nat->Except Nat (δ×Nat)} {u:δ->β} (h:x s=Kc t r) (hk:∀ c,r=.ok c->k () (At t c)=fC t u (f c)):
  (x>>=k) s=fC t u (eK r f):=by
 rw [bN,h]
 cases r with
 |error e=>rfl
 |ok c=>exact hk c rfl
theorem dB {β δ:Type} {t:Br.Bytes} {p lo hi:Nat} {k:Nat->Br.Rd β} {f:Nat×Nat->Except Nat (δ×Nat)} {u:δ->β} (hlo:lo<=1) (h1:lo<=hi) (hhi:hi<=100000) (hk:∀ c,k c.1 (At t c.2)=fC t u (f c)):
  (Br.numAfter lo hi>>=k) (At t p)=fC t u (eK (aV (aW t) p [32]) fun p1=>eK (iX (aW t) p1 lo hi) f):=by
 have e:(Br.numAfter lo hi>>=k) (At t p)=(Br.byte_ 32>>=fun _=>Br.num lo hi>>=k) (At t p):=by
  show ((Br.byte_ 32>>=fun _=>Br.num lo hi)>>=k) (At t p)=_
  rw [bN,bN,bN]
  cases Br.byte_ 32 (At t p) with
  |error e=>rfl
  |ok r=>
   show eK (Br.num lo hi r.2) (fun r=>k r.1 r.2)=(Br.num lo hi>>=k) r.2
   rw [bN]
 rw [e]
 refine jY (oB (c:=32)) fun p1 _=>?_
 exact xE (Yy hlo h1 hhi) fun c _=>hk c
theorem Hs:Br.ascii "part "=[112,97,114,116,32]:=by decide+kernel
theorem Jt {t:Br.Bytes} {p:Nat}:Br.part_ (At t p)=fC t cI (dS (aW t) p):=by
 show (Br.bytes_ (Br.ascii "part ")>>=fun _=>Br.name_>>=fun n=>Br.numAfter 1 16>>=fun w=>Br.numAfter 1 16>>=fun d=>Br.numAfter 1 18>>=fun h=>Br.numAfter 1 9999>>=fun g=>Br.byte_ 10>>=fun _=>Br.times (d * h) (Br.row_ w)>>=fun l=>pure (⟨n,w,d,h,g,l.flatten⟩:Br.Part)) (At t p)=_
 unfold dS
 rw [Hs]
 refine jY (qN (cs:=[112,97,114,116,32])) fun p1 _=>?_
 refine xE Wo fun nm _=>?_
 refine dB (lo:=1) (hi:=16) (by decide) (by decide) (by decide) fun w=>?_
 refine dB (lo:=1) (hi:=16) (by decide) (by decide) (by decide) fun d=>?_
 refine dB (lo:=1) (hi:=18) (by decide) (by decide) (by decide) fun h=>?_
 refine dB (lo:=1) (hi:=9999) (by decide) (by decide) (by decide) fun g=>?_
 refine jY (oB (c:=10)) fun p11 _=>?_
 exact xE Jj fun rs _=>rfl
theorem Jy {l:List Int} {w:Nat}:∀ {n p:Nat} {r:List (List Int)×Nat},p<=l.length->bX l w n p=.ok r->r.2<=l.length
 |0,p,r,hp,h=>by cases h;exact hp
 |n+1,p,r,hp,h=>by
  rw [bX] at h
  cases e:fL l w p with
  |error i=>rw [e] at h;cases h
  |ok q=>
   rw [e] at h
   obtain ⟨q',e2,rfl⟩:=eZ h
   show q'.2<=l.length
   refine Jy (r:=q') ?_ e2
   unfold fL at e
   split at e
   ·split at e
    ·rename_i h10
     cases e
     have:=gB (l:=l) (p:=_) (by rw [h10];decide)
     show _+1<=_
     (clear h10 hp;omega)
    ·cases e
   ·cases e
theorem Lj {l:List Int} {p:Nat} {q:aM×Nat} (h:dS l p=.ok q):q.2<=l.length:=by
 unfold dS at h
 obtain ⟨p1,_,h⟩:=aK h
 obtain ⟨nm,_,h⟩:=aK h
 obtain ⟨_,_,h⟩:=aK h
 obtain ⟨_,_,h⟩:=aK h
 obtain ⟨_,_,h⟩:=aK h
 obtain ⟨_,_,h⟩:=aK h
 obtain ⟨_,_,h⟩:=aK h
 obtain ⟨_,_,h⟩:=aK h
 obtain ⟨_,_,h⟩:=aK h
 obtain ⟨g,_,h⟩:=aK h
 obtain ⟨p11,e11,h⟩:=aK h
 obtain ⟨rs,e12,h⟩:=aK h
 cases h
 refine Jy ?_ e12
 rw [aV] at e11
 split at e11
 ·rename_i h10
  have:=gB (l:=l) (p:=g.2) (by rw [h10];decide)
  cases e11
  (clear h10;omega)
 ·cases e11
theorem vH {α:Type} {r:Br.Rd α} {t:Br.Bytes} {p:Nat}:Br.toEnd r 0 (At t p)=if (t[p]?).isSome=true then .error p else .ok ([],At t p):=by
 show (Br.peek>>=fun o=>if o.isSome=true then Br.stray else pure []) (At t p)=_
 rw [bN,jB]
 show (if (t[p]?).isSome=true then (Br.stray:Br.Rd (List α)) else pure []) (At t p)=_
 by_cases h:(t[p]?).isSome=true
 ·rw [if_pos h,if_pos h];rfl
 ·rw [if_neg h,if_neg h];rfl
theorem wI {α:Type} {r:Br.Rd α} {t:Br.Bytes} {p n:Nat}:Br.toEnd r (n+1) (At t p)=if (t[p]?).isSome=true then (eK (r (At t p)) fun x=>eK (Br.toEnd r n x.2) fun y=>.ok (x.1::y.1,y.2)) else .ok ([],At t p):=by
 show (Br.peek>>=fun o=>if o.isSome=true then (r>>=fun x=>Br.toEnd r n>>=fun l=>pure (x::l)) else pure []) (At t p)=_
 rw [bN,jB]
 show (if (t[p]?).isSome=true then (r>>=fun x=>Br.toEnd r n>>=fun l=>pure (x::l)) else pure []:Br.Rd (List α)) (At t p)=_
 by_cases h:(t[p]?).isSome=true
 ·rw [if_pos h,if_pos h,bN]
  cases r (At t p) with
  |error e=>rfl
  |ok x=>
   show (Br.toEnd r n>>=fun l=>pure (x.1::l)) x.2=_
   rw [bN]
   rfl
 ·rw [if_neg h,if_neg h];rfl
def Vk {α β:Type} (t:Br.Bytes) (f:α->β):Except Nat (α×Nat)->Except Nat (β×(Nat×Br.Bytes))
 |.error e=>.error e
 |.ok r=>if r.2=t.length then .ok (f r.1,At t r.2) else .error r.2
theorem jC {t:Br.Bytes} {p:Nat}:(t[p]?).isSome=true↔p<t.length:=by
 by_cases h:p<t.length
 ·rw [List.getElem?_eq_getElem h];simp [h]
 ·rw [List.getElem?_eq_none (by omega)];simp [h]
theorem Fw {t:Br.Bytes}:∀ {n p:Nat},p<=t.length->Br.toEnd Br.part_ n (At t p)=Vk t (List.map cI) (cT (aW t) n p)
 |0,p,hp=>by
  rw [vH]
  show _=if p=t.length then Except.ok (([]:List aM).map cI,At t p) else .error p
  by_cases h:p=t.length
  ·rw [if_pos h,if_neg (by rw [jC];(clear hp;omega))]
   rfl
  ·rw [if_neg h,if_pos (by rw [jC];omega)]
 |n+1,p,hp=>by
  rw [wI,cT]
  by_cases h:p=t.length
  ·rw [if_neg (by rw [jC];(clear hp;omega)),if_pos (by rw [eY];exact h)]
   show _=if p=t.length then Except.ok (([]:List aM).map cI,At t p) else .error p
   rw [if_pos h]
   rfl
  ·rw [if_pos (by rw [jC];omega),if_neg (by rw [eY];exact h),Jt]
   cases e:dS (aW t) p with
   |error i=>rfl
   |ok q=>
    have hq:=Lj e
    rw [eY] at hq
    show eK (Br.toEnd Br.part_ n (At t q.2)) (fun y=>Except.ok (cI q.1::y.1,y.2))=Vk t (List.map cI) (gF q.1 (cT (aW t) n q.2))
    rw [Fw hq]
    cases cT (aW t) n q.2 with
    |error i=>rfl
    |ok r=>
     show eK (if r.2=t.length then (Except.ok (r.1.map cI,At t r.2):Except Nat _) else .error r.2) (fun y=>Except.ok (cI q.1::y.1,y.2))=if r.2=t.length then Except.ok ((q.1::r.1).map cI,At t r.2) else .error r.2
     by_cases hr:r.2=t.length
     ·rw [if_pos hr,if_pos hr];rfl
     ·rw [if_neg hr,if_neg hr];rfl
theorem Sa (t:Br.Bytes):Br.readC t=eK (gY (aW t)) fun prs=>.ok (prs.map cI):=by
 show (((Br.part_>>=fun p=>Br.toEnd Br.part_ 63>>=fun l=>pure (p::l)) (At t 0)).map fun (x:Br.Catalogue×(Nat×Br.Bytes))=>x.1)=_
 rw [bN,Jt]
 unfold gY
 cases e:dS (aW t) 0 with
 |error i=>rfl
 |ok q=>
  have hq:=Lj e
  rw [eY] at hq
  show (((Br.toEnd Br.part_ 63>>=fun l=>pure (cI q.1::l)) (At t q.2)).map fun (x:Br.Catalogue×(Nat×Br.Bytes))=>x.1)=_
  rw [bN,Fw hq,cB]
  cases cT (aW t) 63 q.2 with
  |error i=>rfl
  |ok r=>
   show ((eK (if r.2=t.length then (Except.ok (r.1.map cI,At t r.2):Except Nat _) else .error r.2) fun y=>Except.ok (cI q.1::y.1,y.2)).map fun (x:Br.Catalogue×(Nat×Br.Bytes))=>x.1)=eK (if r.2=(aW t).length then Except.ok (q.1::r.1) else .error r.2) fun prs=>.ok (prs.map cI)
   rw [eY]
   by_cases hr:r.2=t.length
   ·rw [if_pos hr,if_pos hr];rfl
   ·rw [if_neg hr,if_neg hr];rfl
theorem Lo {a b:Br.Bytes} (h:aW a=aW b):a=b:=by
 unfold aW at h
 refine List.map_inj_right (fun x y e=>?_)|>.mp h
 have:x.toNat=y.toNat:=by omega
 exact UInt8.toNat_inj.mp this
theorem Ef (a:Br.Bytes) (c:UInt8):aW (a++[c])=aW a++[(c.toNat:Int)]:=by
 unfold aW
 rw [List.map_append]
 rfl
theorem Ny (a n:Br.Bytes):a.isPrefixOf n=decide ((aW n).take (aW a).length=aW a):=by
 rw [Bool.eq_iff_iff,List.isPrefixOf_iff_prefix,List.prefix_iff_eq_take,decide_eq_true_iff,eY]
 have e:(aW n).take a.length=aW (n.take a.length):=by unfold aW;rw [List.map_take]
 rw [e]
 constructor
 ·intro h
  rw [<-h]
 ·intro h
  exact (Lo h).symm
theorem zT (names:List Br.Bytes) (a:Br.Bytes):(names.any fun n=>a.isPrefixOf n)=iD (names.map aW) (aW a):=by
 unfold iD
 rw [List.any_map]
 congr 1
 funext n
 exact Ny a n
theorem Bo (a:Br.Bytes):∀ names:List Br.Bytes,(names.findIdx? fun n=>n==a)=if aW a∈names.map aW then some (qV (names.map aW) (aW a)) else none
 |[]=>by simp
 |n::r=>by
  have ih:=Bo a r
  have hx:qV ((n::r).map aW) (aW a)=if aW n=aW a then 0 else qV (r.map aW) (aW a)+1:=by
   unfold qV
   rw [List.map_cons,List.findIdx_cons]
   by_cases h:aW n=aW a
   ·rw [decide_eq_true h,if_pos h];rfl
   ·rw [decide_eq_false h,if_neg h];rfl
  rw [List.findIdx?_cons,ih,hx]
  by_cases h:n=a
  ·subst h
   simp
  ·have h2:¬aW n=aW a:=fun z=>h (Lo z)
   have h3:¬aW a=aW n:=fun z=>h2 z.symm
   have hb:(n==a)=false:=beq_eq_false_iff_ne.mpr h
   rw [hb,if_neg Bool.false_ne_true,if_neg h2]
   by_cases h4:aW a∈r.map aW
   ·rw [if_pos h4,if_pos (by rw [List.map_cons];exact List.mem_cons_of_mem _ h4)]
    rfl
   ·rw [if_neg h4,if_neg (by rw [List.map_cons,List.mem_cons];rintro (z|z);exact h3 z;exact h4 z)]
    rfl
theorem Sf {t:Br.Bytes} {names:List Br.Bytes}:∀ {f p:Nat} {acc:Br.Bytes},
  (((cO (names.map aW) (aW t) f p (aW acc)).1∈names.map aW->Br.known names f acc (At t p)=.ok (qV (names.map aW) (cO (names.map aW) (aW t) f p (aW acc)).1,At t (cO (names.map aW) (aW t) f p (aW acc)).2)\/
   (Br.known names f acc (At t p)=.error (cO (names.map aW) (aW t) f p (aW acc)).2/\t[(cO (names.map aW) (aW t) f p (aW acc)).2]?=none))/\
  ((cO (names.map aW) (aW t) f p (aW acc)).1∉names.map aW->Br.known names f acc (At t p)=.error (cO (names.map aW) (aW t) f p (aW acc)).2)):=by
 intro f
 induction f with
 |zero=>
  intro p acc
  have e:Br.known names 0 acc (At t p)=if aW acc∈names.map aW then .ok (qV (names.map aW) (aW acc),At t p) else .error p:=by
   show (match names.findIdx? fun (n:Br.Bytes)=>n==acc with
    |some i=>(pure i:Br.Rd Nat)
    |Option.none=>Br.stray) (At t p)=_
   rw [Bo]
   by_cases h:aW acc∈names.map aW
   ·rw [if_pos h,if_pos h];rfl
   ·rw [if_neg h,if_neg h];rfl
  refine ⟨fun h=>.inl ?_,fun h=>?_⟩
  ·rw [e];exact if_pos h
  ·rw [e];exact if_neg h
 |succ f ih=>
  intro p acc
  have e:Br.known names (f+1) acc (At t p)=(match t[p]? with
    |some c=>(if (names.any fun (n:Br.Bytes)=>(acc++[c]).isPrefixOf n)=true then Br.known names f (acc++[c]) (At t (p+1)) else (if aW acc∈names.map aW then .ok (qV (names.map aW) (aW acc),At t p) else .error p))
    |Option.none=>.error p):=by
   show (Br.peek>>=fun (o:Option UInt8)=>(match o with
    |some c=>(if (names.any fun (n:Br.Bytes)=>(acc++[c]).isPrefixOf n)=true then (Br.skip>>=fun _=>Br.known names f (acc++[c])) else (match names.findIdx? fun (n:Br.Bytes)=>n==acc with
     |some i=>(pure i:Br.Rd Nat)
     |Option.none=>Br.stray))
    |Option.none=>Br.stray)) (At t p)=_
   rw [bN,jB,cB]
   cases e:t[p]? with
   |none=>rfl
   |some c=>
    show (if (names.any fun (n:Br.Bytes)=>(acc++[c]).isPrefixOf n)=true then (Br.skip>>=fun _=>Br.known names f (acc++[c])) else (match names.findIdx? fun (n:Br.Bytes)=>n==acc with
     |some i=>(pure i:Br.Rd Nat)
     |Option.none=>Br.stray)) (At t p)=if (names.any fun (n:Br.Bytes)=>(acc++[c]).isPrefixOf n)=true then Br.known names f (acc++[c]) (At t (p+1)) else (if aW acc∈names.map aW then .ok (qV (names.map aW) (aW acc),At t p) else .error p)
    by_cases h:(names.any fun (n:Br.Bytes)=>(acc++[c]).isPrefixOf n)=true
    ·rw [if_pos h,if_pos h,bN,oO]
     rfl
    ·rw [if_neg h,if_neg h,Bo]
     by_cases h2:aW acc∈names.map aW
     ·rw [if_pos h2,if_pos h2];rfl
     ·rw [if_neg h2,if_neg h2];rfl
  cases ep:t[p]? with
  |none=>
   rw [ep] at e
   have hb:¬iD (names.map aW) (aW acc++[aR (aW t) p])=true:=by
    rw [fV ep]
    unfold iD
    intro z
    obtain ⟨m,hm,z⟩:=List.any_eq_true.mp z
    obtain ⟨n,_,rfl⟩:=List.mem_map.mp hm
    have z:=of_decide_eq_true z
    have:(256:Int)∈aW n:=by
     have:(256:Int)∈(aW n).take (aW acc++[256]).length:=by rw [z];simp
     exact List.mem_of_mem_take this
    unfold aW at this
    obtain ⟨c,_,hc⟩:=List.mem_map.mp this
    have:=UInt8.toNat_lt c
    omega
   have er:cO (names.map aW) (aW t) (f+1) p (aW acc)=(aW acc,p):=by rw [cO,if_neg hb]
   rw [er]
   exact ⟨fun _=>.inr ⟨e,ep⟩,fun _=>e⟩
  |some c=>
   rw [ep] at e
   have hh:=fX ep
   by_cases h:(names.any fun (n:Br.Bytes)=>(acc++[c]).isPrefixOf n)=true
   ·have e:Br.known names (f+1) acc (At t p)=Br.known names f (acc++[c]) (At t (p+1)):=e.trans (if_pos h)
    have er:cO (names.map aW) (aW t) (f+1) p (aW acc)=cO (names.map aW) (aW t) f (p+1) (aW (acc++[c])):=by
     rw [cO,hh,<-Ef,if_pos (by rw [<-zT];exact h)]
    rw [e,er]
    exact ih
   ·have e:Br.known names (f+1) acc (At t p)=if aW acc∈names.map aW then .ok (qV (names.map aW) (aW acc),At t p) else .error p:=e.trans (if_neg h)
    have er:cO (names.map aW) (aW t) (f+1) p (aW acc)=(aW acc,p):=by
     rw [cO,hh,<-Ef,if_neg (by rw [<-zT];exact h)]
    rw [er]
    refine ⟨fun h2=>.inl ?_,fun h2=>?_⟩
    ·rw [e];exact if_pos h2
    ·rw [e];exact if_neg h2
def fP (x:List Nat):Br.Line:=⟨x.getD 0 0,x.getD 1 0,x.getD 2 0,x.getD 3 0,x.getD 4 0,x.getD 5 0⟩
theorem kH {α:Type} {l:List Int} {m:Nat} {ms:List Nat} {p:Nat} {F:List Nat×Nat->Except Nat α}:eK (cY l (m::ms) p) F=eK (aV l p [32]) fun p1=>eK (iX l p1 0 m) fun v=>eK (cY l ms v.2) fun r=>F (v.1::r.1,r.2):=by
 rw [cY]
 cases aV l p [32] with
 |error i=>rfl
 |ok p1=>
  show eK (eK (iX l p1 0 m) fun v=>gF v.1 (cY l ms v.2)) F=eK (iX l p1 0 m) _
  cases iX l p1 0 m with
  |error i=>rfl
  |ok v=>
   show eK (gF v.1 (cY l ms v.2)) F=eK (cY l ms v.2) _
   cases cY l ms v.2 with
   |error i=>rfl
   |ok r=>rfl
theorem Oa:Br.ascii "put "=[112,117,116,32]:=by decide+kernel
theorem Ex:Br.ascii "build "=[98,117,105,108,100,32]:=by decide+kernel
theorem Uh {t:Br.Bytes} {c:Br.Catalogue} {p:Nat}:Br.line_ c (At t p)=fC t fP (eB ((c.map fun (p:Br.Part)=>p.name).map aW) (aW t) p):=by
 show (Br.bytes_ (Br.ascii "put ")>>=fun _=>Br.known (c.map fun (p:Br.Part)=>p.name) 8 []>>=fun q=>Br.numAfter 0 255>>=fun k=>Br.numAfter 0 63>>=fun x=>Br.numAfter 0 63>>=fun y=>Br.numAfter 0 95>>=fun z=>Br.numAfter 0 3>>=fun r=>Br.byte_ 10>>=fun _=>pure (⟨q,k,x,y,z,r⟩:Br.Line)) (At t p)=_
 unfold eB
 rw [Oa]
 refine jY (qN (cs:=[112,117,116,32])) fun p1 _=>?_
 generalize (c.map fun (p:Br.Part)=>p.name)=names
 have rest:∀ (i p2:Nat),(Br.numAfter 0 255>>=fun k=>Br.numAfter 0 63>>=fun x=>Br.numAfter 0 63>>=fun y=>Br.numAfter 0 95>>=fun z=>Br.numAfter 0 3>>=fun r=>Br.byte_ 10>>=fun _=>pure (⟨i,k,x,y,z,r⟩:Br.Line)) (At t p2)=
   fC t fP (eK (cY (aW t) fM p2) fun r=>eK (aV (aW t) r.2 [10]) fun p5=>.ok (i::r.1,p5)):=by
  intro i p2
  unfold fM
  rw [kH]
  refine dB (lo:=0) (hi:=255) (by decide) (by decide) (by decide) fun k=>?_
  rw [kH]
  refine dB (lo:=0) (hi:=63) (by decide) (by decide) (by decide) fun x=>?_
  rw [kH]
  refine dB (lo:=0) (hi:=63) (by decide) (by decide) (by decide) fun y=>?_
  rw [kH]
  refine dB (lo:=0) (hi:=95) (by decide) (by decide) (by decide) fun z=>?_
  rw [kH]
  refine dB (lo:=0) (hi:=3) (by decide) (by decide) (by decide) fun r=>?_
  show _=fC t fP (eK (aV (aW t) r.2 [10]) _)
  exact jY (oB (c:=10)) fun p5 _=>rfl
 obtain ⟨k1,k2⟩:=Sf (t:=t) (names:=names) (f:=8) (p:=p1) (acc:=[])
 have e0:aW []=[]:=rfl
 rw [e0] at k1 k2
 unfold rH
 by_cases h:(cO (names.map aW) (aW t) 8 p1 []).1∈names.map aW
 ·rw [if_pos h,cB]
  rcases k1 h with e|⟨e,en⟩
  ·rw [bN,e,cB]
   exact rest _ _
  ·rw [bN,e,Bi]
   have ew:aV (aW t) (cO (names.map aW) (aW t) 8 p1 []).2 [32]=.error (cO (names.map aW) (aW t) 8 p1 []).2:=by
    rw [aV,fV en]
    rfl
   unfold fM
   rw [kH]
   show _=fC t fP (eK (aV (aW t) (cO (names.map aW) (aW t) 8 p1 []).2 [32]) _)
   rw [ew]
   rfl
 ·rw [if_neg h,Bi,bN,k2 h,Bi]
  rfl
theorem Uu {nss:List (List Int)} {l:List Int} {p:Nat} {q:List Nat×Nat} (h:eB nss l p=.ok q):q.2<=l.length:=by
 unfold eB at h
 obtain ⟨p1,_,h⟩:=aK h
 obtain ⟨_,_,h⟩:=aK h
 obtain ⟨r,_,h⟩:=aK h
 obtain ⟨p5,e5,h⟩:=aK h
 cases h
 show p5<=l.length
 rw [aV] at e5
 split at e5
 ·rename_i h10
  have:=gB (l:=l) (p:=r.2) (by rw [h10];decide)
  cases e5
  (clear h10;omega)
 ·cases e5
theorem Fx {t:Br.Bytes} {c:Br.Catalogue}:∀ {n p:Nat},p<=t.length->Br.toEnd (Br.line_ c) n (At t p)=Vk t (List.map fP) (cE ((c.map fun (p:Br.Part)=>p.name).map aW) (aW t) n p)
 |0,p,hp=>by
  rw [vH]
  show _=if p=t.length then Except.ok (([]:List (List Nat)).map fP,At t p) else .error p
  by_cases h:p=t.length
  ·rw [if_pos h,if_neg (by rw [jC];(clear hp;omega))]
   rfl
  ·rw [if_neg h,if_pos (by rw [jC];omega)]
 |n+1,p,hp=>by
  rw [wI,cE]
  by_cases h:p=t.length
  ·rw [if_neg (by rw [jC];(clear hp;omega)),if_pos (by rw [eY];exact h)]
   show _=if p=t.length then Except.ok (([]:List (List Nat)).map fP,At t p) else .error p
   rw [if_pos h]
   rfl
  ·rw [if_pos (by rw [jC];omega),if_neg (by rw [eY];exact h),Uh]
   cases e:eB ((c.map fun (p:Br.Part)=>p.name).map aW) (aW t) p with
   |error i=>rfl
   |ok q=>
    have hq:=Uu e
    rw [eY] at hq
    show eK (Br.toEnd (Br.line_ c) n (At t q.2)) (fun y=>Except.ok (fP q.1::y.1,y.2))=Vk t (List.map fP) (gF q.1 (cE _ (aW t) n q.2))
    rw [Fx hq]
    cases cE ((c.map fun (p:Br.Part)=>p.name).map aW) (aW t) n q.2 with
    |error i=>rfl
    |ok r=>
     show eK (if r.2=t.length then (Except.ok (r.1.map fP,At t r.2):Except Nat _) else .error r.2) (fun y=>Except.ok (fP q.1::y.1,y.2))=if r.2=t.length then Except.ok ((q.1::r.1).map fP,At t r.2) else .error r.2
     by_cases hr:r.2=t.length
     ·rw [if_pos hr,if_pos hr];rfl
     ·rw [if_neg hr,if_neg hr];rfl
theorem Ol {l:List Int} {p q:Nat} (e:aV l p [10]=.ok q):q<=l.length:=by
 rw [aV] at e
 split at e
 ·rename_i h10
  have:=gB (l:=l) (p:=p) (by rw [h10];decide)
  cases e
  (clear h10;omega)
 ·cases e
theorem Rg (t:Br.Bytes) (c:Br.Catalogue):Br.readB c t=eK (dH ((c.map fun (p:Br.Part)=>p.name).map aW) (aW t)) fun b=>.ok (⟨b.1.map rD,b.2.map fP⟩:Br.Build):=by
 show (((Br.bytes_ (Br.ascii "build ")>>=fun _=>Br.longName_>>=fun n=>Br.byte_ 10>>=fun _=>Br.toEnd (Br.line_ c) 256>>=fun l=>pure (⟨n,l⟩:Br.Build)) (At t 0)).map fun (x:Br.Build×(Nat×Br.Bytes))=>x.1)=_
 unfold dH
 rw [Ex,bN,qN (cs:=[98,117,105,108,100,32])]
 show _=eK (eK (aV (aW t) 0 (([98,117,105,108,100,32]:Br.Bytes).map UInt8.toNat)) _) _
 cases aV (aW t) 0 (([98,117,105,108,100,32]:Br.Bytes).map UInt8.toNat) with
 |error i=>rfl
 |ok p1=>
  show (((Br.longName_>>=fun n=>Br.byte_ 10>>=fun _=>Br.toEnd (Br.line_ c) 256>>=fun l=>pure (⟨n,l⟩:Br.Build)) (At t p1)).map fun (x:Br.Build×(Nat×Br.Bytes))=>x.1)=eK (eK (gE (aW t) p1 16) _) _
  rw [bN,Fo]
  cases gE (aW t) p1 16 with
  |error i=>rfl
  |ok nm=>
   show (((Br.byte_ 10>>=fun _=>Br.toEnd (Br.line_ c) 256>>=fun l=>pure (⟨nm.1.map rD,l⟩:Br.Build)) (At t nm.2)).map fun (x:Br.Build×(Nat×Br.Bytes))=>x.1)=eK (eK (aV (aW t) nm.2 [10]) _) _
   rw [bN,oB (c:=10)]
   show ((eK (Kc t (aV (aW t) nm.2 [10])) _).map _)=_
   cases e3:aV (aW t) nm.2 [10] with
   |error i=>rfl
   |ok p3=>
    have hp3:=Ol e3
    rw [eY] at hp3
    show (((Br.toEnd (Br.line_ c) 256>>=fun l=>pure (⟨nm.1.map rD,l⟩:Br.Build)) (At t p3)).map fun (x:Br.Build×(Nat×Br.Bytes))=>x.1)=eK (eK (cE ((c.map fun (p:Br.Part)=>p.name).map aW) (aW t) 256 p3) fun r=>if r.2=(aW t).length then .ok (nm.1,r.1) else .error r.2) fun b=>.ok (⟨b.1.map rD,b.2.map fP⟩:Br.Build)
    rw [bN,Fx hp3]
    cases cE ((c.map fun (p:Br.Part)=>p.name).map aW) (aW t) 256 p3 with
    |error i=>rfl
    |ok r=>
     show ((eK (if r.2=t.length then (Except.ok (r.1.map fP,At t r.2):Except Nat _) else .error r.2) fun y=>Except.ok ((⟨nm.1.map rD,y.1⟩:Br.Build),y.2)).map fun (x:Br.Build×(Nat×Br.Bytes))=>x.1)=eK (if r.2=(aW t).length then .ok (nm.1,r.1) else .error r.2) fun b=>.ok (⟨b.1.map rD,b.2.map fP⟩:Br.Build)
     rw [eY]
     by_cases hr:r.2=t.length
     ·rw [if_pos hr,if_pos hr];rfl
     ·rw [if_neg hr,if_neg hr];rfl
theorem wQ {l:List Int} {hi:Int}:∀ {n p:Nat} {v:Int},v<=hi->(dE l hi n p v).1<=hi
 |0,p,v,h=>h
 |n+1,p,v,h=>by
  rw [dE]
  split
  ·rename_i q
   exact wQ q.2.2
  ·exact h
theorem wC {l:List Int} {hi:Int}:∀ {n p:Nat} {v:Int},0<=v->v<=(dE l hi n p v).1
 |0,p,v,h=>Int.le_refl _
 |n+1,p,v,h=>by
  rw [dE]
  split
  ·rename_i q
   have:=iG q.2.1
   have:=wC (l:=l) (hi:=hi) (n:=n) (p:=p+1) (v:=v * 10+aR l p - 48) (by (clear q;omega))
   (clear q;omega)
  ·exact Int.le_refl _
theorem lA {l:List Int} {p lo hi:Nat} {v:Nat×Nat} (h:iX l p lo hi=.ok v):lo<=v.1/\v.1<=hi:=by
 unfold iX at h
 split at h
 ·rename_i ok
  cases h
  obtain ⟨h1,h2,h3⟩:=ok
  have a:=wQ (l:=l) (hi:=hi) (n:=l.length - (p+1)) (p:=p+1) h3
  have b:=wC (l:=l) (hi:=hi) (n:=l.length - (p+1)) (p:=p+1) (v:=aR l p - 48) (by (clear a h3;omega))
  show lo<=(eI l p hi).1.toNat/\(eI l p hi).1.toNat<=hi
  unfold eI
  (clear h3;omega)
 ·cases h
theorem Ey {l:List Int}:∀ {n p:Nat} {r:List Int×Nat},bY l n p=.ok r->∀ s∈r.1,s∈cP
 |0,p,r,h=>by cases h;intro s hs;cases hs
 |n+1,p,r,h=>by
  rw [bY] at h
  split at h
  ·rename_i hin
   obtain ⟨q,e,rfl⟩:=eZ h
   intro s hs
   rcases List.mem_cons.mp hs with rfl|hs
   ·exact hin
   ·exact Ey e s hs
  ·cases h
theorem Ul {l:List Int} {w p:Nat} {r:List Int×Nat} (h:fL l w p=.ok r):r.1.length=w/\∀ s∈r.1,s∈cP:=by
 unfold fL at h
 split at h
 ·rename_i q e
  split at h
  ·cases h
   exact ⟨zQ (r:=q) e,fun s hs=>Ey (r:=q) e s hs⟩
  ·cases h
 ·cases h
theorem Fb {l:List Int} {w:Nat}:∀ {n p:Nat} {r:List (List Int)×Nat},bX l w n p=.ok r->r.1.length=n/\∀ x∈r.1,x.length=w/\∀ s∈x,s∈cP
 |0,p,r,h=>by cases h;exact ⟨rfl,fun x hx=>by cases hx⟩
 |n+1,p,r,h=>by
  rw [bX] at h
  cases e:fL l w p with
  |error i=>rw [e] at h;cases h
  |ok q=>
   rw [e] at h
   obtain ⟨q',e2,rfl⟩:=eZ h
   obtain ⟨h1,h2⟩:=Fb e2
   refine ⟨by rw [List.length_cons,h1],fun x hx=>?_⟩
   rcases List.mem_cons.mp hx with rfl|hx
   ·exact Ul e
   ·exact h2 x hx
theorem pP {l:List Int}:∀ {n p:Nat} {x:Int},x∈bJ l p n->gT x=true
 |0,p,x,h=>by simp [bJ] at h
 |n+1,p,x,h=>by
  rw [bJ] at h
  split at h
  ·rename_i ha
   rcases List.mem_cons.mp h with rfl|h
   ·exact ha
   ·exact pP h
  ·cases h
structure dN (pr:aM):Prop where
 w1:1<=pr.w
 w2:pr.w<=16
 d1:1<=pr.d
 d2:pr.d<=16
 h1:1<=pr.h
 h2:pr.h<=18
 rl:pr.rows.length=pr.d * pr.h
 rw:∀ x∈pr.rows,x.length=pr.w
 sg:∀ x∈pr.rows,∀ s∈x,s∈cP
 nm:∀ x∈pr.name,gT x=true
theorem Kq {l:List Int} {p:Nat} {q:aM×Nat} (h:dS l p=.ok q):dN q.1:=by
 unfold dS at h
 obtain ⟨p1,_,h⟩:=aK h
 obtain ⟨nm,en,h⟩:=aK h
 obtain ⟨_,_,h⟩:=aK h
 obtain ⟨w,ew,h⟩:=aK h
 obtain ⟨_,_,h⟩:=aK h
 obtain ⟨d,ed,h⟩:=aK h
 obtain ⟨_,_,h⟩:=aK h
 obtain ⟨hh,eh,h⟩:=aK h
 obtain ⟨_,_,h⟩:=aK h
 obtain ⟨g,_,h⟩:=aK h
 obtain ⟨_,_,h⟩:=aK h
 obtain ⟨rs,er,h⟩:=aK h
 cases h
 obtain ⟨a1,a2⟩:=lA (lo:=1) (hi:=16) ew
 obtain ⟨b1,b2⟩:=lA (lo:=1) (hi:=16) ed
 obtain ⟨c1,c2⟩:=lA (lo:=1) (hi:=18) eh
 obtain ⟨r1,r2⟩:=Fb er
 refine ⟨a1,a2,b1,b2,c1,c2,r1,fun x hx=>(r2 x hx).1,fun x hx=>(r2 x hx).2,?_⟩
 unfold gE at en
 split at en
 ·cases en
  exact fun x hx=>pP hx
 ·cases en
theorem Ga {l:List Int}:∀ {n p:Nat} {q:List aM×Nat},cT l n p=.ok q->∀ pr∈q.1,dN pr
 |0,p,q,h=>by cases h;intro pr hp;cases hp
 |n+1,p,q,h=>by
  rw [cT] at h
  split at h
  ·cases h;intro pr hp;cases hp
  ·obtain ⟨q1,e1,h⟩:=aK h
   obtain ⟨q2,e2,rfl⟩:=eZ h
   intro pr hp
   rcases List.mem_cons.mp hp with rfl|hp
   ·exact Kq e1
   ·exact Ga e2 pr hp
theorem Qw {l:List Int} {prs:List aM} (h:gY l=.ok prs):∀ pr∈prs,dN pr:=by
 unfold gY at h
 obtain ⟨q,e1,h⟩:=aK h
 obtain ⟨r,e2,h⟩:=aK h
 split at h
 ·cases h
  intro pr hp
  rcases List.mem_cons.mp hp with rfl|hp
  ·exact Kq e1
  ·exact Ga e2 pr hp
 ·cases h
theorem Ry:∀ l:List Int,(∀ x∈l,gT x=true)->aW (l.map rD)=l:=by
 intro l
 induction l with
 |nil=>intro _;rfl
 |cons x r ih=>
  intro hx
  have h1:=hx x List.mem_cons_self
  have h2:0<=x/\x<256:=by
   unfold gT kM jG at h1
   rw [Bool.or_eq_true,Bool.and_eq_true,Bool.and_eq_true,decide_eq_true_iff,decide_eq_true_iff,decide_eq_true_iff,decide_eq_true_iff] at h1
   omega
  have h3:((rD x).toNat:Int)=x:=by
   unfold rD
   rw [UInt8.toNat_ofNat']
   omega
  show ((rD x).toNat:Int)::aW (r.map rD)=x::r
  rw [h3,ih fun y hy=>hx y (List.mem_cons_of_mem _ hy)]
theorem nM {pr:aM} (h:dN pr):aW (pr.name.map rD)=pr.name:=Ry _ h.nm
theorem yL:∀ a b:Br.Bytes,Br.before a b= !HT.gD (aW b) (aW a)
 |[],[]=>rfl
 |[],_::_=>rfl
 |_::_,[]=>rfl
 |x::a,y::b=>by
  have ih:=yL a b
  show (decide (x.toNat<y.toNat)||(x==y && Br.before a b))= !(if (y.toNat:Int)=(x.toNat:Int) then HT.gD (aW b) (aW a) else decide ((y.toNat:Int)<=(x.toNat:Int)))
  by_cases h:x=y
  ·subst h
   rw [if_pos rfl,ih]
   simp
  ·have h2:¬x.toNat=y.toNat:=fun z=>h (UInt8.toNat_inj.mp z)
   have hb:(x==y)=false:=beq_eq_false_iff_ne.mpr h
   rw [if_neg (by (clear h;omega)),hb,Bool.false_and,Bool.or_false,Bool.eq_iff_iff,Bool.not_eq_true',decide_eq_true_iff,decide_eq_false_iff_not]
   (clear h2 h;omega)
def hJ (p:Br.Part):Bool:=p.studsOk && (p.tubesOk && (p.tight && p.whole))
def Rm:Option Br.Bytes->Br.Part->Bool
 |some n,p=>Br.before n p.name
 |none,_=>true
def lO:Option Br.Bytes->List Br.Part->Bool
 |_,[]=>true
 |last,p::r=>Rm last p && lO (some p.name) r
theorem sY (last:Option Br.Bytes) (p:Br.Part) (r:List Br.Part):lO last (p::r)=(Rm last p && lO (some p.name) r):=by cases last<;>rfl
theorem Iw {p:Br.Part} {last:Option Br.Bytes}:(p.wrong last).isSome= !(hJ p && Rm last p):=by
 unfold Br.Part.wrong hJ
 cases p.studsOk<;>cases p.tubesOk<;>cases p.tight<;>cases p.whole<;>try rfl
 cases last with
 |none=>rfl
 |some n=>
  show (if Br.before n p.name=true then Option.none else some 5).isSome= !(true && (true && (true && true)) && Br.before n p.name)
  cases Br.before n p.name<;>rfl
theorem pL:∀ {l:List Br.Part} {i:Nat} {last:Option Br.Bytes},(Br.wrongFrom i last l).isSome= !(l.all hJ && lO last l)
 |[],i,last=>rfl
 |p::r,i,last=>by
  have ih:=pL (l:=r) (i:=i+1) (last:=some p.name)
  have hp:=Iw (p:=p) (last:=last)
  rw [Br.wrongFrom]
  cases e:p.wrong last with
  |some k=>
   rw [e] at hp
   show true=_
   rw [List.all_cons,sY]
   have hp:true= !(hJ p && Rm last p):=hp
   cases hg:hJ p
   ·rfl
   ·rw [hg,Bool.true_and] at hp
    have h2:Rm last p=false:=by
     cases z:Rm last p
     ·rfl
     ·rw [z] at hp;cases hp
    rw [h2,Bool.false_and,Bool.and_false]
    rfl
  |none=>
   rw [e] at hp
   show (Br.wrongFrom (i+1) (some p.name) r).isSome=_
   rw [ih,List.all_cons,sY]
   have hp:false= !(hJ p && Rm last p):=hp
   have h3:(hJ p && Rm last p)=true:=by
    cases z:(hJ p && Rm last p)
    ·rw [z] at hp;cases hp
    ·rfl
   rw [Bool.and_eq_true] at h3
   rw [h3.1,h3.2,Bool.true_and,Bool.true_and]
theorem pG:∀ {prs:List aM} {last:Option aM},(∀ pr∈prs,dN pr)->(∀ q,last=some q->dN q)->lO (last.map fun q=>q.name.map rD) (prs.map cI)=jF ((last.toList++prs).map (·.name))
 |[],none,_,_=>rfl
 |[],some q,_,_=>rfl
 |pr::r,none,h,_=>by
  show (true && lO (some (pr.name.map rD)) (r.map cI))=_
  rw [Bool.true_and]
  exact pG (last:=some pr) (fun x hx=>h x (List.mem_cons_of_mem _ hx)) fun q hq=>by cases hq;exact h _ List.mem_cons_self
 |pr::r,some q,h,hq=>by
  have ih:=pG (prs:=r) (last:=some pr) (fun x hx=>h x (List.mem_cons_of_mem _ hx)) fun q hq=>by cases hq;exact h _ List.mem_cons_self
  show (Br.before (q.name.map rD) (pr.name.map rD) && lO (some (pr.name.map rD)) (r.map cI))=jF (q.name::pr.name::r.map (·.name))
  rw [yL,nM (h _ List.mem_cons_self),nM (hq q rfl),jF]
  have ih:lO (some (pr.name.map rD)) (r.map cI)=jF (pr.name::r.map (·.name)):=ih
  rw [ih]
theorem Nf {prs:List aM} (h:∀ pr∈prs,dN pr) (hg:∀ pr∈prs,hJ (cI pr)=gO pr):(Br.wrong (prs.map cI)).isSome= !nH prs:=by
 unfold Br.wrong nH
 rw [pL]
 have e1:(prs.map cI).all hJ=prs.all gO:=by
  rw [List.all_map]
  have key:∀ l:List aM,(∀ pr∈l,hJ (cI pr)=gO pr)->l.all (hJ∘cI)=l.all gO:=by
   intro l
   induction l with
   |nil=>intro _;rfl
   |cons a r ih=>
    intro hx
    rw [List.all_cons,List.all_cons,ih fun y hy=>hx y (List.mem_cons_of_mem _ hy)]
    show (hJ (cI a) && _)=_
    rw [hx a List.mem_cons_self]
  exact key prs hg
 have e2:=pG (prs:=prs) (last:=none) h (fun q hq=>by cases hq)
 rw [e1]
 have e2:lO none (prs.map cI)=jF (prs.map (·.name)):=e2
 rw [e2]
abbrev jP:=Nat×Nat×Nat
def cQ (s:jP):Pl:=((s.1:Int),(s.2.1:Int),(s.2.2:Int))
theorem iK {a b:jP} (h:cQ a=cQ b):a=b:=by
 obtain ⟨x,y,z⟩:=a
 obtain ⟨u,v,w⟩:=b
 unfold cQ at h
 simp only [Prod.mk.injEq] at h ⊢
 omega
def fH (w d i:Nat):jP:=(i % w,i / w % d,i / w / d)
theorem lD {w d i x y z:Nat} (h:fH w d i=(x,y,z)):i=(z * d+y) * w+x:=by
 unfold fH at h
 simp only [Prod.mk.injEq] at h
 obtain ⟨rfl,rfl,rfl⟩:=h
 have h1:=Nat.div_add_mod (i / w) d
 have h2:=Nat.div_add_mod i w
 rw [Nat.mul_comm (i / w / d) d,h1,Nat.mul_comm (i / w) w,h2]
theorem Ii {w d x y z:Nat} (hx:x<w) (hy:y<d):fH w d ((z * d+y) * w+x)=(x,y,z):=by
 have hw:0<w:=by (clear hy;omega)
 have hd:0<d:=by (clear hw hx;omega)
 have e1:((z * d+y) * w+x) / w=z * d+y:=by
  rw [Nat.add_comm,Nat.add_mul_div_right _ _ hw,Nat.div_eq_of_lt hx,Nat.zero_add]
 have e2:((z * d+y) * w+x) % w=x:=by rw [Nat.add_comm,Nat.add_mul_mod_self_right,Nat.mod_eq_of_lt hx]
 unfold fH
 rw [e1,e2,Nat.add_comm (z * d),Nat.add_mul_div_right _ _ hd,Nat.div_eq_of_lt hy,Nat.zero_add,Nat.add_mul_mod_self_right,Nat.mod_eq_of_lt hy]
theorem lB {α:Type} {f:Nat->List α} {m:Nat} (hf:∀ z,(f z).length=m):∀ n,((List.range n).flatMap f).length=n * m
 |0=>by simp
 |n+1=>by
  rw [List.range_succ,List.flatMap_append,List.length_append,lB hf n,List.flatMap_singleton,hf,Nat.succ_mul]
theorem vP {α:Type} {f:Nat->List α} {m:Nat} (hm:0<m) (hf:∀ z,(f z).length=m):∀ n i,i<n * m->((List.range n).flatMap f)[i]?=(f (i / m))[i % m]?
 |0,i,h=>by (clear hm;omega)
 |n+1,i,h=>by
  rw [List.range_succ,List.flatMap_append,List.flatMap_singleton]
  by_cases hi:i<n * m
  ·rw [List.getElem?_append_left (by rw [lB hf];exact hi)]
   exact vP hm hf n i hi
  ·rw [List.getElem?_append_right (by rw [lB hf];(clear h hm;omega)),lB hf]
   rw [Nat.succ_mul] at h
   have e:i=(i - n * m)+n * m:=by (clear h hm;omega)
   have hl:i - n * m<m:=by (clear e hi;omega)
   have e1:i / m=n:=by
    rw [e,Nat.add_mul_div_right _ _ hm,Nat.div_eq_of_lt hl,Nat.zero_add]
   have e2:i % m=i - n * m:=by
    conv=>lhs;rw [e]
    rw [Nat.add_mul_mod_self_right,Nat.mod_eq_of_lt hl]
   rw [e1,e2]
theorem qX {p:Br.Part} (hw:0<p.wide) (hd:0<p.deep):p.spots=(List.range (p.high * (p.deep * p.wide))).map (fH p.wide p.deep):=by
 have l1:∀ y z:Nat,((List.range p.wide).map fun (x:Nat)=>(x,y,z)).length=p.wide:=by simp
 have l2:∀ z:Nat,((List.range p.deep).flatMap fun (y:Nat)=>(List.range p.wide).map fun (x:Nat)=>(x,y,z)).length=p.deep * p.wide:=fun z=>lB (fun y=>l1 y z) _
 apply List.ext_getElem?
 intro i
 unfold Br.Part.spots
 by_cases hi:i<p.high * (p.deep * p.wide)
 ·rw [vP (Nat.mul_pos hd hw) l2 _ _ hi,List.getElem?_map,List.getElem?_range hi]
  have hlt:i % (p.deep * p.wide)<p.deep * p.wide:=Nat.mod_lt _ (Nat.mul_pos hd hw)
  rw [vP hw (fun y=>l1 y _) _ _ hlt,List.getElem?_map,List.getElem?_range (Nat.mod_lt _ hw)]
  show some _=some _
  unfold fH
  rw [Nat.mod_mul_left_mod,Nat.mod_mul_left_div_self,Nat.mul_comm p.deep p.wide,Nat.div_div_eq_div_mul]
 ·rw [List.getElem?_eq_none,List.getElem?_eq_none]
  ·rw [List.length_map,List.length_range];(clear hd hw;omega)
  ·rw [lB l2];(clear hd hw;omega)
def kept (q:Nat×Int):Bool:= !decide (q.2=46)
def lW (w d:Nat) (q:Nat×Int):Pl×Int:=(cQ (fH w d q.1),q.2)
theorem Dy {w d j:Nat}:∀ (r:List Int) (x:Nat),x+r.length<=w->vE (j % d) (j / d) x r=(((List.range' (j * w+x) r.length).zip r).filter kept).map (lW w d)
 |[],x,_=>by simp [vE]
 |s::r,x,h=>by
  rw [List.length_cons] at h
  have ih:=Dy (w:=w) (d:=d) (j:=j) r (x+1) (by omega)
  have hw:0<w:=by omega
  rw [vE,ih,List.length_cons,List.range'_succ,List.zip_cons_cons,show j * w+x+1=j * w+(x+1) by (clear hw h;omega)]
  have e1:(j * w+x) / w=j:=by
   rw [Nat.add_comm,Nat.add_mul_div_right _ _ hw,Nat.div_eq_of_lt (by (clear hw;omega)),Nat.zero_add]
  have e2:(j * w+x) % w=x:=by rw [Nat.add_comm,Nat.add_mul_mod_self_right,Nat.mod_eq_of_lt (by (clear e1 hw;omega))]
  by_cases hs:s=46
  ·rw [if_pos hs,List.filter_cons_of_neg (by simp [kept,hs]),List.nil_append]
  ·rw [if_neg hs,List.filter_cons_of_pos (by simp [kept,hs]),List.map_cons]
   show _::_=_
   unfold lW cQ fH
   simp only [e1,e2]
   rfl
theorem Am {w d:Nat}:∀ (rs:List (List Int)) (j:Nat),(∀ x∈rs,x.length=w)->pC d j rs=(((List.range' (j * w) rs.flatten.length).zip rs.flatten).filter kept).map (lW w d)
 |[],j,_=>by simp [pC]
 |r::rs,j,h=>by
  have ih:=Am (w:=w) (d:=d) rs (j+1) fun x hx=>h x (List.mem_cons_of_mem _ hx)
  have hr:=h r List.mem_cons_self
  have e:=Dy (w:=w) (d:=d) (j:=j) r 0 (by omega)
  rw [pC,ih,e,List.flatten_cons,List.length_append,<-List.range'_append_1,List.zip_append (by rw [List.length_range']),List.filter_append,List.map_append,hr,Nat.add_zero,Nat.succ_mul]
theorem Fa {w:Nat}:∀ {rs:List (List Int)},(∀ x∈rs,x.length=w)->rs.flatten.length=rs.length * w
 |[],_=>by simp
 |r::rs,h=>by
  rw [List.flatten_cons,List.length_append,Fa fun x hx=>h x (List.mem_cons_of_mem _ hx),h r List.mem_cons_self,List.length_cons,Nat.succ_mul,Nat.add_comm]
def zP (pr:aM):List (Nat×Int):=(List.range (pr.h * (pr.d * pr.w))).zip pr.rows.flatten
theorem Gd {pr:aM} (ok:dN pr):pr.rows.flatten.length=pr.h * (pr.d * pr.w):=by
 rw [Fa ok.rw,ok.rl,Nat.mul_comm pr.d,Nat.mul_assoc]
theorem yQ {pr:aM} (ok:dN pr):tI pr=((zP pr).filter kept).map (lW pr.w pr.d):=by
 unfold tI zP
 rw [Am pr.rows 0 ok.rw,Gd ok,Nat.zero_mul,<-List.range_eq_range']
theorem mY (s:Int):(oP s).isCell= !decide (s=46):=by
 unfold oP
 by_cases h:s=46
 ·simp [h,Br.Place.isCell]
 ·rw [if_neg h]
  simp only [h,decide_false,Bool.not_false]
  split
  ·rfl
  ·split
   ·rfl
   ·split<;>rfl
theorem wN {s:Int} (h:s∈cP):(oP s).stud=fA s:=by
 simp only [cP,List.mem_cons,List.not_mem_nil,or_false] at h
 rcases h with rfl|rfl|rfl|rfl|rfl<;>decide
theorem xL {s:Int} (h:s∈cP):(oP s).tube=dW s:=by
 simp only [cP,List.mem_cons,List.not_mem_nil,or_false] at h
 rcases h with rfl|rfl|rfl|rfl|rfl<;>decide
theorem gH (pr:aM):(cI pr).places=pr.rows.flatten.map oP:=by
 show (pr.rows.map (List.map oP)).flatten=_
 rw [List.map_flatten]
theorem Aq {pr:aM} (ok:dN pr) (f:Br.Place->Bool):(cI pr).such f=((zP pr).filter fun q=>f (oP q.2)).map fun q=>fH pr.w pr.d q.1:=by
 unfold Br.Part.such
 rw [qX (p:=cI pr) ok.w1 ok.d1,gH]
 show List.map _ (List.filter _ (((List.range (pr.h * (pr.d * pr.w))).map (fH pr.w pr.d)).zip _))=_
 rw [List.zip_map,List.filter_map,List.map_map]
 rfl
theorem rC {pr:aM} (ok:dN pr):(cI pr).cells=((zP pr).filter kept).map fun q=>fH pr.w pr.d q.1:=by
 unfold Br.Part.cells
 rw [Aq ok]
 congr 2
 funext q
 exact mY q.2
theorem oG {pr:aM} (ok:dN pr):(tI pr).map (·.1)=(cI pr).cells.map cQ:=by
 rw [yQ ok,rC ok,List.map_map,List.map_map]
 rfl
theorem rW {pr:aM} (ok:dN pr) {q:Nat×Int} (h:q∈zP pr):q.2∈cP:=by
 have h2:=(List.of_mem_zip h).2
 obtain ⟨r,hr,hs⟩:=List.mem_flatten.mp h2
 exact ok.sg r hr _ hs
theorem uD {pr:aM} (ok:dN pr) (s:jP):(bE (tI pr) (cQ s)).isSome=true↔s∈(cI pr).cells:=by
 rw [dM]
 constructor
 ·rintro ⟨c,hc,e⟩
  have:cQ s∈(tI pr).map (·.1):=List.mem_map.mpr ⟨c,hc,e⟩
  rw [oG ok] at this
  obtain ⟨t,ht,e2⟩:=List.mem_map.mp this
  rw [<-iK e2];exact ht
 ·intro h
  have:cQ s∈(tI pr).map (·.1):=by rw [oG ok];exact List.mem_map_of_mem h
  obtain ⟨c,hc,e⟩:=List.mem_map.mp this
  exact ⟨c,hc,e⟩
theorem Js {pr:aM} (ok:dN pr) {i:Nat} {s:Int}:(i,s)∈zP pr↔pr.rows.flatten[i]?=some s:=by
 unfold zP
 rw [List.mem_iff_getElem?]
 constructor
 ·rintro ⟨k,e⟩
  rw [List.getElem?_zip_eq_some] at e
  obtain ⟨e1,e2⟩:=e
  obtain ⟨hk,e3⟩:=List.getElem?_eq_some_iff.mp e1
  rw [List.getElem_range] at e3
  subst e3
  exact e2
 ·intro e
  refine ⟨i,?_⟩
  rw [List.getElem?_zip_eq_some]
  refine ⟨List.getElem?_range ?_,e⟩
  rw [<-Gd ok]
  exact (List.getElem?_eq_some_iff.mp e).1
theorem qB {pr:aM} (ok:dN pr) (x y z:Nat):((cI pr).at_ x y z).isCell=true↔(x,y,z)∈(cI pr).cells:=by
 rw [rC ok]
 unfold Br.Part.at_
 show ((if x<pr.w/\y<pr.d/\z<pr.h then (cI pr).places.getD ((z * pr.d+y) * pr.w+x) .none else .none:Br.Place)).isCell=true↔_
 have hN:∀ i,i<pr.h * (pr.d * pr.w)->i % pr.w<pr.w/\i / pr.w % pr.d<pr.d/\i / pr.w / pr.d<pr.h:=fun i hi=>by
  refine ⟨Nat.mod_lt _ ok.w1,Nat.mod_lt _ ok.d1,?_⟩
  rw [Nat.div_div_eq_div_mul]
  apply Nat.div_lt_of_lt_mul
  rw [Nat.mul_comm,Nat.mul_comm pr.w]
  exact hi
 constructor
 ·intro h
  split at h
  ·rename_i hr
   rw [gH,List.getD_eq_getElem?_getD,List.getElem?_map] at h
   cases e:pr.rows.flatten[(z * pr.d+y) * pr.w+x]? with
   |none=>rw [e] at h;cases h
   |some s=>
    rw [e] at h
    have h:(oP s).isCell=true:=h
    rw [mY] at h
    refine List.mem_map.mpr ⟨(_,s),List.mem_filter.mpr ⟨(Js ok).mpr e,h⟩,?_⟩
    exact Ii hr.1 hr.2.1
  ·cases h
 ·intro h
  obtain ⟨⟨i,s⟩,hm,e⟩:=List.mem_map.mp h
  obtain ⟨hz,hk⟩:=List.mem_filter.mp hm
  have hz:=(Js ok).mp hz
  have hi:i<pr.h * (pr.d * pr.w):=by rw [<-Gd ok];exact (List.getElem?_eq_some_iff.mp hz).1
  have e:fH pr.w pr.d i=(x,y,z):=e
  have e2:=lD e
  have h3:=hN i hi
  unfold fH at e
  simp only [Prod.mk.injEq] at e
  rw [if_pos (by (clear e2 hi;omega)),gH,List.getD_eq_getElem?_getD,List.getElem?_map,<-e2,hz]
  show (oP s).isCell=true
  rw [mY]
  exact hk
theorem Jc {pr:aM} (ok:dN pr):(cI pr).studsOk=mR (tI pr):=by
 rw [Bool.eq_iff_iff]
 unfold Br.Part.studsOk mR Br.Part.studs
 rw [Aq ok,List.all_eq_true,List.all_eq_true]
 constructor
 ·intro h c hc
  rw [yQ ok] at hc
  obtain ⟨q,hq,rfl⟩:=List.mem_map.mp hc
  obtain ⟨hz,hk⟩:=List.mem_filter.mp hq
  cases hs:fA (lW pr.w pr.d q).2 with
  |false=>rfl
  |true=>
   have h2:=h (fH pr.w pr.d q.1) (List.mem_map.mpr ⟨q,List.mem_filter.mpr ⟨hz,by rw [wN (rW ok hz)];exact hs⟩,rfl⟩)
   rw [Bool.true_and,Bool.not_eq_true',<-Bool.not_eq_true]
   intro g
   have g2:(bE (tI pr) (cQ ((fH pr.w pr.d q.1).1,(fH pr.w pr.d q.1).2.1,(fH pr.w pr.d q.1).2.2+1))).isSome=true:=g
   rw [uD ok,<-qB ok] at g2
   rw [g2] at h2
   cases h2
 ·intro h s hs
  obtain ⟨q,hq,rfl⟩:=List.mem_map.mp hs
  obtain ⟨hz,hk⟩:=List.mem_filter.mp hq
  rw [wN (rW ok hz)] at hk
  have hk2:kept q=true:=by
   unfold kept
   cases e:decide (q.2=46) with
   |false=>rfl
   |true=>rw [decide_eq_true_iff.mp e] at hk;cases hk
  have h2:=h (lW pr.w pr.d q) (by rw [yQ ok];exact List.mem_map.mpr ⟨q,List.mem_filter.mpr ⟨hz,hk2⟩,rfl⟩)
  rw [show fA (lW pr.w pr.d q).2=true from hk,Bool.true_and,Bool.not_eq_true',<-Bool.not_eq_true] at h2
  rw [Bool.not_eq_true',<-Bool.not_eq_true]
  intro g
  rw [qB ok,<-uD ok] at g
  exact h2 g
theorem Hz {pr:aM} (ok:dN pr):(cI pr).tubesOk=mW (tI pr):=by
 rw [Bool.eq_iff_iff]
 unfold Br.Part.tubesOk mW Br.Part.tubes
 rw [Aq ok,List.all_eq_true,List.all_eq_true]
 constructor
 ·intro h c hc
  have hc0:=hc
  rw [yQ ok] at hc
  obtain ⟨q,hq,rfl⟩:=List.mem_map.mp hc
  obtain ⟨hz,hk⟩:=List.mem_filter.mp hq
  cases hs:dW (lW pr.w pr.d q).2 with
  |false=>rfl
  |true=>
   have h2:=h (fH pr.w pr.d q.1) (List.mem_map.mpr ⟨q,List.mem_filter.mpr ⟨hz,by rw [xL (rW ok hz)];exact hs⟩,rfl⟩)
   rw [Bool.true_and,Bool.not_eq_true',<-Bool.not_eq_true]
   intro g
   by_cases h0:(fH pr.w pr.d q.1).2.2=0
   ·obtain ⟨c,hc,e⟩:=dM.mp g
    have hm:c.1∈(tI pr).map (·.1):=List.mem_map_of_mem hc
    rw [oG ok,e] at hm
    obtain ⟨t,ht,e2⟩:=List.mem_map.mp hm
    have e3:((t.2.2:Nat):Int)=((fH pr.w pr.d q.1).2.2:Int) - 1:=congrArg (fun p:Pl=>p.2.2) e2
    omega
   ·have g2:(bE (tI pr) (cQ ((fH pr.w pr.d q.1).1,(fH pr.w pr.d q.1).2.1,(fH pr.w pr.d q.1).2.2 - 1))).isSome=true:=by
     have e:cQ ((fH pr.w pr.d q.1).1,(fH pr.w pr.d q.1).2.1,(fH pr.w pr.d q.1).2.2 - 1)=pH (lW pr.w pr.d q).1:=by
      refine Prod.ext rfl (Prod.ext rfl ?_)
      show (((fH pr.w pr.d q.1).2.2 - 1:Nat):Int)=((fH pr.w pr.d q.1).2.2:Int) - 1
      omega
     rw [e];exact g
    rw [uD ok,<-qB ok] at g2
    rw [g2,Bool.not_true,Bool.or_false,beq_iff_eq] at h2
    exact h0 h2
 ·intro h s hs
  obtain ⟨q,hq,rfl⟩:=List.mem_map.mp hs
  obtain ⟨hz,hk⟩:=List.mem_filter.mp hq
  rw [xL (rW ok hz)] at hk
  have hk2:kept q=true:=by
   unfold kept
   cases e:decide (q.2=46) with
   |false=>rfl
   |true=>rw [decide_eq_true_iff.mp e] at hk;cases hk
  have h2:=h (lW pr.w pr.d q) (by rw [yQ ok];exact List.mem_map.mpr ⟨q,List.mem_filter.mpr ⟨hz,hk2⟩,rfl⟩)
  rw [show dW (lW pr.w pr.d q).2=true from hk,Bool.true_and,Bool.not_eq_true',<-Bool.not_eq_true] at h2
  by_cases h0:(fH pr.w pr.d q.1).2.2=0
  ·rw [h0];rfl
  ·rw [Bool.or_eq_true]
   right
   rw [Bool.not_eq_true',<-Bool.not_eq_true]
   intro g
   rw [qB ok,<-uD ok] at g
   have e:cQ ((fH pr.w pr.d q.1).1,(fH pr.w pr.d q.1).2.1,(fH pr.w pr.d q.1).2.2 - 1)=pH (lW pr.w pr.d q).1:=by
    refine Prod.ext rfl (Prod.ext rfl ?_)
    show (((fH pr.w pr.d q.1).2.2 - 1:Nat):Int)=((fH pr.w pr.d q.1).2.2:Int) - 1
    (clear h2;omega)
   rw [e] at g
   exact h2 g
theorem iI {pr:aM} (ok:dN pr) (a:Nat) (n:Int) (f:jP->Bool) (hf:∀ s,f s=true↔coP (cQ s) a=n):(cI pr).cells.any f=decide (n∈fU (tI pr) a):=by
 rw [Bool.eq_iff_iff,List.any_eq_true,decide_eq_true_iff]
 have e:fU (tI pr) a=(cI pr).cells.map fun s=>coP (cQ s) a:=by
  have:fU (tI pr) a=((tI pr).map (·.1)).map fun p=>coP p a:=by unfold fU;rw [List.map_map];rfl
  rw [this,oG ok,List.map_map]
  rfl
 rw [e,List.mem_map]
 exact ⟨fun ⟨s,h1,h2⟩=>⟨s,h1,(hf s).mp h2⟩,fun ⟨s,h1,h2⟩=>⟨s,h1,(hf s).mpr h2⟩⟩
theorem Hm {pr:aM} (ok:dN pr):(cI pr).tight=nA (tI pr) pr.w pr.d pr.h:=by
 have hw:=ok.w1
 have hd:=ok.d1
 have hh:=ok.h1
 show ((cI pr).cells.any (fun (s:jP)=>s.1==0) && ((cI pr).cells.any (fun (s:jP)=>s.1+1==pr.w) && ((cI pr).cells.any (fun (s:jP)=>s.2.1==0) && ((cI pr).cells.any (fun (s:jP)=>s.2.1+1==pr.d) && ((cI pr).cells.any (fun (s:jP)=>s.2.2==0) && (cI pr).cells.any fun (s:jP)=>s.2.2+1==pr.h)))))=_
 rw [iI ok 0 0 _ (fun s=>by rw [beq_iff_eq];show s.1=0↔(s.1:Int)=0;(clear hh hd hw;omega)),
  iI ok 0 (pr.w - 1) _ (fun s=>by rw [beq_iff_eq];show s.1+1=pr.w↔(s.1:Int)=pr.w - 1;(clear hh hd hw;omega)),
  iI ok 1 0 _ (fun s=>by rw [beq_iff_eq];show s.2.1=0↔(s.2.1:Int)=0;(clear hh hd hw;omega)),
  iI ok 1 (pr.d - 1) _ (fun s=>by rw [beq_iff_eq];show s.2.1+1=pr.d↔(s.2.1:Int)=pr.d - 1;(clear hh hd hw;omega)),
  iI ok 2 0 _ (fun s=>by rw [beq_iff_eq];show s.2.2=0↔(s.2.2:Int)=0;(clear hh hd hw;omega)),
  iI ok 2 (pr.h - 1) _ (fun s=>by rw [beq_iff_eq];show s.2.2+1=pr.h↔(s.2.2:Int)=pr.h - 1;(clear hh hd hw;omega))]
 unfold nA fK
 simp only [Bool.and_assoc]
inductive mD {α:Type} (E:α->α->Prop) (l rest:List α):α->Prop
 |base {a:α}:a∈l->mD E l rest a
 |step {p q:α}:mD E l rest p->E p q->q∈rest->mD E l rest q
def On (p q:jP):Prop:=Br.beside q p=true
theorem Pe {l rest:List jP} {q:jP}:q∈(rest.partition fun (c:jP)=>l.any (Br.beside c)).1↔q∈rest/\∃ i∈l,On i q:=by
 rw [List.partition_eq_filter_filter,List.mem_filter,List.any_eq_true]
 rfl
theorem Uw {l rest:List jP} {q:jP}:q∈(rest.partition fun (c:jP)=>l.any (Br.beside c)).2↔q∈rest/\¬∃ i∈l,On i q:=by
 rw [List.partition_eq_filter_filter,List.mem_filter]
 show _/\(!(l.any (Br.beside q)))=true↔_
 rw [Bool.not_eq_true',<-Bool.not_eq_true,List.any_eq_true]
 rfl
theorem pV {α:Type} (f:α->Bool):∀ l:List α,(l.filter f).length+(l.filter (not∘f)).length=l.length
 |[]=>rfl
 |a::r=>by
  have ih:=pV f r
  cases h:f a with
  |true=>rw [List.filter_cons_of_pos h,List.filter_cons_of_neg (by simp [h]),List.length_cons,List.length_cons];omega
  |false=>rw [List.filter_cons_of_neg (by simp [h]),List.filter_cons_of_pos (by simp [h]),List.length_cons,List.length_cons];omega
theorem yV:∀ {n:Nat} {l rest:List jP},rest.length<=n->(∀ x∈l,x∉rest)->(Br.apartFrom n l rest=[]↔∀ s∈rest,mD On l rest s)
 |0,l,rest,hn,_=>by
  have:rest=[]:=List.eq_nil_of_length_eq_zero (by omega)
  subst this
  exact Iff.intro (fun _ s hs=>absurd hs List.not_mem_nil) (fun _=>rfl)
 |n+1,l,rest,hn,dj=>by
  have nm:= @Pe l rest
  have fm:= @Uw l rest
  have ln:(rest.partition fun (c:jP)=>l.any (Br.beside c)).1.length+(rest.partition fun (c:jP)=>l.any (Br.beside c)).2.length=rest.length:=by
   rw [List.partition_eq_filter_filter]
   exact pV _ _
  show (if (rest.partition fun (c:jP)=>l.any (Br.beside c)).1=[] then rest else Br.apartFrom n (rest.partition fun (c:jP)=>l.any (Br.beside c)).1 (rest.partition fun (c:jP)=>l.any (Br.beside c)).2)=[]↔_
  generalize rest.partition (fun (c:jP)=>l.any (Br.beside c))=pt at nm fm ln
  by_cases h:pt.1=[]
  ·rw [if_pos h]
   constructor
   ·rintro rfl s hs
    cases hs
   ·intro hs
    have key:∀ s,mD On l rest s->s∈l:=by
     intro s hf
     induction hf with
     |base ha=>exact ha
     |step _ e hq ih=>
      have:=nm.mpr ⟨hq,_,ih,e⟩
      rw [h] at this
      cases this
    cases rest with
    |nil=>rfl
    |cons a r=>exact absurd List.mem_cons_self (dj a (key a (hs a List.mem_cons_self)))
  ·rw [if_neg h]
   have hl:0<pt.1.length:=by
    cases e:pt.1 with
    |nil=>exact absurd e h
    |cons a r=>simp
   rw [yV (n:=n) (by (clear h;omega)) fun x hx hy=>(fm.mp hy).2 (nm.mp hx).2]
   constructor
   ·intro hs s hr
    by_cases hx:∃ i∈l,On i s
    ·obtain ⟨i,hi,e⟩:=hx
     exact .step (.base hi) e hr
    ·have hf:=hs s (fm.mpr ⟨hr,hx⟩)
     clear hr hx
     induction hf with
     |base ha=>
      obtain ⟨h1,i,hi,e⟩:=nm.mp ha
      exact .step (.base hi) e h1
     |step _ e hq ih=>exact .step ih e (fm.mp hq).1
   ·intro hs s hf
    have hf1:=fm.mp hf
    have key:∀ s,mD On l rest s->s∈l\/mD On pt.1 pt.2 s:=by
     intro s hf
     induction hf with
     |base ha=>exact .inl ha
     | @step p q _ e hq ih=>
      right
      by_cases hx:∃ i∈l,On i q
      ·exact .base (nm.mpr ⟨hq,hx⟩)
      ·rcases ih with h1|h1
       ·exact absurd ⟨p,h1,e⟩ hx
       ·exact .step h1 e (fm.mpr ⟨hq,hx⟩)
    rcases key s (hs s hf1.1) with h1|h1
    ·exact absurd hf1.1 (dj s h1)
    ·exact h1
def Qk (p q:Pl):Prop:=q∈zU p
theorem uY {α:Type} [DecidableEq α]:∀ {l m:List α},l.Nodup->(∀ x∈l,x∈m)->l.length<=m.length
 |[],m,_,_=>Nat.zero_le _
 |a::l,m,nd,h=>by
  have nd:=List.nodup_cons.mp nd
  have ha:=h a List.mem_cons_self
  have ih:=uY (l:=l) (m:=m.erase a) nd.2 fun x hx=>(List.mem_erase_of_ne (by rintro rfl;exact nd.1 hx)).mpr (h x (List.mem_cons_of_mem _ hx))
  have:=List.length_erase_of_mem ha
  have hp:=List.length_pos_of_mem ha
  rw [List.length_cons]
  (clear nd;omega)
structure Vc (cs:CL) (a:Pl) (rs0 ws0:List Pl) (M:Nat) (st:List Pl×List Pl):Prop where
 nd:st.1.Nodup
 ks:∀ r∈st.1,(bE cs r).isSome=true/\mD Qk [a] (cs.map (·.1)) r
 ws:∀ r∈st.2,r∈st.1
 ol:∀ r∈rs0,r∈st.1
 nw:∀ r∈st.1,r∉st.2->r∈rs0/\r∉ws0
 ms:st.2.length+vL cs st.1<=M
theorem vG {cs:CL} {p:Pl}:(bE cs p).isSome=true↔p∈cs.map (·.1):=by
 rw [dM,List.mem_map]
theorem Vc.push {cs:CL} {a q:Pl} {rs0 ws0:List Pl} {M:Nat} {st:List Pl×List Pl} {p:Pl} (h:Vc cs a rs0 ws0 M st) (hq:mD Qk [a] (cs.map (·.1)) q) (hp:p∈zU q):Vc cs a rs0 ws0 M (gU cs st p)/\(∀ r∈st.1,r∈(gU cs st p).1)/\((bE cs p).isSome=true->p∈(gU cs st p).1):=by
 unfold gU
 by_cases hc:(bE cs p).isSome=true/\p∉st.1
 ·rw [if_pos hc]
  obtain ⟨nd,ks,ws,ol,nw,ms⟩:=h
  refine ⟨⟨?_,?_,?_,?_,?_,?_⟩,fun r hr=>List.mem_append_left _ hr,fun _=>List.mem_append_right _ List.mem_cons_self⟩
  ·show (st.1++[p]).Nodup
   rw [List.nodup_append]
   refine ⟨nd,by simp,fun x hx y hy z=>?_⟩
   rw [List.mem_singleton] at hy
   subst hy
   subst z
   exact hc.2 hx
  ·intro r hr
   rcases List.mem_append.mp hr with hr|hr
   ·exact ks r hr
   ·rw [List.mem_singleton] at hr
    subst hr
    exact ⟨hc.1,.step hq hp (vG.mp hc.1)⟩
  ·intro r hr
   rcases List.mem_append.mp hr with hr|hr
   ·exact List.mem_append_left _ (ws r hr)
   ·exact List.mem_append_right _ hr
  ·exact fun r hr=>List.mem_append_left _ (ol r hr)
  ·intro r hr hn
   rcases List.mem_append.mp hr with hr|hr
   ·exact nw r hr fun z=>hn (List.mem_append_left _ z)
   ·exact absurd (List.mem_append_right _ hr) hn
  ·have:=mJ hc.2 hc.1
   show (st.2++[p]).length+vL cs (st.1++[p])<=M
   rw [List.length_append,List.length_singleton]
   (clear hc;omega)
 ·rw [if_neg hc]
  refine ⟨h,fun r hr=>hr,fun hg=>?_⟩
  by_cases hm:p∈st.1
  ·exact hm
  ·exact absurd ⟨hg,hm⟩ hc
theorem Vc.all {cs:CL} {a q:Pl} {rs0 ws0:List Pl} {M:Nat} (hq:mD Qk [a] (cs.map (·.1)) q):∀ {ps:List Pl} {st:List Pl×List Pl},Vc cs a rs0 ws0 M st->(∀ p∈ps,p∈zU q)->Vc cs a rs0 ws0 M (ps.foldl (gU cs) st)/\(∀ r∈st.1,r∈(ps.foldl (gU cs) st).1)/\∀ p∈ps,(bE cs p).isSome=true->p∈(ps.foldl (gU cs) st).1
 |[],st,h,_=>⟨h,fun _ hr=>hr,fun p hp=>by cases hp⟩
 |p::ps,st,h,hps=>by
  obtain ⟨h1,h2,h3⟩:=h.push hq (hps p List.mem_cons_self)
  obtain ⟨k1,k2,k3⟩:=Vc.all hq h1 fun x hx=>hps x (List.mem_cons_of_mem _ hx)
  refine ⟨k1,fun r hr=>k2 r (h2 r hr),fun x hx hg=>?_⟩
  rcases List.mem_cons.mp hx with rfl|hx
  ·exact k2 _ (h3 hg)
  ·exact k3 x hx hg
structure aAj (cs:CL) (a:Pl) (n:Nat) (rs ws:List Pl):Prop where
 nd:rs.Nodup
 ks:∀ r∈rs,(bE cs r).isSome=true/\mD Qk [a] (cs.map (·.1)) r
 sb:∀ r∈ws,r∈rs
 cl:∀ r∈rs,r∉ws->∀ q∈zU r,(bE cs q).isSome=true->q∈rs
 ms:ws.length+vL cs rs<=n
theorem Jx {cs:CL} {a:Pl}:∀ {n:Nat} {rs ws:List Pl},aAj cs a n rs ws->(dQ cs n rs ws).Nodup/\(∀ r∈dQ cs n rs ws,(bE cs r).isSome=true/\mD Qk [a] (cs.map (·.1)) r)/\(∀ r∈dQ cs n rs ws,∀ q∈zU r,(bE cs q).isSome=true->q∈dQ cs n rs ws)/\∀ r∈rs,r∈dQ cs n rs ws
 |0,rs,ws,h=>by
  have:ws=[]:=List.eq_nil_of_length_eq_zero (by have:=h.ms;omega)
  subst this
  exact ⟨h.nd,h.ks,fun r hr=>h.cl r hr (by simp),fun r hr=>hr⟩
 |n+1,rs,ws,h=>by
  rw [dQ]
  cases e:ws.getLast? with
  |none=>
   have:ws=[]:=List.getLast?_eq_none_iff.mp e
   subst this
   exact ⟨h.nd,h.ks,fun r hr=>h.cl r hr (by simp),fun r hr=>hr⟩
  |some q=>
   obtain ⟨w0,rfl⟩:=List.getLast?_eq_some_iff.mp e
   rw [List.dropLast_concat]
   have hq:=h.sb q (by simp)
   have p0:Vc cs a rs w0 n (rs,w0):=⟨h.nd,h.ks,fun r hr=>h.sb r (List.mem_append_left _ hr),fun r hr=>hr,fun r hr hn=>⟨hr,hn⟩,by have:=h.ms;rw [List.length_append,List.length_singleton] at this;show w0.length+vL cs rs<=n;omega⟩
   obtain ⟨k1,k2,k3⟩:=Vc.all (h.ks q hq).2 p0 (ps:=zU q) fun p hp=>hp
   have s2:aAj cs a n ((zU q).foldl (gU cs) (rs,w0)).1 ((zU q).foldl (gU cs) (rs,w0)).2:=by
    refine ⟨k1.nd,k1.ks,k1.ws,fun r hr hn x hx hg=>?_,k1.ms⟩
    obtain ⟨h1,h2⟩:=k1.nw r hr hn
    by_cases hrq:r=q
    ·subst hrq
     exact k3 x hx hg
    ·exact k2 x (h.cl r h1 (by simp [h2,hrq]) x hx hg)
   obtain ⟨r1,r2,r3,r4⟩:=Jx s2
   exact ⟨r1,r2,r3,fun r hr=>r4 r (k2 r hr)⟩
theorem Qz {c:Pl×Int} {r:CL} (nd:((c::r).map (·.1)).Nodup):wK (c::r)=true↔∀ p∈(c::r).map (·.1),mD Qk [c.1] ((c::r).map (·.1)) p:=by
 have g0:(bE (c::r) c.1).isSome=true:=dM.mpr ⟨c,List.mem_cons_self,rfl⟩
 have u0:1+vL (c::r) [c.1]<=(c::r).length:=by
  rw [nF,if_pos (by simp),List.length_cons]
  have:vL r [c.1]<=r.length:=List.length_filter_le _ _
  omega
 have s0:aAj (c::r) c.1 (c::r).length [c.1] [c.1]:=⟨by simp,fun x hx=>by rw [List.mem_singleton] at hx;subst hx;exact ⟨g0,.base List.mem_cons_self⟩,fun x hx=>hx,fun x hx hn=>absurd hx hn,u0⟩
 obtain ⟨r1,r2,r3,r4⟩:=Jx s0
 rw [wK,decide_eq_true_iff]
 generalize dQ (c::r) (c::r).length [c.1] [c.1]=R at r1 r2 r3 r4
 have sub:∀ x∈R,x∈(c::r).map (·.1):=fun x hx=>vG.mp (r2 x hx).1
 have hle:=uY r1 sub
 rw [List.length_map] at hle
 have all:∀ x,mD Qk [c.1] ((c::r).map (·.1)) x->x∈R:=by
  intro x hf
  induction hf with
  |base ha=>exact r4 _ ha
  |step _ e hq ih=>exact r3 _ ih _ e (vG.mpr hq)
 constructor
 ·intro hl p hp
  by_cases hm:p∈R
  ·exact (r2 p hm).2
  ·have:=uY (l:=p::R) (m:=(c::r).map (·.1)) (List.nodup_cons.mpr ⟨hm,r1⟩) fun x hx=>by
    rcases List.mem_cons.mp hx with rfl|hx
    ·exact hp
    ·exact sub x hx
   rw [List.length_map,List.length_cons,hl] at this
   (clear hm hl hle u0;omega)
 ·intro h
  have:=uY nd fun x hx=>all x (h x hx)
  rw [List.length_map] at this
  (clear u0;omega)
theorem aCv {p q r:Nat} (h:p+q+r=1):(p=1/\q=0/\r=0)\/(p=0/\q=1/\r=0)\/(p=0/\q=0/\r=1):=by omega
theorem mB {x u:Nat}:(u - x)+(x - u)=0↔(u:Int)=(x:Int):=by omega
theorem Ba {x u:Nat}:(u - x)+(x - u)=1↔(u:Int)=(x:Int) - 1\/(u:Int)=(x:Int)+1:=by omega
theorem yJ (a b:jP):On a b↔Qk (cQ a) (cQ b):=by
 obtain ⟨x,y,z⟩:=a
 obtain ⟨u,v,w⟩:=b
 unfold On Qk Br.beside
 rw [beq_iff_eq]
 constructor
 ·intro h
  rcases aCv h with ⟨h1,h2,h3⟩|⟨h1,h2,h3⟩|⟨h1,h2,h3⟩
  ·have e2:(v:Int)=y:=mB.mp h2
   have e3:(w:Int)=z:=mB.mp h3
   rcases Ba.mp h1 with e1|e1
   ·exact List.mem_cons.mpr (.inl (Prod.ext e1 (Prod.ext e2 e3)))
   ·exact List.mem_cons_of_mem _ (List.mem_cons.mpr (.inl (Prod.ext e1 (Prod.ext e2 e3))))
  ·have e1:(u:Int)=x:=mB.mp h1
   have e3:(w:Int)=z:=mB.mp h3
   rcases Ba.mp h2 with e2|e2
   ·exact List.mem_cons_of_mem _ (List.mem_cons_of_mem _ (List.mem_cons.mpr (.inl (Prod.ext e1 (Prod.ext e2 e3)))))
   ·exact List.mem_cons_of_mem _ (List.mem_cons_of_mem _ (List.mem_cons_of_mem _ (List.mem_cons.mpr (.inl (Prod.ext e1 (Prod.ext e2 e3))))))
  ·have e1:(u:Int)=x:=mB.mp h1
   have e2:(v:Int)=y:=mB.mp h2
   rcases Ba.mp h3 with e3|e3
   ·exact List.mem_cons_of_mem _ (List.mem_cons_of_mem _ (List.mem_cons_of_mem _ (List.mem_cons_of_mem _ (List.mem_cons_of_mem _ (List.mem_cons.mpr (.inl (Prod.ext e1 (Prod.ext e2 e3))))))))
   ·exact List.mem_cons_of_mem _ (List.mem_cons_of_mem _ (List.mem_cons_of_mem _ (List.mem_cons_of_mem _ (List.mem_cons.mpr (.inl (Prod.ext e1 (Prod.ext e2 e3)))))))
 ·have fin:∀ {p q r:Nat},(p=1/\q=0/\r=0)\/(p=0/\q=1/\r=0)\/(p=0/\q=0/\r=1)->p+q+r=1:=by
   rintro p q r (⟨rfl,rfl,rfl⟩|⟨rfl,rfl,rfl⟩|⟨rfl,rfl,rfl⟩)<;>rfl
  intro h
  refine fin ?_
  have st:∀ {c:Pl},cQ (u,v,w)=c->(u:Int)=c.1/\(v:Int)=c.2.1/\(w:Int)=c.2.2:=fun e=>by rw [<-e];exact ⟨rfl,rfl,rfl⟩
  rcases List.mem_cons.mp h with e|h
  ·obtain ⟨e1,e2,e3⟩:=st e
   exact .inl ⟨Ba.mpr (.inl e1),mB.mpr e2,mB.mpr e3⟩
  rcases List.mem_cons.mp h with e|h
  ·obtain ⟨e1,e2,e3⟩:=st e
   exact .inl ⟨Ba.mpr (.inr e1),mB.mpr e2,mB.mpr e3⟩
  rcases List.mem_cons.mp h with e|h
  ·obtain ⟨e1,e2,e3⟩:=st e
   exact .inr (.inl ⟨mB.mpr e1,Ba.mpr (.inl e2),mB.mpr e3⟩)
  rcases List.mem_cons.mp h with e|h
  ·obtain ⟨e1,e2,e3⟩:=st e
   exact .inr (.inl ⟨mB.mpr e1,Ba.mpr (.inr e2),mB.mpr e3⟩)
  rcases List.mem_cons.mp h with e|h
  ·obtain ⟨e1,e2,e3⟩:=st e
   exact .inr (.inr ⟨mB.mpr e1,mB.mpr e2,Ba.mpr (.inr e3)⟩)
  rcases List.mem_cons.mp h with e|h
  ·obtain ⟨e1,e2,e3⟩:=st e
   exact .inr (.inr ⟨mB.mpr e1,mB.mpr e2,Ba.mpr (.inl e3)⟩)
  ·cases h
theorem yX {c:jP} {r:List jP}:∀ {s:jP},mD On [c] r s↔mD Qk [cQ c] ((c::r).map cQ) (cQ s):=by
 intro s
 constructor
 ·intro h
  induction h with
  |base ha=>rw [List.mem_singleton] at ha;subst ha;exact .base List.mem_cons_self
  |step _ e hq ih=>exact .step ih ((yJ _ _).mp e) (List.mem_map_of_mem (List.mem_cons_of_mem _ hq))
 ·have key:∀ p,mD Qk [cQ c] ((c::r).map cQ) p->∃ t,p=cQ t/\mD On [c] r t:=by
   intro p h
   induction h with
   |base ha=>rw [List.mem_singleton] at ha;exact ⟨c,ha,.base List.mem_cons_self⟩
   |step _ e hq ih=>
    obtain ⟨t,rfl,ht⟩:=ih
    obtain ⟨u,hu,rfl⟩:=List.mem_map.mp hq
    refine ⟨u,rfl,?_⟩
    rcases List.mem_cons.mp hu with rfl|hu
    ·exact .base List.mem_cons_self
    ·exact .step ht ((yJ _ _).mpr e) hu
  intro h
  obtain ⟨t,e,ht⟩:=key _ h
  rw [iK e]
  exact ht
theorem Dj {pr:aM} (ok:dN pr):(cI pr).cells.Nodup:=by
 rw [rC ok]
 have sl:List.Sublist (((zP pr).filter kept).map fun q=>fH pr.w pr.d q.1) ((zP pr).map fun q=>fH pr.w pr.d q.1):=List.Sublist.map _ List.filter_sublist
 refine sl.nodup ?_
 have e:(zP pr).map (fun q=>fH pr.w pr.d q.1)=(List.range (pr.h * (pr.d * pr.w))).map (fH pr.w pr.d):=by
  have:(zP pr).map (fun q=>fH pr.w pr.d q.1)=((zP pr).map Prod.fst).map (fH pr.w pr.d):=by rw [List.map_map];rfl
  rw [this]
  unfold zP
  rw [List.map_fst_zip (by rw [Gd ok,List.length_range];exact Nat.le_refl _)]
 rw [e]
 refine List.Pairwise.map _ (fun a b h z=>h ?_) List.nodup_range
 have h1:=lD (show fH pr.w pr.d a=((fH pr.w pr.d b).1,(fH pr.w pr.d b).2.1,(fH pr.w pr.d b).2.2) from z)
 have h2:=lD (show fH pr.w pr.d b=((fH pr.w pr.d b).1,(fH pr.w pr.d b).2.1,(fH pr.w pr.d b).2.2) from rfl)
 rw [h1,<-h2]
theorem He {pr:aM} (ok:dN pr):(cI pr).whole=wK (tI pr):=by
 have ks:=oG ok
 have nd:=Dj ok
 unfold Br.Part.whole
 generalize (cI pr).cells=cl at ks nd
 generalize tI pr=cs at ks
 match cl,cs,ks,nd with
 |[],[],_,_=>rfl
 |[],_::_,ks,_=>cases ks
 |_::_,[],ks,_=>cases ks
 |c::r,k::cs,ks,nd=>
  have ndc:=List.nodup_cons.mp nd
  have hk:k.1=cQ c:=(List.cons.inj ks).1
  have nd2:((k::cs).map (·.1)).Nodup:=by
   rw [ks]
   exact List.Pairwise.map _ (fun a b h z=>h (iK z)) nd
  rw [Bool.eq_iff_iff,Qz nd2,ks,hk]
  show (Br.apartFrom r.length [c] r).isEmpty=true↔_
  rw [List.isEmpty_iff,yV (Nat.le_refl _) (fun x hx=>by rw [List.mem_singleton] at hx;subst hx;exact ndc.1)]
  constructor
  ·intro h p hp
   obtain ⟨s,hs,rfl⟩:=List.mem_map.mp hp
   rcases List.mem_cons.mp hs with rfl|hs
   ·exact .base List.mem_cons_self
   ·exact yX.mp (h s hs)
  ·exact fun h s hs=>yX.mpr (h _ (List.mem_map_of_mem (List.mem_cons_of_mem _ hs)))
theorem Mr {pr:aM} (ok:dN pr):hJ (cI pr)=gO pr:=by
 unfold hJ gO Bj
 rw [Jc ok,Hz ok,Hm ok,He ok]
abbrev Gx (l:List Int):Br.Bytes:=BuildsNeutral.text l
def Om (l:List Int):Prop:=∀ x∈l,0<=x/\x<=255
theorem Cg:∀ {l:List Int},Om l->aW (Gx l)=l
 |[],_=>rfl
 |x::r,h=>by
  have h1:=h x List.mem_cons_self
  have ih:=Cg (l:=r) fun y hy=>h y (List.mem_cons_of_mem _ hy)
  have e:((UInt8.ofNat x.toNat).toNat:Int)=x:=by
   rw [UInt8.toNat_ofNat']
   omega
  show ((UInt8.ofNat x.toNat).toNat:Int)::aW (Gx r)=x::r
  rw [ih,e]
def aBn (tc tb:Br.Bytes):Tn->Prop
 |.no n=>(n= -2/\(BrB.LOOKED<tc.length\/BrB.BUILT<tb.length))\/(n= -6/\¬(BrB.LOOKED<tc.length\/BrB.BUILT<tb.length)/\∃ e,Br.readC tc=.error e)\/(n= -8/\¬(BrB.LOOKED<tc.length\/BrB.BUILT<tb.length)/\∃ k,Br.readC tc=.ok k/\(Br.wrong k).isSome=true)
 |.bad i=>¬(BrB.LOOKED<tc.length\/BrB.BUILT<tb.length)/\∃ k,Br.readC tc=.ok k/\¬(Br.wrong k).isSome=true/\Br.readB k tb=.error i
 |.ok prs nm ls=>¬(BrB.LOOKED<tc.length\/BrB.BUILT<tb.length)/\(∀ pr∈prs,dN pr)/\Br.readC tc=.ok (prs.map cI)/\¬(Br.wrong (prs.map cI)).isSome=true/\∃ d,Br.readB (prs.map cI) tb=.ok d/\d.lines=ls.map fP/\aW d.name=nm
theorem Pz {nss:List (List Int)} {l:List Int} {b:List Int×List (List Nat)} (h:dH nss l=.ok b):∀ x∈b.1,gT x=true:=by
 unfold dH at h
 obtain ⟨_,_,h⟩:=aK h
 obtain ⟨nm,en,h⟩:=aK h
 obtain ⟨_,_,h⟩:=aK h
 obtain ⟨r,_,h⟩:=aK h
 split at h
 ·cases h
  unfold gE at en
  split at en
  ·cases en
   exact fun x hx=>pP hx
  ·cases en
 ·cases h
theorem Dt {lc lb:List Int} (hc:Om lc) (hb:Om lb):aBn (Gx lc) (Gx lb) (dC lc lb):=by
 have l1:lc.length=(Gx lc).length:=(List.length_map _).symm
 have l2:lb.length=(Gx lb).length:=(List.length_map _).symm
 unfold dC
 by_cases hl:1048576<lc.length\/16384<lb.length
 ·rw [if_pos hl]
  exact .inl ⟨rfl,by rw [l1,l2] at hl;exact hl⟩
 ·rw [if_neg hl]
  have hl2:¬(BrB.LOOKED<(Gx lc).length\/BrB.BUILT<(Gx lb).length):=by rw [l1,l2] at hl;exact hl
  have rc:=Sa (Gx lc)
  rw [Cg hc] at rc
  cases e:gY lc with
  |error i=>
   rw [e] at rc
   exact .inr (.inl ⟨rfl,hl2,i,rc⟩)
  |ok prs=>
   rw [e] at rc
   have rc:Br.readC (Gx lc)=.ok (prs.map cI):=rc
   have ok:=Qw e
   have wr:=Nf ok fun pr hp=>Mr (ok pr hp)
   show aBn _ _ (if nH prs=true then (match dH (prs.map (·.name)) lb with
    |.error i=>.bad i
    |.ok b=>.ok prs b.1 b.2) else .no (-8))
   by_cases hk:nH prs=true
   ·rw [if_pos hk]
    rw [hk] at wr
    have nw:¬(Br.wrong (prs.map cI)).isSome=true:=by rw [wr];decide
    have rb:=Rg (Gx lb) (prs.map cI)
    have en:((prs.map cI).map fun (p:Br.Part)=>p.name).map aW=prs.map (·.name):=by
     rw [List.map_map,List.map_map]
     refine List.map_congr_left fun pr hp=>?_
     exact nM (ok pr hp)
    rw [Cg hb,en] at rb
    cases e2:dH (prs.map (·.name)) lb with
    |error i=>
     rw [e2] at rb
     exact ⟨hl2,_,rc,nw,rb⟩
    |ok b=>
     rw [e2] at rb
     exact ⟨hl2,ok,rc,nw,_,rb,rfl,Ry _ (Pz e2)⟩
   ·rw [if_neg hk]
    have:nH prs=false:=by simpa using hk
    rw [this] at wr
    exact .inr (.inr ⟨rfl,hl2,_,rc,by rw [wr];rfl⟩)
structure TP where
 W:Int
 D:Int
 Hh:Int
 cs:CL
def fT (W:Int) (p:Pl):Pl:=(p.2.1,W - 1 - p.1,p.2.2)
def Pg (W:Int) (cs:CL):CL:=cs.map fun c=>(fT W c.1,c.2)
def Ks (t:TP):TP:=⟨t.D,t.W,t.Hh,Pg t.W t.cs⟩
def gK (t:TP):Nat->TP
 |0=>t
 |n+1=>Ks (gK t n)
def wE (pr:aM):TP:=⟨pr.w,pr.d,pr.h,tI pr⟩
def jJ (t:TP) (x y z:Int):Bool:=decide (64<x+t.W)||(decide (64<y+t.D)||decide (96<z+t.Hh))
def lY (x y z:Int) (p:Pl):Pl:=(x+p.1,y+p.2.1,z+p.2.2)
def En (x y z:Int) (cs:CL):CL:=cs.map fun c=>(lY x y z c.1,c.2)
def gA (ow cells:CL):List Int:=cells.filterMap fun c=>bE ow c.1
def mC (sg ow:CL) (c:Pl×Int):List Int:=match bE sg (pB c.1) with
 |some s=>if fA c.2=true/\dW s=false then (bE ow (pB c.1)).toList else []
 |none=>[]
def oR (sg ow:CL) (c:Pl×Int):List Int:=match bE sg (pH c.1) with
 |some s=>if dW c.2=false/\fA s=true then (bE ow (pH c.1)).toList else []
 |none=>[]
def cU (cells sg ow:CL):List Int:=cells.flatMap fun c=>mC sg ow c++oR sg ow c
def hZ:List Int->Int
 |[]=>0
 |[a]=>a
 |a::r=>min a (hZ r)
def dZ (x:List Nat) (k:Nat):Nat:=x.getD k 0
def rM (prs:List aM) (x:List Nat):TP:=gK ((prs[dZ x 0]?).elim ⟨0,0,0,[]⟩ wE) (dZ x 5)
def dA (prs:List aM) (x:List Nat):CL:=En (dZ x 2) (dZ x 3) (dZ x 4) (rM prs x).cs
def cM (prs:List aM):Nat->CL->CL->List (List Nat)->List Int
 |_,_,_,[]=>[]
 |j,sg,ow,x::r=>
  if jJ (rM prs x) (dZ x 2) (dZ x 3) (dZ x 4)=true then [1,j,j] else
  if 0<(gA ow (dA prs x)).length then [2,j,hZ (gA ow (dA prs x))] else
  if 0<(cU (dA prs x) sg ow).length then [3,j,hZ (cU (dA prs x) sg ow)] else
  cM prs (j+1) (sg++dA prs x) (ow++(dA prs x).map fun c=>(c.1,(j:Int))) r
theorem mG:∀ {l:List Int},l≠[]->hZ l∈l
 |[],h=>absurd rfl h
 |[a],_=>List.mem_cons_self
 |a::b::r,_=>by
  have ih:=mG (l:=b::r) (by simp)
  show min a (hZ (b::r))∈a::b::r
  rcases Int.le_total a (hZ (b::r)) with h|h
  ·rw [Int.min_eq_left h];exact List.mem_cons_self
  ·rw [Int.min_eq_right h];exact List.mem_cons_of_mem _ ih
theorem nW:∀ {l:List Int} {y:Int},y∈l->hZ l<=y
 |[],y,h=>by cases h
 |[a],y,h=>by rw [List.mem_singleton] at h;subst h;exact Int.le_refl _
 |a::b::r,y,h=>by
  show min a (hZ (b::r))<=y
  rcases List.mem_cons.mp h with rfl|h
  ·exact Int.min_le_left _ _
  ·have:=nW h
   have:=Int.min_le_right a (hZ (b::r))
   omega
theorem Ln {l:List Int} {m:Int} (h1:m∈l) (h2:∀ y∈l,m<=y):m=hZ l:=by
 have a:=nW h1
 have b:=h2 _ (mG (l:=l) (by rintro rfl;cases h1))
 omega
structure Xa (p:Br.Part):Prop where
 w:1<=p.wide
 d:1<=p.deep
 h:1<=p.high
 l:p.places.length=p.high * (p.deep * p.wide)
theorem nE {p:Br.Part} (ok:Xa p) {f:Br.Place->Bool} (f0:f .none=false) {s:jP}:s∈p.such f↔f (p.at_ s.1 s.2.1 s.2.2)=true:=by
 obtain ⟨x,y,z⟩:=s
 unfold Br.Part.such Br.Part.at_
 rw [qX ok.w ok.d,List.mem_map]
 have hN:∀ i,i<p.high * (p.deep * p.wide)->i % p.wide<p.wide/\i / p.wide % p.deep<p.deep/\i / p.wide / p.deep<p.high:=fun i hi=>by
  refine ⟨Nat.mod_lt _ ok.w,Nat.mod_lt _ ok.d,?_⟩
  rw [Nat.div_div_eq_div_mul]
  apply Nat.div_lt_of_lt_mul
  rw [Nat.mul_comm,Nat.mul_comm p.wide]
  exact hi
 constructor
 ·rintro ⟨⟨t,pl⟩,hm,e⟩
  obtain ⟨hz,hf⟩:=List.mem_filter.mp hm
  obtain ⟨i,e1⟩:=List.mem_iff_getElem?.mp hz
  rw [List.getElem?_zip_eq_some] at e1
  obtain ⟨e1,e2⟩:=e1
  have hi:i<p.high * (p.deep * p.wide):=by rw [<-ok.l];exact (List.getElem?_eq_some_iff.mp e2).1
  rw [List.getElem?_map,List.getElem?_range hi] at e1
  have e1:fH p.wide p.deep i=t:=by simpa using e1
  have e:t=(x,y,z):=e
  subst e
  have e3:=lD e1
  have h3:=hN i hi
  unfold fH at e1
  simp only [Prod.mk.injEq] at e1
  show f (if x<p.wide/\y<p.deep/\z<p.high then _ else _)=true
  rw [if_pos (by omega),List.getD_eq_getElem?_getD]
  show f ((p.places[(z * p.deep+y) * p.wide+x]?).getD .none)=true
  rw [<-e3,e2]
  exact hf
 ·intro h
  have h:f (if x<p.wide/\y<p.deep/\z<p.high then p.places.getD ((z * p.deep+y) * p.wide+x) .none else .none)=true:=h
  split at h
  ·rename_i hr
   have hlt:(z * p.deep+y) * p.wide+x<p.high * (p.deep * p.wide):=by
    have h1:(z * p.deep+y)+1<=p.high * p.deep:=by
     have:(z+1) * p.deep<=p.high * p.deep:=Nat.mul_le_mul_right _ hr.2.2
     rw [Nat.succ_mul] at this
     omega
    have h2:=Nat.mul_le_mul_right p.wide h1
    rw [Nat.succ_mul,Nat.mul_assoc] at h2
    omega
   rw [List.getD_eq_getElem?_getD] at h
   have hp:(z * p.deep+y) * p.wide+x<p.places.length:=by rw [ok.l];exact hlt
   rw [List.getElem?_eq_getElem hp] at h
   refine ⟨((x,y,z),p.places[(z * p.deep+y) * p.wide+x]),List.mem_filter.mpr ⟨?_,h⟩,rfl⟩
   refine List.mem_iff_getElem?.mpr ⟨(z * p.deep+y) * p.wide+x,?_⟩
   rw [List.getElem?_zip_eq_some]
   refine ⟨?_,List.getElem?_eq_getElem hp⟩
   rw [List.getElem?_map,List.getElem?_range hlt]
   show some (fH _ _ _)=_
   rw [Ii hr.1 hr.2.1]
  ·rw [f0] at h;cases h
structure Yj (t:TP) (p:Br.Part):Prop where
 sh:Xa p
 w:t.W=p.wide
 d:t.D=p.deep
 h:t.Hh=p.high
 nd:(t.cs.map (·.1)).Nodup
 mem:∀ (q:Pl) (v:Int),(q,v)∈t.cs↔∃ s:jP,q=cQ s/\v∈cP/\(p.at_ s.1 s.2.1 s.2.2).isCell=true/\p.at_ s.1 s.2.1 s.2.2=oP v
theorem zZ {p:Br.Part} {x y z:Nat} (h:(p.at_ x y z).isCell=true):x<p.wide/\y<p.deep/\z<p.high:=by
 unfold Br.Part.at_ at h
 split at h
 ·rename_i hr;exact hr
 ·cases h
theorem Qy {pr:aM} (ok:dN pr):Yj (wE pr) (cI pr):=by
 have hl:(cI pr).places.length=pr.h * (pr.d * pr.w):=by rw [gH,List.length_map,Gd ok]
 refine ⟨⟨ok.w1,ok.d1,ok.h1,hl⟩,rfl,rfl,rfl,?_,?_⟩
 ·show ((tI pr).map (·.1)).Nodup
  rw [oG ok]
  exact List.Pairwise.map _ (fun a b h z=>h (iK z)) (Dj ok)
 ·intro q v
  show (q,v)∈tI pr↔_
  rw [yQ ok,List.mem_map]
  constructor
  ·rintro ⟨⟨i,s⟩,hm,e⟩
   obtain ⟨hz,hk⟩:=List.mem_filter.mp hm
   cases e
   have hc:fH pr.w pr.d i∈(cI pr).cells:=by rw [rC ok];exact List.mem_map.mpr ⟨_,hm,rfl⟩
   have hc2:=(qB ok (fH pr.w pr.d i).1 (fH pr.w pr.d i).2.1 (fH pr.w pr.d i).2.2).mpr hc
   refine ⟨fH pr.w pr.d i,rfl,rW ok hz,hc2,?_⟩
   have hin:=zZ hc2
   have e2:=lD (w:=pr.w) (d:=pr.d) (i:=i) (x:=(fH pr.w pr.d i).1) (y:=(fH pr.w pr.d i).2.1) (z:=(fH pr.w pr.d i).2.2) rfl
   unfold Br.Part.at_
   rw [if_pos hin,gH,List.getD_eq_getElem?_getD,List.getElem?_map]
   show ((pr.rows.flatten[((fH pr.w pr.d i).2.2 * pr.d+(fH pr.w pr.d i).2.1) * pr.w+(fH pr.w pr.d i).1]?).map oP).getD .none=_
   rw [<-e2,(Js ok).mp hz]
   rfl
  ·rintro ⟨s,rfl,hv,hc,he⟩
   have hin:=zZ hc
   unfold Br.Part.at_ at he
   rw [if_pos hin,gH,List.getD_eq_getElem?_getD,List.getElem?_map] at he
   have he:((pr.rows.flatten[(s.2.2 * pr.d+s.2.1) * pr.w+s.1]?).map oP).getD .none=oP v:=he
   have hc':(oP v).isCell=true:=by
    unfold Br.Part.at_ at hc
    rw [if_pos hin,gH,List.getD_eq_getElem?_getD,List.getElem?_map] at hc
    rw [<-he];exact hc
   cases e:pr.rows.flatten[(s.2.2 * pr.d+s.2.1) * pr.w+s.1]? with
   |none=>rw [e] at he;rw [<-he] at hc';cases hc'
   |some u=>
    rw [e] at he
    have he:oP u=oP v:=he
    have hz:=(Js ok).mpr e
    have hu:=rW ok hz
    have huv:u=v:=by
     simp only [cP,List.mem_cons,List.not_mem_nil,or_false] at hu hv
     rcases hu with rfl|rfl|rfl|rfl|rfl<;>rcases hv with rfl|rfl|rfl|rfl|rfl<;>first|rfl|(revert he;decide)
    subst huv
    refine ⟨(_,u),List.mem_filter.mpr ⟨hz,?_⟩,?_⟩
    ·rw [mY] at hc';exact hc'
    ·have hs:fH pr.w pr.d ((s.2.2 * pr.d+s.2.1) * pr.w+s.1)=s:=Ii (w:=pr.w) (d:=pr.d) hin.1 hin.2.1
     show (cQ (fH pr.w pr.d ((s.2.2 * pr.d+s.2.1) * pr.w+s.1)),u)=_
     rw [hs]
theorem Fm {p:Br.Part}:p.turn.places.length=p.high * (p.wide * p.deep):=by
 show ((List.range p.high).flatMap fun (z:Nat)=>(List.range p.wide).flatMap fun (y:Nat)=>(List.range p.deep).map fun (x:Nat)=>p.places.toArray.getD ((z * p.deep+x) * p.wide+(p.wide - 1 - y)) .none).length=_
 refine lB (fun z=>?_) _
 refine lB (fun y=>?_) _
 simp
theorem Ay {p:Br.Part} (ok:Xa p) {x y z:Nat} (hx:x<p.deep) (hy:y<p.wide) (hz:z<p.high):p.turn.at_ x y z=p.at_ (p.wide - 1 - y) x z:=by
 have hw:=ok.w
 have hd:=ok.d
 have l1:∀ y z:Nat,((List.range p.deep).map fun (x:Nat)=>p.places.toArray.getD ((z * p.deep+x) * p.wide+(p.wide - 1 - y)) Br.Place.none).length=p.deep:=by simp
 have l2:∀ z:Nat,((List.range p.wide).flatMap fun (y:Nat)=>(List.range p.deep).map fun (x:Nat)=>p.places.toArray.getD ((z * p.deep+x) * p.wide+(p.wide - 1 - y)) Br.Place.none).length=p.wide * p.deep:=fun z=>lB (fun y=>l1 y z) _
 have b1:y * p.deep+x<p.wide * p.deep:=by
  have:(y+1) * p.deep<=p.wide * p.deep:=Nat.mul_le_mul_right _ hy
  rw [Nat.succ_mul] at this
  omega
 have b2:z * (p.wide * p.deep)+(y * p.deep+x)<p.high * (p.wide * p.deep):=by
  have:(z+1) * (p.wide * p.deep)<=p.high * (p.wide * p.deep):=Nat.mul_le_mul_right _ hz
  rw [Nat.succ_mul] at this
  omega
 have e0:(z * p.wide+y) * p.deep+x=z * (p.wide * p.deep)+(y * p.deep+x):=by
  rw [Nat.add_mul,Nat.mul_assoc,Nat.add_assoc]
 unfold Br.Part.at_
 rw [if_pos (show x<p.turn.wide/\y<p.turn.deep/\z<p.turn.high from ⟨hx,hy,hz⟩),if_pos (by omega)]
 rw [List.getD_eq_getElem?_getD,List.getD_eq_getElem?_getD]
 show (((List.range p.high).flatMap fun (z:Nat)=>(List.range p.wide).flatMap fun (y:Nat)=>(List.range p.deep).map fun (x:Nat)=>p.places.toArray.getD ((z * p.deep+x) * p.wide+(p.wide - 1 - y)) Br.Place.none)[(z * p.wide+y) * p.deep+x]?).getD .none=_
 rw [e0,vP (Nat.mul_pos hw hd) l2 _ _ b2]
 have e1:(z * (p.wide * p.deep)+(y * p.deep+x)) / (p.wide * p.deep)=z:=by
  rw [Nat.add_comm,Nat.add_mul_div_right _ _ (Nat.mul_pos hw hd),Nat.div_eq_of_lt b1,Nat.zero_add]
 have e2:(z * (p.wide * p.deep)+(y * p.deep+x)) % (p.wide * p.deep)=y * p.deep+x:=by
  rw [Nat.add_comm,Nat.add_mul_mod_self_right,Nat.mod_eq_of_lt b1]
 rw [e1,e2,vP hd (fun y=>l1 y z) _ _ b1]
 have e3:(y * p.deep+x) / p.deep=y:=by
  rw [Nat.add_comm,Nat.add_mul_div_right _ _ hd,Nat.div_eq_of_lt hx,Nat.zero_add]
 have e4:(y * p.deep+x) % p.deep=x:=by rw [Nat.add_comm,Nat.add_mul_mod_self_right,Nat.mod_eq_of_lt hx]
 rw [e3,e4,List.getElem?_map,List.getElem?_range hx]
 show p.places.toArray.getD ((z * p.deep+x) * p.wide+(p.wide - 1 - y)) .none=_
 simp
theorem Rf {t:TP} {p:Br.Part} (h:Yj t p):Yj (Ks t) p.turn:=by
 obtain ⟨sh,hw,hd,hh,nd,mem⟩:=h
 have sh2:Xa p.turn:=⟨sh.d,sh.w,sh.h,Fm⟩
 have inj:∀ a b:Pl,fT t.W a=fT t.W b->a=b:=by
  rintro ⟨x,y,z⟩ ⟨u,v,w⟩ e
  unfold fT at e
  simp only [Prod.mk.injEq] at e ⊢
  omega
 refine ⟨sh2,hd,hw,hh,?_,?_⟩
 ·show (((t.cs).map fun c=>(fT t.W c.1,c.2)).map (·.1)).Nodup
  rw [List.map_map]
  have:(t.cs.map ((·.1)∘fun c:Pl×Int=>(fT t.W c.1,c.2)))=(t.cs.map (·.1)).map (fT t.W):=by rw [List.map_map];rfl
  rw [this]
  exact List.Pairwise.map _ (fun a b h z=>h (inj a b z)) nd
 ·intro q v
  show (q,v)∈t.cs.map (fun c=>(fT t.W c.1,c.2))↔_
  rw [List.mem_map]
  constructor
  ·rintro ⟨⟨c,u⟩,hc,e⟩
   obtain ⟨s,rfl,hv,hcell,hpl⟩:=(mem c u).mp hc
   cases e
   have hin:=zZ hcell
   have hy:p.wide - 1 - s.1<p.wide:=by omega
   have ta:=Ay sh hin.2.1 hy hin.2.2
   rw [show p.wide - 1 - (p.wide - 1 - s.1)=s.1 by omega] at ta
   refine ⟨(s.2.1,p.wide - 1 - s.1,s.2.2),?_,hv,?_,?_⟩
   ·unfold fT cQ
    rw [hw]
    refine Prod.ext rfl (Prod.ext ?_ rfl)
    show (p.wide:Int) - 1 - (s.1:Int)=((p.wide - 1 - s.1:Nat):Int)
    omega
   ·show (p.turn.at_ s.2.1 (p.wide - 1 - s.1) s.2.2).isCell=true
    rw [ta];exact hcell
   ·show p.turn.at_ s.2.1 (p.wide - 1 - s.1) s.2.2=_
    rw [ta];exact hpl
  ·rintro ⟨s,rfl,hv,hcell,hpl⟩
   have hin:s.1<p.deep/\s.2.1<p.wide/\s.2.2<p.high:=zZ hcell
   have ta:=Ay sh hin.1 hin.2.1 hin.2.2
   rw [ta] at hcell hpl
   refine ⟨(cQ (p.wide - 1 - s.2.1,s.1,s.2.2),v),(mem _ _).mpr ⟨_,rfl,hv,hcell,hpl⟩,?_⟩
   unfold fT cQ
   rw [hw]
   refine Prod.ext (Prod.ext rfl (Prod.ext ?_ rfl)) rfl
   show (p.wide:Int) - 1 - ((p.wide - 1 - s.2.1:Nat):Int)=(s.2.1:Int)
   omega
theorem sA {t:TP} {p:Br.Part} (h:Yj t p):∀ n,Yj (gK t n) (p.turned n)
 |0=>h
 |n+1=>Rf (sA h n)
structure xZ (sh:Br.Shape) (cl:CL):Prop where
 c:∀ s,s∈sh.cells↔∃ v,(cQ s,v)∈cl
 st:∀ s,s∈sh.studs↔∃ v,(cQ s,v)∈cl/\fA v=true
 tb:∀ s,s∈sh.tubes↔∃ v,(cQ s,v)∈cl/\dW v=true
 nd:(cl.map (·.1)).Nodup
 ps:∀ q v,(q,v)∈cl->∃ s:jP,q=cQ s
 box:∀ s∈sh.cells,(sh.at_.1<=s.1/\s.1<sh.at_.1+sh.size.1)/\(sh.at_.2.1<=s.2.1/\s.2.1<sh.at_.2.1+sh.size.2.1)/\(sh.at_.2.2<=s.2.2/\s.2.2<sh.at_.2.2+sh.size.2.2)
theorem Sg:∀ {cl:CL} {q:Pl} {u v:Int},(cl.map (·.1)).Nodup->(q,u)∈cl->(q,v)∈cl->u=v
 |[],q,u,v,_,h,_=>by cases h
 |c::r,q,u,v,nd,h1,h2=>by
  have nd:=List.nodup_cons.mp nd
  rcases List.mem_cons.mp h1 with e1|h1
  ·rcases List.mem_cons.mp h2 with e2|h2
   ·rw [<-e1] at e2;cases e2;rfl
   ·exact absurd (List.mem_map.mpr ⟨_,h2,by rw [<-e1]⟩) nd.1
  ·rcases List.mem_cons.mp h2 with e2|h2
   ·exact absurd (List.mem_map.mpr ⟨_,h1,by rw [<-e2]⟩) nd.1
   ·exact Sg nd.2 h1 h2
theorem qI {cl:CL} {q:Pl} {v:Int} (h:bE cl q=some v):(q,v)∈cl:=by
 unfold bE at h
 obtain ⟨c,e,rfl⟩:=Option.map_eq_some_iff.mp h
 have h1:=List.find?_some e
 have h1:c.1=q:=by simpa using h1
 rw [<-h1]
 exact List.mem_of_find?_eq_some e
theorem Vm {cl:CL} {q:Pl} {v:Int} (nd:(cl.map (·.1)).Nodup):bE cl q=some v↔(q,v)∈cl:=by
 refine ⟨qI,fun h=>?_⟩
 have hs:(bE cl q).isSome=true:=dM.mpr ⟨_,h,rfl⟩
 obtain ⟨u,e⟩:=Option.isSome_iff_exists.mp hs
 rw [e,Sg nd (qI e) h]
theorem wG (a b:CL) (q:Pl):bE (a++b) q=(bE a q).or (bE b q):=by
 unfold bE
 rw [List.find?_append]
 cases List.find? (fun c=>decide (c.1=q)) a<;>rfl
theorem Is (pl:Br.Place):∃ v∈cP,pl=oP v:=by
 cases pl with
 |none=>exact ⟨46,by decide,by decide⟩
 |cell a b=>cases a<;>cases b<;>first|exact ⟨35,by decide,by decide⟩|exact ⟨115,by decide,by decide⟩|exact ⟨116,by decide,by decide⟩|exact ⟨98,by decide,by decide⟩
theorem Ml {pl:Br.Place} (h:pl.stud=true):pl.isCell=true:=by cases pl;cases h;rfl
theorem Og {pl:Br.Place} (h:pl.tube=true):pl.isCell=true:=by cases pl;cases h;rfl
theorem Dh {t:TP} {p:Br.Part} (h:Yj t p) {f:Br.Place->Bool} {g:Int->Bool} (f0:∀ pl,f pl=true->pl.isCell=true) (hg:∀ v∈cP,v≠46->f (oP v)=g v) (s:jP):s∈p.such f↔∃ v,(cQ s,v)∈t.cs/\g v=true:=by
 have fn:f .none=false:=by
  cases e:f .none with
  |false=>rfl
  |true=>have:=f0 _ e;cases this
 rw [nE h.sh fn]
 constructor
 ·intro hf
  have hc:=f0 _ hf
  obtain ⟨v,hv,e⟩:=Is (p.at_ s.1 s.2.1 s.2.2)
  refine ⟨v,(h.mem _ _).mpr ⟨s,rfl,hv,hc,e⟩,?_⟩
  rw [<-hg v hv (by rintro rfl;rw [e] at hc;revert hc;decide),<-e]
  exact hf
 ·rintro ⟨v,hm,hgv⟩
  obtain ⟨s2,e,hv,hc,e2⟩:=(h.mem _ _).mp hm
  have e:=iK e
  subst e
  rw [e2,hg v hv (by rintro rfl;rw [e2] at hc;revert hc;decide)]
  exact hgv
theorem Wj {t:TP} {p:Br.Part} (h:Yj t p) (x y z:Nat) (im:Bool) (put:jP->jP) (hput:∀ s,put s=(x+s.1,y+s.2.1,z+s.2.2)):xZ ⟨(x,y,z),(p.wide,p.deep,p.high),im,p.cells.map put,p.studs.map put,p.tubes.map put⟩ (En x y z t.cs):=by
 have key:∀ (f:Br.Place->Bool) (g:Int->Bool),(∀ pl,f pl=true->pl.isCell=true)->(∀ v∈cP,v≠46->f (oP v)=g v)->∀ s:jP,s∈(p.such f).map put↔∃ v,(cQ s,v)∈En x y z t.cs/\g v=true:=by
  intro f g f0 hg s
  rw [List.mem_map]
  constructor
  ·rintro ⟨s0,h0,rfl⟩
   obtain ⟨v,hm,hgv⟩:=(Dh h f0 hg s0).mp h0
   refine ⟨v,List.mem_map.mpr ⟨_,hm,?_⟩,hgv⟩
   rw [hput]
   rfl
  ·rintro ⟨v,hm,hgv⟩
   obtain ⟨⟨q,u⟩,hc,e⟩:=List.mem_map.mp hm
   obtain ⟨e1,e2⟩:=Prod.mk.inj e
   have e2:u=v:=e2
   subst e2
   obtain ⟨s0,rfl,_⟩:=(h.mem q u).mp hc
   refine ⟨s0,(Dh h f0 hg s0).mpr ⟨u,hc,hgv⟩,?_⟩
   apply iK
   rw [hput,<-e1]
   rfl
 have inj:∀ a b:Pl,lY x y z a=lY x y z b->a=b:=by
  rintro ⟨a,b,c⟩ ⟨u,v,w⟩ e
  unfold lY at e
  simp only [Prod.mk.injEq] at e ⊢
  omega
 refine ⟨fun s=>?_,fun s=>?_,fun s=>?_,?_,?_,?_⟩
 ·have k:=key Br.Place.isCell (fun _=>true) (fun _ h=>h) (fun v hv hn=>by rw [mY];simp [hn]) s
  have k:s∈p.cells.map put↔_:=k
  show s∈p.cells.map put↔_
  rw [k]
  exact ⟨fun ⟨v,h1,_⟩=>⟨v,h1⟩,fun ⟨v,h1⟩=>⟨v,h1,rfl⟩⟩
 ·exact key Br.Place.stud fA (fun _ h=>Ml h) (fun v hv _=>wN hv) s
 ·exact key Br.Place.tube dW (fun _ h=>Og h) (fun v hv _=>xL hv) s
 ·unfold En
  rw [List.map_map]
  have:(t.cs.map ((·.1)∘fun c:Pl×Int=>(lY x y z c.1,c.2)))=(t.cs.map (·.1)).map (lY x y z):=by rw [List.map_map];rfl
  rw [this]
  exact List.Pairwise.map _ (fun a b h z=>h (inj a b z)) h.nd
 ·intro q v hm
  obtain ⟨⟨q0,u⟩,hc,e⟩:=List.mem_map.mp hm
  obtain ⟨s0,rfl,_⟩:=(h.mem q0 u).mp hc
  obtain ⟨e1,e2⟩:=Prod.mk.inj e
  exact ⟨(x+s0.1,y+s0.2.1,z+s0.2.2),by rw [<-e1];rfl⟩
 ·intro s hs
  obtain ⟨s0,h0,rfl⟩:=List.mem_map.mp hs
  have h0:s0∈p.such Br.Place.isCell:=h0
  rw [nE h.sh (by rfl)] at h0
  have:=zZ h0
  rw [hput]
  show (x<=x+s0.1/\x+s0.1<x+p.wide)/\(y<=y+s0.2.1/\y+s0.2.1<y+p.deep)/\(z<=z+s0.2.2/\z+s0.2.2<z+p.high)
  omega
theorem yM {i j:Br.Shape} {ci cj:CL} (hi:xZ i ci) (hj:xZ j cj):Br.clash i j=true↔∃ q v u,(q,v)∈ci/\(q,u)∈cj:=by
 unfold Br.clash
 rw [Bool.and_eq_true,List.any_eq_true]
 constructor
 ·rintro ⟨_,s,h1,h2⟩
  rw [List.contains_iff_mem] at h2
  obtain ⟨v,hv⟩:=(hi.c s).mp h1
  obtain ⟨u,hu⟩:=(hj.c s).mp h2
  exact ⟨_,v,u,hv,hu⟩
 ·rintro ⟨q,v,u,hv,hu⟩
  obtain ⟨s,rfl⟩:=hi.ps q v hv
  have m1:=(hi.c s).mpr ⟨v,hv⟩
  have m2:=(hj.c s).mpr ⟨u,hu⟩
  have b1:=hi.box s m1
  have b2:=hj.box s m2
  refine ⟨?_,s,m1,List.contains_iff_mem.mpr m2⟩
  unfold Br.meet
  simp only [Bool.and_eq_true,decide_eq_true_iff]
  omega
theorem nO {i j:Br.Shape} {ci cj:CL} (hi:xZ i ci) (hj:xZ j cj):Br.stuck i j=true↔∃ q v u,(q,v)∈ci/\fA v=true/\(pB q,u)∈cj/\dW u=false:=by
 unfold Br.stuck
 rw [Bool.and_eq_true,List.any_eq_true]
 constructor
 ·rintro ⟨_,s,h1,h2⟩
  rw [Bool.and_eq_true,Bool.not_eq_true',<-Bool.not_eq_true,List.contains_iff_mem,List.contains_iff_mem] at h2
  obtain ⟨v,hv,hs⟩:=(hi.st s).mp h1
  obtain ⟨u,hu⟩:=(hj.c _).mp h2.1
  refine ⟨_,v,u,hv,hs,hu,?_⟩
  cases e:dW u with
  |false=>rfl
  |true=>exact absurd ((hj.tb _).mpr ⟨u,hu,e⟩) h2.2
 ·rintro ⟨q,v,u,hv,hs,hu,ht⟩
  obtain ⟨s,rfl⟩:=hi.ps q v hv
  have m1:=(hi.c s).mpr ⟨v,hv⟩
  have m2:Br.above s∈j.cells:=(hj.c (Br.above s)).mpr ⟨u,hu⟩
  have b1:=hi.box s m1
  have b2:=hj.box _ m2
  refine ⟨?_,s,(hi.st s).mpr ⟨v,hv,hs⟩,?_⟩
  ·unfold Br.meet
   simp only [Bool.and_eq_true,decide_eq_true_iff]
   unfold Br.above at b2
   simp only at b2
   omega
  ·rw [Bool.and_eq_true,Bool.not_eq_true',<-Bool.not_eq_true,List.contains_iff_mem,List.contains_iff_mem]
   refine ⟨m2,fun z=>?_⟩
   obtain ⟨u2,hu2,ht2⟩:=(hj.tb _).mp z
   rw [Sg hj.nd hu (show (pB (cQ s),u2)∈cj from hu2),ht2] at ht
   cases ht
structure aQ (zs:List (Br.Shape×CL)) (sg ow:CL):Prop where
 rep:∀ z∈zs,xZ z.1 z.2
 sgO:∀ q v,bE sg q=some v↔∃ (i:Nat) (z:Br.Shape×CL),zs[i]?=some z/\(q,v)∈z.2
 owO:∀ q k,bE ow q=some k↔∃ (i:Nat) (z:Br.Shape×CL) (v:Int),zs[i]?=some z/\(q,v)∈z.2/\k=(i:Int)
theorem Kr {zs:List (Br.Shape×CL)} {f:Br.Shape->Bool} {L:List Int} (h:∀ k:Int,k∈L↔∃ (i:Nat) (z:Br.Shape×CL),zs[i]?=some z/\f z.1=true/\k=(i:Int)):
  (L=[]->(zs.map (·.1)).findIdx? f=none)/\(L≠[]->∃ i:Nat,(zs.map (·.1)).findIdx? f=some i/\hZ L=(i:Int)):=by
 constructor
 ·rintro rfl
  rw [List.findIdx?_eq_none_iff]
  intro x hx
  obtain ⟨z,hz,rfl⟩:=List.mem_map.mp hx
  obtain ⟨i,hi⟩:=List.mem_iff_getElem?.mp hz
  cases e:f z.1 with
  |false=>rfl
  |true=>exact absurd ((h i).mpr ⟨i,z,hi,e,rfl⟩) List.not_mem_nil
 ·intro hne
  have hm:=mG hne
  obtain ⟨i,z,hi,hf,e⟩:=(h _).mp hm
  refine ⟨i,?_,e⟩
  obtain ⟨hlt,hz⟩:=List.getElem?_eq_some_iff.mp hi
  rw [List.findIdx?_eq_some_iff_getElem]
  refine ⟨by rw [List.length_map];exact hlt,by rw [List.getElem_map,hz];exact hf,fun j hj=>?_⟩
  have hj2:j<zs.length:=by omega
  rw [List.getElem_map]
  intro hfj
  have:=nW ((h (j:Int)).mpr ⟨j,zs[j],List.getElem?_eq_getElem hj2,hfj,rfl⟩)
  omega
theorem Up {zs:List (Br.Shape×CL)} {sg ow cl:CL} {sh:Br.Shape} (I:aQ zs sg ow) (hs:xZ sh cl) (k:Int):k∈gA ow cl↔∃ (i:Nat) (z:Br.Shape×CL),zs[i]?=some z/\Br.clash z.1 sh=true/\k=(i:Int):=by
 unfold gA
 rw [List.mem_filterMap]
 constructor
 ·rintro ⟨⟨q,u⟩,hc,e⟩
  obtain ⟨i,z,v,hi,hv,rfl⟩:=(I.owO _ _).mp e
  exact ⟨i,z,hi,(yM (I.rep z (List.mem_of_getElem? hi)) hs).mpr ⟨q,v,u,hv,hc⟩,rfl⟩
 ·rintro ⟨i,z,hi,hcl,rfl⟩
  obtain ⟨q,v,u,hv,hu⟩:=(yM (I.rep z (List.mem_of_getElem? hi)) hs).mp hcl
  exact ⟨(q,u),hu,(I.owO _ _).mpr ⟨i,z,v,hi,hv,rfl⟩⟩
theorem aAx (q:Pl):pB (pH q)=q:=by
 unfold pB pH
 refine Prod.ext rfl (Prod.ext rfl ?_)
 show q.2.2 - 1+1=q.2.2
 omega
theorem Xi (q:Pl):pH (pB q)=q:=by
 unfold pB pH
 refine Prod.ext rfl (Prod.ext rfl ?_)
 show q.2.2+1 - 1=q.2.2
 omega
theorem Er {sg ow:CL} {c:Pl×Int} {k:Int}:k∈mC sg ow c↔fA c.2=true/\(∃ s,bE sg (pB c.1)=some s/\dW s=false)/\bE ow (pB c.1)=some k:=by
 unfold mC
 cases e:bE sg (pB c.1) with
 |none=>simp
 |some s=>
  simp only [Option.some.injEq,exists_eq_left']
  split
  ·rename_i h
   rw [Option.mem_toList]
   exact ⟨fun z=>⟨h.1,h.2,z⟩,fun z=>z.2.2⟩
  ·rename_i h
   exact ⟨fun z=>absurd z List.not_mem_nil,fun z=>absurd ⟨z.1,z.2.1⟩ h⟩
theorem Gc {sg ow:CL} {c:Pl×Int} {k:Int}:k∈oR sg ow c↔dW c.2=false/\(∃ s,bE sg (pH c.1)=some s/\fA s=true)/\bE ow (pH c.1)=some k:=by
 unfold oR
 cases e:bE sg (pH c.1) with
 |none=>simp
 |some s=>
  simp only [Option.some.injEq,exists_eq_left']
  split
  ·rename_i h
   rw [Option.mem_toList]
   exact ⟨fun z=>⟨h.1,h.2,z⟩,fun z=>z.2.2⟩
  ·rename_i h
   exact ⟨fun z=>absurd z List.not_mem_nil,fun z=>absurd ⟨z.1,z.2.1⟩ h⟩
theorem Vp {zs:List (Br.Shape×CL)} {sg ow cl:CL} {sh:Br.Shape} (I:aQ zs sg ow) (hs:xZ sh cl) (k:Int):k∈cU cl sg ow↔∃ (i:Nat) (z:Br.Shape×CL),zs[i]?=some z/\(Br.stuck z.1 sh||Br.stuck sh z.1)=true/\k=(i:Int):=by
 unfold cU
 rw [List.mem_flatMap]
 have one:∀ {q:Pl} {i:Nat} {z:Br.Shape×CL} {v s k:Int},zs[i]?=some z->(q,v)∈z.2->bE sg q=some s->s=v:=by
  intro q i z v s k hi hv e
  have:=(I.sgO q v).mpr ⟨i,z,hi,hv⟩
  rw [e] at this
  exact Option.some.inj this
 constructor
 ·rintro ⟨⟨q,u⟩,hc,hk⟩
  rcases List.mem_append.mp hk with hk|hk
  ·obtain ⟨h1,⟨s,e,h2⟩,h3⟩:=Er.mp hk
   obtain ⟨i,z,v,hi,hv,rfl⟩:=(I.owO _ _).mp h3
   have:=one (k:=0) hi hv e
   subst this
   refine ⟨i,z,hi,?_,rfl⟩
   rw [Bool.or_eq_true]
   exact .inr ((nO hs (I.rep z (List.mem_of_getElem? hi))).mpr ⟨q,u,s,hc,h1,hv,h2⟩)
  ·obtain ⟨h1,⟨s,e,h2⟩,h3⟩:=Gc.mp hk
   obtain ⟨i,z,v,hi,hv,rfl⟩:=(I.owO _ _).mp h3
   have:=one (k:=0) hi hv e
   subst this
   refine ⟨i,z,hi,?_,rfl⟩
   rw [Bool.or_eq_true]
   exact .inl ((nO (I.rep z (List.mem_of_getElem? hi)) hs).mpr ⟨pH q,s,u,hv,h2,by rw [aAx];exact hc,h1⟩)
 ·rintro ⟨i,z,hi,hst,rfl⟩
  have hz:=I.rep z (List.mem_of_getElem? hi)
  rw [Bool.or_eq_true] at hst
  rcases hst with hst|hst
  ·obtain ⟨q,v,u,hv,h1,hu,h2⟩:=(nO hz hs).mp hst
   refine ⟨(pB q,u),hu,List.mem_append_right _ (Gc.mpr ⟨h2,⟨v,?_,h1⟩,?_⟩)⟩
   ·rw [Xi];exact (I.sgO _ _).mpr ⟨i,z,hi,hv⟩
   ·rw [Xi];exact (I.owO _ _).mpr ⟨i,z,v,hi,hv,rfl⟩
  ·obtain ⟨q,v,u,hv,h1,hu,h2⟩:=(nO hs hz).mp hst
   refine ⟨(q,v),hv,List.mem_append_left _ (Er.mpr ⟨h1,⟨u,?_,h2⟩,?_⟩)⟩
   ·exact (I.sgO _ _).mpr ⟨i,z,hi,hu⟩
   ·exact (I.owO _ _).mpr ⟨i,z,u,hi,hu,rfl⟩
theorem Gf {cl:CL} {q:Pl} {k j:Int}:bE (cl.map fun c=>(c.1,j)) q=some k↔k=j/\∃ v,(q,v)∈cl:=by
 constructor
 ·intro h
  obtain ⟨c,hc,e⟩:=List.mem_map.mp (qI h)
  obtain ⟨e1,e2⟩:=Prod.mk.inj e
  exact ⟨e2.symm,c.2,by rw [<-e1];exact hc⟩
 ·rintro ⟨rfl,v,hv⟩
  have hs:(bE (cl.map fun c=>(c.1,k)) q).isSome=true:=dM.mpr ⟨(q,k),List.mem_map.mpr ⟨_,hv,rfl⟩,rfl⟩
  obtain ⟨u,e⟩:=Option.isSome_iff_exists.mp hs
  obtain ⟨c,hc,e2⟩:=List.mem_map.mp (qI e)
  rw [e,<-(Prod.mk.inj e2).2]
theorem aQ.next {zs:List (Br.Shape×CL)} {sg ow cl:CL} {sh:Br.Shape} (I:aQ zs sg ow) (hs:xZ sh cl) (h0:gA ow cl=[]):aQ (zs++[(sh,cl)]) (sg++cl) (ow++cl.map fun c=>(c.1,(zs.length:Int))):=by
 have fr:∀ q v,(q,v)∈cl->bE ow q=none:=by
  intro q v hv
  cases e:bE ow q with
  |none=>rfl
  |some k=>
   have:k∈gA ow cl:=List.mem_filterMap.mpr ⟨_,hv,e⟩
   rw [h0] at this
   cases this
 have fr2:∀ q v,(q,v)∈cl->bE sg q=none:=by
  intro q v hv
  cases e:bE sg q with
  |none=>rfl
  |some k=>
   obtain ⟨i,z,hi,hz⟩:=(I.sgO _ _).mp e
   have:=(I.owO q i).mpr ⟨i,z,k,hi,hz,rfl⟩
   rw [fr q v hv] at this
   cases this
 have ix:∀ (i:Nat) (z:Br.Shape×CL),(zs++[(sh,cl)])[i]?=some z↔zs[i]?=some z\/(i=zs.length/\z=(sh,cl)):=by
  intro i z
  by_cases hi:i<zs.length
  ·rw [List.getElem?_append_left hi]
   exact ⟨fun h=>.inl h,fun h=>h.elim id fun h=>by omega⟩
  ·rw [List.getElem?_append_right (by omega)]
   constructor
   ·intro h
    have hl:=(List.getElem?_eq_some_iff.mp h).1
    rw [List.length_singleton] at hl
    have:i=zs.length:=by omega
    subst this
    rw [Nat.sub_self] at h
    exact .inr ⟨rfl,(Option.some.inj h).symm⟩
   ·rintro (h|⟨rfl,rfl⟩)
    ·exact absurd (List.getElem?_eq_some_iff.mp h).1 hi
    ·rw [Nat.sub_self];rfl
 refine ⟨fun z hz=>?_,fun q v=>?_,fun q k=>?_⟩
 ·rcases List.mem_append.mp hz with hz|hz
  ·exact I.rep z hz
  ·rw [List.mem_singleton] at hz;subst hz;exact hs
 ·rw [wG]
  constructor
  ·intro h
   cases e:bE sg q with
   |some u=>
    rw [e] at h
    have:u=v:=Option.some.inj h
    subst this
    obtain ⟨i,z,hi,hz⟩:=(I.sgO _ _).mp e
    exact ⟨i,z,(ix _ _).mpr (.inl hi),hz⟩
   |none=>
    rw [e] at h
    exact ⟨_,_,(ix _ _).mpr (.inr ⟨rfl,rfl⟩),qI h⟩
  ·rintro ⟨i,z,hi,hz⟩
   rcases (ix _ _).mp hi with hi|⟨rfl,rfl⟩
   ·rw [(I.sgO q v).mpr ⟨i,z,hi,hz⟩];rfl
   ·rw [fr2 q v hz,(Vm hs.nd).mpr hz];rfl
 ·rw [wG]
  constructor
  ·intro h
   cases e:bE ow q with
   |some u=>
    rw [e] at h
    have:u=k:=Option.some.inj h
    subst this
    obtain ⟨i,z,v,hi,hz,e2⟩:=(I.owO _ _).mp e
    exact ⟨i,z,v,(ix _ _).mpr (.inl hi),hz,e2⟩
   |none=>
    rw [e] at h
    obtain ⟨rfl,v,hv⟩:=Gf.mp h
    exact ⟨_,_,v,(ix _ _).mpr (.inr ⟨rfl,rfl⟩),hv,rfl⟩
  ·rintro ⟨i,z,v,hi,hz,rfl⟩
   rcases (ix _ _).mp hi with hi|⟨rfl,rfl⟩
   ·rw [(I.owO q i).mpr ⟨i,z,v,hi,hz,rfl⟩];rfl
   ·rw [fr q v hz,Gf.mpr ⟨rfl,v,hz⟩];rfl
def wrI (w:Option (Nat×Nat×Nat)):List Int:=w.elim [] fun w=>[(w.1:Int),(w.2.1:Int),(w.2.2:Int)]
theorem pX {prs:List aM} (ok:∀ pr∈prs,dN pr) {x:List Nat} (hx:dZ x 0<prs.length):xZ (Br.Line.shape (prs.map cI) (fP x)) (dA prs x)/\(Br.Line.shape (prs.map cI) (fP x)).inRoom= !jJ (rM prs x) (dZ x 2) (dZ x 3) (dZ x 4):=by
 have e1:prs[dZ x 0]?=some prs[dZ x 0]:=List.getElem?_eq_getElem hx
 have e2:Br.Line.of (prs.map cI) (fP x)=(cI prs[dZ x 0]).turned (dZ x 5):=by
  unfold Br.Line.of
  show ((prs.map cI).getD (dZ x 0) Br.nothing).turned (dZ x 5)=_
  rw [List.getD_eq_getElem?_getD,List.getElem?_map,e1]
  rfl
 have r0:=sA (Qy (ok _ (List.getElem_mem hx))) (dZ x 5)
 have et:rM prs x=gK (wE prs[dZ x 0]) (dZ x 5):=by
  unfold rM
  rw [e1]
  rfl
 constructor
 ·unfold Br.Line.shape dA
  rw [e2,et]
  exact Wj r0 (dZ x 2) (dZ x 3) (dZ x 4) _ _ fun s=>rfl
 ·unfold Br.Line.shape
  rw [e2,et]
  unfold jJ
  rw [r0.w,r0.d,r0.h]
  show (decide (dZ x 2+((cI prs[dZ x 0]).turned (dZ x 5)).wide<=64) && (decide (dZ x 3+((cI prs[dZ x 0]).turned (dZ x 5)).deep<=64) && decide (dZ x 4+((cI prs[dZ x 0]).turned (dZ x 5)).high<=96)))=_
  rw [Bool.eq_iff_iff]
  simp only [Bool.and_eq_true,decide_eq_true_iff,Bool.not_eq_true',Bool.or_eq_false_iff,decide_eq_false_iff_not]
  omega
theorem xT {prs:List aM} (ok:∀ pr∈prs,dN pr):∀ {ls:List (List Nat)} {zs:List (Br.Shape×CL)} {sg ow:CL},(∀ x∈ls,dZ x 0<prs.length)->aQ zs sg ow->
  cM prs zs.length sg ow ls=wrI (Br.wrongLines zs.length (zs.map (·.1)) (ls.map fun x=>Br.Line.shape (prs.map cI) (fP x)))
 |[],zs,sg,ow,_,_=>rfl
 |x::r,zs,sg,ow,hx,I=>by
  obtain ⟨sr,hroom⟩:=pX ok (hx x List.mem_cons_self)
  rw [cM,List.map_cons,Br.wrongLines]
  generalize Br.Line.shape (prs.map cI) (fP x)=sh at sr hroom
  have im:=Kr (f:=fun i=>Br.clash i sh) (fun k=>Up I sr k)
  have ib:=Kr (f:=fun i=>Br.stuck i sh||Br.stuck sh i) (fun k=>Vp I sr k)
  cases hl:jJ (rM prs x) (dZ x 2) (dZ x 3) (dZ x 4) with
  |true=>
   rw [hl] at hroom
   rw [if_pos rfl]
   have:Br.wrongLine (zs.map (·.1)) zs.length sh=some (1,zs.length):=by
    unfold Br.wrongLine
    rw [if_pos (show sh.inRoom=false from hroom)]
   rw [this]
   rfl
  |false=>
   rw [hl] at hroom
   rw [if_neg (by decide)]
   have hroom:¬sh.inRoom=false:=by rw [hroom];decide
   by_cases h1:gA ow (dA prs x)=[]
   ·rw [if_neg (by rw [h1];decide)]
    have f1:=im.1 h1
    by_cases h2:cU (dA prs x) sg ow=[]
    ·rw [if_neg (by rw [h2];decide)]
     have f2:=ib.1 h2
     have hw:Br.wrongLine (zs.map (·.1)) zs.length sh=none:=by
      unfold Br.wrongLine
      rw [if_neg hroom,f1]
      show (match List.findIdx? _ _ with|some i=>some (3,i)|none=>none)=none
      rw [f2]
     rw [hw]
     have ih:=xT ok (ls:=r) (zs:=zs++[(sh,dA prs x)]) (fun y hy=>hx y (List.mem_cons_of_mem _ hy)) (I.next sr h1)
     rw [List.length_append,List.length_singleton,List.map_append] at ih
     exact ih
    ·rw [if_pos (List.length_pos_iff.mpr h2)]
     obtain ⟨i,f2,e⟩:=ib.2 h2
     have hw:Br.wrongLine (zs.map (·.1)) zs.length sh=some (3,i):=by
      unfold Br.wrongLine
      rw [if_neg hroom,f1]
      show (match List.findIdx? _ _ with|some i=>some (3,i)|none=>none)=some (3,i)
      rw [f2]
     rw [hw,e]
     rfl
   ·rw [if_pos (List.length_pos_iff.mpr h1)]
    obtain ⟨i,f1,e⟩:=im.2 h1
    have hw:Br.wrongLine (zs.map (·.1)) zs.length sh=some (2,i):=by
     unfold Br.wrongLine
     rw [if_neg hroom,f1]
    rw [hw,e]
    rfl
theorem rR {prs:List aM} (ok:∀ pr∈prs,dN pr) {ls:List (List Nat)} (hx:∀ x∈ls,dZ x 0<prs.length) {d:Br.Build} (hd:d.lines=ls.map fP):cM prs 0 [] [] ls=wrI (d.wrong (prs.map cI)):=by
 have I0:aQ [] [] []:=⟨fun z hz=>absurd hz List.not_mem_nil,fun q v=>(by simp [bE]),fun q k=>(by simp [bE])⟩
 have:=xT ok (ls:=ls) hx I0
 unfold Br.Build.wrong Br.Build.shapes
 rw [hd,List.map_map]
 exact this
def Ch (n:Nat) (x:List Nat):Prop:=x.length=6/\dZ x 0<n
theorem Ss {nss:List (List Int)} {l:List Int} {p:Nat} {q:List Nat×Nat} (h:eB nss l p=.ok q):Ch nss.length q.1:=by
 unfold eB at h
 obtain ⟨p1,_,h⟩:=aK h
 obtain ⟨n,en,h⟩:=aK h
 obtain ⟨r,er,h⟩:=aK h
 obtain ⟨_,_,h⟩:=aK h
 cases h
 refine ⟨?_,?_⟩
 ·rw [List.length_cons,qW (r:=r) er]
  rfl
 ·show n.1<nss.length
  unfold rH at en
  split at en
  ·rename_i hm
   cases en
   exact List.findIdx_lt_length_of_exists ⟨_,hm,by simp⟩
  ·cases en
theorem zO {nss:List (List Int)} {l:List Int}:∀ {n p:Nat} {q:List (List Nat)×Nat},cE nss l n p=.ok q->∀ x∈q.1,Ch nss.length x
 |0,p,q,h=>by cases h;intro x hx;cases hx
 |n+1,p,q,h=>by
  rw [cE] at h
  split at h
  ·cases h;intro x hx;cases hx
  ·obtain ⟨q1,e1,h⟩:=aK h
   obtain ⟨q2,e2,rfl⟩:=eZ h
   intro x hx
   rcases List.mem_cons.mp hx with rfl|hx
   ·exact Ss e1
   ·exact zO e2 x hx
theorem Nj {nss:List (List Int)} {l:List Int} {b:List Int×List (List Nat)} (h:dH nss l=.ok b):∀ x∈b.2,Ch nss.length x:=by
 unfold dH at h
 obtain ⟨_,_,h⟩:=aK h
 obtain ⟨_,_,h⟩:=aK h
 obtain ⟨_,_,h⟩:=aK h
 obtain ⟨r,er,h⟩:=aK h
 split at h
 ·cases h;exact zO er
 ·cases h
theorem Bx {lc lb:List Int} {prs:List aM} {nm:List Int} {ls:List (List Nat)} (h:dC lc lb=.ok prs nm ls):∀ x∈ls,Ch prs.length x:=by
 unfold dC at h
 split at h
 ·cases h
 ·split at h
  ·cases h
  ·split at h
   ·split at h
    ·cases h
    ·rename_i e
     cases h
     have:=Nj e
     rw [List.length_map] at this
     exact this
   ·cases h
end Br1
namespace Br1
open PySem PySem.Spec PyProof.Rows L2
def xA (f:Pl->Pl) (cs:CL):CL:=cs.map fun c=>(f c.1,c.2)
theorem xJ {cs:CL} {i:Nat} {p:Pl} {s:Int} (nd:(cs.map (·.1)).Nodup) (e:cs[i]?=some (p,s)):∀ c∈cs.take i,c.1≠p:=by
 obtain ⟨hi,e⟩:=List.getElem?_eq_some_iff.mp e
 have hd:cs.drop i=(p,s)::cs.drop (i+1):=by rw [List.drop_eq_getElem_cons hi,e]
 have h2:=nd
 rw [<-List.take_append_drop i cs,hd,List.map_append,List.nodup_append] at h2
 intro c hc
 exact h2.2.2 c.1 (List.mem_map_of_mem hc) p (by simp)
theorem Qo (cl:CL) (q:Pl) (v:Int):aJ cl++[(eN q.1 q.2.1 q.2.2,V.int v)]=aJ (cl++[(q,v)]):=by
 unfold aJ
 rw [List.map_append]
 rfl
theorem Lc {cl:CL} {q:Pl} {v:Int} (h:bE cl q=none):lG (aJ cl) (eN q.1 q.2.1 q.2.2) (V.int v)=aJ (cl++[(q,v)]):=by
 rw [xG _ (by rw [pU,h];rfl),Qo]
theorem yK {cl:CL} {q:Pl} (h:∀ c∈cl,c.1≠q):bE cl q=none:=by
 cases e:bE cl q with
 |none=>rfl
 |some v=>
  obtain ⟨c,hc,e2⟩:=dM.mp (by rw [e];rfl:(bE cl q).isSome=true)
  exact absurd e2 (h c hc)
theorem Kh {f:Pl->Pl} (inj:∀ a b,f a=f b->a=b) {cs:CL} {i:Nat} {p:Pl} {s:Int} (nd:(cs.map (·.1)).Nodup) (e:cs[i]?=some (p,s)):lG (aJ (xA f (cs.take i))) (eN (f p).1 (f p).2.1 (f p).2.2) (V.int s)=aJ (xA f (cs.take (i+1))):=by
 rw [Lc]
 ·rw [List.take_succ,e]
  unfold xA
  rw [List.map_append]
  rfl
 ·refine yK fun c hc z=>?_
  obtain ⟨c0,h0,rfl⟩:=List.mem_map.mp hc
  exact xJ nd e c0 h0 (inj _ _ z)
theorem Em (W:Int) (a b:Pl) (e:fT W a=fT W b):a=b:=by
 obtain ⟨x,y,z⟩:=a
 obtain ⟨u,v,w⟩:=b
 unfold fT at e
 simp only [Prod.mk.injEq] at e ⊢
 omega
theorem Lx (x y z:Int) (p q:Pl) (e:lY x y z p=lY x y z q):p=q:=by
 obtain ⟨a,b,c⟩:=p
 obtain ⟨u,v,w⟩:=q
 unfold lY at e
 simp only [Prod.mk.injEq] at e ⊢
 omega
theorem Tu {f:Pl->Pl} (inj:∀ a b,f a=f b->a=b) {cs:CL} (nd:(cs.map (·.1)).Nodup):((xA f cs).map (·.1)).Nodup:=by
 unfold xA
 rw [List.map_map]
 have:(cs.map ((·.1)∘fun c:Pl×Int=>(f c.1,c.2)))=(cs.map (·.1)).map f:=by rw [List.map_map];rfl
 rw [this]
 exact List.Pairwise.map _ (fun a b h z=>h (inj a b z)) nd
theorem Fz (f:Pl->Pl) (cs:CL):(xA f cs).length=cs.length:=List.length_map _
theorem iB (cs:CL):(aJ cs).length=cs.length:=by unfold aJ;rw [List.length_map]
structure uB (t:TP):Prop where
 nd:(t.cs.map (·.1)).Nodup
 ln:t.cs.length<20000
theorem uB.once {t:TP} (h:uB t):uB (Ks t):=⟨Tu (Em t.W) h.nd,by show (Pg t.W t.cs).length<20000;unfold Pg;rw [List.length_map];exact h.ln⟩
theorem uB.turns {t:TP} (h:uB t):∀ n,uB (gK t n)
 |0=>h
 |n+1=>(uB.turns h n).once
theorem Xp {x:List Nat} (h:x.length=6):∃ a b c d e f,x=[a,b,c,d,e,f]:=by
 match x,h with
 |[a,b,c,d,e,f],_=>exact ⟨a,b,c,d,e,f,rfl⟩
theorem Jw {H H':Hp} {c d:Addr} {u:HO} {od:Obj} (h:H c=some u) (hd:H d=none) {o:HO} (s:SX d (upd (upd H d o) c (.frz od u)) H'):aL H (upd H' c u):=fun b ob e=>by
 have nb:=aD e hd
 by_cases hb:b=c
 ·rw [hb] at e ⊢
  rw [aB,<-e,h]
 ·rw [aC hb]
  exact s b ob (by rw [aC hb,aC nb];exact e) nb
section
variable {P:Program} {w:World} {K:PySem.W.Frag} {mg:Str->Option Value} {base:Heap} {C CR CP CG:Addr}
def Os (CP:Addr) (H:Hp) (b nm:Addr) (g:Int) (t:TP):Prop:=yD CP H b nm t.W t.D t.Hh g t.cs
def Ij (CP:Addr):Sp:=fun vs H Q _=>∃ (b nm:Addr) (g:Int) (t:TP),vs=[.ref b]/\Os CP H b nm g t/\uB t/\∀ (H':Hp) (b':Addr),aL H H'->Os CP H' b' nm g (Ks t)->Q (.ref b') H'
theorem uG:aO ["part","cells","place","sign"] ["part"] (aG Jr):=⟨rfl,rfl,rfl,by decide+kernel,rfl,by decide+kernel,by decide+kernel⟩
theorem Ws {f:Addr} {fd:FuncData} (F:fE K "turned_once" "turned_once" Jr f fd) (T':Oo K CP) (PM:PtM P w K mg base CP):bV P w K mg base bU 3 f fd ["part"] (Ij CP):=by
 obtain ⟨fp,fdp,MP,GP,bP⟩:=PM.ex
 refine F.ok uG (fun vs H Q E h=>?_) (fun cdv A outer s H vs Q E hr h=>?_)
 ·obtain ⟨b,nm,g,t,rfl,_⟩:=h
  rfl
 ·obtain ⟨b,nm,g,⟨W,D,Hh,cs⟩,rfl,⟨dx,c,hb,hc⟩,⟨nd,ln⟩,k⟩:=h
  have hb:H b=some (.ins CP dx (Op nm W D Hh g c)):=hb
  have hc:H c=some (.dT (aJ cs)):=hc
  have ln:cs.length<20000:=ln
  have hr2:=hr.mono (j:=2) (by decide)
  have hu:=lU hr
  refine ⟨_,aF (bI (i:=1) uG.nd rfl (Or.inl rfl) mQ)
   (aF (kW (eQ PassesOwn.never rfl (jZ (aT (pv 0) rfl)) (mP rfl (dG (bH (i:=2) uG.nd rfl (Or.inl rfl)) (dG (bH (i:=3) uG.nd rfl (Or.inl rfl)) jH)))
    (aH (nS hu (pv 1) (eJ (aA (bO aZ (pv 2) aI (fun _ _=>rfl)) (aA (bZ eC (bZ eC (aT (pv 0) rfl) aI) (bO aZ (pv 2) aI (fun _ _=>rfl))) (aA (bO aZ (pv 2) aI (fun _ _=>rfl)) aE)))) (pv 3) rfl))))
   (aH (aU (nN MP GP hr2 (by rfl) PM.mg bP .nil aX (aA (aT (pv 0) rfl) (aA (aT (pv 0) rfl) (aA (aT (pv 0) rfl) (aA (aT (pv 0) rfl) (aA (aT (pv 0) rfl) (aA (pv 1) aE)))))))))),?_⟩
  intro d hd
  have S0:aL H (upd H d (.dT [])):=aL.new hd
  have nbd:b≠d:=aD hb hd
  have ncd:c≠d:=aD hc hd
  have nbc:b≠c:=fun z=>by rw [z,hc] at hb;cases hb
  have hsl:=aY
  refine ⟨c,_,S0 _ _ hc,trivial,fun od=>?_⟩
  have hcL:upd (upd H d (.dT [])) c (.frz od (.dT (aJ cs))) c=some (.frz od (.dT (aJ cs))):=aB
  have hbL:upd (upd H d (.dT [])) c (.frz od (.dT (aJ cs))) b=some (.ins CP dx (Op nm W D Hh g c)):=by rw [aC nbc];exact S0 _ _ hb
  have hdL:upd (upd H d (.dT [])) c (.frz od (.dT (aJ cs))) d=some (.dT []):=by rw [aC (Ne.symm ncd),aB]
  refine ⟨_,rfl,b,CP,dx,_,_,rfl,hbL,T'.cl,T'.n6,rfl,c,od,_,rfl,hcL,?_⟩
  refine iH (fun i σ H'=>∃ v2 v3,σ=[some (.ref b),some (.ref d),v2,v3]/\SX d (upd (upd H d (.dT [])) c (.frz od (.dT (aJ cs)))) H'/\H' d=some (.dT (aJ (xA (fT W) (cs.take i))))) ⟨none,none,rfl,SX.refl _ _,hdL⟩ ?_ ?_ ?_
  ·rintro i σ H1 hi ⟨v2,v3,rfl,S1,_⟩
   exact S1 _ _ hcL ncd
  ·rintro i σ H1 T k v q e ⟨v2,v3,rfl,S1,hd1⟩ hT hq
   obtain ⟨p,sg,e1,rfl,rfl⟩:=jK e
   have ST:=aL.new (o:=.tup [.ref q,.int sg]) hT
   refine ⟨T,_,rfl,cN.of aB,rfl,_,_,rfl,_,_,rfl,rfl,?_⟩
   have hq2:=ST _ _ hq
   have hb2:=ST _ _ (S1 _ _ hbL nbd)
   have hd2:=ST _ _ hd1
   generalize upd H1 T (.tup [.ref q,.int sg])=H2 at ST hq2 hb2 hd2
   refine ⟨_,rfl,_,rfl,_,rfl,q,_,_,_,rfl,rfl,cN.of hq2,rfl,_,rfl,b,CP,dx,_,_,rfl,hb2,T'.cl,T'.n2,rfl,_,_,rfl,rfl,_,rfl,q,_,_,_,rfl,rfl,cN.of hq2,rfl,_,_,rfl,rfl,_,rfl,q,_,_,_,rfl,rfl,cN.of hq2,rfl,(by show 3<=sizeLine;decide),fun t ht=>?_⟩
   have SQ:=aL.new (o:=.tup [.int p.2.1,.int (W - 1 - p.1),.int p.2.2]) ht
   have hi:i<cs.length:=(List.getElem?_eq_some_iff.mp e1).1
   refine ⟨d,_,rfl,yC.t (k:=eN p.2.1 (W - 1 - p.1) p.2.2) (SQ _ _ hd2) aB (by rw [iB,Fz,List.length_take];omega),?_⟩
   refine ⟨_,_,rfl,fun b' o e' n'=>?_,?_⟩
   ·rw [aC n']
    exact SQ _ _ (ST _ _ (S1 _ _ e' n'))
   ·rw [aB]
    exact congrArg (fun z=>some (HO.dT z)) (Kh (Em W) nd e1)
  ·rintro σ H1 ⟨v2,v3,rfl,S1,hd1⟩
   rw [iB,List.take_length] at hd1
   refine ⟨S1 _ _ hcL ncd,?_⟩
   have S2:=Jw hc hd S1
   have hd2:upd H1 c (.dT (aJ cs)) d=some (.dT (aJ (xA (fT W) cs))):=by rw [aC (Ne.symm ncd)];exact hd1
   generalize upd H1 c (.dT (aJ cs))=H2 at S2 hd2
   have hb2:=S2 _ _ hb
   refine ⟨_,rfl,b,CP,dx,_,_,rfl,hb2,T'.cl,T'.n1,rfl,_,rfl,b,CP,dx,_,_,rfl,hb2,T'.cl,T'.n3,rfl,_,rfl,b,CP,dx,_,_,rfl,hb2,T'.cl,T'.n2,rfl,_,rfl,b,CP,dx,_,_,rfl,hb2,T'.cl,T'.n4,rfl,_,rfl,b,CP,dx,_,_,rfl,hb2,T'.cl,T'.n5,rfl,_,rfl,?_⟩
   intro b' db hb' hdb hne
   refine ⟨b',db,nm,d,D,W,Hh,g,rfl,aB,fun H3 hpt s3=>⟨rfl,?_⟩⟩
   have up2:∀ y o,H2 y=some o->H3 y=some o:=fun y o e=>s3 y o (by rw [aC (aD e hb'),aC (aD e hdb)];exact e) (aD e hb')
   exact k H3 b' (fun y o e=>up2 y o (S2 y o e)) ⟨db,d,hpt,up2 _ _ hd2⟩
def vT (CP:Addr):Sp:=fun vs H Q _=>∃ (b nm:Addr) (g:Int) (t:TP) (n:Nat),vs=[.ref b,.int (n:Int)]/\n<=100/\Os CP H b nm g t/\uB t/\∀ (H':Hp) (b':Addr),aL H H'->Os CP H' b' nm g (gK t n)->Q (.ref b') H'
theorem sO:aO ["part","turns","turn"] ["part","turns"] (aG uW):=⟨rfl,rfl,rfl,by decide+kernel,rfl,by decide+kernel,by decide+kernel⟩
theorem Nh {f:Addr} {fd:FuncData} (F:fE K "turned_part" "turned_part" uW f fd) (hrange:mg "range"=none) (L1:dL P w K mg base "turned_once" bU 3 ["part"] (Ij CP)):bV P w K mg base bU 4 f fd ["part","turns"] (vT CP):=by
 obtain ⟨g1,gd1,G1,b1,k1,h1⟩:=L1.ex
 refine F.ok sO (fun vs H Q E h=>?_) (fun cdv A outer s H vs Q E hr h=>?_)
 ·obtain ⟨b,nm,g,t,n,rfl,_⟩:=h
  rfl
 ·obtain ⟨b,nm,g,t,n,rfl,hn,ht,tok,k⟩:=h
  refine ⟨_,aF (eQ PassesOwn.never rfl (kO rfl hrange (aA (pv 1) aE)) (bH (i:=2) sO.nd rfl (Or.inl rfl))
    (aH (bI (i:=0) sO.nd rfl (Or.inl rfl) (aP G1 hr (by rfl) h1 k1 b1 .nil aX (aA (pv 0) aE)))))
   (aH (aU (pv 0))),?_⟩
  refine ⟨_,rfl,_,rfl,by omega,by omega,kX (n:=n) (fun i σ H'=>∃ b' v2,σ=[some (.ref b'),some (.int (n:Int)),v2]/\aL H H'/\Os CP H' b' nm g (gK t i)) ⟨b,none,rfl,aL.id' _,ht⟩ ?_ ?_⟩
  ·rintro i σ H1 hi ⟨b',v2,rfl,S1,h1⟩
   exact ⟨_,rfl,b',nm,g,gK t i,rfl,h1,tok.turns i,fun H2 b2 S2 h2=>⟨b2,_,rfl,S1.trans S2,h2⟩⟩
  ·rintro σ H1 ⟨b',v2,rfl,S1,h1⟩
   exact ⟨_,rfl,k H1 b' S1 h1⟩
end
end Br1
namespace L2
open PySem PySem.Spec PyProof.Rows
def tX (D:fZ) (d:Addr) (o:Obj) (u:HO):fZ:=⟨fun σ' H'=>H' d=some (.frz o u)/\D.nx σ' (upd H' d u),fun v H'=>H' d=some (.frz o u)/\D.rt v (upd H' d u),fun σ' H'=>H' d=some (.frz o u)/\D.bk σ' (upd H' d u),fun σ' H'=>H' d=some (.frz o u)/\D.ct σ' (upd H' d u)⟩
def aAw (td:TE) (g:TG) (tb:TS):TS:=fun D σ H=>td σ H fun x H1=>∃ d aJ,x=.ref d/\H1 d=some (.dT aJ)/\∀ o,∃ W:Nat->Nat->St->Hp->Prop,(∃ m,W 0 m σ (upd H1 d (.frz o (.dT aJ))))/\∀ i m σ H,W i m σ H->
 ((Gw d o aJ).stop i H/\(tX D d o (.dT aJ)).nx σ H)\/((Gw d o aJ).go i H/\∃ N:St->Hp->Prop,(∀ σ' H',N σ' H'->∃ m',m'<m/\W (i+1) m' σ' H')/\∀ x H',(Gw d o aJ).yld i H x H'->g x σ H' fun σ2 H2=>tb {tX D d o (.dT aJ) with nx:=N,ct:=N,bk:=(tX D d o (.dT aJ)).nx} σ2 H2)
def aBt (X:Cx) (D:fZ) (σ:St) (g:TG) (tb:TS):It->Hp->Prop:=fun J H'=>∃ d aJ o,J=Gw d o aJ/\(∀ o' u',X.H_0 d≠some (.frz o' u'))/\
   ∃ W:Nat->Nat->St->Hp->Prop,(∃ m,W 0 m σ H')/\∀ i m σ H,W i m σ H->((Gw d o aJ).stop i H/\(tX D d o (.dT aJ)).nx σ H)\/((Gw d o aJ).go i H/\∃ N:St->Hp->Prop,(∀ σ' H',N σ' H'->∃ m',m'<m/\W (i+1) m' σ' H')/\∀ x H',(Gw d o aJ).yld i H x H'->g x σ H' fun σ2 H2=>tb {tX D d o (.dT aJ) with nx:=N,ct:=N,bk:=(tX D d o (.dT aJ)).nx} σ2 H2)
theorem Uf {X:Cx} {e:Expr} {td:TE} {apos cpos:Pos} {elts:List Expr} {kk:Nat} {tpos pos:Pos} {body:List Stmt} {g:TG} {tb:TS} (hp:PassesOwn (model X.prog X.w) X.A X.env X.xe) (hc:X.calm=true) (he:PE X e td) (hg:PG X (.Tuple elts kk tpos) g) (hb:Ap X body tb)
  (hbase:attributeBase e "items" X.env (eval e X.env)=eval e X.env:=by rfl) (hline:(apos.endLine==cpos.line)=true:=by rfl) (hs:∀ x,foldedSetIterable (.Call (.Attribute e "items" apos) [] [] cpos) X.env x=pure x:=by intro _;rfl):
  PS X (.For (.Tuple elts kk tpos) (.Call (.Attribute e "items" apos) [] [] cpos) body [] pos) (aAw td g tb):=by
 intro pins s σ H D I h
 have hi:wpAny (model X.prog X.w) X.A (eval (.Call (.Attribute e "items" apos) [] [] cpos) X.env) (fun v s1=>wpAny (model X.prog X.w) X.A (pyIter v) (PIE X pins σ (.Tuple elts kk tpos) (aBt X D σ g tb)) X.xe s1) X.xe s:=by
  refine wpAny_Call_method (T:="dict") (id:="dict.items") hbase rfl hline F.plainAttrs_dict F.slot_dict_items F.type_dict_items (cV (he pins s σ H _ I h) fun u s1 ⟨x,H0,I0,rx,d,aJ,ex,hd0,q⟩=>?_)
  subst ex
  obtain rfl:u=Value.ref d:=rx
  have hn:=I0.nofrz hd0 trivial
  obtain ⟨o,I1⟩:=I0.lock hd0 trivial
  have hd:upd H0 d (.frz o (.dT aJ)) d=some (.frz o (.dT aJ)):=aB
  obtain ⟨hs,hgd,hx,es,ep,hdt,hsz,ent⟩:=I1.frzT2 hd
  have hty:s1.TypeIs (.ref d) "dict":=⟨o,hgd,hx.1⟩
  refine ⟨hty,fun b q=>by cases q;exact ⟨o,hgd,hx.2.1⟩,?_⟩
  have I2:aQ X pins σ (upd H0 d (.frz o (.dT aJ))) {s1 with heap:=s1.heap.push {cls:=.type "dict_items",data:=.fields #[.ref d]}}:=I1.kept (t':=s1.toks) fun b ob q=>Heap.get?_push_of_some _ q
  have fin:wpAny (model X.prog X.w) X.A (pyIter (.ref s1.heap.objs.size)) (PIE X pins σ (.Tuple elts kk tpos) (aBt X D σ g tb)) X.xe {s1 with heap:=s1.heap.push {cls:=.type "dict_items",data:=.fields #[.ref d]}}:=
   Dc (d:=d) (n:=aJ.length) ⟨_,Heap.get?_push_size _ rfl,rfl,rfl⟩ (Heap.get?_push_of_some _ hgd) hdt hsz (rK (tk:=s1.toks) I2 _ (tE _ hdt) ⟨.none,.none,Heap.get?_push_size _ rfl⟩ ⟨d,aJ,o,rfl,hn,q o⟩)
  show wpAny _ _ (callWith cpos (.builtin "dict.items") [.ref d] [] []) _ X.xe s1
  exact method_meetsIn F.slot_dict_items F.entry_dict_items rfl (PySem.evalArgs_none ⟨rfl,hty,F.args_dict_items_1 _,_,Ah hs,hty,fin⟩)
 refine wpAny_For (cV hi fun v s1 h1=>cV h1 fun itv s2 h2=>?_) hs
 obtain ⟨it,fp,tn,J,H2,e,I2,T,st2,f2,d,aJ,o,rfl,hn,W,⟨m0,w0⟩,turn⟩:=h2
 subst e
 have stat:∀ {H':Hp},(∀ b∈fp,H' b=none)->∀ b∈fp,tY X pins H' b:=fun hn b hb=>⟨hn b hb,(f2 b hb).2⟩
 refine codeAny_forLoop_any (fun n s'=>∃ i σ' H',aQ X pins σ' H' s'/\tn i s'.heap/\(∀ b∈fp,H' b=none)/\W i n σ' H') ?_ m0 ⟨0,σ,H2,I2,st2,fun b hb=>(f2 b hb).1,w0⟩
 rintro n s3 ⟨i,σ3,H3,I3,st3,fr3,w3⟩
 rcases turn i n σ3 H3 w3 with ⟨stop,qn⟩|⟨go,N,hN,step⟩
 ·refine wpAny_passesOwn hp (cV (T.done X rfl rfl rfl hc i pins s3 σ3 H3 X.xe I3 (stat fr3) st3 stop) fun r s4 ⟨hr,I4⟩=>?_)
  subst hr
  exact wpAny_execs_nil ⟨σ3,_,I4.unlock qn.1 hn,qn.2⟩
 ·refine wpAny_passesOwn hp (cV (T.item X rfl rfl rfl hc i pins s3 σ3 H3 X.xe I3 (stat fr3) st3 go) fun r s4 ⟨u,hr,h4⟩=>?_)
  subst hr
  refine wpAny_passesOwn hp (cV h4 fun _ s5 ⟨x,H5,I5,r5,y5,st5,fr5⟩=>?_)
  have I5':=I5.pinned (stat fr5) (T.obj _ _ st5)
  refine wpAny_passesOwn hp (cV (hg _ s5 σ3 H5 x u _ I5' r5 (step x H5 y5)) fun _ s6 ⟨σ6,H6,I6,q6⟩=>?_)
  refine wpAny_passesOwn hp (cV (hb _ s6 σ6 H6 _ I6 q6) fun f s7 q7=>?_)
  have again:∀ {σ7:St} {H7:Hp},aQ X (pins++sF fp s5.heap) σ7 H7 s7->N σ7 H7->∃ m,m<n/\∃ i σ' H',aQ X pins σ' H' s7/\tn i s7.heap/\(∀ b∈fp,H' b=none)/\W i m σ' H':=fun {σ7 H7} I7 n7=>by
   obtain ⟨m',hm,w7⟩:=hN σ7 H7 n7
   refine ⟨m',hm,i+1,σ7,H7,I7.unpinned,T.keep _ _ _ st5 fun b hb o e=>(I7.pin (b,o) (List.mem_append_right _ (List.mem_append_right _ (iQ hb e)))).1,fun b hb=>?_,w7⟩
   obtain ⟨o,e,d⟩:=T.obj _ _ st5 b hb
   exact (I7.pin (b,o) (List.mem_append_right _ (List.mem_append_right _ (iQ hb e)))).2.1
  cases f with
  |next=>obtain ⟨σ7,H7,I7,n7⟩:=q7;exact again I7 n7
  |cont=>obtain ⟨σ7,H7,I7,n7⟩:=q7;exact again I7 n7
  |brk=>obtain ⟨σ7,H7,I7,q7⟩:=q7;exact ⟨σ7,_,I7.unpinned.unlock q7.1 hn,q7.2⟩
  |ret v=>obtain ⟨x7,σ7,H7,I7,r7,q7⟩:=q7;exact ⟨x7,σ7,_,I7.unpinned.unlock q7.1 hn,r7,q7.2⟩
end L2
namespace Br1
section
open Classical
end
theorem Kw {p:Br.Part} (ok:Xa p) (f:Br.Place->Bool):(p.such f).Nodup:=by
 unfold Br.Part.such
 have sl:List.Sublist (((p.spots.zip p.places).filter fun (s:jP×Br.Place)=>f s.2).map fun (s:jP×Br.Place)=>s.1) ((p.spots.zip p.places).map Prod.fst):=List.Sublist.map _ List.filter_sublist
 refine sl.nodup ?_
 rw [List.map_fst_zip (by rw [qX ok.w ok.d,List.length_map,List.length_range,ok.l];exact Nat.le_refl _),qX ok.w ok.d]
 refine List.Pairwise.map _ ?_ List.nodup_range
 intro a b h z
 have e1:=lD (w:=p.wide) (d:=p.deep) (i:=a) rfl
 have e2:=lD (w:=p.wide) (d:=p.deep) (i:=b) (x:=(fH p.wide p.deep a).1) (y:=(fH p.wide p.deep a).2.1) (z:=(fH p.wide p.deep a).2.2) z.symm
 exact h (e1.trans e2.symm)
structure SNd (sh:Br.Shape):Prop where
 c:sh.cells.Nodup
 s:sh.studs.Nodup
theorem Zd {p:Br.Part} (ok:Xa p) (l:Br.Line) (im:Bool):SNd ⟨(l.x,l.y,l.z),(p.wide,p.deep,p.high),im,p.cells.map l.put,p.studs.map l.put,p.tubes.map l.put⟩:=by
 have inj:∀ a b:jP,l.put a=l.put b->a=b:=by
  rintro ⟨a,b,c⟩ ⟨u,v,w⟩ e
  unfold Br.Line.put at e
  simp only [Prod.mk.injEq] at e ⊢
  omega
 exact ⟨List.Pairwise.map _ (fun a b h z=>h (inj a b z)) (Kw ok _),List.Pairwise.map _ (fun a b h z=>h (inj a b z)) (Kw ok _)⟩
abbrev ZS:=List (Br.Shape×CL)
def Xs (zs:ZS):CL:=zs.flatMap (·.2)
def Bz:Nat->List CL->CL
 |_,[]=>[]
 |j,c::r=>(c.map fun x=>(x.1,(j:Int)))++Bz (j+1) r
def Vh (zs:ZS):CL:=Bz 0 (zs.map (·.2))
theorem Kd:∀ (j:Nat) (a b:List CL),Bz j (a++b)=Bz j a++Bz (j+a.length) b
 |j,[],b=>rfl
 |j,c::r,b=>by
  show _++Bz (j+1) (r++b)=(_++Bz (j+1) r)++Bz (j+(r.length+1)) b
  rw [Kd (j+1) r b,List.append_assoc,show j+1+r.length=j+(r.length+1) by omega]
theorem wO (zs:ZS) (z:Br.Shape×CL):Vh (zs++[z])=Vh zs++z.2.map fun c=>(c.1,(zs.length:Int)):=by
 unfold Vh
 rw [List.map_append,Kd,List.length_map,Nat.zero_add]
 show _++(_++[])=_
 rw [List.append_nil]
theorem wM (zs:ZS) (z:Br.Shape×CL):Xs (zs++[z])=Xs zs++z.2:=by
 unfold Xs
 rw [List.flatMap_append]
 simp
structure Iy (zs:ZS):Prop where
 inv:aQ zs (Xs zs) (Vh zs)
 snd:∀ z∈zs,SNd z.1
def wL (prs:List aM) (ls:List (List Nat)):ZS:=ls.map fun x=>(Br.Line.shape (prs.map cI) (fP x),dA prs x)
theorem Th {prs:List aM} (ok:∀ pr∈prs,dN pr) {x:List Nat} (hx:dZ x 0<prs.length):SNd (Br.Line.shape (prs.map cI) (fP x)):=by
 have e1:prs[dZ x 0]?=some prs[dZ x 0]:=List.getElem?_eq_getElem hx
 have e2:Br.Line.of (prs.map cI) (fP x)=(cI prs[dZ x 0]).turned (dZ x 5):=by
  unfold Br.Line.of
  show ((prs.map cI).getD (dZ x 0) Br.nothing).turned (dZ x 5)=_
  rw [List.getD_eq_getElem?_getD,List.getElem?_map,e1]
  rfl
 have r0:=sA (Qy (ok _ (List.getElem_mem hx))) (dZ x 5)
 unfold Br.Line.shape
 rw [e2]
 exact Zd r0.sh _ _
theorem tO {prs:List aM} (ok:∀ pr∈prs,dN pr):∀ {ls:List (List Nat)} {zs:ZS},(∀ x∈ls,dZ x 0<prs.length)->Iy zs->cM prs zs.length (Xs zs) (Vh zs) ls=[]->Iy (zs++wL prs ls)
 |[],zs,_,R,_=>by
  show Iy (zs++[])
  rw [List.append_nil]
  exact R
 |x::r,zs,hx,R,h=>by
  obtain ⟨sr,_⟩:=pX ok (hx x List.mem_cons_self)
  have sn:=Th ok (hx x List.mem_cons_self)
  rw [cM] at h
  split at h
  ·cases h
  ·split at h
   ·cases h
   ·rename_i h1
    split at h
    ·cases h
    ·have h0:gA (Vh zs) (dA prs x)=[]:=List.eq_nil_of_length_eq_zero (by omega)
     have R2:Iy (zs++[(Br.Line.shape (prs.map cI) (fP x),dA prs x)]):=by
      refine ⟨?_,fun z hz=>?_⟩
      ·rw [wM,wO]
       exact R.inv.next sr h0
      ·rcases List.mem_append.mp hz with hz|hz
       ·exact R.snd z hz
       ·rw [List.mem_singleton] at hz
        subst hz
        exact sn
     have:=tO ok (ls:=r) (zs:=zs++[(Br.Line.shape (prs.map cI) (fP x),dA prs x)]) (fun y hy=>hx y (List.mem_cons_of_mem _ hy)) R2 (by rw [wM,wO,List.length_append,List.length_singleton];exact h)
     rw [List.append_assoc] at this
     exact this
theorem Ik {prs:List aM} (ok:∀ pr∈prs,dN pr) {ls:List (List Nat)} (hx:∀ x∈ls,dZ x 0<prs.length) (h:cM prs 0 [] [] ls=[]):Iy (wL prs ls):=by
 have I0:Iy []:=⟨⟨fun z hz=>absurd hz List.not_mem_nil,fun q v=>(by simp [bE,Xs]),fun q k=>(by simp [bE,Vh,Bz])⟩,fun z hz=>absurd hz List.not_mem_nil⟩
 exact tO ok hx I0 h
def xY (x:List Nat):List Int:=x.map fun (n:Nat)=>(n:Int)
def sX (y:List Int):List Nat:=y.map Int.toNat
def iN (y:List Int) (k:Nat):Int:=y.getD k 0
def tsz (prs:List aM) (p r:Nat):Int×Int×Int:=match prs[p]? with
 |some pr=>if r % 2=1 then ((pr.d:Int),(pr.w:Int),(pr.h:Int)) else ((pr.w:Int),(pr.d:Int),(pr.h:Int))
 |none=>(0,0,0)
def Eh (x y z:Int):Bool:= !(decide (0<=x) && decide (x<64) && (decide (0<=y) && decide (y<64)) && (decide (0<=z) && decide (z<96)))
def nV (prs:List aM) (p r:Nat) (x y z:Int):Bool:=Eh x y z||Eh (x+(tsz prs p r).1 - 1) (y+(tsz prs p r).2.1 - 1) (z+(tsz prs p r).2.2 - 1)
theorem Ag (p:Br.Part):∀ r:Nat,(p.turned r).high=p.high/\(p.turned r).wide=(if r % 2=1 then p.deep else p.wide)/\(p.turned r).deep=(if r % 2=1 then p.wide else p.deep)
 |0=>⟨rfl,rfl,rfl⟩
 |r+1=>by
  obtain ⟨h1,h2,h3⟩:=Ag p r
  show (p.turned r).high=_/\(p.turned r).deep=_/\(p.turned r).wide=_
  rw [h1,h2,h3]
  by_cases h:r % 2=1
  ·rw [if_pos h,if_pos h,if_neg (show ¬(r+1) % 2=1 by omega),if_neg (show ¬(r+1) % 2=1 by omega)]
   exact ⟨rfl,rfl,rfl⟩
  ·rw [if_neg h,if_neg h,if_pos (show (r+1) % 2=1 by omega),if_pos (show (r+1) % 2=1 by omega)]
   exact ⟨rfl,rfl,rfl⟩
theorem Xe {prs:List aM} {l:Br.Line} (h:l.part<prs.length):(((l.of (prs.map cI)).wide:Int),((l.of (prs.map cI)).deep:Int),((l.of (prs.map cI)).high:Int))=tsz prs l.part l.r:=by
 have e1:prs[l.part]?=some prs[l.part]:=List.getElem?_eq_getElem h
 have e2:l.of (prs.map cI)=(cI prs[l.part]).turned l.r:=by
  unfold Br.Line.of
  rw [List.getD_eq_getElem?_getD,List.getElem?_map,e1]
  rfl
 obtain ⟨h1,h2,h3⟩:=Ag (cI prs[l.part]) l.r
 rw [e2,h1,h2,h3]
 unfold tsz
 rw [e1]
 by_cases hr:l.r % 2=1
 ·rw [if_pos hr,if_pos hr]
  show _=if l.r % 2=1 then _ else _
  rw [if_pos hr]
  rfl
 ·rw [if_neg hr,if_neg hr]
  show _=if l.r % 2=1 then _ else _
  rw [if_neg hr]
  rfl
theorem Av {prs:List aM} (ok:∀ pr∈prs,dN pr) {p r:Nat} (h:p<prs.length):1<=(tsz prs p r).1/\1<=(tsz prs p r).2.1/\1<=(tsz prs p r).2.2:=by
 have e1:prs[p]?=some prs[p]:=List.getElem?_eq_getElem h
 have o:=ok _ (List.getElem_mem h)
 have h1:=o.w1
 have h2:=o.d1
 have h3:=o.h1
 unfold tsz
 rw [e1]
 show 1<=(if r % 2=1 then _ else _:Int×Int×Int).1/\1<=(if r % 2=1 then _ else _:Int×Int×Int).2.1/\1<=(if r % 2=1 then _ else _:Int×Int×Int).2.2
 split
 ·show 1<=((prs[p].d:Nat):Int)/\1<=((prs[p].w:Nat):Int)/\1<=((prs[p].h:Nat):Int)
  omega
 ·show 1<=((prs[p].w:Nat):Int)/\1<=((prs[p].d:Nat):Int)/\1<=((prs[p].h:Nat):Int)
  omega
theorem Ee {x y z:Int}:Eh x y z=false↔(0<=x/\x<64)/\(0<=y/\y<64)/\0<=z/\z<96:=by
 unfold Eh
 rw [Bool.not_eq_false']
 simp only [Bool.and_eq_true,decide_eq_true_iff,and_assoc]
theorem tR {prs:List aM} (ok:∀ pr∈prs,dN pr) {p r:Nat} (h:p<prs.length) {x y z:Int}:
  nV prs p r x y z=false↔(0<=x/\0<=y/\0<=z/\x+(tsz prs p r).1<=64/\y+(tsz prs p r).2.1<=64/\z+(tsz prs p r).2.2<=96):=by
 have h1:=Av ok (r:=r) h
 unfold nV
 rw [Bool.or_eq_false_iff,Ee,Ee]
 omega
theorem Ae {prs:List aM} (ok:∀ pr∈prs,dN pr) {x:List Nat} (hx:dZ x 0<prs.length):nV prs (dZ x 0) (dZ x 5) (dZ x 2) (dZ x 3) (dZ x 4)=jJ (rM prs x) (dZ x 2) (dZ x 3) (dZ x 4):=by
 have hr:=(pX ok hx).2
 have hs:=Xe (prs:=prs) (l:=fP x) hx
 have hs:((((fP x).of (prs.map cI)).wide:Int),(((fP x).of (prs.map cI)).deep:Int),(((fP x).of (prs.map cI)).high:Int))=tsz prs (dZ x 0) (dZ x 5):=hs
 rw [<-Bool.not_not (jJ _ _ _ _),<-hr,Bool.eq_iff_iff,Bool.not_eq_true',<-Bool.not_eq_false,tR ok hx,<-hs]
 show ¬_↔(decide (dZ x 2+((fP x).of (prs.map cI)).wide<=64) && (decide (dZ x 3+((fP x).of (prs.map cI)).deep<=64) && decide (dZ x 4+((fP x).of (prs.map cI)).high<=96)))=false
 rw [<-Bool.not_eq_true]
 simp only [Bool.and_eq_true,decide_eq_true_iff]
 omega
def Sl (dx dy dz:Int) (y:List Int):List Int:=[iN y 0,iN y 1,iN y 2+dx,iN y 3+dy,iN y 4+dz,iN y 5]
def La (prs:List aM) (y:List Int):Bool:=nV prs (iN y 0).toNat (iN y 5).toNat (iN y 2) (iN y 3) (iN y 4)
def vU (prs:List aM) (y:List Int):List Int:=[iN y 0,iN y 1,iN y 3,63 - (iN y 2+(tsz prs (iN y 0).toNat (iN y 5).toNat).1 - 1),iN y 4,(iN y 5+1) % 4]
structure Ms (prs:List aM) (v:List Int):Prop where
 l:v.length=6
 n:∀ k∈v,0<=k
 p:(iN v 0).toNat<prs.length
 r:iN v 5<4
 x:iN v 2+(tsz prs (iN v 0).toNat (iN v 5).toNat).1<=64
 y:iN v 3+(tsz prs (iN v 0).toNat (iN v 5).toNat).2.1<=64
 z:iN v 4+(tsz prs (iN v 0).toNat (iN v 5).toNat).2.2<=96
theorem sS {y:List Int} (h:y.length=6):∃ a b c d e f,y=[a,b,c,d,e,f]:=by
 match y,h with
 |[a,b,c,d,e,f],_=>exact ⟨a,b,c,d,e,f,rfl⟩
theorem Qs {prs:List aM} {p r s:Nat} (h:s % 2≠r % 2):tsz prs p s=((tsz prs p r).2.1,(tsz prs p r).1,(tsz prs p r).2.2):=by
 unfold tsz
 cases prs[p]? with
 |none=>rfl
 |some pr=>
  show (if s % 2=1 then _ else _:Int×Int×Int)=((if r % 2=1 then _ else _:Int×Int×Int).2.1,(if r % 2=1 then _ else _:Int×Int×Int).1,(if r % 2=1 then _ else _:Int×Int×Int).2.2)
  by_cases hr:r % 2=1
  ·rw [if_pos hr,if_neg (by omega)]
  ·rw [if_neg hr,if_pos (by omega)]
theorem xS {prs:List aM} (ok:∀ pr∈prs,dN pr) {y:List Int} (h:Ms prs y):Ms prs (vU prs y)/\fP (sX (vU prs y))=Br.Line.turn (prs.map cI) (fP (sX y)):=by
 obtain ⟨hl,hn,hp,hr,hx,hy,hz⟩:=h
 obtain ⟨a,b,c,d,e,f,rfl⟩:=sS hl
 have hp:a.toNat<prs.length:=hp
 have hr:f<4:=hr
 have hx:c+(tsz prs a.toNat f.toNat).1<=64:=hx
 have hy:d+(tsz prs a.toNat f.toNat).2.1<=64:=hy
 have hz:e+(tsz prs a.toNat f.toNat).2.2<=96:=hz
 simp only [List.mem_cons,List.not_mem_nil,or_false,forall_eq_or_imp,forall_eq] at hn
 obtain ⟨n1,n2,n3,n4,n5,n6⟩:=hn
 have hs:=Xe (prs:=prs) (l:=fP (sX [a,b,c,d,e,f])) hp
 have hs:((((fP (sX [a,b,c,d,e,f])).of (prs.map cI)).wide:Int),(((fP (sX [a,b,c,d,e,f])).of (prs.map cI)).deep:Int),(((fP (sX [a,b,c,d,e,f])).of (prs.map cI)).high:Int))=tsz prs a.toNat f.toNat:=hs
 have fl:=Qs (prs:=prs) (p:=a.toNat) (r:=f.toNat) (s:=((f+1) % 4).toNat) (by omega)
 have hpos:=Av ok (r:=f.toNat) hp
 have hw:(((fP (sX [a,b,c,d,e,f])).of (prs.map cI)).wide:Int)=(tsz prs a.toNat f.toNat).1:=congrArg Prod.fst hs
 have et:vU prs [a,b,c,d,e,f]=[a,b,d,63 - (c+(tsz prs a.toNat f.toNat).1 - 1),e,(f+1) % 4]:=rfl
 rw [et]
 generalize tsz prs a.toNat f.toNat=T at *
 refine ⟨⟨rfl,?_,hp,?_,?_,?_,?_⟩,?_⟩
 ·simp only [List.mem_cons,List.not_mem_nil,or_false,forall_eq_or_imp,forall_eq]
  omega
 ·show (f+1) % 4<4
  omega
 ·show d+(tsz prs a.toNat ((f+1) % 4).toNat).1<=64
  rw [fl]
  exact hy
 ·show 63 - (c+T.1 - 1)+(tsz prs a.toNat ((f+1) % 4).toNat).2.1<=64
  rw [fl]
  show 63 - (c+T.1 - 1)+T.1<=64
  omega
 ·show e+(tsz prs a.toNat ((f+1) % 4).toNat).2.2<=96
  rw [fl]
  exact hz
 ·unfold Br.Line.turn
  show (⟨a.toNat,b.toNat,d.toNat,(63 - (c+T.1 - 1)).toNat,e.toNat,((f+1) % 4).toNat⟩:Br.Line)=⟨a.toNat,b.toNat,d.toNat,64 - c.toNat - ((fP (sX [a,b,c,d,e,f])).of (prs.map cI)).wide,e.toNat,(f.toNat+1) % 4⟩
  have e1:(63 - (c+T.1 - 1)).toNat=64 - c.toNat - ((fP (sX [a,b,c,d,e,f])).of (prs.map cI)).wide:=by
   generalize ((fP (sX [a,b,c,d,e,f])).of (prs.map cI)).wide=W at hw
   omega
  have e2:((f+1) % 4).toNat=(f.toNat+1) % 4:=by omega
  rw [e1,e2]
def nI (prs:List aM):Nat->List (List Int)->List (List Int)
 |0,ys=>ys
 |n+1,ys=>(nI prs n ys).map (vU prs)
theorem rJ {prs:List aM} (ok:∀ pr∈prs,dN pr) {d:Br.Build} {ys:List (List Int)} (h:∀ y∈ys,Ms prs y) (hd:d.lines=ys.map fun y=>fP (sX y)):∀ n:Nat,(∀ y∈nI prs n ys,Ms prs y)/\(d.turnedOnly (prs.map cI) n).lines=(nI prs n ys).map fun y=>fP (sX y)
 |0=>⟨h,hd⟩
 |n+1=>by
  obtain ⟨h1,h2⟩:=rJ ok h hd n
  refine ⟨fun y hy=>?_,?_⟩
  ·obtain ⟨x,hx,rfl⟩:=List.mem_map.mp hy
   exact (xS ok (h1 x hx)).1
  ·show ((d.turnedOnly (prs.map cI) n).lines).map (Br.Line.turn (prs.map cI))=((nI prs n ys).map (vU prs)).map _
   rw [h2,List.map_map,List.map_map]
   exact List.map_congr_left fun y hy=>(xS ok (h1 y hy)).2.symm
structure mL (p:Br.Part):Prop where
 sh:Xa p
 x0:∃ y z,(p.at_ 0 y z).isCell=true
 x1:∃ y z,(p.at_ (p.wide - 1) y z).isCell=true
 y0:∃ x z,(p.at_ x 0 z).isCell=true
 y1:∃ x z,(p.at_ x (p.deep - 1) z).isCell=true
 z0:∃ x y,(p.at_ x y 0).isCell=true
theorem Qb {p:Br.Part} (sh:Xa p) (h:p.tight=true):mL p:=by
 have cm:∀ s:jP,s∈p.cells↔(p.at_ s.1 s.2.1 s.2.2).isCell=true:=fun s=>nE sh rfl
 unfold Br.Part.tight at h
 simp only [Bool.and_eq_true,List.any_eq_true,beq_iff_eq] at h
 have hw:=sh.w
 have hd:=sh.d
 obtain ⟨⟨s1,m1,e1⟩,⟨s2,m2,e2⟩,⟨s3,m3,e3⟩,⟨s4,m4,e4⟩,⟨s5,m5,e5⟩,_⟩:=h
 refine ⟨sh,⟨s1.2.1,s1.2.2,?_⟩,⟨s2.2.1,s2.2.2,?_⟩,⟨s3.1,s3.2.2,?_⟩,⟨s4.1,s4.2.2,?_⟩,⟨s5.1,s5.2.1,?_⟩⟩
 ·rw [<-e1];exact (cm s1).mp m1
 ·rw [show p.wide - 1=s2.1 by omega];exact (cm s2).mp m2
 ·rw [<-e3];exact (cm s3).mp m3
 ·rw [show p.deep - 1=s4.2.1 by omega];exact (cm s4).mp m4
 ·rw [<-e5];exact (cm s5).mp m5
theorem mL.turn {p:Br.Part} (h:mL p):mL p.turn:=by
 obtain ⟨sh,⟨y1,z1,c1⟩,⟨y2,z2,c2⟩,⟨x3,z3,c3⟩,⟨x4,z4,c4⟩,⟨x5,y5,c5⟩⟩:=h
 have hw:=sh.w
 have hd:=sh.d
 have back:∀ {x y z:Nat},(p.at_ x y z).isCell=true->(p.turn.at_ y (p.wide - 1 - x) z).isCell=true:=by
  intro x y z hc
  have hin:=zZ hc
  rw [Ay sh hin.2.1 (by omega) hin.2.2,show p.wide - 1 - (p.wide - 1 - x)=x by omega]
  exact hc
 refine ⟨⟨sh.d,sh.w,sh.h,Fm⟩,⟨_,_,back c3⟩,⟨_,_,back c4⟩,⟨y2,z2,?_⟩,⟨y1,z1,?_⟩,⟨_,_,back c5⟩⟩
 ·have:=back c2
  rwa [Nat.sub_self] at this
 ·have:=back c1
  exact this
theorem mL.turned {p:Br.Part} (h:mL p):∀ r,mL (p.turned r)
 |0=>h
 |r+1=>(mL.turned h r).turn
theorem lE:∀ {l:List Nat},l≠[]->Br.least l∈l/\∀ x∈l,Br.least l<=x
 |[],h=>absurd rfl h
 |[a],_=>⟨List.mem_cons_self,fun x hx=>by rw [List.mem_singleton] at hx;subst hx;exact Nat.le_refl _⟩
 |a::b::r,_=>by
  obtain ⟨h1,h2⟩:=lE (l:=b::r) (by simp)
  show min a (Br.least (b::r))∈_/\∀ x∈_,min a (Br.least (b::r))<=x
  refine ⟨?_,fun x hx=>?_⟩
  ·rcases Nat.le_total a (Br.least (b::r)) with h|h
   ·rw [Nat.min_eq_left h];exact List.mem_cons_self
   ·rw [Nat.min_eq_right h];exact List.mem_cons_of_mem _ h1
  ·rcases List.mem_cons.mp hx with rfl|hx
   ·exact Nat.min_le_left _ _
   ·exact Nat.le_trans (Nat.min_le_right _ _) (h2 x hx)
theorem Sb {l m:List Nat} (h1:∀ x∈l,∃ y∈m,y<=x) (h2:∀ y∈m,∃ x∈l,x<=y):Br.least l=Br.least m:=by
 by_cases hl:l=[]
 ·subst hl
  have:m=[]:=by
   cases m with
   |nil=>rfl
   |cons a r=>obtain ⟨x,hx,_⟩:=h2 a List.mem_cons_self;cases hx
  rw [this]
 ·have hm:m≠[]:=by
   rintro rfl
   cases l with
   |nil=>exact hl rfl
   |cons a r=>obtain ⟨x,hx,_⟩:=h1 a List.mem_cons_self;cases hx
  obtain ⟨a1,a2⟩:=lE hl
  obtain ⟨b1,b2⟩:=lE hm
  obtain ⟨y,hy,hle⟩:=h1 _ a1
  obtain ⟨x,hx,hle2⟩:=h2 _ b1
  exact Nat.le_antisymm (Nat.le_trans (a2 x hx) hle2) (Nat.le_trans (b2 y hy) hle)
theorem pJ {c:Br.Catalogue} {d:Br.Build} (h:∀ l∈d.lines,mL (l.of c)) (f:Br.Spot->Nat) (g:Br.Line->Nat) (lo:∀ l∈d.lines,∀ s∈l.cells c,g l<=f s) (hi:∀ l∈d.lines,∃ s∈l.cells c,f s=g l):Br.least ((d.cells c).map f)=Br.least (d.lines.map g):=by
 refine Sb (fun x hx=>?_) fun y hy=>?_
 ·obtain ⟨s,hs,rfl⟩:=List.mem_map.mp hx
  obtain ⟨l,hl,hm⟩:=List.mem_flatMap.mp hs
  exact ⟨g l,List.mem_map_of_mem hl,lo l hl s hm⟩
 ·obtain ⟨l,hl,rfl⟩:=List.mem_map.mp hy
  obtain ⟨s,hs,e⟩:=hi l hl
  exact ⟨f s,List.mem_map_of_mem (List.mem_flatMap.mpr ⟨l,hl,hs⟩),Nat.le_of_eq e⟩
theorem Wr {c:Br.Catalogue} {d:Br.Build} (h:∀ l∈d.lines,mL (l.of c)):
  (d.home c).lines=d.lines.map fun (l:Br.Line)=>{l with x:=l.x - Br.least (d.lines.map (·.x)),y:=l.y - Br.least (d.lines.map (·.y)),z:=l.z - Br.least (d.lines.map (·.z))}:=by
 have cm:∀ l∈d.lines,∀ s,s∈l.cells c↔∃ t:jP,((l.of c).at_ t.1 t.2.1 t.2.2).isCell=true/\l.put t=s:=by
  intro l hl s
  unfold Br.Line.cells
  rw [List.mem_map]
  constructor
  ·rintro ⟨t,ht,e⟩;exact ⟨t,(nE (h l hl).sh rfl).mp ht,e⟩
  ·rintro ⟨t,ht,e⟩;exact ⟨t,(nE (h l hl).sh rfl).mpr ht,e⟩
 have ex:=pJ h (fun s=>s.1) (fun l=>l.x) (fun l hl s hs=>by
  obtain ⟨t,_,rfl⟩:=(cm l hl s).mp hs
  exact Nat.le_add_right _ _) (fun l hl=>by
  obtain ⟨y,z,hc⟩:=(h l hl).x0
  exact ⟨_,(cm l hl _).mpr ⟨(0,y,z),hc,rfl⟩,rfl⟩)
 have ey:=pJ h (fun s=>s.2.1) (fun l=>l.y) (fun l hl s hs=>by
  obtain ⟨t,_,rfl⟩:=(cm l hl s).mp hs
  exact Nat.le_add_right _ _) (fun l hl=>by
  obtain ⟨x,z,hc⟩:=(h l hl).y0
  exact ⟨_,(cm l hl _).mpr ⟨(x,0,z),hc,rfl⟩,rfl⟩)
 have ez:=pJ h (fun s=>s.2.2) (fun l=>l.z) (fun l hl s hs=>by
  obtain ⟨t,_,rfl⟩:=(cm l hl s).mp hs
  exact Nat.le_add_right _ _) (fun l hl=>by
  obtain ⟨x,y,hc⟩:=(h l hl).z0
  exact ⟨_,(cm l hl _).mpr ⟨(x,y,0),hc,rfl⟩,rfl⟩)
 unfold Br.Build.home
 dsimp only
 rw [ex,ey,ez]
def yF (n:Nat):List Nat:=(Nat.toDigits 10 n).map Char.toNat
theorem zH:∀ d:Nat,d<10->(Nat.digitChar d).toNat=48+d:=by decide
theorem Bu {n:Nat} (h:n<10):yF n=[48+n]:=by
 unfold yF
 rw [Nat.toDigits_of_lt_base h]
 show [(Nat.digitChar n).toNat]=_
 rw [zH n h]
theorem yS {n:Nat} (h:10<=n):yF n=yF (n / 10)++[48+n % 10]:=by
 have hm:n % 10<10:=Nat.mod_lt n (by decide)
 have t:Nat.toDigits 10 (n / 10)++Nat.toDigits 10 (n % 10)=Nat.toDigits 10 (10 * (n / 10)+n % 10):=Nat.toDigits_append_toDigits (by decide) (by omega) hm
 rw [Nat.div_add_mod] at t
 show (Nat.toDigits 10 n).map Char.toNat=_
 rw [<-t,List.map_append,Nat.toDigits_of_lt_base hm]
 show (Nat.toDigits 10 (n / 10)).map Char.toNat++[(Nat.digitChar (n % 10)).toNat]=_
 rw [zH _ hm]<;>rfl
theorem fO (a b:Br.Bytes):aW (a++b)=aW a++aW b:=List.map_append
theorem Ix {d:Nat} (h:d<10):((UInt8.ofNat (48+d)).toNat:Int)=((48+d:Nat):Int):=by
 rw [UInt8.toNat_ofNat']
 rw [Nat.mod_eq_of_lt (by omega)]
theorem vR:∀ {k n:Nat},n<k->aW (Br.digitsIn k n)=(yF n).map fun (c:Nat)=>(c:Int)
 |0,n,h=>absurd h (Nat.not_lt_zero _)
 |k+1,n,h=>by
  have hm:n % 10<10:=Nat.mod_lt n (by decide)
  show aW ((if n<10 then [] else Br.digitsIn k (n / 10))++[UInt8.ofNat (48+n % 10)])=_
  rw [fO]
  have e:aW [UInt8.ofNat (48+n % 10)]=[((48+n % 10:Nat):Int)]:=by
   show [((UInt8.ofNat (48+n % 10)).toNat:Int)]=_
   rw [Ix hm]
  rw [e]
  by_cases hn:n<10
  ·rw [if_pos hn,Bu hn,Nat.mod_eq_of_lt hn]
   rfl
  ·rw [if_neg hn,vR (k:=k) (n:=n / 10) (by omega),yS (n:=n) (by omega),List.map_append]
   rfl
theorem gS (n:Nat):aW (Br.decimal n)=(yF n).map fun (c:Nat)=>(c:Int):=vR (Nat.lt_succ_self n)
def mT (n:Int):List Int:=(yF n.toNat).map fun (c:Nat)=>(c:Int)
def Rx (nms:List (List Int)) (y:List Int):List Int:=([112,117,116,32]++nms.getD (iN y 0).toNat [])++(y.drop 1).flatMap (fun n=>32::mT n)++[10]
def Ff (nms:List (List Int)) (nm:List Int) (ys:List (List Int)):List Int:=([98,117,105,108,100,32]++nm++[10])++ys.flatMap (Rx nms)
theorem Tr:aW (Br.ascii "put")=[112,117,116]:=by decide+kernel
theorem My:aW (Br.ascii "build")=[98,117,105,108,100]:=by decide+kernel
theorem Np {prs:List aM} (ok:∀ pr∈prs,dN pr) {y:List Int} (hl:y.length=6) (hp:(iN y 0).toNat<prs.length):aW (Br.Line.text (prs.map cI) (fP (sX y)))=Rx (prs.map (·.name)) y:=by
 obtain ⟨a,b,c,d,e,f,rfl⟩:=sS hl
 have hp:a.toNat<prs.length:=hp
 have en:aW (((prs.map cI).getD a.toNat Br.nothing).name)=(prs.map (·.name)).getD a.toNat []:=by
  rw [List.getD_eq_getElem?_getD,List.getElem?_map,List.getD_eq_getElem?_getD,List.getElem?_map,List.getElem?_eq_getElem hp]
  exact nM (ok _ (List.getElem_mem hp))
 unfold Br.Line.text
 show aW (Br.ascii "put"++32::((((prs.map cI).getD a.toNat Br.nothing).name)++32::(Br.decimal b.toNat++32::(Br.decimal c.toNat++32::(Br.decimal d.toNat++32::(Br.decimal e.toNat++32::(Br.decimal f.toNat++[10])))))))=_
 have cons:∀ t:Br.Bytes,aW (32::t)=32::aW t:=fun t=>rfl
 rw [fO,cons,fO,cons,fO,cons,fO,cons,fO,cons,fO,cons,fO,gS,gS,gS,gS,gS,Tr,en]
 unfold Rx
 show _=([112,117,116,32]++(prs.map (·.name)).getD a.toNat [])++(32::mT b++(32::mT c++(32::mT d++(32::mT e++(32::mT f++[])))))++[10]
 unfold mT
 simp only [List.append_assoc,List.cons_append,List.nil_append,List.append_nil]
 rfl
theorem Hg {prs:List aM} (ok:∀ pr∈prs,dN pr) {d:Br.Build} {ys:List (List Int)} (h:∀ y∈ys,y.length=6/\(iN y 0).toNat<prs.length) (hd:d.lines=ys.map fun y=>fP (sX y)) {nm:List Int} (hn:aW d.name=nm):aW (d.text (prs.map cI))=Ff (prs.map (·.name)) nm ys:=by
 unfold Br.Build.text Ff
 rw [fO]
 have e1:aW (Br.line [Br.ascii "build",d.name])=[98,117,105,108,100,32]++nm++[10]:=by
  show aW (Br.ascii "build"++32::(d.name++[10]))=_
  have cons:∀ t:Br.Bytes,aW (32::t)=32::aW t:=fun t=>rfl
  rw [fO,cons,fO,hn,My]
  simp only [List.append_assoc,List.cons_append,List.nil_append]
  rfl
 rw [e1,hd]
 refine congrArg _ ?_
 clear hd e1
 induction ys with
 |nil=>rfl
 |cons y r ih=>
  rw [List.map_cons,List.flatMap_cons,List.flatMap_cons,fO,Np ok (h y List.mem_cons_self).1 (h y List.mem_cons_self).2,ih fun z hz=>h z (List.mem_cons_of_mem _ hz)]
theorem Iq (t:Br.Bytes):BuildsNeutral.shown (.bytes t)=((aW t).length:Int)::aW t:=by
 rw [eY]
 rfl
def pA (ys:List (List Int)):List (List Int):=if ys.length=0 then [] else ys.map (Sl (-(hZ (ys.map fun y=>iN y 2))) (-(hZ (ys.map fun y=>iN y 3))) (-(hZ (ys.map fun y=>iN y 4))))
theorem sK {ys:List (List Int)} (hn:ys≠[]) {k:Nat} (h:∀ y∈ys,0<=iN y k):hZ (ys.map fun y=>iN y k)=(Br.least (ys.map fun y=>(iN y k).toNat):Int)/\∀ y∈ys,hZ (ys.map fun y=>iN y k)<=iN y k:=by
 have h1:(ys.map fun y=>iN y k)≠[]:=by simpa using hn
 have h2:(ys.map fun y=>(iN y k).toNat)≠[]:=by simpa using hn
 obtain ⟨a1,a2⟩:=lE h2
 have b1:=mG h1
 obtain ⟨y,hy,e⟩:=List.mem_map.mp b1
 obtain ⟨z,hz,e2⟩:=List.mem_map.mp a1
 have c1:=a2 _ (List.mem_map_of_mem (f:=fun y=>(iN y k).toNat) hy)
 have c2:=nW (List.mem_map_of_mem (f:=fun y=>iN y k) hz)
 have n1:=h y hy
 have n2:=h z hz
 refine ⟨?_,fun x hx=>nW (List.mem_map_of_mem (f:=fun y=>iN y k) hx)⟩
 have e:iN y k=hZ (ys.map fun y=>iN y k):=e
 have e2:(iN z k).toNat=Br.least (ys.map fun y=>(iN y k).toNat):=e2
 have c1:Br.least (ys.map fun y=>(iN y k).toNat)<=(iN y k).toNat:=c1
 have c2:hZ (ys.map fun y=>iN y k)<=iN z k:=c2
 omega
theorem Ac {prs:List aM} (ok:∀ pr∈prs,dN pr) (tg:∀ pr∈prs,(cI pr).tight=true) {d:Br.Build} {ys:List (List Int)} (h:∀ y∈ys,Ms prs y) (hd:d.lines=ys.map fun y=>fP (sX y)):
  (∀ y∈pA ys,Ms prs y)/\(d.home (prs.map cI)).lines=(pA ys).map fun y=>fP (sX y):=by
 have ht:∀ l∈d.lines,mL (l.of (prs.map cI)):=by
  intro l hl
  rw [hd] at hl
  obtain ⟨y,hy,rfl⟩:=List.mem_map.mp hl
  have hp:=(h y hy).p
  obtain ⟨a,b,c,e,f,g,rfl⟩:=sS (h y hy).l
  have hp:a.toNat<prs.length:=hp
  have e2:Br.Line.of (prs.map cI) (fP (sX [a,b,c,e,f,g]))=(cI prs[a.toNat]).turned g.toNat:=by
   unfold Br.Line.of
   show ((prs.map cI).getD a.toNat Br.nothing).turned g.toNat=_
   rw [List.getD_eq_getElem?_getD,List.getElem?_map,List.getElem?_eq_getElem hp]
   rfl
  rw [e2]
  exact (Qb (Qy (ok _ (List.getElem_mem hp))).sh (tg _ (List.getElem_mem hp))).turned _
 rw [Wr ht,hd,List.map_map,List.map_map,List.map_map,List.map_map]
 unfold pA
 by_cases hn:ys=[]
 ·subst hn
  exact ⟨fun y hy=>(by cases hy),rfl⟩
 ·rw [if_neg (by intro z;exact hn (List.eq_nil_of_length_eq_zero z))]
  have nn:∀ k,k<6->∀ y∈ys,0<=iN y k:=by
   intro k hk y hy
   have hl:=(h y hy).l
   unfold iN
   rw [List.getD_eq_getElem?_getD,List.getElem?_eq_getElem (by omega)]
   exact (h y hy).n _ (List.getElem_mem _)
  obtain ⟨x1,x2⟩:=sK hn (k:=2) (nn 2 (by decide))
  obtain ⟨y1,y2⟩:=sK hn (k:=3) (nn 3 (by decide))
  obtain ⟨z1,z2⟩:=sK hn (k:=4) (nn 4 (by decide))
  have gx:(ys.map ((fun (l:Br.Line)=>l.x)∘fun y=>fP (sX y)))=ys.map fun y=>(iN y 2).toNat:=by
   refine List.map_congr_left fun y hy=>?_
   obtain ⟨a,b,c,e,f,g,rfl⟩:=sS (h y hy).l
   rfl
  have gy:(ys.map ((fun (l:Br.Line)=>l.y)∘fun y=>fP (sX y)))=ys.map fun y=>(iN y 3).toNat:=by
   refine List.map_congr_left fun y hy=>?_
   obtain ⟨a,b,c,e,f,g,rfl⟩:=sS (h y hy).l
   rfl
  have gz:(ys.map ((fun (l:Br.Line)=>l.z)∘fun y=>fP (sX y)))=ys.map fun y=>(iN y 4).toNat:=by
   refine List.map_congr_left fun y hy=>?_
   obtain ⟨a,b,c,e,f,g,rfl⟩:=sS (h y hy).l
   rfl
  rw [gx,gy,gz]
  generalize hZ (ys.map fun y=>iN y 2)=mx at x1 x2
  generalize hZ (ys.map fun y=>iN y 3)=my at y1 y2
  generalize hZ (ys.map fun y=>iN y 4)=mz at z1 z2
  generalize Br.least (ys.map fun y=>(iN y 2).toNat)=bx at x1
  generalize Br.least (ys.map fun y=>(iN y 3).toNat)=by_ at y1
  generalize Br.least (ys.map fun y=>(iN y 4).toNat)=bz at z1
  refine ⟨fun y hy=>?_,?_⟩
  ·obtain ⟨v,hv,rfl⟩:=List.mem_map.mp hy
   have k1:=x2 v hv
   have k2:=y2 v hv
   have k3:=z2 v hv
   obtain ⟨hl,hnn,hp,hr,hx,hy,hz⟩:=h v hv
   obtain ⟨a,b,c,e,f,g,rfl⟩:=sS hl
   simp only [List.mem_cons,List.not_mem_nil,or_false,forall_eq_or_imp,forall_eq] at hnn
   have k1:mx<=c:=k1
   have k2:my<=e:=k2
   have k3:mz<=f:=k3
   have hx:c+(tsz prs a.toNat g.toNat).1<=64:=hx
   have hy:e+(tsz prs a.toNat g.toNat).2.1<=64:=hy
   have hz:f+(tsz prs a.toNat g.toNat).2.2<=96:=hz
   refine ⟨rfl,?_,hp,hr,?_,?_,?_⟩
   ·show ∀ k∈[a,b,c+ -mx,e+ -my,f+ -mz,g],0<=k
    simp only [List.mem_cons,List.not_mem_nil,or_false,forall_eq_or_imp,forall_eq]
    omega
   ·show c+ -mx+(tsz prs a.toNat g.toNat).1<=64
    omega
   ·show e+ -my+(tsz prs a.toNat g.toNat).2.1<=64
    omega
   ·show f+ -mz+(tsz prs a.toNat g.toNat).2.2<=96
    omega
  ·rw [List.map_map]
   refine List.map_congr_left fun v hv=>?_
   have k1:=x2 v hv
   have k2:=y2 v hv
   have k3:=z2 v hv
   obtain ⟨a,b,c,e,f,g,rfl⟩:=sS (h v hv).l
   have k1:mx<=c:=k1
   have k2:my<=e:=k2
   have k3:mz<=f:=k3
   show (⟨a.toNat,b.toNat,c.toNat - bx,e.toNat - by_,f.toNat - bz,g.toNat⟩:Br.Line)=⟨a.toNat,b.toNat,(c+ -mx).toNat,(e+ -my).toNat,(f+ -mz).toNat,g.toNat⟩
   rw [show c.toNat - bx=(c+ -mx).toNat by omega,show e.toNat - by_=(e+ -my).toNat by omega,show f.toNat - bz=(f+ -mz).toNat by omega]
end Br1
namespace Br1
open PySem PySem.Spec PyProof.Rows L2
def vM (H:Hp) (t:Addr) (y:List Int):Prop:=H t=some (.tup (y.map V.int))/\y.length=6
theorem Si (x:List Nat):x.map Co=(xY x).map V.int:=by
 unfold xY
 rw [List.map_map]
 rfl
theorem wV {d:Addr} {o:Obj} {aJ:List (List eF×V)} {g:TG} {tb:TS} {D:fZ} {σ:(List (Option V))} {H:Hp} (Pv:Nat->(List (Option V))->Hp->Prop) (h0:Pv 0 σ H) (hl:∀ i σ H,i<=aJ.length->Pv i σ H->H d=some (.frz o (.dT aJ)))
  (hs:∀ i σ H T k v q,aJ[i]?=some (k,v)->Pv i σ H->H T=none->H q=some (.tup (k.map kV))->g (.ref T) σ (upd H T (.tup [.ref q,v])) fun σ2 H2=>tb {tX D d o (.dT aJ) with nx:=Pv (i+1),ct:=Pv (i+1),bk:=(tX D d o (.dT aJ)).nx} σ2 H2) (hd:∀ σ H,Pv aJ.length σ H->D.nx σ (upd H d (.dT aJ))):
  ∃ W:Nat->Nat->(List (Option V))->Hp->Prop,(∃ m,W 0 m σ H)/\∀ i m σ H,W i m σ H->
   ((Gw d o aJ).stop i H/\(tX D d o (.dT aJ)).nx σ H)\/((Gw d o aJ).go i H/\∃ N:(List (Option V))->Hp->Prop,(∀ σ' H',N σ' H'->∃ m',m'<m/\W (i+1) m' σ' H')/\∀ x H',(Gw d o aJ).yld i H x H'->g x σ H' fun σ2 H2=>tb {tX D d o (.dT aJ) with nx:=N,ct:=N,bk:=(tX D d o (.dT aJ)).nx} σ2 H2):=
 iH (D:=tX D d o (.dT aJ)) Pv h0 hl hs fun σ' H' p=>⟨hl _ _ _ (Nat.le_refl _) p,hd σ' H' p⟩
section
variable {P:Program} {w:World} {K:PySem.W.Frag} {mg:Str->Option Value} {base:Heap} {C CR CP CB CG:Addr}
def tzz (n:Nat) (W D Hh:Int):List Int:=if n % 2=1 then [D,W,Hh] else [W,D,Hh]
def mE (CP:Addr):Sp:=fun vs H Q _=>∃ (b dx nm c:Addr) (W D Hh g:Int) (n:Nat),vs=[.ref b,.int (n:Int)]/\H b=some (.ins CP dx (Op nm W D Hh g c))/\∀ t,H t=none->Q (.ref t) (upd H t (.tup ((tzz n W D Hh).map V.int)))
theorem Nm:aO ["part","turns"] ["part","turns"] (aG uT):=⟨rfl,rfl,rfl,by decide+kernel,rfl,by decide+kernel,by decide+kernel⟩
theorem Mw {f:Addr} {fd:FuncData} (F:fE K "turned_sizes" "turned_sizes" uT f fd) (T':Oo K CP):bV P w K mg base bU 1 f fd ["part","turns"] (mE CP):=by
 refine F.ok Nm (fun vs H Q E h=>?_) (fun cdv A outer s H vs Q E hr h=>?_)
 ·obtain ⟨b,dx,nm,c,W,D,Hh,g,n,rfl,_⟩:=h
  rfl
 ·obtain ⟨b,dx,nm,c,W,D,Hh,g,n,rfl,hb,k⟩:=h
  refine ⟨_,aF (eG (hX pY (bZ Rn (pv 1) aI) aI (gX _)) (aH (aU (eJ (aA (aT (pv 0) rfl) (aA (aT (pv 0) rfl) (aA (aT (pv 0) rfl) aE)))))) cC)
   (aH (aU (eJ (aA (aT (pv 0) rfl) (aA (aT (pv 0) rfl) (aA (aT (pv 0) rfl) aE)))))),?_⟩
  unfold tzz at k
  refine ⟨_,rfl,_,_,rfl,rfl,(by show (0:Int)<2;decide),rfl,_,rfl,cF (fun e=>?_) (fun e=>?_)⟩
  ·rw [hG] at e
   have e:=of_decide_eq_true e
   rw [if_pos (by omega)] at k
   exact ⟨_,rfl,b,CP,dx,_,_,rfl,hb,T'.cl,T'.n3,rfl,_,rfl,b,CP,dx,_,_,rfl,hb,T'.cl,T'.n2,rfl,_,rfl,b,CP,dx,_,_,rfl,hb,T'.cl,T'.n4,rfl,(by show 3<=sizeLine;decide),k⟩
  ·rw [hG] at e
   have e:¬((n:Int) % 2=1):=fun z=>e (decide_eq_true z)
   rw [if_neg (by omega)] at k
   exact ⟨_,rfl,b,CP,dx,_,_,rfl,hb,T'.cl,T'.n2,rfl,_,rfl,b,CP,dx,_,_,rfl,hb,T'.cl,T'.n3,rfl,_,rfl,b,CP,dx,_,_,rfl,hb,T'.cl,T'.n4,rfl,(by show 3<=sizeLine;decide),k⟩
theorem Rs {prs:List aM} {p r:Nat} {pr:aM} (h:prs[p]?=some pr):tzz r pr.w pr.d pr.h=[(tsz prs p r).1,(tsz prs p r).2.1,(tsz prs p r).2.2]:=by
 unfold tzz tsz
 rw [h]
 by_cases hr:r % 2=1
 ·rw [if_pos hr]
  show _=[(if r % 2=1 then _ else _:Int×Int×Int).1,(if r % 2=1 then _ else _:Int×Int×Int).2.1,(if r % 2=1 then _ else _:Int×Int×Int).2.2]
  rw [if_pos hr]
 ·rw [if_neg hr]
  show _=[(if r % 2=1 then _ else _:Int×Int×Int).1,(if r % 2=1 then _ else _:Int×Int×Int).2.1,(if r % 2=1 then _ else _:Int×Int×Int).2.2]
  rw [if_neg hr]
theorem vN {lo hi v:Int} {i:Nat} {σ:(List (Option V))} {H:Hp} {Q:VK} (hσ:σ[i]?=some (some (.int v))) (k:Q (.bl (decide (lo<=v) && decide (v<hi))) H):
  Ib (Qc fun i j=>.bl (decide (i<=j))) (Qc fun i j=>.bl (decide (i<j))) (tC (.int lo)) (dD i) (tC (.int hi)) σ H Q:=by
 refine ⟨_,hσ,_,_,rfl,rfl,_,rfl,cF (fun h=>⟨_,_,rfl,rfl,?_⟩) (fun h=>?_)⟩
 ·rw [h,Bool.true_and] at k
  exact k
 ·rw [cR h,Bool.false_and] at k
  exact k
def pT:Sp:=fun vs H Q _=>∃ x y z:Int,vs=[.int x,.int y,.int z]/\Q (.bl (Eh x y z)) H
theorem Mg:aO ["x","y","z"] ["x","y","z"] (aG uR):=⟨rfl,rfl,rfl,by decide+kernel,rfl,by decide+kernel,by decide+kernel⟩
theorem Nz {f:Addr} {fd:FuncData} (F:fE K "beyond_room" "beyond_room" uR f fd) (c1:CI mg "ROOM_WIDTH" 64) (c2:CI mg "ROOM_DEPTH" 64) (c3:CI mg "ROOM_HEIGHT" 96):bV P w K mg base bU 1 f fd ["x","y","z"] pT:=by
 refine F.ok Mg (fun vs H Q E h=>?_) (fun cdv A outer s H vs Q E hr h=>?_)
 ·obtain ⟨x,y,z,rfl,_⟩:=h
  rfl
 ·obtain ⟨x,y,z,rfl,k⟩:=h
  refine ⟨_,aH (aU (Yo (sP (mS qT Rt aI (pv 0) (eM c1)) (sP (mS qT Rt aI (pv 1) (eM c2)) (rS (mS qT Rt aI (pv 2) (eM c3))))))),?_⟩
  unfold Eh at k
  refine vN rfl ⟨_,rfl,cF (fun e1=>vN rfl ⟨_,rfl,cF (fun e2=>vN rfl ⟨_,rfl,?_⟩) (fun e2=>⟨_,rfl,?_⟩)⟩) (fun e1=>⟨_,rfl,?_⟩)⟩
  ·rw [e1,e2,Bool.true_and,Bool.true_and] at k
   exact k
  ·rw [e1,cR e2,Bool.true_and,Bool.false_and] at k
   exact k
  ·rw [cR e1,Bool.false_and,Bool.false_and] at k
   exact k
def qM (K:PySem.W.Frag) (CP:Addr):Sp:=fun vs H Q _=>∃ (pa t:Addr) (bs:List Addr) (prs:List aM) (y:List Int),vs=[.ref pa,.ref t]/\cW K H pa (bs.map V.ref)/\dI CP H bs prs/\vM H t y/\0<=iN y 0/\(iN y 0).toNat<prs.length/\0<=iN y 5/\
 ∀ H':Hp,aL H H'->Q (.bl (La prs y)) H'
theorem Ai:aO ["parts","put","size"] ["parts","put"] (aG uS):=⟨rfl,rfl,rfl,by decide+kernel,rfl,by decide+kernel,by decide+kernel⟩
theorem Mb {f:Addr} {fd:FuncData} (F:fE K "leaves_room" "leaves_room" uS f fd) (L1:dL P w K mg base "turned_sizes" bU 1 ["part","turns"] (mE CP)) (L2:dL P w K mg base "beyond_room" bU 1 ["x","y","z"] pT):bV P w K mg base bU 2 f fd ["parts","put"] (qM K CP):=by
 obtain ⟨g1,gd1,G1,b1,k1,h1⟩:=L1.ex
 obtain ⟨g2,gd2,G2,b2,k2,h2⟩:=L2.ex
 refine F.ok Ai (fun vs H Q E h=>?_) (fun cdv A outer s H vs Q E hr h=>?_)
 ·obtain ⟨pa,t,bs,prs,y,rfl,_⟩:=h
  rfl
 ·obtain ⟨pa,t,bs,prs,y,rfl,hpa,hps,⟨ht,hy⟩,hy0,hlt,hy5,k⟩:=h
  obtain ⟨a0,a1,a2,a3,a4,a5,rfl⟩:=sS hy
  have hy0:0<=a0:=hy0
  have hlt:a0.toNat<prs.length:=hlt
  have hy5:0<=a5:=hy5
  have hr1:=hr.mono (j:=1) (by decide)
  refine ⟨_,aF (bI (i:=2) Ai.nd rfl (Or.inl rfl) (aP G1 hr1 (by rfl) h1 k1 b1 .nil aX (aA (bO jE (pv 0) (bO aZ (pv 1) aI (fun _ _=>rfl)) (fun _ _=>rfl)) (aA (bO aZ (pv 1) aI (fun _ _=>rfl)) aE))))
   (aH (aU (So (aP G2 hr1 (by rfl) h2 k2 b2 .nil aX (aA (bO aZ (pv 1) aI (fun _ _=>rfl)) (aA (bO aZ (pv 1) aI (fun _ _=>rfl)) (aA (bO aZ (pv 1) aI (fun _ _=>rfl)) aE))))
    (rS (aP G2 hr1 (by rfl) h2 k2 b2 .nil aX (aA (bZ eC (bZ fJ (bO aZ (pv 1) aI (fun _ _=>rfl)) (bO aZ (pv 2) aI (fun _ _=>rfl))) aI)
     (aA (bZ eC (bZ fJ (bO aZ (pv 1) aI (fun _ _=>rfl)) (bO aZ (pv 2) aI (fun _ _=>rfl))) aI) (aA (bZ eC (bZ fJ (bO aZ (pv 1) aI (fun _ _=>rfl)) (bO aZ (pv 2) aI (fun _ _=>rfl))) aI) aE)))))))),?_⟩
  obtain ⟨pr,epr⟩:∃ pr,prs[a0.toNat]?=some pr:=⟨_,List.getElem?_eq_getElem hlt⟩
  obtain ⟨b,eb,pat,po⟩:=cA hps epr
  obtain ⟨dx,nm,cc,f1,f2,f3⟩:=pat
  have e0:Mf (bs.map V.ref) a0=some (V.ref b):=by
   have:=iC (xs:=bs.map V.ref) (j:=a0.toNat) (v:=V.ref b) (by rw [List.getElem?_map,eb];rfl)
   rwa [Int.toNat_of_nonneg hy0] at this
  have e5:a5=((a5.toNat:Nat):Int):=(Int.toNat_of_nonneg hy5).symm
  refine ⟨_,rfl,_,rfl,t,_,_,_,rfl,rfl,cN.of ht,rfl,pa,_,_,_,rfl,rfl,hpa,e0,_,rfl,t,_,_,_,rfl,rfl,cN.of ht,rfl,b,dx,nm,cc,_,_,_,_,a5.toNat,by rw [<-e5];rfl,f1,fun tz htz=>?_⟩
  have ez:=Rs (r:=a5.toNat) epr
  rw [ez]
  have S1:=aL.new (o:=.tup ([(tsz prs a0.toNat a5.toNat).1,(tsz prs a0.toNat a5.toNat).2.1,(tsz prs a0.toNat a5.toNat).2.2].map V.int)) htz
  have ht1:=S1 _ _ ht
  have htz1:upd H tz (.tup ([(tsz prs a0.toNat a5.toNat).1,(tsz prs a0.toNat a5.toNat).2.1,(tsz prs a0.toNat a5.toNat).2.2].map V.int)) tz=some (.tup ([(tsz prs a0.toNat a5.toNat).1,(tsz prs a0.toNat a5.toNat).2.1,(tsz prs a0.toNat a5.toNat).2.2].map V.int)):=aB
  generalize upd H tz (.tup ([(tsz prs a0.toNat a5.toNat).1,(tsz prs a0.toNat a5.toNat).2.1,(tsz prs a0.toNat a5.toNat).2.2].map V.int))=H1 at S1 ht1 htz1
  have k:=k H1 S1
  have k:Q (.bl (Eh a2 a3 a4||Eh (a2+(tsz prs a0.toNat a5.toNat).1 - 1) (a3+(tsz prs a0.toNat a5.toNat).2.1 - 1) (a4+(tsz prs a0.toNat a5.toNat).2.2 - 1))) H1:=k
  generalize tsz prs a0.toNat a5.toNat=Z at k htz1
  refine ⟨_,rfl,t,_,_,_,rfl,rfl,cN.of ht1,rfl,_,rfl,t,_,_,_,rfl,rfl,cN.of ht1,rfl,_,rfl,t,_,_,_,rfl,rfl,cN.of ht1,rfl,a2,a3,a4,rfl,_,rfl,cF (fun e1=>?_) (fun e1=>?_)⟩
  ·rw [e1,Bool.true_or] at k
   exact k
  ·rw [cR e1,Bool.false_or] at k
   exact ⟨_,rfl,t,_,_,_,rfl,rfl,cN.of ht1,rfl,_,rfl,tz,_,_,_,rfl,rfl,cN.of htz1,rfl,_,_,rfl,rfl,_,_,rfl,rfl,_,rfl,t,_,_,_,rfl,rfl,cN.of ht1,rfl,_,rfl,tz,_,_,_,rfl,rfl,cN.of htz1,rfl,_,_,rfl,rfl,_,_,rfl,rfl,
    _,rfl,t,_,_,_,rfl,rfl,cN.of ht1,rfl,_,rfl,tz,_,_,_,rfl,rfl,cN.of htz1,rfl,_,_,rfl,rfl,_,_,rfl,rfl,_,_,_,rfl,k⟩
def Hl (K:PySem.W.Frag) (CP:Addr):Sp:=fun vs H Q _=>∃ (pa q:Addr) (bs:List Addr) (prs:List aM) (x:List Nat),vs=[.ref pa,.ref q]/\cW K H pa (bs.map V.ref)/\dI CP H bs prs/\(∀ pr∈prs,dN pr)/\H q=some (.tup (x.map Co))/\Ch prs.length x/\dZ x 5<=3/\
 ∀ (H':Hp) (d:Addr),aL H H'->H d=none->H' d=some (.dT (aJ (dA prs x)))->Q (.ref d) H'
theorem uP:aO ["parts","put","cells","place","sign"] ["parts","put"] (aG Lg):=⟨rfl,rfl,rfl,by decide+kernel,rfl,by decide+kernel,by decide+kernel⟩
theorem Tz {f:Addr} {fd:FuncData} (F:fE K "cells_in_room" "cells_in_room" Lg f fd) (T':Oo K CP) (L1:dL P w K mg base "turned_part" bU 4 ["part","turns"] (vT CP)):bV P w K mg base bU 5 f fd ["parts","put"] (Hl K CP):=by
 obtain ⟨g1,gd1,G1,b1,k1,h1⟩:=L1.ex
 refine F.ok uP (fun vs H Q E h=>?_) (fun cdv A outer s H vs Q E hr h=>?_)
 ·obtain ⟨pa,q,bs,prs,x,rfl,_⟩:=h
  rfl
 ·obtain ⟨pa,qp,bs,prs,x,rfl,hpa,hps,hok,hp,⟨hx6,hx0⟩,hx5,k⟩:=h
  obtain ⟨pr,epr⟩:∃ pr,prs[dZ x 0]?=some pr:=⟨_,List.getElem?_eq_getElem hx0⟩
  have etp:rM prs x=gK (wE pr) (dZ x 5):=by
   unfold rM
   rw [epr]
   rfl
  obtain ⟨b,eb,hbp,hbo⟩:=cA hps epr
  obtain ⟨nm,hpt⟩:=hbp.pt
  have tok:uB (wE pr):=⟨(Qy (hok pr (List.mem_of_getElem? epr))).nd,hbo.len⟩
  obtain ⟨a0,a1,a2,a3,a4,a5,rfl⟩:=Xp hx6
  have hu:=lU hr
  refine ⟨_,aF (bI (i:=2) uP.nd rfl (Or.inl rfl) mQ)
   (aF (Uf PassesOwn.never rfl (aT (aP G1 (hr.mono (j:=4) (by decide)) (by rfl) h1 k1 b1 .nil aX (aA (bO jE (pv 0) (bO aZ (pv 1) aI (fun _ _=>rfl)) (fun _ _=>rfl)) (aA (bO aZ (pv 1) aI (fun _ _=>rfl)) aE))) rfl) (mP rfl (dG (bH (i:=3) uP.nd rfl (Or.inl rfl)) (dG (bH (i:=4) uP.nd rfl (Or.inl rfl)) jH)))
    (aH (nS hu (pv 2) (eJ (aA (bZ fJ (bO aZ (pv 1) aI (fun _ _=>rfl)) (bO aZ (pv 3) aI (fun _ _=>rfl))) (aA (bZ fJ (bO aZ (pv 1) aI (fun _ _=>rfl)) (bO aZ (pv 3) aI (fun _ _=>rfl))) (aA (bZ fJ (bO aZ (pv 1) aI (fun _ _=>rfl)) (bO aZ (pv 3) aI (fun _ _=>rfl))) aE)))) (pv 4) rfl)))
   (aH (aU (pv 2)))),?_⟩
  intro d hd
  have S0:aL H (upd H d (.dT [])):=aL.new hd
  have e0:Mf (bs.map V.ref) ((a0:Nat):Int)=some (V.ref b):=iC (by
   rw [List.getElem?_map]
   show Option.map V.ref bs[dZ [a0,a1,a2,a3,a4,a5] 0]?=_
   rw [eb];rfl)
  have hp0:=S0 _ _ hp
  have hsl:=aY
  refine ⟨_,rfl,_,rfl,qp,_,_,_,rfl,rfl,cN.of hp0,rfl,pa,_,_,_,rfl,rfl,S0.seq hpa,e0,_,rfl,qp,_,_,_,rfl,rfl,cN.of hp0,rfl,b,nm,_,wE pr,a5,rfl,Nat.le_trans hx5 (by decide),hpt.same S0,tok,fun H1 b' S1 hp1=>?_⟩
  have tok2:uB (gK (wE pr) a5):=tok.turns _
  have k:∀ (H':Hp) (d:Addr),aL H H'->H d=none->H' d=some (.dT (aJ (xA (lY a2 a3 a4) (gK (wE pr) a5).cs)))->Q (.ref d) H':=fun H' d s n e=>k H' d s n (by unfold dA;rw [etp];exact e)
  obtain ⟨dx1,c,hb1,hc1⟩:=hp1
  generalize gK (wE pr) a5=tt at hb1 hc1 tok2 k
  obtain ⟨W,D,Hh,cs⟩:=tt
  have hb1:H1 b'=some (.ins CP dx1 (Op nm W D Hh pr.g c)):=hb1
  have hc1:H1 c=some (.dT (aJ cs)):=hc1
  have nd:(cs.map (·.1)).Nodup:=tok2.nd
  have ln:cs.length<20000:=tok2.ln
  have hd1:H1 d=some (.dT []):=S1 _ _ aB
  have hp1:=S1 _ _ hp0
  refine ⟨b',CP,dx1,_,_,rfl,hb1,T'.cl,T'.n6,rfl,c,_,rfl,hc1,fun od=>?_⟩
  have S01:=S0.trans S1
  by_cases ncd:c=d
  ·-- the new dict itself:then there is nothing to walk
   subst ncd
   rw [hd1] at hc1
   have hcs:cs=[]:=by
    cases cs with
    |nil=>rfl
    |cons a r=>cases hc1
   subst hcs
   refine wV (fun i σ H'=>∃ v3 v4,σ=[some (.ref pa),some (.ref qp),some (.ref c),v3,v4]/\H'=upd H1 c (.frz od (.dT (aJ [])))) ⟨none,none,rfl,rfl⟩ ?_ ?_ ?_
   ·rintro i σ H2 hi ⟨v3,v4,rfl,rfl⟩
    exact aB
   ·rintro i σ H2 T k' v q e
    cases i<;>cases e
   ·rintro σ H2 ⟨v3,v4,rfl,rfl⟩
    refine ⟨_,rfl,k _ c (fun y o e=>?_) hd (by rw [aB];rfl)⟩
    have ny:=aD e hd
    rw [aC ny,aC ny]
    exact S01 _ _ e
  ·have hcL:upd H1 c (.frz od (.dT (aJ cs))) c=some (.frz od (.dT (aJ cs))):=aB
   have hdL:upd H1 c (.frz od (.dT (aJ cs))) d=some (.dT []):=by rw [aC (Ne.symm ncd)];exact hd1
   have npc:qp≠c:=fun z=>by rw [z,hc1] at hp1;cases hp1
   have npd:qp≠d:=fun z=>by rw [z,hd1] at hp1;cases hp1
   have hpL:upd H1 c (.frz od (.dT (aJ cs))) qp=some (.tup ([a0,a1,a2,a3,a4,a5].map Co)):=by rw [aC npc];exact hp1
   refine wV (fun i σ H'=>∃ v3 v4,σ=[some (.ref pa),some (.ref qp),some (.ref d),v3,v4]/\SX d (upd H1 c (.frz od (.dT (aJ cs)))) H'/\H' d=some (.dT (aJ (xA (lY a2 a3 a4) (cs.take i))))) ⟨none,none,rfl,SX.refl _ _,hdL⟩ ?_ ?_ ?_
   ·rintro i σ H2 hi ⟨v3,v4,rfl,S2,_⟩
    exact S2 _ _ hcL ncd
   ·rintro i σ H2 T kk v q e ⟨v3,v4,rfl,S2,hd2⟩ hT hq
    obtain ⟨p,sg,e1,rfl,rfl⟩:=jK e
    have ST:=aL.new (o:=.tup [.ref q,.int sg]) hT
    refine ⟨T,_,rfl,cN.of aB,rfl,_,_,rfl,_,_,rfl,rfl,?_⟩
    have hq3:=ST _ _ hq
    have hp3:=ST _ _ (S2 _ _ hpL npd)
    have hd3:=ST _ _ hd2
    generalize upd H2 T (.tup [.ref q,.int sg])=H3 at ST hq3 hp3 hd3
    refine ⟨_,rfl,_,rfl,_,rfl,qp,_,_,_,rfl,rfl,cN.of hp3,rfl,_,rfl,q,_,_,_,rfl,rfl,cN.of hq3,rfl,_,_,rfl,rfl,_,rfl,qp,_,_,_,rfl,rfl,cN.of hp3,rfl,_,rfl,q,_,_,_,rfl,rfl,cN.of hq3,rfl,_,_,rfl,rfl,_,rfl,qp,_,_,_,rfl,rfl,cN.of hp3,rfl,_,rfl,q,_,_,_,rfl,rfl,cN.of hq3,rfl,_,_,rfl,rfl,(by show 3<=sizeLine;decide),fun t ht=>?_⟩
    have SQ:=aL.new (o:=.tup [.int (a2+p.1),.int (a3+p.2.1),.int (a4+p.2.2)]) ht
    have hi:i<cs.length:=(List.getElem?_eq_some_iff.mp e1).1
    refine ⟨d,_,rfl,yC.t (k:=eN (a2+p.1) (a3+p.2.1) (a4+p.2.2)) (SQ _ _ hd3) aB (by rw [iB,Fz,List.length_take];omega),?_⟩
    refine ⟨_,_,rfl,fun b' o e' n'=>?_,?_⟩
    ·rw [aC n']
     exact SQ _ _ (ST _ _ (S2 _ _ e' n'))
    ·rw [aB]
     exact congrArg (fun z=>some (HO.dT z)) (Kh (Lx a2 a3 a4) nd e1)
   ·rintro σ H2 ⟨v3,v4,rfl,S2,hd2⟩
    rw [iB,List.take_length] at hd2
    have hdE:upd H2 c (.dT (aJ cs)) d=some (.dT (aJ (xA (lY a2 a3 a4) cs))):=by rw [aC (Ne.symm ncd)];exact hd2
    refine ⟨_,rfl,k _ d (fun y o e=>?_) hd hdE⟩
    have ny:=aD e hd
    have e1:=S01 _ _ e
    by_cases hy:y=c
    ·rw [hy] at e1 ⊢
     rw [aB,<-e1,hc1]
    ·rw [aC hy]
     exact S2 _ _ (by rw [aC hy];exact e1) ny
end
theorem Wv {A B:TS} {D:fZ} {σ:List (Option V)} {H:Hp} {M:List (Option V)->Hp->Prop} (h2:∀ σ' H',M σ' H'->B D σ' H') (h1:(∀ σ' H',M σ' H'->B D σ' H')->A {D with nx:=B D} σ H):Ei A B D σ H:=h1 h2
theorem Xk {i:Nat} {x:V} {σ:List (Option V)} {H:Hp} {k:List (Option V)->Hp->Prop} (h:k (σ.set i (some x)) H):lV i x σ H k:=h
def Go (ds os wr:Addr):List (Str×V):=[("signs",.ref ds),("owners",.ref os),("wrong",.ref wr)]
structure RmT (K:PySem.W.Frag) (CM:Addr):Prop where
 cl:Gk K CM
 n1:dF K CM "signs"
 n2:dF K CM "owners"
 n3:dF K CM "wrong"
def Xq (CM:Addr):Sp:=fun vs H Q _=>∃ (r dx:Addr),vs=[.ref r]/\H r=some (.ins CM dx [])/\∀ (H':Hp) (ds os wr:Addr),H' r=some (.ins CM dx (Go ds os wr))->H' ds=some (.dT [])->H' os=some (.dT [])->H' wr=some (.lst [])->H ds=none->H os=none->H wr=none->ds≠os->SX r H H'->Q .non H'
theorem aAm:aO ["self"] ["self"] (aG Cq):=⟨rfl,rfl,rfl,by decide+kernel,rfl,by decide+kernel,by decide+kernel⟩
theorem aAk {P:Program} {w:World} {K:PySem.W.Frag} {mg:Str->Option Value} {base:Heap} {CM f:Addr} {fd:FuncData} (F:fE K "__init__" "Room.__init__" Cq f fd) (T:RmT K CM):bV P w K mg base bU 1 f fd ["self"] (Xq CM):=by
 refine F.ok aAm (fun vs H Q E h=>?_) (fun cdv A outer s H vs Q E hr h=>?_)
 ·obtain ⟨r,dx,rfl,_⟩:=h
  rfl
 ·obtain ⟨r,dx,rfl,hp,k⟩:=h
  refine ⟨_,aF (dX (pv 0) mQ rfl) (aF (dX (pv 0) mQ rfl) (aH (dX (pv 0) (eE aE) rfl))),?_⟩
  intro ds hds
  have n1:r≠ds:=aD hp hds
  refine ⟨_,rfl,r,CM,dx,_,rfl,by rw [aC n1];exact hp,T.cl,T.n1,(by show 0<1000;decide),?_⟩
  intro os hos
  have n2:r≠os:=fun z=>by rw [<-z,aB] at hos;cases hos
  have n3:ds≠os:=fun z=>by rw [<-z,aC (Ne.symm n1),aB] at hos;cases hos
  rw [aC (Ne.symm n2),aC (Ne.symm n3)] at hos
  refine ⟨_,rfl,r,CM,dx,_,rfl,by rw [aC n2,aB],T.cl,T.n2,(by show 1<1000;decide),?_⟩
  refine ⟨Nat.zero_le _,fun wr hwr=>?_⟩
  have n4:r≠wr:=fun z=>by rw [<-z,aB] at hwr;cases hwr
  have n5:os≠wr:=fun z=>by rw [<-z,aC (Ne.symm n2),aB] at hwr;cases hwr
  have n6:ds≠wr:=fun z=>by rw [<-z,aC (Ne.symm n1),aC n3,aC (Ne.symm n1),aB] at hwr;cases hwr
  rw [aC (Ne.symm n4),aC (Ne.symm n5),aC (Ne.symm n4),aC (Ne.symm n6)] at hwr
  refine ⟨_,rfl,r,CM,dx,_,rfl,by rw [aC n4,aB],T.cl,T.n3,(by show 2<1000;decide),?_⟩
  refine k _ ds os wr aB ?_ ?_ ?_ hds hos hwr n3 fun b o e hb=>?_
  ·rw [aC (Ne.symm n1),aC n6,aC (Ne.symm n1),aC n3,aC (Ne.symm n1),aB]
  ·rw [aC (Ne.symm n2),aC n5,aC (Ne.symm n2),aB]
  ·rw [aC (Ne.symm n4),aB]
  ·rw [aC hb,aC (aD e hwr),aC hb,aC (aD e hos),aC hb,aC (aD e hds)]
   exact e
structure RmM (P:Program) (w:World) (K:PySem.W.Frag) (mg:Str->Option Value) (base:Heap) (CM:Addr):Prop where
 ex:∃ f fd,Mk K CM f/\bV P w K mg base bU 1 f fd ["self"] (Xq CM)/\fF K fd ["self"] []
 mg:mg "Room"=some (.ref CM)
section
variable {sg ow:CL} {c:Pl×Int} {s k:Int}
theorem Mm (h:¬fA c.2=true):mC sg ow c=[]:=by
 unfold mC
 split
 ·exact if_neg fun z=>h z.1
 ·rfl
theorem Md (h:bE sg (pB c.1)=none):mC sg ow c=[]:=by
 unfold mC
 rw [h]
theorem Ni (h:bE sg (pB c.1)=some s) (ht:dW s=true):mC sg ow c=[]:=by
 unfold mC
 rw [h]
 exact if_neg fun z=>by rw [ht] at z;exact Bool.noConfusion z.2
theorem Pr (h:bE sg (pB c.1)=some s) (h1:fA c.2=true) (h2:dW s=false) (h3:bE ow (pB c.1)=some k):mC sg ow c=[k]:=by
 unfold mC
 rw [h]
 show (if fA c.2=true/\dW s=false then _ else _)=_
 rw [if_pos ⟨h1,h2⟩,h3]
 rfl
theorem Mv (h:dW c.2=true):oR sg ow c=[]:=by
 unfold oR
 split
 ·exact if_neg fun z=>by rw [h] at z;exact Bool.noConfusion z.1
 ·rfl
theorem Nv (h:bE sg (pH c.1)=none):oR sg ow c=[]:=by
 unfold oR
 rw [h]
theorem Oi (h:bE sg (pH c.1)=some s) (ht:¬fA s=true):oR sg ow c=[]:=by
 unfold oR
 rw [h]
 exact if_neg fun z=>ht z.2
theorem Rb (h:bE sg (pH c.1)=some s) (h1:dW c.2=false) (h2:fA s=true) (h3:bE ow (pH c.1)=some k):oR sg ow c=[k]:=by
 unfold oR
 rw [h]
 show (if dW c.2=false/\fA s=true then _ else _)=_
 rw [if_pos ⟨h1,h2⟩,h3]
 rfl
theorem Fn:(mC sg ow c).length<=1:=by
 unfold mC
 split
 ·split
  ·cases bE ow (pB c.1)<;>simp
  ·simp
 ·simp
theorem Su:(oR sg ow c).length<=1:=by
 unfold oR
 split
 ·split
  ·cases bE ow (pH c.1)<;>simp
  ·simp
 ·simp
end
theorem zG (sg ow:CL):∀ cl:CL,(cU cl sg ow).length<=2 * cl.length
 |[]=>Nat.le_refl _
 |c::r=>by
  have ih:=zG sg ow r
  have h1:=Fn (sg:=sg) (ow:=ow) (c:=c)
  have h2:=Su (sg:=sg) (ow:=ow) (c:=c)
  unfold cU at ih ⊢
  rw [List.flatMap_cons,List.length_append,List.length_append,List.length_cons]
  omega
theorem oZ {cl sg ow:CL} {i:Nat} {c:Pl×Int} (e:cl[i]?=some c):cU (cl.take (i+1)) sg ow=cU (cl.take i) sg ow++mC sg ow c++oR sg ow c:=by
 unfold cU
 rw [List.take_succ,e,List.flatMap_append,List.append_assoc]
 show _++List.flatMap _ [c]=_
 rw [List.flatMap_singleton]
theorem qO {H:Hp} {c q:Addr} {cs:CL} {p:Pl} {v:Int} (hc:H c=some (.dT (aJ cs))) (hq:H q=some (.tup [.int p.1,.int p.2.1,.int p.2.2])) (h:bE cs p=some v):sD H c (.ref q) (some (V.int v)):=by
 have:=wS (p:=p) hc hq
 rw [h] at this
 exact this
theorem fN:16000000<sizeLine:=by rw [sizeLine_eq];decide
section
variable {P:Program} {w:World} {K:PySem.W.Frag} {mg:Str->Option Value} {base:Heap} {C CR CP CB CG CM:Addr}
def rE (CM:Addr):Sp:=fun vs H Q _=>∃ (d m dm wr s o:Addr) (cl sg ow:CL),vs=[.ref d,.ref m]/\H m=some (.ins CM dm (Go s o wr))/\H d=some (.dT (aJ cl))/\H s=some (.dT (aJ sg))/\H o=some (.dT (aJ ow))/\d≠s/\d≠o/\(∀ p,(bE sg p).isSome=true->(bE ow p).isSome=true)/\cl.length<20000/\
 ∀ (H':Hp) (l:Addr),aL H H'->H l=none->H' l=some (.lst ((cU cl sg ow).map V.int))->Q (.ref l) H'
theorem gG:aO ["cells","room","blocked","place","sign","over","under"] ["cells","room"] (aG pZ):=⟨rfl,rfl,rfl,by decide+kernel,rfl,by decide+kernel,by decide+kernel⟩
theorem Je {f:Addr} {fd:FuncData} (F:fE K "blocked_lines" "blocked_lines" pZ f fd) (TM:RmT K CM) (L1:dL P w K mg base "above" bU 1 ["place"] oH) (L2:dL P w K mg base "below" bU 1 ["place"] nU)
  (L3:dL P w K mg base "has_stud" bU 1 ["sign"] vA) (L4:dL P w K mg base "has_tube" bU 1 ["sign"] xD):bV P w K mg base bU 2 f fd ["cells","room"] (rE CM):=by
 obtain ⟨g1,gd1,G1,b1,k1,h1⟩:=L1.ex
 obtain ⟨g2,gd2,G2,b2,k2,h2⟩:=L2.ex
 obtain ⟨g3,gd3,G3,b3,k3,h3⟩:=L3.ex
 obtain ⟨g4,gd4,G4,b4,k4,h4⟩:=L4.ex
 refine F.ok gG (fun vs H Q E h=>?_) (fun cdv A outer s H vs Q E hr h=>?_)
 ·obtain ⟨d,m,dm,wr,s,o,cl,sg,ow,rfl,_⟩:=h
  rfl
 ·obtain ⟨d,m,dm,wr,s,o,cl,sg,ow,rfl,hm,hd,hs,ho,nds,ndo,sub,ln,k⟩:=h
  have hr1:=hr.mono (j:=1) (by decide)
  have hu:=lU hr
  refine ⟨_,aF (bI (i:=2) gG.nd rfl (Or.inl rfl) (eE aE))
   (aF (kW (eQ PassesOwn.never rfl (jZ (pv 0)) (mP rfl (dG (bH (i:=3) gG.nd rfl (Or.inl rfl)) (dG (bH (i:=4) gG.nd rfl (Or.inl rfl)) jH)))
    (aF (bI (i:=5) gG.nd rfl (Or.inl rfl) (aP G1 hr1 (by rfl) h1 k1 b1 .nil aX (aA (pv 3) aE)))
    (aF (eG (gZ (eP (aP G3 hr1 (by rfl) h3 k3 b3 .nil aX (aA (pv 4) aE))) (gZ (dR (sM hu (pv 5) (aT (pv 1) rfl))) (iA (lF (eP (aP G4 hr1 (by rfl) h4 k4 b4 .nil aX (aA (pR hu (aT (pv 1) rfl) (pv 5) (fun _ _=>rfl)) aE))))))).pt
     (aH (cH (mV PySem.F.plainAttrs_list PySem.F.slot_list_append PySem.F.type_list_append gJ (pv 2) (aA (pR hu (aT (pv 1) rfl) (pv 5) (fun _ _=>rfl)) aE)))) cC)
    (aF (bI (i:=6) gG.nd rfl (Or.inl rfl) (aP G2 hr1 (by rfl) h2 k2 b2 .nil aX (aA (pv 3) aE)))
    (aH (eG (gZ (lF (eP (aP G4 hr1 (by rfl) h4 k4 b4 .nil aX (aA (pv 4) aE)))) (gZ (dR (sM hu (pv 6) (aT (pv 1) rfl))) (iA (eP (aP G3 hr1 (by rfl) h3 k3 b3 .nil aX (aA (pR hu (aT (pv 1) rfl) (pv 6) (fun _ _=>rfl)) aE)))))).pt
     (aH (cH (mV PySem.F.plainAttrs_list PySem.F.slot_list_append PySem.F.type_list_append gJ (pv 2) (aA (pR hu (aT (pv 1) rfl) (pv 6) (fun _ _=>rfl)) aE)))) cC)))))))
   (aH (aU (pv 2)))),?_⟩
  refine ⟨by show 0<=sizeLine;decide,fun l hl=>?_⟩
  have S0:aL H (upd H l (.lst [])):=aL.new hl
  have ndl:d≠l:=aD hd hl
  have nsl:s≠l:=aD hs hl
  have nol:o≠l:=aD ho hl
  have nml:m≠l:=aD hm hl
  have nmd:m≠d:=fun z=>by rw [z,hd] at hm;cases hm
  have hsz:=fN
  refine ⟨d,_,S0 _ _ hd,trivial,fun od=>?_⟩
  have hdL:upd (upd H l (.lst [])) d (.frz od (.dT (aJ cl))) d=some (.frz od (.dT (aJ cl))):=aB
  have hsL:upd (upd H l (.lst [])) d (.frz od (.dT (aJ cl))) s=some (.dT (aJ sg)):=by rw [aC (Ne.symm nds)];exact S0 _ _ hs
  have hoL:upd (upd H l (.lst [])) d (.frz od (.dT (aJ cl))) o=some (.dT (aJ ow)):=by rw [aC (Ne.symm ndo)];exact S0 _ _ ho
  have hmL:upd (upd H l (.lst [])) d (.frz od (.dT (aJ cl))) m=some (.ins CM dm (Go s o wr)):=by rw [aC nmd];exact S0 _ _ hm
  have hlL:upd (upd H l (.lst [])) d (.frz od (.dT (aJ cl))) l=some (.lst []):=by rw [aC (Ne.symm ndl),aB]
  refine ⟨_,rfl,d,od,_,rfl,hdL,?_⟩
  refine iH (fun i σ H'=>∃ v4 v5 v6 v7,σ=[some (.ref d),some (.ref m),some (.ref l),v4,v5,v6,v7]/\SX l (upd (upd H l (.lst [])) d (.frz od (.dT (aJ cl)))) H'/\H' l=some (.lst ((cU (cl.take i) sg ow).map V.int))) ⟨none,none,none,none,rfl,SX.refl _ _,hlL⟩ ?_ ?_ ?_
  ·rintro i σ H1 hi ⟨v4,v5,v6,v7,rfl,S1,_⟩
   exact S1 _ _ hdL ndl
  ·rintro i σ H1 T kk v q e ⟨v4,v5,v6,v7,rfl,S1,hl1⟩ hT hq
   obtain ⟨p,sv,e1,rfl,rfl⟩:=jK e
   have hi:i<cl.length:=(List.getElem?_eq_some_iff.mp e1).1
   have ST:=aL.new (o:=.tup [.ref q,.int sv]) hT
   refine ⟨T,_,rfl,cN.of aB,rfl,_,_,rfl,_,_,rfl,rfl,?_⟩
   have hq2:=ST _ _ hq
   have S2:SX l (upd (upd H l (.lst [])) d (.frz od (.dT (aJ cl)))) (upd H1 T (.tup [.ref q,.int sv])):=fun b ob eb nb=>ST _ _ (S1 _ _ eb nb)
   have hl2:=ST _ _ hl1
   generalize upd H1 T (.tup [.ref q,.int sv])=H2 at ST hq2 S2 hl2
   have nql:q≠l:=fun z=>by rw [z,hl2] at hq2;cases hq2
   have len0:(cU (cl.take i) sg ow).length<=40000:=by
    have:=zG sg ow (cl.take i)
    rw [List.length_take] at this
    omega
   have fin:∀ {H':Hp} {xs:List Int},mC sg ow (p,sv)++oR sg ow (p,sv)=xs->H' l=some (.lst ((cU (cl.take i) sg ow++xs).map V.int))->H' l=some (.lst ((cU (cl.take (i+1)) sg ow).map V.int)):=fun {H' xs} ex hx=>by
    rw [hx,oZ e1,List.append_assoc,ex]
   refine ⟨_,rfl,q,p.1,p.2.1,p.2.2,rfl,hq2,fun t ht=>?_⟩
   have SQ:=aL.new (o:=.tup [.int p.1,.int p.2.1,.int (p.2.2+1)]) ht
   have S3:SX l (upd (upd H l (.lst [])) d (.frz od (.dT (aJ cl)))) (upd H2 t (.tup [.int p.1,.int p.2.1,.int (p.2.2+1)])):=fun b ob eb nb=>SQ _ _ (S2 _ _ eb nb)
   have hl3:=SQ _ _ hl2
   have hq3:=SQ _ _ hq2
   have ht3:upd H2 t (.tup [.int p.1,.int p.2.1,.int (p.2.2+1)]) t=some (.tup [.int (pB p).1,.int (pB p).2.1,.int (pB p).2.2]):=aB
   generalize upd H2 t (.tup [.int p.1,.int p.2.1,.int (p.2.2+1)])=H3 at S3 hl3 hq3 ht3
   refine Xk ?_
   dsimp only
   refine Wv (A:=Yv _ _ _) (M:=fun σ' H'=>∃ v7,σ'=[some (.ref d),some (.ref m),some (.ref l),some (.ref q),some (.int sv),some (.ref t),v7]/\SX l (upd (upd H l (.lst [])) d (.frz od (.dT (aJ cl)))) H'/\H' l=some (.lst ((cU (cl.take i) sg ow++mC sg ow (p,sv)).map V.int))/\H' q=some (.tup [.int p.1,.int p.2.1,.int p.2.2])) ?_ (fun nxt=>?_)
   ·rintro σ' H4 ⟨v7,rfl,S4,hl4,hq4⟩
    refine ⟨_,rfl,q,p.1,p.2.1,p.2.2,rfl,hq4,fun u hu'=>?_⟩
    have SU:=aL.new (o:=.tup [.int p.1,.int p.2.1,.int (p.2.2 - 1)]) hu'
    have S5:SX l (upd (upd H l (.lst [])) d (.frz od (.dT (aJ cl)))) (upd H4 u (.tup [.int p.1,.int p.2.1,.int (p.2.2 - 1)])):=fun b ob eb nb=>SU _ _ (S4 _ _ eb nb)
    have hl5:=SU _ _ hl4
    have hu5:upd H4 u (.tup [.int p.1,.int p.2.1,.int (p.2.2 - 1)]) u=some (.tup [.int (pH p).1,.int (pH p).2.1,.int (pH p).2.2]):=aB
    generalize upd H4 u (.tup [.int p.1,.int p.2.1,.int (p.2.2 - 1)])=H5 at S5 hl5 hu5
    have no2:oR sg ow (p,sv)=[]->H5 l=some (.lst ((cU (cl.take (i+1)) sg ow).map V.int)):=fun z=>by
     rw [oZ e1,z,List.append_nil]
     exact hl5
    refine ⟨_,rfl,sv,rfl,_,rfl,cF (fun ht1=>?_) (fun ht1=>tW ⟨_,_,_,_,rfl,S5,no2 (Mv (by cases z:dW sv with|true=>exact rfl|false=>exact absurd (by rw [z];rfl) ht1))⟩)⟩
    have ht1:dW sv=false:=by
     cases z:dW sv with
     |false=>rfl
     |true=>rw [z] at ht1;cases ht1
    refine ⟨_,rfl,_,rfl,m,CM,dm,_,_,rfl,(S5 _ _ hmL nml),TM.cl,TM.n1,rfl,s,_,rfl,wS (p:=pH p) (S5 _ _ hsL nsl) hu5,_,rfl,cF (fun hin=>?_) (fun hin=>tW ⟨_,_,_,_,rfl,S5,no2 (Nv ?_)⟩)⟩
    ·rw [Option.isSome_map] at hin
     obtain ⟨sv2,es⟩:=Option.isSome_iff_exists.mp hin
     obtain ⟨ov,eo⟩:=Option.isSome_iff_exists.mp (sub _ hin)
     refine ⟨_,rfl,m,CM,dm,_,_,rfl,(S5 _ _ hmL nml),TM.cl,TM.n1,rfl,_,rfl,s,_,rfl,qO (p:=pH p) (S5 _ _ hsL nsl) hu5 es,sv2,rfl,_,rfl,cF (fun hs2=>?_) (fun hs2=>⟨_,_,_,_,rfl,S5,no2 (Oi es hs2)⟩)⟩
     refine ⟨_,rfl,.inl ⟨rfl,_,cW.of hl5⟩,_,rfl,m,CM,dm,_,_,rfl,(S5 _ _ hmL nml),TM.cl,TM.n2,rfl,_,rfl,o,_,rfl,qO (p:=pH p) (S5 _ _ hoL nol) hu5 eo,l,_,_,rfl,rfl,hl5,?_,?_⟩
     ·have:=Fn (sg:=sg) (ow:=ow) (c:=(p,sv))
      rw [List.length_map,List.length_append]
      omega
     ·refine ⟨_,_,_,_,rfl,fun b ob eb nb=>?_,?_⟩
      ·rw [aC nb]
       exact S5 _ _ eb nb
      ·rw [aB,oZ e1,Rb es ht1 hs2 eo]
       simp only [List.map_append,List.map_cons,List.map_nil]
    ·rw [Option.isSome_map] at hin
     cases z:bE sg (pH p) with
     |none=>rfl
     |some y=>rw [z] at hin;exact absurd rfl hin
   ·have no1:mC sg ow (p,sv)=[]->H3 l=some (.lst ((cU (cl.take i) sg ow++mC sg ow (p,sv)).map V.int)):=fun z=>by
     rw [z,List.append_nil]
     exact hl3
    refine ⟨_,rfl,sv,rfl,_,rfl,cF (fun hs1=>?_) (fun hs1=>tW (nxt _ _ ⟨_,rfl,S3,no1 (Mm hs1),hq3⟩))⟩
    refine ⟨_,rfl,_,rfl,m,CM,dm,_,_,rfl,(S3 _ _ hmL nml),TM.cl,TM.n1,rfl,s,_,rfl,wS (p:=pB p) (S3 _ _ hsL nsl) ht3,_,rfl,cF (fun hin=>?_) (fun hin=>tW (nxt _ _ ⟨_,rfl,S3,no1 (Md ?_),hq3⟩))⟩
    ·rw [Option.isSome_map] at hin
     obtain ⟨sv2,es⟩:=Option.isSome_iff_exists.mp hin
     obtain ⟨ov,eo⟩:=Option.isSome_iff_exists.mp (sub _ hin)
     refine ⟨_,rfl,m,CM,dm,_,_,rfl,(S3 _ _ hmL nml),TM.cl,TM.n1,rfl,_,rfl,s,_,rfl,qO (p:=pB p) (S3 _ _ hsL nsl) ht3 es,sv2,rfl,_,rfl,cF (fun ht2=>?_) (fun ht2=>nxt _ _ ⟨_,rfl,S3,no1 (Ni es ?_),hq3⟩)⟩
     ·have ht2:dW sv2=false:=by
       cases z:dW sv2 with
       |false=>rfl
       |true=>rw [z] at ht2;cases ht2
      refine ⟨_,rfl,.inl ⟨rfl,_,cW.of hl3⟩,_,rfl,m,CM,dm,_,_,rfl,(S3 _ _ hmL nml),TM.cl,TM.n2,rfl,_,rfl,o,_,rfl,qO (p:=pB p) (S3 _ _ hoL nol) ht3 eo,l,_,_,rfl,rfl,hl3,?_,nxt _ _ ?_⟩
      ·rw [List.length_map]
       omega
      ·refine ⟨_,rfl,fun b ob eb nb=>?_,?_,?_⟩
       ·rw [aC nb]
        exact S3 _ _ eb nb
       ·rw [aB,Pr es hs1 ht2 eo]
        simp only [List.map_append,List.map_cons,List.map_nil]
       ·rw [aC nql]
        exact hq3
     ·cases z:dW sv2 with
      |true=>rfl
      |false=>exact absurd (by rw [z];rfl) ht2
    ·rw [Option.isSome_map] at hin
     cases z:bE sg (pB p) with
     |none=>rfl
     |some y=>rw [z] at hin;exact absurd rfl hin
  ·rintro σ H1 ⟨v4,v5,v6,v7,rfl,S1,hl1⟩
   rw [iB,List.take_length] at hl1
   refine ⟨S1 _ _ hdL ndl,?_⟩
   have S2:=Jw hd hl S1
   have hl2:upd H1 d (.dT (aJ cl)) l=some (.lst ((cU cl sg ow).map V.int)):=by rw [aC (Ne.symm ndl)];exact hl1
   exact ⟨_,rfl,k _ l S2 hl hl2⟩
end
end Br1
namespace L2
open PySem PySem.Spec PyProof.Rows
theorem Nd {K:PySem.W.Frag} {a:Addr} {xs:List V} {g:TG} {tb:TS} {D:fZ} {σ:St} {H:Hp} (Pv:Nat->St->Hp->Prop) (h0:Pv 0 σ H) (hl:∀ i σ H,i<=xs.length->Pv i σ H->cW K H a xs)
  (hs:∀ i x σ H T,xs[i]?=some x->Pv i σ H->H T=none->g (.ref T) σ (upd H T (.tup [.int (i:Nat),x])) fun σ2 H2=>tb {D with nx:=Pv (i+1),ct:=Pv (i+1),bk:=D.nx} σ2 H2) (hd:∀ σ H,Pv xs.length σ H->D.nx σ H):
  ∃ W:Nat->Nat->St->Hp->Prop,(∃ m,W 0 m σ H)/\∀ i m σ H,W i m σ H->
   ((Ite K a).stop i H/\D.nx σ H)\/((Ite K a).go i H/\∃ N:St->Hp->Prop,(∀ σ' H',N σ' H'->∃ m',m'<m/\W (i+1) m' σ' H')/\∀ x H',(Ite K a).yld i H x H'->g x σ H' fun σ2 H2=>tb {D with nx:=N,ct:=N,bk:=D.nx} σ2 H2):=by
 refine ⟨fun i m σ H=>m=xs.length - i/\i<=xs.length/\Pv i σ H,⟨xs.length,by simp,Nat.zero_le _,h0⟩,?_⟩
 rintro i m σ H ⟨rfl,hi,p⟩
 have q:=hl i σ H hi p
 by_cases hlt:i<xs.length
 ·refine .inr ⟨⟨xs,xs[i],q,by simp [hlt]⟩,Pv (i+1),fun σ' H' p'=>⟨xs.length - (i+1),by omega,rfl,hlt,p'⟩,fun x H' y=>?_⟩
  obtain ⟨T,x',rfl,hT,rfl,y⟩:=y
  exact hs i x' σ H T (y xs q) p hT
 ·have e:i=xs.length:=by omega
  subst e
  exact .inl ⟨⟨xs,q,Nat.le_refl _⟩,hd σ H p⟩
end L2
namespace Br1
open PySem PySem.Spec PyProof.Rows L2
theorem Ew {ow cl:CL} {i:Nat} {c:Pl×Int} (e:cl[i]?=some c):gA ow (cl.take (i+1))=gA ow (cl.take i)++(bE ow c.1).toList:=by
 unfold gA
 rw [List.take_succ,e,List.filterMap_append]
 show _++List.filterMap _ [c]=_
 cases h:bE ow c.1<;>simp [h]
theorem Wu (ow cl:CL):(gA ow cl).length<=cl.length:=by
 unfold gA
 exact List.length_filterMap_le _ _
theorem Rp {ow cl:CL} (h:¬0<(gA ow cl).length):∀ c∈cl,bE ow c.1=none:=by
 intro c hc
 cases e:bE ow c.1 with
 |none=>rfl
 |some k=>
  have:k∈gA ow cl:=List.mem_filterMap.mpr ⟨c,hc,e⟩
  exact absurd (List.length_pos_of_mem this) h
def Ez (j:Nat) (cl:CL):CL:=cl.map fun c=>(c.1,(j:Int))
theorem Ld {dct cl:CL} {i:Nat} {p:Pl} {s v:Int} (f:Pl×Int->Pl×Int) (hf:∀ c,(f c).1=c.1) (nd:(cl.map (·.1)).Nodup) (fr:∀ c∈cl,bE dct c.1=none) (e:cl[i]?=some (p,s)) (hv:(f (p,s)).2=v):
  lG (aJ (dct++(cl.take i).map f)) (eN p.1 p.2.1 p.2.2) (V.int v)=aJ (dct++(cl.take (i+1)).map f):=by
 rw [Lc]
 ·rw [List.take_succ,e,List.map_append,List.append_assoc]
  show aJ (dct++(_++[(p,v)]))=aJ (dct++(_++[f (p,s)]))
  rw [<-hv]
  have:f (p,s)=(p,(f (p,s)).2):=Prod.ext (hf _) rfl
  rw [<-this]
 ·rw [wG,fr _ (List.mem_of_getElem? e)]
  show bE _ _=none
  refine yK fun c hc z=>?_
  obtain ⟨c0,h0,rfl⟩:=List.mem_map.mp hc
  rw [hf] at z
  exact xJ nd e c0 h0 z
def xV (cl sg ow:CL) (j:Int):List Int:=if 0<(gA ow cl).length then [2,j,hZ (gA ow cl)] else if 0<(cU cl sg ow).length then [3,j,hZ (cU cl sg ow)] else []
section
variable {P:Program} {w:World} {K:PySem.W.Frag} {mg:Str->Option Value} {base:Heap} {C CR CP CB CG CM:Addr}
def xN (CM:Addr):Sp:=fun vs H Q _=>∃ (d m dm wr s o:Addr) (cl sg ow:CL) (j:Int),vs=[.ref m,.ref d,.int j]/\H m=some (.ins CM dm (Go s o wr))/\H d=some (.dT (aJ cl))/\H s=some (.dT (aJ sg))/\H o=some (.dT (aJ ow))/\d≠s/\d≠o/\(∀ p,(bE sg p).isSome=true->(bE ow p).isSome=true)/\cl.length<20000/\
 ∀ (H':Hp) (l:Addr),aL H H'->H l=none->H' l=some (.lst ((xV cl sg ow j).map V.int))->Q (.ref l) H'
abbrev Ko:List Str:=["room","cells","j","hit","blocked","place"]
theorem nY:aO Ko ["room","cells","j"] (aG qU):=⟨rfl,rfl,rfl,by decide+kernel,rfl,by decide+kernel,by decide+kernel⟩
theorem Nk {f:Addr} {fd:FuncData} (F:fE K "wrong_with" "wrong_with" qU f fd) (TM:RmT K CM) (hlen:mg "len"=none) (hmin:mg "min"=none) (L1:dL P w K mg base "blocked_lines" bU 2 ["cells","room"] (rE CM)):bV P w K mg base bU 3 f fd ["room","cells","j"] (xN CM):=by
 obtain ⟨g1,gd1,G1,b1,k1,h1⟩:=L1.ex
 refine F.ok nY (fun vs H Q E h=>?_) (fun cdv A outer s H vs Q E hr h=>?_)
 ·obtain ⟨d,m,dm,wr,s,o,cl,sg,ow,j,rfl,_⟩:=h
  rfl
 ·obtain ⟨d,m,dm,wr,s,o,cl,sg,ow,j,rfl,hm,hd,hs,ho,nds,ndo,sub,ln,k⟩:=h
  have hr2:=hr.mono (j:=2) (by decide)
  have hu:=lU hr
  have hsz:=fN
  refine ⟨_,aF (kW (wT (i:=3) (tt:=tB (aA4 (dD 5) (Tp K (dD 0) "owners"))) (te:=Xm (Tp K (dD 0) "owners") (dD 5)) (own:=[("place",5)]) rfl nY.nd rfl rfl rfl (Ka (pv 1)) (eW (N:=Ko) (sc:=aG qU) (by decide+kernel))
     (fun _ _ _ _ _=>bH (i:=5) nY.nd rfl (Or.inl rfl)) (fun _ _ _ _ _=>Uo (dR (sM hu (pv 5) (aT (pv 0) rfl)))) (fun _ _ _ _ _=>pR hu (aT (pv 0) rfl) (pv 5) (fun _ _=>rfl))))
   (aF (eG (dR (rB (bQ bW (by rfl) hlen PySem.boot_len (aA (pv 3) aE)) aI)) (aH (aU (eE (aA aI (aA (pv 2) (aA (bQ (vB rfl) (by rfl) hmin boot_min (aA (pv 3) aE)) aE)))))) cC)
   (aF (bI (i:=4) nY.nd rfl (Or.inl rfl) (aP G1 hr2 (by rfl) h1 k1 b1 .nil aX (aA (pv 1) (aA (pv 0) aE))))
   (aF (eG (dR (rB (bQ bW (by rfl) hlen PySem.boot_len (aA (pv 4) aE)) aI)) (aH (aU (eE (aA aI (aA (pv 2) (aA (bQ (vB rfl) (by rfl) hmin boot_min (aA (pv 4) aE)) aE)))))) cC)
   (aH (aU (eE aE)))))),?_⟩
  refine ⟨d,_,hd,trivial,fun od=>?_⟩
  have nmd:m≠d:=fun z=>by rw [z,hd] at hm;cases hm
  have hdL:upd H d (.frz od (.dT (aJ cl))) d=some (.frz od (.dT (aJ cl))):=aB
  have hoL:upd H d (.frz od (.dT (aJ cl))) o=some (.dT (aJ ow)):=by rw [aC (Ne.symm ndo)];exact ho
  have hmL:upd H d (.frz od (.dT (aJ cl))) m=some (.ins CM dm (Go s o wr)):=by rw [aC nmd];exact hm
  refine ⟨_,rfl,d,od,rfl,.inr ⟨aJ cl,hdL,fun Dl hDl=>?_⟩⟩
  refine Ep (fun i H'=>aL (upd H d (.frz od (.dT (aJ cl)))) H'/\H' Dl=some (.lst ((gA ow (cl.take i)).map V.int))) ⟨aL.new hDl,aB⟩ (fun i H' _ p=>p.1 _ _ hdL) ?_ ?_
  ·rintro i kk vv q H5 e5 ⟨S5,hD5⟩ hq
   obtain ⟨p,sv,e6,rfl,rfl⟩:=jK e5
   have hi:i<cl.length:=(List.getElem?_eq_some_iff.mp e6).1
   refine ⟨rfl,_,rfl,_,rfl,m,CM,dm,_,_,rfl,S5 _ _ hmL,TM.cl,TM.n2,rfl,o,_,rfl,wS (p:=p) (S5 _ _ hoL) hq,_,rfl,cF (fun hin=>?_) (fun hin=>?_)⟩
   ·rw [Option.isSome_map] at hin
    obtain ⟨ov,eo⟩:=Option.isSome_iff_exists.mp hin
    refine ⟨_,rfl,m,CM,dm,_,_,rfl,S5 _ _ hmL,TM.cl,TM.n2,rfl,_,rfl,o,_,rfl,qO (p:=p) (S5 _ _ hoL) hq eo,_,hD5,?_,fun b2 ob eb2=>?_,?_⟩
    ·rw [List.length_map]
     have:=Wu ow (cl.take i)
     rw [List.length_take] at this
     omega
    ·rw [aC (aD eb2 hDl)]
     exact S5 _ _ eb2
    ·rw [aB,Ew e6]
     show some (HO.lst _)=some (HO.lst ((gA ow (cl.take i)++(bE ow p).toList).map V.int))
     rw [eo,List.map_append]
     rfl
   ·refine ⟨S5,?_⟩
    rw [Option.isSome_map] at hin
    rw [Ew e6]
    show _=some (HO.lst ((gA ow (cl.take i)++(bE ow p).toList).map V.int))
    cases z:bE ow p with
    |none=>show _=some (HO.lst ((gA ow (cl.take i)++[]).map V.int));rw [List.append_nil];exact hD5
    |some y=>rw [z] at hin;exact absurd rfl hin
  ·rintro H5 ⟨S5,hD5⟩
   rw [iB,List.take_length] at hD5
   refine ⟨S5 _ _ hdL,?_⟩
   have S6:=iL hd S5
   have nDd:Dl≠d:=fun z=>by rw [z,hdL] at hDl;cases hDl
   have hDH:H Dl=none:=by rw [aC nDd] at hDl;exact hDl
   have hD6:upd H5 d (.dT (aJ cl)) Dl=some (.lst ((gA ow cl).map V.int)):=by rw [aC nDd];exact hD5
   have hd6:upd H5 d (.dT (aJ cl)) d=some (.dT (aJ cl)):=aB
   generalize upd H5 d (.dT (aJ cl))=H6 at S6 hD6 hd6
   unfold xV at k
   refine ⟨_,rfl,Dl,_,rfl,.inl (cW.of hD6),_,_,rfl,rfl,_,rfl,cF (fun hh=>?_) (fun hh=>?_)⟩
   ·have hh:(0:Int)<(((gA ow cl).map V.int).length:Int):=of_decide_eq_true hh
    rw [List.length_map] at hh
    have hh2:0<(gA ow cl).length:=by omega
    rw [if_pos hh2] at k
    refine ⟨_,rfl,_,rfl,Dl,_,rfl,cW.of hD6,hh2,fun mn hm1 hm2=>⟨by show 3<=sizeLine;decide,fun l hl=>?_⟩⟩
    refine k _ l (S6.trans (aL.new hl)) (S6.free hl) ?_
    rw [aB,<-Ln hm1 hm2]
    rfl
   ·have hh:¬(0:Int)<(((gA ow cl).map V.int).length:Int):=fun z=>hh (decide_eq_true z)
    rw [List.length_map] at hh
    have hh2:¬0<(gA ow cl).length:=by omega
    rw [if_neg hh2] at k
    refine ⟨_,rfl,_,rfl,d,m,dm,wr,s,o,cl,sg,ow,rfl,S6 _ _ hm,hd6,S6 _ _ hs,S6 _ _ ho,nds,ndo,sub,ln,fun H7 bl S7 hb6 hb7=>?_⟩
    have S67:=S6.trans S7
    refine ⟨_,rfl,bl,_,rfl,.inl (cW.of hb7),_,_,rfl,rfl,_,rfl,cF (fun hh=>?_) (fun hh=>?_)⟩
    ·have hh:(0:Int)<(((cU cl sg ow).map V.int).length:Int):=of_decide_eq_true hh
     rw [List.length_map] at hh
     have hh3:0<(cU cl sg ow).length:=by omega
     rw [if_pos hh3] at k
     refine ⟨_,rfl,_,rfl,bl,_,rfl,cW.of hb7,hh3,fun mn hm1 hm2=>⟨by show 3<=sizeLine;decide,fun l hl=>?_⟩⟩
     refine k _ l (S67.trans (aL.new hl)) (S67.free hl) ?_
     rw [aB,<-Ln hm1 hm2]
     rfl
    ·have hh:¬(0:Int)<(((cU cl sg ow).map V.int).length:Int):=fun z=>hh (decide_eq_true z)
     rw [List.length_map] at hh
     have hh3:¬0<(cU cl sg ow).length:=by omega
     rw [if_neg hh3] at k
     exact ⟨Nat.zero_le _,fun l hl=>k _ l (S67.trans (aL.new hl)) (S67.free hl) aB⟩
end
theorem Dg {prs:List aM} (ok:∀ pr∈prs,dN pr) {x:List Nat} (hx:Ch prs.length x):La prs (xY x)=jJ (rM prs x) (dZ x 2) (dZ x 3) (dZ x 4):=by
 rw [<-Ae ok hx.2]
 obtain ⟨a0,a1,a2,a3,a4,a5,rfl⟩:=Xp hx.1
 show nV prs ((a0:Int).toNat) ((a5:Int).toNat) a2 a3 a4=nV prs a0 a5 a2 a3 a4
 rw [Int.toNat_natCast,Int.toNat_natCast]
theorem Uj {prs:List aM} {ls:List (List Nat)} {j:Nat} {x:List Nat} (e:ls[j]?=some x):wL prs (ls.take (j+1))=wL prs (ls.take j)++[(Br.Line.shape (prs.map cI) (fP x),dA prs x)]:=by
 unfold wL
 rw [List.take_succ,e,List.map_append]
 rfl
theorem Yq {prs:List aM} {ls:List (List Nat)}:(wL prs ls).length=ls.length:=List.length_map _
def Hu (CM:Addr) (H:Hp) (m:Addr) (prs:List aM) (ls:List (List Nat)):Prop:=∃ (dm s o wr:Addr) (sg ow:CL),H m=some (.ins CM dm (Go s o wr))/\H wr=some (.lst ((cM prs 0 [] [] ls).map V.int))/\H s=some (.dT (aJ sg))/\H o=some (.dT (aJ ow))/\s≠o/\
 (cM prs 0 [] [] ls=[]->sg=Xs (wL prs ls)/\ow=Vh (wL prs ls))/\sg.length<=5120000/\ow.length<=5120000
structure FW (CM:Addr) (H:Hp) (m dm s o:Addr) (prs:List aM) (ls:List (List Nat)) (j:Nat) (sg ow:CL) (H':Hp):Prop where
 sm:aL H H'
 hm:∃ wr,H' m=some (.ins CM dm (Go s o wr))/\H' wr=some (.lst [])
 hs:H' s=some (.dT (aJ sg))
 ho:H' o=some (.dT (aJ ow))
 sub:∀ p,(bE sg p).isSome=true->(bE ow p).isSome=true
 l1:sg.length<=j * 20000
 l2:ow.length<=j * 20000
 er:cM prs 0 [] [] ls=cM prs j sg ow (ls.drop j)
 eg:sg=Xs (wL prs (ls.take j))
 eo:ow=Vh (wL prs (ls.take j))
theorem FW.same {CM:Addr} {H:Hp} {m dm s o:Addr} {prs:List aM} {ls:List (List Nat)} {j:Nat} {sg ow:CL} {H1 H2:Hp} (f:FW CM H m dm s o prs ls j sg ow H1) (S:aL H1 H2):FW CM H m dm s o prs ls j sg ow H2:=by
 obtain ⟨wr,h1,h2⟩:=f.hm
 exact ⟨f.sm.trans S,⟨wr,S _ _ h1,S _ _ h2⟩,S _ _ f.hs,S _ _ f.ho,f.sub,f.l1,f.l2,f.er,f.eg,f.eo⟩
theorem Wp {K:PySem.W.Frag} {ta tv:TE} {f:Str} {B:TS} {D:fZ} {σ:List (Option V)} {H:Hp} (M:V->Hp->Prop) (h1:∀ Q:VK,(∀ y H',M y H'->Q y H')->tv σ H Q) (h2:∀ y H',M y H'->aAn K ta (tC y) f {D with nx:=B D} σ H'):Ei (aAn K ta tv f) B D σ H:=h1 _ h2
section
variable {P:Program} {w:World} {K:PySem.W.Frag} {mg:Str->Option Value} {base:Heap} {C CR CP CB CG CM:Addr}
def Gq (K:PySem.W.Frag) (CP CM:Addr):Sp:=fun vs H Q _=>∃ (pa la:Addr) (bs ts:List Addr) (prs:List aM) (ls:List (List Nat)),vs=[.ref pa,.ref la]/\H pa=some (.lst (bs.map V.ref))/\dI CP H bs prs/\H la=some (.lst (ts.map V.ref))/\jA H ts ls/\
 (∀ pr∈prs,dN pr)/\(∀ x∈ls,Ch prs.length x/\dZ x 5<=3)/\ls.length<=256/\∀ (H':Hp) (m:Addr),aL H H'->H m=none->Hu CM H' m prs ls->Q (.ref m) H'
abbrev aBd:List Str:=["parts","lines","room","j","put","cells","place","sign"]
theorem lI:aO aBd ["parts","lines"] (aG Lb):=⟨rfl,rfl,rfl,by decide+kernel,rfl,by decide+kernel,by decide+kernel⟩
theorem Wt {f:Addr} {fd:FuncData} (F:fE K "fill_room" "fill_room" Lb f fd) (TM:RmT K CM) (RM:RmM P w K mg base CM) (hlen:mg "len"=none) (henum:mg "enumerate"=none) (L1:dL P w K mg base "cells_in_room" bU 5 ["parts","put"] (Hl K CP))
  (L2:dL P w K mg base "leaves_room" bU 2 ["parts","put"] (qM K CP)) (L3:dL P w K mg base "wrong_with" bU 3 ["room","cells","j"] (xN CM)):bV P w K mg base bU 6 f fd ["parts","lines"] (Gq K CP CM):=by
 obtain ⟨g1,gd1,G1,b1,k1,h1⟩:=L1.ex
 obtain ⟨g2,gd2,G2,b2,k2,h2⟩:=L2.ex
 obtain ⟨g3,gd3,G3,b3,k3,h3⟩:=L3.ex
 obtain ⟨fm,fmd,MM,GM,bM⟩:=RM.ex
 refine F.ok lI (fun vs H Q E h=>?_) (fun cdv A outer s H vs Q E hr h=>?_)
 ·obtain ⟨pa,la,bs,ts,prs,ls,rfl,_⟩:=h
  rfl
 ·obtain ⟨pa,la,bs,ts,prs,ls,rfl,hpa,hps,hla,hls,hok,hln,h256,k⟩:=h
  have hr2:=hr.mono (j:=2) (by decide)
  have hr3:=hr.mono (j:=3) (by decide)
  have hu:=lU hr
  have hsz:=fN
  refine ⟨_,aF (bI (i:=2) lI.nd rfl (Or.inl rfl) (Qa MM GM hr2 (by rfl) RM.mg bM .nil aX))
   (aF (eQ PassesOwn.never rfl (Tv (by rfl) henum (aA (pv 1) aE)) (mP rfl (dG (bH (i:=3) lI.nd rfl (Or.inl rfl)) (dG (bH (i:=4) lI.nd rfl (Or.inl rfl)) jH)))
    (aF (bI (i:=5) lI.nd rfl (Or.inl rfl) (aP G1 hr (by rfl) h1 k1 b1 .nil aX (aA (pv 0) (aA (pv 4) aE))))
    (aF (dX (pv 2) (Rz (eP (aP G2 hr2 (by rfl) h2 k2 b2 .nil aX (aA (pv 0) (aA (pv 4) aE)))) (eE (aA aI (aA (pv 3) (aA (pv 3) aE)))) (aP G3 hr3 (by rfl) h3 k3 b3 .nil aX (aA (pv 2) (aA (pv 5) (aA (pv 3) aE))))) rfl)
    (aF (eG (dR (rB (bQ bW (by rfl) hlen PySem.boot_len (aA (aT (pv 2) rfl) aE)) aI)) (aH (aU (pv 2))) cC)
    (aH (kW (eQ PassesOwn.never rfl (jZ (pv 5)) (mP rfl (dG (bH (i:=6) lI.nd rfl (Or.inl rfl)) (dG (bH (i:=7) lI.nd rfl (Or.inl rfl)) jH)))
     (aF (nS hu (aT (pv 2) rfl) (pv 6) (pv 7) rfl) (aH (nS hu (aT (pv 2) rfl) (pv 6) (pv 3) rfl))))))))))
   (aH (aU (pv 2)))),?_⟩
  intro m dm hmH hdmH hne
  refine ⟨m,dm,rfl,aB,fun H1 s0 o0 wr0 hm1 hs1 ho1 hw1 fs fo fw0 nso sx=>⟨rfl,?_⟩⟩
  have S1:aL H H1:=fun y o e=>sx y o (by rw [aC (aD e hmH),aC (aD e hdmH)];exact e) (aD e hmH)
  have nsm:s0≠m:=fun z=>by rw [z,aB] at fs;cases fs
  have nom:o0≠m:=fun z=>by rw [z,aB] at fo;cases fo
  have nsd:s0≠dm:=fun z=>by rw [z,aC hne,aB] at fs;cases fs
  have nod:o0≠dm:=fun z=>by rw [z,aC hne,aB] at fo;cases fo
  have hsH:H s0=none:=by rw [aC nsm,aC nsd] at fs;exact fs
  have hoH:H o0=none:=by rw [aC nom,aC nod] at fo;exact fo
  have hl2:ts.length=ls.length:=Paired.length hls
  refine ⟨_,rfl,la,_,rfl,cW.of (S1 _ _ hla),?_⟩
  refine Nd (xs:=ts.map V.ref) (fun j σ H'=>∃ sg ow v3 v4 v5 v6 v7,σ=[some (.ref pa),some (.ref la),some (.ref m),v3,v4,v5,v6,v7]/\FW CM H m dm s0 o0 prs ls j sg ow H')
   ⟨[],[],none,none,none,none,none,rfl,S1,⟨wr0,hm1,hw1⟩,hs1,ho1,fun p z=>(by cases z),(by simp),(by simp),rfl,rfl,rfl⟩ ?_ ?_ ?_
  ·rintro i σ H2 hi ⟨sg,ow,v3,v4,v5,v6,v7,rfl,fw⟩
   exact cW.of (fw.sm _ _ hla)
  ·rintro j xv σ H2 T ex ⟨sg,ow,v3,v4,v5,v6,v7,rfl,fw⟩ hT
   have hj:j<ls.length:=by
    have:=(List.getElem?_eq_some_iff.mp ex).1
    rwa [List.length_map,hl2] at this
   obtain ⟨x,elx⟩:∃ x,ls[j]?=some x:=⟨_,List.getElem?_eq_getElem hj⟩
   obtain ⟨t,et,ht,hx6⟩:=cA hls elx
   rw [List.getElem?_map,et] at ex
   cases ex
   obtain ⟨hx0,hx5⟩:=hln x (List.mem_of_getElem? elx)
   have edrop:ls.drop j=x::ls.drop (j+1):=by
    obtain ⟨h0,h1⟩:=List.getElem?_eq_some_iff.mp elx
    rw [List.drop_eq_getElem_cons h0,h1]
   have er:=fw.er
   rw [edrop,cM] at er
   have ezs:=Uj (prs:=prs) elx
   have etk:(ls.take j).length=j:=by rw [List.length_take];omega
   obtain ⟨sr,_⟩:=pX hok hx0.2
   have clnd:=sr.nd
   have ST:=aL.new (o:=.tup [.int (j:Nat),.ref t]) hT
   refine ⟨T,_,rfl,cN.of aB,rfl,_,_,rfl,_,_,rfl,rfl,?_⟩
   have fw3:=fw.same ST
   generalize upd H2 T (.tup [.int (j:Nat),.ref t])=H3 at fw3
   have hps3:dI CP H3 bs prs:=Paired.mapP hps fun _ _ z=>⟨z.1.same fw3.sm,z.2⟩
   refine ⟨_,rfl,_,rfl,pa,t,bs,prs,x,rfl,cW.of (fw3.sm _ _ hpa),hps3,hok,fw3.sm _ _ ht,hx0,hx5,fun H4 d S4 hd3 hd4=>?_⟩
   have fw4:=fw3.same S4
   have nds:d≠s0:=fun z=>by rw [z,fw3.hs] at hd3;cases hd3
   have ndo:d≠o0:=fun z=>by rw [z,fw3.ho] at hd3;cases hd3
   have clln:(dA prs x).length<20000:=by
    obtain ⟨pr,epr⟩:∃ pr,prs[dZ x 0]?=some pr:=⟨_,List.getElem?_eq_getElem hx0.2⟩
    obtain ⟨b,eb,hbp,hbo⟩:=cA hps epr
    have tok:uB (wE pr):=⟨(Qy (hok pr (List.mem_of_getElem? epr))).nd,hbo.len⟩
    have etp:rM prs x=gK (wE pr) (dZ x 5):=by
     unfold rM
     rw [epr]
     rfl
    unfold dA En
    rw [List.length_map,etp]
    exact (tok.turns _).ln
   have hlv:=Dg hok hx0
   generalize dA prs x=cl at er hd4 clnd clln ezs
   have hps4:dI CP H4 bs prs:=Paired.mapP hps fun _ _ z=>⟨z.1.same fw4.sm,z.2⟩
   obtain ⟨wr,hm4,hwr4⟩:=fw4.hm
   have nmd:m≠d:=fun z=>by rw [z,hd4] at hm4;cases hm4
   refine Xk ?_
   dsimp only
   refine Wp (fun y H5=>∃ (l:Addr) (ws:List Int),y=.ref l/\aL H4 H5/\H4 l=none/\H5 l=some (.lst (ws.map V.int))/\(0<ws.length->cM prs 0 [] [] ls=ws)/\(ws=[]->cM prs 0 [] [] ls=cM prs (j+1) (sg++cl) (ow++cl.map fun c=>(c.1,(j:Int))) (ls.drop (j+1))/\¬0<(gA ow cl).length)) (fun Q2 nxt=>?_) ?_
   ·have hput:vM H4 t (xY x):=⟨by rw [<-Si];exact fw4.sm _ _ ht,by unfold xY;rw [List.length_map];exact hx6⟩
    have hy0:iN (xY x) 0=(dZ x 0:Int):=by
     obtain ⟨a0,a1,a2,a3,a4,a5,rfl⟩:=Xp hx6
     rfl
    have hy5:iN (xY x) 5=(dZ x 5:Int):=by
     obtain ⟨a0,a1,a2,a3,a4,a5,rfl⟩:=Xp hx6
     rfl
    refine ⟨_,rfl,_,rfl,pa,t,bs,prs,xY x,rfl,cW.of (fw4.sm _ _ hpa),hps4,hput,by rw [hy0];omega,by rw [hy0,Int.toNat_natCast];exact hx0.2,by rw [hy5];omega,fun H5 S5=>⟨_,rfl,cF (fun hl=>?_) (fun hl=>?_)⟩⟩
    ·rw [hlv] at hl
     rw [if_pos hl] at er
     refine ⟨_,rfl,_,rfl,by show 3<=sizeLine;decide,fun l hl=>nxt _ _ ⟨l,[1,(j:Int),(j:Int)],rfl,S5.trans (aL.new hl),S5.free hl,aB,fun _=>er,fun z=>(by cases z)⟩⟩
    ·rw [hlv] at hl
     rw [if_neg hl] at er
     refine ⟨_,rfl,_,rfl,_,rfl,d,m,dm,wr,s0,o0,cl,sg,ow,(j:Int),rfl,S5 _ _ hm4,S5 _ _ hd4,S5 _ _ fw4.hs,S5 _ _ fw4.ho,nds,ndo,fw.sub,clln,fun H6 l S6 hlf hl6=>nxt _ _ ⟨l,xV cl sg ow (j:Int),rfl,S5.trans S6,S5.free hlf,hl6,fun hw=>?_,fun hw=>?_⟩⟩
     ·unfold xV at hw ⊢
      by_cases hh:0<(gA ow cl).length
      ·rw [if_pos hh] at er ⊢
       exact er
      ·rw [if_neg hh] at er hw ⊢
       by_cases hb:0<(cU cl sg ow).length
       ·rw [if_pos hb] at er ⊢
        exact er
       ·rw [if_neg hb] at hw
        cases hw
     ·unfold xV at hw
      by_cases hh:0<(gA ow cl).length
      ·rw [if_pos hh] at hw
       cases hw
      ·rw [if_neg hh] at er hw
       by_cases hb:0<(cU cl sg ow).length
       ·rw [if_pos hb] at hw
        cases hw
       ·rw [if_neg hb] at er
        exact ⟨er,hh⟩
   ·rintro y H5 ⟨l,ws,rfl,S5,hlf,hl5,ew1,ew2⟩
    have nlm:l≠m:=fun z=>by rw [z,hm4] at hlf;cases hlf
    refine ⟨_,rfl,m,CM,dm,_,rfl,S5 _ _ hm4,TM.cl,TM.n3,(by show 3<1000;decide),?_⟩
    have hm6:upd H5 m (.ins CM dm (Go s0 o0 l)) m=some (.ins CM dm (Go s0 o0 l)):=aB
    have hl6:upd H5 m (.ins CM dm (Go s0 o0 l)) l=some (.lst (ws.map V.int)):=by rw [aC nlm];exact hl5
    have S6:∀ y o,H4 y=some o->y≠m->upd H5 m (.ins CM dm (Go s0 o0 l)) y=some o:=fun y o e n=>by rw [aC n];exact S5 _ _ e
    have S6H:aL H (upd H5 m (.ins CM dm (Go s0 o0 l))):=fun y o e=>S6 y o (fw4.sm _ _ e) (aD e hmH)
    have nsm':s0≠m:=nsm
    have hs6:=S6 _ _ fw4.hs nsm
    have ho6:=S6 _ _ fw4.ho nom
    have hd6:=S6 _ _ hd4 (Ne.symm nmd)
    show Ei _ _ _ _ (upd H5 m (.ins CM dm (Go s0 o0 l)))
    generalize upd H5 m (.ins CM dm (Go s0 o0 l))=H6 at hm6 hl6 S6H hs6 ho6 hd6
    refine ⟨_,rfl,m,CM,dm,_,_,rfl,hm6,TM.cl,TM.n3,rfl,l,_,rfl,.inl (cW.of hl6),_,_,rfl,rfl,_,rfl,cF (fun hh=>?_) (fun hh=>?_)⟩
    ·have hh:(0:Int)<((ws.map V.int).length:Int):=of_decide_eq_true hh
     rw [List.length_map] at hh
     have e1:=ew1 (by omega)
     refine ⟨_,rfl,k _ m S6H hmH ⟨dm,s0,o0,l,sg,ow,hm6,by rw [e1];exact hl6,hs6,ho6,nso,fun z=>?_,by have:=fw.l1;omega,by have:=fw.l2;omega⟩⟩
     rw [e1] at z
     rw [z] at hh
     cases hh
    ·have hh:¬(0:Int)<((ws.map V.int).length:Int):=fun z=>hh (decide_eq_true z)
     rw [List.length_map] at hh
     have ews:ws=[]:=List.eq_nil_of_length_eq_zero (by omega)
     obtain ⟨er2,hh2⟩:=ew2 ews
     subst ews
     have frO:=Rp hh2
     have frS:∀ c∈cl,bE sg c.1=none:=fun c hc=>by
      cases z:bE sg c.1 with
      |none=>rfl
      |some y=>
       have:=fw.sub c.1 (by rw [z];rfl)
       rw [frO c hc] at this
       cases this
     refine ⟨d,_,hd6,trivial,fun od2=>?_⟩
     have hdM:upd H6 d (.frz od2 (.dT (aJ cl))) d=some (.frz od2 (.dT (aJ cl))):=aB
     have hsM:upd H6 d (.frz od2 (.dT (aJ cl))) s0=some (.dT (aJ sg)):=by rw [aC (Ne.symm nds)];exact hs6
     have hoM:upd H6 d (.frz od2 (.dT (aJ cl))) o0=some (.dT (aJ ow)):=by rw [aC (Ne.symm ndo)];exact ho6
     have hmM:upd H6 d (.frz od2 (.dT (aJ cl))) m=some (.ins CM dm (Go s0 o0 l)):=by rw [aC nmd];exact hm6
     refine ⟨_,rfl,d,od2,_,rfl,hdM,?_⟩
     refine iH (fun i σ H'=>∃ v6 v7,σ=[some (.ref pa),some (.ref la),some (.ref m),some (.int (j:Nat)),some (.ref t),some (.ref d),v6,v7]/\(∀ y ob,upd H6 d (.frz od2 (.dT (aJ cl))) y=some ob->y≠s0->y≠o0->H' y=some ob)/\H' s0=some (.dT (aJ (sg++(cl.take i).map id)))/\H' o0=some (.dT (aJ (ow++Ez j (cl.take i)))))
      ⟨_,_,rfl,fun y ob ey _ _=>ey,by simpa using hsM,by simpa [Ez] using hoM⟩ ?_ ?_ ?_
     ·rintro i σ H8 hi ⟨v6,v7,rfl,S8,_⟩
      exact S8 _ _ hdM nds ndo
     ·rintro i σ H8 T8 kk vv q e8 ⟨v6,v7,rfl,S8,hs8,ho8⟩ hT8 hq
      obtain ⟨p,sv,e9,rfl,rfl⟩:=jK e8
      have hi:i<cl.length:=(List.getElem?_eq_some_iff.mp e9).1
      have ST8:=aL.new (o:=.tup [.ref q,.int sv]) hT8
      refine ⟨T8,_,rfl,cN.of aB,rfl,_,_,rfl,_,_,rfl,rfl,?_⟩
      have hq9:=ST8 _ _ hq
      have hs9:=ST8 _ _ hs8
      have ho9:=ST8 _ _ ho8
      have hm9:=ST8 _ _ (S8 _ _ hmM (Ne.symm nsm) (Ne.symm nom))
      generalize upd H8 T8 (.tup [.ref q,.int sv])=H9 at ST8 hq9 hs9 ho9 hm9
      have nqs:q≠s0:=fun z=>by rw [z,hs9] at hq9;cases hq9
      have hj2:j<=256:=by omega
      have hl1:=fw.l1
      have hl2':=fw.l2
      refine ⟨_,rfl,_,rfl,m,CM,dm,_,_,rfl,hm9,TM.cl,TM.n1,rfl,_,rfl,s0,_,rfl,yC.t (k:=eN p.1 p.2.1 p.2.2) hs9 hq9 (by rw [iB,List.length_append,List.length_map,List.length_take];omega),?_⟩
      have ps:=Ld (dct:=sg) id (fun _=>rfl) clnd frS e9 (v:=sv) rfl
      rw [ps]
      have ho10:upd H9 s0 (.dT (aJ (sg++(cl.take (i+1)).map id))) o0=some (.dT (aJ (ow++Ez j (cl.take i)))):=by rw [aC (Ne.symm nso)];exact ho9
      have hq10:upd H9 s0 (.dT (aJ (sg++(cl.take (i+1)).map id))) q=some (.tup ((eN p.1 p.2.1 p.2.2).map kV)):=by rw [aC nqs];exact hq9
      have hm10:upd H9 s0 (.dT (aJ (sg++(cl.take (i+1)).map id))) m=some (.ins CM dm (Go s0 o0 l)):=by rw [aC (Ne.symm nsm)];exact hm9
      refine ⟨_,rfl,_,rfl,m,CM,dm,_,_,rfl,hm10,TM.cl,TM.n2,rfl,_,rfl,o0,_,rfl,yC.t (k:=eN p.1 p.2.1 p.2.2) ho10 hq10 (by unfold Ez;rw [iB,List.length_append,List.length_map,List.length_take];omega),?_⟩
      have po:=Ld (dct:=ow) (fun c=>(c.1,(j:Int))) (fun _=>rfl) clnd frO e9 (v:=(j:Int)) rfl
      have po:lG (aJ (ow++Ez j (cl.take i))) (eN p.1 p.2.1 p.2.2) (V.int (j:Int))=aJ (ow++Ez j (cl.take (i+1))):=po
      refine ⟨_,_,rfl,fun y ob ey n1 n2=>?_,?_,?_⟩
      ·rw [aC n2,aC n1]
       exact ST8 _ _ (S8 _ _ ey n1 n2)
      ·rw [aC nso,aB]
      ·rw [aB]
       exact congrArg (fun z=>some (HO.dT z)) po
     ·rintro σ H8 ⟨v6,v7,rfl,S8,hs8,ho8⟩
      rw [iB,List.take_length] at hs8 ho8
      rw [List.map_id] at hs8
      refine ⟨S8 _ _ hdM nds ndo,?_⟩
      have e9:((j+1) * 20000)=j * 20000+20000:=by omega
      have hl1:=fw.l1
      have hl2':=fw.l2
      have nls:l≠s0:=fun z=>by rw [z,fw4.hs] at hlf;cases hlf
      have nlo:l≠o0:=fun z=>by rw [z,fw4.ho] at hlf;cases hlf
      have nld:l≠d:=fun z=>by rw [z,hd4] at hlf;cases hlf
      refine ⟨sg++cl,ow++Ez j cl,_,_,_,_,_,rfl,fun y ob ey=>?_,⟨l,?_,?_⟩,?_,?_,fun p hp=>?_,?_,?_,?_,?_,?_⟩
      ·have n1:y≠s0:=aD ey hsH
       have n2:y≠o0:=aD ey hoH
       have h7:=S6H _ _ ey
       by_cases hy:y=d
       ·rw [hy] at h7 ⊢
        rw [aB,<-h7,hd6]
       ·rw [aC hy]
        exact S8 _ _ (by rw [aC hy];exact h7) n1 n2
      ·rw [aC nmd]
       exact S8 _ _ hmM (Ne.symm nsm) (Ne.symm nom)
      ·rw [aC nld]
       exact S8 _ _ (by rw [aC nld];exact hl6) nls nlo
      ·rw [aC (Ne.symm nds)]
       exact hs8
      ·rw [aC (Ne.symm ndo)]
       exact ho8
      ·rw [dM] at hp ⊢
       obtain ⟨c,hc,e⟩:=hp
       rcases List.mem_append.mp hc with hc|hc
       ·obtain ⟨c2,hc2,e2⟩:=dM.mp (fw.sub p (dM.mpr ⟨c,hc,e⟩))
        exact ⟨c2,List.mem_append_left _ hc2,e2⟩
       ·exact ⟨(c.1,(j:Int)),List.mem_append_right _ (List.mem_map.mpr ⟨c,hc,rfl⟩),e⟩
      ·rw [List.length_append]
       omega
      ·unfold Ez
       rw [List.length_append,List.length_map]
       omega
      ·exact er2
      ·rw [ezs,wM,<-fw.eg]
      ·rw [ezs,wO,<-fw.eo,Yq,etk]
       rfl
  ·rintro σ H2 ⟨sg,ow,v3,v4,v5,v6,v7,rfl,fw⟩
   have er:=fw.er
   rw [List.length_map,hl2,List.drop_length] at er
   have er:cM prs 0 [] [] ls=[]:=er
   have eg:=fw.eg
   have eo:=fw.eo
   rw [List.length_map,hl2,List.take_length] at eg eo
   have l1:=fw.l1
   have l2:=fw.l2
   rw [List.length_map,hl2] at l1 l2
   obtain ⟨wr,e1,e2⟩:=fw.hm
   exact ⟨_,rfl,k _ m fw.sm hmH ⟨dm,s0,o0,wr,sg,ow,e1,by rw [er];exact e2,fw.hs,fw.ho,nso,fun _=>⟨eg,eo⟩,by omega,by omega⟩⟩
end
theorem Aw {l:List Int}:∀ {ms:List Nat} {p:Nat} {r:List Nat×Nat},cY l ms p=.ok r->∀ (i v m:Nat),r.1[i]?=some v->ms[i]?=some m->v<=m
 |[],p,r,h=>by
  intro i v m h1 h2
  simp at h2
 |m0::ms,p,r,h=>by
  rw [cY] at h
  obtain ⟨p1,_,h⟩:=aK h
  obtain ⟨u,eu,h⟩:=aK h
  obtain ⟨q,eq,rfl⟩:=eZ h
  intro i v m h1 h2
  cases i with
  |zero=>
   cases h1
   cases h2
   exact (lA (lo:=0) eu).2
  |succ i=>exact Aw eq i v m h1 h2
theorem Ng {nss:List (List Int)} {l:List Int} {p:Nat} {q:List Nat×Nat} (h:eB nss l p=.ok q):dZ q.1 5<=3:=by
 unfold eB at h
 obtain ⟨p1,_,h⟩:=aK h
 obtain ⟨n,en,h⟩:=aK h
 obtain ⟨r,er,h⟩:=aK h
 obtain ⟨_,_,h⟩:=aK h
 cases h
 have hl:=qW (r:=r) er
 have hl:r.1.length=5:=hl
 have e:r.1[4]?=some r.1[4]:=List.getElem?_eq_getElem (by omega)
 have:=Aw er 4 r.1[4] 3 e rfl
 show (n.1::r.1).getD 5 0<=3
 rw [List.getD_eq_getElem?_getD]
 show (r.1[4]?).getD 0<=3
 rw [e]
 exact this
theorem xC {nss:List (List Int)} {l:List Int}:∀ {n p:Nat} {q:List (List Nat)×Nat},cE nss l n p=.ok q->∀ x∈q.1,dZ x 5<=3
 |0,p,q,h=>by cases h;intro x hx;cases hx
 |n+1,p,q,h=>by
  rw [cE] at h
  split at h
  ·cases h;intro x hx;cases hx
  ·obtain ⟨q1,e1,h⟩:=aK h
   obtain ⟨q2,e2,rfl⟩:=eZ h
   intro x hx
   rcases List.mem_cons.mp hx with rfl|hx
   ·exact Ng e1
   ·exact xC e2 x hx
theorem Bp {lc lb:List Int} {prs:List aM} {nm:List Int} {ls:List (List Nat)} (h:dC lc lb=.ok prs nm ls):gY lc=.ok prs/\dH (prs.map (·.name)) lb=.ok (nm,ls):=by
 unfold dC at h
 split at h
 ·cases h
 ·split at h
  ·cases h
  ·rename_i e1
   split at h
   ·split at h
    ·cases h
    ·rename_i e
     cases h
     exact ⟨e1,e⟩
   ·cases h
theorem vX {lc lb:List Int} {prs:List aM} {nm:List Int} {ls:List (List Nat)} (h:dC lc lb=.ok prs nm ls):∀ x∈ls,dZ x 5<=3:=by
 have h:=(Bp h).2
 unfold dH at h
 obtain ⟨_,_,h⟩:=aK h
 obtain ⟨_,_,h⟩:=aK h
 obtain ⟨_,_,h⟩:=aK h
 obtain ⟨r,er,h⟩:=aK h
 split at h
 ·cases h;exact xC er
 ·cases h
def Wy (CG CP CB CM:Addr) (H:Hp) (g:Addr):Tn->Prop
 |.no n=>∃ dx pa,H g=some (.ins CG dx (Cz n 0 pa .non .non))
 |.bad i=>∃ dx pa,H g=some (.ins CG dx (Cz (-5) i pa .non .non))
 |.ok prs nm ls=>∃ dx pa q m bs,H g=some (.ins CG dx (Cz (if cM prs 0 [] [] ls=[] then 0 else -9) 0 pa (.ref q) (.ref m)))/\H pa=some (.lst (bs.map V.ref))/\dI CP H bs prs/\vW CB H q nm ls/\Hu CM H m prs ls/\prs.length<=64
section
variable {P:Program} {w:World} {K:PySem.W.Frag} {mg:Str->Option Value} {base:Heap} {C CR CP CB CG CM:Addr}
def xH (K:PySem.W.Frag) (CG CP CB CM:Addr):Sp:=fun vs H Q _=>∃ (c b:Addr) (lc lb:List Int),vs=[.ref c,.ref b]/\cW K H c (lc.map V.int)/\cW K H b (lb.map V.int)/\∀ (H':Hp) (g:Addr),aL H H'->H g=none->Wy CG CP CB CM H' g (dC lc lb)->Q (.ref g) H'
theorem qQ:aO ["c","b","given"] ["c","b"] (aG lQ):=⟨rfl,rfl,rfl,by decide+kernel,rfl,by decide+kernel,by decide+kernel⟩
theorem Ax {f:Addr} {fd:FuncData} (F:fE K "read_right" "read_right" lQ f fd) (TG:GvT K CG) (TB:BdT K CB) (TM:RmT K CM) (hlen:mg "len"=none) (L1:dL P w K mg base "read_given" bU 9 ["c","b"] (By K CG CP CB)) (L2:dL P w K mg base "fill_room" bU 6 ["parts","lines"] (Gq K CP CM)):bV P w K mg base bU 10 f fd ["c","b"] (xH K CG CP CB CM):=by
 obtain ⟨g1,gd1,G1,b1,k1,h1⟩:=L1.ex
 obtain ⟨g2,gd2,G2,b2,k2,h2⟩:=L2.ex
 refine F.ok qQ (fun vs H Q E h=>?_) (fun cdv A outer s H vs Q E hr h=>?_)
 ·obtain ⟨c,b,lc,lb,rfl,_⟩:=h
  rfl
 ·obtain ⟨c,b,lc,lb,rfl,hc,hb,k⟩:=h
  have hr6:=hr.mono (j:=6) (by decide)
  refine ⟨_,aF (bI (i:=2) qQ.nd rfl (Or.inl rfl) (aP G1 hr (by rfl) h1 k1 b1 .nil aX (aA (pv 0) (aA (pv 1) aE))))
   (aF (eG (hX pY (aT (pv 2) rfl) aI (gX _))
    (aF (dX (pv 2) (aP G2 hr6 (by rfl) h2 k2 b2 .nil aX (aA (aT (pv 2) rfl) (aA (aT (aT (pv 2) rfl) rfl) aE))) rfl)
    (aH (eG (dR (rB (bQ bW (by rfl) hlen PySem.boot_len (aA (aT (aT (pv 2) rfl) rfl) aE)) aI)) (aH (dX (pv 2) (qP lM aI) rfl)) cC))) cC)
   (aH (aU (pv 2)))),?_⟩
  refine ⟨_,rfl,_,rfl,c,b,lc,lb,rfl,hc,hb,fun H1 g S1 hgH hg=>?_⟩
  cases eg:dC lc lb with
  |no n=>
   rw [eg] at k hg
   obtain ⟨dx,pa,hg⟩:=hg
   have hn:=Py eg
   refine ⟨_,rfl,g,CG,dx,_,_,rfl,hg,TG.cl,TG.n1,rfl,rfl,_,rfl,cF (fun e=>?_) (fun e=>?_)⟩
   ·rw [hG] at e
    have:=of_decide_eq_true e
    omega
   ·exact ⟨_,rfl,k _ g S1 hgH ⟨dx,pa,hg⟩⟩
  |bad i=>
   rw [eg] at k hg
   obtain ⟨dx,pa,hg⟩:=hg
   refine ⟨_,rfl,g,CG,dx,_,_,rfl,hg,TG.cl,TG.n1,rfl,rfl,_,rfl,cF (fun e=>?_) (fun e=>?_)⟩
   ·rw [hG] at e
    exact absurd (of_decide_eq_true e) (by decide)
   ·exact ⟨_,rfl,k _ g S1 hgH ⟨dx,pa,hg⟩⟩
  |ok prs nm ls=>
   rw [eg] at k hg
   obtain ⟨dx,pa,q,bs,hg,hpa,hps,hbd,hp1,hp64⟩:=hg
   obtain ⟨dxb,na,la,ts,hq,hna,hla,hls,h256,hn16⟩:=id hbd
   have Xp:=Bx eg
   have trn:=vX eg
   refine ⟨_,rfl,g,CG,dx,_,_,rfl,hg,TG.cl,TG.n1,rfl,rfl,_,rfl,cF (fun e=>?_) (fun e=>absurd (by decide) e)⟩
   refine ⟨_,rfl,g,CG,dx,_,_,rfl,hg,TG.cl,TG.n3,rfl,_,rfl,g,CG,dx,_,_,rfl,hg,TG.cl,TG.n4,rfl,q,CB,dxb,_,_,rfl,hq,TB.cl,TB.n2,rfl,pa,la,bs,ts,prs,ls,rfl,hpa,hps,hla,hls,Qw (Bp eg).1,fun x hx=>⟨Xp x hx,trn x hx⟩,h256,fun H2 m S2 hm1 hrm=>?_⟩
   have S12:=S1.trans S2
   obtain ⟨dm,s0,o0,wr,sg,ow,r1,r2,r3,r4,r5⟩:=id hrm
   have ngm:m≠g:=fun z=>by rw [z,hg] at hm1;cases hm1
   have hg2:=S2 _ _ hg
   refine ⟨_,rfl,g,CG,dx,_,rfl,hg2,TG.cl,TG.n5,(by show 5<1000;decide),?_⟩
   have keep:∀ (rf:Int) (bv:V),(∀ y o,H y=some o->upd H2 g (.ins CG dx (Cz rf 0 pa (.ref q) bv)) y=some o):=fun rf bv y o e=>by
    rw [aC (aD e hgH)]
    exact S12 _ _ e
   have oth:∀ (rf:Int) {y:Addr} {o:HO},y≠g->H2 y=some o->upd H2 g (.ins CG dx (Cz rf 0 pa (.ref q) (.ref m))) y=some o:=fun rf y o n e=>by rw [aC n];exact e
   have fin:∀ (rf:Int) (H3:Hp),rf=(if cM prs 0 [] [] ls=[] then 0 else -9)->H3=upd H2 g (.ins CG dx (Cz rf 0 pa (.ref q) (.ref m)))->Q (.ref g) H3:=fun rf H3 er e3=>by
    subst e3
    have n1:∀ {y:Addr} {o:HO},H2 y=some o->(∀ C dx fs,o≠.ins C dx fs)->upd H2 g (.ins CG dx (Cz rf 0 pa (.ref q) (.ref m))) y=some o:=fun {y o} e nn=>oth rf (fun z=>by
     rw [z,hg2] at e
     cases e
     exact nn _ _ _ rfl) e
    have nq:q≠g:=fun z=>by
     rw [z,hg] at hq
     injection hq with hq
     injection hq with _ _ hq
     cases hq
    have hps2:dI CP (upd H2 g (.ins CG dx (Cz rf 0 pa (.ref q) (.ref m)))) bs prs:=by
     refine Paired.mapP hps fun b' pr z=>⟨?_,z.2⟩
     obtain ⟨dxp,nmp,cc,f1,f2,f3⟩:=z.1
     have nb:b'≠g:=fun z=>by
      rw [z,hg] at f1
      injection f1 with f1
      injection f1 with _ _ f1
      cases f1
     exact ⟨dxp,nmp,cc,oth rf nb (S2 _ _ f1),n1 (S2 _ _ f2) (by intro _ _ _ z;cases z),n1 (S2 _ _ f3) (by intro _ _ _ z;cases z)⟩
    refine k _ g (keep rf _) hgH ⟨dx,pa,q,m,bs,by rw [aB,er],n1 (S2 _ _ hpa) (by intro _ _ _ z;cases z),hps2,⟨dxb,na,la,ts,oth rf nq (S2 _ _ hq),n1 (S2 _ _ hna) (by intro _ _ _ z;cases z),n1 (S2 _ _ hla) (by intro _ _ _ z;cases z),hls.keep fun y xs e=>n1 (S2 _ _ e) (by intro _ _ _ z;cases z),h256,hn16⟩,
     ⟨dm,s0,o0,wr,sg,ow,oth rf ngm r1,n1 r2 (by intro _ _ _ z;cases z),n1 r3 (by intro _ _ _ z;cases z),n1 r4 (by intro _ _ _ z;cases z),r5⟩,hp64⟩
   have hg3:upd H2 g (.ins CG dx (Cz 0 0 pa (.ref q) (.ref m))) g=some (.ins CG dx (Cz 0 0 pa (.ref q) (.ref m))):=aB
   have hm3:=oth 0 ngm r1
   have nwr:wr≠g:=fun z=>by rw [z,hg2] at r2;cases r2
   have hw3:=oth 0 nwr r2
   refine ⟨_,rfl,g,CG,dx,_,_,rfl,hg3,TG.cl,TG.n5,rfl,m,CM,dm,_,_,rfl,hm3,TM.cl,TM.n3,rfl,wr,_,rfl,.inl (cW.of hw3),_,_,rfl,rfl,_,rfl,cF (fun hh=>?_) (fun hh=>?_)⟩
   ·have hh:(0:Int)<(((cM prs 0 [] [] ls).map V.int).length:Int):=of_decide_eq_true hh
    rw [List.length_map] at hh
    refine ⟨_,rfl,_,rfl,g,CG,dx,_,rfl,hg3,TG.cl,TG.n1,(by show 5<1000;decide),_,rfl,fin (-9) _ ?_ ?_⟩
    ·rw [if_neg]
     intro z
     rw [z] at hh
     cases hh
    ·funext y
     by_cases hy:y=g
     ·rw [hy,aB,aB]
      rfl
     ·rw [aC hy,aC hy,aC hy]
   ·have hh:¬(0:Int)<(((cM prs 0 [] [] ls).map V.int).length:Int):=fun z=>hh (decide_eq_true z)
    rw [List.length_map] at hh
    have e0:cM prs 0 [] [] ls=[]:=List.eq_nil_of_length_eq_zero (by omega)
    exact ⟨_,rfl,fin 0 _ (by rw [if_pos e0]) rfl⟩
end
structure aCc (P:Program) (w:World) (K:PySem.W.Frag) (mg:Str->Option Value) (base:Heap) (CG CP CB CM:Addr):Prop where
 TM:RmT K CM
 tsz:dL P w K mg base "turned_sizes" bU 1 ["part","turns"] (mE CP)
 bey:dL P w K mg base "beyond_room" bU 1 ["x","y","z"] pT
 lea:dL P w K mg base "leaves_room" bU 2 ["parts","put"] (qM K CP)
 right:dL P w K mg base "read_right" bU 10 ["c","b"] (xH K CG CP CB CM)
section
variable {P:Program} {w:World} {K:PySem.W.Frag} {h:Heap} {mg:Str->Option Value} {base:Heap}
theorem aBa (X:K.In h) (G:h.Ns mainGlobals mg) (L:Xb P w K mg base (dP K "Part") (dP K "Build") (dP K "Given")) (hK:∀ f∈ftR,f.P K):aCc P w K mg base (dP K "Given") (dP K "Part") (dP K "Build") (dP K "Room"):=by
 have g:∀ (i:Nat) (f:Ft),ftR[i]?=some f->f.P K:=fun i f e=>Ft.nth hK i e
 have ci:∀ {x:Str} {n:Int},Hn K x n->CI mg x n:=fun hk=>hk.ci X G
 have nn:∀ {x:Str},PySem.W.nsIn K mainGlobals x=some none->mg x=none:=fun e=>PySem.W.mg_none_of X G e
 have TM:RmT K (dP K "Room"):=⟨Hr.cl (g 0 (.cl "Room") rfl),(g 1 (.at "Room" "signs") rfl),(g 2 (.at "Room" "owners") rfl),(g 3 (.at "Room" "wrong") rfl)⟩
 have RM:RmM P w K mg base (dP K "Room"):=⟨Aa.mk (g 4 (.mt "Room" "__init__" "Room.__init__" Cq) rfl) (g 0 (.cl "Room") rfl) (fun f fd F=>aAk F TM) fun _ _ _ _ _ _ us hl=>(by obtain ⟨a,rfl⟩:=_root_.L2.tK hl;rfl),PySem.W.mg_of X G (Hr.ns (g 0 (.cl "Room") rfl))⟩
 have M1:dL P w K mg base "turned_once" bU 3 ["part"] (Ij (dP K "Part")):=gW.fn0 (g 5 (.fn "turned_once" Jr) rfl) X G (fun f fd F=>Ws F L.TP L.PM) fun _ _ _ _ _ _ us hl=>(by obtain ⟨a,rfl⟩:=_root_.L2.tK hl;rfl)
 have M2:dL P w K mg base "turned_part" bU 4 ["part","turns"] (vT (dP K "Part")):=gW.fn0 (g 6 (.fn "turned_part" uW) rfl) X G (fun f fd F=>Nh F (nn (g 7 (.no "range") rfl)) M1) fun _ _ _ _ _ _ us hl=>(by obtain ⟨a,b,rfl⟩:=_root_.L2.yG hl;rfl)
 have M3:dL P w K mg base "turned_sizes" bU 1 ["part","turns"] (mE (dP K "Part")):=gW.fn0 (g 8 (.fn "turned_sizes" uT) rfl) X G (fun f fd F=>Mw F L.TP) fun _ _ _ _ _ _ us hl=>(by obtain ⟨a,b,rfl⟩:=_root_.L2.yG hl;rfl)
 have M4:dL P w K mg base "beyond_room" bU 1 ["x","y","z"] pT:=gW.fn0 (g 9 (.fn "beyond_room" uR) rfl) X G (fun f fd F=>Nz F (ci (g 10 (.int "ROOM_WIDTH" 64) rfl)) (ci (g 11 (.int "ROOM_DEPTH" 64) rfl)) (ci (g 12 (.int "ROOM_HEIGHT" 96) rfl))) fun _ _ _ _ _ _ us hl=>(by obtain ⟨a,b,c,rfl⟩:=_root_.L2.Zj hl;rfl)
 have M5:dL P w K mg base "leaves_room" bU 2 ["parts","put"] (qM K (dP K "Part")):=gW.fn0 (g 13 (.fn "leaves_room" uS) rfl) X G (fun f fd F=>Mb F M3 M4) fun _ _ _ _ _ _ us hl=>(by obtain ⟨a,b,rfl⟩:=_root_.L2.yG hl;rfl)
 have M6:dL P w K mg base "cells_in_room" bU 5 ["parts","put"] (Hl K (dP K "Part")):=gW.fn0 (g 14 (.fn "cells_in_room" Lg) rfl) X G (fun f fd F=>Tz F L.TP M2) fun _ _ _ _ _ _ us hl=>(by obtain ⟨a,b,rfl⟩:=_root_.L2.yG hl;rfl)
 have M7:dL P w K mg base "blocked_lines" bU 2 ["cells","room"] (rE (dP K "Room")):=gW.fn0 (g 15 (.fn "blocked_lines" pZ) rfl) X G (fun f fd F=>Je F TM L.up L.dn L.stud L.tube) fun _ _ _ _ _ _ us hl=>(by obtain ⟨a,b,rfl⟩:=_root_.L2.yG hl;rfl)
 have M8:dL P w K mg base "wrong_with" bU 3 ["room","cells","j"] (xN (dP K "Room")):=gW.fn0 (g 16 (.fn "wrong_with" qU) rfl) X G (fun f fd F=>Nk F TM (nn (g 17 (.no "len") rfl)) (nn (g 18 (.no "min") rfl)) M7) fun _ _ _ _ _ _ us hl=>(by obtain ⟨a,b,c,rfl⟩:=_root_.L2.Zj hl;rfl)
 have M9:dL P w K mg base "fill_room" bU 6 ["parts","lines"] (Gq K (dP K "Part") (dP K "Room")):=gW.fn0 (g 19 (.fn "fill_room" Lb) rfl) X G (fun f fd F=>Wt F TM RM (nn (g 17 (.no "len") rfl)) (nn (g 20 (.no "enumerate") rfl)) M6 M5 M8) fun _ _ _ _ _ _ us hl=>(by obtain ⟨a,b,rfl⟩:=_root_.L2.yG hl;rfl)
 exact ⟨TM,M3,M4,M5,gW.fn0 (g 21 (.fn "read_right" lQ) rfl) X G (fun f fd F=>Ax F L.TG L.TB TM (nn (g 17 (.no "len") rfl)) L.given M9) fun _ _ _ _ _ _ us hl=>(by obtain ⟨a,b,rfl⟩:=_root_.L2.yG hl;rfl)⟩
end
def rO (r:List aM->List Int->List (List Nat)->List Int) (lc lb:List Int):List Int:=match dC lc lb with
 |.no n=>[n]
 |.bad _=>[-5]
 |.ok prs nm ls=>if cM prs 0 [] [] ls=[] then r prs nm ls else [-9]
structure aC8 (lc lb:List Int) (prs:List aM) (nm:List Int) (ls:List (List Nat)) (d:Br.Build):Prop where
 eg:dC lc lb=.ok prs nm ls
 ok:∀ pr∈prs,dN pr
 ln:∀ x∈ls,Ch prs.length x
 tr:∀ x∈ls,dZ x 5<=3
 dl:d.lines=ls.map fP
 dn:aW d.name=nm
 cw:¬(Br.wrong (prs.map cI)).isSome=true
 fr:cM prs 0 [] [] ls=[]
 rm:Iy (wL prs ls)
theorem Jb {lc lb:List Int} (hc:Om lc) (hb:Om lb) {f:Br.Catalogue->Br.Build->BrB.Answer} {r:List aM->List Int->List (List Nat)->List Int} (hr:∀ prs nm ls d,aC8 lc lb prs nm ls d->BuildsNeutral.shown (f (prs.map cI) d)=r prs nm ls):
  BuildsNeutral.shown (BrB.ofRight (Gx lc) (Gx lb) f)=rO r lc lb:=by
 have h:=Dt hc hb
 have h6:= @Bx lc lb
 have h7:= @vX lc lb
 have he:∀ {prs nm ls},dC lc lb=.ok prs nm ls->dC lc lb=.ok prs nm ls:=fun e=>e
 unfold rO BrB.ofRight BrB.ofBuild BrB.ofCatalogue
 generalize hg:dC lc lb=g at h h6 h7
 cases g with
 |no n=>
  rcases h with ⟨rfl,h⟩|⟨rfl,h,e,h2⟩|⟨rfl,h,k,h2,h3⟩
  ·simp only [if_pos h];rfl
  ·simp only [if_neg h,h2];rfl
  ·simp only [if_neg h,h2,if_pos h3];rfl
 |bad i=>
  obtain ⟨h,k,h2,h3,h4⟩:=h
  simp only [if_neg h,h2,if_neg h3,h4];rfl
 |ok prs nm ls=>
  obtain ⟨h,ok,h2,h3,d,h4,h5,hn⟩:=h
  simp only [if_neg h,h2,if_neg h3,h4]
  have fm:=rR ok (fun x hx=>(h6 rfl x hx).2) h5
  by_cases e0:cM prs 0 [] [] ls=[]
  ·rw [if_pos e0]
   rw [e0] at fm
   have hw:¬(d.wrong (prs.map cI)).isSome=true:=by
    cases e:d.wrong (prs.map cI) with
    |none=>decide
    |some w=>rw [e] at fm;cases fm
   rw [if_neg hw]
   exact hr prs nm ls d ⟨hg,ok,fun x hx=>h6 rfl x hx,fun x hx=>h7 rfl x hx,h5,hn,h3,e0,Ik ok (fun x hx=>(h6 rfl x hx).2) e0⟩
  ·rw [if_neg e0]
   have hw:(d.wrong (prs.map cI)).isSome=true:=by
    cases e:d.wrong (prs.map cI) with
    |none=>rw [e] at fm;exact absurd fm e0
    |some w=>rfl
   rw [if_pos hw]
   rfl
theorem Uv {CG CP CB CM:Addr} {H:Hp} {g:Addr} {lc lb:List Int} (h:Wy CG CP CB CM H g (dC lc lb)):∃ (dx pa:Addr) (bv rv:V) (rf ft:Int),H g=some (.ins CG dx (Cz rf ft pa bv rv))/\
  ((rf<0/\∀ r,rO r lc lb=[rf])\/(rf=0/\∃ (prs:List aM) (nm:List Int) (ls:List (List Nat)) (q m:Addr) (bs:List Addr),dC lc lb=.ok prs nm ls/\(∀ r,rO r lc lb=r prs nm ls)/\cM prs 0 [] [] ls=[]/\bv=.ref q/\rv=.ref m/\H pa=some (.lst (bs.map V.ref))/\dI CP H bs prs/\vW CB H q nm ls/\Hu CM H m prs ls/\prs.length<=64)):=by
 have hn:= @Py lc lb
 unfold rO
 cases eg:dC lc lb with
 |no n=>
  rw [eg] at h
  obtain ⟨dx,pa,h⟩:=h
  have hn:=hn eg
  exact ⟨dx,pa,.non,.non,n,0,h,.inl ⟨by omega,fun _=>rfl⟩⟩
 |bad i=>
  rw [eg] at h
  obtain ⟨dx,pa,h⟩:=h
  exact ⟨dx,pa,.non,.non, -5,i,h,.inl ⟨by decide,fun _=>rfl⟩⟩
 |ok prs nm ls=>
  rw [eg] at h
  obtain ⟨dx,pa,q,m,bs,h1,h2,h3,h4,h5,h6⟩:=h
  refine ⟨dx,pa,.ref q,.ref m,_,0,h1,?_⟩
  by_cases e:cM prs 0 [] [] ls=[]
  ·rw [if_pos e]
   exact .inr ⟨rfl,prs,nm,ls,q,m,bs,rfl,fun r=>(by show (if _=_ then _ else _)=_;rw [if_pos e]),e,rfl,rfl,h2,h3,h4,h5,h6⟩
  ·rw [if_neg e]
   exact .inl ⟨by decide,fun r=>(by show (if _=_ then _ else _)=_;rw [if_neg e])⟩
end Br1
namespace L2
open PySem PySem.Spec PyProof.Rows
theorem Yh {x:Str} {g:TG} {tt:TT} {te:TE} {vs:List Nat} {σ:St} {H1:Hp} {D:Addr} {Qd:Hp->Prop} (Pv:Nat->Hp->Prop) (h0:Pv 0 (upd H1 D (.lst [])))
  (hs:∀ i c H,x.cps[i]?=some c->Pv i H->g (.str ⟨#[c]⟩) (eX σ vs) H fun σ2 H2=>eX σ2 vs=eX σ vs/\tt σ2 H2 fun b H3=>
   if b=true then te σ2 H3 fun y H4=>∃ acc,H4 D=some (.lst acc)/\acc.length<sizeLine/\Pv (i+1) (upd H4 D (.lst (acc++[y]))) else Pv (i+1) H3) (hd:∀ H,Pv x.cps.size H->Qd H):
  ∃ W:Nat->Nat->Hp->Prop,(∃ m,W 0 m (upd H1 D (.lst [])))/\∀ i m H,W i m H->
   ((Xc x).stop i H/\Qd H)\/((Xc x).go i H/\∃ Nx:Hp->Prop,(∀ H',Nx H'->∃ m',m'<m/\W (i+1) m' H')/\∀ v H',(Xc x).yld i H v H'->g v (eX σ vs) H' fun σ2 H2=>eX σ2 vs=eX σ vs/\tt σ2 H2 fun b H3=>
    if b=true then te σ2 H3 fun y H4=>∃ acc,H4 D=some (.lst acc)/\acc.length<sizeLine/\Nx (upd H4 D (.lst (acc++[y]))) else Nx H3):=by
 refine ⟨fun i m H=>m=x.cps.size - i/\i<=x.cps.size/\Pv i H,⟨x.cps.size,by simp,Nat.zero_le _,h0⟩,?_⟩
 rintro i m H ⟨rfl,hi,p⟩
 by_cases hlt:i<x.cps.size
 ·refine .inr ⟨hlt,Pv (i+1),fun H' p'=>⟨x.cps.size - (i+1),by (clear hi;omega),rfl,hlt,p'⟩,fun v H' y=>?_⟩
  obtain ⟨e,c,e1,rfl⟩:=y
  subst e
  exact hs i c _ e1 p
 ·have e:i=x.cps.size:=by omega
  subst e
  exact .inl ⟨Nat.le_refl _,hd H p⟩
def tFs (x:Str) (te:TE):TE:=fun σ H Q=>te σ H fun v H1=>∃ i:Int,v=.int i/\i.natAbs.log2<1920/\x.length+(Str.ofString (toString i)).length<=sizeLine/\Q (.str (x++Str.ofString (toString i))) H1
theorem zX (x:Str):Str.empty++x=x:=by
 cases x with
 |mk c=>
  show Str.mk (#[]++c)=_
  rw [Array.empty_append]
theorem Uz {X:Cx} {x:Str} {e:Expr} {te:TE} {j:Nat} {p1 p2 pos:Pos} (he:PE X e te) (hx:x.length<=1000:=by decide+kernel):PE X (.JoinedStr [.Constant (.str x) j p1,.FormattedValue e (-1) none p2] pos) (tFs x te):=by
 intro pins s σ H Q I h
 have hb:1000<=sizeLine:=by rw [sizeLine_eq];decide
 refine wpAny_JoinedStr ?_
 show wpAny _ _ (eval (.Constant (.str x) j p1) X.env) _ _ _
 refine Calls.Constant_str ⟨x,_,rfl,by rw [zX];omega,?_⟩
 show wpAny _ _ (eval (.FormattedValue e (-1) none p2) X.env) _ _ _
 refine wpAny_FormattedValue_plain (cV (he pins _ σ H _ (I.tok _) h) fun v s2 ⟨y,H1,I1,r1,i,ei,hl,hz,q⟩=>?_)
 subst ei
 obtain ⟨t,rfl⟩:=r1
 refine wpAny_formatField_int hl ?_
 rw [zX]
 have hz2:(x++Str.ofString (toString i)).length<=sizeLine:=by rw [PySem.strLen_append];exact hz
 exact ⟨_,_,rfl,hz2,hz2,.str _,H1,(I1.tok _).tok _,⟨_,rfl⟩,q⟩
end L2
namespace Br1
open PySem PySem.Spec PyProof.Rows L2
def Da (x:Str):List Int:=x.cps.toList.map fun (c:Nat)=>(c:Int)
theorem Jk (n:Nat):(Str.ofString (toString (n:Int))).cps.toList=yF n:=by
 rw [Str.ofString_eq_toList]
 show ((toString (n:Int)).toList.map Char.toNat).toArray.toList=_
 rw [List.toList_toArray]
 unfold yF
 have e:toString (n:Int)=String.ofList (Nat.toDigits 10 n):=rfl
 rw [e,String.toList_ofList]
theorem Cb:∀ {k n:Nat},n<10 ^ (k+1)->(yF n).length<=k+1
 |0,n,h=>by rw [Bu (by omega)];exact Nat.le_refl _
 |k+1,n,h=>by
  by_cases hn:n<10
  ·rw [Bu hn];exact Nat.le_add_left 1 (k+1)
  ·rw [yS (by omega),List.length_append]
   have:=Cb (k:=k) (n:=n / 10) (by rw [Nat.pow_succ] at h;omega)
   show _+1<=_
   omega
section
variable {P:Program} {w:World} {K:PySem.W.Frag} {mg:Str->Option Value} {base:Heap} {C CR CP CB CG CM:Addr}
def sI:Sp:=fun vs H Q _=>∃ x:Str,vs=[.str x]/\x.length<=1000/\∀ (H':Hp) (l:Addr),aL H H'->H l=none->H' l=some (.lst ((Da x).map V.int))->Q (.ref l) H'
theorem pI:aO ["word","sign"] ["word"] (aG jU):=⟨rfl,rfl,rfl,by decide+kernel,rfl,by decide+kernel,by decide+kernel⟩
abbrev aB0:List V->Hp->VK->Prop:=fun xs H Q=>∃ x,xs=[.str x]/\x.length=1/\Q (.int (x.cps.getD 0 0:Nat)) H
theorem Ia {f:Addr} {fd:FuncData} (F:fE K "spelled" "spelled" jU f fd) (hord:mg "ord"=none):bV P w K mg base bU 2 f fd ["word"] sI:=by
 refine F.ok pI (fun vs H Q E h=>?_) (fun cdv A outer s H vs Q E hr h=>?_)
 ·obtain ⟨x,rfl,_⟩:=h
  rfl
 ·obtain ⟨x,rfl,hx,k⟩:=h
  refine ⟨_,aH (aU (tL (own:=[("sign",1)]) (te:=tCB aB0 (dO (dD 1) gR)) rfl pI.nd (Pd (pv 0)) (eW (N:=["word","sign"]) (sc:=aG jU) (by decide+kernel))
   (fun _ _ _ _ _=>bH (i:=1) pI.nd rfl (Or.inl rfl)) (fun _ _ _ _ _=>gL) (fun _ _ _ _ _=>bQ (r:=aB0) xP (by rfl) hord boot_ord (aA (pv 1) aE)))),?_⟩
  have hsl:=aY
  have hx:x.cps.size<=1000:=hx
  refine ⟨_,rfl,x,rfl,fun Dl hDl=>?_⟩
  refine Yh (fun i H'=>aL H H'/\H' Dl=some (.lst (((Da x).take i).map V.int))) ⟨aL.new hDl,aB⟩ ?_ ?_
  ·rintro i c H1 ec ⟨S1,hD1⟩
   have hi:i<x.cps.size:=(Array.getElem?_eq_some_iff.mp ec).1
   refine ⟨rfl,_,rfl,_,rfl,rfl,_,hD1,?_,?_,?_⟩
   ·rw [List.length_map,List.length_take]
    omega
   ·intro b' o e
    rw [aC (aD e hDl)]
    exact S1 _ _ e
   ·have e1:(Da x)[i]?=some (c:Int):=by
     unfold Da
     rw [List.getElem?_map,Array.getElem?_toList,ec]
     rfl
    rw [aB,List.take_succ,e1,List.map_append]
    rfl
  ·rintro H1 ⟨S1,hD1⟩
   have e:(Da x).take x.cps.size=Da x:=List.take_of_length_le (by unfold Da;rw [List.length_map,Array.length_toList];exact Nat.le_refl _)
   rw [e] at hD1
   exact k H1 Dl S1 hDl hD1
end
theorem iJ {α β:Type} {f:α->List β} {c:Nat}:∀ {l:List α},(∀ x∈l,(f x).length<=c)->(l.flatMap f).length<=c * l.length
 |[],_=>by simp
 |x::r,h=>by
  have ih:=iJ (l:=r) fun y hy=>h y (List.mem_cons_of_mem _ hy)
  have h1:=h x List.mem_cons_self
  rw [List.flatMap_cons,List.length_append,List.length_cons,Nat.mul_succ]
  omega
theorem zJ {α β:Type} {f:α->List β} {l:List α} {i:Nat} {x:α} (e:l[i]?=some x):(l.take (i+1)).flatMap f=(l.take i).flatMap f++f x:=by
 rw [List.take_succ,e,List.flatMap_append]
 show _++([x]:List α).flatMap f=_
 rw [List.flatMap_cons,List.flatMap_nil,List.append_nil]
structure YOk (prs:List aM) (y:List Int):Prop where
 l:y.length=6
 n:∀ k∈y,0<=k/\k<10000
 p:(iN y 0).toNat<prs.length
theorem uX {k:Int} (h:k<10000):(mT k).length<=4:=by
 unfold mT
 rw [List.length_map]
 exact Cb (k:=3) (by omega)
theorem Jh {prs:List aM} {y:List Int} (h:YOk prs y) (hp:∀ pr∈prs,pr.name.length<=8):(Rx (prs.map (·.name)) y).length<=100:=by
 unfold Rx
 have h1:=iJ (f:=fun n=>(32:Int)::mT n) (c:=5) (l:=y.drop 1) fun k hk=>by
  have:=uX (h.n k (List.mem_of_mem_drop hk)).2
  rw [List.length_cons]
  omega
 have h2:((prs.map (·.name)).getD (iN y 0).toNat []).length<=8:=by
  rw [List.getD_eq_getElem?_getD,List.getElem?_map,List.getElem?_eq_getElem h.p]
  exact hp _ (List.getElem_mem _)
 have h3:(y.drop 1).length=5:=by rw [List.length_drop,h.l]
 rw [h3] at h1
 simp only [List.length_append,List.length_cons,List.length_nil]
 omega
theorem Yc (x y:Str):Da (x++y)=Da x++Da y:=by
 unfold Da
 show (x.cps++y.cps).toList.map _=_
 rw [Array.toList_append,List.map_append]
theorem Xx {k:Int} (h:0<=k):Da ((" ":Str)++Str.ofString (toString k))=32::mT k:=by
 obtain ⟨n,rfl⟩:=Int.eq_ofNat_of_zero_le h
 have e1:Da (" ":Str)=[32]:=by decide+kernel
 have e2:Da (Str.ofString (toString (n:Int)))=mT (n:Int):=by
  unfold Da mT
  rw [Jk]
  rfl
 rw [Yc,e1,e2]
 rfl
theorem SX.seqTl {K:PySem.W.Frag} {r a:Addr} {H H':Hp} {xs ys:List V} (s:SX r H H') (hr:H r=some (.lst ys)) (h:cN K H a xs):cN K H' a xs:=by
 rcases h with (h|⟨o,h⟩)|h
 ·exact .inl (.inl (s _ _ h (by rintro rfl;rw [hr] at h;cases h)))
 ·exact .inl (.inr ⟨o,s _ _ h (by rintro rfl;rw [hr] at h;cases h)⟩)
 ·exact .inr h
theorem Qx {xs:List V}:wY xs (some 1) none=xs.drop 1:=by
 unfold wY
 have e1:HT.gQ xs.length 0 (some 1)=min 1 xs.length:=HT.Ji xs.length 0 1
 have e2:HT.gQ xs.length xs.length none=xs.length:=rfl
 rw [e1,e2]
 cases xs with
 |nil=>rfl
 |cons x r=>
  have:min 1 (x::r).length=1:=by rw [List.length_cons];omega
  rw [this,List.take_of_length_le (by rw [List.length_drop];exact Nat.le_refl _)]
section
variable {P:Program} {w:World} {K:PySem.W.Frag} {mg:Str->Option Value} {base:Heap} {C CR CP CB CG CM:Addr}
def aC9 (CB:Addr) (H:Hp) (q:Addr) (nm:List Int) (ys:List (List Int)):Prop:=∃ (dx na la:Addr) (ts:List Addr),H q=some (.ins CB dx (BdF na la))/\H na=some (.tup (nm.map V.int))/\H la=some (.lst (ts.map V.ref))/\Paired (vM H) ts ys
def Cd (K:PySem.W.Frag) (CB:Addr):Sp:=fun vs H Q _=>∃ (q D:Addr) (prs:List aM) (nm:List Int) (ys:List (List Int)),vs=[.ref q,.ref D]/\aC9 CB H q nm ys/\Lr H D prs/\(∀ y∈ys,YOk prs y)/\(∀ pr∈prs,pr.name.length<=8)/\nm.length<=16/\ys.length<=256/\
 ∀ (H':Hp) (l:Addr),aL H H'->H l=none->H' l=some (.lst ((Ff (prs.map (·.name)) nm ys).map V.int))->(Ff (prs.map (·.name)) nm ys).length<=100000->Q (.ref l) H'
abbrev Yi:List Str:=["build","names","text","put","number"]
theorem pW:aO Yi ["build","names"] (aG iP):=⟨rfl,rfl,rfl,by decide+kernel,rfl,by decide+kernel,by decide+kernel⟩
theorem Qq {f:Addr} {fd:FuncData} (F:fE K "build_text" "build_text" iP f fd) (TB:BdT K CB) (hlist:mg "list"=none) (L1:dL P w K mg base "spelled" bU 2 ["word"] sI):bV P w K mg base bU 3 f fd ["build","names"] (Cd K CB):=by
 obtain ⟨g1,gd1,G1,b1,k1,h1⟩:=L1.ex
 refine F.ok pW (fun vs H Q E h=>?_) (fun cdv A outer s H vs Q E hr h=>?_)
 ·obtain ⟨q,D,prs,nm,ys,rfl,_⟩:=h
  rfl
 ·obtain ⟨q,D,prs,nm,ys,rfl,⟨dx,na,la,ts,hq,hna,hla,hys⟩,⟨qs,hD,hqs⟩,yo,pn,nl,yl,k⟩:=h
  refine ⟨_,aF (bI (i:=2) pW.nd rfl (Or.inl rfl) (bZ Ci (bZ Ci (aP G1 hr (by rfl) h1 k1 b1 .nil aX (aA eU aE)) (kQ pQ (by rfl) hlist boot_list (aA (aT (pv 0) rfl) aE))) (aP G1 hr (by rfl) h1 k1 b1 .nil aX (aA eU aE))))
   (aF (eQ PassesOwn.never rfl (gN (aT (pv 0) rfl)) (bH (i:=3) pW.nd rfl (Or.inl rfl))
    (aF (cH (mV PySem.F.plainAttrs_list PySem.F.slot_list_extend PySem.F.type_list_extend sT (pv 2) (aA (bZ Ci (aP G1 hr (by rfl) h1 k1 b1 .nil aX (aA eU aE)) (kQ pQ (by rfl) hlist boot_list (aA (bO jE (pv 1) (bO aZ (pv 3) aI (fun _ _=>rfl)) (fun _ _=>rfl)) aE))) aE)))
    (aF (eQ PassesOwn.never rfl (Sj (Eb Lp (pv 3) (Kp aI) Kn)) (bH (i:=4) pW.nd rfl (Or.inl rfl))
     (aH (cH (mV PySem.F.plainAttrs_list PySem.F.slot_list_extend PySem.F.type_list_extend sT (pv 2) (aA (aP G1 hr (by rfl) h1 k1 b1 .nil aX (aA (Uz (pv 4)) aE)) aE)))))
    (aH (cH (mV PySem.F.plainAttrs_list PySem.F.slot_list_extend PySem.F.type_list_extend sT (pv 2) (aA (aP G1 hr (by rfl) h1 k1 b1 .nil aX (aA eU aE)) aE)))))))
   (aH (aU (pv 2)))),?_⟩
  have hsl:=fN
  have w1:Da ("build ":Str)=[98,117,105,108,100,32]:=by decide+kernel
  have w2:Da ("\n":Str)=[10]:=by decide+kernel
  have w3:Da ("put ":Str)=[112,117,116,32]:=by decide+kernel
  refine ⟨("build ":Str),rfl,by decide+kernel,fun H1 l1 S1 f1 e1=>?_⟩
  refine ⟨_,rfl,q,CB,dx,_,_,rfl,S1 _ _ hq,TB.cl,TB.n1,rfl,na,_,rfl,.inr (cN.of (S1 _ _ hna)),fun l2 f2=>?_⟩
  rw [w1] at e1
  have S2:=aL.new (o:=.lst (nm.map V.int)) f2
  refine ⟨l1,l2,_,_,rfl,rfl,S2 _ _ e1,aB,(by simp only [List.length_map,List.length_cons,List.length_nil];omega),fun l3 f3=>?_⟩
  have S3:=aL.new (o:=.lst (([98,117,105,108,100,32]:List Int).map V.int++nm.map V.int)) f3
  refine ⟨("\n":Str),rfl,by decide+kernel,fun H4 l4 S4 f4 e4=>?_⟩
  rw [w2] at e4
  refine ⟨l3,l4,_,_,rfl,rfl,S4 _ _ aB,e4,(by simp only [List.length_append,List.length_map,List.length_cons,List.length_nil];omega),fun tx ftx=>?_⟩
  have S14:aL H H4:=((S1.trans S2).trans S3).trans S4
  have SA:=S14.trans (aL.new (o:=.lst ((([98,117,105,108,100,32]:List Int).map V.int++nm.map V.int)++([10]:List Int).map V.int)) ftx)
  have eA:upd H4 tx (.lst ((([98,117,105,108,100,32]:List Int).map V.int++nm.map V.int)++([10]:List Int).map V.int)) tx=some (.lst (([98,117,105,108,100,32]++nm++[10]:List Int).map V.int)):=by rw [aB,List.map_append,List.map_append]
  have ftH:H tx=none:=S14.free ftx
  generalize upd H4 tx (.lst ((([98,117,105,108,100,32]:List Int).map V.int++nm.map V.int)++([10]:List Int).map V.int))=HA at SA eA
  refine ⟨_,rfl,q,CB,dx,_,_,rfl,SA _ _ hq,TB.cl,TB.n2,rfl,la,rfl,⟨_,cW.of (SA _ _ hla)⟩,?_⟩
  have htl:ts.length=ys.length:=Paired.length hys
  refine Fh (K:=K) (xs:=ts.map V.ref) (fun i σ H'=>∃ v3 v4,σ=[some (.ref q),some (.ref D),some (.ref tx),v3,v4]/\aL H H'/\H' tx=some (.lst (([98,117,105,108,100,32]++nm++[10]++(ys.take i).flatMap (Rx (prs.map (·.name))):List Int).map V.int)))
   ⟨none,none,rfl,SA,by rw [List.take_zero,List.flatMap_nil,List.append_nil];exact eA⟩ (fun i σ H' _ ⟨_,_,_,z,_⟩=>cW.of (z _ _ hla)) ?_ ?_
  ·rintro i x σ H5 ex ⟨v3,v4,rfl,S5,e5⟩
   have hi:i<ys.length:=by
    have:=(List.getElem?_eq_some_iff.mp ex).1
    rwa [List.length_map,htl] at this
   obtain ⟨y,ey⟩:∃ y,ys[i]?=some y:=⟨_,List.getElem?_eq_getElem hi⟩
   obtain ⟨t,et,ht,hy6⟩:=cA hys ey
   rw [List.getElem?_map,et] at ex
   cases ex
   have yk:=yo y (List.mem_of_getElem? ey)
   have y0:0<=iN y 0:=by
    unfold iN
    rw [List.getD_eq_getElem?_getD,List.getElem?_eq_getElem (by omega)]
    exact (yk.n _ (List.getElem_mem _)).1
   obtain ⟨pr,epr⟩:∃ pr,prs[(iN y 0).toNat]?=some pr:=⟨_,List.getElem?_eq_getElem yk.p⟩
   obtain ⟨qn,eqn,hqn⟩:=cA hqs epr
   have pl:=pn pr (List.mem_of_getElem? epr)
   have ename:(prs.map (·.name)).getD (iN y 0).toNat []=pr.name:=by
    rw [List.getD_eq_getElem?_getD,List.getElem?_map,epr]
    rfl
   have hat0:Mf (y.map V.int) 0=some (V.int (iN y 0)):=by
    have:(y.map V.int)[0]?=some (V.int (iN y 0)):=by
     unfold iN
     rw [List.getElem?_map,List.getD_eq_getElem?_getD,List.getElem?_eq_getElem (by omega)]
     rfl
    exact iC (j:=0) this
   have hatn:Mf (qs.map V.ref) (iN y 0)=some (V.ref qn):=by
    have:=iC (xs:=qs.map V.ref) (j:=(iN y 0).toNat) (v:=V.ref qn) (by rw [List.getElem?_map,eqn];rfl)
    rwa [Int.toNat_of_nonneg y0] at this
   have bT:=iJ (f:=Rx (prs.map (·.name))) (c:=100) (l:=ys.take i) fun y hy=>Jh (yo y (List.mem_of_mem_take hy)) pn
   have bL:(ys.take i).length<=256:=by rw [List.length_take];omega
   generalize hP:([98,117,105,108,100,32]++nm++[10]++(ys.take i).flatMap (Rx (prs.map (·.name))):List Int)=A at e5
   have bA:A.length<=30000:=by
    rw [<-hP]
    simp only [List.length_append,List.length_cons,List.length_nil]
    omega
   refine ⟨_,rfl,.inl ⟨rfl,_,cW.of e5⟩,("put ":Str),rfl,by decide+kernel,fun H6 l6 S6 f6 e6=>?_⟩
   rw [w3] at e6
   have S56:=S5.trans S6
   refine ⟨_,rfl,_,rfl,t,_,_,_,rfl,rfl,cN.of (S56 _ _ ht),hat0,D,_,_,.ref qn,rfl,rfl,cW.of (S56 _ _ hD),hatn,qn,_,rfl,.inr (cN.of (S56 _ _ hqn)),fun l7 f7=>?_⟩
   have S7:=aL.new (o:=.lst (pr.name.map V.int)) f7
   refine ⟨l6,l7,_,_,rfl,rfl,S7 _ _ e6,aB,(by simp only [List.length_map,List.length_cons,List.length_nil];omega),fun l8 f8=>?_⟩
   have S8:=aL.new (o:=.lst (([112,117,116,32]:List Int).map V.int++pr.name.map V.int)) f8
   have S68:=(S6.trans S7).trans S8
   refine ⟨tx,l8,_,_,rfl,rfl,S68 _ _ e5,aB,(by simp only [List.length_append,List.length_map,List.length_cons,List.length_nil];omega),?_⟩
   have S9:aL H (upd (upd (upd H6 l7 (.lst (pr.name.map V.int))) l8 (.lst (([112,117,116,32]:List Int).map V.int++pr.name.map V.int))) tx (.lst (A.map V.int++(([112,117,116,32]:List Int).map V.int++pr.name.map V.int)))):=fun b o e=>by
    rw [aC (aD e ftH)]
    exact S68 _ _ (S5 _ _ e)
   have e9:upd (upd (upd H6 l7 (.lst (pr.name.map V.int))) l8 (.lst (([112,117,116,32]:List Int).map V.int++pr.name.map V.int))) tx (.lst (A.map V.int++(([112,117,116,32]:List Int).map V.int++pr.name.map V.int))) tx=some (.lst ((A++([112,117,116,32]++pr.name)).map V.int)):=by rw [aB,List.map_append,List.map_append]
   generalize upd (upd (upd H6 l7 (.lst (pr.name.map V.int))) l8 (.lst (([112,117,116,32]:List Int).map V.int++pr.name.map V.int))) tx (.lst (A.map V.int++(([112,117,116,32]:List Int).map V.int++pr.name.map V.int)))=H9 at S9 e9
   refine ⟨_,rfl,_,rfl,t,_,rfl,cN.of (S9 _ _ ht),fun p H10 S10 hp10=>?_⟩
   rw [Qx,<-List.map_drop] at hp10
   have e10:=S10 _ _ e9
   refine ⟨p,rfl,⟨_,hp10⟩,?_⟩
   have yd:(y.drop 1).length=5:=by rw [List.length_drop,hy6]
   refine Kz (K:=K) (xs:=(y.drop 1).map V.int) (fun j σ H'=>∃ v4,σ=[some (.ref q),some (.ref D),some (.ref tx),some (.ref t),v4]/\aL H H'/\SX tx H10 H'/\H' tx=some (.lst ((A++([112,117,116,32]++pr.name)++((y.drop 1).take j).flatMap fun n=>32::mT n).map V.int)))
    ⟨_,rfl,S9.trans S10,SX.refl _ _,by rw [List.take_zero,List.flatMap_nil,List.append_nil];exact e10⟩ (fun j σ H' _ ⟨_,_,_,z,_⟩=>z.seqTl e10 hp10) ?_ ?_
   ·rintro j x σ H11 ex ⟨v4',rfl,S11,X11,e11⟩
    rw [List.getElem?_map] at ex
    cases en:(y.drop 1)[j]? with
    |none=>rw [en] at ex;cases ex
    |some n=>
     rw [en] at ex
     cases ex
     have nn:=yk.n n (List.mem_of_mem_drop (List.mem_of_getElem? en))
     have dl:=uX nn.2
     have sl:(Str.ofString (toString n)).length<=4:=by
      show (Str.ofString (toString n)).cps.size<=4
      rw [<-Array.length_toList]
      obtain ⟨k,rfl⟩:=Int.eq_ofNat_of_zero_le nn.1
      rw [Jk]
      exact Cb (k:=3) (by omega)
     have bF:=iJ (f:=fun n=>(32:Int)::mT n) (c:=5) (l:=(y.drop 1).take j) fun k hk=>by
      have:=uX (yk.n k (List.mem_of_mem_drop (List.mem_of_mem_take hk))).2
      rw [List.length_cons]
      omega
     have bK:((y.drop 1).take j).length<=5:=by rw [List.length_take];omega
     have lg:n.natAbs.log2<1920:=by
      by_cases z:n.natAbs=0
      ·rw [z];decide
      ·exact Nat.lt_of_lt_of_le ((Nat.log2_lt z).mpr (by show n.natAbs<2 ^ 14;omega)) (by decide)
     refine ⟨_,rfl,.inl ⟨rfl,_,cW.of e11⟩,_,rfl,n,rfl,lg,(by show 1+_<=_;omega),_,rfl,?_,fun H12 l12 S12 f12 e12=>?_⟩
     ·rw [PySem.strLen_append]
      show 1+_<=1000
      omega
     ·rw [Xx nn.1] at e12
      refine ⟨tx,l12,_,_,rfl,rfl,S12 _ _ e11,e12,?_,?_⟩
      ·simp only [List.length_append,List.length_map,List.length_cons,List.length_nil]
       omega
      ·refine ⟨_,rfl,fun b o e=>?_,fun b o e nb=>?_,?_⟩
       ·rw [aC (aD e ftH)]
        exact S12 _ _ (S11 _ _ e)
       ·rw [aC nb]
        exact S12 _ _ (X11 _ _ e nb)
       ·rw [aB,zJ en,<-List.map_append]
        simp only [List.append_assoc]
   ·rintro σ H11 ⟨v4',rfl,S11,X11,e11⟩
    rw [List.length_map,List.take_length] at e11
    have bF:=iJ (f:=fun n=>(32:Int)::mT n) (c:=5) (l:=y.drop 1) fun k hk=>by
     have:=uX (yk.n k (List.mem_of_mem_drop hk)).2
     rw [List.length_cons]
     omega
    refine ⟨_,rfl,.inl ⟨rfl,_,cW.of e11⟩,("\n":Str),rfl,by decide+kernel,fun H12 l12 S12 f12 e12=>?_⟩
    rw [w2] at e12
    refine ⟨tx,l12,_,_,rfl,rfl,S12 _ _ e11,e12,?_,?_⟩
    ·simp only [List.length_append,List.length_map,List.length_cons,List.length_nil]
     omega
    ·refine ⟨_,_,rfl,fun b o e=>?_,?_⟩
     ·rw [aC (aD e ftH)]
      exact S12 _ _ (S11 _ _ e)
     ·have eL:Rx (prs.map (·.name)) y=([112,117,116,32]++pr.name)++(y.drop 1).flatMap (fun n=>32::mT n)++[10]:=by
       unfold Rx
       rw [ename]
      rw [aB,zJ ey,<-List.map_append,<-hP,eL]
      simp only [List.append_assoc]
  ·rintro σ H5 ⟨v3,v4,rfl,S5,e5⟩
   rw [List.length_map,htl,List.take_length] at e5
   refine ⟨_,rfl,k H5 tx S5 ftH e5 ?_⟩
   have:=iJ (f:=Rx (prs.map (·.name))) (c:=100) (l:=ys) fun y hy=>Jh (yo y hy) pn
   unfold Ff
   simp only [List.length_append,List.length_cons,List.length_nil]
   omega
end
def tV (H:Hp) (la:Addr) (ys:List (List Int)):Prop:=∃ ts:List Addr,H la=some (.lst (ts.map V.ref))/\Paired (vM H) ts ys
theorem tV.same {H H':Hp} {la:Addr} {ys:List (List Int)} (h:tV H la ys) (s:aL H H'):tV H' la ys:=by
 obtain ⟨ts,h1,h2⟩:=h
 exact ⟨ts,s _ _ h1,Paired.mapP h2 fun t y z=>⟨s _ _ z.1,z.2⟩⟩
theorem aCa {H:Hp} {la:Addr} {ts:List Addr} {ls:List (List Nat)} (h1:H la=some (.lst (ts.map V.ref))) (h2:jA H ts ls):tV H la (ls.map xY):=by
 refine ⟨ts,h1,?_⟩
 clear h1
 unfold jA at h2
 induction h2 with
 |nil=>exact .nil
 |cons r t ih=>exact .cons ⟨by rw [<-Si];exact r.1,by unfold xY;rw [List.length_map];exact r.2⟩ ih
section
variable {P:Program} {w:World} {K:PySem.W.Frag} {mg:Str->Option Value} {base:Heap} {C CR CP CB CG CM:Addr}
def aBr (prs:List aM) (nm:List Int) (ys:List (List Int)):List Int:=((Ff (prs.map (·.name)) nm ys).length:Int)::Ff (prs.map (·.name)) nm ys
def Bg (K:PySem.W.Frag) (CG CP CB:Addr):Sp:=fun vs H Q _=>∃ (g la pa q dx dxb na la0:Addr) (rv:V) (rf ft:Int) (bs:List Addr) (prs:List aM) (nm:List Int) (ys:List (List Int)),vs=[.ref g,.ref la]/\H g=some (.ins CG dx (Cz rf ft pa (.ref q) rv))/\H q=some (.ins CB dxb (BdF na la0))/\H na=some (.tup (nm.map V.int))/\
 H pa=some (.lst (bs.map V.ref))/\dI CP H bs prs/\prs.length<=64/\tV H la ys/\(∀ y∈ys,YOk prs y)/\(∀ pr∈prs,pr.name.length<=8)/\nm.length<=16/\ys.length<=256/\∀ (H':Hp) (l:Addr),H' l=some (.lst ((aBr prs nm ys).map V.int))->Q (.ref l) H'
theorem Fl:aO ["given","lines","text"] ["given","lines"] (aG iO):=⟨rfl,rfl,rfl,by decide+kernel,rfl,by decide+kernel,by decide+kernel⟩
theorem Pt {f:Addr} {fd:FuncData} (F:fE K "with_lines" "with_lines" iO f fd) (T:GvT K CG) (TB:BdT K CB) (BM:BdM P w K mg base CB) (hlen:mg "len"=none) (L1:dL P w K mg base "names_of" bU 1 ["parts"] (oJ K CP)) (L2:dL P w K mg base "build_text" bU 3 ["build","names"] (Cd K CB)):bV P w K mg base bU 4 f fd ["given","lines"] (Bg K CG CP CB):=by
 obtain ⟨g1,gd1,G1,b1,k1,h1⟩:=L1.ex
 obtain ⟨g2,gd2,G2,b2,k2,h2⟩:=L2.ex
 obtain ⟨fB,fdB,MB,GB,bB⟩:=BM.ex
 refine F.ok Fl (fun vs H Q E h=>?_) (fun cdv A outer s H vs Q E hr h=>?_)
 ·obtain ⟨g,la,pa,q,dx,dxb,na,la0,rv,rf,ft,bs,prs,nm,ys,rfl,_⟩:=h
  rfl
 ·obtain ⟨g,la,pa,q,dx,dxb,na,la0,rv,rf,ft,bs,prs,nm,ys,rfl,hg,hq,hna,hpa,hps,p64,hys,yo,pn,nl,yl,k⟩:=h
  have hr1:=hr.mono (j:=1) (by decide)
  have hr2:=hr.mono (j:=2) (by decide)
  refine ⟨_,aF (bI (i:=2) Fl.nd rfl (Or.inl rfl) (aP G2 hr (by rfl) h2 k2 b2 .nil aX (aA (nN MB GB hr2 (by rfl) BM.mg bB .nil aX (aA (aT (aT (pv 0) rfl) rfl) (aA (pv 1) aE))) (aA (aP G1 hr1 (by rfl) h1 k1 b1 .nil aX (aA (aT (pv 0) rfl) aE)) aE))))
   (aH (aU (bZ Ci (eE (aA (bQ bW (by rfl) hlen PySem.boot_len (aA (pv 2) aE)) aE)) (pv 2)))),?_⟩
  have hsl:=fN
  refine ⟨_,rfl,g,CG,dx,_,_,rfl,hg,T.cl,T.n4,rfl,q,CB,dxb,_,_,rfl,hq,TB.cl,TB.n1,rfl,_,rfl,fun x db fx fd fne=>⟨x,db,na,la,rfl,aB,fun H1 e1 s1=>⟨rfl,?_⟩⟩⟩
  have S1:aL H H1:=fun y o e=>s1 y o (by rw [aC (aD e fx),aC (aD e fd)];exact e) (aD e fx)
  refine ⟨_,rfl,g,CG,dx,_,_,rfl,S1 _ _ hg,T.cl,T.n3,rfl,pa,bs,prs,rfl,cW.of (S1 _ _ hpa),?_,p64,fun H2 D S2 fD hD=>?_⟩
  ·exact Paired.mapP hps fun _ _ z=>⟨z.1.same S1,z.2⟩
  ·obtain ⟨ts,t1,t2⟩:=hys.same (S1.trans S2)
   refine ⟨x,D,prs,nm,ys,rfl,⟨db,na,la,ts,S2 _ _ e1,(S1.trans S2) _ _ hna,t1,t2⟩,hD,yo,pn,nl,yl,fun H3 l S3 fl el bl=>?_⟩
   refine ⟨_,rfl,l,_,rfl,.inl (cW.of el),by show 1<=sizeLine;omega,fun l4 f4=>?_⟩
   refine ⟨_,rfl,l4,l,_,_,rfl,rfl,aB,(aL.new f4) _ _ el,(by rw [List.length_map];show 1+_<=_;omega),fun l5 f5=>k _ l5 ?_⟩
   rw [aB,List.length_map]
   rfl
def wA (K:PySem.W.Frag):Sp:=fun vs H Q _=>∃ (la:Addr) (dx dy dz:Int) (ys:List (List Int)),vs=[.ref la,.int dx,.int dy,.int dz]/\tV H la ys/\ys.length<=256/\
 ∀ (H':Hp) (l:Addr),aL H H'->H l=none->tV H' l (ys.map (Sl dx dy dz))->Q (.ref l) H'
abbrev Kb:List Str:=["lines","dx","dy","dz","put"]
theorem rG:aO Kb ["lines","dx","dy","dz"] (aG oN):=⟨rfl,rfl,rfl,by decide+kernel,rfl,by decide+kernel,by decide+kernel⟩
theorem Nn {f:Addr} {fd:FuncData} (F:fE K "moved_lines" "moved_lines" oN f fd):bV P w K mg base bU 1 f fd ["lines","dx","dy","dz"] (wA K):=by
 refine F.ok rG (fun vs H Q E h=>?_) (fun cdv A outer s H vs Q E hr h=>?_)
 ·obtain ⟨la,dx,dy,dz,ys,rfl,_⟩:=h
  rfl
 ·obtain ⟨la,dx,dy,dz,ys,rfl,⟨ts,hla,hys⟩,yl,k⟩:=h
  refine ⟨_,aH (aU (tL (own:=[("put",4)]) (te:=Zk (dO (zE (iW K) (dD 4) (tC (.int 0))) (dO (zE (iW K) (dD 4) (tC (.int 1))) (dO (zE (Qc fun i j=>.int (i+j)) (zE (iW K) (dD 4) (tC (.int 2))) (dD 1)) (dO (zE (Qc fun i j=>.int (i+j)) (zE (iW K) (dD 4) (tC (.int 3))) (dD 2)) (dO (zE (Qc fun i j=>.int (i+j)) (zE (iW K) (dD 4) (tC (.int 4))) (dD 3)) (dO (zE (iW K) (dD 4) (tC (.int 5))) gR))))))) rfl rG.nd (gN (pv 0)) (eW (N:=Kb) (sc:=aG oN) (by decide+kernel))
   (fun _ _ _ _ _=>bH (i:=4) rG.nd rfl (Or.inl rfl)) (fun _ _ _ _ _=>gL)
   (fun _ _ _ _ _=>eJ (aA (bO (r:=iW K) aZ (pv 4) aI (fun _ _=>rfl)) (aA (bO (r:=iW K) aZ (pv 4) aI (fun _ _=>rfl)) (aA (bZ fJ (bO (r:=iW K) aZ (pv 4) aI (fun _ _=>rfl)) (pv 1)) (aA (bZ fJ (bO (r:=iW K) aZ (pv 4) aI (fun _ _=>rfl)) (pv 2)) (aA (bZ fJ (bO (r:=iW K) aZ (pv 4) aI (fun _ _=>rfl)) (pv 3)) (aA (bO (r:=iW K) aZ (pv 4) aI (fun _ _=>rfl)) aE))))))))),?_⟩
  have hsl:=aY
  have htl:ts.length=ys.length:=Paired.length hys
  refine ⟨_,rfl,la,rfl,⟨_,cW.of hla⟩,fun Dl hDl=>?_⟩
  refine nZ (K:=K) (xs:=ts.map V.ref) (fun i H'=>aL H H'/\∃ us:List Addr,H' Dl=some (.lst (us.map V.ref))/\Paired (vM H') us ((ys.map (Sl dx dy dz)).take i)) ⟨aL.new hDl,[],aB,.nil⟩ (fun i H' _ z=>cW.of (z.1 _ _ hla)) ?_ ?_
  ·rintro i x H1 ex ⟨S1,us,hD1,pu⟩
   have hi:i<ys.length:=by
    have:=(List.getElem?_eq_some_iff.mp ex).1
    rwa [List.length_map,htl] at this
   obtain ⟨y,ey⟩:∃ y,ys[i]?=some y:=⟨_,List.getElem?_eq_getElem hi⟩
   obtain ⟨t,et,ht,hy6⟩:=cA hys ey
   rw [List.getElem?_map,et] at ex
   cases ex
   obtain ⟨a0,a1,a2,a3,a4,a5,rfl⟩:=sS hy6
   have ht1:=cN.of (K:=K) (S1 _ _ ht)
   have ul:us.length<=256:=by
    have:=Paired.length pu
    rw [List.length_take,List.length_map] at this
    omega
   refine ⟨rfl,_,rfl,t,_,_,_,rfl,rfl,ht1,rfl,_,rfl,t,_,_,_,rfl,rfl,ht1,rfl,_,rfl,t,_,_,_,rfl,rfl,ht1,rfl,_,rfl,_,_,rfl,rfl,_,rfl,t,_,_,_,rfl,rfl,ht1,rfl,_,rfl,_,_,rfl,rfl,_,rfl,t,_,_,_,rfl,rfl,ht1,rfl,_,rfl,_,_,rfl,rfl,_,rfl,t,_,_,_,rfl,rfl,ht1,rfl,(by show 6<=sizeLine;omega),fun p fp=>?_⟩
   have nDp:Dl≠p:=aD hD1 fp
   refine ⟨_,by rw [aC nDp];exact hD1,by rw [List.length_map];omega,fun b o e=>?_,us++[p],by rw [aB,List.map_append];rfl,?_⟩
   ·rw [aC (aD e hDl),aC (aD (S1 _ _ e) fp)]
    exact S1 _ _ e
   ·have e2:(ys.map (Sl dx dy dz))[i]?=some (Sl dx dy dz [a0,a1,a2,a3,a4,a5]):=by rw [List.getElem?_map,ey];rfl
    rw [List.take_succ,e2]
    refine Paired.snoc (Paired.mapP pu fun u v z=>⟨?_,z.2⟩) ⟨?_,rfl⟩
    ·rw [aC (fun e=>by have z1:=z.1;rw [e,hD1] at z1;cases z1),aC (aD z.1 fp)]
     exact z.1
    ·rw [aC (Ne.symm nDp),aB]
     rfl
  ·rintro H1 ⟨S1,us,hD1,pu⟩
   rw [List.length_map,htl,List.take_of_length_le (by rw [List.length_map];exact Nat.le_refl _)] at pu
   exact k H1 Dl S1 hDl ⟨us,hD1,pu⟩
end
theorem Pn {nss:List (List Int)} {l:List Int} {p:Nat} {q:List Nat×Nat} (h:eB nss l p=.ok q):dZ q.1 1<=255:=by
 unfold eB at h
 obtain ⟨p1,_,h⟩:=aK h
 obtain ⟨n,en,h⟩:=aK h
 obtain ⟨r,er,h⟩:=aK h
 obtain ⟨_,_,h⟩:=aK h
 cases h
 have hl:=qW (r:=r) er
 have hl:r.1.length=5:=hl
 have e:r.1[0]?=some r.1[0]:=List.getElem?_eq_getElem (by omega)
 have:=Aw er 0 r.1[0] 255 e rfl
 show (n.1::r.1).getD 1 0<=255
 rw [List.getD_eq_getElem?_getD]
 show (r.1[0]?).getD 0<=255
 rw [e]
 exact this
theorem zV {nss:List (List Int)} {l:List Int}:∀ {n p:Nat} {q:List (List Nat)×Nat},cE nss l n p=.ok q->∀ x∈q.1,dZ x 1<=255
 |0,p,q,h=>by cases h;intro x hx;cases hx
 |n+1,p,q,h=>by
  rw [cE] at h
  split at h
  ·cases h;intro x hx;cases hx
  ·obtain ⟨q1,e1,h⟩:=aK h
   obtain ⟨q2,e2,rfl⟩:=eZ h
   intro x hx
   rcases List.mem_cons.mp hx with rfl|hx
   ·exact Pn e1
   ·exact zV e2 x hx
theorem Ux {lc lb:List Int} {prs:List aM} {nm:List Int} {ls:List (List Nat)} (h:dC lc lb=.ok prs nm ls):∀ x∈ls,dZ x 1<=255:=by
 have h:=(Bp h).2
 unfold dH at h
 obtain ⟨_,_,h⟩:=aK h
 obtain ⟨_,_,h⟩:=aK h
 obtain ⟨_,_,h⟩:=aK h
 obtain ⟨r,er,h⟩:=aK h
 split at h
 ·cases h;exact zV er
 ·cases h
theorem aAl {lc lb:List Int} (hc:Om lc) (hb:Om lb) {prs:List aM} {nm:List Int} {ls:List (List Nat)} (h:dC lc lb=.ok prs nm ls):(∀ pr∈prs,dN pr)/\¬(Br.wrong (prs.map cI)).isSome=true:=by
 have h1:=Dt hc hb
 rw [h] at h1
 exact ⟨h1.2.1,h1.2.2.2.1⟩
theorem Qg {CP:Addr} {H:Hp} {bs:List Addr} {prs:List aM} (h:dI CP H bs prs):∀ pr∈prs,pr.name.length<=8:=fun pr hp=>by
 obtain ⟨i,e⟩:=List.mem_iff_getElem?.mp hp
 obtain ⟨b,_,_,po⟩:=cA h e
 exact po.nm
theorem Ej {prs:List aM}:∀ {ls:List (List Nat)} {j:Nat} {sg ow:CL},cM prs j sg ow ls=[]->∀ x∈ls,jJ (rM prs x) (dZ x 2) (dZ x 3) (dZ x 4)=false
 |[],_,_,_,_,x,hx=>by cases hx
 |y::r,j,sg,ow,h,x,hx=>by
  rw [cM] at h
  split at h
  ·cases h
  ·rename_i h1
   split at h
   ·cases h
   ·split at h
    ·cases h
    ·rcases List.mem_cons.mp hx with rfl|hx
     ·exact cR h1
     ·exact Ej h x hx
theorem Du {prs:List aM} (ok:∀ pr∈prs,dN pr) {ls:List (List Nat)} (h6:∀ x∈ls,Ch prs.length x) (h5:∀ x∈ls,dZ x 5<=3) (fr:cM prs 0 [] [] ls=[]):∀ y∈ls.map xY,Ms prs y:=by
 intro y hy
 obtain ⟨x,hx,rfl⟩:=List.mem_map.mp hy
 have lv:=Ej fr x hx
 obtain ⟨hl,h0⟩:=h6 x hx
 rw [<-Ae ok h0] at lv
 have z:=(tR ok h0).mp lv
 have z5:=h5 x hx
 obtain ⟨a,b,c,d,e,f,rfl⟩:=Xp hl
 have z:0<=(c:Int)/\0<=(d:Int)/\0<=(e:Int)/\(c:Int)+(tsz prs a f).1<=64/\(d:Int)+(tsz prs a f).2.1<=64/\(e:Int)+(tsz prs a f).2.2<=96:=z
 have z5:f<=3:=z5
 refine ⟨rfl,?_,h0,?_,?_,?_,?_⟩
 ·show ∀ k∈[(a:Int),(b:Int),(c:Int),(d:Int),(e:Int),(f:Int)],0<=k
  simp only [List.mem_cons,List.not_mem_nil,or_false,forall_eq_or_imp,forall_eq]
  omega
 ·show (f:Int)<4
  omega
 ·show (c:Int)+(tsz prs a f).1<=64
  omega
 ·show (d:Int)+(tsz prs a f).2.1<=64
  omega
 ·show (e:Int)+(tsz prs a f).2.2<=96
  omega
theorem wP {ls:List (List Nat)}:(ls.map xY).map (fun y=>fP (sX y))=ls.map fP:=by
 rw [List.map_map]
 refine List.map_congr_left fun x _=>?_
 show fP (sX (xY x))=fP x
 have:sX (xY x)=x:=by
  unfold sX xY
  rw [List.map_map]
  have:(Int.toNat∘fun (n:Nat)=>(n:Int))=id:=funext fun n=>Int.toNat_natCast n
  rw [this,List.map_id]
 rw [this]
def zY (y:List Int):Prop:=iN y 1<=255
theorem Jg {prs:List aM} {ys:List (List Int)} (h:∀ y∈ys,zY y):∀ n:Nat,∀ y∈nI prs n ys,zY y
 |0,y,hy=>h y hy
 |n+1,y,hy=>by
  obtain ⟨v,hv,rfl⟩:=List.mem_map.mp hy
  exact Jg h n v hv
theorem Sc {prs:List aM} (ok:∀ pr∈prs,dN pr) {ys:List (List Int)} (h:∀ y∈ys,Ms prs y):∀ n:Nat,∀ y∈nI prs n ys,Ms prs y
 |0,y,hy=>h y hy
 |n+1,y,hy=>by
  obtain ⟨v,hv,rfl⟩:=List.mem_map.mp hy
  exact (xS ok (Sc ok h n v hv)).1
theorem uO {prs:List aM} {ys:List (List Int)}:∀ n:Nat,(nI prs n ys).length=ys.length
 |0=>rfl
 |n+1=>by
  show ((nI prs n ys).map (vU prs)).length=_
  rw [List.length_map,uO n]
theorem Va {ys:List (List Int)}:(pA ys).length=ys.length:=by
 unfold pA
 split
 ·rename_i h
  rw [h]
  rfl
 ·rw [List.length_map]
theorem Ms.six0 {prs:List aM} {y:List Int} (h:Ms prs y):0<=iN y 0/\0<=iN y 5:=by
 obtain ⟨hl,hn,_⟩:=h
 obtain ⟨a,b,c,d,e,f,rfl⟩:=sS hl
 exact ⟨hn a (by simp),hn f (by simp)⟩
theorem Al {prs:List aM} (h:¬(Br.wrong (prs.map cI)).isSome=true):∀ pr∈prs,(cI pr).tight=true:=by
 intro pr hp
 unfold Br.wrong at h
 rw [pL,Bool.not_eq_true',Bool.not_eq_false,Bool.and_eq_true] at h
 have g:=List.all_eq_true.mp h.1 (cI pr) (List.mem_map_of_mem hp)
 unfold hJ at g
 simp only [Bool.and_eq_true] at g
 exact g.2.2.1
theorem Wd {ys:List (List Int)} (h:∀ y∈ys,zY y):∀ y∈pA ys,zY y:=by
 unfold pA
 split
 ·intro y hy;cases hy
 ·intro y hy
  obtain ⟨v,hv,rfl⟩:=List.mem_map.mp hy
  exact h v hv
theorem aBy {prs:List aM} (ok:∀ pr∈prs,dN pr) (p64:prs.length<=64) {y:List Int} (h:Ms prs y) (hc:zY y):YOk prs y:=by
 obtain ⟨hl,hn,hp,hr,hx,hy,hz⟩:=h
 obtain ⟨a,b,c,d,e,f,rfl⟩:=sS hl
 have zp:=Av ok (r:=f.toNat) (p:=a.toNat) hp
 simp only [List.mem_cons,List.not_mem_nil,or_false,forall_eq_or_imp,forall_eq] at hn
 have hp':a.toNat<prs.length:=hp
 have hr:f<4:=hr
 have hc:b<=255:=hc
 have hx:c+(tsz prs a.toNat f.toNat).1<=64:=hx
 have hy:d+(tsz prs a.toNat f.toNat).2.1<=64:=hy
 have hz:e+(tsz prs a.toNat f.toNat).2.2<=96:=hz
 refine ⟨rfl,?_,hp⟩
 simp only [List.mem_cons,List.not_mem_nil,or_false,forall_eq_or_imp,forall_eq]
 omega
section
variable {P:Program} {w:World} {K:PySem.W.Frag} {mg:Str->Option Value} {base:Heap} {C CR CP CB CG CM:Addr}
theorem Be {H:Hp} {la Dl:Addr} {ts:List Addr} {ys:List (List Int)} {k:Nat} {kk:Int} (hk:k<6) (ek:kk=k) (hla:H la=some (.lst (ts.map V.ref))) (hys:Paired (vM H) ts ys) (yl:ys.length<=256) (hDl:H Dl=none) {v0 vx vy vz v4:Option V} {Qd:Hp->Prop} (h:∀ (H':Hp),aL H H'->H' Dl=some (.lst ((ys.map fun y=>iN y k).map V.int))->Qd H'):
  ∃ W:Nat->Nat->Hp->Prop,(∃ m,W 0 m (upd H Dl (.lst [])))/\∀ i m H,W i m H->
   ((Qr K la).stop i H/\Qd H)\/((Qr K la).go i H/\∃ Nx:Hp->Prop,(∀ H',Nx H'->∃ m',m'<m/\W (i+1) m' H')/\∀ x H',(Qr K la).yld i H x H'->lV 4 x (eX [v0,vx,vy,vz,v4] [4]) H' fun σ2 H2=>eX σ2 [4]=eX [v0,vx,vy,vz,v4] [4]/\aBv σ2 H2 fun b H3=>
    if b=true then zE (iW K) (dD 4) (tC (.int kk)) σ2 H3 fun y H4=>∃ acc,H4 Dl=some (.lst acc)/\acc.length<sizeLine/\Nx (upd H4 Dl (.lst (acc++[y]))) else Nx H3):=by
 have hsl:=aY
 have htl:ts.length=ys.length:=Paired.length hys
 refine nZ (K:=K) (xs:=ts.map V.ref) (fun i H'=>aL H H'/\H' Dl=some (.lst (((ys.map fun y=>iN y k).take i).map V.int))) ⟨aL.new hDl,aB⟩ (fun i H' _ z=>cW.of (z.1 _ _ hla)) ?_ ?_
 ·rintro i x H1 ex ⟨S1,hD1⟩
  have hi:i<ys.length:=by
   have:=(List.getElem?_eq_some_iff.mp ex).1
   rwa [List.length_map,htl] at this
  obtain ⟨y,ey⟩:∃ y,ys[i]?=some y:=⟨_,List.getElem?_eq_getElem hi⟩
  obtain ⟨t,et,ht,hy6⟩:=cA hys ey
  rw [List.getElem?_map,et] at ex
  cases ex
  have hat:Mf (y.map V.int) kk=some (V.int (iN y k)):=by
   have:(y.map V.int)[k]?=some (V.int (iN y k)):=by
    unfold iN
    rw [List.getElem?_map,List.getD_eq_getElem?_getD,List.getElem?_eq_getElem (by omega)]
    rfl
   rw [ek]
   exact iC this
  refine ⟨rfl,_,rfl,t,_,_,_,rfl,rfl,cN.of (S1 _ _ ht),hat,_,hD1,?_,?_,?_⟩
  ·rw [List.length_map,List.length_take,List.length_map]
   omega
  ·intro b' o e
   rw [aC (aD e hDl)]
   exact S1 _ _ e
  ·have e3:(ys.map fun y=>iN y k)[i]?=some (iN y k):=by rw [List.getElem?_map,ey];rfl
   rw [aB,List.take_succ,e3,List.map_append]
   rfl
 ·rintro H1 ⟨S1,hD1⟩
  rw [List.length_map,htl,List.take_of_length_le (by rw [List.length_map];exact Nat.le_refl _)] at hD1
  exact h H1 S1 hD1
def aCw (ls:List (List Nat)):Br.Build:=⟨[],ls.map fP⟩
theorem Hk {l:List Int} {m:Int} (hm:m∈l) (hl:∀ y∈l,m<=y):m=hZ l:=by
 have h1:=mG (l:=l) (List.ne_nil_of_mem hm)
 have h2:=nW hm
 have h3:=hl _ h1
 omega
def Gy (K:PySem.W.Frag):Sp:=fun vs H Q _=>∃ (la:Addr) (ys:List (List Int)),vs=[.ref la]/\tV H la ys/\ys.length<=256/\∀ (H':Hp) (l:Addr),aL H H'->tV H' l (pA ys)->Q (.ref l) H'
abbrev Jz:List Str:=["lines","x","y","z","put"]
theorem gM:aO Jz ["lines"] (aG iY):=⟨rfl,rfl,rfl,by decide+kernel,rfl,by decide+kernel,by decide+kernel⟩
theorem Tt {f:Addr} {fd:FuncData} (F:fE K "moved_home" "moved_home" iY f fd) (hlen:mg "len"=none) (hmin:mg "min"=none) (L1:dL P w K mg base "moved_lines" bU 1 ["lines","dx","dy","dz"] (wA K)):bV P w K mg base bU 2 f fd ["lines"] (Gy K):=by
 obtain ⟨g1,gd1,G1,b1,k1,h1⟩:=L1.ex
 refine F.ok gM (fun vs H Q E h=>?_) (fun cdv A outer s H vs Q E hr h=>?_)
 ·obtain ⟨la,ys,rfl,_⟩:=h
  rfl
 ·obtain ⟨la,ys,rfl,hY,yl,k⟩:=h
  have pl:∀ (kk:Int) (s:Shared) (H:Hp) (C:Addr) (cl:List (Str×Addr)) (fp:List Addr),True:=fun _ _ _ _ _ _=>trivial
  refine ⟨_,aF (eG (dR (Zn (bQ bW (by rfl) hlen PySem.boot_len (aA (pv 0) aE)) aI)) (aH (aU (eE aE))) cC)
   (aF (bI (i:=1) gM.nd rfl (Or.inl rfl) (bQ (vB rfl) (by rfl) hmin boot_min (aA (tL (own:=[("put",4)]) (te:=zE (iW K) (dD 4) (tC (.int 2))) rfl gM.nd (gN (pv 0)) (eW (N:=Jz) (sc:=aG iY) (by decide+kernel)) (fun _ _ _ _ _=>bH (i:=4) gM.nd rfl (Or.inl rfl)) (fun _ _ _ _ _=>gL) (fun _ _ _ _ _=>bO (r:=iW K) aZ (pv 4) aI (fun _ _=>rfl))) aE)))
   (aF (bI (i:=2) gM.nd rfl (Or.inl rfl) (bQ (vB rfl) (by rfl) hmin boot_min (aA (tL (own:=[("put",4)]) (te:=zE (iW K) (dD 4) (tC (.int 3))) rfl gM.nd (gN (pv 0)) (eW (N:=Jz) (sc:=aG iY) (by decide+kernel)) (fun _ _ _ _ _=>bH (i:=4) gM.nd rfl (Or.inl rfl)) (fun _ _ _ _ _=>gL) (fun _ _ _ _ _=>bO (r:=iW K) aZ (pv 4) aI (fun _ _=>rfl))) aE)))
   (aF (bI (i:=3) gM.nd rfl (Or.inl rfl) (bQ (vB rfl) (by rfl) hmin boot_min (aA (tL (own:=[("put",4)]) (te:=zE (iW K) (dD 4) (tC (.int 4))) rfl gM.nd (gN (pv 0)) (eW (N:=Jz) (sc:=aG iY) (by decide+kernel)) (fun _ _ _ _ _=>bH (i:=4) gM.nd rfl (Or.inl rfl)) (fun _ _ _ _ _=>gL) (fun _ _ _ _ _=>bO (r:=iW K) aZ (pv 4) aI (fun _ _=>rfl))) aE)))
   (aH (aU (aP G1 hr (by rfl) h1 k1 b1 .nil aX (aA (pv 0) (aA (qP lM (pv 1)) (aA (qP lM (pv 2)) (aA (qP lM (pv 3)) aE)))))))))),?_⟩
  have hsl:=aY
  obtain ⟨ts,hla,hys⟩:=id hY
  have htl:(ts.map V.ref).length=ys.length:=by rw [List.length_map];exact Paired.length hys
  refine ⟨_,rfl,la,_,rfl,.inl (cW.of hla),_,_,rfl,rfl,_,rfl,cF (fun e=>?_) (fun e=>?_)⟩
  ·have e:(((ts.map V.ref).length:Nat):Int)=0:=of_decide_eq_true e
   rw [htl] at e
   have e0:ys.length=0:=by omega
   unfold pA at k
   rw [if_pos e0] at k
   exact ⟨by show 0<=sizeLine;omega,fun l fl=>k _ l (aL.new fl) ⟨[],aB,.nil⟩⟩
  ·have e:¬(((ts.map V.ref).length:Nat):Int)=0:=fun z=>e (decide_eq_true z)
   rw [htl] at e
   have e0:¬ys.length=0:=by omega
   unfold pA at k
   rw [if_neg e0] at k
   have np:∀ j,0<(ys.map fun y=>iN y j).length:=fun j=>by rw [List.length_map];omega
   have pk:∀ {H':Hp},aL H H'->Paired (vM H') ts ys:=fun s=>Paired.mapP hys fun t y z=>⟨s _ _ z.1,z.2⟩
   refine ⟨_,rfl,la,rfl,⟨_,cW.of hla⟩,fun D1 n1=>Be (k:=2) (by decide) rfl hla hys yl n1 fun H1 S1 d1=>⟨D1,_,rfl,cW.of d1,np 2,fun m2 hm2 hl2=>?_⟩⟩
   refine ⟨_,rfl,la,rfl,⟨_,cW.of (S1 _ _ hla)⟩,fun D2 n2=>Be (k:=3) (by decide) rfl (S1 _ _ hla) (pk S1) yl n2 fun H2 S2 d2=>⟨D2,_,rfl,cW.of d2,np 3,fun m3 hm3 hl3=>?_⟩⟩
   have S12:=S1.trans S2
   refine ⟨_,rfl,la,rfl,⟨_,cW.of (S12 _ _ hla)⟩,fun D3 n3=>Be (k:=4) (by decide) rfl (S12 _ _ hla) (pk S12) yl n3 fun H3 S3 d3=>⟨D3,_,rfl,cW.of d3,np 4,fun m4 hm4 hl4=>?_⟩⟩
   have S13:=(S1.trans S2).trans S3
   rw [<-Hk hm2 hl2,<-Hk hm3 hl3,<-Hk hm4 hl4] at k
   exact ⟨_,rfl,_,rfl,_,rfl,_,rfl,_,rfl,_,rfl,_,rfl,la,_,_,_,ys,rfl,hY.same S13,yl,fun H4 l S4 fl hl=>k H4 l (S13.trans S4) hl⟩
def uM (K:PySem.W.Frag) (CP:Addr):Sp:=fun vs H Q _=>∃ (pa t:Addr) (bs:List Addr) (prs:List aM) (y:List Int),vs=[.ref pa,.ref t]/\cW K H pa (bs.map V.ref)/\dI CP H bs prs/\vM H t y/\0<=iN y 0/\(iN y 0).toNat<prs.length/\0<=iN y 5/\
 ∀ (H':Hp) (u:Addr),aL H H'->H u=none->vM H' u (vU prs y)->Q (.ref u) H'
theorem Dx:aO ["parts","put","last"] ["parts","put"] (aG jV):=⟨rfl,rfl,rfl,by decide+kernel,rfl,by decide+kernel,by decide+kernel⟩
theorem Qn {f:Addr} {fd:FuncData} (F:fE K "turned_line" "turned_line" jV f fd) (c1:CI mg "ROOM_WIDTH" 64) (L1:dL P w K mg base "turned_sizes" bU 1 ["part","turns"] (mE CP)):bV P w K mg base bU 2 f fd ["parts","put"] (uM K CP):=by
 obtain ⟨g1,gd1,G1,b1,k1,h1⟩:=L1.ex
 refine F.ok Dx (fun vs H Q E h=>?_) (fun cdv A outer s H vs Q E hr h=>?_)
 ·obtain ⟨pa,t,bs,prs,y,rfl,_⟩:=h
  rfl
 ·obtain ⟨pa,t,bs,prs,y,rfl,hpa,hps,⟨ht,hy⟩,hy0,hlt,hy5,k⟩:=h
  obtain ⟨a0,a1,a2,a3,a4,a5,rfl⟩:=sS hy
  have hy0:0<=a0:=hy0
  have hlt:a0.toNat<prs.length:=hlt
  have hy5:0<=a5:=hy5
  refine ⟨_,aF (bI (i:=2) Dx.nd rfl (Or.inl rfl) (bZ eC (bZ fJ (bO aZ (pv 1) aI (fun _ _=>rfl)) (bO aZ (aP G1 hr (by rfl) h1 k1 b1 .nil aX (aA (bO jE (pv 0) (bO aZ (pv 1) aI (fun _ _=>rfl)) (fun _ _=>rfl)) (aA (bO aZ (pv 1) aI (fun _ _=>rfl)) aE))) aI (fun _ _=>rfl))) aI))
   (aH (aU (eJ (aA (bO aZ (pv 1) aI (fun _ _=>rfl)) (aA (bO aZ (pv 1) aI (fun _ _=>rfl)) (aA (bO aZ (pv 1) aI (fun _ _=>rfl)) (aA (bZ eC (bZ eC (eM c1) aI) (pv 2)) (aA (bO aZ (pv 1) aI (fun _ _=>rfl)) (aA (bZ Rn (bZ fJ (bO aZ (pv 1) aI (fun _ _=>rfl)) aI) aI) aE))))))))),?_⟩
  obtain ⟨pr,epr⟩:∃ pr,prs[a0.toNat]?=some pr:=⟨_,List.getElem?_eq_getElem hlt⟩
  obtain ⟨b,eb,pat,po⟩:=cA hps epr
  obtain ⟨dx,nm,cc,f1,f2,f3⟩:=pat
  have e0:Mf (bs.map V.ref) a0=some (V.ref b):=by
   have:=iC (xs:=bs.map V.ref) (j:=a0.toNat) (v:=V.ref b) (by rw [List.getElem?_map,eb];rfl)
   rwa [Int.toNat_of_nonneg hy0] at this
  have e5:a5=((a5.toNat:Nat):Int):=(Int.toNat_of_nonneg hy5).symm
  have st:=cN.of (K:=K) ht
  refine ⟨_,rfl,t,_,_,_,rfl,rfl,st,rfl,_,rfl,_,rfl,t,_,_,_,rfl,rfl,st,rfl,pa,_,_,_,rfl,rfl,hpa,e0,_,rfl,t,_,_,_,rfl,rfl,st,rfl,b,dx,nm,cc,_,_,_,_,a5.toNat,by rw [<-e5];rfl,f1,fun tz htz=>?_⟩
  have ez:=Rs (r:=a5.toNat) epr
  rw [ez]
  have S1:=aL.new (o:=.tup ([(tsz prs a0.toNat a5.toNat).1,(tsz prs a0.toNat a5.toNat).2.1,(tsz prs a0.toNat a5.toNat).2.2].map V.int)) htz
  have st1:=cN.of (K:=K) (S1 _ _ ht)
  refine ⟨tz,_,_,_,rfl,rfl,cN.of aB,rfl,_,_,rfl,rfl,_,_,rfl,rfl,?_⟩
  refine ⟨_,rfl,t,_,_,_,rfl,rfl,st1,rfl,_,rfl,t,_,_,_,rfl,rfl,st1,rfl,_,rfl,t,_,_,_,rfl,rfl,st1,rfl,_,_,rfl,rfl,_,rfl,_,_,rfl,rfl,_,rfl,t,_,_,_,rfl,rfl,st1,rfl,_,rfl,t,_,_,_,rfl,rfl,st1,rfl,_,_,rfl,rfl,_,_,rfl,rfl,(show (0:Int)<4 by decide),(by show 6<=sizeLine;decide),fun u fu=>k _ u (S1.trans (aL.new fu)) (S1.free fu) ⟨?_,rfl⟩⟩
  rw [aB]
  rfl
end
section
variable {P:Program} {w:World} {K:PySem.W.Frag} {mg:Str->Option Value} {base:Heap} {C CR CP CB CG CM:Addr}
def sR (K:PySem.W.Frag) (CP:Addr):Sp:=fun vs H Q _=>∃ (pa la:Addr) (n:Nat) (bs:List Addr) (prs:List aM) (ys:List (List Int)),vs=[.ref pa,.ref la,.int (n:Int)]/\n<=3/\H pa=some (.lst (bs.map V.ref))/\dI CP H bs prs/\(∀ pr∈prs,dN pr)/\tV H la ys/\ys.length<=256/\(∀ y∈ys,Ms prs y)/\
 ∀ (H':Hp) (l:Addr),aL H H'->tV H' l (pA (nI prs n ys))->Q (.ref l) H'
abbrev Dz:List Str:=["parts","lines","turns","turn","put"]
theorem kY:aO Dz ["parts","lines","turns"] (aG jX):=⟨rfl,rfl,rfl,by decide+kernel,rfl,by decide+kernel,by decide+kernel⟩
theorem Iu {f:Addr} {fd:FuncData} (F:fE K "turned_lines" "turned_lines" jX f fd) (hrange:mg "range"=none) (L1:dL P w K mg base "turned_line" bU 2 ["parts","put"] (uM K CP)) (L2:dL P w K mg base "moved_home" bU 2 ["lines"] (Gy K)):bV P w K mg base bU 4 f fd ["parts","lines","turns"] (sR K CP):=by
 obtain ⟨g1,gd1,G1,b1,k1,h1⟩:=L1.ex
 obtain ⟨g2,gd2,G2,b2,k2,h2⟩:=L2.ex
 refine F.ok kY (fun vs H Q E h=>?_) (fun cdv A outer s H vs Q E hr h=>?_)
 ·obtain ⟨pa,la,n,bs,prs,ys,rfl,_⟩:=h
  rfl
 ·obtain ⟨pa,la,n,bs,prs,ys,rfl,n3,hpa,hps,ok,hY,yl,yi,k⟩:=h
  have hr2:=hr.mono (j:=2) (by decide)
  refine ⟨_,aF (eQ PassesOwn.never rfl (kO rfl hrange (aA (pv 2) aE)) (bH (i:=3) kY.nd rfl (Or.inl rfl))
    (aH (wT (i:=1) (te:=zF (uM K CP) [] E0 (dO (dD 0) (dO (dD 4) gR))) (own:=[("put",4)]) rfl kY.nd rfl rfl rfl (gN (pv 1)) (eW (N:=Dz) (sc:=aG jX) (by decide+kernel))
      (fun _ _ _ _ _=>bH (i:=4) kY.nd rfl (Or.inl rfl)) (fun _ _ _ _ _=>gL) (fun _ _ _ _ _=>aP G1 hr2 (by rfl) h1 k1 b1 .nil aX (aA (pv 0) (aA (pv 4) aE))))))
   (aH (aU (aP G2 hr2 (by rfl) h2 k2 b2 .nil aX (aA (pv 1) aE)))),?_⟩
  have hsl:=aY
  refine ⟨_,rfl,(n:Int),rfl,by omega,by omega,?_⟩
  refine rY (n:=n) (fun i σ H'=>∃ la' v3 v4,σ=[some (.ref pa),some (.ref la'),some (.int (n:Int)),v3,v4]/\aL H H'/\tV H' la' (nI prs i ys)) ⟨la,none,none,rfl,fun _ _ e=>e,hY⟩ ?_ ?_
  ·rintro i σ H1 hi ⟨la',v3,v4,rfl,S1,ts,hla,hys⟩
   have ln:=uO (prs:=prs) (ys:=ys) i
   have inr:=Sc ok yi i
   generalize hz:nI prs i ys=zs at hys ln inr
   have htl:ts.length=zs.length:=Paired.length hys
   refine ⟨_,rfl,la',rfl,⟨_,cW.of hla⟩,fun Dl hDl=>?_⟩
   refine nZ (K:=K) (xs:=ts.map V.ref) (fun j H'=>aL H1 H'/\∃ us:List Addr,H' Dl=some (.lst (us.map V.ref))/\Paired (vM H') us ((zs.map (vU prs)).take j)) ⟨aL.new hDl,[],aB,.nil⟩ (fun j H' _ z=>cW.of (z.1 _ _ hla)) ?_ ?_
   ·rintro j x H2 ex ⟨S2,us,hD2,pu⟩
    have hj:j<zs.length:=by
     have:=(List.getElem?_eq_some_iff.mp ex).1
     rwa [List.length_map,htl] at this
    obtain ⟨y,ey⟩:∃ y,zs[j]?=some y:=⟨_,List.getElem?_eq_getElem hj⟩
    obtain ⟨t,et,ht,hy6⟩:=cA hys ey
    rw [List.getElem?_map,et] at ex
    cases ex
    have iy:=inr y (List.mem_of_getElem? ey)
    have S12:=S1.trans S2
    have ul:us.length<=256:=by
     have:=Paired.length pu
     rw [List.length_take,List.length_map] at this
     omega
    refine ⟨rfl,_,rfl,_,rfl,pa,t,bs,prs,y,rfl,cW.of (S12 _ _ hpa),Paired.mapP hps (fun _ _ z=>⟨z.1.same S12,z.2⟩),⟨S2 _ _ ht,hy6⟩,iy.six0.1,iy.p,iy.six0.2,fun H3 u S3 fu pu3=>?_⟩
    have nDu:Dl≠u:=aD hD2 fu
    refine ⟨_,S3 _ _ hD2,by rw [List.length_map];omega,fun b o e=>?_,us++[u],by rw [aB,List.map_append];rfl,?_⟩
    ·rw [aC (aD e hDl)]
     exact S3 _ _ (S2 _ _ e)
    ·have e2:(zs.map (vU prs))[j]?=some (vU prs y):=by rw [List.getElem?_map,ey];rfl
     rw [List.take_succ,e2]
     refine Paired.snoc (Paired.mapP pu fun v z q=>⟨?_,q.2⟩) ⟨?_,pu3.2⟩
     ·rw [aC (fun e=>by have z1:=q.1;rw [e,hD2] at z1;cases z1)]
      exact S3 _ _ q.1
     ·rw [aC (Ne.symm nDu)]
      exact pu3.1
   ·rintro H2 ⟨S2,us,hD2,pu⟩
    rw [List.length_map,htl,List.take_of_length_le (by rw [List.length_map];exact Nat.le_refl _)] at pu
    refine ⟨Dl,_,_,rfl,S1.trans S2,us,hD2,?_⟩
    show Paired (vM H2) us ((nI prs i ys).map (vU prs))
    rw [hz]
    exact pu
  ·rintro σ H1 ⟨la',v3,v4,rfl,S1,hY1⟩
   exact ⟨_,rfl,la',nI prs n ys,rfl,hY1,by rw [uO];exact yl,fun H2 l S2 hl=>k H2 l (S1.trans S2) hl⟩
end
def uE (r:Int) (lc lb:List Int):List Int:=if 3<r then [-1] else rO (fun prs nm ls=>aBr prs nm (pA (nI prs r.toNat (ls.map xY)))) lc lb
theorem Bn {r:Int} {lc lb:List Int} (hr:0<=r) (hc:Om lc) (hb:Om lb):PyWqasbx.turned r lc lb=uE r lc lb:=by
 show BuildsNeutral.shown (BrB.answer (.turned (Gx lc) (Gx lb) r.toNat))=_
 unfold BrB.answer uE
 by_cases h3:3<r
 ·rw [if_pos h3]
  show BuildsNeutral.shown (if 3<r.toNat then BrB.no 1 else _)=_
  rw [if_pos (by omega)]
  rfl
 ·rw [if_neg h3]
  show BuildsNeutral.shown (if 3<r.toNat then BrB.no 1 else _)=_
  rw [if_neg (by omega)]
  refine Jb hc hb fun prs nm ls d R=>?_
  have hd:d.lines=(ls.map xY).map fun y=>fP (sX y):=by rw [wP];exact R.dl
  have inr:=Du R.ok R.ln R.tr R.fr
  have tm:=rJ R.ok inr hd r.toNat
  have hm:=Ac R.ok (Al R.cw) tm.1 tm.2
  rw [Iq]
  have e3:aW (Br.Build.text (prs.map cI) (d.turned (prs.map cI) r.toNat))=Ff (prs.map (·.name)) nm (pA (nI prs r.toNat (ls.map xY))):=by
   refine Hg R.ok (fun y hy=>⟨(hm.1 y hy).l,(hm.1 y hy).p⟩) hm.2 ?_
   have:∀ n:Nat,(d.turnedOnly (prs.map cI) n).name=d.name:=fun n=>by
    induction n with
    |zero=>rfl
    |succ n ih=>rfl
   show aW (d.turnedOnly (prs.map cI) r.toNat).name=nm
   rw [this]
   exact R.dn
  show (((aW (Br.Build.text (prs.map cI) (d.turned (prs.map cI) r.toNat))).length:Nat):Int)::aW (Br.Build.text (prs.map cI) (d.turned (prs.map cI) r.toNat))=_
  rw [e3]
  rfl
section
variable {P:Program} {w:World} {K:PySem.W.Frag} {mg:Str->Option Value} {base:Heap} {C CR CP CB CG CM:Addr}
def rN (K:PySem.W.Frag):Sp:=fun vs H Q _=>∃ (r:Int) (c b:Addr) (lc lb:List Int),vs=[.int r,.ref c,.ref b]/\0<=r/\Om lc/\Om lb/\cW K H c (lc.map V.int)/\cW K H b (lb.map V.int)/\∀ (H':Hp) (l:Addr),H' l=some (.lst ((uE r lc lb).map V.int))->Q (.ref l) H'
theorem xB:aO ["r","c","b","given"] ["r","c","b"] (aG gC):=⟨rfl,rfl,rfl,by decide+kernel,rfl,by decide+kernel,by decide+kernel⟩
theorem Hv {f:Addr} {fd:FuncData} (F:fE K "turned" "turned" gC f fd) (T:GvT K CG) (TB:BdT K CB) (c1:CI mg "MOST_TURNS" 3) (L1:dL P w K mg base "read_right" bU 10 ["c","b"] (xH K CG CP CB CM)) (L2:dL P w K mg base "turned_lines" bU 4 ["parts","lines","turns"] (sR K CP)) (L4:dL P w K mg base "with_lines" bU 4 ["given","lines"] (Bg K CG CP CB)):bV P w K mg base bU 11 f fd ["r","c","b"] (rN K):=by
 obtain ⟨g1,gd1,G1,b1,k1,h1⟩:=L1.ex
 obtain ⟨g2,gd2,G2,b2,k2,h2⟩:=L2.ex
 obtain ⟨g4,gd4,G4,b4,k4,h4⟩:=L4.ex
 refine F.ok xB (fun vs H Q E h=>?_) (fun cdv A outer s H vs Q E hr h=>?_)
 ·obtain ⟨r,c,b,lc,lb,rfl,_⟩:=h
  rfl
 ·obtain ⟨r,c,b,lc,lb,rfl,r0,bc,bb,hc,hb,k⟩:=h
  have hr4:=hr.mono (j:=4) (by decide)
  refine ⟨_,aF (eG (dR (rB (pv 0) (eM c1))) (aH (aU (eE (aA (qP lM aI) aE)))) cC)
   (aF (bI (i:=3) xB.nd rfl (Or.inl rfl) (aP G1 hr (by rfl) h1 k1 b1 .nil aX (aA (pv 1) (aA (pv 2) aE))))
   (aF (eG (dR (Kv (aT (pv 3) rfl) aI)) (aH (aU (eE (aA (aT (pv 3) rfl) aE)))) cC)
   (aH (aU (aP G4 hr4 (by rfl) h4 k4 b4 .nil aX (aA (pv 3) (aA (aP G2 hr4 (by rfl) h2 k2 b2 .nil aX (aA (aT (pv 3) rfl) (aA (aT (aT (pv 3) rfl) rfl) (aA (pv 0) aE)))) aE))))))),?_⟩
  unfold uE at k
  refine ⟨_,rfl,_,_,rfl,rfl,_,rfl,cF (fun e=>?_) (fun e=>?_)⟩
  ·have e:3<r:=of_decide_eq_true e
   rw [if_pos e] at k
   exact ⟨_,rfl,by show 1<=sizeLine;decide,fun l hl=>k _ l aB⟩
  have e:¬3<r:=fun z=>e (decide_eq_true z)
  rw [if_neg e] at k
  refine ⟨_,rfl,_,rfl,c,b,lc,lb,rfl,hc,hb,fun H1 g S1 hgH hg=>?_⟩
  obtain ⟨dxg,pa,bv,rv,rf,ft,hg,alt⟩:=Uv hg
  refine ⟨_,rfl,g,CG,dxg,_,_,rfl,hg,T.cl,T.n1,rfl,_,_,rfl,rfl,_,rfl,cF (fun e=>?_) (fun e=>?_)⟩
  ·have e:rf<0:=of_decide_eq_true e
   rcases alt with ⟨_,hR⟩|⟨h0,_⟩
   ·rw [hR] at k
    exact ⟨_,rfl,g,CG,dxg,_,_,rfl,hg,T.cl,T.n1,rfl,by show 1<=sizeLine;decide,fun l hl=>k _ l aB⟩
   ·omega
  ·have e:¬rf<0:=fun z=>e (decide_eq_true z)
   rcases alt with ⟨hlt,_⟩|⟨h0,prs,nm,ls,q,m,bs,eg,hR,fr,rfl,rfl,hpa,hps,hbd,hrm,hp64⟩
   ·exact absurd hlt e
   ·rw [hR] at k
    obtain ⟨ok,cw⟩:=aAl bc bb eg
    have g6:=Bx eg
    have g5:=vX eg
    have gc:=Ux eg
    obtain ⟨dxb,na,la,ts,hq,hna,hla,hls,l256,n16⟩:=hbd
    have hY:=aCa hla hls
    have inr:=Du ok g6 g5 fr
    have er:r=((r.toNat:Nat):Int):=(Int.toNat_of_nonneg r0).symm
    have hd:(aCw ls).lines=(ls.map xY).map fun y=>fP (sX y):=by rw [wP];rfl
    have tm:=rJ ok inr hd r.toNat
    have hm:=Ac ok (Al cw) tm.1 tm.2
    have co:∀ y∈pA (nI prs r.toNat (ls.map xY)),zY y:=Wd (Jg (fun y hy=>by
     obtain ⟨x,hx,rfl⟩:=List.mem_map.mp hy
     obtain ⟨h6,_⟩:=g6 x hx
     have c1:=gc x hx
     obtain ⟨a,b,c,d,e,f,rfl⟩:=Xp h6
     have c1:b<=255:=c1
     show (b:Int)<=255
     omega) _)
    refine ⟨_,rfl,_,rfl,g,CG,dxg,_,_,rfl,hg,T.cl,T.n3,rfl,_,rfl,g,CG,dxg,_,_,rfl,hg,T.cl,T.n4,rfl,q,CB,dxb,_,_,rfl,hq,TB.cl,TB.n2,rfl,_,rfl,pa,la,r.toNat,bs,prs,ls.map xY,by rw [<-er];rfl,by omega,hpa,hps,ok,hY,by rw [List.length_map];exact l256,inr,fun H2 l2 S2 hY2=>?_⟩
    exact ⟨g,l2,pa,q,dxg,dxb,na,la,_,_,_,bs,prs,nm,pA (nI prs r.toNat (ls.map xY)),rfl,S2 _ _ hg,S2 _ _ hq,S2 _ _ hna,S2 _ _ hpa,Paired.mapP hps (fun _ _ z=>⟨z.1.same S2,z.2⟩),hp64,hY2,
     fun y hy=>aBy ok hp64 (hm.1 y hy) (co y hy),Qg hps,n16,(by rw [Va,uO,List.length_map];exact l256),k⟩
end
theorem Iz {P:Program} {w:World} {K:PySem.W.Frag} {h:Heap} {mg:Str->Option Value} {fa:Addr} (X:K.In h) (G:h.Ns mainGlobals mg) (hfa:mg "turned"=some (.ref fa)) (k:∀ f∈ftC,f.P K) (k2:∀ f∈ftR,f.P K) (nl:PySem.W.nsIn K mainGlobals "len"=some none) (nm:PySem.W.nsIn K mainGlobals "min"=some none) (nr:PySem.W.nsIn K mainGlobals "range"=some none) (nt:PySem.W.nsIn K mainGlobals "list"=some none) (no:PySem.W.nsIn K mainGlobals "ord"=some none) (i1:Hn K "ROOM_WIDTH" 64) (i2:Hn K "MOST_TURNS" 3)
  (ks:gW K "spelled" "spelled" jU) (kb:gW K "build_text" "build_text" iP) (kw:gW K "with_lines" "with_lines" iO) (km:gW K "moved_lines" "moved_lines" oN) (kh:gW K "moved_home" "moved_home" iY) (kt:gW K "turned_line" "turned_line" jV) (ku:gW K "turned_lines" "turned_lines" jX) (kj:gW K "turned" "turned" gC):
  ∃ fd:FuncData,(∀ (s:Shared) (us:List Value),us.length=(["r","c","b"]:List Str).length->BindsTo s fd ⟨us,[]⟩ ((["r","c","b"]:List Str).zip us))/\∀ base:Heap,K.In base->base.Ns mainGlobals mg->bV P w K mg base bU 11 fa fd ["r","c","b"] (rN K):=by
 obtain ⟨f,oc,od,kV,doc,pm,an,cdv,ct,osl,a,l,c,kp⟩:=kj
 have e:=hfa.symm.trans (PySem.W.mg_of X G a)
 cases e
 have F:=sG (st:=gC) l c kp
 refine ⟨PySem.W.fnOf "turned" "turned" (eR gC) (dU gC) (aG gC) .none kV doc pm an cdv ct,fun s us hu=>(by obtain ⟨a,b,c,rfl⟩:=_root_.L2.Zj hu;exact .of_eq rfl),fun base X2 G2=>?_⟩
 have L:=aDm (P:=P) (w:=w) (base:=base) X G k
 have R:=aBa X G L k2
 have nn:∀ {x:Str},PySem.W.nsIn K mainGlobals x=some none->mg x=none:=fun z=>PySem.W.mg_none_of X G z
 have M1:dL P w K mg base "spelled" bU 2 ["word"] sI:=gW.fn0 ks X G (fun f fd F=>Ia F (nn no)) fun _ _ _ _ _ _ us hl=>(by obtain ⟨a,rfl⟩:=_root_.L2.tK hl;rfl)
 have M2:dL P w K mg base "build_text" bU 3 ["build","names"] (Cd K (dP K "Build")):=gW.fn0 kb X G (fun f fd F=>Qq F L.TB (nn nt) M1) fun _ _ _ _ _ _ us hl=>(by obtain ⟨a,b,rfl⟩:=_root_.L2.yG hl;rfl)
 have M3:dL P w K mg base "with_lines" bU 4 ["given","lines"] (Bg K (dP K "Given") (dP K "Part") (dP K "Build")):=gW.fn0 kw X G (fun f fd F=>Pt F L.TG L.TB L.BM (nn nl) L.names M2) fun _ _ _ _ _ _ us hl=>(by obtain ⟨a,b,rfl⟩:=_root_.L2.yG hl;rfl)
 have M4:dL P w K mg base "moved_lines" bU 1 ["lines","dx","dy","dz"] (wA K):=gW.fn0 km X G (fun f fd F=>Nn F) fun _ _ _ _ _ _ us hl=>(by obtain ⟨a,b,c,d,rfl⟩:=_root_.L2.us4 hl;rfl)
 have M5:dL P w K mg base "moved_home" bU 2 ["lines"] (Gy K):=gW.fn0 kh X G (fun f fd F=>Tt F (nn nl) (nn nm) M4) fun _ _ _ _ _ _ us hl=>(by obtain ⟨a,rfl⟩:=_root_.L2.tK hl;rfl)
 have M6:dL P w K mg base "turned_line" bU 2 ["parts","put"] (uM K (dP K "Part")):=gW.fn0 kt X G (fun f fd F=>Qn F (i1.ci X G) R.tsz) fun _ _ _ _ _ _ us hl=>(by obtain ⟨a,b,rfl⟩:=_root_.L2.yG hl;rfl)
 have M7:dL P w K mg base "turned_lines" bU 4 ["parts","lines","turns"] (sR K (dP K "Part")):=gW.fn0 ku X G (fun f fd F=>Iu F (nn nr) M6 M5) fun _ _ _ _ _ _ us hl=>(by obtain ⟨a,b,c,rfl⟩:=_root_.L2.Zj hl;rfl)
 exact Hv F L.TG L.TB (i2.ci X G) R.right M7 M3
end Br1
namespace Br1
open PySem PySem.W
end Br1
namespace Br1
open PySem PySem.Spec PyProof.Rows L2
def hkC:PySem.W.Hook:=Yp asC ftZ
theorem Qp {l:List Int} (h:l.all (PySem.W.Codec.inInt 0 255)=true):Om l:=fun x hx=>PySem.W.Codec.inInt_iff.mp (List.all_eq_true.mp h x hx)
end Br1
open PySem PySem.W PyProof.Rows
set_option maxHeartbeats 0 in
theorem PySem.Challenge.cw_brickrooms_s09_turned_holds : PySem.Challenge.rw_brickrooms_s09_turned.Holds := by
 refine holds_os (q:=Br1.vwC) (loose:=Br1.Ri) (Xt:=fun _=>true) (XP:=fun _ _=>True) (Yf:=Br1.hkC.obs) (Ya:=Br1.hkC.val) (YP:=Br1.hkC.says) (N:=6324) Br1.aB1 Br1.hkC.of Br1.hkC.keeps (fun _ _=>trivial) (fun _ _ _ _ _=>trivial) (by rfl) (by rfl) (by rfl) (fun s _=>recFacts_of (s:=s) (by rfl)) os_shapes (by decide+kernel) (by decide+kernel) ⟨rfl,rfl,rfl,rfl,rfl,by decide+kernel⟩ ⟨[.int 0,.list [],.list []],by decide+kernel,by decide+kernel⟩ ?_
 refine L2.Jd (r:=PySem.Challenge.rw_brickrooms_s09_turned) (k:=11) (CX:=L2.bU) (ps:=["r","c","b"]) (sp:=Br1.rN) (Good:=fun K=>∀ f∈Br1.ftZ,f.P K) (by decide+kernel) rfl rfl ⟨rfl,by decide,by decide⟩ (fun w h Y=>Y) ?F ?S (fun _ _ _ _ z=>z)
 case F=>
  intro w K mg fa h g KX G hmg
  have k0:∀ f∈Br1.ftC,f.P K:=fun f hf=>g f (List.mem_append_left _ hf)
  have g0:=fun (f:Br1.Ft) (hf:f∈_)=>g f (List.mem_append_right _ hf)
  have k1:∀ f∈Br1.ftR,f.P K:=fun f hf=>g0 f (List.mem_append_left _ hf)
  have g1:=fun (f:Br1.Ft) (hf:f∈_)=>g0 f (List.mem_append_right _ hf)
  exact Br1.Iz KX G hmg k0 k1 (Br1.Ft.nth g1 0 (f:=.no "len") rfl) (Br1.Ft.nth g1 1 (f:=.no "min") rfl) (Br1.Ft.nth g1 2 (f:=.no "range") rfl) (Br1.Ft.nth g1 3 (f:=.no "list") rfl) (Br1.Ft.nth g1 4 (f:=.no "ord") rfl) (Br1.Ft.nth g1 5 (f:=.int "ROOM_WIDTH" 64) rfl) (Br1.Ft.nth g1 6 (f:=.int "MOST_TURNS" 3) rfl) (Br1.Ft.nth g1 7 (f:=.fn "spelled" Br1.jU) rfl) (Br1.Ft.nth g1 8 (f:=.fn "build_text" Br1.iP) rfl) (Br1.Ft.nth g1 9 (f:=.fn "with_lines" Br1.iO) rfl) (Br1.Ft.nth g1 10 (f:=.fn "moved_lines" Br1.oN) rfl) (Br1.Ft.nth g1 11 (f:=.fn "moved_home" Br1.iY) rfl) (Br1.Ft.nth g1 12 (f:=.fn "turned_line" Br1.jV) rfl) (Br1.Ft.nth g1 13 (f:=.fn "turned_lines" Br1.jX) rfl) (Br1.Ft.nth g1 14 (f:=.fn "turned" Br1.gC) rfl)
 case S=>
  intro K H xs a hO hwi hask hx
  cases hx with
  |cons h0 r0=>
   cases h0
   cases r0 with
   |cons hc rc=>
    cases rc with
    |cons hb rb=>
     cases rb
     cases hc with
     |lst hs1 ha1=>
      cases hb with
      |lst hs2 ha2=>
       have e1:=L2.Bm a.2.1 _ ha1
       subst e1
       have e2:=L2.Bm a.2.2.1 _ ha2
       subst e2
       have q:(Codec.inInt 0 1000000000000000000000000000000 a.1 && ((Codec.inLen 0 100000 a.2.1 && a.2.1.all (Codec.inInt 0 255)) && ((Codec.inLen 0 17000 a.2.2.1 && a.2.2.1.all (Codec.inInt 0 255)) && true)))=true:=hwi
       simp only [Bool.and_eq_true] at q
       have b0:=(Codec.inInt_iff.mp q.1).1
       have bc:=Br1.Qp q.2.1.2
       have bb:=Br1.Qp q.2.2.1.2
       refine ⟨a.1,_,_,a.2.1,a.2.2.1,rfl,b0,bc,bb,hs1,hs2,fun H' p hp=>?_⟩
       have m:=Br1.Bn b0 bc bb
       show L2.Dw K H' (.ref p) (.list ((PyWqasbx.turned a.1 a.2.1 a.2.2.1).map WData.int))
       rw [m]
       exact .lst (L2.cW.of hp) (L2.Jm _)
