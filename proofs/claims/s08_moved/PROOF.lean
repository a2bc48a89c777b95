import PyProof.Rows.All
import Wide.All
import OpenK.AllK
import Wide.FinOn
import PyProof.EqAt
import PyProof.EqKinds
import PyProof.TupleCall
import KE.BitLaws
import Open.SpecLaws
import KE.OsHead
import KE.OsGo
import KE.KDictList
import PyProof.FString
import Open.Line
import Open.Tree
import Open.Boot
import PySem.Challenge.RW_brickrooms_s08_moved
set_option Elab.async false
set_option linter.all false
set_option maxRecDepth 1000000
set_option maxHeartbeats 8000000
namespace L2
open PySem PySem.Spec PyProof.Rows
def eP (s:Stmt) (j:Nat):Stmt:=match s with
 |.ClassDef _ _ _ body _ _ _ _ _ _ _=>body.getD j (.Pass ⟨0,0,0,0⟩)
 |_=>.Pass ⟨0,0,0,0⟩
def eQ (s:Stmt):Arguments:=match s with
 |.FunctionDef _ a _ _ _ _ _ _ _ _=>a
 |_=>{posonlyargs:=[],args:=[],vararg:=none,kwonlyargs:=[],kw_defaults:=[],kwarg:=none,defaults:=[]}
def dR (s:Stmt):List Stmt:=match s with
 |.FunctionDef _ _ b _ _ _ _ _ _ _=>b
 |_=>[]
def aG (s:Stmt):Scope:=match s with
 |.FunctionDef _ _ _ _ _ _ sc _ _ _=>sc
 |_=>{kind:=.function,names:=[],isGenerator:=false,isCoroutine:=false}
abbrev Aj:List Value:=[.type "Exception",.type "BaseException",.type "object"]
end L2
namespace Br1
open PySem PySem.Spec PyProof.Rows L2
def gT (i:Nat):Stmt:=PySem.Challenge.pw_brickrooms_s08_moved.main.body.getD i (.Pass ⟨0,0,0,0⟩)
abbrev nU:Stmt:=gT 3
abbrev qE:Stmt:=gT 4
abbrev qN:Stmt:=eP (gT 2) 0
abbrev Td:Stmt:=eP (gT 6) 0
abbrev Ba:Stmt:=eP (gT 6) 1
abbrev Ij:Stmt:=eP (gT 6) 2
abbrev Jj:Stmt:=eP (gT 6) 3
abbrev Ae:Stmt:=eP (gT 6) 4
abbrev Ka:Stmt:=eP (gT 6) 5
abbrev Ht:Stmt:=eP (gT 6) 6
abbrev tS:Stmt:=eP (gT 6) 7
abbrev Ul:Stmt:=eP (gT 6) 8
abbrev Bj:Stmt:=eP (gT 19) 0
abbrev qP:Stmt:=gT 20
abbrev qB:Stmt:=gT 21
abbrev Ac:Stmt:=gT 22
abbrev Au:Stmt:=gT 23
abbrev pR:Stmt:=gT 24
abbrev oC:Stmt:=gT 25
abbrev kM:Stmt:=gT 26
def cK:List Int:=[46,35,115,116,98]
abbrev jR:Stmt:=gT 27
abbrev lL:Stmt:=gT 28
abbrev Bc:Stmt:=gT 29
abbrev Bf:Stmt:=gT 30
abbrev uG:Stmt:=gT 31
abbrev Ar:Stmt:=gT 32
abbrev Av:Stmt:=gT 33
abbrev Iv:Stmt:=gT 34
abbrev kO:Stmt:=gT 48
abbrev nG:Stmt:=gT 49
abbrev uA:Stmt:=gT 50
abbrev qO:Stmt:=gT 51
abbrev tP:Stmt:=eP (gT 46) 0
abbrev uB:Stmt:=eP (gT 64) 0
abbrev iQ:Stmt:=gT 65
abbrev mK:Stmt:=gT 66
abbrev Df:=Arguments×List Stmt×Scope
def Ur (st:Stmt):Df:=(eQ st,dR st,aG st)
def fnD (K:PySem.W.Frag) (f:Addr) (x qual:Str):Option Df:=match K.lookup f with
 |some ⟨_,_,.func ⟨nm,q,pa,.stmts b,sc,gl,[],.none,_,_,_,_,cd,_,bl⟩,_⟩=>if (nm==x && (q==qual && (gl==mainGlobals && (bl==builtinsNs && (PySem.W.codeIn K cd qual && PySem.W.keepIn K (.ref f))))))=true then some (pa,b,sc) else none
 |_=>none
def dN (K:PySem.W.Frag) (x:Str):Addr:=match PySem.W.nsIn K mainGlobals x with
 |some (some (.ref a))=>a
 |_=>0
inductive Ft
 |no (x:Str)
 |int (x:Str) (n:Int)
 |fn (x:Str) (st:Stmt)
 |cl (x:Str)
 |at (c f:Str)
 |mt (c m q:Str) (st:Stmt)
 |ints (x:Str) (l:List Int)
 |exc (x q:Str) (st:Stmt)
def Vv:Value->Option Int
 |.int n _=>some n
 |_=>none
def Xe (K:PySem.W.Frag) (C:Addr):Option Addr:=match K.lookup C with
 |some ⟨c,_,.cls ⟨_,_,mro,N,_,hd,_,_,_,_,hdel⟩,sl⟩=>(match sl.toList with
  |[_,_,_,_,some (.builtin b),_]=>if (c==.type "type" && (mro==.ref C::Aj && (hd && (!hdel && (b=="Exception.__new__" && (PySem.W.nsOkIn K N && (PySem.W.nsIn K N "fault"==some none && (PySem.W.nsIn K N "__setattr__"==some none && (PySem.W.nsIn K N "__getattribute__"==some none && (PySem.W.nsIn K N "__getattr__"==some none && PySem.W.keepIn K (.ref C)))))))))))=true then
    (match PySem.W.nsIn K N "__init__" with
    |some (some (.ref f))=>if PySem.W.isFn K (.ref f)=true then some f else none
    |_=>none) else none
  |_=>none)
 |_=>none
def Ft.D (K:PySem.W.Frag):Ft->Bool×Option Df
 |.no x=>(PySem.W.nsIn K mainGlobals x==some none,none)
 |.int x n=>(match PySem.W.nsIn K mainGlobals x with
  |some (some (.int m _))=>m==n
  |_=>false,none)
 |.fn x _=>match PySem.W.nsIn K mainGlobals x with
  |some (some (.ref f))=>(true,fnD K f x x)
  |_=>(false,none)
 |.cl x=>(PySem.W.nsIn K mainGlobals x==some (some (.ref (dN K x))) && (PySem.W.plainGet K (dN K x) Str.empty && (PySem.W.hasDictIn K (dN K x) && (PySem.W.plainOver K (dN K x) && (PySem.W.findIn K (.ref (dN K x)) "__setattr__"==some (some (.builtin "object.__setattr__")) &&
   (PySem.W.makesIn K (dN K x) && PySem.W.keepIn K (.ref (dN K x))))))),none)
 |.at c f=>(PySem.W.findIn K (.ref (dN K c)) f==some none,none)
 |.mt c m q _=>match PySem.W.findIn K (.ref (dN K c)) m with
  |some (some (.ref f))=>(PySem.W.isFn K (.ref f),fnD K f m q)
  |_=>(false,none)
 |.ints x l=>(match PySem.W.nsIn K mainGlobals x with
  |some (some (.ref a))=>(match K.lookup a with
   |some ⟨c,_,.seq its _,_⟩=>c==.type "tuple" && (its.toList.map Vv==l.map some && decide (l.length<=100))
   |_=>false)
  |_=>false,none)
 |.exc x q _=>match Xe K (dN K x) with
  |some f=>(PySem.W.nsIn K mainGlobals x==some (some (.ref (dN K x))),fnD K f "__init__" q)
  |none=>(false,none)
def Ft.X:Ft->Bool×Option Df
 |.fn _ st=>(true,some (Ur st))
 |.mt _ _ _ st=>(true,some (Ur st))
 |.exc _ _ st=>(true,some (Ur st))
 |_=>(true,none)
def frH (as:List Addr) (h:Heap):PySem.W.Frag:=as.filterMap fun a=>(h.get? a).map fun o=>(a,o)
def ftC:List Ft:=[.cl "Reader",.at "Reader" "text",.at "Reader" "position",.cl "Part",.at "Part" "name",.at "Part" "width",.at "Part" "depth",.at "Part" "height",.at "Part" "weight",.at "Part" "cells",.cl "Build",.at "Build" "name",.at "Build" "lines",.cl "Given",.at "Given" "refusal",.at "Given" "fault",.at "Given" "parts",.at "Given" "build",.at "Given" "room",.ints "SIGNS" cK,.exc "Stuck" "Stuck.__init__" qN,.fn "is_letter" nU,.no "ord",.fn "is_digit" qE,.mt "Reader" "__init__" "Reader.__init__" Td,.mt "Reader" "ended" "Reader.ended" Ba,.no "len",.int "NO_BYTE" 256,.mt "Reader" "here" "Reader.here" Ij,.mt "Reader" "take" "Reader.take" Jj,.mt "Reader" "read_one_of" "Reader.read_one_of" Ae,.mt "Reader" "read_word" "Reader.read_word" Ka,.mt "Reader" "read_name" "Reader.read_name" Ht,.no "tuple",.mt "Reader" "read_number" "Reader.read_number" tS,.mt "Reader" "read_end" "Reader.read_end" Ul,.mt "Part" "__init__" "Part.__init__" Bj,.mt "Build" "__init__" "Build.__init__" tP,.mt "Given" "__init__" "Given.__init__" uB,.fn "has_stud" qP,.int "STUD" 115,.int "BOTH" 98,.fn "has_tube" qB,.int "TUBE" 116,.fn "above" Ac,.fn "below" Au,.fn "read_cells" kM,.no "range",.int "NO_CELL" 46,.fn "read_part" oC,.int "LONGEST_PART_NAME" 8,.int "MOST_WIDTH" 16,.int "MOST_DEPTH" 16,.int "MOST_HEIGHT" 18,.int "MOST_WEIGHT" 9999,.fn "read_catalogue" pR,.int "MOST_PARTS" 64,.fn "studs_clear" Bc,.fn "tubes_clear" Bf,.fn "fills_its_box" uG,.no "enumerate",.fn "neighbours" Av,.fn "hangs_together" Ar,.no "list",.fn "names_grow" Iv,.fn "part_right" lL,.fn "catalogue_right" jR,.no "all",.fn "some_begins" qO,.no "any",.fn "read_part_number" uA,.fn "read_line" nG,.int "MOST_COLOUR" 255,.int "ROOM_WIDTH" 64,.int "ROOM_DEPTH" 64,.int "ROOM_HEIGHT" 96,.int "MOST_TURNS" 3,.fn "read_build" kO,.int "LONGEST_BUILD_NAME" 16,.int "MOST_LINES" 256,.fn "names_of" mK,.fn "read_given" iQ,.int "MOST_CATALOGUE_BYTES" 1048576,.int "MOST_BUILD_BYTES" 16384]
abbrev tV:Stmt:=gT 36
abbrev Kb:Stmt:=gT 37
abbrev tM:Stmt:=gT 35
abbrev uC:Stmt:=gT 56
abbrev tL:Stmt:=gT 55
abbrev Iw:Stmt:=gT 57
abbrev Bn:Stmt:=eP (gT 47) 0
abbrev qL:Stmt:=gT 58
abbrev qI:Stmt:=gT 54
abbrev Iz:Stmt:=gT 53
abbrev kR:Stmt:=gT 67
def ftR:List Ft:=[.cl "Room",.at "Room" "signs",.at "Room" "owners",.at "Room" "wrong",.mt "Room" "__init__" "Room.__init__" Bn,.fn "turned_once" Kb,.fn "turned_part" tV,.no "range",.fn "turned_sizes" tM,.fn "beyond_room" uC,.int "ROOM_WIDTH" 64,.int "ROOM_DEPTH" 64,.int "ROOM_HEIGHT" 96,.fn "leaves_room" tL,.fn "cells_in_room" Iw,.fn "blocked_lines" qL,.fn "wrong_with" qI,.no "len",.no "min",.fn "fill_room" Iz,.no "enumerate",.fn "read_right" kR]
abbrev jN:Stmt:=gT 5
abbrev iR:Stmt:=gT 52
abbrev iJ:Stmt:=gT 68
abbrev nX:Stmt:=gT 60
abbrev gJ:Stmt:=gT 69
end Br1
namespace Br1
open PySem PySem.W
def tQ (tb:String->Option Builtin) (p:Program) (w:World) (n₀:Nat) (ann:Option Value):Nat->SharedT->Thread->Option SharedT
 |0,_,_=>none
 |n+1,s,t=>match through t with
  |true=>some s
  |false=>match stepOk n₀ ann t with
   |false=>none
   |true=>match stepT (denote tb) p w s t with
    |some (s',t')=>tQ tb p w n₀ ann n s' t'
    |none=>none
theorem sP {tb:String->Option Builtin} {p:Program} {w:World} {n₀:Nat} {ann:Option Value}:∀ {n:Nat} {s s':SharedT} {t:Thread},tQ tb p w n₀ ann n s t=some s'->topRun tb p w n₀ ann n s.abs t=some s'.abs
 |0,_,_,_,h=>by cases h
 |n+1,s,s',t,h=>by
  unfold tQ at h
  unfold topRun
  cases he:through t with
  |true=>
   rw [he] at h
   cases h
   rfl
  |false=>
   rw [he] at h
   cases hk:stepOk n₀ ann t with
   |false=>
    rw [hk] at h
    cases h
   |true=>
    rw [hk] at h
    cases hs:stepT (denote tb) p w s t with
    |none=>
     rw [hs] at h
     cases h
    |some r=>
     obtain ⟨s₂,t₂⟩:=r
     rw [hs] at h
     dsimp only
     rw [stepT_spec hs]
     exact sP h
def Ej:Nat->List Obj->BT->BT
 |_,[],t=>t
 |n,o::r,t=>Ej (n+1) r (t.ins n o)
noncomputable def aAt (P:Params):BT:=Ej 0 (boot_heap P).objs.toList .nil
noncomputable def Vo (P:Params) (os:OsState):SharedT:=⟨aAt P,11,(boot_heap P).life,Array.mk [],boot_drawn,boot_toks,os⟩
theorem Pk (P:Params) (os:OsState):(Vo P os).abs=⟨boot_heap P,Array.mk [],boot_drawn,boot_toks,os⟩:=by kernel_rfl
theorem Mf {p q:Program} {loose:List Str} {Xt:Shared->Bool} {α:Type} {Yf:Shared->α} {Ya:World->α} {N:Nat} {g0:Bool} (e:opening p=plainProg p.main.scope.names) (hN:Nat.ble 600 N=true) (f:∀ s,fenceModules? p s=some s)
  (h1:∀ w:World,((boot_heap w.params).isNs mainGlobals && (Array.mk ([]:List GenState)).size==0)=true)
  (h:∀ (w:World) (os:OsState),(tQ treeTable p w (boot_heap w.params).objs.size ((boot_heap w.params).nsMap mainGlobals "__annotations__") N (Vo w.params os) (topStub p)).map (fun s=>
   (staticsOk (importedModules p.main.body) (boot_heap w.params) s.abs.heap && namesBound p s.abs.heap && gensDone s.abs && laidKept (boot_heap w.params) s.abs.heap,openSeen q loose (importedModules p.main.body) Xt g0 s.abs,Yf s.abs))=some (true,openGood q loose,Ya w)):LeftO p q loose Xt Yf Ya N g0:=fun w=>by
 obtain ⟨⟨h0,gs,d,k,os⟩,e0,e'⟩:=Option.map_eq_some_iff.mp (boot_open e hN f w)
 obtain ⟨rfl,rfl,rfl,rfl⟩:h0=boot_heap w.params/\gs=Array.mk []/\d=boot_drawn/\k=boot_toks:=by simpa using e'
 obtain ⟨s',e1,e2⟩:=Option.map_eq_some_iff.mp (h w os)
 have e3:=sP e1
 rw [Pk] at e3
 obtain ⟨a1,a2⟩:=Prod.mk.inj e2
 unfold openEnds
 rw [e0]
 show (topFrom treeTable p w N _).map _=_
 have e4:topFrom treeTable p w N ⟨boot_heap w.params,Array.mk [],boot_drawn,boot_toks,os⟩=some s'.abs:=by
  unfold topFrom
  rw [show ((⟨boot_heap w.params,Array.mk [],boot_drawn,boot_toks,os⟩:Shared).heap.isNs mainGlobals && (⟨boot_heap w.params,Array.mk [],boot_drawn,boot_toks,os⟩:Shared).gens.size==0)=true from h1 w]
  dsimp only
  rw [e3]
  dsimp only [Option.bind]
  rw [a1]
 rw [e4]
 exact congrArg some a2
end Br1
namespace Br1
open PySem PySem.Spec PyProof.Rows L2
def ftZ:List Ft:=ftC++(ftR++([.no "len",.no "any",.no "list",.no "ord",.fn "spelled" jN,.fn "build_text" iR,.fn "with_lines" iJ,.fn "moved_lines" nX,.fn "moved" gJ]))
def asC:List Addr:=[3,31,30,28,27,41,40,48,47,53,52,126,125,67,66,74,73,81,80,88,87,95,94,102,101,109,108,116,115,123,122,131,148,147,145,144,159,158,166,165,173,172,180,179,187,186,194,193,201,200,206,205,213,212,220,219,227,226,232,231,239,238,246,245,253,252,260,259,267,266,274,273,291,290,288,287,312,311,309,308,323,322,330,329,337,336,342,341,349,348,356,355,361,360,368,367,375,374,382,381,389,388,394,393,411,410,408,407,422,421,427,426,434,433,441,440,446,445]
def Qw:List Str:=[.ofString "NO_BYTE",.ofString "Stuck",.ofString "is_letter",.ofString "is_digit",.ofString "spelled",.ofString "Reader",.ofString "MOST_PARTS",.ofString "LONGEST_PART_NAME",.ofString "MOST_WIDTH",.ofString "MOST_DEPTH",.ofString "MOST_HEIGHT",.ofString "MOST_WEIGHT",.ofString "NO_CELL",.ofString "STUD",.ofString "TUBE",.ofString "BOTH",.ofString "SIGNS",.ofString "Part",.ofString "has_stud",.ofString "has_tube",.ofString "above",.ofString "below",.ofString "read_catalogue",.ofString "read_part",.ofString "read_cells",.ofString "catalogue_right",.ofString "part_right",.ofString "studs_clear",.ofString "tubes_clear",.ofString "fills_its_box",.ofString "hangs_together",.ofString "neighbours",.ofString "names_grow",.ofString "turned_sizes",.ofString "turned_part",.ofString "turned_once",.ofString "ROOM_WIDTH",.ofString "ROOM_DEPTH",.ofString "ROOM_HEIGHT",.ofString "LONGEST_BUILD_NAME",.ofString "MOST_LINES",.ofString "MOST_COLOUR",.ofString "MOST_TURNS",.ofString "Build",.ofString "Room",.ofString "read_build",.ofString "read_line",.ofString "read_part_number",.ofString "some_begins",.ofString "build_text",.ofString "fill_room",.ofString "wrong_with",.ofString "leaves_room",.ofString "beyond_room",.ofString "cells_in_room",.ofString "blocked_lines",.ofString "moved_lines",.ofString "MOST_CATALOGUE_BYTES",.ofString "MOST_BUILD_BYTES",.ofString "Given",.ofString "read_given",.ofString "names_of",.ofString "read_right",.ofString "with_lines"]
def vwC:Program:=PySem.W.view PySem.Challenge.pw_brickrooms_s08_moved [69]
theorem aAb:PySem.W.LeftO PySem.Challenge.pw_brickrooms_s08_moved vwC Qw (fun _=>true) (fun s=>ftZ.map (Ft.D (frH asC s.heap))) (fun _=>ftZ.map Ft.X) 6146:=by
 refine Mf ?a ?b ?c ?d ?e
 case a=>kernel_rfl
 case b=>decide
 case c=>intro s;kernel_rfl
 case d=>intro w;kernel_rfl
 case e=>intro w os;kernel_rfl
end Br1
namespace L2
open PySem PySem.Spec PyProof.Rows
abbrev eD:=Sum Int Str
def sT:eD->Value->Bool
 |.inl k,v=>Value.isInt k v
 |.inr x,v=>Value.isStrOf x v
def aB4 (w:World):eD->Int
 |.inl k=>hashInt k
 |.inr x=>hashStr w x
theorem dH:∀ {k:eD} {v:Value},sT k v=true->(∃ i t,k=Sum.inl i/\v=Value.int i t)\/(∃ x t,k=Sum.inr x/\v=Value.str x t)
 |.inl i,v,h=>by
  obtain ⟨t,e⟩:=Value.isInt_shape (k:=i) (v:=v) h
  exact .inl ⟨i,t,rfl,e⟩
 |.inr x,v,h=>by
  obtain ⟨t,e⟩:=Value.isStrOf_shape (x:=x) (v:=v) h
  exact .inr ⟨x,t,rfl,e⟩
theorem Li (i:Int) (t:Tok):sT (.inl i) (.int i t)=true:=by simp [sT,Value.isInt]
theorem Lo (x:Str) (t:Tok):sT (.inr x) (.str x t)=true:=by simp [sT,Value.isStrOf]
theorem Ys (a b:Int):decide ((Sum.inl a:eD)=Sum.inl b)=(a==b):=by
 by_cases e:a=b
 ·subst e;simp
 ·have h:¬(Sum.inl a:eD)=Sum.inl b:=fun q=>e (Sum.inl.inj q)
  rw [decide_eq_false h]
  exact (beq_eq_false_iff_ne.mpr e).symm
theorem Xa (a b:Str):decide ((Sum.inr a:eD)=Sum.inr b)=decide (a=b):=by
 by_cases e:a=b
 ·subst e;simp
 ·have h:¬(Sum.inr a:eD)=Sum.inr b:=fun q=>e (Sum.inr.inj q)
  rw [decide_eq_false h,decide_eq_false e]
theorem Xs (a:Int) (b:Str):decide ((Sum.inl a:eD)=Sum.inr b)=false:=decide_eq_false (fun q=>nomatch q)
theorem Yh (a:Str) (b:Int):decide ((Sum.inr a:eD)=Sum.inl b)=false:=decide_eq_false (fun q=>nomatch q)
def eO (prog:Program) (w:World):PySem.KeyKind prog w eD where
 is:=sT
 hash:=aB4 w
 inj:=fun v a b ha hb=>by
  rcases dH ha with ⟨i,t,rfl,rfl⟩|⟨x,t,rfl,rfl⟩
  ·rcases dH hb with ⟨j,u,rfl,e⟩|⟨y,u,rfl,e⟩
   ·injection e with e1 _;rw [e1]
   ·exact nomatch e
  ·rcases dH hb with ⟨j,u,rfl,e⟩|⟨y,u,rfl,e⟩
   ·exact nomatch e
   ·injection e with e1 _;rw [e1]
 byValue:=fun k v h=>by
  rcases dH h with ⟨i,t,rfl,rfl⟩|⟨x,t,rfl,rfl⟩<;>rfl
 pyHash:=fun hv h=>by
  rcases dH hv with ⟨i,t,rfl,rfl⟩|⟨x,t,rfl,rfl⟩
  ·exact wpAny_pyHash_int h
  ·exact wpAny_pyHash_str h
 eqBool:=fun hu hv h=>by
  rcases dH hu with ⟨i,t,rfl,rfl⟩|⟨x,t,rfl,rfl⟩
  ·rcases dH hv with ⟨j,u,rfl,rfl⟩|⟨y,u,rfl,rfl⟩
   ·rw [Ys] at h;exact wpAny_eqBool_int h
   ·rw [Xs] at h;exact SeqAt.EqAt.int_str i t y u _ _ _ _ h
  ·rcases dH hv with ⟨j,u,rfl,rfl⟩|⟨y,u,rfl,rfl⟩
   ·rw [Yh] at h;exact SeqAt.EqAt.str_int x t j u _ _ _ _ h
   ·rw [Xa] at h;exact wpAny_eqBool_str h
 «strs»:=fun k x t v h=>by
  rcases dH h with ⟨i,u,rfl,e⟩|⟨y,u,rfl,e⟩
  ·exact nomatch e
  ·injection e with e1 _
   subst e1
   cases v<;>rfl
theorem Do (prog:Program) (w:World) (i:Int) (t:Tok):(eO prog w).is (.inl i) (.int i t)=true:=Li i t
theorem Cg (prog:Program) (w:World) (x:Str) (t:Tok):(eO prog w).is (.inr x) (.str x t)=true:=Lo x t
inductive V where
 |non|bl (b:Bool)|int (i:Int)|str (x:Str)|byt (b:Array UInt8)|flt (b:UInt64)|ref (a:Addr)|ty (n:String)
 deriving DecidableEq
def cA:V->Value->Prop
 |.non,u=>u=Value.none
 |.bl b,u=>u=Value.bool b
 |.int i,u=>∃ t,u=Value.int i t
 |.str x,u=>∃ t,u=Value.str x t
 |.byt b,u=>∃ t,u=Value.bytes b t
 |.flt b,u=>∃ t,u=Value.float b t
 |.ref a,u=>u=Value.ref a
 |.ty n,u=>u=Value.type n
abbrev bN:List V->List Value->Prop:=Paired cA
theorem bN.length {xs:List V} {us:List Value} (r:bN xs us):xs.length=us.length:=Paired.length r
theorem bN.get:∀ {xs:List V} {us:List Value} {i:Nat} {x:V},bN xs us->xs[i]?=some x->∃ u,us[i]?=some u/\cA x u
 |_,_,_,_,.nil,e=>by simp at e
 |_,_,0,_,.cons r _,e=>by simp at e;subst e;exact ⟨_,rfl,r⟩
 |_,_,i+1,x,.cons _ t,e=>by
  obtain ⟨u,h1,h2⟩:=bN.get (i:=i) (x:=x) t (by simpa using e)
  exact ⟨u,by simpa using h1,h2⟩
theorem bN.append:∀ {xs ys:List V} {us ws:List Value},bN xs us->bN ys ws->bN (xs++ys) (us++ws)
 |_,_,_,_,.nil,s=>s
 |_,_,_,_,.cons r t,s=>.cons r (bN.append t s)
theorem bN.take:∀ {xs:List V} {us:List Value} (n:Nat),bN xs us->bN (xs.take n) (us.take n)
 |_,_,0,_=>.nil
 |_,_,_+1,.nil=>.nil
 |_,_,n+1,.cons r t=>.cons r (bN.take n t)
theorem bN.drop:∀ {xs:List V} {us:List Value} (n:Nat),bN xs us->bN (xs.drop n) (us.drop n)
 |_,_,0,r=>r
 |_,_,_+1,.nil=>.nil
 |_,_,n+1,.cons _ t=>bN.drop n t
def lH:Option V->Option Value->Prop
 |some v,some u=>cA v u
 |none,none=>True
 |_,_=>False
def KV {κ:Type}:List (κ×V)->List (κ×Value)->Prop:=Paired fun (p:κ×V) (q:κ×Value)=>p.1=q.1/\cA p.2 q.2
def kV:eD->V
 |.inl i=>.int i
 |.inr x=>.str x
inductive HO where
  |lst (xs:List V)
  |tup (xs:List V)
  |dK (aI:List (eD×V))|dT (aI:List (List eD×V))
  |set (S:Int->Bool) (n:Nat)
  |ins (C dx:Addr) (fs:List (Str×V))
  |own (x:Addr)
  |xd (fs:List (Str×V))
  |met (f x:Addr)
  |rng (lo hi:Int)
  |frz (o:Obj) (u:HO)
  |tbl (ps:Array Value)
  |ext (φ:Heap->Prop)
abbrev Hp:=Addr->Option HO
def upd (H:Hp) (a:Addr) (o:HO):Hp:=fun b=>if b=a then some o else H b
theorem aB {H:Hp} {a:Addr} {o:HO}:upd H a o a=some o:=by unfold upd;rw [if_pos rfl]
theorem aC {H:Hp} {a b:Addr} {o:HO} (h:b≠a):upd H a o b=H b:=by unfold upd;rw [if_neg h]
theorem Vt {H:Hp} {a b:Addr} {o u:HO} (h:H a=some o) (h':H b=some u) (d:o≠u):a≠b:=by
 intro e;subst e;rw [h] at h';exact d (Option.some.inj h')
theorem aD {H:Hp} {a b:Addr} {o:HO} (h:H a=some o) (h':H b=none):a≠b:=by
 intro e;subst e;rw [h] at h';cases h'
section
variable (P:Program) (w:World)
def cJ (H:Hp) (h:Heap) (a:Addr):HO->Prop
 |.lst xs=>xs.length<=sizeLine/\∃ (its:List Value) (n:Nat),bN xs its/\h.get? a=some {cls:=.type "list",data:=.seq its.toArray n}
 |.tup xs=>xs.length<=sizeLine/\∃ its:List Value,bN xs its/\IsTup h a its.toArray
 |.dK aI=>aI.length<=sizeLine/\(a==sysModules)=false/\∃ vs,KV aI vs/\h.DictOf (eO P w) a vs
 |.dT aI=>aI.length<=sizeLine/\(a==sysModules)=false/\∃ xs:List (List eD×Addr×Value),
   Paired (fun (p:List eD×V) (q:List eD×Addr×Value)=>p.1=q.1/\H q.2.1=some (.tup (p.1.map kV))/\cA p.2 q.2.2) aI xs/\
   ∃ o es ep,h.get? a=some o/\o.ExactDict/\o.data=.dict es ep/\es.toList=xs.map (entryOfKey (tupleKind (eO P w)))/\(xs.map (·.1)).Nodup
 |.set S n=>h.SetOf (intKind P w) a S n
 |.ins C dx fs=>H dx=some (.own a)/\fs.length<=1000/\dx≠a/\h.get? a=some (PySem.W.instObj C dx)/\
   ∃ mA,h.Ns1 dx mA/\(∀ f,lH (fs.lookup f) (mA f))/\PySem.Within mA (fs.map (·.1))
 |.own _=>∃ o,h.get? a=some o
 |.xd fs=>∃ mA,h.Ns1 a mA/\∀ f,lH (fs.lookup f) (mA f)
 |.rng lo hi=>∃ t u v,h.get? a=some {cls:=.type "range",data:=.fields #[.int lo t,.int hi u,.int 1 v]}
 |.frz o u=>h.get? a=some o/\cJ H h a u
 |.tbl ps=>h.get? a=some {cls:=.none,data:=.fields ps}
 |.met f x=>h.get? a=some (PySem.W.methodObj (.ref f) (.ref x))
 |.ext φ=>φ h/\(∃ o,h.get? a=some o)/\∀ h1 h2:Heap,φ h1->(∀ o,h1.get? a=some o->h2.get? a=some o)->φ h2
def kG (H:Hp) (h:Heap):Prop:=∀ a o,H a=some o->cJ P w H h a o
end
section
variable {P:Program} {w:World} {H H':Hp} {h h':Heap} {a:Addr} {o:HO}
theorem cJ.lt (x:cJ P w H h a o):a<h.objs.size:=by
 cases o with
 |lst xs=>obtain ⟨_,_,_,_,e⟩:=x;exact Heap.lt_size e
 |tup xs=>obtain ⟨_,_,_,p⟩:=x;exact p.lt
 |dK aI=>obtain ⟨_,_,_,_,o,_,_,e,_⟩:=x;exact Heap.lt_size e
 |dT aI=>obtain ⟨_,_,_,_,o,_,_,e,_⟩:=x;exact Heap.lt_size e
 |set S n=>obtain ⟨o,_,_,_,e,_⟩:=x;exact Heap.lt_size e
 |ins C dx fs=>obtain ⟨_,_,_,e,_⟩:=x;exact Heap.lt_size e
 |own y=>obtain ⟨_,e⟩:=x;exact Heap.lt_size e
 |xd fs=>obtain ⟨_,⟨_,_,_,e,_⟩,_⟩:=x;exact Heap.lt_size e
 |rng lo hi=>obtain ⟨_,_,_,e⟩:=x;exact Heap.lt_size e
 |frz ob u=>obtain ⟨e,_⟩:=x;exact Heap.lt_size e
 |tbl ps=>exact Heap.lt_size (show h.get? a=some _ from x)
 |met f y=>exact Heap.lt_size (show h.get? a=some _ from x)
 |ext φ=>obtain ⟨_,⟨_,e⟩,_⟩:=x;exact Heap.lt_size e
theorem Paired.mapP {α β:Type} {F G:α->β->Prop}:∀ {l₁:List α} {l₂:List β},Paired F l₁ l₂->(∀ a b,F a b->G a b)->Paired G l₁ l₂
 |_,_,.nil,_=>.nil
 |_,_,.cons r t,f=>.cons (f _ _ r) (Paired.mapP t f)
theorem cJ.stay (x:cJ P w H h a o) (k:∀ b u,(b=a\/H b=some (.own a))->h.get? b=some u->h'.get? b=some u)
  (ho:∀ b,H b=some (.own a)->H' b=some (.own a)) (ht:∀ b xs,H b=some (.tup xs)->H' b=some (.tup xs)):cJ P w H' h' a o:=by
 induction o with
 |lst xs=>obtain ⟨z,its,n,r,e⟩:=x;exact ⟨z,its,n,r,k _ _ (.inl rfl) e⟩
 |tup xs=>obtain ⟨z,its,r,ob,e,c⟩:=x;exact ⟨z,its,r,ob,k _ _ (.inl rfl) e,c⟩
 |dK aI=>obtain ⟨z,y,vs,r,ob,es,ep,e,c⟩:=x;exact ⟨z,y,vs,r,ob,es,ep,k _ _ (.inl rfl) e,c⟩
 |dT aI=>
  obtain ⟨z,y,xs,r,ob,es,ep,e,c⟩:=x
  exact ⟨z,y,xs,Paired.mapP r fun p q z=>⟨z.1,ht _ _ z.2.1,z.2.2⟩,ob,es,ep,k _ _ (.inl rfl) e,c⟩
 |set S n=>obtain ⟨ob,es,ep,t,e,c⟩:=x;exact ⟨ob,es,ep,t,k _ _ (.inl rfl) e,c⟩
 |ins C dx fs=>
  obtain ⟨d,z,ne,e,mA,⟨od,es,ep,e2,c⟩,r⟩:=x
  exact ⟨ho _ d,z,ne,k _ _ (.inl rfl) e,mA,⟨od,es,ep,k _ _ (.inr d) e2,c⟩,r⟩
 |own y=>obtain ⟨ob,e⟩:=x;exact ⟨ob,k _ _ (.inl rfl) e⟩
 |xd fs=>obtain ⟨mA,⟨od,es,ep,e,c⟩,r⟩:=x;exact ⟨mA,⟨od,es,ep,k _ _ (.inl rfl) e,c⟩,r⟩
 |rng lo hi=>obtain ⟨t,u,v,e⟩:=x;exact ⟨t,u,v,k _ _ (.inl rfl) e⟩
 |frz ob u ih=>obtain ⟨e,q⟩:=x;exact ⟨k _ _ (.inl rfl) e,ih q⟩
 |tbl ps=>
  have e:h.get? a=some {cls:=.none,data:=.fields ps}:=x
  show h'.get? a=some {cls:=.none,data:=.fields ps}
  exact k a _ (.inl rfl) e
 |met f y=>
  have e:h.get? a=some (PySem.W.methodObj (.ref f) (.ref y)):=x
  show h'.get? a=some (PySem.W.methodObj (.ref f) (.ref y))
  exact k a _ (.inl rfl) e
 |ext φ=>obtain ⟨p,⟨o,e⟩,st⟩:=x;exact ⟨st _ _ p fun o q=>k _ _ (.inl rfl) q,⟨o,k _ _ (.inl rfl) e⟩,st⟩
theorem kG.lt (x:kG P w H h) (e:H a=some o):a<h.objs.size:=(x a o e).lt
theorem kG.fresh (x:kG P w H h) (e:h.objs.size<=a):H a=none:=by
 cases q:H a with
 |none=>rfl
 |some u=>exact absurd (Nat.lt_of_lt_of_le (x.lt q) e) (Nat.lt_irrefl _)
theorem kG.kept (x:kG P w H h) (k:∀ b u,h.get? b=some u->h'.get? b=some u):kG P w H h':=fun a o e=>
 (x a o e).stay (fun b u _ q=>k b u q) (fun _ q=>q) fun _ _ q=>q
theorem kG.laid (x:kG P w H h) (k:∀ b u,h.get? b=some u->h'.get? b=some u) (hp:h.objs.size<=a) (new:cJ P w (upd H a o) h' a o):kG P w (upd H a o) h':=fun b u e=>by
 have hn:=x.fresh hp
 by_cases hb:b=a
 ·subst hb;rw [aB] at e;cases e;exact new
 ·rw [aC hb] at e
  exact (x b u e).stay (fun c v _ q=>k c v q) (fun c q=>by rw [aC (aD q hn)];exact q) fun c xs q=>by rw [aC (aD q hn)];exact q
end
def Rd (H:Hp) (a:Addr) (u:HO):Prop:=H a=some u\/∃ o,H a=some (.frz o u)
theorem Rd.ok {P:Program} {w:World} {H:Hp} {h:Heap} {a:Addr} {u:HO} (r:Rd H a u) (x:kG P w H h):cJ P w H h a u:=by
 rcases r with r|⟨o,r⟩
 ·exact x a u r
 ·obtain ⟨_,q⟩:=x a _ r
  exact q
def Wb:Option HO->Prop
 |some (.lst _)=>True
 |some (.dK _)=>True
 |some (.dT _)=>True
 |some (.set _ _)=>True
 |some (.ins _ _ _)=>True
 |some (.ext _)=>True
 |_=>False
section
variable {P:Program} {w:World} {H:Hp} {h h':Heap} {x e:Addr} {o':HO}
theorem kG.write (ok:kG P w H h) (mu:Wb (H x)) (he:e=x\/H e=some (.own x)) (k:∀ b u,b≠e->h.get? b=some u->h'.get? b=some u) (heo:∃ u,h'.get? e=some u)
  (new:cJ P w (upd H x o') h' x o'):kG P w (upd H x o') h':=fun b u q=>by
 have nown:∀ c y,H c=some (.own y)->c≠x:=fun c y r z=>by subst z;rw [r] at mu;exact mu
 have ntup:∀ c xs,H c=some (.tup xs)->c≠x:=fun c xs r z=>by subst z;rw [r] at mu;exact mu
 by_cases hb:b=x
 ·subst hb;rw [aB] at q;cases q;exact new
 ·rw [aC hb] at q
  by_cases hbe:b=e
  ·have q':H b=some (.own x):=by
    rcases he with z|z
    ·exact absurd (hbe.trans z) hb
    ·rw [hbe];exact z
   rw [q] at q';cases q'
   obtain ⟨v,hv⟩:=heo
   exact ⟨v,by rw [hbe];exact hv⟩
  ·refine (ok b u q).stay (fun c v hc r=>k c v ?_ r) (fun c r=>by rw [aC (nown c b r)];exact r) fun c xs r=>by rw [aC (ntup c xs r)];exact r
   rcases hc with rfl|hc
   ·exact hbe
   ·rintro rfl
    rcases he with z|z
    ·exact nown c b hc z
    ·rw [hc] at z;cases z;exact hb rfl
end
structure Un (fs ex:List Addr) (H H':Hp) (h h':Heap):Prop where
 keep:∀ b o,h.get? b=some o->H b=none->b∉fs->b∉ex->h'.get? b=some o
 slot:∀ b o,h.get? b=some o->H b=none->b∈fs->b∉ex->∃ sl,h'.get? b=some {o with slots:=sl}
 free:∀ b o,h.get? b=some o->H b=none->b∉ex->H' b=none
 there:∀ b o,h.get? b=some o->b∉ex->∃ o',h'.get? b=some o'
 tups:∀ b xs,H b=some (.tup xs)->H' b=some (.tup xs)
 frzs:∀ b o u,H b=some (.frz o u)->H' b=some (.frz o u)
 tbls:∀ b ps,H b=some (.tbl ps)->∃ more,H' b=some (.tbl (ps++more))
section
variable {fs fs' ex ex':List Addr} {H H1 H2:Hp} {h h1 h2 h':Heap} {a x e:Addr} {o:HO}
theorem Un.any (u:Un fs ex H H1 h h1) {b:Addr} {ob:Obj} (q:h.get? b=some ob) (n:H b=none) (hx:b∉ex):∃ sl,h1.get? b=some {ob with slots:=sl}:=by
 by_cases hb:b∈fs
 ·exact u.slot b ob q n hb hx
 ·exact ⟨ob.slots,u.keep b ob q n hb hx⟩
theorem Un.kept (k:∀ b u,h.get? b=some u->h'.get? b=some u):Un fs ex H H h h':=
 ⟨fun b ob q _ _ _=>k b ob q,fun b ob q _ _ _=>⟨ob.slots,k b ob q⟩,fun _ _ _ n _=>n,fun b ob q _=>⟨ob,k b ob q⟩,fun _ _ q=>q,fun _ _ _ q=>q,fun _ ps q=>⟨#[],by rw [q];simp⟩⟩
theorem Un.refl:Un fs ex H H h h:=Un.kept fun _ _ q=>q
theorem Un.laid (k:∀ b u,h.get? b=some u->h'.get? b=some u) (hp:h.objs.size<=a) (hn:H a=none):Un fs ex H (upd H a o) h h' where
 keep:=fun b u q _ _ _=>k b u q
 slot:=fun b u q _ _ _=>⟨u.slots,k b u q⟩
 free:=fun b u q n _=>by rw [aC (Nat.ne_of_lt (Nat.lt_of_lt_of_le (Heap.lt_size q) hp))];exact n
 there:=fun b u q _=>⟨u,k b u q⟩
 tups:=fun b xs q=>by rw [aC (aD q hn)];exact q
 frzs:=fun b u xs q=>by rw [aC (aD q hn)];exact q
 tbls:=fun b ps q=>⟨#[],by rw [aC (aD q hn),q];simp⟩
theorem Un.write (mu:Wb (H x)) (he:e=x\/H e=some (.own x)) (k:∀ b u,b≠e->h.get? b=some u->h'.get? b=some u) (heo:∃ u,h'.get? e=some u):Un fs ex H (upd H x o) h h':=by
 have hx:∀ b,H b=none->b≠x:=fun b n z=>by subst z;rw [n] at mu;exact mu
 have hb:∀ b,H b=none->b≠e:=fun b n z=>by
  subst z
  rcases he with r|r
  ·exact hx b n r
  ·rw [n] at r;cases r
 have hm:∀ b u,H b=some u->¬Wb (some u)->b≠x:=fun b u q nm z=>by subst z;rw [q] at mu;exact nm mu
 refine ⟨fun b u q n _ _=>k b u (hb b n) q,fun b u q n _ _=>⟨u.slots,k b u (hb b n) q⟩,fun b u q n _=>by rw [aC (hx b n)];exact n,fun b u q _=>?_,
  fun b xs q=>by rw [aC (hm b _ q fun z=>z)];exact q,fun b u xs q=>by rw [aC (hm b _ q fun z=>z)];exact q,fun b ps q=>⟨#[],by rw [aC (hm b _ q fun z=>z),q];simp⟩⟩
 by_cases hbe:b=e
 ·subst hbe;exact heo
 ·exact ⟨u,k b u hbe q⟩
end
def trk (h:Heap) (H:Hp):List Addr:=(List.range h.objs.size).filter fun a=>(H a).isSome
def Bo (h:Heap) (H:Hp):Heap:=PySem.W.hideAll h (trk h H)
theorem Ln (h:Heap) (H:Hp):(Bo h H).objs.size=h.objs.size:=PySem.W.hideAll_size _ _
theorem Ng {h:Heap} {H:Hp} {b:Addr} {o:Obj} (e:h.get? b=some o) (n:H b=none):(Bo h H).get? b=some o:=
 PySem.W.hideAll_get _ e fun hm=>by
  have q:(H b).isSome=true:=(List.mem_filter.mp hm).2
  rw [n] at q;simp at q
theorem Vi {h:Heap} {H:Hp} {b:Addr} {o:Obj} (e:(Bo h H).get? b=some o):h.get? b=some o/\H b=none:=by
 have e':h.get? b=some o:=PySem.W.of_hideAll (trk h H) e
 refine ⟨e',?_⟩
 cases q:H b with
 |none=>rfl
 |some x=>
  have hm:b∈trk h H:=List.mem_filter.mpr ⟨List.mem_range.mpr (Heap.lt_size e'),by simp [q]⟩
  have z:(Bo h H).get? b=none:=PySem.W.hideAll_none (trk h H) hm
  rw [z] at e;cases e
structure Mod (K:PySem.W.Frag) (mg:Str->Option Value) (base:Heap):Prop where
 kin:K.In base
 glob:base.Ns mainGlobals mg
 blt:∃ mb,base.Ns builtinsNs mb/\∀ x:Str,x≠"__name__"->mb x=bootBuiltins x
 nolimit:base.NoLimit
structure Cx where
 prog:Program
 w:World
 K:PySem.W.Frag
 mg:Str->Option Value
 base:Heap
 A:Around
 N:List Str
 s_0:Shared
 H_0:Hp
 env:Env
 outer:List Env
 stack:List Env
 ex:List Addr
 fn:Str->Bool
 calm:Bool
 pn:List (Addr×Obj)
 xe:Value->Shared->Prop
def yL (l:List Env):List Addr:=l.filterMap (·.frame)
abbrev Cx.fs (X:Cx):List Addr:=yL X.outer
def Vis (sc:Scope) (x:Str):Prop:=sc.names.lookup x=some .local\/sc.names.lookup x=some .cell\/sc.names.lookup x=some .free
def Loc (sc:Scope) (x:Str):Prop:=sc.names.lookup x=some .local\/sc.names.lookup x=some .cell
def aB8 (env:Env) (h:Heap) (m:Str->Option Value) (x:Str) (u:Value):Prop:=
 (env.kindOf x=some .local/\m x=some u)\/((env.kindOf x=some .cell\/env.kindOf x=some .free)/\∃ c,env.cells.lookup x=some c/\h.IsCell c (some u))
structure Cx.Ok (X:Cx):Prop where
 mod:Mod X.K X.mg X.base
 kind:X.env.scope.kind=.function
 glob:X.env.globals=mainGlobals
 blt:X.env.builtins=builtinsNs
 above:X.s_0.heap.objs.size<=X.env.locals
 inj:∀ x y c,X.env.cells.lookup x=some c->X.env.cells.lookup y=some c->x=y
 has:∀ x,(X.env.kindOf x=some .cell\/X.env.kindOf x=some .free)->∃ c,X.env.cells.lookup x=some c
 cab:∀ x c,X.fn x=true->X.env.cells.lookup x=some c->X.s_0.heap.objs.size<=c
 hd:X.calm=true->X.A.handled=none
 frames:X.A.frames=some X.stack
 stk:X.stack=X.outer\/(X.stack=X.env::X.outer/\X.env.frame=some X.env.locals)
 exf:∀ b∈X.ex,b≠X.env.locals/\∀ x c,X.env.cells.lookup x=some c->c≠b
 bs:∀ b o,X.base.get? b=some o->X.s_0.heap.get? b=some o/\X.H_0 b=none
 bsz:X.base.objs.size<=X.s_0.heap.objs.size
 noex:∀ b o,X.base.get? b=some o->b∉X.ex
 exfs:∀ b∈X.ex,b∉X.fs
 funs:X.s_0.heap.FunFrames X.base X.outer
 frf:∀ b∈X.fs,X.H_0 b=none
structure aP (X:Cx) (pins:List (Addr×Obj)) (σ:List (Option V)) (H:Hp) (s:Shared):Prop where
 ok:X.Ok
 os:s.os=X.s_0.os
 bare:AllBare s.gens
 base:Un X.fs X.ex X.H_0 H X.s_0.heap s.heap
 loc:∃ m,s.heap.Ns X.env.locals m/\∀ (i:Nat) (x:Str) (v:V),X.N[i]?=some x->σ[i]?=some (some v)->Vis X.env.scope x->∃ u,cA v u/\aB8 X.env s.heap m x u
 cell:∀ x c,X.env.cells.lookup x=some c->∃ v,s.heap.IsCell c v
 free:H X.env.locals=none
 freeC:∀ x c,X.env.cells.lookup x=some c->H c=none
 pin:∀ p∈X.pn++pins,s.heap.get? p.1=some p.2/\H p.1=none/\p.1≠X.env.locals/\p.1∉X.fs/\∀ v,p.2.data≠.cell v
 hok:kG X.prog X.w H s.heap
 len:σ.length=X.N.length
section
variable {X:Cx} {pins:List (Addr×Obj)} {σ:List (Option V)} {H H':Hp} {s:Shared} {h':Heap}
theorem Cx.Ok.nofr (ok:X.Ok) {b:Addr} {o:Obj} (e:X.base.get? b=some o):b∉X.fs:=fun hb=>by
 have:=(ok.funs.mem hb).1
 rw [e] at this;cases this
theorem aP.bs (I:aP X pins σ H s):∀ b o,X.base.get? b=some o->s.heap.get? b=some o/\H b=none:=fun b o e=>
 ⟨I.base.keep b o (I.ok.bs b o e).1 (I.ok.bs b o e).2 (I.ok.nofr e) (I.ok.noex b o e),I.base.free b o (I.ok.bs b o e).1 (I.ok.bs b o e).2 (I.ok.noex b o e)⟩
theorem aP.bk (I:aP X pins σ H s):∀ b o,X.base.get? b=some o->s.heap.get? b=some o:=fun b o e=>(I.bs b o e).1
theorem aP.mod (I:aP X pins σ H s):Mod X.K X.mg X.base:=I.ok.mod
theorem aP.kIn (I:aP X pins σ H s):X.K.In s.heap:=I.ok.mod.kin.keeps I.bk
theorem aP.lt (I:aP X pins σ H s):X.env.locals<s.heap.objs.size:=let ⟨_,hn,_⟩:=I.loc;hn.lt
theorem aP.sz (I:aP X pins σ H s):X.s_0.heap.objs.size<=s.heap.objs.size:=Nat.le_trans I.ok.above (Nat.le_of_lt I.lt)
theorem aP.nofs (I:aP X pins σ H s) {a:Addr} (h:s.heap.objs.size<=a):a∉X.fs:=fun hb=>by
 obtain ⟨_,o,ho,_⟩:=I.ok.funs.mem hb
 exact absurd (Nat.lt_of_lt_of_le (Heap.lt_size ho) (Nat.le_trans I.sz h)) (Nat.lt_irrefl _)
theorem aP.cne (I:aP X pins σ H s):∀ x c,X.env.cells.lookup x=some c->c≠X.env.locals:=fun x c e z=>by
 obtain ⟨v,o,ho,hd⟩:=I.cell x c e
 obtain ⟨m,⟨o',es,ep,ho',hd',_⟩,_⟩:=I.loc
 rw [z,ho'] at ho;cases ho;rw [hd'] at hd;cases hd
theorem aP.funs (I:aP X pins σ H s):s.heap.FunFrames X.base X.outer:=by
 have all:∀ (l:List Env),(∀ b∈yL l,b∈X.fs)->X.s_0.heap.FunFrames X.base l->s.heap.FunFrames X.base l:=by
  intro l
  induction l with
  |nil=>intro _ _;trivial
  |cons env r ih=>
   intro hs hl
   obtain ⟨hk,⟨L,o,hf,hn,ho,hd⟩,hr⟩:=hl
   have hL:L∈X.fs:=hs L (by unfold yL;rw [List.filterMap_cons,hf];exact List.mem_cons_self)
   obtain ⟨sl,e⟩:=I.base.slot L o ho (I.ok.frf L hL) hL fun z=>I.ok.exfs L z hL
   exact ⟨hk,⟨L,_,hf,hn,e,hd⟩,ih (fun b hb=>hs b (by unfold yL;rw [List.filterMap_cons,hf];exact List.mem_cons_of_mem _ hb)) hr⟩
 exact all X.outer (fun _ hb=>hb) I.ok.funs
theorem aP.stack (I:aP X pins σ H s):s.heap.FunFrames X.base X.stack:=by
 rcases I.ok.stk with e|⟨e,hf⟩
 ·rw [e];exact I.funs
 ·rw [e]
  obtain ⟨m,hn,_⟩:=I.loc
  refine .cons (by rw [I.ok.kind];decide) hf hn ?_ I.funs
  exact Heap.get?_none_of_le (Nat.le_trans I.ok.bsz I.ok.above)
theorem aP.stkSub (I:aP X pins σ H s):∀ b∈yL X.stack,b∈X.env.locals::X.fs:=fun b hb=>by
 rcases I.ok.stk with e|⟨e,hf⟩
 ·rw [e] at hb;exact List.mem_cons_of_mem _ hb
 ·rw [e] at hb
  unfold yL at hb
  rw [List.filterMap_cons,hf] at hb
  exact hb
theorem aP.stkFree (I:aP X pins σ H s):∀ b∈yL X.stack,H b=none:=fun b hb=>by
 rcases List.mem_cons.mp (I.stkSub b hb) with e|hb
 ·rw [e];exact I.free
 ·obtain ⟨_,o,ho,_⟩:=I.ok.funs.mem hb
  exact I.base.free b o ho (I.ok.frf b hb) fun z=>I.ok.exfs b z hb
theorem aP.step {g':Array GenState} {t':Nat} {d':Drawn} {ch:List Addr} (I:aP X pins σ H s)
  (hch:∀ b∈ch,(b∈X.ex\/X.s_0.heap.objs.size<=b)/\b≠X.env.locals/\(∀ x c,X.env.cells.lookup x=some c->c≠b)/\∀ p∈X.pn++pins,p.1≠b)
  (keep:∀ b o,b≠X.env.locals->b∉X.fs->b∉ch->s.heap.get? b=some o->H b=none->h'.get? b=some o)
  (slot:∀ b o,b≠X.env.locals->b∈X.fs->b∉ch->s.heap.get? b=some o->H b=none->∃ sl,h'.get? b=some {o with slots:=sl}) (free:∀ b o,b∉ch->s.heap.get? b=some o->H b=none->H' b=none)
  (there:∀ b o,b∉ch->s.heap.get? b=some o->∃ o',h'.get? b=some o')
  (tups:∀ b xs,H b=some (.tup xs)->H' b=some (.tup xs)) (frzs:∀ b o u,H b=some (.frz o u)->H' b=some (.frz o u)) (tbls:∀ b ps,H b=some (.tbl ps)->∃ more,H' b=some (.tbl (ps++more)))
  (ns:∀ m,s.heap.Ns X.env.locals m->h'.Ns X.env.locals m) (hok:kG X.prog X.w H' h') (hg:AllBare g'):
  aP X pins σ H' {s with heap:=h',gens:=g',drawn:=d',toks:=t'}:=by
 have neL:∀ b o,X.s_0.heap.get? b=some o->b≠X.env.locals:=fun b o e=>Nat.ne_of_lt (Nat.lt_of_lt_of_le (Heap.lt_size e) I.ok.above)
 have neC:∀ b o,X.s_0.heap.get? b=some o->b∉X.ex->b∉ch:=fun b o e hx hb=>by
  rcases (hch b hb).1 with z|z
  ·exact hx z
  ·exact absurd (Nat.lt_of_lt_of_le (Heap.lt_size e) z) (Nat.lt_irrefl _)
 have cellK:∀ x c,X.env.cells.lookup x=some c->∀ v,s.heap.IsCell c v->h'.IsCell c v:=fun x c e v ⟨o,ho,hd⟩=>by
  have nch:c∉ch:=fun z=>(hch c z).2.2.1 x c e rfl
  by_cases hc:c∈X.fs
  ·obtain ⟨sl,q⟩:=slot c o (I.cne x c e) hc nch ho (I.freeC x c e)
   exact ⟨_,q,hd⟩
  ·exact ⟨o,keep c o (I.cne x c e) hc nch ho (I.freeC x c e),hd⟩
 refine ⟨I.ok,I.os,hg,⟨fun b o e n hb hx=>?_,fun b o e n hb hx=>?_,fun b o e n hx=>?_,fun b o e hx=>?_,fun b xs e=>tups b xs (I.base.tups b xs e),fun b o xs e=>frzs b o xs (I.base.frzs b o xs e),fun b ps e=>?_⟩,?_,fun x c e=>?_,?_,fun x c e=>?_,fun p hp=>?_,hok,I.len⟩
 ·exact keep b o (neL b o e) hb (neC b o e hx) (I.base.keep b o e n hb hx) (I.base.free b o e n hx)
 ·obtain ⟨sl,e1⟩:=I.base.slot b o e n hb hx
  obtain ⟨sl',e2⟩:=slot b _ (neL b o e) hb (neC b o e hx) e1 (I.base.free b o e n hx)
  exact ⟨sl',e2⟩
 ·obtain ⟨o',e1⟩:=I.base.there b o e hx
  exact free b o' (neC b o e hx) e1 (I.base.free b o e n hx)
 ·obtain ⟨o',e1⟩:=I.base.there b o e hx
  exact there b o' (neC b o e hx) e1
 ·obtain ⟨m1,e1⟩:=I.base.tbls b ps e
  obtain ⟨m2,e2⟩:=tbls b _ e1
  exact ⟨m1++m2,by rw [e2,Array.append_assoc]⟩
 ·obtain ⟨m,hn,hl⟩:=I.loc
  refine ⟨m,ns m hn,fun i x v e1 e2 e3=>?_⟩
  obtain ⟨u,r,l⟩:=hl i x v e1 e2 e3
  refine ⟨u,r,?_⟩
  rcases l with l|⟨k,c,e,z⟩
  ·exact .inl l
  ·exact .inr ⟨k,c,e,cellK x c e _ z⟩
 ·obtain ⟨v,z⟩:=I.cell x c e
  exact ⟨v,cellK x c e v z⟩
 ·obtain ⟨m,⟨o,_,_,ho,_⟩,_⟩:=I.loc
  exact free _ o (fun z=>(hch _ z).2.1 rfl) ho I.free
 ·obtain ⟨v,o,ho,hd⟩:=I.cell x c e
  exact free c o (fun z=>(hch c z).2.2.1 x c e rfl) ho (I.freeC x c e)
 ·obtain ⟨e,n,ne,nf,d⟩:=I.pin p hp
  have nch:p.1∉ch:=fun z=>(hch p.1 z).2.2.2 p hp rfl
  exact ⟨keep p.1 p.2 ne nf nch e n,free p.1 p.2 nch e n,ne,nf,d⟩
theorem aP.un {t':Nat} (I:aP X pins σ H s) (u:Un X.fs [] H H' s.heap h') (hok:kG X.prog X.w H' h'):aP X pins σ H' {s with heap:=h',toks:=t'}:=by
 obtain ⟨m,⟨o,es,ep,ho,r⟩,_⟩:=id I.loc
 obtain ⟨sl,hL⟩:=u.any ho I.free (by simp)
 exact I.step (g':=s.gens) (d':=s.drawn) (ch:=[]) (fun _ z=>nomatch z) (fun b o _ hb _ e n=>u.keep b o e n hb (by simp)) (fun b o _ hb _ e n=>u.slot b o e n hb (by simp)) (fun b o _ e n=>u.free b o e n (by simp)) (fun b o _ e=>u.there b o e (by simp)) u.tups u.frzs u.tbls (fun m' hm=>by
  obtain ⟨o',es',ep',ho',r'⟩:=hm
  rw [ho] at ho';cases ho'
  exact ⟨_,es',ep',hL,r'⟩) hok I.bare
theorem aP.call {g':Array GenState} {t':Nat} {d':Drawn} {ch:List Addr} (I:aP X pins σ H s) (u:Un (yL X.stack) ch H H' s.heap h') (hok:kG X.prog X.w H' h') (hg:AllBare g')
  (hch:∀ b∈ch,(b∈X.ex\/X.s_0.heap.objs.size<=b)/\b≠X.env.locals/\(∀ x c,X.env.cells.lookup x=some c->c≠b)/\∀ p∈X.pn++pins,p.1≠b):
  aP X pins σ H' {s with heap:=h',gens:=g',drawn:=d',toks:=t'}:=by
 obtain ⟨m,⟨o,es,ep,ho,r⟩,_⟩:=id I.loc
 obtain ⟨sl,hL⟩:=u.any ho I.free fun z=>(hch _ z).2.1 rfl
 exact I.step (ch:=ch) hch (fun b o hL hb hc e n=>u.keep b o e n (fun z=>(List.mem_cons.mp (I.stkSub b z)).elim hL hb) hc) (fun b o _ _ hc e n=>u.any e n hc) (fun b o hc e n=>u.free b o e n hc) (fun b o hc e=>u.there b o e hc) u.tups u.frzs u.tbls (fun m' hm=>by
  obtain ⟨o',es',ep',ho',r'⟩:=hm
  rw [ho] at ho';cases ho'
  exact ⟨_,es',ep',hL,r'⟩) hok hg
theorem aP.turned {t':Nat} {it:Addr} (I:aP X pins σ H s) (k:∀ b o,b≠it->s.heap.get? b=some o->h'.get? b=some o) (hn:H it=none) (hL:it≠X.env.locals)
  (h1:it∈X.ex\/X.s_0.heap.objs.size<=it) (h2:∀ x c,X.env.cells.lookup x=some c->c≠it) (h3:∀ p∈X.pn++pins,p.1≠it):aP X pins σ H {s with heap:=h',toks:=t'}:=by
 have nit:∀ b u,H b=some u->b≠it:=fun b u e z=>by rw [z,hn] at e;cases e
 refine I.step (g':=s.gens) (d':=s.drawn) (ch:=[it]) (fun b hb=>?_) (fun b o _ _ hc e _=>k b o (fun z=>hc (by simp [z])) e) (fun b o _ _ hc e _=>⟨o.slots,k b o (fun z=>hc (by simp [z])) e⟩) (fun _ _ _ _ n=>n)
  (fun b o hc e=>⟨o,k b o (fun z=>hc (by simp [z])) e⟩) (fun _ _ e=>e) (fun _ _ _ e=>e) (fun b ps e=>⟨#[],by rw [e];simp⟩) (fun m hm=>?_) (fun b u e=>?_) I.bare
 ·have e:b=it:=by simpa using hb
  subst e
  exact ⟨h1,hL,h2,h3⟩
 ·obtain ⟨o,es,ep,ho,r⟩:=hm
  exact ⟨o,es,ep,k _ o (Ne.symm hL) ho,r⟩
 ·refine (I.hok b u e).stay (fun c v hc q=>k c v ?_ q) (fun _ q=>q) fun _ _ q=>q
  rcases hc with z|z
  ·rw [z];exact nit b u e
  ·exact nit c _ z
theorem aP.tok (I:aP X pins σ H s) (t:Nat):aP X pins σ H {s with toks:=t}:=I.un (h':=s.heap) (t':=t) Un.refl I.hok
theorem aP.kept {t':Nat} (I:aP X pins σ H s) (k:∀ b u,s.heap.get? b=some u->h'.get? b=some u):aP X pins σ H {s with heap:=h',toks:=t'}:=I.un (Un.kept k) (I.hok.kept k)
theorem aP.laid {a:Addr} {o:HO} {t':Nat} (I:aP X pins σ H s) (k:∀ b u,s.heap.get? b=some u->h'.get? b=some u) (hp:s.heap.objs.size<=a) (new:cJ X.prog X.w (upd H a o) h' a o):
  aP X pins σ (upd H a o) {s with heap:=h',toks:=t'}:=I.un (Un.laid k hp (I.hok.fresh hp)) (I.hok.laid k hp new)
theorem aP.write {x e:Addr} {o:HO} {t':Nat} (I:aP X pins σ H s) (mu:Wb (H x)) (he:e=x\/H e=some (.own x)) (k:∀ b u,b≠e->s.heap.get? b=some u->h'.get? b=some u) (heo:∃ u,h'.get? e=some u)
  (new:cJ X.prog X.w (upd H x o) h' x o):aP X pins σ (upd H x o) {s with heap:=h',toks:=t'}:=I.un (Un.write mu he k heo) (I.hok.write mu he k heo new)
theorem aP.weak {σ':List (Option V)} (I:aP X pins σ H s) (hl:σ'.length=σ.length) (w:∀ (i:Nat) v,σ'[i]?=some (some v)->σ[i]?=some (some v)):aP X pins σ' H s:=
 ⟨I.ok,I.os,I.bare,I.base,let ⟨m,hn,hl'⟩:=I.loc;⟨m,hn,fun i x v e1 e2 e3=>hl' i x v e1 (w i v e2) e3⟩,I.cell,I.free,I.freeC,I.pin,I.hok,hl.trans I.len⟩
theorem aP.pins_of {pins':List (Addr×Obj)} (I:aP X pins σ H s) (h:∀ p∈pins',s.heap.get? p.1=some p.2/\H p.1=none/\p.1≠X.env.locals/\p.1∉X.fs/\∀ v,p.2.data≠.cell v):aP X pins' σ H s:=
 ⟨I.ok,I.os,I.bare,I.base,I.loc,I.cell,I.free,I.freeC,fun p hp=>(List.mem_append.mp hp).elim (fun z=>I.pin p (List.mem_append_left _ z)) (h p),I.hok,I.len⟩
theorem vS {N:List Str} (hN:N.Nodup) {i j:Nat} {x:Str} (a:N[i]?=some x) (b:N[j]?=some x):i=j:=by
 obtain ⟨h1,e1⟩:=List.getElem?_eq_some_iff.mp a
 obtain ⟨h2,e2⟩:=List.getElem?_eq_some_iff.mp b
 exact (List.getElem_inj hN).mp (e1.trans e2.symm)
theorem yM {M:Model} {A:Around} {E:Value->Shared->Prop} {i:Nat} {x:Str} {v:V} {u:Value} {Q:Unit->Shared->Prop} (I:aP X pins σ H s) (hN:X.N.Nodup) (hi:X.N[i]?=some x) (hx:Loc X.env.scope x) (r:cA v u)
  (h:∀ s',aP X pins (σ.set i (some v)) H s'->(∃ a,Heap.SameBut a s.heap s'.heap/\(a=X.env.locals\/X.env.cells.lookup x=some a))->Q () s') (hf:X.fn x=true\/X.env.scope.names.lookup x=some .local:=by first|exact .inl rfl|exact .inr rfl|assumption):wpAny M A (storeName X.env x u) Q E s:=by
 obtain ⟨m,hn,hl⟩:=id I.loc
 have hcls:(X.env.scope.kind==.class||(X.env.scope.kind==.module && X.env.locals !=X.env.globals))=false:=by rw [I.ok.kind];rfl
 have hiσ:i<σ.length:=by rw [I.len];exact (List.getElem?_eq_some_iff.mp hi).1
 have cne:=I.cne
 have tracked:∀ {a:Addr} {h':Heap},(∃ o,s.heap.get? a=some o/\H a=none)->Heap.SameBut a s.heap h'->kG X.prog X.w H h':=fun {a h'} ha hs b ob e=>by
  obtain ⟨_,_,hfree⟩:=ha
  refine (I.hok b ob e).stay (fun c w' hc q=>(hs.2 c ?_).trans q) (fun _ q=>q) fun _ _ q=>q
  rintro rfl
  rcases hc with rfl|hc
  ·rw [hfree] at e;cases e
  ·rw [hfree] at hc;cases hc
 rcases hx with hk|hk
 ·refine wpAny_storeName_local hk hn (fun h' hn' hs=>?_) hcls
  obtain ⟨oL,_,_,hoL,_⟩:=id hn
  refine h _ ⟨I.ok,I.os,I.bare,⟨fun b o e n hb hx=>?_,fun b o e n hb hx=>?_,I.base.free,fun b o e hx=>?_,I.base.tups,I.base.frzs,I.base.tbls⟩,⟨_,hn',fun j y v' e1 e2 e3=>?_⟩,fun y c e=>?_,I.free,I.freeC,fun p hp=>?_,tracked ⟨oL,hoL,I.free⟩ hs,by simpa using I.len⟩ ⟨_,hs,.inl rfl⟩
  ·exact (hs.2 b (Nat.ne_of_lt (Nat.lt_of_lt_of_le (Heap.lt_size e) I.ok.above))).trans (I.base.keep b o e n hb hx)
  ·obtain ⟨sl,e1⟩:=I.base.slot b o e n hb hx
   exact ⟨sl,(hs.2 b (Nat.ne_of_lt (Nat.lt_of_lt_of_le (Heap.lt_size e) I.ok.above))).trans e1⟩
  ·obtain ⟨o',e1⟩:=I.base.there b o e hx
   exact ⟨o',(hs.2 b (Nat.ne_of_lt (Nat.lt_of_lt_of_le (Heap.lt_size e) I.ok.above))).trans e1⟩
  ·by_cases hj:j=i
   ·subst hj
    rw [hi] at e1;cases e1
    rw [List.getElem?_set_self hiσ] at e2
    cases e2
    exact ⟨u,r,.inl ⟨hk,by simp⟩⟩
   ·rw [List.getElem?_set_ne (Ne.symm hj)] at e2
    obtain ⟨u',r',q⟩:=hl j y v' e1 e2 e3
    refine ⟨u',r',?_⟩
    rcases q with ⟨k,e⟩|⟨k,c,e,z⟩
    ·refine .inl ⟨k,?_⟩
     have:y≠x:=fun e=>hj (vS hN e1 (e▸hi))
     simp [this,e]
    ·exact .inr ⟨k,c,e,z.sameBut hs (cne y c e)⟩
  ·obtain ⟨w',z⟩:=I.cell y c e
   exact ⟨w',z.sameBut hs (cne y c e)⟩
  ·obtain ⟨e,n,ne,nf,d⟩:=I.pin p hp
   exact ⟨(hs.2 p.1 ne).trans e,n,ne,nf,d⟩
 ·have hfn:X.fn x=true:=by
   rcases hf with z|z
   ·exact z
   ·rw [z] at hk;cases hk
  obtain ⟨c,hc⟩:=I.ok.has x (.inl hk)
  obtain ⟨w',z⟩:=I.cell x c hc
  refine wpAny_storeName_cell I.ok.kind hk hc z (fun h' hc' hs=>?_)
  obtain ⟨oc,hoc,hocd⟩:=id z
  refine h {s with heap:=h'} ⟨I.ok,I.os,I.bare,⟨fun b o e n hb hx=>?_,fun b o e n hb hx=>?_,I.base.free,fun b o e hx=>?_,I.base.tups,I.base.frzs,I.base.tbls⟩,⟨m,hn.sameBut hs (Ne.symm (cne x c hc)),fun j y v' e1 e2 e3=>?_⟩,fun y c' e=>?_,I.free,I.freeC,fun p hp=>?_,tracked ⟨oc,hoc,I.freeC x c hc⟩ hs,by simpa using I.len⟩ ⟨c,hs,.inr hc⟩
  ·exact (hs.2 b (Nat.ne_of_lt (Nat.lt_of_lt_of_le (Heap.lt_size e) (I.ok.cab x c hfn hc)))).trans (I.base.keep b o e n hb hx)
  ·obtain ⟨sl,e1⟩:=I.base.slot b o e n hb hx
   exact ⟨sl,(hs.2 b (Nat.ne_of_lt (Nat.lt_of_lt_of_le (Heap.lt_size e) (I.ok.cab x c hfn hc)))).trans e1⟩
  ·obtain ⟨o',e1⟩:=I.base.there b o e hx
   exact ⟨o',(hs.2 b (Nat.ne_of_lt (Nat.lt_of_lt_of_le (Heap.lt_size e) (I.ok.cab x c hfn hc)))).trans e1⟩
  ·by_cases hj:j=i
   ·subst hj
    rw [hi] at e1;cases e1
    rw [List.getElem?_set_self hiσ] at e2
    cases e2
    exact ⟨u,r,.inr ⟨.inl hk,c,hc,hc'⟩⟩
   ·rw [List.getElem?_set_ne (Ne.symm hj)] at e2
    obtain ⟨u',r',q⟩:=hl j y v' e1 e2 e3
    refine ⟨u',r',?_⟩
    rcases q with q|⟨k,c',e,z'⟩
    ·exact .inl q
    ·refine .inr ⟨k,c',e,z'.sameBut hs ?_⟩
     rintro rfl
     exact hj (vS hN e1 (I.ok.inj _ _ _ e hc▸hi))
  ·by_cases hcc:c'=c
   ·subst hcc;exact ⟨_,hc'⟩
   ·obtain ⟨w2,z2⟩:=I.cell y c' e
    exact ⟨w2,z2.sameBut hs hcc⟩
  ·obtain ⟨e,n,ne,nf,d⟩:=I.pin p hp
   refine ⟨(hs.2 p.1 ?_).trans e,n,ne,nf,d⟩
   intro q
   rw [q,hoc] at e
   have q':oc=p.2:=Option.some.inj e
   exact d w' (by rw [<-q'];exact hocd)
theorem vW {M:Model} {A:Around} {E:Value->Shared->Prop} {i:Nat} {x:Str} {v:V} {u:Value} {Q:Unit->Shared->Prop} (I:aP X pins σ H s) (hN:X.N.Nodup) (hi:X.N[i]?=some x) (hx:Loc X.env.scope x) (r:cA v u)
  (h:∀ s',aP X pins (σ.set i (some v)) H s'->Q () s') (hf:X.fn x=true\/X.env.scope.names.lookup x=some .local:=by first|exact .inl rfl|exact .inr rfl|assumption):wpAny M A (storeName X.env x u) Q E s:=
 yM I hN hi hx r (fun s' I' _=>h s' I') hf
theorem aP.call' {s':Shared} {ch:List Addr} (I:aP X pins σ H s) (ho:s'.os=s.os) (u:Un (yL X.stack) ch H H' s.heap s'.heap) (hok:kG X.prog X.w H' s'.heap) (hg:AllBare s'.gens)
  (hch:∀ b∈ch,(b∈X.ex\/X.s_0.heap.objs.size<=b)/\b≠X.env.locals/\(∀ x c,X.env.cells.lookup x=some c->c≠b)/\∀ p∈X.pn++pins,p.1≠b):aP X pins σ H' s':=by
 obtain ⟨h',g',d',t',o'⟩:=s'
 have e:o'=s.os:=ho
 subst e
 exact I.call (g':=g') (t':=t') (d':=d') u hok hg hch
end
abbrev XK:=Value->Option Addr->Hp->Prop
abbrev St:=List (Option V)
abbrev VK:=V->Hp->Prop
abbrev TE:=St->Hp->VK->Prop
abbrev TT:=St->Hp->(Bool->Hp->Prop)->Prop
abbrev TA:=St->Hp->(List V->Hp->Prop)->Prop
structure fZ where
 nx:St->Hp->Prop
 rt:VK
 bk:St->Hp->Prop:=fun _ _=>False
 ct:St->Hp->Prop:=fun _ _=>False
abbrev TS:=fZ->St->Hp->Prop
def EP (X:Cx) (pins:List (Addr×Obj)) (σ:St) (Q:VK) (u:Value) (s':Shared):Prop:=∃ v H',aP X pins σ H' s'/\cA v u/\Q v H'
def TP (X:Cx) (pins:List (Addr×Obj)) (σ:St) (Q:Bool->Hp->Prop) (b:Bool) (s':Shared):Prop:=∃ H',aP X pins σ H' s'/\Q b H'
def AP (X:Cx) (pins:List (Addr×Obj)) (σ:St) (Q:List V->Hp->Prop) (us:List Value) (s':Shared):Prop:=∃ vs H',aP X pins σ H' s'/\bN vs us/\Q vs H'
def SP (X:Cx) (pins:List (Addr×Obj)) (D:fZ) (f:Flow) (s':Shared):Prop:=
 match f with
 |.next=>∃ σ' H',aP X pins σ' H' s'/\D.nx σ' H'
 |.brk=>∃ σ' H',aP X pins σ' H' s'/\D.bk σ' H'
 |.cont=>∃ σ' H',aP X pins σ' H' s'/\D.ct σ' H'
 |.ret u=>∃ v σ' H',aP X pins σ' H' s'/\cA v u/\D.rt v H'
def PE (X:Cx) (e:Expr) (t:TE):Prop:=
 ∀ (pins:List (Addr×Obj)) (s:Shared) (σ:St) (H:Hp) (Q:VK),aP X pins σ H s->t σ H Q->wpAny (model X.prog X.w) X.A (eval e X.env) (EP X pins σ Q) X.xe s
def PT (X:Cx) (e:Expr) (t:TT):Prop:=
 ∀ (pins:List (Addr×Obj)) (s:Shared) (σ:St) (H:Hp) (Q:Bool->Hp->Prop),aP X pins σ H s->t σ H Q->wpAny (model X.prog X.w) X.A (isTrue e X.env (eval e X.env)) (TP X pins σ Q) X.xe s
def PW (X:Cx) (e:Expr) (t:TT):Prop:=
 ∀ (whole:Sem Value) (pins:List (Addr×Obj)) (s:Shared) (σ:St) (H:Hp) (Q:Bool->Hp->Prop),aP X pins σ H s->t σ H Q->wpAny (model X.prog X.w) X.A (isTrue e X.env whole) (TP X pins σ Q) X.xe s
theorem PW.pt {X:Cx} {e:Expr} {t:TT} (h:PW X e t):PT X e t:=h _
def PA (X:Cx) (es:List Expr) (t:TA):Prop:=
 ∀ (pos:Pos) (pins:List (Addr×Obj)) (s:Shared) (σ:St) (H:Hp) (Q:List V->Hp->Prop),aP X pins σ H s->t σ H Q->wpAny (model X.prog X.w) X.A (spliced (backTo pos (starEach es X.env))) (AP X pins σ Q) X.xe s
def PS (X:Cx) (st:Stmt) (t:TS):Prop:=
 ∀ (pins:List (Addr×Obj)) (s:Shared) (σ:St) (H:Hp) (D:fZ),aP X pins σ H s->t D σ H->wpAny (model X.prog X.w) X.A (exec st X.env) (SP X pins D) X.xe s
def xJ (X:Cx) (st:List Stmt) (t:TS):Prop:=
 ∀ (pins:List (Addr×Obj)) (s:Shared) (σ:St) (H:Hp) (D:fZ),aP X pins σ H s->t D σ H->wpAny (model X.prog X.w) X.A (execs st X.env) (SP X pins D) X.xe s
theorem cT {α:Type} {t:Sem α} {Q Q':α->Shared->Prop} {M:Model} {A:Around} {E:Value->Shared->Prop} {s:Shared} (h:wpAny M A t Q E s) (hQ:∀ a s,Q a s->Q' a s):wpAny M A t Q' E s:=wpAny_mono h hQ fun _ _ x=>x
section
variable {X:Cx}
theorem bin {a b:Expr} {ta tb:TE} (ha:PE X a ta) (hb:PE X b tb) {pins:List (Addr×Obj)} {s:Shared} {σ:St} {H:Hp} {R:V->V->Hp->Prop} (I:aP X pins σ H s) (h:ta σ H fun x H1=>tb σ H1 fun y H2=>R x y H2)
  {α:Type} {Q:α->Shared->Prop} {f:Value->Value->Sem α}
  (hf:∀ v u s2 x y H2,aP X pins σ H2 s2->cA x v->cA y u->R x y H2->wpAny (model X.prog X.w) X.A (f v u) Q X.xe s2):
  wpAny (model X.prog X.w) X.A (eval a X.env) (fun v s₁=>wpAny (model X.prog X.w) X.A (eval b X.env) (fun u s₂=>wpAny (model X.prog X.w) X.A (f v u) Q X.xe s₂) X.xe s₁) X.xe s:=by
 refine cT (ha pins s σ H _ I h) fun v s1 ⟨x,H1,I1,r1,q1⟩=>?_
 refine cT (hb pins s1 σ H1 _ I1 q1) fun u s2 ⟨y,H2,I2,r2,q2⟩=>?_
 exact hf v u s2 x y H2 I2 r1 r2 q2
def dI (i:Nat):TE:=fun σ H Q=>∃ v,σ[i]?=some (some v)/\Q v H
def tC (v:V):TE:=fun _ H Q=>Q v H
theorem Wu {i:Nat} {x:Str} {pos:Pos} (hN:X.N[i]?=some x) (hv:Vis X.env.scope x) (hd:(x==("__debug__":Str))=false:=by decide) (hcd:(x==("__classdict__":Str))=false:=by decide):PE X (.Name x pos) (dI i):=by
 intro pins s σ H Q I h
 obtain ⟨v,e,h⟩:=h
 obtain ⟨m,hn,hl⟩:=I.loc
 obtain ⟨u,r,l⟩:=hl i x v hN e hv
 have fin:EP X pins σ Q u s:=⟨v,H,I,r,h⟩
 rcases l with ⟨hk,hm⟩|⟨hk,c,hc,hcell⟩
 ·exact wpAny_Name (wpAny_loadName_local I.ok.kind hk hn hm fin) hd
 ·rcases hk with hk|hk
  ·exact wpAny_Name (wpAny_loadName_cell I.ok.kind hk hc hcell fin) hd
  ·exact wpAny_Name (wpAny_loadName_free I.ok.kind hk hc hcell fin hcd) hd
theorem aK {i j pos}:PE X (.Constant (.int i) j pos) (tC (.int i)):=fun _ _ _ H _ I h=>wpAny_Constant_int ⟨.int i,H,I.tok _,⟨_,rfl⟩,h⟩
theorem mV {b j pos}:PE X (.Constant (.bool b) j pos) (tC (.bl b)):=fun _ _ _ H _ I h=>Constant_bool ⟨.bl b,H,I,rfl,h⟩
theorem vF {j pos}:PE X (.Constant .none j pos) (tC .non):=fun _ _ _ H _ I h=>Constant_none ⟨.non,H,I,rfl,h⟩
theorem eS {x j pos}:PE X (.Constant (.str x) j pos) (tC (.str x)):=fun _ _ _ H _ I h=>Calls.Constant_str ⟨.str x,H,I.tok _,⟨_,rfl⟩,h⟩
def Gl (X:Cx) (x:Str):Prop:=X.env.kindOf x=some .globalImplicit
theorem iZ {E:Value->Shared->Prop} {pins:List (Addr×Obj)} {s:Shared} {σ:St} {H:Hp} {x:Str} {u:Value} {pos:Pos} {Q:Value->Shared->Prop} (I:aP X pins σ H s) (hg:Gl X x) (hm:X.mg x=some u) (h:Q u s)
  (hd:(x==("__debug__":Str))=false:=by decide):wpAny (model X.prog X.w) X.A (eval (.Name x pos) X.env) Q E s:=
 Calls.Name_function_global I.ok.kind hg (Calls.loadGlobal_global (by rw [I.ok.glob];exact I.mod.glob.keeps I.bk) hm h) hd
theorem qU {E:Value->Shared->Prop} {pins:List (Addr×Obj)} {s:Shared} {σ:St} {H:Hp} {x:Str} {u:Value} {pos:Pos} {Q:Value->Shared->Prop} (I:aP X pins σ H s) (hg:Gl X x) (hm:X.mg x=none) (hv:bootBuiltins x=some u) (h:Q u s)
  (hn:x≠"__name__":=by decide) (hd:(x==("__debug__":Str))=false:=by decide):wpAny (model X.prog X.w) X.A (eval (.Name x pos) X.env) Q E s:=by
 obtain ⟨mb,h1,h2⟩:=I.mod.blt
 exact Calls.Name_function_global I.ok.kind hg (Calls.loadGlobal_builtin (by rw [I.ok.glob];exact I.mod.glob.keeps I.bk) hm (by rw [I.ok.blt];exact h1.keeps I.bk) ((h2 x hn).trans hv) h) hd
theorem Ao {x:Str} {v:V} {u:Value} {pos:Pos} (hg:Gl X x) (hm:X.mg x=some u) (r:cA v u) (hd:(x==("__debug__":Str))=false:=by decide):PE X (.Name x pos) (tC v):=
 fun _ _ _ H _ I h=>iZ I hg hm ⟨v,H,I,r,h⟩ hd
def t2I (ta tb:TE) (k:Int->Int->Hp->Prop):St->Hp->Prop:=fun σ H=>ta σ H fun x H1=>tb σ H1 fun y H2=>∃ i j,x=.int i/\y=.int j/\k i j H2
variable {a b:Expr} {ta tb:TE} {pos:Pos}
def PC (X:Cx) (op:CmpOp) (a b:Expr) (t:TE):Prop:=
 ∀ (pins:List (Addr×Obj)) (s:Shared) (σ:St) (H:Hp) (Q:VK),aP X pins σ H s->t σ H Q->
  wpAny (model X.prog X.w) X.A (eval a X.env) (fun v s₁=>wpAny (model X.prog X.w) X.A (eval b X.env) (fun u s₂=>wpAny (model X.prog X.w) X.A (compareOp op v u) (EP X pins σ Q) X.xe s₂) X.xe s₁) X.xe s
theorem Ps (b:Expr) {op:CmpOp} (h:op≠.In) (h2:op≠.NotIn):behindInMarks op b=false:=by
 have e1:(op==CmpOp.In)=false:=by cases op<;>first|rfl|exact absurd rfl h
 have e2:(op==CmpOp.NotIn)=false:=by cases op<;>first|rfl|exact absurd rfl h2
 cases b<;>simp [behindInMarks,e1,e2]
def Tz (p:Int->Int->Bool) (ta tb:TE):TE:=fun σ H Q=>t2I ta tb (fun i j H2=>Q (.bl (p i j)) H2) σ H
abbrev tLt:TE->TE->TE:=Tz fun i j=>decide (i<j)
abbrev tLe:TE->TE->TE:=Tz fun i j=>decide (i<=j)
abbrev tGt:TE->TE->TE:=Tz fun i j=>decide (j<i)
theorem Gi {op:CmpOp} {p:Int->Int->Bool} (ha:PE X a ta) (hb:PE X b tb)
  (rule:∀ (i j:Int) (t u:Tok) (Q:Value->Shared->Prop) (s:Shared),Q (.bool (p i j)) s->wpAny (model X.prog X.w) X.A (compareOp op (.int i t) (.int j u)) Q X.xe s):PC X op a b (Tz p ta tb):=by
 intro pins s σ H Q I h
 refine bin ha hb I h fun v u s2 x y H2 I2 rx ry q=>?_
 obtain ⟨i,j,rfl,rfl,q⟩:=q
 obtain ⟨t,rfl⟩:=rx
 obtain ⟨t',rfl⟩:=ry
 exact rule i j t t' _ s2 ⟨.bl _,H2,I2,rfl,q⟩
theorem Is (ha:PE X a ta) (hb:PE X b tb):PC X .Lt a b (tLt ta tb):=Gi ha hb fun _ _ _ _ _ _ h=>lt_int h
theorem Zu (ha:PE X a ta) (hb:PE X b tb):PC X .LtE a b (tLe ta tb):=Gi ha hb fun _ _ _ _ _ _ h=>le_int h
theorem sI (ha:PE X a ta) (hb:PE X b tb):PC X .Gt a b (tGt ta tb):=Gi ha hb fun _ _ _ _ _ _ h=>gt_int h
def tB (t:TE):TT:=fun σ H Q=>t σ H fun x H1=>∃ c,x=.bl c/\Q c H1
theorem eB {op:CmpOp} {t:TE} (h:PC X op a b t) (h1:behindInMarks op b=false:=by first|exact Ps _ (by decide) (by decide)|rfl):PT X (.Compare a [op] [b] pos) (tB t):=by
 intro pins s σ H Q I hw
 refine wpAny_isTrue_Compare1 (cT (h pins s σ H _ I hw) fun v s1 h1=>cT h1 fun u s2 h2=>cT h2 fun c s3 ⟨x,H1,I1,r1,q1⟩=>?_) h1
 obtain ⟨d,rfl,q⟩:=q1
 cases r1
 exact wpAny_truthy_bool ⟨H1,I1,q⟩
theorem eE {e:Expr} {t:TE} (h:PE X e t) (he:∀ whole,isTrue e X.env whole=(do let v <-whole;standAt e.pos;holding [v] (truthy v)):=by intro _;rfl):PT X e (tB t):=by
 intro pins s σ H Q I hw
 refine isTrue_plain (cT (h pins s σ H _ I hw) fun v s1 ⟨x,H1,I1,r1,q1⟩=>?_) (he _)
 obtain ⟨d,rfl,q⟩:=q1
 cases r1
 exact wpAny_truthy_bool ⟨H1,I1,q⟩
variable {tA tB':TT} {rest:List Expr}
def aCa (t u:TT):TT:=fun σ H Q=>t σ H fun c H1=>if c=true then u σ H1 Q else Q false H1
def tOr (t u:TT):TT:=fun σ H Q=>t σ H fun c H1=>if c=true then Q true H1 else u σ H1 Q
def aCj (t:TT):TT:=fun σ H Q=>t σ H fun c H1=>Q (!c) H1
theorem hZ (ha:PT X a tA):PW X (.BoolOp .And [a] pos) tA:=by
 intro wh pins s σ H Q I h
 refine isTrue_and (cT (ha pins s σ H Q I h) fun c s1 e=>?_)
 cases c with
 |true=>exact isTrue_and_nil e
 |false=>exact e
theorem zM (ha:PT X a tA):PW X (.BoolOp .Or [a] pos) tA:=by
 intro wh pins s σ H Q I h
 refine isTrue_or (cT (ha pins s σ H Q I h) fun c s1 e=>?_)
 cases c with
 |false=>exact isTrue_or_nil e
 |true=>exact e
theorem gX (ha:PT X a tA) (hb:PW X (.BoolOp .And (b::rest) pos) tB'):PW X (.BoolOp .And (a::b::rest) pos) (aCa tA tB'):=by
 intro wh pins s σ H Q I h
 refine isTrue_and (cT (ha pins s σ H _ I h) fun c s1 ⟨H1,I1,q1⟩=>?_)
 cases c with
 |true=>exact hb wh pins s1 σ H1 Q I1 q1
 |false=>exact ⟨H1,I1,q1⟩
theorem Iy (ha:PT X a tA) (hb:PW X (.BoolOp .Or (b::rest) pos) tB'):PW X (.BoolOp .Or (a::b::rest) pos) (tOr tA tB'):=by
 intro wh pins s σ H Q I h
 refine isTrue_or (cT (ha pins s σ H _ I h) fun c s1 ⟨H1,I1,q1⟩=>?_)
 cases c with
 |true=>exact ⟨H1,I1,q1⟩
 |false=>exact hb wh pins s1 σ H1 Q I1 q1
theorem kU (ha:PT X a tA):PT X (.UnaryOp .Not a pos) (aCj tA):=by
 intro pins s σ H Q I h
 exact isTrue_not (ha pins s σ H (fun c H1=>Q (!c) H1) I h)
def Zt (ta tb:TE):TE:=fun σ H Q=>ta σ H fun x H1=>∃ c,x=.bl c/\if c=true then tb σ H1 Q else Q (.bl false) H1
def aBv (ta tb:TE):TE:=fun σ H Q=>ta σ H fun x H1=>∃ c,x=.bl c/\if c=true then Q (.bl true) H1 else tb σ H1 Q
def aAp (ta:TE):TE:=fun σ H Q=>ta σ H fun x H1=>∃ c,x=.bl c/\Q (.bl (!c)) H1
theorem sB {op} {t:TE} (h:PE X a t):PE X (.BoolOp op [a] pos) t:=fun pins s σ H Q I hw=>BoolOp_one (h pins s σ H Q I hw)
theorem rZ (ha:PE X a ta) (hb:PE X (.BoolOp .And (b::rest) pos) tb):PE X (.BoolOp .And (a::b::rest) pos) (Zt ta tb):=by
 intro pins s σ H Q I h
 refine BoolOp_and (cT (ha pins s σ H _ I h) fun v s1 ⟨x,H1,I1,r1,q1⟩=>?_)
 obtain ⟨c,rfl,q1⟩:=q1
 cases r1
 refine wpAny_truthy_bool ?_
 cases c with
 |true=>exact hb pins s1 σ H1 Q I1 q1
 |false=>exact ⟨.bl false,H1,I1,rfl,q1⟩
theorem Rf (ha:PE X a ta) (hb:PE X (.BoolOp .Or (b::rest) pos) tb):PE X (.BoolOp .Or (a::b::rest) pos) (aBv ta tb):=by
 intro pins s σ H Q I h
 refine BoolOp_or (cT (ha pins s σ H _ I h) fun v s1 ⟨x,H1,I1,r1,q1⟩=>?_)
 obtain ⟨c,rfl,q1⟩:=q1
 cases r1
 refine wpAny_truthy_bool ?_
 cases c with
 |false=>exact hb pins s1 σ H1 Q I1 q1
 |true=>exact ⟨.bl true,H1,I1,rfl,q1⟩
theorem Yj (ha:PE X a ta):PE X (.UnaryOp .Not a pos) (aAp ta):=by
 intro pins s σ H Q I h
 refine UnaryOp_ (cT (ha pins s σ H _ I h) fun v s1 ⟨x,H1,I1,r1,q1⟩=>?_)
 obtain ⟨c,rfl,q1⟩:=q1
 cases r1
 exact not_of (wpAny_truthy_bool ⟨.bl (!c),H1,I1,rfl,q1⟩)
def tIf (t:TT) (ta tb:TE):TE:=fun σ H Q=>t σ H fun c H1=>if c=true then ta σ H1 Q else tb σ H1 Q
theorem Oq {c:Expr} (hc:PT X c tA) (ha:PE X a ta) (hb:PE X b tb):PE X (.IfExp c a b pos) (tIf tA ta tb):=by
 intro pins s σ H Q I h
 refine wpAny_IfExp (cT (hc pins s σ H _ I h) fun d s1 ⟨H1,I1,q1⟩=>?_)
 cases d with
 |true=>exact ha pins s1 σ H1 Q I1 q1
 |false=>exact hb pins s1 σ H1 Q I1 q1
end
def dE (K:PySem.W.Frag) (H:Hp) (a:Addr) (xs:List V):Prop:=
 Rd H a (.lst xs)\/
  ∃ (o:Obj) (its:Array Value) (n:Nat),K.lookup a=some o/\o.cls=.type "list"/\o.dict=none/\o.data=.seq its n/\its.size<=sizeLine/\bN xs its.toList
def cN (K:PySem.W.Frag) (H:Hp) (a:Addr) (xs:List V):Prop:=
 Rd H a (.tup xs)\/
  ∃ (o:Obj) (its:Array Value) (n:Nat),K.lookup a=some o/\o.cls=.type "tuple"/\o.data=.seq its n/\its.size<=sizeLine/\bN xs its.toList
def aCc:Value->Option V
 |.none=>some .non
 |.bool b=>some (.bl b)
 |.int i _=>some (.int i)
 |.str x _=>some (.str x)
 |.bytes b _=>some (.byt b)
 |.float b _=>some (.flt b)
 |.ref a=>some (.ref a)
 |.type n=>some (.ty n)
 |_=>none
theorem cA.abs {x:V} {u:Value} (r:cA x u):aCc u=some x:=by
 cases x with
 |non=>cases r;rfl
 |bl _=>cases r;rfl
 |int _=>obtain ⟨t,rfl⟩:=r;rfl
 |str _=>obtain ⟨t,rfl⟩:=r;rfl
 |byt _=>obtain ⟨t,rfl⟩:=r;rfl
 |flt _=>obtain ⟨t,rfl⟩:=r;rfl
 |ref _=>cases r;rfl
 |ty _=>cases r;rfl
theorem cA.inj {x y:V} {u:Value} (r:cA x u) (q:cA y u):x=y:=Option.some.inj (r.abs.symm.trans q.abs)
theorem bN.inj:∀ {xs ys:List V} {us:List Value},bN xs us->bN ys us->xs=ys
 |_,_,_,.nil,.nil=>rfl
 |_,_,_,.cons r t,.cons r' t'=>by rw [r.inj r',bN.inj t t']
section
variable {X:Cx} {pins:List (Addr×Obj)} {σ:St} {H:Hp} {s:Shared} {a:Addr} {xs ys:List V}
theorem dE.of {K:PySem.W.Frag} (h:H a=some (.lst xs)):dE K H a xs:=.inl (.inl h)
theorem cN.of {K:PySem.W.Frag} (h:H a=some (.tup xs)):cN K H a xs:=.inl (.inl h)
theorem aP.list (I:aP X pins σ H s) (h:dE X.K H a xs):∃ its:List Value,bN xs its/\PlainL s.heap a its.toArray/\xs.length<=sizeLine:=by
 rcases h with h|⟨o,its,n,hk,hc,hd,hs,hz,r⟩
 ·obtain ⟨z,its,n,r,e⟩:=h.ok I.hok
  exact ⟨its,r,⟨_,n,e,rfl,rfl,rfl⟩,z⟩
 ·refine ⟨its.toList,r,⟨o,n,I.kIn a o hk,hc,hd,by simpa using hs⟩,?_⟩
  have e:=r.length
  simp only [Array.length_toList] at e
  omega
theorem aP.tuple (I:aP X pins σ H s) (h:cN X.K H a xs):∃ its:List Value,bN xs its/\IsTup s.heap a its.toArray/\xs.length<=sizeLine:=by
 rcases h with h|⟨o,its,n,hk,hc,hs,hz,r⟩
 ·obtain ⟨z,its,r,p⟩:=h.ok I.hok
  exact ⟨its,r,p,z⟩
 ·refine ⟨its.toList,r,⟨o,I.kIn a o hk,hc,n,by simpa using hs⟩,?_⟩
  have e:=r.length
  simp only [Array.length_toList] at e
  omega
theorem aP.list_inj (I:aP X pins σ H s) (h:dE X.K H a xs) (h':dE X.K H a ys):xs=ys:=by
 obtain ⟨its,r,⟨o,n,e,_,_,d⟩,_⟩:=I.list h
 obtain ⟨its',r',⟨o',n',e',_,_,d'⟩,_⟩:=I.list h'
 rw [e] at e';cases e'
 rw [d] at d'
 injection d' with d1 _
 have:its=its':=by simpa using congrArg Array.toList d1
 subst this
 exact r.inj r'
theorem aP.tuple_inj (I:aP X pins σ H s) (h:cN X.K H a xs) (h':cN X.K H a ys):xs=ys:=by
 obtain ⟨its,r,⟨o,e,_,n,d⟩,_⟩:=I.tuple h
 obtain ⟨its',r',⟨o',e',_,n',d'⟩,_⟩:=I.tuple h'
 rw [e] at e';cases e'
 rw [d] at d'
 injection d' with d1 _
 have:its=its':=by simpa using congrArg Array.toList d1
 subst this
 exact r.inj r'
end
abbrev Cx.wish (X:Cx) (E:Value->Shared->Prop):Cx:={X with xe:=E}
abbrev Cx.nox (X:Cx):Cx:=X.wish fun _ _=>False
theorem Cx.Ok.wish {X:Cx} (ok:X.Ok) (E:Value->Shared->Prop):(X.wish E).Ok:=
 ⟨ok.mod,ok.kind,ok.glob,ok.blt,ok.above,ok.inj,ok.has,ok.cab,ok.hd,ok.frames,ok.stk,ok.exf,ok.bs,ok.bsz,ok.noex,ok.exfs,ok.funs,ok.frf⟩
theorem Cx.Ok.unwish {X:Cx} {E:Value->Shared->Prop} (ok:(X.wish E).Ok):X.Ok:=
 ⟨ok.mod,ok.kind,ok.glob,ok.blt,ok.above,ok.inj,ok.has,ok.cab,ok.hd,ok.frames,ok.stk,ok.exf,ok.bs,ok.bsz,ok.noex,ok.exfs,ok.funs,ok.frf⟩
section
variable {X:Cx} {pins:List (Addr×Obj)} {σ:St} {H:Hp} {s:Shared} {E:Value->Shared->Prop}
theorem aP.wish (I:aP X pins σ H s) (E:Value->Shared->Prop):aP (X.wish E) pins σ H s:=⟨I.ok.wish E,I.os,I.bare,I.base,I.loc,I.cell,I.free,I.freeC,I.pin,I.hok,I.len⟩
theorem aP.unwish (I:aP (X.wish E) pins σ H s):aP X pins σ H s:=⟨I.ok.unwish,I.os,I.bare,I.base,I.loc,I.cell,I.free,I.freeC,I.pin,I.hok,I.len⟩
theorem SP.unwish {D:fZ} {f:Flow} {s':Shared} (h:SP (X.wish E) pins D f s'):SP X pins D f s':=by
 cases f with
 |next=>obtain ⟨σ',H',I,q⟩:=h;exact ⟨σ',H',I.unwish,q⟩
 |brk=>obtain ⟨σ',H',I,q⟩:=h;exact ⟨σ',H',I.unwish,q⟩
 |cont=>obtain ⟨σ',H',I,q⟩:=h;exact ⟨σ',H',I.unwish,q⟩
 |ret u=>obtain ⟨v,σ',H',I,r,q⟩:=h;exact ⟨v,σ',H',I.unwish,r,q⟩
theorem xJ.nox {st:List Stmt} {t:TS} (h:xJ X.nox st t):xJ X st t:=fun pins s σ H D I hw=>
 wpAny_mono (h pins s σ H D (I.wish _) hw) (fun _ _ q=>q.unwish) fun _ _ z=>False.elim z
end
section
variable {X:Cx} {st:Stmt} {rest:List Stmt} {t u:TS} {e:Expr} {te:TE} {pos:Pos}
def Wa:TS:=fun D σ H=>D.nx σ H
def Ce (t u:TS):TS:=fun D σ H=>t {D with nx:=u D} σ H
theorem cF:xJ X [] Wa:=fun _ _ σ H _ I h=>wpAny_execs_nil ⟨σ,H,I,h⟩
theorem aF (h1:PS X st t) (h2:xJ X rest u):xJ X (st::rest) (Ce t u):=by
 intro pins s σ H D I h
 refine wpAny_execs_cons (cT (h1 pins s σ H {D with nx:=u D} I h) fun f s1 q=>?_)
 cases f with
 |next=>
  obtain ⟨σ',H',I',q⟩:=q
  exact h2 pins s1 σ' H' D I' q
 |ret v=>exact q
 |brk=>exact q
 |cont=>exact q
theorem aH (h1:PS X st t):xJ X [st] t:=by
 intro pins s σ H D I h
 refine wpAny_execs_cons (cT (h1 pins s σ H D I h) fun f s1 q=>?_)
 cases f with
 |next=>exact wpAny_execs_nil q
 |ret v=>exact q
 |brk=>exact q
 |cont=>exact q
theorem aP.quiet {pins:List (Addr×Obj)} {σ:St} {H:Hp} {s:Shared} (I:aP X pins σ H s):interactive X.env=false:=by simp [interactive,I.ok.kind]
def zA (te:TE):TS:=fun D σ H=>te σ H fun _ H1=>D.nx σ H1
theorem cD (he:PE X e te) (hs:swapsWith e none pos.line X.env=pure false:=by rfl):PS X (.Expr e pos) (zA te):=by
 intro pins s σ H D I h
 exact wpAny_Expr_any (cT (he pins s σ H _ I h) fun v s1 ⟨x,H1,I1,r1,q1⟩=>⟨σ,H1,I1,q1⟩) I.quiet hs
def Xv (te:TE):TS:=fun D σ H=>te σ H D.rt
theorem aV (he:PE X e te):PS X (.Return (some e) pos) (Xv te):=by
 intro pins s σ H D I h
 exact wpAny_Return_some (cT (he pins s σ H _ I h) fun v s1 ⟨x,H1,I1,r1,q1⟩=>⟨x,σ,H1,I1,r1,q1⟩)
def Wy (c:TT) (t u:TS):TS:=fun D σ H=>c σ H fun b H1=>if b=true then t D σ H1 else u D σ H1
theorem eK {c:Expr} {a b:List Stmt} {tc:TT} (hc:PT X c tc) (ha:xJ X a t) (hb:xJ X b u):PS X (.If c a b pos) (Wy tc t u):=by
 intro pins s σ H D I h
 refine wpAny_If (cT (hc pins s σ H _ I h) fun d s1 ⟨H1,I1,q1⟩=>?_)
 cases d with
 |true=>exact ha pins s1 σ H1 D I1 q1
 |false=>exact hb pins s1 σ H1 D I1 q1
end
abbrev TG:=V->St->Hp->(St->Hp->Prop)->Prop
abbrev Yk:=List V->St->Hp->(St->Hp->Prop)->Prop
def PG (X:Cx) (target:Expr) (t:TG):Prop:=
 ∀ (pins:List (Addr×Obj)) (s:Shared) (σ:St) (H:Hp) (v:V) (u:Value) (Q:St->Hp->Prop),aP X pins σ H s->cA v u->t v σ H Q->
  wpAny (model X.prog X.w) X.A (assign target X.env u) (fun _ s'=>∃ σ' H',aP X pins σ' H' s'/\Q σ' H') X.xe s
def PGs (X:Cx) (ts:List Expr) (t:Yk):Prop:=
 ∀ (pins:List (Addr×Obj)) (s:Shared) (σ:St) (H:Hp) (vs:List V) (us:List Value) (Q:St->Hp->Prop),aP X pins σ H s->bN vs us->t vs σ H Q->
  wpAny (model X.prog X.w) X.A (assignInOrder ((assignEach ts X.env).map (·.2)) us) (fun _ s'=>∃ σ' H',aP X pins σ' H' s'/\Q σ' H') X.xe s
section
variable {X:Cx} {pos:Pos}
def mL (i:Nat):TG:=fun v σ H Q=>Q (σ.set i (some v)) H
theorem bJ {i:Nat} {x:Str} (hN:X.N.Nodup) (hi:X.N[i]?=some x) (hx:Loc X.env.scope x) (hf:X.fn x=true\/X.env.scope.names.lookup x=some .local:=by first|exact .inl rfl|exact .inr rfl|assumption):PG X (.Name x pos) (mL i):=by
 intro pins s σ H v u Q I r h
 exact wpAny_assign_Name (vW I hN hi hx r (fun s' I'=>⟨_,H,I',h⟩) hf)
def aB0:Yk:=fun vs σ H Q=>vs=[]/\Q σ H
def aAy (t:TG) (u:Yk):Yk:=fun vs σ H Q=>∃ v r,vs=v::r/\t v σ H fun σ' H'=>u r σ' H' Q
theorem jB:PGs X [] aB0:=by
 intro pins s σ H vs us Q I r h
 obtain ⟨e,h⟩:=h
 subst e
 cases r
 exact assignInOrder_nil ⟨σ,H,I,h⟩
theorem dG {e:Expr} {es:List Expr} {t:TG} {u:Yk} (h1:PG X e t) (h2:PGs X es u)
  (hs:(assignEach (e::es) X.env).map (·.2)=assign e X.env::(assignEach es X.env).map (·.2):=by rfl):PGs X (e::es) (aAy t u):=by
 intro pins s σ H vs us Q I r h
 obtain ⟨v,vr,e1,h⟩:=h
 subst e1
 cases r with
 |cons r rr=>
  rw [hs]
  refine assignInOrder_cons (cT (h1 pins s σ H _ _ _ I r h) fun _ s1 ⟨σ1,H1,I1,q1⟩=>?_)
  exact h2 pins s1 σ1 H1 _ _ Q I1 rr q1
def aB9 (K:PySem.W.Frag) (n:Nat) (t:Yk):TG:=fun v σ H Q=>∃ a xs,v=.ref a/\cN K H a xs/\xs.length=n/\t xs σ H Q
theorem lX {es:List Expr} {k:Nat} {t:Yk} {n:Nat} (hc:X.calm=true) (h:PGs X es t)
  (hn:(assignEach es X.env).length=n:=by rfl) (hst:(assignEach es X.env).findIdx? (·.1)=none:=by rfl):PG X (.Tuple es k pos) (aB9 X.K n t):=by
 intro pins s σ H v u Q I r hw
 obtain ⟨a,xs,e1,hq,hl,hw⟩:=hw
 subst e1
 cases r
 obtain ⟨its,rv,ht,hz⟩:=I.tuple hq
 refine assign_Tuple_tuple (I.ok.hd hc) ht (by simp [hn,<-hl,rv.length]) hst fun h' hx=>?_
 have I1:aP X pins σ H {s with heap:=h'}:=I.kept (t':=s.toks) fun b o e=>hx b o (Nat.ne_of_lt (Heap.lt_size e)) e
 exact h pins _ σ H xs _ Q I1 (by simpa using rv) hw
def Ef (te:TE) (g:TG):TS:=fun D σ H=>te σ H fun x H1=>g x σ H1 D.nx
theorem bI {i:Nat} {x:Str} {e:Expr} {te:TE} {pos':Pos} (hN:X.N.Nodup) (hi:X.N[i]?=some x) (hx:Loc X.env.scope x) (he:PE X e te) (hs:swapsWith e (some (.Name x pos')) pos.line X.env=pure false:=by rfl) (hf:X.fn x=true\/X.env.scope.names.lookup x=some .local:=by first|exact .inl rfl|exact .inr rfl|assumption):
  PS X (.Assign [.Name x pos'] e pos) (Ef te (mL i)):=by
 intro pins s σ H D I h
 refine wpAny_Assign_Name (cT (he pins s σ H _ I h) fun v s1 ⟨y,H1,I1,r1,q1⟩=>?_) hs
 exact vW I1 hN hi hx r1 (fun s2 I2=>⟨_,H1,I2,q1⟩) hf
end
section
variable {X:Cx} {pos:Pos}
def Ye (c:TT) (tb:TS):TS:=fun D σ H=>∃ W:Nat->St->Hp->Prop,(∃ m,W m σ H)/\∀ m σ H,W m σ H->
 c σ H fun b H1=>if b=true then ∃ N:St->Hp->Prop,(∀ σ' H',N σ' H'->∃ m',m'<m/\W m' σ' H')/\tb {D with nx:=N,ct:=N,bk:=D.nx} σ H1 else D.nx σ H1
theorem jW {c:Expr} {body:List Stmt} {tc:TT} {tb:TS} (hp:PassesOwn (model X.prog X.w) X.A X.env X.xe) (hc:PT X c tc) (hb:xJ X body tb):PS X (.While c body [] pos) (Ye tc tb):=by
 intro pins s σ H D I h
 obtain ⟨W,⟨m0,w0⟩,turn⟩:=h
 refine wpAny_While (codeAny_whileLoop (fun n s'=>∃ σ' H',aP X pins σ' H' s'/\W n σ' H') ?_ m0 ⟨σ,H,I,w0⟩)
 rintro n s1 ⟨σ1,H1,I1,w1⟩
 refine wpAny_passesOwn hp (cT (hc pins s1 σ1 H1 _ I1 (turn n σ1 H1 w1)) fun b s2 ⟨H2,I2,q2⟩=>?_)
 cases b with
 |true=>
  obtain ⟨N,hN,q2⟩:=q2
  rw [if_pos rfl]
  refine wpAny_passesOwn hp (cT (hb pins s2 σ1 H2 _ I2 q2) fun f s3 q3=>?_)
  cases f with
  |next=>
   obtain ⟨σ3,H3,I3,n3⟩:=q3
   obtain ⟨m',hm,w3⟩:=hN σ3 H3 n3
   exact ⟨m',hm,σ3,H3,I3,w3⟩
  |cont=>
   obtain ⟨σ3,H3,I3,n3⟩:=q3
   obtain ⟨m',hm,w3⟩:=hN σ3 H3 n3
   exact ⟨m',hm,σ3,H3,I3,w3⟩
  |brk=>exact q3
  |ret v=>exact q3
 |false=>
  rw [if_neg Bool.false_ne_true]
  exact wpAny_execs_nil ⟨σ1,H2,I2,q2⟩
end
structure It where
 go:Nat->Hp->Prop
 yld:Nat->Hp->V->Hp->Prop
 stop:Nat->Hp->Prop
def sY (X:Cx) (pins:List (Addr×Obj)) (H:Hp) (b:Addr):Prop:=
 H b=none/\b≠X.env.locals/\b∉X.fs/\(b∈X.ex\/X.s_0.heap.objs.size<=b)/\(∀ x c,X.env.cells.lookup x=some c->c≠b)/\∀ p∈X.pn++pins,p.1≠b
theorem aP.fpOk {X:Cx} {pins:List (Addr×Obj)} {σ:St} {H H':Hp} {s:Shared} {b:Addr} (I:aP X pins σ H s) (hb:s.heap.objs.size<=b) (hn:H' b=none):sY X pins H' b:=by
 refine ⟨hn,Nat.ne_of_gt (Nat.lt_of_lt_of_le I.lt hb),I.nofs hb,.inr (Nat.le_trans I.sz hb),fun x c e z=>?_,fun p hp z=>?_⟩
 ·obtain ⟨v,q⟩:=I.cell x c e
  exact absurd (Nat.lt_of_lt_of_le q.lt (by rw [z];exact hb)) (Nat.lt_irrefl _)
 ·exact absurd (Nat.lt_of_lt_of_le (Heap.lt_size (I.pin p hp).1) (by rw [z];exact hb)) (Nat.lt_irrefl _)
structure vD (P:Program) (w:World) (K:PySem.W.Frag) (tg:Expr) (J:It) (fp:List Addr) (it:Addr) (tn:Nat->Heap->Prop):Prop where
 mem:it∈fp
 obj:∀ i h,tn i h->∀ b∈fp,∃ o,h.get? b=some o/\∀ v,o.data≠.cell v
 keep:∀ i h h',tn i h->(∀ b∈fp,∀ o,h.get? b=some o->h'.get? b=some o)->tn i h'
 item:∀ (X:Cx),X.prog=P->X.w=w->X.K=K->X.calm=true->∀ (i:Nat) (pins:List (Addr×Obj)) (s:Shared) (σ:St) (H:Hp) (E:Value->Shared->Prop),aP X pins σ H s->(∀ b∈fp,sY X pins H b)->tn i s.heap->J.go i H->
  wpAny (model P w) X.A (pyNext (.ref it)) (fun r s1=>∃ u,r=some u/\
   wpAny (model P w) X.A (letOwnedTupleGo tg (.ref it) u) (fun _ s2=>∃ x H',aP X pins σ H' s2/\cA x u/\J.yld i H x H'/\tn (i+1) s2.heap/\∀ b∈fp,H' b=none) E s1) E s
 done:∀ (X:Cx),X.prog=P->X.w=w->X.K=K->X.calm=true->∀ (i:Nat) (pins:List (Addr×Obj)) (s:Shared) (σ:St) (H:Hp) (E:Value->Shared->Prop),aP X pins σ H s->(∀ b∈fp,sY X pins H b)->tn i s.heap->J.stop i H->
  wpAny (model P w) X.A (pyNext (.ref it)) (fun r s1=>r=none/\aP X pins σ H s1) E s
 self:∀ (A:Around) (i:Nat) (s:Shared) (Q:Value->Shared->Prop) (E:Value->Shared->Prop),tn i s.heap->Q (.ref it) s->wpAny (model P w) A (pyIter (.ref it)) Q E s
abbrev TI:=St->Hp->(It->Hp->Prop)->Prop
def Zk (X:Cx) (pins:List (Addr×Obj)) (σ:St) (tg:Expr) (R:It->Hp->Prop) (itv:Value) (s2:Shared):Prop:=
 ∃ (it:Addr) (fp:List Addr) (tn:Nat->Heap->Prop) (J:It) (H':Hp),itv=.ref it/\aP X pins σ H' s2/\vD X.prog X.w X.K tg J fp it tn/\tn 0 s2.heap/\(∀ b∈fp,sY X pins H' b)/\R J H'
def PI (X:Cx) (tg iter:Expr) (wi:TI):Prop:=
 ∀ (pins:List (Addr×Obj)) (s:Shared) (σ:St) (H:Hp) (R:It->Hp->Prop),aP X pins σ H s->wi σ H R->
  wpAny (model X.prog X.w) X.A (eval iter X.env) (fun v s1=>wpAny (model X.prog X.w) X.A (pyIter v) (Zk X pins σ tg R) X.xe s1) X.xe s
theorem yX {M:Model} {A:Around} {E:Value->Shared->Prop} {s:Shared} {tg:Expr} {it:Addr} {u:Value} {o:Obj} {n:String} {vs:Array Value} {Q:Unit->Shared->Prop} (ho:s.heap.get? it=some o) (hc:o.cls=.type n) (hd:o.data=.fields vs)
  (hn:["enumerate","zip","dict_itemiterator","dict_reverseitemiterator","odict_iterator","itertools.zip_longest","itertools.pairwise"].contains n=false) (hQ:Q () s):wpAny M A (letOwnedTupleGo tg (.ref it) u) Q E s:=by
 unfold letOwnedTupleGo
 cases tg<;>first
  |exact wpAny_pure hQ
  |(cases u<;>first
    |exact wpAny_pure hQ
    |(refine wpAny_bind (wpAny_load ho ?_)
      rw [hc,hd]
      show wpAny M A (if (["enumerate","zip","dict_itemiterator","dict_reverseitemiterator","odict_iterator","itertools.zip_longest","itertools.pairwise"].contains n && vs[0]?==some (rawInt _))=true then _ else _) Q E s
      rw [if_neg (by intro h;rw [hn,Bool.false_and] at h;cases h)]
      exact wpAny_pure hQ))
def Wc (K:PySem.W.Frag) (a:Addr):It:=
 ⟨fun i H=>∃ xs x,dE K H a xs/\xs[i]?=some x,fun i H x H'=>H'=H/\∀ xs,dE K H a xs->xs[i]?=some x,fun i H=>∃ xs,dE K H a xs/\xs.length<=i⟩
def Itt (K:PySem.W.Frag) (a:Addr):It:=
 ⟨fun i H=>∃ xs x,cN K H a xs/\xs[i]?=some x,fun i H x H'=>H'=H/\∀ xs,cN K H a xs->xs[i]?=some x,fun i H=>∃ xs,cN K H a xs/\xs.length<=i⟩
def Rv (lo:Int) (n:Nat):It:=⟨fun i _=>i<n,fun i H x H'=>H'=H/\x=.int (lo+i),fun i _=>n<=i⟩
theorem Lv {P:Program} {w:World} {K:PySem.W.Frag} {tg:Expr} (a it:Addr):vD P w K tg (Wc K a) [it] it (fun i h=>h.IsListIter it a i) where
 mem:=by simp
 obj:=fun i h st b hb=>by
  have e:b=it:=by simpa using hb
  subst e
  obtain ⟨o,e,c,d⟩:=st
  exact ⟨o,e,fun v z=>by rw [d] at z;cases z⟩
 keep:=fun i h h' st k=>st.at fun o e=>k it (by simp) o e
 item:=by
  intro X hP hw hK hc i pins s σ H E I hf st hg
  subst hP hw hK
  obtain ⟨xs,x,hq,hx⟩:=hg
  obtain ⟨its,rv,p,hz⟩:=I.list hq
  obtain ⟨u,hu,ru⟩:=rv.get hx
  obtain ⟨f0,f1,f2,f3,f4,f5⟩:=hf it (by simp)
  refine wpAny_pyNext_list_item st p.isList (x:=u) (by simpa using hu) fun h' st' sb=>?_
  have I1:aP X pins σ H {s with heap:=h'}:=I.turned (t':=s.toks) (fun b o hb e=>(sb.2 b hb).trans e) f0 f1 f3 f4 f5
  obtain ⟨o,e,c,d⟩:=id st'
  exact ⟨u,rfl,yX (s:={s with heap:=h'}) e c d (by decide) ⟨x,H,I1,ru,⟨rfl,fun ys hy=>by rw [I.list_inj hy hq];exact hx⟩,st',fun b hb=>(hf b hb).1⟩⟩
 done:=by
  intro X hP hw hK hc i pins s σ H E I hf st hg
  subst hP hw hK
  obtain ⟨xs,hq,hx⟩:=hg
  obtain ⟨its,rv,p,hz⟩:=I.list hq
  obtain ⟨f0,f1,f2,f3,f4,f5⟩:=hf it (by simp)
  have hl:=rv.length
  exact wpAny_pyNext_list_end (I.ok.hd hc) st p.isList (by simp;omega) fun h' eb=>⟨rfl,I.turned (t':=s.toks) (fun b o hb e=>eb b o hb e) f0 f1 f3 f4 f5⟩
 self:=fun _ _ _ _ _ st h=>wpAny_pyIter_listiter st h
theorem Ff {P:Program} {w:World} {K:PySem.W.Frag} {tg:Expr} (a it:Addr):vD P w K tg (Itt K a) [it] it (fun i h=>h.IsTupleIter it a i) where
 mem:=by simp
 obj:=fun i h st b hb=>by
  have e:b=it:=by simpa using hb
  subst e
  obtain ⟨o,e,c,d⟩:=st
  exact ⟨o,e,fun v z=>by rw [d] at z;cases z⟩
 keep:=fun i h h' st k=>st.at fun o e=>k it (by simp) o e
 item:=by
  intro X hP hw hK hc i pins s σ H E I hf st hg
  subst hP hw hK
  obtain ⟨xs,x,hq,hx⟩:=hg
  obtain ⟨its,rv,p,hz⟩:=I.tuple hq
  obtain ⟨u,hu,ru⟩:=rv.get hx
  obtain ⟨f0,f1,f2,f3,f4,f5⟩:=hf it (by simp)
  refine wpAny_pyNext_tuple_item st (show s.heap.IsTuple a its.toArray from p) (x:=u) (by simpa using hu) fun h' st' sb=>?_
  have I1:aP X pins σ H {s with heap:=h'}:=I.turned (t':=s.toks) (fun b o hb e=>(sb.2 b hb).trans e) f0 f1 f3 f4 f5
  obtain ⟨o,e,c,d⟩:=id st'
  exact ⟨u,rfl,yX (s:={s with heap:=h'}) e c d (by decide) ⟨x,H,I1,ru,⟨rfl,fun ys hy=>by rw [I.tuple_inj hy hq];exact hx⟩,st',fun b hb=>(hf b hb).1⟩⟩
 done:=by
  intro X hP hw hK hc i pins s σ H E I hf st hg
  subst hP hw hK
  obtain ⟨xs,hq,hx⟩:=hg
  obtain ⟨its,rv,p,hz⟩:=I.tuple hq
  obtain ⟨f0,f1,f2,f3,f4,f5⟩:=hf it (by simp)
  have hl:=rv.length
  exact wpAny_pyNext_tuple_end (I.ok.hd hc) st (show s.heap.IsTuple a its.toArray from p) (by simp;omega) fun h' eb=>⟨rfl,I.turned (t':=s.toks) (fun b o hb e=>eb b o hb e) f0 f1 f3 f4 f5⟩
 self:=fun _ _ _ _ _ st h=>wpAny_pyIter_tupleiter st h
theorem Gy {P:Program} {w:World} {K:PySem.W.Frag} {tg:Expr} (it:Addr) (lo:Int) (n:Nat):vD P w K tg (Rv lo n) [it] it (fun i h=>IsRangeIter h it (lo+(i:Nat) * 1) ((n:Int) - (i:Nat)) 1) where
 mem:=by simp
 obj:=fun i h st b hb=>by
  have e:b=it:=by simpa using hb
  subst e
  exact ⟨_,st,fun v z=>by
   have z':Data.fields _=Data.cell v:=z
   cases z'⟩
 keep:=fun i h h' st k=>k it (by simp) _ st
 item:=by
  intro X hP hw hK hc i pins s σ H E I hf st hg
  subst hP hw hK
  obtain ⟨f0,f1,f2,f3,f4,f5⟩:=hf it (by simp)
  have W:=Walks.range (prog:=X.prog) (w:=X.w) (I.ok.hd hc) it lo 1 n
  refine W.item i s _ _ hg st fun v h' tk hv st' kk=>?_
  obtain ⟨t,rfl⟩:=hv
  have I1:aP X pins σ H {s with heap:=h',toks:=tk}:=I.turned (fun b o hb e=>kk b o (by simpa using hb) e) f0 f1 f3 f4 f5
  refine ⟨_,rfl,yX (s:={s with heap:=h',toks:=tk}) (n:="range_iterator") st' rfl rfl (by decide) ⟨.int (lo+i),H,I1,⟨t,?_⟩,⟨rfl,rfl⟩,st',fun b hb=>(hf b hb).1⟩⟩
  rw [Int.mul_one]
 done:=by
  intro X hP hw hK hc i pins s σ H E I hf st hg
  subst hP hw hK
  obtain ⟨f0,f1,f2,f3,f4,f5⟩:=hf it (by simp)
  exact wpAny_pyNext_range_end (I.ok.hd hc) st (by have:n<=i:=hg;omega) fun h' eb=>⟨rfl,I.turned (t':=s.toks) (fun b o hb e=>eb b o hb e) f0 f1 f3 f4 f5⟩
 self:=fun _ _ _ _ _ st h=>wpAny_pyIter_rangeiter st h
section
variable {X:Cx} {tg:Expr}
def aA7 (K:PySem.W.Frag) (tl:TE):TI:=fun σ H R=>tl σ H fun x H1=>∃ a,x=.ref a/\(∃ xs,dE K H1 a xs)/\R (Wc K a) H1
def aCk (K:PySem.W.Frag) (tl:TE):TI:=fun σ H R=>tl σ H fun x H1=>∃ a,x=.ref a/\(∃ xs,cN K H1 a xs)/\R (Itt K a) H1
theorem kY {l:Expr} {tl:TE} (hl:PE X l tl):PI X tg l (aA7 X.K tl):=by
 intro pins s σ H R I h
 refine cT (hl pins s σ H _ I h) fun v s1 ⟨x,H1,I1,r1,q1⟩=>?_
 obtain ⟨a,e,⟨xs,hq⟩,q⟩:=q1
 subst e
 cases r1
 obtain ⟨its,rv,p,hz⟩:=I1.list hq
 refine wpAny_pyIter_list p.isList ?_
 refine ⟨s1.heap.objs.size,[s1.heap.objs.size],_,_,H1,rfl,I1.kept (t':=s1.toks) fun b o e=>Heap.get?_push_of_some _ e,Lv a _,⟨_,Heap.get?_push_size _ rfl,rfl,rfl⟩,fun b hb=>?_,q⟩
 have e:b=s1.heap.objs.size:=by simpa using hb
 subst e
 exact I1.fpOk (Nat.le_refl _) (I1.hok.fresh (Nat.le_refl _))
theorem Nh {l:Expr} {tl:TE} (hl:PE X l tl):PI X tg l (aCk X.K tl):=by
 intro pins s σ H R I h
 refine cT (hl pins s σ H _ I h) fun v s1 ⟨x,H1,I1,r1,q1⟩=>?_
 obtain ⟨a,e,⟨xs,hq⟩,q⟩:=q1
 subst e
 cases r1
 obtain ⟨its,rv,p,hz⟩:=I1.tuple hq
 refine wpAny_pyIter_tuple (show s1.heap.IsTuple a its.toArray from p) ?_
 refine ⟨s1.heap.objs.size,[s1.heap.objs.size],_,_,H1,rfl,I1.kept (t':=s1.toks) fun b o e=>Heap.get?_push_of_some _ e,Ff a _,⟨_,Heap.get?_push_size _ rfl,rfl,rfl⟩,fun b hb=>?_,q⟩
 have e:b=s1.heap.objs.size:=by simpa using hb
 subst e
 exact I1.fpOk (Nat.le_refl _) (I1.hok.fresh (Nat.le_refl _))
theorem Cr {pins:List (Addr×Obj)} {σ:St} {H:Hp} {s:Shared} {R:It->Hp->Prop} {E:Value->Shared->Prop} {lo hi:Int} {t u v:Tok} {tk:Nat} (I:aP X pins σ H s) (h1: -(2 ^ 62)<=lo) (h2:lo<2 ^ 62) (h3: -(2 ^ 62)<=hi) (h4:hi<2 ^ 62)
  (q:R (Rv lo (hi - lo).toNat) H):wpAny (model X.prog X.w) X.A (pyIter (.ref s.heap.objs.size)) (Zk X pins σ tg R) E {s with heap:=s.heap.push {cls:=.type "range",data:=.fields #[.int lo t,.int hi u,.int 1 v]},toks:=tk}:=by
 refine wpAny_pyIter_range (IsRange.new ..) (small_one h1 h2 h3 h4) ?_
 have I1:aP X pins σ H {s with heap:=s.heap.push {cls:=.type "range",data:=.fields #[.int lo t,.int hi u,.int 1 v]},toks:=tk}:=I.kept fun b o e=>Heap.get?_push_of_some _ e
 refine ⟨(s.heap.push {cls:=.type "range",data:=.fields #[.int lo t,.int hi u,.int 1 v]}).objs.size,[(s.heap.push {cls:=.type "range",data:=.fields #[.int lo t,.int hi u,.int 1 v]}).objs.size],_,_,H,rfl,
  I1.kept (t':=tk) fun b o e=>Heap.get?_push_of_some _ e,Gy _ lo (hi - lo).toNat,?_,fun b hb=>?_,q⟩
 ·have e1:lo+((0:Nat):Int) * 1=lo:=by simp
  have e2:(((hi - lo).toNat:Nat):Int) - ((0:Nat):Int)=Builtin.Range.rangeSize lo hi 1:=by rw [rangeSize_one];split<;>omega
  show IsRangeIter _ _ (lo+((0:Nat):Int) * 1) ((((hi - lo).toNat:Nat):Int) - ((0:Nat):Int)) 1
  rw [e1,e2]
  exact Heap.get?_push_size _ rfl
 ·have e:b=(s.heap.push {cls:=.type "range",data:=.fields #[.int lo t,.int hi u,.int 1 v]}).objs.size:=by simpa using hb
  subst e
  exact I1.fpOk (Nat.le_refl _) (I1.hok.fresh (Nat.le_refl _))
def aAq (ta:TA):TI:=fun σ H R=>ta σ H fun vs H1=>∃ j:Int,vs=[.int j]/\ -(2 ^ 62)<=j/\j<2 ^ 62/\R (Rv 0 j.toNat) H1
def aAz (ta:TA):TI:=fun σ H R=>ta σ H fun vs H1=>∃ i j:Int,vs=[.int i,.int j]/\(-(2 ^ 62)<=i/\i<2 ^ 62/\ -(2 ^ 62)<=j/\j<2 ^ 62)/\R (Rv i (j - i).toNat) H1
theorem nE {a:Expr} {ta:TA} {p pos:Pos} (hg:Gl X "range") (hm:X.mg "range"=none) (ha:PA X [a] ta) (hs:starEach [a] X.env=[(false,eval a X.env)]:=by rfl):PI X tg (.Call (.Name "range" p) [a] [] pos) (aAq ta):=by
 intro pins s σ H R I h
 refine Call_ (qU I hg hm boot_range (PyProof.Rows.callWith_type1 (cT (ha pos pins s σ H _ I h) fun us s1 ⟨vs,H1,I1,r1,q1⟩=>?_) hs rfl))
 obtain ⟨j,e,q1,q2,q⟩:=q1
 subst e
 cases r1 with
 |cons r rr=>
  cases rr
  obtain ⟨t,rfl⟩:=r
  exact call_range_1 (Cr I1 (by omega) (by omega) q1 q2 (by simpa using q))
theorem Mq {a b:Expr} {ta:TA} {p pos:Pos} (hg:Gl X "range") (hm:X.mg "range"=none) (ha:PA X [a,b] ta) (hs:starEach [a,b] X.env=[(false,eval a X.env),(false,eval b X.env)]:=by rfl) (hs2:starEach [b] X.env=[(false,eval b X.env)]:=by rfl):
  PI X tg (.Call (.Name "range" p) [a,b] [] pos) (aAz ta):=by
 intro pins s σ H R I h
 refine Call_ (qU I hg hm boot_range (PyProof.Rows.callWith_type1 (cT (ha pos pins s σ H _ I h) fun us s1 ⟨vs,H1,I1,r1,q1⟩=>?_) (by rw [hs,hs2]) (by rw [hs2];rfl)))
 obtain ⟨i,j,e,⟨q1,q2,q3,q4⟩,q⟩:=q1
 subst e
 cases r1 with
 |cons r rr=>
  cases rr with
  |cons r' rr=>
   cases rr
   obtain ⟨t,rfl⟩:=r
   obtain ⟨t',rfl⟩:=r'
   exact call_range_2 (Cr I1 q1 q2 q3 q4 q)
def aBw (wi:TI) (g:TG) (tb:TS):TS:=fun D σ H=>wi σ H fun J H1=>∃ W:Nat->Nat->St->Hp->Prop,(∃ m,W 0 m σ H1)/\∀ i m σ H,W i m σ H->
 (J.stop i H/\D.nx σ H)\/(J.go i H/\∃ N:St->Hp->Prop,(∀ σ' H',N σ' H'->∃ m',m'<m/\W (i+1) m' σ' H')/\∀ x H',J.yld i H x H'->g x σ H' fun σ2 H2=>tb {D with nx:=N,ct:=N,bk:=D.nx} σ2 H2)
def rM (fp:List Addr) (h:Heap):List (Addr×Obj):=fp.filterMap fun b=>(h.get? b).map fun o=>(b,o)
theorem iL {fp:List Addr} {h:Heap} {b:Addr} {o:Obj} (hb:b∈fp) (e:h.get? b=some o):(b,o)∈rM fp h:=List.mem_filterMap.mpr ⟨b,hb,by rw [e];rfl⟩
theorem Mx {fp:List Addr} {h:Heap} {p:Addr×Obj} (hp:p∈rM fp h):p.1∈fp/\h.get? p.1=some p.2:=by
 obtain ⟨b,hb,e⟩:=List.mem_filterMap.mp hp
 cases q:h.get? b with
 |none=>rw [q] at e;cases e
 |some o=>
  rw [q] at e
  have e':(b,o)=p:=Option.some.inj e
  subst e'
  exact ⟨hb,q⟩
theorem aP.pinned {pins:List (Addr×Obj)} {σ:St} {H:Hp} {s:Shared} {fp:List Addr} (I:aP X pins σ H s) (hf:∀ b∈fp,sY X pins H b) (ho:∀ b∈fp,∃ o,s.heap.get? b=some o/\∀ v,o.data≠.cell v):aP X (pins++rM fp s.heap) σ H s:=
 I.pins_of fun p hp=>(List.mem_append.mp hp).elim (fun z=>I.pin p (List.mem_append_right _ z)) fun z=>by
  obtain ⟨hb,e⟩:=Mx z
  obtain ⟨f0,f1,f2,_⟩:=hf p.1 hb
  obtain ⟨o,e',d⟩:=ho p.1 hb
  rw [e] at e';cases e'
  exact ⟨e,f0,f1,f2,d⟩
theorem aP.unpinned {pins pl:List (Addr×Obj)} {σ:St} {H:Hp} {s:Shared} (I:aP X (pins++pl) σ H s):aP X pins σ H s:=I.pins_of fun p hp=>I.pin p (List.mem_append_right _ (List.mem_append_left _ hp))
theorem eU {iter:Expr} {body:List Stmt} {wi:TI} {g:TG} {tb:TS} {pos:Pos} (hp:PassesOwn (model X.prog X.w) X.A X.env X.xe) (hc:X.calm=true) (hi:PI X tg iter wi) (hg:PG X tg g) (hb:xJ X body tb)
  (hs:∀ x,foldedSetIterable iter X.env x=pure x:=by intro _;rfl):PS X (.For tg iter body [] pos) (aBw wi g tb):=by
 intro pins s σ H D I h
 refine wpAny_For (cT (hi pins s σ H _ I h) fun v s1 h1=>cT h1 fun itv s2 h2=>?_) hs
 obtain ⟨it,fp,tn,J,H2,e,I2,T,st2,f2,W,⟨m0,w0⟩,turn⟩:=h2
 subst e
 have stat:∀ {H':Hp},(∀ b∈fp,H' b=none)->∀ b∈fp,sY X pins H' b:=fun hn b hb=>⟨hn b hb,(f2 b hb).2⟩
 refine codeAny_forLoop_any (fun n s'=>∃ i σ' H',aP X pins σ' H' s'/\tn i s'.heap/\(∀ b∈fp,H' b=none)/\W i n σ' H') ?_ m0 ⟨0,σ,H2,I2,st2,fun b hb=>(f2 b hb).1,w0⟩
 rintro n s3 ⟨i,σ3,H3,I3,st3,fr3,w3⟩
 rcases turn i n σ3 H3 w3 with ⟨stop,qn⟩|⟨go,N,hN,step⟩
 ·refine wpAny_passesOwn hp (cT (T.done X rfl rfl rfl hc i pins s3 σ3 H3 X.xe I3 (stat fr3) st3 stop) fun r s4 ⟨hr,I4⟩=>?_)
  subst hr
  exact wpAny_execs_nil ⟨σ3,H3,I4,qn⟩
 ·refine wpAny_passesOwn hp (cT (T.item X rfl rfl rfl hc i pins s3 σ3 H3 X.xe I3 (stat fr3) st3 go) fun r s4 ⟨u,hr,h4⟩=>?_)
  subst hr
  refine wpAny_passesOwn hp (cT h4 fun _ s5 ⟨x,H5,I5,r5,y5,st5,fr5⟩=>?_)
  have I5':=I5.pinned (stat fr5) (T.obj _ _ st5)
  refine wpAny_passesOwn hp (cT (hg _ s5 σ3 H5 x u _ I5' r5 (step x H5 y5)) fun _ s6 ⟨σ6,H6,I6,q6⟩=>?_)
  refine wpAny_passesOwn hp (cT (hb _ s6 σ6 H6 _ I6 q6) fun f s7 q7=>?_)
  have again:∀ {σ7:St} {H7:Hp},aP X (pins++rM fp s5.heap) σ7 H7 s7->N σ7 H7->∃ m,m<n/\∃ i σ' H',aP X pins σ' H' s7/\tn i s7.heap/\(∀ b∈fp,H' b=none)/\W i m σ' H':=fun {σ7 H7} I7 n7=>by
   obtain ⟨m',hm,w7⟩:=hN σ7 H7 n7
   refine ⟨m',hm,i+1,σ7,H7,I7.unpinned,T.keep _ _ _ st5 fun b hb o e=>(I7.pin (b,o) (List.mem_append_right _ (List.mem_append_right _ (iL hb e)))).1,fun b hb=>?_,w7⟩
   obtain ⟨o,e,d⟩:=T.obj _ _ st5 b hb
   exact (I7.pin (b,o) (List.mem_append_right _ (List.mem_append_right _ (iL hb e)))).2.1
  cases f with
  |next=>obtain ⟨σ7,H7,I7,n7⟩:=q7;exact again I7 n7
  |cont=>obtain ⟨σ7,H7,I7,n7⟩:=q7;exact again I7 n7
  |brk=>obtain ⟨σ7,H7,I7,q7⟩:=q7;exact ⟨σ7,H7,I7.unpinned,q7⟩
  |ret v=>obtain ⟨x7,σ7,H7,I7,r7,q7⟩:=q7;exact ⟨x7,σ7,H7,I7.unpinned,r7,q7⟩
end
theorem Bv {K:PySem.W.Frag} {a:Addr} {xs:List V} {g:TG} {tb:TS} {D:fZ} {σ:St} {H:Hp} (Pv:Nat->St->Hp->Prop) (h0:Pv 0 σ H) (hl:∀ i σ H,i<=xs.length->Pv i σ H->dE K H a xs)
  (hs:∀ i x σ H,xs[i]?=some x->Pv i σ H->g x σ H fun σ2 H2=>tb {D with nx:=Pv (i+1),ct:=Pv (i+1),bk:=D.nx} σ2 H2) (hd:∀ σ H,Pv xs.length σ H->D.nx σ H):
  ∃ W:Nat->Nat->St->Hp->Prop,(∃ m,W 0 m σ H)/\∀ i m σ H,W i m σ H->
   ((Wc K a).stop i H/\D.nx σ H)\/((Wc K a).go i H/\∃ N:St->Hp->Prop,(∀ σ' H',N σ' H'->∃ m',m'<m/\W (i+1) m' σ' H')/\∀ x H',(Wc K a).yld i H x H'->g x σ H' fun σ2 H2=>tb {D with nx:=N,ct:=N,bk:=D.nx} σ2 H2):=by
 refine ⟨fun i m σ H=>m=xs.length - i/\i<=xs.length/\Pv i σ H,⟨xs.length,by simp,Nat.zero_le _,h0⟩,?_⟩
 rintro i m σ H ⟨rfl,hi,p⟩
 have q:=hl i σ H hi p
 by_cases hlt:i<xs.length
 ·refine .inr ⟨⟨xs,xs[i],q,by simp [hlt]⟩,Pv (i+1),fun σ' H' p'=>⟨xs.length - (i+1),by omega,rfl,hlt,p'⟩,fun x H' y=>?_⟩
  obtain ⟨e,y⟩:=y
  subst e
  exact hs i x σ _ (y xs q) p
 ·have e:i=xs.length:=by omega
  subst e
  exact .inl ⟨⟨xs,q,Nat.le_refl _⟩,hd σ H p⟩
theorem Jg {K:PySem.W.Frag} {a:Addr} {xs:List V} {g:TG} {tb:TS} {D:fZ} {σ:St} {H:Hp} (Pv:Nat->St->Hp->Prop) (h0:Pv 0 σ H) (hl:∀ i σ H,i<=xs.length->Pv i σ H->cN K H a xs)
  (hs:∀ i x σ H,xs[i]?=some x->Pv i σ H->g x σ H fun σ2 H2=>tb {D with nx:=Pv (i+1),ct:=Pv (i+1),bk:=D.nx} σ2 H2) (hd:∀ σ H,Pv xs.length σ H->D.nx σ H):
  ∃ W:Nat->Nat->St->Hp->Prop,(∃ m,W 0 m σ H)/\∀ i m σ H,W i m σ H->
   ((Itt K a).stop i H/\D.nx σ H)\/((Itt K a).go i H/\∃ N:St->Hp->Prop,(∀ σ' H',N σ' H'->∃ m',m'<m/\W (i+1) m' σ' H')/\∀ x H',(Itt K a).yld i H x H'->g x σ H' fun σ2 H2=>tb {D with nx:=N,ct:=N,bk:=D.nx} σ2 H2):=by
 refine ⟨fun i m σ H=>m=xs.length - i/\i<=xs.length/\Pv i σ H,⟨xs.length,by simp,Nat.zero_le _,h0⟩,?_⟩
 rintro i m σ H ⟨rfl,hi,p⟩
 have q:=hl i σ H hi p
 by_cases hlt:i<xs.length
 ·refine .inr ⟨⟨xs,xs[i],q,by simp [hlt]⟩,Pv (i+1),fun σ' H' p'=>⟨xs.length - (i+1),by omega,rfl,hlt,p'⟩,fun x H' y=>?_⟩
  obtain ⟨e,y⟩:=y
  subst e
  exact hs i x σ _ (y xs q) p
 ·have e:i=xs.length:=by omega
  subst e
  exact .inl ⟨⟨xs,q,Nat.le_refl _⟩,hd σ H p⟩
theorem xV {lo:Int} {n:Nat} {g:TG} {tb:TS} {D:fZ} {σ:St} {H:Hp} (Pv:Nat->St->Hp->Prop) (h0:Pv 0 σ H)
  (hs:∀ i σ H,i<n->Pv i σ H->g (.int (lo+i)) σ H fun σ2 H2=>tb {D with nx:=Pv (i+1),ct:=Pv (i+1),bk:=D.nx} σ2 H2) (hd:∀ σ H,Pv n σ H->D.nx σ H):
  ∃ W:Nat->Nat->St->Hp->Prop,(∃ m,W 0 m σ H)/\∀ i m σ H,W i m σ H->
   ((Rv lo n).stop i H/\D.nx σ H)\/((Rv lo n).go i H/\∃ N:St->Hp->Prop,(∀ σ' H',N σ' H'->∃ m',m'<m/\W (i+1) m' σ' H')/\∀ x H',(Rv lo n).yld i H x H'->g x σ H' fun σ2 H2=>tb {D with nx:=N,ct:=N,bk:=D.nx} σ2 H2):=by
 refine ⟨fun i m σ H=>m=n - i/\i<=n/\Pv i σ H,⟨n,by simp,Nat.zero_le _,h0⟩,?_⟩
 rintro i m σ H ⟨rfl,hi,p⟩
 by_cases hlt:i<n
 ·refine .inr ⟨hlt,Pv (i+1),fun σ' H' p'=>⟨n - (i+1),by omega,rfl,hlt,p'⟩,fun x H' y=>?_⟩
  obtain ⟨e,y⟩:=y
  subst e y
  exact hs i σ _ hlt p
 ·have e:i=n:=by omega
  subst e
  exact .inl ⟨Nat.le_refl _,hd σ H p⟩
abbrev R2:=V->V->Hp->VK->Prop
def tD (X:Cx) (f:Value->Value->Sem Value) (r:R2):Prop:=
 ∀ (pins:List (Addr×Obj)) (s:Shared) (σ:St) (H:Hp) (x y:V) (v u:Value) (Q:VK),aP X pins σ H s->cA x v->cA y u->r x y H Q->
  wpAny (model X.prog X.w) X.A (f v u) (EP X pins σ Q) X.xe s
def UnR (X:Cx) (f:Value->Sem Value) (r:V->Hp->VK->Prop):Prop:=
 ∀ (pins:List (Addr×Obj)) (s:Shared) (σ:St) (H:Hp) (x:V) (v:Value) (Q:VK),aP X pins σ H s->cA x v->r x H Q->
  wpAny (model X.prog X.w) X.A (f v) (EP X pins σ Q) X.xe s
def mR (X:Cx) (f:Value) (r:List V->Hp->VK->Prop):Prop:=
 ∀ (pins:List (Addr×Obj)) (s:Shared) (σ:St) (H:Hp) (xs:List V) (us:List Value) (Q:VK),aP X pins σ H s->bN xs us->r xs H Q->
  wpAny (model X.prog X.w) X.A (call f us) (EP X pins σ Q) X.xe s
def Fa (r:R2) (ta tb:TE):TE:=fun σ H Q=>ta σ H fun x H1=>tb σ H1 fun y H2=>r x y H2 Q
def tUn (r:V->Hp->VK->Prop) (ta:TE):TE:=fun σ H Q=>ta σ H fun x H1=>r x H1 Q
def rI (C:Int->Int->Prop) (g:Int->Int->V):R2:=fun x y H Q=>∃ i j,x=.int i/\y=.int j/\C i j/\Q (g i j) H
def Pw (g:Int->Int->V):R2:=fun x y H Q=>∃ i j,x=.int i/\y=.int j/\Q (g i j) H
def rU (g:Int->V):V->Hp->VK->Prop:=fun x H Q=>∃ i,x=.int i/\Q (g i) H
section
variable {X:Cx} {a b c:Expr} {ta tb tc:TE} {pos:Pos}
theorem Yu (ha:PE X a ta) (hb:PE X b tb) {pins:List (Addr×Obj)} {s:Shared} {σ:St} {H:Hp} {R:V->V->Hp->Prop} (I:aP X pins σ H s)
  (h:ta σ H fun x H1=>tb σ H1 fun y H2=>R x y H2) {Q:Value->Shared->Prop} {f:Value->Value->Sem Value}
  (hf:∀ v u s2 x y H2,aP X pins σ H2 s2->cA x v->cA y u->R x y H2->wpAny (model X.prog X.w) X.A (f v u) Q X.xe s2):
  wpAny (model X.prog X.w) X.A (eval a X.env) (fun v s₁=>wpAny (model X.prog X.w) X.A (eval b X.env) (fun u s₂=>wpAny (model X.prog X.w) X.A (f v u) Q X.xe s₂) X.xe s₁) X.xe s:=by
 refine cT (ha pins s σ H _ I h) fun v s1 ⟨x,H1,I1,r1,q1⟩=>?_
 refine cT (hb pins s1 σ H1 _ I1 q1) fun u s2 ⟨y,H2,I2,r2,q2⟩=>?_
 exact hf v u s2 x y H2 I2 r1 r2 q2
theorem cI {op:Operator} {r:R2} (ho:tD X (binaryOp op) r) (ha:PE X a ta) (hb:PE X b tb):PE X (.BinOp a op b pos) (Fa r ta tb):=by
 intro pins s σ H Q I h
 exact wpAny_BinOp (Yu ha hb I h fun v u s2 x y H2 I2 rx ry q=>ho pins s2 σ H2 x y v u Q I2 rx ry q)
theorem yI {op:UnaryOp} {r:V->Hp->VK->Prop} (ho:UnR X (unaryOp op) r) (ha:PE X a ta):PE X (.UnaryOp op a pos) (tUn r ta):=by
 intro pins s σ H Q I h
 exact UnaryOp_ (cT (ha pins s σ H _ I h) fun v s1 ⟨x,H1,I1,r1,q1⟩=>ho pins s1 σ H1 x v Q I1 r1 q1)
theorem opI {f:Value->Value->Sem Value} {C:Int->Int->Prop} {g:Int->Int->Int}
  (rule:∀ (i j:Int) (t u:Tok) (s:Shared) (Q:Value->Shared->Prop) (E:Value->Shared->Prop),C i j->Q (.int (g i j) s.toks) {s with toks:=s.toks+1}->wpAny (model X.prog X.w) X.A (f (.int i t) (.int j u)) Q E s):
  tD X f (rI C fun i j=>.int (g i j)):=by
 intro pins s σ H x y v u Q I rx ry h
 obtain ⟨i,j,rfl,rfl,hc,q⟩:=h
 obtain ⟨t,rfl⟩:=rx
 obtain ⟨t',rfl⟩:=ry
 exact rule i j t t' s _ _ hc ⟨.int (g i j),H,I.tok _,⟨_,rfl⟩,q⟩
theorem Zx {f:Value->Value->Sem Value} {g:Int->Int->Int}
  (rule:∀ (i j:Int) (t u:Tok) (s:Shared) (Q:Value->Shared->Prop) (E:Value->Shared->Prop),Q (.int (g i j) s.toks) {s with toks:=s.toks+1}->wpAny (model X.prog X.w) X.A (f (.int i t) (.int j u)) Q E s):
  tD X f (Pw fun i j=>.int (g i j)):=by
 intro pins s σ H x y v u Q I rx ry h
 obtain ⟨i,j,rfl,rfl,q⟩:=h
 obtain ⟨t,rfl⟩:=rx
 obtain ⟨t',rfl⟩:=ry
 exact rule i j t t' s _ _ ⟨.int (g i j),H,I.tok _,⟨_,rfl⟩,q⟩
theorem aAf {f:Value->Value->Sem Value} {g:Int->Int->Bool}
  (rule:∀ (i j:Int) (t u:Tok) (s:Shared) (Q:Value->Shared->Prop) (E:Value->Shared->Prop),Q (.bool (g i j)) s->wpAny (model X.prog X.w) X.A (f (.int i t) (.int j u)) Q E s):
  tD X f (Pw fun i j=>.bl (g i j)):=by
 intro pins s σ H x y v u Q I rx ry h
 obtain ⟨i,j,rfl,rfl,q⟩:=h
 obtain ⟨t,rfl⟩:=rx
 obtain ⟨t',rfl⟩:=ry
 exact rule i j t t' s _ _ ⟨.bl (g i j),H,I,rfl,q⟩
def Wk (i j:Int):Prop:=(-(2 ^ 64)<i/\i<2 ^ 64)\/(-(2 ^ 64)<j/\j<2 ^ 64)
theorem Wk.ok {i j:Int} (h:Wk i j):IntMulOk i j:=by
 rcases h with ⟨h1,h2⟩|⟨h1,h2⟩
 ·exact .of_left (intBits_le_64 h1 h2)
 ·exact .of_right (intBits_le_64 h1 h2)
theorem fY:tD X (binaryOp .Add) (Pw fun i j=>.int (i+j)):=Zx fun _ _ _ _ _ _ _ q=>add_int q
theorem eT:tD X (binaryOp .Sub) (Pw fun i j=>.int (i - j)):=Zx fun _ _ _ _ _ _ _ q=>sub_int q
theorem Ph:tD X (binaryOp .Mult) (rI Wk fun i j=>.int (i * j)):=opI fun _ _ _ _ _ _ _ hc q=>mul_int q hc.ok
theorem Zb:tD X (binaryOp .Mod) (rI (fun _ j=>0<j) fun i j=>.int (i % j)):=opI fun i j _ _ _ _ _ hc q=>by
 have h1:(0:Int)<j:=hc
 exact mod_int' (by omega) (by rw [Int.fmod_eq_emod_of_nonneg i (by omega)];exact q)
theorem unI {f:Value->Sem Value} {g:Int->Int}
  (rule:∀ (i:Int) (t:Tok) (s:Shared) (Q:Value->Shared->Prop) (E:Value->Shared->Prop),Q (.int (g i) s.toks) {s with toks:=s.toks+1}->wpAny (model X.prog X.w) X.A (f (.int i t)) Q E s):
  UnR X f (rU fun i=>.int (g i)):=by
 intro pins s σ H x v Q I rx h
 obtain ⟨i,rfl,q⟩:=h
 obtain ⟨t,rfl⟩:=rx
 exact rule i t s _ _ ⟨.int (g i),H,I.tok _,⟨_,rfl⟩,q⟩
theorem rK:UnR X (unaryOp .USub) (rU fun i=>.int (-i)):=unI fun _ _ _ _ _ q=>neg_int q
end
def Zv:V->V->Bool
 |.non,.non=>true|.non,.int _=>true|.int _,.non=>true|.non,.bl _=>true|.bl _,.non=>true|.non,.str _=>true|.str _,.non=>true
 |.int _,.int _=>true|.bl _,.bl _=>true|.str _,.str _=>true|.byt _,.byt _=>true
 |.int _,.str _=>true|.str _,.int _=>true|.bl _,.str _=>true|.str _,.bl _=>true
 |_,_=>false
def rEq:R2:=fun x y H Q=>Zv x y=true/\Q (.bl (decide (x=y))) H
def rNe:R2:=fun x y H Q=>Zv x y=true/\Q (.bl (!decide (x=y))) H
theorem tO {i j:Int}:decide (V.int i=V.int j)=(i==j):=by
 rw [Bool.eq_iff_iff]
 simp
theorem Pi {i j:Bool}:decide (V.bl i=V.bl j)=(i==j):=by
 rw [Bool.eq_iff_iff]
 simp
theorem Jd {i j:Str}:decide (V.str i=V.str j)=(i==j):=by
 rw [Bool.eq_iff_iff]
 simp
theorem Iq {i j:Array UInt8}:decide (V.byt i=V.byt j)=(i.toList==j.toList):=by
 rw [Bool.eq_iff_iff]
 cases i
 cases j
 simp
section
variable {X:Cx} {a b c:Expr} {ta tb tc:TE} {pos:Pos}
theorem cH {pins:List (Addr×Obj)} {σ:St} {H:Hp} {s:Shared} {Q:VK} {k k':Bool} (I:aP X pins σ H s) (q:Q (.bl k) H) (e:k=k'):EP X pins σ Q (.bool k') s:=by
 subst e
 exact ⟨.bl k,H,I,rfl,q⟩
theorem qG:tD X (compareOp .Eq) rEq:=by
 intro pins s σ H x y v u Q I rx ry h
 obtain ⟨hs,q⟩:=h
 cases x with
 |non=>
  cases rx
  cases y with
  |non=>cases ry;exact PySem.EqNone.eq_none_none (cH I q (by simp))
  |bl j=>cases ry;exact PySem.EqNone.eq_none_bool (cH I q (by simp))
  |int j=>obtain ⟨t',rfl⟩:=ry;exact PySem.EqNone.eq_none_int (cH I q (by simp))
  |str j=>obtain ⟨t',rfl⟩:=ry;exact PySem.EqNone.eq_none_str (cH I q (by simp))
  |_=>exact absurd (show false=true from hs) Bool.false_ne_true
 |bl i=>
  cases rx
  cases y with
  |non=>cases ry;exact PySem.EqNone.eq_bool_none (cH I q (by simp))
  |bl j=>cases ry;exact eq_bool (cH I q Pi)
  |str j=>obtain ⟨t',rfl⟩:=ry;exact PySem.EqMixed.eq_bool_str (cH I q (by simp))
  |_=>exact absurd (show false=true from hs) Bool.false_ne_true
 |int i=>
  obtain ⟨t,rfl⟩:=rx
  cases y with
  |non=>cases ry;exact PySem.EqNone.eq_int_none (cH I q (by simp))
  |int j=>obtain ⟨t',rfl⟩:=ry;exact eq_int (cH I q tO)
  |str j=>obtain ⟨t',rfl⟩:=ry;exact PySem.EqMixed.eq_int_str (cH I q (by simp))
  |_=>exact absurd (show false=true from hs) Bool.false_ne_true
 |str i=>
  obtain ⟨t,rfl⟩:=rx
  cases y with
  |non=>cases ry;exact PySem.EqNone.eq_str_none (cH I q (by simp))
  |bl j=>cases ry;exact PySem.EqMixed.eq_str_bool (cH I q (by simp))
  |int j=>obtain ⟨t',rfl⟩:=ry;exact PySem.EqMixed.eq_str_int (cH I q (by simp))
  |str j=>obtain ⟨t',rfl⟩:=ry;exact eq_str (cH I q Jd)
  |_=>exact absurd (show false=true from hs) Bool.false_ne_true
 |byt i=>
  obtain ⟨t,rfl⟩:=rx
  cases y with
  |byt j=>obtain ⟨t',rfl⟩:=ry;exact PySem.W.eq_bytes (cH I q Iq)
  |_=>exact absurd (show false=true from hs) Bool.false_ne_true
 |_=>cases y<;>exact absurd (show false=true from hs) Bool.false_ne_true
theorem aAg:tD X (compareOp .NotEq) rNe:=by
 intro pins s σ H x y v u Q I rx ry h
 obtain ⟨hs,q⟩:=h
 cases x with
 |non=>
  cases rx
  cases y with
  |non=>cases ry;exact PySem.EqNone.ne_none_none (cH I q (by simp))
  |bl j=>cases ry;exact PySem.EqNone.ne_none_bool (cH I q (by simp))
  |int j=>obtain ⟨t',rfl⟩:=ry;exact PySem.EqNone.ne_none_int (cH I q (by simp))
  |str j=>obtain ⟨t',rfl⟩:=ry;exact PySem.EqNone.ne_none_str (cH I q (by simp))
  |_=>exact absurd (show false=true from hs) Bool.false_ne_true
 |bl i=>
  cases rx
  cases y with
  |non=>cases ry;exact PySem.EqNone.ne_bool_none (cH I q (by simp))
  |bl j=>cases ry;exact ne_bool (cH I q (congrArg not Pi))
  |str j=>obtain ⟨t',rfl⟩:=ry;exact PySem.EqMixed.ne_bool_str (cH I q (by simp))
  |_=>exact absurd (show false=true from hs) Bool.false_ne_true
 |int i=>
  obtain ⟨t,rfl⟩:=rx
  cases y with
  |non=>cases ry;exact PySem.EqNone.ne_int_none (cH I q (by simp))
  |int j=>obtain ⟨t',rfl⟩:=ry;exact ne_int (cH I q (congrArg not tO))
  |str j=>obtain ⟨t',rfl⟩:=ry;exact PySem.EqMixed.ne_int_str (cH I q (by simp))
  |_=>exact absurd (show false=true from hs) Bool.false_ne_true
 |str i=>
  obtain ⟨t,rfl⟩:=rx
  cases y with
  |non=>cases ry;exact PySem.EqNone.ne_str_none (cH I q (by simp))
  |bl j=>cases ry;exact PySem.EqMixed.ne_str_bool (cH I q (by simp))
  |int j=>obtain ⟨t',rfl⟩:=ry;exact PySem.EqMixed.ne_str_int (cH I q (by simp))
  |str j=>obtain ⟨t',rfl⟩:=ry;exact ne_str (cH I q (congrArg not Jd))
  |_=>exact absurd (show false=true from hs) Bool.false_ne_true
 |byt i=>
  obtain ⟨t,rfl⟩:=rx
  cases y with
  |byt j=>obtain ⟨t',rfl⟩:=ry;exact PySem.W.ne_bytes (cH I q (congrArg not Iq))
  |_=>exact absurd (show false=true from hs) Bool.false_ne_true
 |_=>cases y<;>exact absurd (show false=true from hs) Bool.false_ne_true
theorem Rp:tD X (compareOp .Lt) (Pw fun i j=>.bl (decide (i<j))):=aAf fun _ _ _ _ _ _ _ q=>lt_int q
theorem qM:tD X (compareOp .LtE) (Pw fun i j=>.bl (decide (i<=j))):=aAf fun _ _ _ _ _ _ _ q=>le_int q
theorem gU (b:Expr) {op:CmpOp} (h:op≠.In:=by decide) (h2:op≠.NotIn:=by decide):behindInMarks op b=false:=by
 have e1:(op==CmpOp.In)=false:=by cases op<;>first|rfl|exact absurd rfl h
 have e2:(op==CmpOp.NotIn)=false:=by cases op<;>first|rfl|exact absurd rfl h2
 cases b<;>simp [behindInMarks,e1,e2]
theorem kT {op:CmpOp} {r:R2} (ho:tD X (compareOp op) r) (ha:PE X a ta) (hb:PE X b tb) (hm:behindInMarks op b=false):PE X (.Compare a [op] [b] pos) (Fa r ta tb):=by
 intro pins s σ H Q I h
 exact wpAny_Compare1 (Yu ha hb I h fun v u s2 x y H2 I2 rx ry q=>ho pins s2 σ H2 x y v u Q I2 rx ry q) hm
def Pj (t:TE):TT:=fun σ H Q=>t σ H fun x H'=>∃ k,x=.bl k/\Q k H'
theorem iB {op:CmpOp} {r:R2} (ho:tD X (compareOp op) r) (ha:PE X a ta) (hb:PE X b tb) (hm:behindInMarks op b=false):PT X (.Compare a [op] [b] pos) (Pj (Fa r ta tb)):=by
 intro pins s σ H Q I h
 refine wpAny_isTrue_Compare1 (cT (ha pins s σ H _ I h) fun v s1 ⟨x,H1,I1,r1,q1⟩=>cT (hb pins s1 σ H1 _ I1 q1) fun u s2 ⟨y,H2,I2,r2,q2⟩=>
  cT (ho pins s2 σ H2 x y v u _ I2 r1 r2 q2) fun c s3 ⟨z,H3,I3,r3,k,e,q3⟩=>?_) hm
 subst e
 cases r3
 exact wpAny_truthy_bool ⟨H3,I3,q3⟩
def Gp (r r':R2) (ta tb tc:TE):TE:=fun σ H Q=>ta σ H fun x H1=>tb σ H1 fun y H2=>r x y H2 fun z H3=>∃ k,z=.bl k/\
 (if k=true then tc σ H3 fun w' H4=>r' y w' H4 Q else Q (.bl false) H3)
theorem mT {op op':CmpOp} {r r':R2} (ho:tD X (compareOp op) r) (ho':tD X (compareOp op') r') (ha:PE X a ta) (hb:PE X b tb) (hc:PE X c tc)
  (hm:lastMarks [op,op'] [b,c]=false:=by with_unfolding_all rfl):PE X (.Compare a [op,op'] [b,c] pos) (Gp r r' ta tb tc):=by
 intro pins s σ H Q I h
 refine Compare_chain (cT (ha pins s σ H _ I h) fun v s1 ⟨x,H1,I1,r1,q1⟩=>chain_link (cT (hb pins s1 σ H1 _ I1 q1) fun u s2 ⟨y,H2,I2,r2,q2⟩=>
  cT (ho pins s2 σ H2 x y v u _ I2 r1 r2 q2) fun d s3 ⟨z,H3,I3,r3,k,e,q3⟩=>?_)) hm
 subst e
 cases r3
 refine wpAny_truthy_bool ?_
 cases k with
 |false=>exact ite_ff ⟨.bl false,H3,I3,rfl,q3⟩
 |true=>exact ite_tt (chain_last (cT (hc pins s3 σ H3 _ I3 q3) fun w' s4 ⟨z',H4,I4,r4,q4⟩=>ho' pins s4 σ H4 y z' u w' Q I4 r2 r4 q4))
theorem Pu {op op':CmpOp} {r r':R2} (ho:tD X (compareOp op) r) (ho':tD X (compareOp op') r') (ha:PE X a ta) (hb:PE X b tb) (hc:PE X c tc)
  (hm:lastMarks [op,op'] [b,c]=false:=by with_unfolding_all rfl):PT X (.Compare a [op,op'] [b,c] pos) (Pj (Gp r r' ta tb tc)):=by
 intro pins s σ H Q I h
 refine isTrue_chain (cT (ha pins s σ H _ I h) fun v s1 ⟨x,H1,I1,r1,q1⟩=>test_link (cT (hb pins s1 σ H1 _ I1 q1) fun u s2 ⟨y,H2,I2,r2,q2⟩=>
  cT (ho pins s2 σ H2 x y v u _ I2 r1 r2 q2) fun d s3 ⟨z,H3,I3,r3,k,e,q3⟩=>?_)) hm
 subst e
 cases r3
 refine wpAny_truthy_bool ?_
 cases k with
 |false=>
  obtain ⟨k',e',q'⟩:=q3
  cases e'
  exact ite_ff ⟨H3,I3,q'⟩
 |true=>
  refine ite_tt (test_last (cT (hc pins s3 σ H3 _ I3 q3) fun w' s4 ⟨z',H4,I4,r4,q4⟩=>cT (ho' pins s4 σ H4 y z' u w' _ I4 r2 r4 q4) fun d' s5 ⟨z2,H5,I5,r5,k2,e2,q5⟩=>?_))
  subst e2
  cases r5
  exact wpAny_truthy_bool ⟨H5,I5,q5⟩
theorem Gw:(sizeLine:Nat)<2 ^ 63:=by rw [sizeLine_eq];decide
theorem vP {x:V} {us:List Value} (r:bN [x] us):∃ u,us=[u]/\cA x u:=by
 cases r with
 |cons r1 r2=>cases r2;exact ⟨_,rfl,r1⟩
theorem wE:mR X (.builtin "ord") (fun xs H Q=>∃ x,xs=[.str x]/\x.length=1/\Q (.int (x.cps.getD 0 0:Nat)) H):=by
 intro pins s σ H xs us Q I r h
 obtain ⟨x,rfl,hz,q⟩:=h
 obtain ⟨u,rfl,t,rfl⟩:=vP r
 exact ord_of_one hz ⟨.int _,H,I.tok _,⟨_,rfl⟩,q⟩
end
structure Fr (h:Heap) (x dx C:Addr) (mA:Str->Option Value):Prop where
 obj:h.get? x=some (PySem.W.instObj C dx)
 ns:h.Ns1 dx mA
 ne:dx≠x
theorem Le {h:Heap} {dx:Addr} {mA:Str->Option Value} (n:h.Ns1 dx mA):∃ od,h.get? dx=some od/\∀ name,PySem.W.lookIn name od=some (mA name):=by
 obtain ⟨o,es,ep,ho,hd,hk,_,hm⟩:=n
 refine ⟨o,ho,fun name=>?_⟩
 have e:=hm name
 unfold nsFind findBy at e
 rw [<-Array.find?_toList] at e
 unfold PySem.W.lookIn
 rw [hd]
 dsimp only
 split
 ·rename_i y q
  rw [q] at e
  exact congrArg some e
 ·rename_i q
  rw [q] at e
  have a:es.toList.any (·.refKey)=false:=by
   rw [List.any_eq_false]
   intro y hy
   obtain ⟨z,t,hkey⟩:=hk y (Array.mem_toList_iff.mp hy)
   simp [DictEntry.refKey,hkey]
  have a':¬es.toList.any (·.refKey)=true:=by rw [a];exact Bool.false_ne_true
  rw [if_neg a']
  exact congrArg some e
theorem Fr.look {h:Heap} {x dx C:Addr} {mA:Str->Option Value} (I:Fr h x dx C mA):∃ od,PySem.W.InstAt h x (PySem.W.instObj C dx) C (some od)/\∀ name,PySem.W.lookIn name od=some (mA name):=
 let ⟨od,ho,hl⟩:=Le I.ns
 ⟨od,⟨I.obj,rfl,rfl,ho⟩,hl⟩
section
variable {prog:Program} {w:World} {A:Around} {E:Value->Shared->Prop} {s:Shared} {K:PySem.W.Frag} {x dx C f:Addr} {mA:Str->Option Value} {name:Str} {v:Value}
theorem Up {expr:Bool} {Q:Value->Shared->Prop} (X:K.In s.heap) (I:Fr s.heap x dx C mA) (hg:PySem.W.plainGet K C name=true) (hh:PySem.W.hasDictIn K C=true)
  (ha:PySem.W.findIn K (.ref C) name=some none) (hv:mA name=some v) (hv':PySem.W.handedIn v=true) (h:Q v {s with toks:=s.toks+1}):
  wpAny (model prog w) A (getAttr (.ref x) name expr) Q E s:=by
 obtain ⟨od,J,hl⟩:=I.look
 exact PySem.W.get_value X J (PySem.W.plainGet_of hg).1 (PySem.W.findObj_own hh ha rfl (by rw [hl,hv])) hv' h
theorem Ro {pl:Sem Bool} {Q:Value×List Value->Shared->Prop} (X:K.In s.heap) (I:Fr s.heap x dx C mA) (hg:PySem.W.plainGet K C name=true)
  (hf:PySem.W.findIn K (.ref C) name=some (some (.ref f))) (ht:PySem.W.isFn K (.ref f)=true) (hv:mA name=none) (h:Q (.ref f,[.ref x]) s):
  wpAny (model prog w) A (getMethod (.ref x) name pl) Q E s:=by
 obtain ⟨od,J,hl⟩:=I.look
 exact PySem.W.method_fn X J (PySem.W.plainGet_of hg).1 (PySem.W.plainGet_of hg).2 hf (beq_iff_eq.mp ht) (by show (PySem.W.lookIn name od).map (·.isSome)=some false;rw [hl,hv];rfl) h
theorem Uz {ns:List Str} {Q:Unit->Shared->Prop} (X:K.In s.heap) (I:Fr s.heap x dx C mA)
  (hs:PySem.W.findIn K (.ref C) "__setattr__"=some (some (.builtin "object.__setattr__"))) (hp:PySem.W.plainOver K C=true) (ht:PySem.W.takerIn K C name=some none) (hh:PySem.W.hasDictIn K C=true)
  (hw:PySem.Within mA ns) (hsz:ns.length<=sizeLine)
  (h:∀ h',Fr h' x dx C (fun y=>if y=name then some v else mA y)->Heap.SameBut dx s.heap h'->Q () {s with heap:=h',toks:=s.toks+2}):
  wpAny (model prog w) A (setAttr (.ref x) name v) Q E s:=by
 obtain ⟨od,J,hl⟩:=I.look
 refine PySem.W.set_plain X J hs (PySem.W.osa_open (s:={s with toks:=s.toks+1}) (r:=none) X J hp ht fun b=>?_)
 obtain ⟨cd,hc,hd'⟩:=PySem.W.any_some hh
 have hx:s.heap.get? x=some ⟨.ref C,some dx,.plain,#[]⟩:=I.obj
 refine wpAny_bind (wpAny_pure (wpAny_bind (wpAny_bind (wpAny_loadPart hx (wpAny_bind (PySem.W.Looks.here (s:={s with toks:=s.toks+1}) (PySem.W.looks_clsIn X hc) ?_))))))
 rw [hd']
 refine wpAny_pure (a:=some dx) (wpAny_bind (wpAny_pure (wpAny_bind ?_)))
 refine wpAny_nsSet1 (s:={s with toks:=s.toks+1}) I.ns fun h' hn2 hs2=>?_
 obtain ⟨oD,esD,epD,hoD,hdD,hcD⟩:=hn2.count (PySem.Within.cons name v hw)
 refine wpAny_bind (wpAny_lookBehind hoD (by rw [hdD];exact pastItsLine_dict (Nat.le_trans hcD (by rw [List.length_cons];omega))) ?_)
 exact wpAny_pure (h _ ⟨(hs2.2 _ (Ne.symm I.ne)).trans I.obj,hn2,I.ne⟩ hs2)
theorem Cn {R:Result->Shared->Prop} {vs:List Value} {kw:List (Str×Value)} (X:K.In s.heap) (hm:PySem.W.makesIn K C=true)
  (hi:PySem.W.findIn K (.ref C) "__init__"=some (some (.ref f))) (hf:PySem.W.typeIn K (.ref f)=some (.type "function"))
  (h:codeAny (model prog w) (A.under (.builtin "type.__call__" ⟨.ref C::vs,kw⟩)) (.call (.ref f) ⟨.ref (s.heap.objs.size+1)::vs,kw⟩) (PySem.W.InitBack (s.heap.objs.size+1) R)
   {s with heap:=(s.heap.push PySem.W.emptyDict).push (PySem.W.instObj C s.heap.objs.size)}):
  codeAny (model prog w) A (.call (.ref C) ⟨vs,kw⟩) R s:=by
 obtain ⟨hh,g,d,t,os⟩:=s
 exact PySem.W.make_core (PySem.W.makes_of X hm) (PySem.W.looks_findIn X hi) (fun self=>PySem.W.bind_fn X self hf) (.inl rfl) h
end
def lV (f:Str) (v:V):List (Str×V)->List (Str×V)
 |[]=>[(f,v)]
 |(g,x)::r=>if g=f then (g,v)::r else (g,x)::lV f v r
theorem nA (f g:Str) (v:V):∀ fs:List (Str×V),(lV f v fs).lookup g=if g=f then some v else fs.lookup g
 |[]=>by
  show List.lookup g [(f,v)]=_
  by_cases h:g=f
  ·have hb:(g==f)=true:=beq_iff_eq.mpr h
   simp only [List.lookup,hb,if_pos h]
  ·have hb:(g==f)=false:=beq_eq_false_iff_ne.mpr h
   simp only [List.lookup,hb,if_neg h]
 |(k,x)::r=>by
  have ih:=nA f g v r
  rw [show lV f v ((k,x)::r)=(if k=f then (k,v)::r else (k,x)::lV f v r) from rfl]
  by_cases hk:k=f
  ·rw [if_pos hk]
   by_cases h:g=k
   ·have hb:(g==k)=true:=beq_iff_eq.mpr h
    simp only [List.lookup,hb,if_pos (h.trans hk)]
   ·have hb:(g==k)=false:=beq_eq_false_iff_ne.mpr h
    simp only [List.lookup,hb,if_neg (fun e:g=f=>h (e.trans hk.symm))]
  ·rw [if_neg hk]
   by_cases h:g=k
   ·have hb:(g==k)=true:=beq_iff_eq.mpr h
    simp only [List.lookup,hb,if_neg (fun e:g=f=>hk (h.symm.trans e))]
   ·have hb:(g==k)=false:=beq_eq_false_iff_ne.mpr h
    simp only [List.lookup,hb]
    exact ih
theorem rP (f:Str) (v:V):∀ fs:List (Str×V),f∈(lV f v fs).map (·.1)/\∀ g,g∈fs.map (·.1)->g∈(lV f v fs).map (·.1)
 |[]=>⟨by simp [lV],fun g h=>by simp at h⟩
 |(k,x)::r=>by
  obtain ⟨i1,i2⟩:=rP f v r
  rw [show lV f v ((k,x)::r)=(if k=f then (k,v)::r else (k,x)::lV f v r) from rfl]
  by_cases hk:k=f
  ·rw [if_pos hk]
   subst hk
   exact ⟨by simp,fun g h=>by simpa using h⟩
  ·rw [if_neg hk]
   refine ⟨?_,fun g h=>?_⟩
   ·rw [List.map_cons]
    exact List.mem_cons_of_mem _ i1
   ·rw [List.map_cons] at h ⊢
    rcases List.mem_cons.mp h with e|e
    ·exact List.mem_cons.mpr (.inl e)
    ·exact List.mem_cons_of_mem _ (i2 g e)
theorem sF (f:Str) (v:V):∀ fs:List (Str×V),(lV f v fs).length<=fs.length+1
 |[]=>by simp [lV]
 |(k,x)::r=>by
  have ih:=sF f v r
  rw [show lV f v ((k,x)::r)=(if k=f then (k,v)::r else (k,x)::lV f v r) from rfl]
  by_cases hk:k=f
  ·rw [if_pos hk,List.length_cons,List.length_cons];omega
  ·rw [if_neg hk,List.length_cons,List.length_cons];omega
theorem lH.some_of {v:V} {o:Option Value} (r:lH (some v) o):∃ u,o=some u/\cA v u:=by
 cases o with
 |none=>exact (show False from r).elim
 |some u=>exact ⟨u,rfl,r⟩
theorem lH.none_of {o:Option Value} (r:lH none o):o=none:=by
 cases o with
 |none=>rfl
 |some u=>exact (show False from r).elim
theorem Mo {v:V} {u:Value} (r:cA v u):PySem.W.handedIn u=true:=by
 cases v with
 |non=>cases (show u=Value.none from r);rfl
 |bl b=>cases (show u=Value.bool b from r);rfl
 |int i=>obtain ⟨t,e⟩:=(show ∃ t,u=Value.int i t from r);cases e;rfl
 |str x=>obtain ⟨t,e⟩:=(show ∃ t,u=Value.str x t from r);cases e;rfl
 |byt b=>obtain ⟨t,e⟩:=(show ∃ t,u=Value.bytes b t from r);cases e;rfl
 |flt b=>obtain ⟨t,e⟩:=(show ∃ t,u=Value.float b t from r);cases e;rfl
 |ref a=>cases (show u=Value.ref a from r);rfl
 |ty n=>cases (show u=Value.type n from r);rfl
section
variable {P:Program} {w:World} {H H':Hp} {h h':Heap} {a C dx:Addr} {fs fs':List (Str×V)}
theorem zT (hok:kG P w H h) (e:H a=some (.ins C dx fs)):∃ mA,Fr h a dx C mA/\(∀ f,lH (fs.lookup f) (mA f))/\PySem.Within mA (fs.map (·.1))/\fs.length<=1000/\H dx=some (.own a):=by
 obtain ⟨d,z,ne,ob,mA,n,r,q⟩:=(show cJ P w H h a (.ins C dx fs) from hok a _ e)
 exact ⟨mA,⟨ob,n,ne⟩,r,q,z,d⟩
end
structure Fb (K:PySem.W.Frag) (C:Addr):Prop where
 pg:PySem.W.plainGet K C Str.empty=true
 hd:PySem.W.hasDictIn K C=true
 po:PySem.W.plainOver K C=true
 sa:PySem.W.findIn K (.ref C) "__setattr__"=some (some (.builtin "object.__setattr__"))
theorem Fb.get {K:PySem.W.Frag} {C:Addr} (c:Fb K C) (f:Str):PySem.W.plainGet K C f=true:=c.pg
def dD (K:PySem.W.Frag) (C:Addr) (f:Str):Prop:=PySem.W.findIn K (.ref C) f=some none
theorem dD.taker {K:PySem.W.Frag} {C:Addr} {f:Str} (n:dD K C f):PySem.W.takerIn K C f=some none:=by
 unfold PySem.W.takerIn
 rw [show PySem.W.findIn K (.ref C) f=some none from n]
 rfl
structure Tg (K:PySem.W.Frag) (C:Addr) (m:Str) (f:Addr):Prop where
 at_:PySem.W.findIn K (.ref C) m=some (some (.ref f))
 fn:PySem.W.isFn K (.ref f)=true
 kp:PySem.W.keepIn K (.ref f)=true
section
variable {X:Cx} {pins:List (Addr×Obj)} {σ:St} {H:Hp} {s:Shared} {a C dx:Addr} {fs:List (Str×V)} {f:Str} {v:V} {A:Around} {E:Value->Shared->Prop}
theorem wI {b:Bool} {Q:Value->Shared->Prop} (I:aP X pins σ H s) (e:H a=some (.ins C dx fs)) (c:Fb X.K C) (n:dD X.K C f) (l:fs.lookup f=some v)
  (h:∀ u s',aP X pins σ H s'->cA v u->Q u s'):wpAny (model X.prog X.w) A (getAttr (.ref a) f b) Q E s:=by
 obtain ⟨mA,O,r,_,_,_⟩:=zT I.hok e
 obtain ⟨u,hu,ru⟩:=lH.some_of (v:=v) (o:=mA f) (by rw [<-l];exact r f)
 exact Up I.kIn O (c.get f) c.hd n hu (Mo ru) (h u _ (I.tok _) ru)
theorem uZ {m:Str} {g:Addr} {pl:Sem Bool} {Q:Value×List Value->Shared->Prop} (I:aP X pins σ H s) (e:H a=some (.ins C dx fs)) (c:Fb X.K C) (k:Tg X.K C m g) (l:fs.lookup m=none)
  (h:Q (.ref g,[.ref a]) s):wpAny (model X.prog X.w) A (getMethod (.ref a) m pl) Q E s:=by
 obtain ⟨mA,O,r,_,_,_⟩:=zT I.hok e
 have hn:mA m=none:=lH.none_of (by rw [<-l];exact r m)
 exact Ro I.kIn O (c.get m) k.at_ k.fn hn h
theorem uT {y:V} {u:Value} {Q:Unit->Shared->Prop} (I:aP X pins σ H s) (e:H a=some (.ins C dx fs)) (c:Fb X.K C) (n:dD X.K C f) (hl:fs.length<1000) (ry:cA y u)
  (h:∀ s',aP X pins σ (upd H a (.ins C dx (lV f y fs))) s'->Q () s'):wpAny (model X.prog X.w) A (setAttr (.ref a) f u) Q E s:=by
 obtain ⟨mA,O,r,wi,_,ho⟩:=zT I.hok e
 have hz:(fs.map (·.1)).length<=sizeLine:=by rw [List.length_map,sizeLine_eq];omega
 refine Uz I.kIn O c.sa c.po n.taker c.hd wi hz fun h' O' sb=>h _ ?_
 have hd:∃ o,h'.get? dx=some o:=let ⟨o,_,_,e',_⟩:=O'.ns;⟨o,e'⟩
 refine I.write (x:=a) (e:=dx) (by rw [e];exact True.intro) (.inr ho) (fun b q hb z=>(sb.2 b hb).trans z) hd ?_
 refine ⟨by rw [aC O.ne];exact ho,?_,O.ne,O'.obj,_,O'.ns,fun g=>?_,fun g hg=>?_⟩
 ·have:=sF f y fs;omega
 ·show lH ((lV f y fs).lookup g) (if g=f then some u else mA g)
  rw [nA]
  by_cases q:g=f
  ·rw [if_pos q,if_pos q];exact ry
  ·rw [if_neg q,if_neg q];exact r g
 ·by_cases q:g=f
  ·rw [q];exact (rP f y fs).1
  ·refine (rP f y fs).2 g (wi g fun z=>hg ?_)
   show (if g=f then some u else mA g)=none
   rw [if_neg q];exact z
theorem aP.made (I:aP X pins σ H s):aP X pins σ (upd (upd H s.heap.objs.size (.own (s.heap.objs.size+1))) (s.heap.objs.size+1) (.ins C s.heap.objs.size []))
  {s with heap:=(s.heap.push PySem.W.emptyDict).push (PySem.W.instObj C s.heap.objs.size)}:=by
 have e1:(s.heap.push PySem.W.emptyDict).get? s.heap.objs.size=some PySem.W.emptyDict:=Heap.get?_push_size s.heap rfl
 have e2:((s.heap.push PySem.W.emptyDict).push (PySem.W.instObj C s.heap.objs.size)).get? (s.heap.objs.size+1)=some (PySem.W.instObj C s.heap.objs.size):=by
  have:=Heap.get?_push_size (s.heap.push PySem.W.emptyDict) (o:=PySem.W.instObj C s.heap.objs.size) rfl
  rwa [Heap.size_push] at this
 have e3:(s.heap.push PySem.W.emptyDict).Ns s.heap.objs.size (fun _=>none):=⟨PySem.W.emptyDict,#[],_,e1,rfl,(fun e he=>absurd he (by simp)),fun _=>rfl⟩
 have I1:=I.laid (a:=s.heap.objs.size) (o:=.own (s.heap.objs.size+1)) (h':=s.heap.push PySem.W.emptyDict) (t':=s.toks) (fun b u q=>Heap.get?_push_of_some _ q) (Nat.le_refl _) ⟨_,e1⟩
 refine I1.laid (a:=s.heap.objs.size+1) (o:=.ins C s.heap.objs.size []) (t':=s.toks) (fun b u q=>Heap.get?_push_of_some _ q) (Nat.le_of_eq (Heap.size_push _ _)) ?_
 have ne:s.heap.objs.size≠s.heap.objs.size+1:=Nat.ne_of_lt (Nat.lt_succ_self _)
 refine ⟨by rw [aC ne,aB],Nat.zero_le _,ne,e2,fun _=>none,(Heap.Ns1.of_empty e3).at fun o q=>Heap.get?_push_of_some _ q,fun _=>True.intro,fun y hy=>absurd rfl hy⟩
theorem Hz {prog:Program} {w:World} {env:Env} {e:Expr} {f:Str} {pos:Pos} {s:Shared} {Q:Value->Shared->Prop} (hb:attributeBase e f env (eval e env)=eval e env)
  (h:wpAny (model prog w) A (eval e env) (fun o s₁=>wpAny (model prog w) A (getAttr o f true) Q E s₁) E s):wpAny (model prog w) A (eval (.Attribute e f pos) env) Q E s:=
 Attribute_any_ h (by rw [arm_eval_Attribute,hb])
end
def Pp (K:PySem.W.Frag) (ta:TE) (f:Str):TE:=fun σ H Q=>ta σ H fun x H1=>∃ a C dx fs v,x=.ref a/\H1 a=some (.ins C dx fs)/\Fb K C/\dD K C f/\fs.lookup f=some v/\Q v H1
def Za (K:PySem.W.Frag) (ta tv:TE) (f:Str):TS:=fun D σ H=>tv σ H fun y H1=>ta σ H1 fun x H2=>∃ a C dx fs,x=.ref a/\H2 a=some (.ins C dx fs)/\Fb K C/\dD K C f/\fs.length<1000/\
 D.nx σ (upd H2 a (.ins C dx (lV f y fs)))
def aAu (X:Cx) (op:Operator) (rd:V->V->Hp->VK->Prop):Prop:=
 ∀ (pins:List (Addr×Obj)) (s:Shared) (σ:St) (H:Hp) (x y:V) (u v:Value) (Q:VK),aP X pins σ H s->cA x u->cA y v->rd x y H Q->wpAny (model X.prog X.w) X.A (inplaceOp op u v) (EP X pins σ Q) X.xe s
def Sz (K:PySem.W.Frag) (ta tv:TE) (rd:V->V->Hp->VK->Prop) (f:Str):TS:=fun D σ H=>ta σ H fun x H1=>∃ a C dx fs v,x=.ref a/\H1 a=some (.ins C dx fs)/\Fb K C/\dD K C f/\fs.lookup f=some v/\
 tv σ H1 fun y H2=>rd v y H2 fun z H3=>∃ dx' fs',H3 a=some (.ins C dx' fs')/\fs'.length<1000/\D.nx σ (upd H3 a (.ins C dx' (lV f z fs')))
section
variable {X:Cx} {o e value:Expr} {f:Str} {pos pos' tpos:Pos} {ta tv:TE}
theorem aT (he:PE X e ta) (hb:attributeBase e f X.env (eval e X.env)=eval e X.env):PE X (.Attribute e f pos) (Pp X.K ta f):=by
 intro pins s σ H Q I h
 refine Hz hb (cT (he pins s σ H _ I h) fun u s1 ⟨x,H1,I1,rx,a,C,dx,fs,v,ex,ea,c,n,l,q⟩=>?_)
 subst ex
 obtain rfl:u=Value.ref a:=rx
 exact wI I1 ea c n l fun u' s2 I2 ru=>⟨v,H1,I2,ru,q⟩
theorem dW (ha:PE X o ta) (hv:PE X value tv) (hs:swapsWith value (some (.Attribute o f pos')) pos.line X.env=pure false):PS X (.Assign [.Attribute o f pos'] value pos) (Za X.K ta tv f):=by
 intro pins s σ H D I h
 refine plainObj_wpAny_Assign_Attribute (cT (hv pins s σ H _ I h) fun u s1 ⟨y,H1,I1,ry,q⟩=>cT (ha pins s1 σ H1 _ I1 q) fun ov s2 ⟨x,H2,I2,rx,a,C,dx,fs,ex,ea,c,n,l,q2⟩=>?_) hs
 subst ex
 obtain rfl:ov=Value.ref a:=rx
 exact uT I2 ea c n l ry fun s3 I3=>⟨σ,_,I3,q2⟩
theorem Ku {op:Operator} {rd:V->V->Hp->VK->Prop} (ha:PE X o ta) (hv:PE X value tv) (hop:aAu X op rd):PS X (.AugAssign (.Attribute o f tpos) op value pos) (Sz X.K ta tv rd f):=by
 intro pins s σ H D I h
 refine wpAny_AugAssign_AttributeAny (cT (ha pins s σ H _ I h) fun ov s1 ⟨x,H1,I1,rx,a,C,dx,fs,v,ex,ea,c,n,l,q⟩=>?_)
 subst ex
 obtain rfl:ov=Value.ref a:=rx
 refine wI I1 ea c n l fun u s2 I2 ru=>cT (hv pins s2 σ H1 _ I2 q) fun w3 s3 ⟨y,H2,I3,ry,q3⟩=>cT (hop pins s3 σ H2 v y u w3 _ I3 ru ry q3) fun w4 s4 ⟨z,H3,I4,rz,dx',fs',ea',l',q4⟩=>?_
 exact uT I4 ea' c n l' rz fun s5 I5=>⟨σ,_,I5,q4⟩
def aCh:V->V->Hp->VK->Prop:=fun x y H Q=>∃ i j,x=.int i/\y=.int j/\Q (.int (i+j)) H
theorem Ym:aAu X .Add aCh:=by
 rintro pins s σ H x y u v Q I rx ry ⟨i,j,rfl,rfl,q⟩
 obtain ⟨t,rfl⟩:=(show ∃ t,u=Value.int i t from rx)
 obtain ⟨t',rfl⟩:=(show ∃ t',v=Value.int j t' from ry)
 exact PyProof.Rows.iadd_int ⟨.int (i+j),H,I.tok _,⟨_,rfl⟩,q⟩
end
section
variable {X:Cx} {pins:List (Addr×Obj)} {σ:St} {H:Hp} {s:Shared} {A:Around} {E:Value->Shared->Prop} {Q:Value->Shared->Prop} {c:Value} {b:Bool}
end
structure fW (k:Nat) (A:Around):Prop where
 hd:A.handled=none
 dp:A.depth+3 * k+5<recursionLimit
 un:A.units+16 * k+200<cLine
theorem fW.mono {j k:Nat} {A:Around} (r:fW k A) (h:j<=k):fW j A:=⟨r.hd,by have:=r.dp;omega,by have:=r.un;omega⟩
theorem fW.deeper {k:Nat} {A:Around} (r:fW (k+1) A) (env:Env):fW k (A.deeper env):=
 ⟨r.hd,by have:=r.dp;show A.depth+1+3 * k+5<_;omega,by have:=r.un;show A.units+3+16 * k+200<_;omega⟩
theorem vM {A:Around} {C:Addr} {us:List Value} {kw:List (Str×Value)}:(A.under (.builtin "type.__call__" ⟨.ref C::us,kw⟩)).depth=A.depth+1:=by
 first|rfl|simp [Around.under,Code.weight,Code.isCreation,Code.isGuard,Code.isCaller,Code.frames,Code.isFrame,guardIds]
theorem uL {A:Around} {C:Addr} {us:List Value} {kw:List (Str×Value)}:(A.under (.builtin "type.__call__" ⟨.ref C::us,kw⟩)).units=A.units+1:=by
 first|rfl|simp [Around.under,Code.cUnits,Code.frames,Code.isFrame]
theorem fW.make {k:Nat} {A:Around} (r:fW (k+1) A) (C:Addr) (us:List Value) (kw:List (Str×Value)):fW k (A.under (.builtin "type.__call__" ⟨.ref C::us,kw⟩)):=
 ⟨r.hd,by have:=r.dp;rw [vM];omega,by have:=r.un;rw [uL];omega⟩
theorem fW.depth {k:Nat} {A:Around} (r:fW k A):A.depth<recursionLimit:=by have:=r.dp;omega
theorem fW.units {k:Nat} {A:Around} (r:fW k A):A.units+64<cLine:=by have:=r.un;omega
def gR:TA:=fun _ H Q=>Q [] H
def dL (ta:TE) (tr:TA):TA:=fun σ H Q=>ta σ H fun x H1=>tr σ H1 fun xs H2=>Q (x::xs) H2
section
variable {X:Cx} {e:Expr} {es:List Expr} {te:TE} {t:TA} {pos:Pos}
theorem aE:PA X [] gR:=fun _ _ _ _ H Q I h=>Calls.spliced_nil ⟨[],H,I,.nil,h⟩
theorem aA (ha:PE X e te) (hr:PA X es t) (hs:starEach (e::es) X.env=(false,eval e X.env)::starEach es X.env:=by rfl):PA X (e::es) (dL te t):=by
 intro pos pins s σ H Q I h
 rw [hs]
 show wpAny _ _ (spliced ((false,eval e X.env)::backTo pos (starEach es X.env))) _ _ s
 refine Calls.spliced_cons (cT (ha pins s σ H _ I h) fun u s1 ⟨x,H1,I1,r1,q1⟩=>?_)
 exact cT (hr pos pins s1 σ H1 _ I1 q1) fun us s2 ⟨xs,H2,I2,r2,q2⟩=>⟨x::xs,H2,I2,.cons r1 r2,q2⟩
def Wo (t:TA):TE:=fun σ H Q=>t σ H fun xs H1=>xs.length<=sizeLine/\∀ p,H1 p=none->Q (.ref p) (upd H1 p (.tup xs))
def aCu (t:TA):TE:=fun σ H Q=>t σ H fun xs H1=>xs.length<=sizeLine/\∀ p,H1 p=none->Q (.ref p) (upd H1 p (.lst xs))
theorem eN {x1} (h:PA X es t):PE X (.Tuple es x1 pos) (Wo t):=by
 intro pins s σ H Q I hq
 refine wpAny_Tuple_spliced (cT (h pos pins s σ H _ I hq) fun us s1 ⟨xs,H1,I1,r,z,q⟩=>⟨by rw [<-r.length];exact z,?_⟩)
 have hf:H1 s1.heap.objs.size=none:=I1.hok.fresh (Nat.le_refl _)
 refine ⟨.ref s1.heap.objs.size,upd H1 s1.heap.objs.size (.tup xs),I1.laid (t':=s1.toks) (fun b u e=>Heap.get?_push_of_some _ e) (Nat.le_refl _) ?_,rfl,q _ hf⟩
 exact ⟨z,us,r,⟨_,Heap.get?_push_size _ rfl,rfl,_,rfl⟩⟩
theorem eG (h:PA X es t):PE X (.List es pos) (aCu t):=by
 intro pins s σ H Q I hq
 refine wpAny_List_spliced (cT (h pos pins s σ H _ I hq) fun us s1 ⟨xs,H1,I1,r,z,q⟩=>⟨by rw [<-r.length];exact z,?_⟩)
 have hf:H1 s1.heap.objs.size=none:=I1.hok.fresh (Nat.le_refl _)
 refine ⟨.ref s1.heap.objs.size,upd H1 s1.heap.objs.size (.lst xs),I1.laid (t':=s1.toks) (fun b u e=>Heap.get?_push_of_some _ e) (Nat.le_refl _) ?_,rfl,q _ hf⟩
 exact ⟨z,us,0,r,Heap.get?_push_size _ rfl⟩
end
abbrev Sp:=List V->Hp->VK->XK->Prop
abbrev Ez:=List Env->Hp->Shared->XK->Value->Shared->Prop
structure Da (P:Program) (w:World) (K:PySem.W.Frag) (mg:Str->Option Value) (base:Heap) (A:Around) (outer:List Env) (s:Shared) (H:Hp):Prop where
 frames:A.frames=some outer
 mod:Mod K mg base
 bs:∀ b o,base.get? b=some o->s.heap.get? b=some o/\H b=none
 bsz:base.objs.size<=s.heap.objs.size
 funs:s.heap.FunFrames base outer
 frf:∀ b∈yL outer,H b=none
 hok:kG P w H s.heap
 bare:AllBare s.gens
def CE (outer:List Env) (P:Program) (w:World) (H:Hp) (s:Shared) (Q:VK) (u:Value) (s':Shared):Prop:=
 ∃ v H',s'.os=s.os/\AllBare s'.gens/\Un (yL outer) [] H H' s.heap s'.heap/\kG P w H' s'.heap/\cA v u/\Q v H'
def CR (CX:Ez) (outer:List Env) (P:Program) (w:World) (H:Hp) (s:Shared) (Q:VK) (E:XK) (r:Result) (s':Shared):Prop:=
 match r with
 |.ok (.ret u)=>CE outer P w H s Q u s'
 |.ok _=>False
 |.error e=>CX outer H s E e s'
structure bU (P:Program) (w:World) (K:PySem.W.Frag) (mg:Str->Option Value) (base:Heap) (CX:Ez) (k:Nat) (f:Addr) (fd:FuncData) (ps:List Str) (sp:Sp):Prop where
 len:∀ vs H Q E,sp vs H Q E->vs.length=ps.length
 run:∀ (A:Around) (outer:List Env) (s:Shared) (H:Hp) (args:Args) (us:List Value) (vs:List V) (Q:VK) (E:XK),fW k A->Da P w K mg base A outer s H->BindsTo s fd args (ps.zip us)->bN vs us->sp vs H Q E->
  codeAny (model P w) A (.call (.ref f) args) (CR CX outer P w H s Q E) s
theorem Da.make {P:Program} {w:World} {K:PySem.W.Frag} {mg:Str->Option Value} {base:Heap} {A:Around} {outer:List Env} {s:Shared} {H:Hp} (e:Da P w K mg base A outer s H) (C:Addr) (us:List Value) (kw:List (Str×Value)):
  Da P w K mg base (A.under (.builtin "type.__call__" ⟨.ref C::us,kw⟩)) outer s H:=⟨by first|exact e.frames|(simpa [Around.under,Code.envs,Code.isFrame,pushEnvs] using e.frames),e.mod,e.bs,e.bsz,e.funs,e.frf,e.hok,e.bare⟩
section
variable {X:Cx} {pins:List (Addr×Obj)} {σ:St} {H:Hp} {s s':Shared}
theorem aP.env0 (I:aP X pins σ H s):Da X.prog X.w X.K X.mg X.base X.A X.stack s H:=
 ⟨I.ok.frames,I.ok.mod,I.bs,Nat.le_trans I.ok.bsz I.sz,I.stack,I.stkFree,I.hok,I.bare⟩
theorem aP.after {Q:VK} {u:Value} (I:aP X pins σ H s) (h:CE X.stack X.prog X.w H s Q u s'):EP X pins σ Q u s':=by
 obtain ⟨v,H',os,bare,un,hok,r,q⟩:=h
 obtain ⟨hh,g,d,t,os'⟩:=s'
 obtain rfl:os'=s.os:=os
 exact ⟨v,H',I.call (h':=hh) (g':=g) (d':=d) (t':=t) (ch:=[]) un hok bare (fun b z=>absurd z (by simp)),r,q⟩
end
def xP (sp:Sp) (dvs:List V) (E:XK) (t:TA):TE:=fun σ H Q=>t σ H fun vs H1=>sp (vs++dvs) H1 Q E
def lZ (C:Addr) (m:Str) (sp:Sp) (dvs:List V) (E:XK) (ta:TE) (t:TA):TE:=fun σ H Q=>ta σ H fun x H1=>∃ a dx fs,x=.ref a/\H1 a=some (.ins C dx fs)/\fs.lookup m=none/\
 t σ H1 fun vs H2=>sp (x::(vs++dvs)) H2 Q E
def Jb (C:Addr) (sp:Sp) (dvs:List V) (E:XK) (t:TA):TE:=fun σ H Q=>t σ H fun vs H1=>∀ x dx,H1 x=none->H1 dx=none->dx≠x->
 sp (.ref x::(vs++dvs)) (upd (upd H1 dx (.own x)) x (.ins C dx [])) (fun v H2=>v=.non/\Q (.ref x) H2) E
def eZ (K:PySem.W.Frag) (fd:FuncData) (ps:List Str) (ds:List Value):Prop:=
 ∀ (s:Shared) (us:List Value),K.In s.heap->(us++ds).length=ps.length->BindsTo s fd ⟨us,[]⟩ (ps.zip (us++ds))
theorem eZ.all {K:PySem.W.Frag} {fd:FuncData} {ps:List Str} (h:∀ us:List Value,us.length=ps.length->bindArgs fd ⟨us,[]⟩=pure (ps.zip us)):eZ K fd ps []:=fun s us _ hl=>by
 rw [List.append_nil] at hl ⊢
 exact .of_eq (h us hl)
def iP (CX:Ez) (X:Cx) (E:XK):Prop:=∀ (pins:List (Addr×Obj)) (σ:St) (H:Hp) (s:Shared) (e:Value) (s':Shared),aP X pins σ H s->CX X.stack H s E e s'->X.xe e s'
section
variable {X:Cx} {CX:Ez} {k:Nat} {f C:Addr} {fd:FuncData} {ps:List Str} {sp:Sp} {dvs:List V} {ds:List Value} {E:XK} {x m:Str} {p pos apos:Pos} {e o:Expr} {es:List Expr} {ta:TE} {t:TA}
theorem Gb {pins:List (Addr×Obj)} {σ:St} {H:Hp} {s:Shared} {Q:VK} {us:List Value} {vs:List V} (F:bU X.prog X.w X.K X.mg X.base CX k f fd ps sp) (hr:fW k X.A) (hb:eZ X.K fd ps ds) (hd:bN dvs ds) (hx:iP CX X E)
  (I:aP X pins σ H s) (r:bN vs us) (h:sp (vs++dvs) H Q E):wpAny (model X.prog X.w) X.A (call (.ref f) us) (EP X pins σ Q) X.xe s:=by
 have r2:bN (vs++dvs) (us++ds):=r.append hd
 have hl:(us++ds).length=ps.length:=by rw [<-r2.length];exact F.len _ _ _ _ h
 refine wpAny_call (codeAny_mono (F.run X.A X.stack s H ⟨us,[]⟩ (us++ds) (vs++dvs) Q E hr I.env0 (hb s us I.kIn hl) r2 h) fun r s' hq=>?_)
 cases r with
 |error e=>exact hx pins σ H s e s' I hq
 |ok fl=>
  cases fl with
  |ret u=>exact I.after hq
  |next=>exact False.elim hq
  |brk=>exact False.elim hq
  |cont=>exact False.elim hq
theorem aQ (F:bU X.prog X.w X.K X.mg X.base CX k f fd ps sp) (hr:fW k X.A) (hg:Gl X x) (hm:X.mg x=some (.ref f)) (hk:PySem.W.keepIn X.K (.ref f)=true) (hb:eZ X.K fd ps ds) (hd:bN dvs ds) (hx:iP CX X E)
  (ha:PA X (e::es) t) (hdb:(x==("__debug__":Str))=false:=by decide) (he:starEach (e::es) X.env=(false,eval e X.env)::starEach es X.env:=by rfl) (hpl:(backTo pos (starEach es X.env)).any (·.1)=false:=by rfl):
  PE X (.Call (.Name x p) (e::es) [] pos) (xP sp dvs E t):=by
 intro pins s σ H Q I h
 refine wpAny_Call_Name_kw (iZ I hg hm ?_ hdb)
 refine PySem.W.callWith_K (h₀:=X.base) I.ok.mod.kin hk (cT (ha pos pins s σ H _ I h) fun us s1 ⟨vs,H1,I1,r,q⟩=>⟨I1.kIn,?_⟩) he hpl
 exact Gb F hr hb hd hx I1 r q
theorem cX {pl:Sem Bool} (he:PE X o ta) (c:Fb X.K C) (hm:Tg X.K C m f) (F:bU X.prog X.w X.K X.mg X.base CX k f fd ps sp) (hr:fW k X.A) (hb:eZ X.K fd ps ds) (hd:bN dvs ds) (hx:iP CX X E) (ha:PA X (e::es) t)
  (hst:starEach (e::es) X.env=(false,eval e X.env)::starEach es X.env:=by rfl) (hpl:(backTo pos (starEach es X.env)).any (·.1)=false:=by rfl)
  (ht:eval (.Call (.Attribute o m apos) (e::es) [] pos) X.env=(do
   let ov <-eval o X.env
   standAt apos.atName
   let (f,first) <-holding [ov] (getMethod ov m pl)
   callWith pos f first (backTo pos (starEach (e::es) X.env)) (backToKw pos (keywordEach [] X.env))):=by rfl):
  PE X (.Call (.Attribute o m apos) (e::es) [] pos) (lZ C m sp dvs E ta t):=by
 intro pins s σ H Q I h
 refine PySem.W.methodCall_KW (pl:=pl) (cT (he pins s σ H _ I h) fun u s1 ⟨x,H1,I1,rx,a,dx,fs,ex,ea,l,q⟩=>?_) ht
 subst ex
 obtain rfl:u=Value.ref a:=rx
 refine uZ I1 ea c hm l ?_
 refine PySem.W.callWith_K (first:=[.ref a]) (h₀:=X.base) I.ok.mod.kin hm.kp (cT (ha pos pins s1 σ H1 _ I1 q) fun us s2 ⟨vs,H2,I2,r,q2⟩=>⟨I2.kIn,?_⟩) hst hpl
 exact Gb (us:=.ref a::us) (vs:=.ref a::vs) F hr hb hd hx I2 (.cons rfl r) q2
theorem cB {pl:Sem Bool} (he:PE X o ta) (c:Fb X.K C) (hm:Tg X.K C m f) (F:bU X.prog X.w X.K X.mg X.base CX k f fd ps sp) (hr:fW k X.A) (hb:eZ X.K fd ps ds) (hd:bN dvs ds) (hx:iP CX X E)
  (ht:eval (.Call (.Attribute o m apos) [] [] pos) X.env=(do
   let ov <-eval o X.env
   standAt apos.atName
   let (f,first) <-holding [ov] (getMethod ov m pl)
   callWith pos f first (backTo pos (starEach [] X.env)) (backToKw pos (keywordEach [] X.env))):=by rfl):
  PE X (.Call (.Attribute o m apos) [] [] pos) (lZ C m sp dvs E ta gR):=by
 intro pins s σ H Q I h
 refine PySem.W.methodCall_KW (pl:=pl) (cT (he pins s σ H _ I h) fun u s1 ⟨x,H1,I1,rx,a,dx,fs,ex,ea,l,q⟩=>?_) ht
 subst ex
 obtain rfl:u=Value.ref a:=rx
 refine uZ I1 ea c hm l ?_
 exact PySem.W.callWith_K0 (first:=[.ref a]) I1.kIn hm.kp (Gb (us:=[.ref a]) (vs:=[.ref a]) F hr hb hd hx I1 (.cons rfl .nil) q)
structure Mk (K:PySem.W.Frag) (C f:Addr):Prop where
 makes:PySem.W.makesIn K C=true
 init:PySem.W.findIn K (.ref C) "__init__"=some (some (.ref f))
 fn:PySem.W.isFn K (.ref f)=true
 kp:PySem.W.keepIn K (.ref C)=true
theorem El {pins:List (Addr×Obj)} {σ:St} {H:Hp} {s:Shared} {Q:VK} {us:List Value} {vs:List V} (M:Mk X.K C f) (F:bU X.prog X.w X.K X.mg X.base CX k f fd ps sp) (hr:fW (k+1) X.A) (hb:eZ X.K fd ps ds) (hd:bN dvs ds)
  (hx:iP CX X E) (I:aP X pins σ H s) (r:bN vs us)
  (h:∀ x dx,H x=none->H dx=none->dx≠x->sp (.ref x::(vs++dvs)) (upd (upd H dx (.own x)) x (.ins C dx [])) (fun v H2=>v=.non/\Q (.ref x) H2) E):
  wpAny (model X.prog X.w) X.A (call (.ref C) us) (EP X pins σ Q) X.xe s:=by
 have hq:=h (s.heap.objs.size+1) s.heap.objs.size (I.hok.fresh (Nat.le_succ _)) (I.hok.fresh (Nat.le_refl _)) (Nat.ne_of_lt (Nat.lt_succ_self _))
 have I2:=aP.made (C:=C) I
 have r2:bN (V.ref (s.heap.objs.size+1)::(vs++dvs)) (Value.ref (s.heap.objs.size+1)::(us++ds)):=.cons rfl (r.append hd)
 have hl:(Value.ref (s.heap.objs.size+1)::us++ds).length=ps.length:=by
  have e:=r2.length
  rw [F.len _ _ _ _ hq] at e
  exact e.symm
 refine wpAny_call (Cn (f:=f) I.kIn M.makes M.init (beq_iff_eq.mp M.fn) (codeAny_mono (F.run _ X.stack _ _ ⟨Value.ref (s.heap.objs.size+1)::us,[]⟩ (Value.ref (s.heap.objs.size+1)::(us++ds)) _ _ E (hr.make C us [])
  (I2.env0.make C us []) (hb _ (Value.ref (s.heap.objs.size+1)::us) I2.kIn hl) r2 hq) fun r s' hq'=>?_))
 cases r with
 |error e=>exact hx pins σ _ _ e s' I2 hq'
 |ok fl=>
  cases fl with
  |ret u=>
   obtain ⟨v,H',I3,rv,ev,q3⟩:=I2.after hq'
   subst ev
   exact ⟨rv,⟨V.ref (s.heap.objs.size+1),H',I3,rfl,q3⟩⟩
  |next=>exact False.elim hq'
  |brk=>exact False.elim hq'
  |cont=>exact False.elim hq'
theorem nF (M:Mk X.K C f) (F:bU X.prog X.w X.K X.mg X.base CX k f fd ps sp) (hr:fW (k+1) X.A) (hg:Gl X x) (hm:X.mg x=some (.ref C)) (hb:eZ X.K fd ps ds) (hd:bN dvs ds) (hx:iP CX X E)
  (ha:PA X (e::es) t) (hdb:(x==("__debug__":Str))=false:=by decide) (he:starEach (e::es) X.env=(false,eval e X.env)::starEach es X.env:=by rfl) (hpl:(backTo pos (starEach es X.env)).any (·.1)=false:=by rfl):
  PE X (.Call (.Name x p) (e::es) [] pos) (Jb C sp dvs E t):=by
 intro pins s σ H Q I h
 refine wpAny_Call_Name_kw (iZ I hg hm ?_ hdb)
 refine PySem.W.callWith_K (h₀:=X.base) I.ok.mod.kin M.kp (cT (ha pos pins s σ H _ I h) fun us s1 ⟨vs,H1,I1,r,q⟩=>⟨I1.kIn,?_⟩) he hpl
 exact El M F hr hb hd hx I1 r q
theorem Pb (M:Mk X.K C f) (F:bU X.prog X.w X.K X.mg X.base CX k f fd ps sp) (hr:fW (k+1) X.A) (hg:Gl X x) (hm:X.mg x=some (.ref C)) (hb:eZ X.K fd ps ds) (hd:bN dvs ds) (hx:iP CX X E)
  (hdb:(x==("__debug__":Str))=false:=by decide):PE X (.Call (.Name x p) [] [] pos) (Jb C sp dvs E gR):=by
 intro pins s σ H Q I h
 refine wpAny_Call_Name_kw (iZ I hg hm ?_ hdb)
 exact PySem.W.callWith_K0 I.kIn M.kp (El (us:=[]) M F hr hb hd hx I .nil h)
end
section
variable {X:Cx} {CX:Ez} {k:Nat} {f C:Addr} {fd:FuncData} {ps ks:List Str} {sp:Sp} {E:XK} {x m:Str} {p pos apos kpos:Pos} {e o:Expr} {es:List Expr} {kws:List Keyword} {te ta:TE} {t tk:TA} {nm:Option Str}
variable {g:List Value->List Value->List Value} {gV:List V->List V->List V}
end
structure aO (N P:List Str) (sc:Scope):Prop where
 kind:sc.kind=.function
 co:sc.isCoroutine=false
 gen:sc.isGenerator=false
 nd:N.Nodup
 pre:N.take P.length=P
 par:∀ x∈P,sc.names.lookup x=some .local\/sc.names.lookup x=some .cell
 nofree:∀ y∈sc.names,y.2≠.free
theorem xT {kindOf:Str->Option NameKind} {x:Str}:∀ {binds:List (Str×Value)} {m:Str->Option Value},(∀ v,(x,v)∉binds)->bindL kindOf binds m x=m x
 |[],_,_=>rfl
 |(n,v)::r,m,h=>by
  unfold bindL
  rw [xT fun w hw=>h w (List.mem_cons_of_mem _ hw)]
  split
  ·have:x≠n:=by rintro rfl;exact h v List.mem_cons_self
   simp [this]
  ·rfl
theorem yN {kindOf:Str->Option NameKind} {x:Str}:∀ {binds:List (Str×Value)} {m:Str->Option Value},(∀ v,(x,v)∉binds)->bindC kindOf binds m x=m x
 |[],_,_=>rfl
 |(n,v)::r,m,h=>by
  unfold bindC
  rw [yN fun w hw=>h w (List.mem_cons_of_mem _ hw)]
  split
  ·rfl
  ·have:x≠n:=by rintro rfl;exact h v List.mem_cons_self
   simp [this]
theorem zE {kindOf:Str->Option NameKind} {x:Str} {v:Value}:∀ {P:List Str} {vs:List Value} {i:Nat} {m:Str->Option Value},P.Nodup->P[i]?=some x->vs[i]?=some v->kindOf x=some .local->
  bindL kindOf (P.zip vs) m x=some v
 |[],_,_,_,_,h,_,_=>by simp at h
 |_::_,[],_,_,_,_,h,_=>by simp at h
 |p::P,w::vs,0,m,nd,h1,h2,hk=>by
  simp at h1 h2;subst h1;subst h2
  show bindL kindOf ((p,w)::P.zip vs) m p=_
  unfold bindL
  rw [xT fun v hv=>(List.nodup_cons.mp nd).1 (List.of_mem_zip hv).1,if_pos hk]
  simp
 |p::P,w::vs,i+1,m,nd,h1,h2,hk=>by
  show bindL kindOf ((p,w)::P.zip vs) m x=_
  unfold bindL
  exact zE (i:=i) (List.nodup_cons.mp nd).2 (by simpa using h1) (by simpa using h2) hk
theorem zG {kindOf:Str->Option NameKind} {x:Str} {v:Value}:∀ {P:List Str} {vs:List Value} {i:Nat} {m:Str->Option Value},P.Nodup->P[i]?=some x->vs[i]?=some v->kindOf x≠some .local->
  bindC kindOf (P.zip vs) m x=some v
 |[],_,_,_,_,h,_,_=>by simp at h
 |_::_,[],_,_,_,_,h,_=>by simp at h
 |p::P,w::vs,0,m,nd,h1,h2,hk=>by
  simp at h1 h2;subst h1;subst h2
  show bindC kindOf ((p,w)::P.zip vs) m p=_
  unfold bindC
  rw [yN fun v hv=>(List.nodup_cons.mp nd).1 (List.of_mem_zip hv).1,if_neg hk]
  simp
 |p::P,w::vs,i+1,m,nd,h1,h2,hk=>by
  show bindC kindOf ((p,w)::P.zip vs) m x=_
  unfold bindC
  exact zG (i:=i) (List.nodup_cons.mp nd).2 (by simpa using h1) (by simpa using h2) hk
def lN (N:List Str) (vs:List V):St:=vs.map some++List.replicate (N.length - vs.length) none
def Bh (CX:Ez) (P:Program) (w:World) (K:PySem.W.Frag) (mg:Str->Option Value) (base:Heap) (N:List Str) (qual:Str) (scope:Scope) (f:Addr) (cd:Value) (A:Around) (outer:List Env) (s:Shared) (H:Hp) (E:XK):Cx where
 prog:=P
 w:=w
 K:=K
 mg:=mg
 base:=base
 A:=A.deeper (envOfC qual scope s.heap.objs.size f cd)
 N:=N
 s_0:=s
 H_0:=H
 env:=envOfC qual scope s.heap.objs.size f cd
 outer:=outer
 stack:=envOfC qual scope s.heap.objs.size f cd::outer
 ex:=[]
 calm:=true
 fn:=fun _=>true
 pn:=[]
 xe:=fun e s'=>wpAny (model P w) (A.deeper (envOfC qual scope s.heap.objs.size f cd)) (leaving (envOfC qual scope s.heap.objs.size f cd) e) (fun _ s''=>CX outer H s E e s'') (fun e' s''=>CX outer H s E e' s'') s'
theorem Eo {sc:Scope} {n:Nat} {x:Str} (h:sc.names.lookup x=some .cell):∃ c,(cellsFrom n sc.names []).lookup x=some c:=by
 have q:=PySem.W.cellsFrom_some sc.names n [] (.inl h)
 exact Option.isSome_iff_exists.mp q
theorem zI {CX:Ez} {P:Program} {w:World} {K:PySem.W.Frag} {mg:Str->Option Value} {base:Heap} {N ps:List Str} {qual:Str} {scope:Scope} {f:Addr} {cd:Value} {A:Around} {outer:List Env} {s s1:Shared} {H:Hp} {E:XK} {us:List Value} {vs:List V}
  (S:aO N ps scope) (hd:A.handled=none) (e0:Da P w K mg base A outer s H) (hl:vs.length=ps.length) (r:bN vs us)
  (x:InCallC s s.heap.objs.size (bindL (envOfC qual scope s.heap.objs.size f cd).kindOf (ps.zip us) fun _=>none) (cellsFrom (s.heap.objs.size+1) scope.names []) (bindC (envOfC qual scope s.heap.objs.size f cd).kindOf (ps.zip us) fun _=>none) s1):
  aP (Bh CX P w K mg base N qual scope f cd A outer s H E) [] (lN N vs) H s1:=by
 have hpl:ps.length<=N.length:=by have:=congrArg List.length S.pre;rw [List.length_take] at this;omega
 obtain ⟨h1,tk,rfl,hk⟩:=x.done
 have noA:∀ b:Addr,b∉(Bh CX P w K mg base N qual scope f cd A outer s H E).ex:=fun b z=>absurd (show b∈([]:List Addr) from z) (by simp)
 refine ⟨⟨e0.mod,S.kind,rfl,rfl,Nat.le_refl _,fun y z c h1 h2=>?_,fun y hy=>?_,fun y c _ h=>?_,fun _=>hd,Around.frames_deeper e0.frames,.inr ⟨rfl,rfl⟩,fun b z=>absurd z (noA b),e0.bs,e0.bsz,fun b _ _=>noA b,fun b z=>absurd z (noA b),e0.funs,e0.frf⟩,
  rfl,e0.bare,Un.kept hk,⟨_,x.toInCall.ns,fun i y v h1 h2 h3=>?_⟩,fun y c h=>⟨_,x.cell y c h⟩,e0.hok.fresh (Nat.le_refl _),fun y c h=>?_,fun p hp=>absurd (show p∈([]:List (Addr×Obj)) from hp) (by simp),e0.hok.kept hk,?_⟩
 ·exact name_of_addr x.apart (PySem.mem_of_lookup h1) (PySem.mem_of_lookup h2)
 ·have hy:scope.names.lookup y=some .cell\/scope.names.lookup y=some .free:=hy
  rcases hy with hy|hy
  ·exact Eo hy
  ·exact absurd rfl (S.nofree _ (PySem.mem_of_lookup hy))
 ·exact Nat.le_of_lt (x.above y c (PySem.mem_of_lookup h))
 ·have hi:i<vs.length:=by
   unfold lN at h2
   by_cases hi:i<vs.length
   ·exact hi
   ·rw [List.getElem?_append_right (by simpa using hi)] at h2
    rw [List.getElem?_replicate] at h2
    split at h2<;>cases h2
  have ha:vs[i]?=some v:=by
   unfold lN at h2
   rw [List.getElem?_append_left (by simpa using hi),List.getElem?_map] at h2
   cases e:vs[i]? with
   |none=>rw [e] at h2;cases h2
   |some a=>rw [e] at h2;cases h2;rfl
  obtain ⟨u,hu,rv⟩:=r.get ha
  have hp:ps[i]?=some y:=by
   rw [<-S.pre,List.getElem?_take_of_lt (by omega)];exact h1
  have ndP:ps.Nodup:=by rw [<-S.pre];exact S.nd.sublist (List.take_sublist _ _)
  refine ⟨u,rv,?_⟩
  rcases S.par y (List.mem_of_getElem? hp) with k|k
  ·exact .inl ⟨k,zE ndP hp hu k⟩
  ·obtain ⟨c,e⟩:=Eo (n:=s.heap.objs.size+1) k
   refine .inr ⟨.inl k,c,e,?_⟩
   have q:=x.cell y c e
   rw [zG ndP hp hu (by show scope.names.lookup y≠_;rw [k];decide)] at q
   exact q
 ·exact e0.hok.fresh (Nat.le_of_lt (x.above y c (PySem.mem_of_lookup h)))
 ·unfold lN
  show _=N.length
  rw [List.length_append,List.length_map,List.length_replicate]
  omega
theorem Vs {CX:Ez} {P:Program} {w:World} {K:PySem.W.Frag} {mg:Str->Option Value} {base:Heap} {k:Nat} {f:Addr} {name qual:Str} {params:Arguments} {body:List Stmt} {scope:Scope} {dV kV doc pm cdv ct oc:Value} {an od:Option Addr}
  {osl:Array (Option Value)} {N ps:List Str} {sp:Sp} (lk:K.lookup f=some ⟨oc,od,.func (PySem.W.fnOf name qual params body scope dV kV doc pm an cdv ct),osl⟩) (hcd:PySem.W.codeIn K cdv qual=true) (S:aO N ps scope)
  (len:∀ vs H Q E,sp vs H Q E->vs.length=ps.length)
  (hbody:∀ (A:Around) (outer:List Env) (s:Shared) (H:Hp) (vs:List V) (Q:VK) (E:XK),fW k (A.deeper (envOfC qual scope s.heap.objs.size f cdv))->sp vs H Q E->
   ∃ t,xJ (Bh CX P w K mg base N qual scope f cdv A outer s H E) body t/\t {nx:=fun _ H'=>Q .non H',rt:=Q} (lN N vs) H):
  bU P w K mg base CX (k+1) f (PySem.W.fnOf name qual params body scope dV kV doc pm an cdv ct) ps sp:=by
 refine ⟨len,fun A outer s H args us vs Q E hr e0 hb r hsp=>?_⟩
 have hl:=len _ _ _ _ hsp
 have KX:K.In s.heap:=e0.mod.kin.keeps fun b o e=>(e0.bs b o e).1
 have lim:s.heap.NoLimit:=e0.mod.nolimit.keeps fun b o e=>(e0.bs b o e).1
 have hkind:∀ y∈ps.zip us,scope.names.lookup y.1=some .local\/(scope.names.lookup y.1=some .cell/\((cellsFrom (s.heap.objs.size+1) scope.names []).lookup y.1).isSome=true):=fun ⟨n,v⟩ hy=>by
  rcases S.par n (List.of_mem_zip hy).1 with q|q
  ·exact .inl q
  ·exact .inr ⟨q,PySem.W.cellsFrom_some _ _ _ (.inl q)⟩
 refine codeAny_call_function hr.depth (KX _ _ lk) rfl S.co S.gen rfl (PySem.W.codeRec_of KX hcd) (hb _ _ _ _ ?_)
 refine wpAny_newFunctionEnv_cells S.kind hkind fun env he s1 x=>?_
 subst he
 refine ⟨lim.keeps x.toInCall.keep,codeAny_func ?_⟩
 obtain ⟨t,ht,hq⟩:=hbody A outer s H vs Q E (hr.deeper _) hsp
 have I:aP (Bh CX P w K mg base N qual scope f cdv A outer s H E) [] (lN N vs) H s1:=zI S hr.hd e0 hl r x
 refine wpAny_mono (ht [] s1 (lN N vs) H _ I hq) (fun fl s' hs=>?_) fun e s' hs=>hs
 have fin:∀ {σ':St} {H':Hp} {v:V} {u:Value},aP (Bh CX P w K mg base N qual scope f cdv A outer s H E) [] σ' H' s'->cA v u->Q v H'->CE outer P w H s Q u s':=
  fun {σ' H' v u} J rv q=>⟨v,H',J.os,J.bare,J.base,J.hok,rv,q⟩
 cases fl with
 |ret u=>
  obtain ⟨v,σ',H',J,rv,q⟩:=hs
  exact fin J rv q
 |next=>
  obtain ⟨σ',H',J,q⟩:=hs
  exact fin (v:=V.non) (u:=Value.none) J rfl q
 |brk=>
  obtain ⟨_,_,_,q⟩:=hs
  exact False.elim q
 |cont=>
  obtain ⟨_,_,_,q⟩:=hs
  exact False.elim q
section
variable {X:Cx} {x:Str} {p pos:Pos} {e:Expr} {es:List Expr} {t:TA} {id T:String} {r:List V->Hp->VK->Prop}
def tCB (r:List V->Hp->VK->Prop) (t:TA):TE:=fun σ H Q=>t σ H fun vs H1=>r vs H1 Q
theorem bS (hc:mR X (.builtin id) r) (hg:Gl X x) (hm:X.mg x=none) (hv:bootBuiltins x=some (.builtin id)) (ha:PA X (e::es) t) (hn:x≠"__name__":=by decide) (hdb:(x==("__debug__":Str))=false:=by decide)
  (he:starEach (e::es) X.env=(false,eval e X.env)::starEach es X.env:=by rfl) (hpl:(backTo pos (starEach es X.env)).any (·.1)=false:=by rfl):PE X (.Call (.Name x p) (e::es) [] pos) (tCB r t):=by
 intro pins s σ H Q I h
 refine wpAny_Call_Name_kw (qU I hg hm hv ?_ hn hdb)
 exact PyProof.Rows.callWith_builtin1 (cT (ha pos pins s σ H _ I h) fun us s1 ⟨vs,H1,I1,r1,q1⟩=>hc pins s1 σ H1 vs us Q I1 r1 q1) he hpl
theorem jU (hc:mR X (.type T) r) (hg:Gl X x) (hm:X.mg x=none) (hv:bootBuiltins x=some (.type T)) (ha:PA X (e::es) t) (hn:x≠"__name__":=by decide) (hdb:(x==("__debug__":Str))=false:=by decide)
  (he:starEach (e::es) X.env=(false,eval e X.env)::starEach es X.env:=by rfl) (hpl:(backTo pos (starEach es X.env)).any (·.1)=false:=by rfl):PE X (.Call (.Name x p) (e::es) [] pos) (tCB r t):=by
 intro pins s σ H Q I h
 refine wpAny_Call_Name_kw (qU I hg hm hv ?_ hn hdb)
 exact PyProof.Rows.callWith_type1 (cT (ha pos pins s σ H _ I h) fun us s1 ⟨vs,H1,I1,r1,q1⟩=>hc pins s1 σ H1 vs us Q I1 r1 q1) he hpl
end
end L2
namespace HT
open PySem PyProof.Rows
theorem Qz (A:Around) (s:Shared) (a:Int) (t:Tok) (c:Int) (u:Tok):∃ e,SeqAt.EqAt A s (.int a t) (.int c u) e/\(e=true↔a=c):=
 ⟨(a==c),SeqAt.EqAt.int_int a t c u,by simp⟩
section
open PySem.SeqAt
open PySem.AutoSeq1 (wpAny_loadPart')
open PySem.MeetsSeq PySem.MeetsSeq2 PySem.MeetsSeq3
end
section
variable {prog:Program} {w:World} {A:Around} {E:Value->Shared->Prop} {s:Shared}
theorem Sj {t b:Addr} {vs ws:List Value} {Q:Value->Shared->Prop} (ht:IsTup s.heap t vs.toArray) (hb:IsTup s.heap b ws.toArray) (hv:vs≠[])
  (h1:ws=[]->Q (.ref t) s) (h2:ws≠[]->Q (.ref s.heap.objs.size) {s with heap:=s.heap.push {cls:=.type "tuple",data:=.seq (vs++ws).toArray}})
  (hsz:vs.length+ws.length<=sizeLine):wpAny (model prog w) A (binaryOp .Add (.ref t) (.ref b)) Q E s:=by
 obtain ⟨⟨cls,dd,data,sl⟩,ho,hc,n,hd⟩:=id ht
 obtain ⟨⟨cls2,dd2,data2,sl2⟩,ho2,hc2,n2,hd2⟩:=id hb
 simp only at hc hd hc2 hd2
 subst hc hd hc2 hd2
 have e:vs.toArray++ws.toArray=(vs++ws).toArray:=by simp
 by_cases hw:ws=[]
 ·exact concat_meets ⟨_,ho,rfl⟩ ⟨_,ho2,rfl⟩ noFill_tuple_add seq_tuple_add PySem.F.slot_tuple_add PySem.F.entry_tuple_add (PySem.F.args_tuple_add_2 _ _)
   (tuple_addW1 t b vs.toArray ws.toArray n n2 dd dd2 sl sl2 (by simpa using hv) (by simp [hw])) ⟨ho,ho2,h1 hw⟩
 ·refine concat_meets ⟨_,ho,rfl⟩ ⟨_,ho2,rfl⟩ noFill_tuple_add seq_tuple_add PySem.F.slot_tuple_add PySem.F.entry_tuple_add (PySem.F.args_tuple_add_2 _ _)
   (tuple_addW2 t b vs.toArray ws.toArray n n2 dd dd2 sl sl2 (by simpa using hv) (by simpa using hw) (by rw [List.size_toArray,List.size_toArray];exact hsz)) ⟨ho,ho2,?_⟩
  rw [e]
  exact h2 hw
def gQ (n d:Nat):Option Int->Nat
 |none=>d
 |some v=>if v<0 then (v+(n:Int)).toNat else min v.toNat n
theorem Rb (n d:Nat):gQ n d none=d:=rfl
theorem Ib (n d k:Nat):gQ n d (some (k:Int))=min k n:=by
 show (if (k:Int)<0 then ((k:Int)+(n:Int)).toNat else min (k:Int).toNat n)=min k n
 rw [if_neg (by omega),Int.toNat_natCast]
theorem Yp (n d:Nat) (hd:d<=n) (o:Option Int):gQ n d o<=n:=by
 cases o with
 |none=>exact hd
 |some v=>
  show (if v<0 then (v+(n:Int)).toNat else min v.toNat n)<=n
  by_cases hv:v<0
  ·rw [if_pos hv];omega
  ·rw [if_neg hv];exact Nat.min_le_right _ _
theorem Ii (v:Int) (n d:Nat):(if v<0 then max (v+(n:Int)) 0 else min v (n:Int))=((gQ n d (some v):Nat):Int):=by
 show (if v<0 then max (v+(n:Int)) 0 else min v (n:Int))=(((if v<0 then (v+(n:Int)).toNat else min v.toNat n):Nat):Int)
 by_cases hv:v<0
 ·simp only [if_pos hv];omega
 ·simp only [if_neg hv];omega
theorem Fq (lo hi:Option Int) (n:Nat):Builtin.Slice.sliceAdjust lo hi 1 (n:Int)=(((gQ n 0 lo:Nat):Int),((gQ n n hi:Nat):Int)):=by
 have h1:¬((1:Int)<0):=by omega
 unfold Builtin.Slice.sliceAdjust
 simp only [h1,if_false]
 refine Prod.ext ?_ ?_
 ·cases lo with
  |none=>rfl
  |some v=>exact Ii v n 0
 ·cases hi with
  |none=>rfl
  |some v=>exact Ii v n n
theorem Ha (i j:Nat):Builtin.Slice.slicePlaces (i:Int) (j:Int) 1=j - i:=by
 unfold Builtin.Slice.slicePlaces
 have h1:(1:Int)>0:=by omega
 simp only [h1,if_true,Int.ediv_one]
 split<;>omega
theorem wF {v:Value} {o:Option Int} {Q:Option Int->Shared->Prop} (p:IsPart v o) (h:Q o s):wpAny (model prog w) A (Builtin.Slice.slicePartIndex v) Q E s:=by
 cases p with
 |none=>exact slicePart_none h
 |int i t=>exact slicePart_int h
theorem jL {sl:Addr} {vl vu:Value} {lo hi:Option Int} {n:Nat} {Q:Int×Int×Nat->Shared->Prop} (hs:s.heap.IsSliceOf sl vl vu .none) (pl:IsPart vl lo) (pu:IsPart vu hi)
  (h:Q (((gQ n 0 lo:Nat):Int),1,gQ n n hi - gQ n 0 lo) s):wpAny (model prog w) A (Builtin.Slice.sliceApplied (.ref sl) (pure (n:Int))) Q E s:=by
 obtain ⟨os,hos,hcs,hds⟩:=id hs
 unfold Builtin.Slice.sliceApplied Builtin.Slice.sliceFields
 refine wpAny_bind (wpAny_bind (wpAny_field hos hds (x:=vl) rfl (wpAny_bind (wpAny_field hos hds (x:=vu) rfl (wpAny_bind (wpAny_field hos hds (x:=.none) rfl (wpAny_pure ?_)))))))
 refine wpAny_bind (slicePart_none ?_)
 show wpAny _ _ (if ((1:Int)==0)=true then _ else _) _ _ s
 rw [if_neg (by decide)]
 refine wpAny_bind (wF pl (wpAny_bind (wF pu (wpAny_bind (wpAny_pure ?_)))))
 show wpAny _ _ (match Builtin.Slice.sliceAdjust lo hi 1 (n:Int) with|(lo,hi)=>pure (lo,(1:Int),Builtin.Slice.slicePlaces lo hi 1)) _ _ s
 rw [Fq lo hi n]
 show wpAny _ _ (pure (((gQ n 0 lo:Nat):Int),(1:Int),Builtin.Slice.slicePlaces ((gQ n 0 lo:Nat):Int) ((gQ n n hi:Nat):Int) 1)) _ _ s
 rw [Ha]
 exact wpAny_pure h
theorem Rn (xs:Array Value) (i k:Nat):((List.range k).filterMap fun (m:Nat)=>xs[((i:Int)+(m:Int) * 1).toNat]?).toArray=((xs.toList.drop i).take k).toArray:=by
 have e:(fun (m:Nat)=>xs[((i:Int)+(m:Int) * 1).toNat]?)=fun m=>xs[i+m]?:=by
  funext m
  have:((i:Int)+(m:Int) * 1).toNat=i+m:=by omega
  rw [this]
 rw [e]
 have:=pick_run xs i k
 rw [List.filterMap_map] at this
 have e2:((fun x=>xs[x]?)∘fun x=>i+x)=fun m=>xs[i+m]?:=rfl
 rw [e2] at this
 rw [this]
theorem qA {t sl:Addr} {items:Array Value} {vl vu:Value} {lo hi:Option Int} {Q:Value->Shared->Prop} (ht:IsTup s.heap t items) (hs:s.heap.IsSliceOf sl vl vu .none) (pl:IsPart vl lo) (pu:IsPart vu hi)
  (hw:¬(gQ items.size 0 lo=0/\gQ items.size items.size hi=items.size))
  (h:Q (.ref s.heap.objs.size) {s with heap:=s.heap.push {cls:=.type "tuple",data:=.seq ((items.toList.drop (gQ items.size 0 lo)).take (gQ items.size items.size hi - gQ items.size 0 lo)).toArray}})
  (hsz:items.size<=sizeLine):wpAny (model prog w) A (getItem (.ref t) (.ref sl)) Q E s:=by
 have htake:sizeOk (.seq ((items.toList.drop (gQ items.size 0 lo)).take (gQ items.size items.size hi - gQ items.size 0 lo)).toArray):=by
  show ((items.toList.drop (gQ items.size 0 lo)).take (gQ items.size items.size hi - gQ items.size 0 lo)).toArray.size<=sizeLine
  rw [List.size_toArray,List.length_take,List.length_drop,Array.length_toList]
  omega
 have hj:gQ items.size items.size hi<=items.size:=Yp _ _ (Nat.le_refl _) hi
 obtain ⟨os,hos,hcs,hds⟩:=id hs
 have hTs:s.TypeIs (.ref sl) "slice":=⟨os,hos,hcs⟩
 unfold getItem
 try with_reducible refine wpAny_holding ?_
 first|refine wpAny_bind (wpAny_pure ?_)|skip
 refine wpAny_bind (wpAny_sequenceKey ht.typeIs (by decide) ?_)
 refine wpAny_bind (wpAny_callSpecial?_slot (name:=Str.ofString "__getitem__") ht.typeIs PyProof.Rows.slot_tuple_getitem
  (wpAny_call_entry PyProof.Rows.slot_tuple_getitem ht.typeIs entry_tuple_getitem ?_ (args_tuple_getitem _ _)))
 show wpAny _ _ (Builtin.Tuple.tupleItemsOf (.ref t)>>=_) _ _ s
 refine wpAny_bind (tupleItemsOf_ ht ?_)
 refine wpAny_bind (wpAny_typeOf hTs ?_)
 rw [if_pos (by decide)]
 refine wpAny_bind (jL hs pl pu ?_)
 have hno:¬((((gQ items.size 0 lo:Nat):Int)==0 && (1:Int)==1 && (gQ items.size items.size hi - gQ items.size 0 lo)==items.size)=true):=by
  intro q
  rw [Bool.and_eq_true,Bool.and_eq_true] at q
  have q1:((gQ items.size 0 lo:Nat):Int)=0:=eq_of_beq q.1.1
  have q2:gQ items.size items.size hi - gQ items.size 0 lo=items.size:=eq_of_beq q.2
  exact hw ⟨by omega,by omega⟩
 show wpAny _ _ (if (((gQ items.size 0 lo:Nat):Int)==0 && (1:Int)==1 && (gQ items.size items.size hi - gQ items.size 0 lo)==items.size)=true then _ else _) _ _ s
 rw [if_neg hno,Rn]
 first
  |exact wpAny_bind (m:=Builtin.Tuple.tupleExact _) (wpAny_newObj_type (wpAny_pure ⟨_,rfl,wpAny_pure h⟩) htake)
  |exact wpAny_bind (m:=Builtin.Tuple.tupleExact _) (wpAny_newObj_type (wpAny_bind (wpAny_pure (wpAny_pure ⟨_,rfl,wpAny_pure h⟩))) htake)
  |exact wpAny_bind (wpAny_bind (m:=Builtin.Tuple.tupleExact _) (wpAny_newObj_type (wpAny_pure (wpAny_pure ⟨_,rfl,wpAny_pure h⟩)) htake))
  |exact wpAny_bind (wpAny_bind (m:=Builtin.Tuple.tupleExact _) (wpAny_newObj_type (wpAny_pure ⟨_,rfl,wpAny_pure h⟩) htake))
end
end HT
namespace L2
open PySem PySem.Spec PyProof.Rows
abbrev TO:=St->Hp->(Option Int->Hp->Prop)->Prop
def PO (X:Cx) (e:Option Expr) (t:TO):Prop:=
 ∀ (pins:List (Addr×Obj)) (s:Shared) (σ:St) (H:Hp) (Q:Option Int->Hp->Prop),aP X pins σ H s->t σ H Q->
  wpAny (model X.prog X.w) X.A (evalPart e X.env) (fun u s'=>∃ o H',aP X pins σ H' s'/\IsPart u o/\Q o H') X.xe s
def Jh:TO:=fun _ H Q=>Q none H
def We (t:TE):TO:=fun σ H Q=>t σ H fun x H1=>∃ i,x=.int i/\Q (some i) H1
theorem fO {ns:List Int}:∀ {us:List Value},bN (ns.map V.int) us->IntsAre us ns:=by
 induction ns with
 |nil=>intro us r;rw [List.map_nil] at r;cases r;exact .nil
 |cons n ns ih=>
  intro us r
  rw [List.map_cons] at r
  cases r with
  |cons r1 r2=>
   obtain ⟨t,e⟩:=r1
   subst e
   exact .cons n t (ih r2)
section
variable {X:Cx} {e:Expr} {te:TE} {lo hi:Option Expr} {tl th:TO} {pos p2:Pos}
theorem Jm:PO X none Jh:=by
 intro pins s σ H Q I h
 rw [evalPart_none]
 exact wpAny_pure ⟨none,H,I,.none,h⟩
theorem Kc (h:PE X e te):PO X (some e) (We te):=by
 intro pins s σ H Q I hw
 rw [evalPart_some]
 refine cT (h pins s σ H _ I hw) fun u s1 ⟨x,H1,I1,r1,q1⟩=>?_
 obtain ⟨i,rfl,q⟩:=q1
 obtain ⟨t,rfl⟩:=r1
 exact ⟨some i,H1,I1,.int i t,q⟩
def SlR (X:Cx) (r:V->Option Int->Option Int->Hp->VK->Prop):Prop:=
 ∀ (pins:List (Addr×Obj)) (s:Shared) (σ:St) (H:Hp) (x:V) (v vl vu:Value) (lo hi:Option Int) (sl:Addr) (Q:VK),aP X pins σ H s->cA x v->s.heap.IsSliceOf sl vl vu .none->IsPart vl lo->IsPart vu hi->r x lo hi H Q->
  ∃ T id,typeLookup (.type T) "__getitem__"=pure (some (.builtin id))/\s.TypeIs v T/\wpAny (model X.prog X.w) X.A (getItem v (.ref sl)) (EP X pins σ Q) X.xe s
def tSl (r:V->Option Int->Option Int->Hp->VK->Prop) (te:TE) (tl th:TO):TE:=fun σ H Q=>te σ H fun x H1=>tl σ H1 fun l H2=>th σ H2 fun u H3=>r x l u H3 Q
theorem Ct {r:V->Option Int->Option Int->Hp->VK->Prop} (hr:SlR X r) (he:PE X e te) (hl:PO X lo tl) (hu:PO X hi th):PE X (.Subscript e (.Slice lo hi none p2) pos) (tSl r te tl th):=by
 intro pins s σ H Q I h
 refine Subscript_ (cT (he pins s σ H _ I h) fun v s1 ⟨x,H1,I1,r1,q1⟩=>?_)
 refine wpAny_Slice (cT (hl pins s1 σ H1 _ I1 q1) fun vl s2 ⟨l,H2,I2,pl,q2⟩=>cT (hu pins s2 σ H2 _ I2 q2) fun vu s3 ⟨u,H3,I3,pu,q3⟩=>?_)
 rw [evalPart_none]
 refine wpAny_pure ?_
 have I4:aP X pins σ H3 {s3 with heap:=s3.heap.push {cls:=.type "slice",data:=.fields #[vl,vu,.none]}}:=I3.kept (t':=s3.toks) fun b ob q=>Heap.get?_push_of_some _ q
 obtain ⟨T,id,hT,ht,hg⟩:=hr pins {s3 with heap:=s3.heap.push {cls:=.type "slice",data:=.fields #[vl,vu,.none]}} σ H3 x v vl vu l u s3.heap.objs.size Q I4 r1 (Heap.IsSliceOf.new ..) pl pu q3
 show wpAny (model X.prog X.w) X.A (subscriptTail e (.Slice lo hi none p2) v (.ref s3.heap.objs.size)) (EP X pins σ Q) X.xe {s3 with heap:=s3.heap.push {cls:=.type "slice",data:=.fields #[vl,vu,.none]}}
 exact tail_any (ops:=[.ref s3.heap.objs.size,v]) ht hT hg (by with_unfolding_all rfl)
def uS (xs:List V) (lo hi:Option Int):List V:=(xs.drop (HT.gQ xs.length 0 lo)).take (HT.gQ xs.length xs.length hi - HT.gQ xs.length 0 lo)
theorem Ch (xs:List V) (lo hi:Option Int):(uS xs lo hi).length<=xs.length:=by
 unfold uS
 rw [List.length_take,List.length_drop]
 omega
def aBt (K:PySem.W.Frag):V->Option Int->Option Int->Hp->VK->Prop:=fun x lo hi H Q=>∃ a xs,x=.ref a/\cN K H a xs/\
 ¬(HT.gQ xs.length 0 lo=0/\HT.gQ xs.length xs.length hi=xs.length)/\∀ p,H p=none->Q (.ref p) (upd H p (.tup (uS xs lo hi)))
theorem Wg:SlR X (aBt X.K):=by
 intro pins s σ H x v vl vu lo hi sl Q I rx hs pl pu h
 obtain ⟨a,xs,rfl,hx,hw,q⟩:=h
 cases rx
 obtain ⟨its,r,ht,hz⟩:=I.tuple hx
 have hlen:its.toArray.size=xs.length:=by rw [List.size_toArray];exact r.length.symm
 refine ⟨"tuple",_,PyProof.Rows.slot_tuple_getitem.lookup,ht.typeIs,?_⟩
 refine HT.qA ht hs pl pu (by rw [hlen];exact hw) ?_ (by rw [hlen];exact hz)
 rw [hlen]
 refine ⟨.ref s.heap.objs.size,_,I.laid (t':=s.toks) (o:=.tup (uS xs lo hi)) (fun b ob q=>Heap.get?_push_of_some _ q) (Nat.le_refl _) ?_,rfl,q _ (I.hok.fresh (Nat.le_refl _))⟩
 exact ⟨Nat.le_trans (Ch xs lo hi) hz,_,(r.drop (HT.gQ xs.length 0 lo)).take (HT.gQ xs.length xs.length hi - HT.gQ xs.length 0 lo),IsTup.new _ _⟩
def aA0 (K:PySem.W.Frag):R2:=fun x y H Q=>∃ a b xs ys,x=.ref a/\y=.ref b/\cN K H a xs/\cN K H b ys/\xs≠[]/\xs.length+ys.length<=sizeLine/\
 (ys=[]->Q (.ref a) H)/\(ys≠[]->∀ p,H p=none->Q (.ref p) (upd H p (.tup (xs++ys))))
theorem bN.nil_iff {xs:List V} {us:List Value} (r:bN xs us):us=[]↔xs=[]:=by
 cases r with
 |nil=>simp
 |cons _ _=>simp
theorem Ux:tD X (binaryOp .Add) (aA0 X.K):=by
 intro pins s σ H x y v u Q I rx ry h
 obtain ⟨a,b,xs,ys,rfl,rfl,ha,hb,hx,hz,q1,q2⟩:=h
 cases rx
 cases ry
 obtain ⟨its,r1,p1,_⟩:=I.tuple ha
 obtain ⟨its2,r2,p2,_⟩:=I.tuple hb
 refine HT.Sj p1 p2 (fun z=>hx (r1.nil_iff.mp z)) (fun z=>⟨.ref a,H,I,rfl,q1 (r2.nil_iff.mp z)⟩) (fun z=>?_) (by rw [<-r1.length,<-r2.length];exact hz)
 refine ⟨.ref s.heap.objs.size,_,I.laid (t':=s.toks) (o:=.tup (xs++ys)) (fun b ob q=>Heap.get?_push_of_some _ q) (Nat.le_refl _) ?_,rfl,q2 (fun w=>z (r2.nil_iff.mpr w)) _ (I.hok.fresh (Nat.le_refl _))⟩
 exact ⟨by rw [List.length_append];exact hz,_,r1.append r2,IsTup.new _ _⟩
end
def Zi (n:Nat) (i:Int):Option Nat:=if 0<=i then (if i<n then some i.toNat else none) else if -(n:Int)<=i then some (i+n).toNat else none
def Qq {α:Type} (xs:List α) (i:Int):Option α:=(Zi xs.length i).bind fun j=>xs[j]?
theorem Ve {n:Nat} {i:Int} {j:Nat} (h:Zi n i=some j):seqIndex? i n=some j/\j<n/\ -(n:Int)<=i/\i<n:=by
 unfold Zi at h
 by_cases h0:0<=i
 ·rw [if_pos h0] at h
  by_cases h1:i<n
  ·rw [if_pos h1] at h
   have e:i.toNat=j:=Option.some.inj h
   exact ⟨by rw [seqIndex_of h0 h1,e],by omega,by omega,h1⟩
  ·rw [if_neg h1] at h;cases h
 ·rw [if_neg h0] at h
  by_cases h1: -(n:Int)<=i
  ·rw [if_pos h1] at h
   have e:(i+n).toNat=j:=Option.some.inj h
   exact ⟨by rw [seqIndex_neg (by omega) h1,e],by omega,h1,by omega⟩
  ·rw [if_neg h1] at h;cases h
theorem Jr {α:Type} {xs:List α} {i:Int} {v:α} (h:Qq xs i=some v):∃ j,seqIndex? i xs.length=some j/\xs[j]?=some v/\j<xs.length/\ -(xs.length:Int)<=i/\i<xs.length:=by
 unfold Qq at h
 cases e:Zi xs.length i with
 |none=>rw [e] at h;cases h
 |some j=>
  rw [e] at h
  obtain ⟨h1,h2,h3,h4⟩:=Ve e
  exact ⟨j,h1,h,h2,h3,h4⟩
theorem kJ {α:Type} {xs:List α} {j:Nat} {v:α} (h:xs[j]?=some v):Qq xs (j:Int)=some v:=by
 have hj:j<xs.length:=(List.getElem?_eq_some_iff.mp h).1
 have e:Zi xs.length (j:Int)=some j:=by
  unfold Zi
  rw [if_pos (by omega),if_pos (by omega)];simp
 unfold Qq;rw [e];exact h
def Ua (b:Expr):Prop:=∀ o i,subscripted b false o i=operate [o,i] (getItem o i)
def IxR (X:Cx) (r:R2):Prop:=
 ∀ (value slice:Expr) (pins:List (Addr×Obj)) (s:Shared) (σ:St) (H:Hp) (x y:V) (v u:Value) (Q:VK),aP X pins σ H s->cA x v->cA y u->r x y H Q->
  subscripted slice false v u=operate [v,u] (getItem v u)->wpAny (model X.prog X.w) X.A (subscriptTail value slice v u) (EP X pins σ Q) X.xe s
def MtR (X:Cx) (id:String) (r:V->List V->Hp->VK->Prop):Prop:=
 ∀ (pins:List (Addr×Obj)) (s:Shared) (σ:St) (H:Hp) (x:V) (xs:List V) (v:Value) (us:List Value) (Q:VK),aP X pins σ H s->cA x v->bN xs us->r x xs H Q->
  wpAny (model X.prog X.w) X.A (call (.builtin id) (v::us)) (EP X pins σ Q) X.xe s
section
variable {X:Cx} {a b:Expr} {ta tb:TE} {pos:Pos}
theorem bY {r:R2} (hr:IxR X r) (ha:PE X a ta) (hb:PE X b tb) (hs:Ua b):PE X (.Subscript a b pos) (Fa r ta tb):=by
 intro pins s σ H Q I h
 exact Subscript_ (Yu ha hb I h fun v u s2 x y H2 I2 rx ry q=>hr a b pins s2 σ H2 x y v u Q I2 rx ry q (hs _ _))
def aCf (K:PySem.W.Frag):R2:=fun x y H Q=>∃ p xs i v,x=.ref p/\y=.int i/\dE K H p xs/\Qq xs i=some v/\Q v H
def pB (K:PySem.W.Frag):R2:=fun x y H Q=>∃ p xs i v,x=.ref p/\y=.int i/\cN K H p xs/\Qq xs i=some v/\Q v H
theorem kK:IxR X (aCf X.K):=by
 intro value slice pins s σ H x y v u Q I rx ry h hs
 obtain ⟨p,xs,i,z,rfl,rfl,hq,he,q⟩:=h
 cases rx
 obtain ⟨t,rfl⟩:=ry
 obtain ⟨its,r,pl,hz⟩:=I.list hq
 obtain ⟨j,h1,h2,h3,h4,h5⟩:=Jr he
 obtain ⟨w,ew,rw'⟩:=r.get h2
 have hl:=r.length
 have hn:=Gw
 have fin:EP X pins σ Q w s:=⟨z,H,I,rw',q⟩
 by_cases h0:0<=i
 ·have hj:i.toNat=j:=by
   rw [seqIndex_of h0 h5] at h1
   exact Option.some.inj h1
  exact item_listR pl.isList h0 (by omega) (by rw [hj];simpa using ew) fin hs
 ·have hj:(i+(its.toArray.size:Int)).toNat=j:=by
   rw [seqIndex_neg (by omega) h4] at h1
   rw [List.size_toArray,<-hl]
   exact Option.some.inj h1
  exact subscriptTail_builtinR (x:=w) pl.isList.typeIs slot_list_getitem.lookup
   (wpAny_getItem_list_neg (Q:=fun r s'=>r=w/\EP X pins σ Q r s') pl.isList (by omega) (by rw [List.size_toArray]<;>omega) (by omega) (by rw [hj];simpa using ew) ⟨rfl,fin⟩) hs
theorem bQ:IxR X (pB X.K):=by
 intro value slice pins s σ H x y v u Q I rx ry h hs
 obtain ⟨p,xs,i,z,rfl,rfl,hq,he,q⟩:=h
 cases rx
 obtain ⟨t,rfl⟩:=ry
 obtain ⟨its,r,pl,hz⟩:=I.tuple hq
 obtain ⟨j,h1,h2,h3,h4,h5⟩:=Jr he
 obtain ⟨w,ew,rw'⟩:=r.get h2
 have hl:=r.length
 have hn:=Gw
 have fin:EP X pins σ Q w s:=⟨z,H,I,rw',q⟩
 exact subscriptTail_builtinR (x:=w) pl.typeIs slot_tuple_getitem.lookup
  (getItem_tuple (j:=j) (Q:=fun r s'=>r=w/\EP X pins σ Q r s') pl (by omega) (by omega) (by rw [List.size_toArray,<-hl];exact h1) (by simpa using ew) ⟨rfl,fin⟩) hs
def oM:V->Bool
 |.non=>true
 |.bl _=>true
 |.int _=>true
 |.str _=>true
 |_=>false
def Vu:V->V->Bool
 |.non,.non=>true
 |.bl a,.bl b=>a==b
 |.bl a,.int b=>(if a then 1 else 0)==b
 |.int a,.bl b=>a==(if b then 1 else 0)
 |.int a,.int b=>a==b
 |.str a,.str b=>a==b
 |_,_=>false
theorem Wn {A:Around} {s:Shared} {y x:V} {u v:Value} (ry:cA y u) (rx:cA x v) (fy:oM y=true) (fx:oM x=true):SeqAt.EqAt A s u v (Vu y x):=by
 cases y with
 |non=>
  cases ry
  cases x with
  |non=>cases rx;exact SeqAt.EqAt.same _
  |bl b=>cases rx;exact SeqAt.EqAt.none_bool b
  |int b=>obtain ⟨t,rfl⟩:=rx;exact SeqAt.EqAt.none_int b t
  |str b=>obtain ⟨t,rfl⟩:=rx;exact SeqAt.EqAt.none_str b t
  |_=>exact absurd (show false=true from fx) Bool.false_ne_true
 |bl a=>
  cases ry
  cases x with
  |non=>cases rx;exact SeqAt.EqAt.bool_none a
  |bl b=>cases rx;exact SeqAt.EqAt.bool_bool a b
  |int b=>obtain ⟨t,rfl⟩:=rx;exact SeqAt.EqAt.bool_int a b t
  |str b=>obtain ⟨t,rfl⟩:=rx;exact SeqAt.EqAt.bool_str a b t
  |_=>exact absurd (show false=true from fx) Bool.false_ne_true
 |int a=>
  obtain ⟨t',rfl⟩:=ry
  cases x with
  |non=>cases rx;exact SeqAt.EqAt.int_none a t'
  |bl b=>cases rx;exact SeqAt.EqAt.int_bool a t' b
  |int b=>obtain ⟨t,rfl⟩:=rx;exact SeqAt.EqAt.int_int a t' b t
  |str b=>obtain ⟨t,rfl⟩:=rx;exact SeqAt.EqAt.int_str a t' b t
  |_=>exact absurd (show false=true from fx) Bool.false_ne_true
 |str a=>
  obtain ⟨t',rfl⟩:=ry
  cases x with
  |non=>cases rx;exact SeqAt.EqAt.str_none a t'
  |bl b=>cases rx;exact SeqAt.EqAt.str_bool a t' b
  |int b=>obtain ⟨t,rfl⟩:=rx;exact SeqAt.EqAt.str_int a t' b t
  |str b=>obtain ⟨t,rfl⟩:=rx;exact SeqAt.EqAt.str_str a t' b t
  |_=>exact absurd (show false=true from fx) Bool.false_ne_true
 |_=>exact absurd (show false=true from fy) Bool.false_ne_true
def Ta (x:V) (u:Value):Bool:=match u with
 |.none=>Vu .non x
 |.bool b=>Vu (.bl b) x
 |.int i _=>Vu (.int i) x
 |.str z _=>Vu (.str z) x
 |_=>false
theorem Oc {x y:V} {u:Value} (r:cA y u) (f:oM y=true):Ta x u=Vu y x:=by
 cases y with
 |non=>cases r;rfl
 |bl b=>cases r;rfl
 |int i=>obtain ⟨t,rfl⟩:=r;rfl
 |str z=>obtain ⟨t,rfl⟩:=r;rfl
 |_=>exact absurd (show false=true from f) Bool.false_ne_true
theorem zU {x:V}:∀ {xs:List V} {us:List Value},bN xs us->xs.all oM=true->us.any (Ta x)=xs.any fun y=>Vu y x
 |_,_,.nil,_=>rfl
 |y::xs,u::us,.cons r t,f=>by
  rw [List.all_cons,Bool.and_eq_true] at f
  rw [List.any_cons,List.any_cons,Oc r f.1,zU t f.2]
theorem vX {A:Around} {s:Shared} {x:V} {v:Value} (rx:cA x v) (fx:oM x=true):∀ {xs:List V} {us:List Value},bN xs us->xs.all oM=true->∀ u∈us,SeqAt.EqAt A s u v (Ta x u)
 |_,_,.nil,_=>fun u hu=>by cases hu
 |y::xs,u::us,.cons r t,f=>fun u' hu=>by
  rw [List.all_cons,Bool.and_eq_true] at f
  rcases List.mem_cons.mp hu with rfl|hu
  ·rw [Oc r f.1];exact Wn r rx f.1 fx
  ·exact vX rx fx t f.2 u' hu
def Qa (x:V) (xs:List V):Bool:=xs.any fun y=>Vu y x
def rIn (K:PySem.W.Frag) (neg:Bool):R2:=fun x y H Q=>∃ p xs,y=.ref p/\(dE K H p xs\/cN K H p xs)/\oM x=true/\xs.all oM=true/\Q (.bl (if neg then !Qa x xs else Qa x xs)) H
theorem kW:tD X (compareOp .NotIn) (rIn X.K true):=by
 intro pins s σ H x y v u Q I rx ry h
 obtain ⟨p,xs,rfl,hq,fx,fs,q⟩:=h
 cases ry
 rcases hq with hq|hq
 ·obtain ⟨its,r,pl,hz⟩:=I.list hq
  refine SeqAt.notIn_listAt (Ta x) pl.isList (fun w hw=>vX rx fx r fs w (by simpa using hw)) ⟨.bl _,H,I,rfl,?_⟩
  rw [show its.toArray.any (Ta x)=its.any (Ta x) by simp,zU r fs]
  exact q
 ·obtain ⟨its,r,pl,hz⟩:=I.tuple hq
  refine SeqAt.notIn_tupleAt (Ta x) pl (fun w hw=>vX rx fx r fs w (by simpa using hw)) ⟨.bl _,H,I,rfl,?_⟩
  rw [show its.toArray.any (Ta x)=its.any (Ta x) by simp,zU r fs]
  exact q
theorem bW:mR X (.builtin "len") (fun xs H Q=>∃ p ys,xs=[.ref p]/\(dE X.K H p ys\/cN X.K H p ys)/\Q (.int ys.length) H):=by
 intro pins s σ H xs us Q I r h
 obtain ⟨p,ys,rfl,hq,q⟩:=h
 obtain ⟨u,rfl,rx⟩:=vP r
 cases rx
 have hn:=Gw
 rcases hq with hq|hq
 ·obtain ⟨its,r',pl,hz⟩:=I.list hq
  have hlen:=r'.length
  exact Calls.call_len_list pl.isList (by simp only [List.size_toArray]<;>omega) ⟨.int ys.length,H,I.tok _,⟨s.toks+1,by rw [List.size_toArray,hlen]⟩,q⟩
 ·obtain ⟨its,r',pl,hz⟩:=I.tuple hq
  have hlen:=r'.length
  exact len_tuple pl (by simp only [List.size_toArray]<;>omega) ⟨.int ys.length,H,I.tok _,⟨s.toks+1,by rw [List.size_toArray,hlen]⟩,q⟩
theorem pT:mR X (.type "list") (fun xs H Q=>∃ p ys,xs=[.ref p]/\(dE X.K H p ys\/cN X.K H p ys)/\∀ l,H l=none->Q (.ref l) (upd H l (.lst ys))):=by
 intro pins s σ H xs us Q I r h
 obtain ⟨p,ys,rfl,hq,q⟩:=h
 obtain ⟨u,rfl,rx⟩:=vP r
 cases rx
 have fin:∀ (its:List Value),bN ys its->ys.length<=sizeLine->∀ (h':Heap) (c':Nat),(∀ b o',s.heap.get? b=some o'->h'.get? b=some o')->
   h'.get? s.heap.objs.size=some {cls:=.type "list",dict:=none,data:=.seq its.toArray c',slots:=#[]}->EP X pins σ Q (.ref s.heap.objs.size) {s with heap:=h'}:=fun its r' hz h' c' kp e=>
  ⟨.ref s.heap.objs.size,_,I.laid (t':=s.toks) kp (Nat.le_refl _) (show cJ X.prog X.w _ h' _ (.lst ys) from ⟨hz,its,c',r',e⟩),rfl,q _ (I.hok.fresh (Nat.le_refl _))⟩
 rcases hq with hq|hq
 ·obtain ⟨its,r',pl,hz⟩:=I.list hq
  have hlen:=r'.length
  obtain ⟨o,ho,hc,n,hd⟩:=pl.isList
  exact call_list_seq p (.inl rfl) ho hc hd (fun h' c' kp e=>fin its r' hz h' c' kp e) (by simp only [List.size_toArray]<;>omega)
 ·obtain ⟨its,r',pl,hz⟩:=I.tuple hq
  have hlen:=r'.length
  obtain ⟨o,ho,hc,n,hd⟩:=pl
  exact call_list_seq p (.inr rfl) ho hc hd (fun h' c' kp e=>fin its r' hz h' c' kp e) (by simp only [List.size_toArray]<;>omega)
theorem oK:mR X (.type "tuple") (fun xs H Q=>∃ p ys,xs=[.ref p]/\((dE X.K H p ys/\∀ l,H l=none->Q (.ref l) (upd H l (.tup ys)))\/(cN X.K H p ys/\Q (.ref p) H))):=by
 intro pins s σ H xs us Q I r h
 obtain ⟨p,ys,rfl,h⟩:=h
 obtain ⟨u,rfl,rx⟩:=vP r
 cases rx
 rcases h with ⟨hq,q⟩|⟨hq,q⟩
 ·obtain ⟨its,r',pl,hz⟩:=I.list hq
  have hlen:=r'.length
  refine call_tuple_list pl.isList (fun h' kp=>?_) (by simp only [List.size_toArray]<;>omega)
  have I1:aP X pins σ H {s with heap:=h'}:=I.kept (t':=s.toks) kp
  have I2:aP X pins σ (upd H h'.objs.size (.tup ys)) {s with heap:=h'.push {cls:=.type "tuple",data:=.seq its.toArray}}:=
   I1.laid (t':=s.toks) (fun b o e=>Heap.get?_push_of_some _ e) (Nat.le_refl _) (show cJ X.prog X.w _ _ _ (.tup ys) from ⟨hz,its,r',IsTup.new _ _⟩)
  exact ⟨.ref h'.objs.size,_,I2,rfl,q _ (I1.hok.fresh (Nat.le_refl _))⟩
 ·obtain ⟨its,r',pl,hz⟩:=I.tuple hq
  exact call_tuple_same pl ⟨.ref p,H,I,rfl,q⟩
def tyV (K:PySem.W.Frag) (T:String) (x:V) (H:Hp):Prop:=match x with
 |.str _=>T="str"
 |.int _=>T="int"
 |.ref p=>(T="list"/\∃ xs,dE K H p xs)\/(T="tuple"/\∃ o,K.lookup p=some o/\o.cls=.type "tuple"/\o.dict=none)\/
   (T="dict"/\((∃ aI,H p=some (.dK aI))\/∃ aI,H p=some (.dT aI)))\/(T="set"/\∃ S n,H p=some (.set S n))
 |_=>False
theorem Os {pins:List (Addr×Obj)} {σ:St} {H:Hp} {s:Shared} {T:String} {x:V} {v:Value} (I:aP X pins σ H s) (r:cA x v) (ty:tyV X.K T x H):
  s.TypeIs v T/\∀ a,v=.ref a->∃ ob,s.heap.get? a=some ob/\ob.dict=none:=by
 cases x with
 |str z=>
  obtain ⟨t,rfl⟩:=r
  cases (show T="str" from ty)
  exact ⟨typeIs_str s z t,fun _ e=>nomatch e⟩
 |int i=>
  obtain ⟨t,rfl⟩:=r
  cases (show T="int" from ty)
  exact ⟨typeIs_int s i t,fun _ e=>nomatch e⟩
 |ref p=>
  cases r
  rcases ty with ⟨rfl,xs,hq⟩|⟨rfl,o,hk,hc,hd⟩|⟨rfl,hk⟩|⟨rfl,S,n,hk⟩
  ·obtain ⟨its,_,pl,_⟩:=I.list hq
   refine ⟨pl.isList.typeIs,fun a e=>?_⟩
   cases e
   obtain ⟨o,n,e,c,hd,_⟩:=pl
   exact ⟨o,e,hd⟩
  ·refine ⟨⟨o,I.kIn p o hk,hc⟩,fun a e=>?_⟩
   cases e
   exact ⟨o,I.kIn _ o hk,hd⟩
  ·have z:∃ o,s.heap.get? p=some o/\o.ExactDict:=by
    rcases hk with ⟨aI,hk⟩|⟨aI,hk⟩
    ·obtain ⟨_,_,_,_,o,_,_,e,ex,_⟩:=I.hok p _ hk
     exact ⟨o,e,ex⟩
    ·obtain ⟨_,_,_,_,o,_,_,e,ex,_⟩:=I.hok p _ hk
     exact ⟨o,e,ex⟩
   obtain ⟨o,e,ex⟩:=z
   refine ⟨⟨o,e,ex.1⟩,fun a e2=>?_⟩
   cases e2
   exact ⟨o,e,ex.2.1⟩
  ·obtain ⟨o,_,_,_,e,ex,_⟩:=I.hok p _ hk
   refine ⟨⟨o,e,ex.1⟩,fun a e2=>?_⟩
   cases e2
   exact ⟨o,e,ex.2.1⟩
 |_=>exact False.elim ty
def aCe (K:PySem.W.Frag) (T:String) (r:V->List V->Hp->VK->Prop) (to:TE):TE:=fun σ H Q=>to σ H fun x H1=>tyV K T x H1/\r x [] H1 Q
def tBM (K:PySem.W.Frag) (T:String) (r:V->List V->Hp->VK->Prop) (to:TE) (t:TA):TE:=fun σ H Q=>to σ H fun x H1=>tyV K T x H1/\t σ H1 fun xs H2=>r x xs H2 Q
variable {o e:Expr} {es:List Expr} {to:TE} {t:TA} {name:Str} {apos cpos:Pos} {T id:String} {r:V->List V->Hp->VK->Prop}
theorem Yo (pa:PlainAttrs T) (slot:Slot T name id) (hty:typeOf (.builtin id)=pure (.type "method_descriptor")) (hm:MtR X id r) (ho:PE X o to)
  (hbase:attributeBase o name X.env (eval o X.env)=eval o X.env:=by rfl) (hline:(apos.endLine==cpos.line)=true:=by rfl):PE X (.Call (.Attribute o name apos) [] [] cpos) (aCe X.K T r to):=by
 intro pins s σ H Q I h
 refine wpAny_Call_method0_late hbase hline (cT (ho pins s σ H _ I h) fun v s1 ⟨x,H1,I1,r1,ty,q1⟩=>?_)
 obtain ⟨h1,h2⟩:=Os I1 r1 ty
 exact ⟨T,id,pa,slot,hty,h1,h2,Calls.callWith_builtin rfl (PySem.evalArgs_none (hm pins s1 σ H1 x [] v [] Q I1 r1 .nil q1))⟩
theorem mD (pa:PlainAttrs T) (slot:Slot T name id) (hty:typeOf (.builtin id)=pure (.type "method_descriptor")) (hm:MtR X id r) (ho:PE X o to) (ha:PA X (e::es) t)
  (hbase:attributeBase o name X.env (eval o X.env)=eval o X.env:=by rfl)
  (hfew:((backTo cpos (starEach (e::es) X.env)).all (fun x=> !x.1) && (backToKw cpos (keywordEach [] X.env)).all (fun x=>x.1.isSome)
   && decide ((e::es).length+([]:List Keyword).length+(if ([]:List Keyword).isEmpty then 0 else 1)<30))=true:=by rfl)
  (hline:(apos.endLine==cpos.line)=true:=by rfl) (hs:starEach (e::es) X.env=(false,eval e X.env)::starEach es X.env:=by rfl) (hplain:(backTo cpos (starEach es X.env)).any (·.1)=false:=by rfl):
  PE X (.Call (.Attribute o name apos) (e::es) [] cpos) (tBM X.K T r to t):=by
 intro pins s σ H Q I h
 refine wpAny_Call_method_late hbase hfew hline rfl (cT (ho pins s σ H _ I h) fun v s1 ⟨x,H1,I1,r1,ty,q1⟩=>?_)
 obtain ⟨h1,h2⟩:=Os I1 r1 ty
 refine ⟨T,id,pa,slot,hty,h1,h2,?_⟩
 have hA:=ha cpos pins s1 σ H1 _ I1 q1
 rw [hs] at hA ⊢
 refine Calls.callWith_builtin (by show (false||(backTo cpos (starEach es X.env)).any (·.1))=false;rw [hplain]<;>rfl) (Calls.evalArgs_plain ?_)
 exact cT hA fun us s2 ⟨vs,H2,I2,r2,q2⟩=>hm pins s2 σ H2 x vs v us Q I2 r1 r2 q2
end
def MtM (X:Cx) (id:String) (r:V->List V->Hp->VK->Prop):Prop:=
 ∀ (pins:List (Addr×Obj)) (s:Shared) (σ:St) (H:Hp) (x:V) (xs:List V) (v:Value) (us:List Value) (Q:VK),aP X pins σ H s->cA x v->bN xs us->r x xs H Q->
  wpAny (model X.prog X.w) X.A (call (.builtin id) (v::us)) (EP X pins σ Q) X.xe s
theorem bN.one:∀ {x:V} {us:List Value},bN [x] us->∃ u,us=[u]/\cA x u
 |_,_,.cons r .nil=>⟨_,rfl,r⟩
theorem bN.zero:∀ {us:List Value},bN [] us->us=[]
 |_,.nil=>rfl
theorem bN.dropLast {xs:List V} {us:List Value} (h:bN xs us):bN xs.dropLast us.dropLast:=by
 induction h with
 |nil=>exact .nil
 |cons r t ih=>
  cases t with
  |nil=>exact .nil
  |cons q t'=>exact .cons r ih
theorem Hm {α:Type} (l:List α):l.eraseIdx (l.length - 1)=l.dropLast:=by
 induction l with
 |nil=>rfl
 |cons a r ih=>
  cases r with
  |nil=>rfl
  |cons b r=>
   have e:(a::b::r).length - 1=((b::r).length - 1)+1:=by
    have h1:(a::b::r).length=r.length+2:=rfl
    have h2:(b::r).length=r.length+1:=rfl
    omega
   rw [e,List.eraseIdx_cons_succ,ih]
   all_goals rfl
section
variable {X:Cx} {pins:List (Addr×Obj)} {σ:St} {H:Hp} {s:Shared} {l b:Addr} {xs ys zs:List V}
theorem aP.lset {its its':List Value} {n:Nat} {f:Array Value->Array Value} {t':Nat} (I:aP X pins σ H s) (hH:H l=some (.lst xs))
  (e:s.heap.get? l=some {cls:=.type "list",data:=.seq its.toArray n}) (hf:f its.toArray=its'.toArray) (hv:bN ys its') (hz:ys.length<=sizeLine):
  aP X pins σ (upd H l (.lst ys)) {s with heap:=s.heap.update l (Obj.mapSeq f),toks:=t'}:=by
 have q:=PySem.IsL.update e f
 rw [hf] at q
 refine I.write (x:=l) (e:=l) (by rw [hH];exact trivial) (.inl rfl) (fun b' u hb hu=>(Heap.get?_update_other s.heap (Obj.mapSeq f) (Ne.symm hb)).trans hu) ⟨_,q⟩ ?_
 exact ⟨hz,its',_,hv,q⟩
theorem aP.lnew {its:List Value} {t':Nat} (I:aP X pins σ H s) (hv:bN ys its) (hz:ys.length<=sizeLine):
  aP X pins σ (upd H s.heap.objs.size (.lst ys)) {s with heap:=s.heap.push {cls:=.type "list",data:=.seq its.toArray},toks:=t'}:=
 I.laid (fun _ _ q=>Heap.get?_push_of_some _ q) (Nat.le_refl _) ⟨hz,its,0,hv,Heap.get?_push_size _ rfl⟩
theorem aP.fresh (I:aP X pins σ H s):H s.heap.objs.size=none:=I.hok.fresh (Nat.le_refl _)
theorem aP.lstM (I:aP X pins σ H s) (hH:H l=some (.lst xs)):xs.length<=sizeLine/\∃ (its:List Value) (n:Nat),bN xs its/\xs.length=its.length/\s.heap.get? l=some {cls:=.type "list",data:=.seq its.toArray n}:=by
 obtain ⟨z,its,n,r,e⟩:=I.hok l _ hH
 exact ⟨z,its,n,r,r.length,e⟩
theorem Oj {n:Nat} (h:n<=sizeLine):Builtin.List.listTooLong n=false:=by
 unfold Builtin.List.listTooLong
 exact decide_eq_false (by omega)
end
section
variable {X:Cx}
def Kf:V->List V->Hp->VK->Prop:=fun x vs H Q=>∃ l xs y,x=.ref l/\vs=[y]/\H l=some (.lst xs)/\xs.length<sizeLine/\Q .non (upd H l (.lst (xs++[y])))
theorem gG:MtM X "list.append" Kf:=by
 intro pins s σ H x vs v us Q I rx rv h
 obtain ⟨l,xs,y,rfl,rfl,hH,hz,q⟩:=h
 cases rx
 obtain ⟨u,rfl,ru⟩:=rv.one
 obtain ⟨z,its,n,r,hl,e⟩:=I.lstM hH
 refine call_meets F.slot_list_append ⟨_,e,rfl⟩ F.entry_list_append (F.args_list_append_2 _ _) (PySem.list_append l its.toArray n u (by rw [List.size_toArray];omega)) ⟨e,?_⟩
 refine ⟨.non,_,I.lset (its':=its++[u]) hH e (by simp) (r.append (.cons ru .nil)) ?_,rfl,q⟩
 rw [List.length_append,List.length_singleton]
 omega
def Vg:V->List V->Hp->VK->Prop:=fun x vs H Q=>∃ l b xs zs,x=.ref l/\vs=[.ref b]/\H l=some (.lst xs)/\H b=some (.lst zs)/\xs.length+zs.length<=sizeLine/\Q .non (upd H l (.lst (xs++zs)))
theorem sC:MtM X "list.extend" Vg:=by
 intro pins s σ H x vs v us Q I rx rv h
 obtain ⟨l,b,xs,zs,rfl,rfl,hH,hB,hz,q⟩:=h
 cases rx
 obtain ⟨u,rfl,ru⟩:=rv.one
 cases ru
 obtain ⟨z,its,n,r,hl,e⟩:=I.lstM hH
 obtain ⟨z2,its2,n2,r2,hl2,e2⟩:=I.lstM hB
 have hsz:its.toArray.size+its2.toArray.size<=sizeLine:=by rw [List.size_toArray,List.size_toArray];omega
 have hlong:¬(!its.toArray.isEmpty && Builtin.List.listTooLong (its.toArray.size+its2.toArray.size))=true:=by
  rw [Oj hsz,Bool.and_false]
  exact Bool.false_ne_true
 refine call_meets F.slot_list_extend ⟨_,e,rfl⟩ F.entry_list_extend (F.args_list_extend_2 _ _)
  (AutoSeq1.list_extend_list_list_0 l its.toArray n b its2.toArray n2 hlong (by rw [List.size_toArray];omega) (by omega)) ⟨e,e2,?_⟩
 refine ⟨.non,_,I.lset (its':=its++its2) hH e (by simp) (r.append r2) ?_,rfl,q⟩
 rw [List.length_append]
 omega
def aCg:V->List V->Hp->VK->Prop:=fun x vs H Q=>∃ l xs y,x=.ref l/\vs=[]/\H l=some (.lst xs)/\xs[xs.length - 1]?=some y/\Q y (upd H l (.lst xs.dropLast))
theorem Yw:MtM X "list.pop" aCg:=by
 intro pins s σ H x vs v us Q I rx rv h
 obtain ⟨l,xs,y,rfl,rfl,hH,hy,q⟩:=h
 cases rx
 have hus:=rv.zero
 subst hus
 obtain ⟨z,its,n,r,hl,e⟩:=I.lstM hH
 obtain ⟨u,hu,ru⟩:=r.get hy
 have hy':its.toArray[its.toArray.size - 1]?=some u:=by
  show its.toArray[its.length - 1]?=some u
  rw [<-Array.getElem?_toList,<-hl]
  exact hu
 refine call_meets F.slot_list_pop ⟨_,e,rfl⟩ F.entry_list_pop (F.args_list_pop_1 _) (MeetsSeq.list_pop_last l its.toArray n u hy' (by rw [List.size_toArray];omega)) ⟨e,?_⟩
 refine ⟨y,_,I.lset (its':=its.dropLast) hH e ?_ r.dropLast ?_,ru,q⟩
 ·show its.toArray.eraseIdxIfInBounds (its.toArray.size - 1)=its.dropLast.toArray
  rw [List.size_toArray,List.eraseIdxIfInBounds_toArray,Hm]
 ·rw [List.length_dropLast]
  omega
def aB1:R2:=fun x y H Q=>∃ l b xs zs,x=.ref l/\y=.ref b/\H l=some (.lst xs)/\H b=some (.lst zs)/\xs.length+zs.length<=sizeLine/\∀ p,H p=none->Q (.ref p) (upd H p (.lst (xs++zs)))
theorem Ak:tD X (binaryOp .Add) aB1:=by
 intro pins s σ H x y v u Q I rx ry h
 obtain ⟨l,b,xs,zs,rfl,rfl,hH,hB,hz,q⟩:=h
 cases rx
 cases ry
 obtain ⟨z,its,n,r,hl,e⟩:=I.lstM hH
 obtain ⟨z2,its2,n2,r2,hl2,e2⟩:=I.lstM hB
 refine PySem.P.add_list e e2 ?_ (by rw [List.size_toArray,List.size_toArray];omega)
 have ea:its.toArray++its2.toArray=(its++its2).toArray:=by simp
 rw [ea]
 exact ⟨.ref _,_,I.lnew (t':=s.toks) (r.append r2) (by rw [List.length_append];omega),rfl,q _ I.fresh⟩
end
section
variable {prog:Program} {w:World} {A:Around} {E:Value->Shared->Prop} {s:Shared}
end
section
variable {X:Cx}
end
theorem bN.ints:∀ {ns:List Int} {us:List Value},bN (ns.map V.int) us->IntsAre us ns
 |[],us,h=>by
  rw [List.map_nil] at h
  cases h
  exact IntsAre.nil
 |n::ns,us,h=>by
  rw [List.map_cons] at h
  cases h with
  |cons r t=>
   obtain ⟨k,rfl⟩:=r
   exact IntsAre.cons n k (bN.ints t)
theorem bN.bls:∀ {bs:List Bool} {us:List Value},bN (bs.map V.bl) us->us=bs.map Value.bool
 |[],us,h=>by
  rw [List.map_nil] at h
  cases h
  rfl
 |b::bs,us,h=>by
  rw [List.map_cons] at h
  cases h with
  |cons r t=>
   cases r
   rw [bN.bls t,List.map_cons]
theorem bN.ref1 {a:Addr} {us:List Value} (r:bN [V.ref a] us):us=[Value.ref a]:=by
 cases r with
 |cons r t=>
  cases t
  cases r
  rfl
section
variable {prog:Program} {w:World} {A:Around} {E:Value->Shared->Prop} {s:Shared} {l:Addr} {its:List Value} {ns:List Int} {Q:Value->Shared->Prop}
theorem Se (hh:A.handled=none) (hl:s.heap.IsList l its.toArray) (hi:IntsAre its ns) (hne:0<ns.length)
  (h:∀ h' tk M t',(∀ b o,s.heap.get? b=some o->h'.get? b=some o)->M∈ns->(∀ a,a∈ns->M<=a)->Q (.int M t') {s with heap:=h',toks:=tk}):wpAny (model prog w) A (call (.builtin "min") [.ref l]) Q E s:=by
 obtain ⟨xs,e⟩:=hi.allInts.items
 have hn:numsOf (intItems xs).toList=ns:=by rw [<-e];exact hi.numsOf
 rw [nums_intItems] at hn
 subst hn
 rw [e] at hl
 have hsz:0<xs.size:=by simpa using hne
 refine PySem.min_intList hh hl hsz fun v h' tk hv hk=>?_
 obtain ⟨t,rfl⟩:=intItems_at hv
 obtain ⟨h1,h2⟩:=argBest_lt (numAt xs) (xs.size - 1)
 refine h h' tk _ t hk ?_ fun a ha=>?_
 ·rw [numAt_eq];exact PySem.getD_mem (by rw [List.length_map,Array.length_toList];omega)
 ·obtain ⟨j,hj,rfl⟩:=mem_getD ha
  rw [List.length_map,Array.length_toList] at hj
  rw [<-numAt_eq];exact h2 j (by omega)
end
section
variable {X:Cx}
def aB6 (K:PySem.W.Frag):List V->Hp->VK->Prop:=fun vs H Q=>∃ (a:Addr) (ns:List Int),vs=[V.ref a]/\dE K H a (ns.map V.int)/\0<ns.length/\∀ m,m∈ns->(∀ y,y∈ns->m<=y)->Q (.int m) H
theorem Pz (hc:X.calm=true):mR X (.builtin "min") (aB6 X.K):=by
 intro pins s σ H vs us Q I r h
 obtain ⟨a,ns,rfl,hs,hne,q⟩:=h
 obtain ⟨its,rv,hl,_⟩:=I.list hs
 rw [bN.ref1 r]
 exact Se (I.ok.hd hc) hl.isList rv.ints hne fun h' tk m t' hk h1 h2=>⟨.int _,H,I.kept hk,⟨_,rfl⟩,q m h1 h2⟩
end
section
variable {X:Cx}
end
section
variable {X:Cx}
end
theorem Ew {prog:Program} {w:World} {A:Around} {E:Value->Shared->Prop} {s:Shared} {l:Addr} {items:Array Value} {Q:Value->Shared->Prop} (hl:s.heap.IsList l items)
  (h:∀ s₂:Shared,s₂={s with heap:=s.heap.push {cls:=.type "list_iterator",data:=.fields #[.ref l,.int 0 0]}}->
   (s₂.heap.IsListIter s.heap.objs.size l 0/\s₂.heap.IsList l items)->l≠s.heap.objs.size->Q (.ref s.heap.objs.size) s₂):wpAny (model prog w) A (pyIter (.ref l)) Q E s:=by
 have hlt:l<s.heap.objs.size:=by obtain ⟨_,e,_⟩:=hl;exact Heap.lt_size e
 exact wpAny_pyIter_list hl (h _ rfl ⟨⟨_,Heap.get?_push_size _ rfl,rfl,rfl⟩,hl.push _⟩ (Nat.ne_of_lt hlt))
theorem sR {prog:Program} {w:World} {A:Around} {bs:List Bool} {its:List Value} (e:its=bs.map Value.bool):
  TruthOf prog w A (fun i v=>its.toArray[i]?=some v) (fun i=>bs.getD i false):=fun i v s Q E hv hq=>by
 have hv':its[i]?=some v:=by simpa using hv
 rw [e,List.getElem?_map] at hv'
 obtain ⟨b,hb,rfl⟩:=Option.map_eq_some_iff.mp hv'
 have hg:bs.getD i false=b:=by rw [List.getD_eq_getElem?_getD,hb]<;>rfl
 have hq':Q (bs.getD i false) s:=hq
 rw [hg] at hq'
 exact wpAny_truthy_bool hq'
theorem yA:∀ bs:List Bool,(List.range bs.length).any (fun i=>bs.getD i false)=bs.any id
 |[]=>rfl
 |b::bs=>by
  rw [List.length_cons,List.range_succ_eq_map,List.any_cons,List.any_map,List.any_cons,<-yA bs]
  all_goals rfl
theorem xQ:∀ bs:List Bool,(List.range bs.length).all (fun i=>bs.getD i false)=bs.all id
 |[]=>rfl
 |b::bs=>by
  rw [List.length_cons,List.range_succ_eq_map,List.all_cons,List.all_map,List.all_cons,<-xQ bs]
  all_goals rfl
section
variable {X:Cx}
def aBy (K:PySem.W.Frag):List V->Hp->VK->Prop:=fun vs H Q=>∃ (a:Addr) (bs:List Bool),vs=[V.ref a]/\dE K H a (bs.map V.bl)/\Q (.bl (bs.any id)) H
def aBx (K:PySem.W.Frag):List V->Hp->VK->Prop:=fun vs H Q=>∃ (a:Addr) (bs:List Bool),vs=[V.ref a]/\dE K H a (bs.map V.bl)/\Q (.bl (bs.all id)) H
theorem Qh (hc:X.calm=true):mR X (.builtin "any") (aBy X.K):=by
 intro pins s σ H vs us Q I r h
 obtain ⟨a,bs,rfl,hs,q⟩:=h
 obtain ⟨its,rv,hl,_⟩:=I.list hs
 rw [bN.ref1 r]
 have hb:=rv.bls
 refine call_any_walk (Ew hl.isList fun s₂ e2 st hne=>?_)
 subst e2
 refine ⟨_,_,_,_,_,_,_,rfl,Walks.list (A:=X.A.in1) (I.ok.hd hc) _ a hne its.toArray,st,sR hb,fun h' tk hk=>?_⟩
 refine ⟨.bl _,H,I.kept fun b o eo=>hk b o (fun hmem=>?_) (Heap.get?_push_of_some _ eo),?_,q⟩
 ·rcases List.mem_cons.mp hmem with e1|hmem
  ·exact absurd (e1▸Heap.lt_size eo) (Nat.lt_irrefl _)
  ·cases hmem
 ·show Value.bool _=Value.bool _
  rw [<-yA,hb,List.size_toArray,List.length_map]
theorem Xi (hc:X.calm=true):mR X (.builtin "all") (aBx X.K):=by
 intro pins s σ H vs us Q I r h
 obtain ⟨a,bs,rfl,hs,q⟩:=h
 obtain ⟨its,rv,hl,_⟩:=I.list hs
 rw [bN.ref1 r]
 have hb:=rv.bls
 refine call_all_walk (Ew hl.isList fun s₂ e2 st hne=>?_)
 subst e2
 refine ⟨_,_,_,_,_,_,_,rfl,Walks.list (A:=X.A.in1) (I.ok.hd hc) _ a hne its.toArray,st,sR hb,fun h' tk hk=>?_⟩
 refine ⟨.bl _,H,I.kept fun b o eo=>hk b o (fun hmem=>?_) (Heap.get?_push_of_some _ eo),?_,q⟩
 ·rcases List.mem_cons.mp hmem with e1|hmem
  ·exact absurd (e1▸Heap.lt_size eo) (Nat.lt_irrefl _)
  ·cases hmem
 ·show Value.bool _=Value.bool _
  rw [<-xQ,hb,List.size_toArray,List.length_map]
end
mutual
inductive Dp (K:PySem.W.Frag) (H:Hp):V->PyData->Prop
 |non:Dp K H .non .none
 |bl (b:Bool):Dp K H (.bl b) (.bool b)
 |int (i:Int):Dp K H (.int i) (.int i)
 |str (x:Str):Dp K H (.str x) (.str x)
 |lst {a:Addr} {xs:List V} {ds:List PyData}:dE K H a xs->zB K H xs ds->Dp K H (.ref a) (.list ds)
 |tup {a:Addr} {xs:List V} {ds:List PyData}:cN K H a xs->zB K H xs ds->Dp K H (.ref a) (.tuple ds)
inductive zB (K:PySem.W.Frag) (H:Hp):List V->List PyData->Prop
 |nil:zB K H [] []
 |cons {v:V} {vs:List V} {d:PyData} {ds:List PyData}:Dp K H v d->zB K H vs ds->zB K H (v::vs) (d::ds)
end
section
variable {X:Cx} {pins:List (Addr×Obj)} {σ:St} {H:Hp} {s:Shared}
mutual
theorem Dp.reads (I:aP X pins σ H s):∀ (d:PyData) (v:V) (u:Value),Dp X.K H v d->cA v u->∃ as,Reads s.heap u d as
 |.none,_,_,h,r=>by
  cases h
  cases r
  exact ⟨_,Reads.none⟩
 |.bool b,_,_,h,r=>by
  cases h
  cases r
  exact ⟨_,Reads.bool b⟩
 |.int i,_,_,h,r=>by
  cases h
  obtain ⟨t,rfl⟩:=r
  exact ⟨_,Reads.int i t⟩
 |.str x,_,_,h,r=>by
  cases h
  obtain ⟨t,rfl⟩:=r
  exact ⟨_,Reads.str x t⟩
 |.list ds,_,_,h,r=>by
  cases h with
  |lst hs ha=>
   cases r
   obtain ⟨its,rv,⟨o,n,ho,hc,_,hd⟩,_⟩:=I.list hs
   obtain ⟨as,hr⟩:=Dp.readsAll I ds _ its ha rv
   exact ⟨_,Reads.list ho hc hd hr⟩
 |.tuple ds,_,_,h,r=>by
  cases h with
  |tup hs ha=>
   cases r
   obtain ⟨its,rv,⟨o,ho,hc,n,hd⟩,_⟩:=I.tuple hs
   obtain ⟨as,hr⟩:=Dp.readsAll I ds _ its ha rv
   exact ⟨_,Reads.tuple ho hc hd hr⟩
 |.dict _,_,_,h,_=>by cases h
theorem Dp.readsAll (I:aP X pins σ H s):∀ (ds:List PyData) (vs:List V) (us:List Value),zB X.K H vs ds->bN vs us->∃ as,ReadsAll s.heap us ds as
 |[],_,_,h,r=>by
  cases h
  cases r
  exact ⟨_,ReadsAll.nil⟩
 |d::ds,_,_,h,r=>by
  cases h with
  |cons h1 h2=>
   cases r with
   |cons r1 r2=>
    obtain ⟨as,q1⟩:=Dp.reads I d _ _ h1 r1
    obtain ⟨bs,q2⟩:=Dp.readsAll I ds _ _ h2 r2
    exact ⟨_,ReadsAll.cons q1 q2⟩
end
end
section
variable {X:Cx}
end
abbrev Ot (h:Heap) (c:Addr) (v:Option Value):Prop:=h.IsCell c v
def aBp (scope sc:Scope):Scope:=
 {scope with names:=scope.names.map fun (n,k)=>if (k==.free && sc.kind==.function && sc.names.lookup n==some .cell) then (n,.cell) else (n,k)}
def cV (cells:List (Str×Addr)):List (Str×NameKind)->List (Str×Addr)->List (Str×Addr)
 |[],acc=>acc
 |(n,k)::r,acc=>if k==.free then cV cells r ((n,(cells.lookup n).getD 0)::acc) else cV cells r acc
theorem qC (env:Env) (f:Str×NameKind->List (Str×Addr)->Sem (ForInStep (List (Str×Addr))))
  (hf:∀ n k c,f (n,k) c=if k==.free then (do let a <-cellOf env n;pure (.yield ((n,a)::c))) else pure (.yield c)):
  ∀ (names:List (Str×NameKind)) (acc:List (Str×Addr)),(∀ y∈names,y.2=.free->∃ c,env.cells.lookup y.1=some c)->forIn names acc f=pure (cV env.cells names acc)
 |[],acc,_=>by rw [List.forIn_nil];rfl
 |(n,k)::r,acc,h=>by
  rw [List.forIn_cons,hf]
  have ih:=fun acc=>qC env f hf r acc fun y hy=>h y (List.mem_cons_of_mem _ hy)
  unfold cV
  by_cases hk:(k==NameKind.free)=true
  ·rw [if_pos hk,if_pos hk]
   obtain ⟨c,hc⟩:=h (n,k) List.mem_cons_self (by simpa using hk)
   have e:cellOf env n=pure c:=by unfold cellOf;rw [hc]
   rw [e]
   have e2:(env.cells.lookup n).getD 0=c:=by rw [hc];rfl
   rw [e2]
   exact ih _
  ·rw [if_neg hk,if_neg hk]
   exact ih _
theorem Hk {scope:Scope} {env:Env} (h:∀ y∈scope.names,y.2=.free->∃ c,env.cells.lookup y.1=some c):closureFor scope env=pure (cV env.cells scope.names []):=by
 simp only [closureFor]
 rw [qC env _ (fun n k c=>rfl) scope.names [] h]
 rfl
theorem oV {α:Type}:∀ {l:List (Str×α)} {n:Str} {c:α},(n,c)∈l->∃ c',l.lookup n=some c'
 |(k,v)::r,n,c,h=>by
  rw [List.lookup_cons]
  cases hb:n==k with
  |true=>exact ⟨_,rfl⟩
  |false=>
   rcases List.mem_cons.mp h with e|h
   ·cases e;simp at hb
   ·exact oV h
theorem jF {cells:List (Str×Addr)}:∀ {names:List (Str×NameKind)} {acc:List (Str×Addr)} {n:Str} {c:Addr},(n,c)∈cV cells names acc->(n,c)∈acc\/((n,.free)∈names/\c=(cells.lookup n).getD 0)
 |[],_,_,_,h=>.inl h
 |(m,k)::r,acc,n,c,h=>by
  unfold cV at h
  split at h
  ·rename_i hk
   have hk:k=.free:=by simpa using hk
   rcases jF h with h|⟨h1,h2⟩
   ·rcases List.mem_cons.mp h with e|h
    ·cases e;exact .inr ⟨hk▸List.mem_cons_self,rfl⟩
    ·exact .inl h
   ·exact .inr ⟨List.mem_cons_of_mem _ h1,h2⟩
  ·rcases jF h with h|⟨h1,h2⟩
   ·exact .inl h
   ·exact .inr ⟨List.mem_cons_of_mem _ h1,h2⟩
theorem mH {cells:List (Str×Addr)}:∀ {names:List (Str×NameKind)} {acc:List (Str×Addr)} {p:Str×Addr},p∈acc->p∈cV cells names acc
 |[],_,_,h=>h
 |(m,k)::r,acc,p,h=>by
  unfold cV
  split
  ·exact mH (List.mem_cons_of_mem _ h)
  ·exact mH h
theorem mQ {cells:List (Str×Addr)}:∀ {names:List (Str×NameKind)} {acc:List (Str×Addr)} {n:Str},(n,.free)∈names->(n,(cells.lookup n).getD 0)∈cV cells names acc
 |(m,k)::r,acc,n,h=>by
  unfold cV
  rcases List.mem_cons.mp h with e|h
  ·cases e
   exact mH List.mem_cons_self
  ·split
   ·exact mQ h
   ·exact mQ h
theorem jP:∀ {names:List (Str×NameKind)} {h:Heap} {acc:List (Str×Addr)} {x:Str} {c:Addr},(x,c)∈cellsFrom h.objs.size names acc->
  (x,c)∈acc\/((x,.cell)∈names/\h.objs.size<=c/\Ot (pushCells h names) c none)
 |[],_,_,_,_,h=>.inl h
 |(n,k)::r,h,acc,x,c,hm=>by
  unfold cellsFrom at hm
  unfold pushCells
  split at hm
  ·rename_i hk
   rw [if_pos hk]
   have hk:k=.cell:=by simpa using hk
   rw [<-Heap.size_push h {cls:=.type "cell",data:=.cell none}] at hm
   rcases jP hm with hm|⟨h1,h2,h3⟩
   ·rcases List.mem_cons.mp hm with e|hm
    ·cases e
     exact .inr ⟨hk▸List.mem_cons_self,Nat.le_refl _,_,pushCells_keeps r _ _ _ (Heap.get?_push_size _ rfl),rfl⟩
    ·exact .inl hm
   ·rw [Heap.size_push] at h2
    exact .inr ⟨List.mem_cons_of_mem _ h1,Nat.le_of_succ_le h2,h3⟩
  ·rename_i hk
   rw [if_neg hk]
   rcases jP hm with hm|⟨h1,h2,h3⟩
   ·exact .inl hm
   ·exact .inr ⟨List.mem_cons_of_mem _ h1,h2,h3⟩
theorem nO:∀ {names:List (Str×NameKind)} {n:Nat} {acc:List (Str×Addr)} {p:Str×Addr},p∈acc->p∈cellsFrom n names acc
 |[],_,_,_,h=>h
 |(m,k)::r,n,acc,p,h=>by
  unfold cellsFrom
  split
  ·exact nO (List.mem_cons_of_mem _ h)
  ·exact nO h
theorem rS:∀ {names:List (Str×NameKind)} {n:Nat} {acc:List (Str×Addr)} {x:Str},(x,.cell)∈names->∃ c,(x,c)∈cellsFrom n names acc
 |(m,k)::r,n,acc,x,h=>by
  unfold cellsFrom
  rcases List.mem_cons.mp h with e|h
  ·cases e
   exact ⟨n,nO List.mem_cons_self⟩
  ·split
   ·exact rS h
   ·exact rS h
theorem qS:∀ {names:List (Str×NameKind)} {h:Heap} {acc:List (Str×Addr)} {x y:Str} {c:Addr},(∀ p∈acc,p.2<h.objs.size)->(∀ x y c,(x,c)∈acc->(y,c)∈acc->x=y)->
  (x,c)∈cellsFrom h.objs.size names acc->(y,c)∈cellsFrom h.objs.size names acc->x=y
 |[],_,_,_,_,_,_,hi,h1,h2=>hi _ _ _ h1 h2
 |(n,k)::r,h,acc,x,y,c,hl,hi,h1,h2=>by
  unfold cellsFrom at h1 h2
  split at h1
  ·rename_i hk
   rw [if_pos hk] at h2
   rw [<-Heap.size_push h {cls:=.type "cell",data:=.cell none}] at h1 h2
   refine qS (h:=h.push _) (fun p hp=>?_) (fun x y c a b=>?_) h1 h2
   ·rw [Heap.size_push]
    rcases List.mem_cons.mp hp with rfl|hp
    ·exact Nat.lt_succ_self _
    ·exact Nat.lt_succ_of_lt (hl p hp)
   ·rcases List.mem_cons.mp a with e|a<;>rcases List.mem_cons.mp b with e'|b
    ·cases e;cases e';rfl
    ·cases e;exact absurd (hl _ b) (Nat.lt_irrefl _)
    ·cases e';exact absurd (hl _ a) (Nat.lt_irrefl _)
    ·exact hi _ _ _ a b
  ·rename_i hk
   rw [if_neg hk] at h2
   exact qS hl hi h1 h2
theorem Cj {M:Model} {A:Around} {E:Value->Shared->Prop} {s:Shared} {scope:Scope} {globals:Addr} {closure:List (Str×Addr)} {qual:Str} {func:Option Addr} {code:Value} {around:Env} {builtins:Addr} {Q:Env->Shared->Prop}
  (h:Q (newEnv scope s.heap.objs.size globals (cellsFrom (s.heap.objs.size+1) scope.names closure) qual func code (some around) builtins)
   {s with heap:=pushCells (s.heap.push {cls:=.type "dict",data:=.dict #[]}) scope.names}):
  wpAny M A (newFunctionEnv scope globals closure [] qual func code (some around) builtins) Q E s:=by
 simp only [newFunctionEnv,Option.isSome_some,if_true]
 refine wpAny_bind (wpAny_alloc ?_)
 refine wpAny_bind (wpAny_layCells _ (fun n k c=>rfl) scope.names closure _ _ ?_)
 rw [show ({s with heap:=s.heap.push {cls:=.type "dict",data:=.dict #[]}}:Shared).heap.objs.size=s.heap.objs.size+1 from Heap.size_push ..]
 rw [List.forIn_nil]
 exact wpAny_bind (wpAny_pure (wpAny_pure h))
theorem mE {sc:Scope}:∀ {names:List (Str×NameKind)} {x:Str} {k:NameKind},
  (names.map fun (n,k)=>if (k==NameKind.free && sc.kind==.function && sc.names.lookup n==some .cell) then (n,NameKind.cell) else (n,k)).lookup x=some k->
  ∃ k',names.lookup x=some k'/\(k=k'\/(k'=.free/\k=.cell))
 |[],_,_,h=>by simp at h
 |(n,k₀)::r,x,k,h=>by
  have ih:= @mE sc r x k
  have h':List.lookup x ((if (k₀==NameKind.free && sc.kind==.function && sc.names.lookup n==some .cell)=true then (n,NameKind.cell) else (n,k₀))::(r.map _))=some k:=h
  cases hx:x==n with
  |true=>
   simp only [List.lookup_cons,hx]
   by_cases hc:(k₀==NameKind.free && sc.kind==.function && sc.names.lookup n==some .cell)=true
   ·rw [if_pos hc] at h'
    simp only [List.lookup_cons,hx] at h'
    cases h'
    simp only [Bool.and_eq_true,beq_iff_eq] at hc
    exact ⟨k₀,rfl,.inr ⟨hc.1.1,rfl⟩⟩
   ·rw [if_neg hc] at h'
    simp only [List.lookup_cons,hx] at h'
    cases h'
    exact ⟨_,rfl,.inl rfl⟩
  |false=>
   simp only [List.lookup_cons,hx]
   by_cases hc:(k₀==NameKind.free && sc.kind==.function && sc.names.lookup n==some .cell)=true
   ·rw [if_pos hc] at h'
    simp only [List.lookup_cons,hx] at h'
    exact ih h'
   ·rw [if_neg hc] at h'
    simp only [List.lookup_cons,hx] at h'
    exact ih h'
structure Ed (N:List Str) (sc scope:Scope) (own:List (Str×Nat)):Prop where
 kind:scope.kind=.function
 uniq:∀ y∈scope.names,scope.names.lookup y.1=some y.2
 ix:∀ p∈own,N[p.2]?=some p.1
 free:∀ y∈scope.names,y.2=.free->sc.names.lookup y.1=some .cell\/sc.names.lookup y.1=some .free
 own:∀ y∈scope.names,y.2=.local\/y.2=.cell->y.1∈own.map (·.1)\/y.1∉N
def fQ (σ:St):List Nat->St
 |[]=>σ
 |v::vs=>(fQ σ vs).set v none
theorem mX (σ:St):∀ vs:List Nat,(fQ σ vs).length=σ.length
 |[]=>rfl
 |v::vs=>by unfold fQ;rw [List.length_set,mX σ vs]
theorem rQ {σ:St} {i:Nat} {x:V}:∀ {vs:List Nat},(fQ σ vs)[i]?=some (some x)->σ[i]?=some (some x)/\i∉vs
 |[],h=>⟨h,by simp⟩
 |v::vs,h=>by
  unfold fQ at h
  by_cases hi:v=i
  ·subst hi
   by_cases hv:v<(fQ σ vs).length
   ·rw [List.getElem?_set_self hv] at h;cases h
   ·rw [List.getElem?_eq_none (by simpa using hv)] at h;cases h
  ·rw [List.getElem?_set_ne hi] at h
   obtain ⟨h1,h2⟩:=rQ h
   exact ⟨h1,by simp only [List.mem_cons,not_or];exact ⟨fun e=>hi e.symm,h2⟩⟩
abbrev Cx.blk (X:Cx) (s:Shared) (H:Hp) (scope:Scope) (cenv:Env) (fp:List Addr):Cx:={X with s_0:=s,H_0:=H,env:=cenv,outer:=X.stack,ex:=fp,fn:=fun x=>scope.names.lookup x==some .cell,pn:=[],xe:=fun _ _=>False}
section
variable {X:Cx} {pins:List (Addr×Obj)} {σ:St} {H:Hp} {s:Shared}
theorem Dx {scope:Scope} {own:List (Str×Nat)} {fp:List Addr} (I:aP X pins σ H s) (ok:Ed X.N X.env.scope scope own) (hN:X.N.Nodup) (hfp:∀ b∈fp,sY X pins H b/\b<s.heap.objs.size):
  aP (X.blk s H scope (compEnvC scope (cellsFrom (s.heap.objs.size+1) scope.names (cV X.env.cells scope.names [])) s.heap.objs.size X.env) fp) [] (fQ σ (own.map (·.2))) H {s with heap:=pushCells (s.heap.push {cls:=.type "dict",data:=.dict #[]}) scope.names}:=by
 have hfree:∀ y∈scope.names,y.2=.free->∃ c,X.env.cells.lookup y.1=some c:=fun y hy e=>by
  rcases ok.free y hy e with k|k
  ·exact I.ok.has _ (.inl k)
  ·exact I.ok.has _ (.inr k)
 generalize hcenv:compEnvC scope (cellsFrom (s.heap.objs.size+1) scope.names (cV X.env.cells scope.names [])) s.heap.objs.size X.env=cenv
 have kp:∀ b o,s.heap.get? b=some o->(pushCells (s.heap.push {cls:=.type "dict",data:=.dict #[]}) scope.names).get? b=some o:=fun b o e=>pushCells_keeps _ _ _ _ (Heap.get?_push_of_some _ e)
 have hL:cenv.locals=s.heap.objs.size:=by rw [<-hcenv];rfl
 have hcl:cenv.cells=cellsFrom (s.heap.objs.size+1) scope.names (cV X.env.cells scope.names []):=by rw [<-hcenv];rfl
 have hsc:cenv.scope=aBp scope X.env.scope:=by rw [<-hcenv];rfl
 rw [<-Heap.size_push s.heap {cls:=.type "dict",data:=.dict #[]}] at hcl
 have cm:∀ {y c},(y,c)∈cV X.env.cells scope.names []->X.env.cells.lookup y=some c/\c<s.heap.objs.size:=fun {y c} hm=>by
  rcases jF hm with hm|⟨h1,rfl⟩
  ·cases hm
  ·obtain ⟨c,hc⟩:=hfree _ h1 rfl
   rw [hc]
   obtain ⟨w,z⟩:=I.cell _ _ hc
   exact ⟨rfl,z.lt⟩
 have mem:∀ {y c},cenv.cells.lookup y=some c->(X.env.cells.lookup y=some c/\c<s.heap.objs.size)\/(s.heap.objs.size+1<=c/\Ot (pushCells (s.heap.push {cls:=.type "dict",data:=.dict #[]}) scope.names) c none):=fun {y c} e=>by
  rw [hcl] at e
  rcases jP (PySem.mem_of_lookup e) with hm|⟨_,h2,h3⟩
  ·exact .inl (cm hm)
  ·rw [Heap.size_push] at h2;exact .inr ⟨h2,h3⟩
 have look:∀ {y},scope.names.lookup y=some .free->∃ c,cenv.cells.lookup y=some c/\X.env.cells.lookup y=some c:=fun {y} hl=>by
  have hy:(y,NameKind.free)∈scope.names:=PySem.mem_of_lookup hl
  obtain ⟨c',e'⟩:=oV (nO (names:=scope.names) (n:=(s.heap.push {cls:=.type "dict",data:=.dict #[]}).objs.size) (mQ (cells:=X.env.cells) (acc:=[]) hy))
  rw [<-hcl] at e'
  refine ⟨c',e',?_⟩
  rw [hcl] at e'
  rcases jP (PySem.mem_of_lookup e') with hm|⟨h1,_,_⟩
  ·exact (cm hm).1
  ·have:=ok.uniq _ h1
   rw [hl] at this;cases this
 have Nm:(X.blk s H scope cenv fp).Ok:=by
  refine ⟨I.ok.mod,by show cenv.scope.kind=_;rw [hsc];exact ok.kind,by show cenv.globals=_;rw [<-hcenv];exact I.ok.glob,by show cenv.builtins=_;rw [<-hcenv];exact I.ok.blt,by show s.heap.objs.size<=cenv.locals;rw [hL];exact Nat.le_refl _,
   fun y z c e1 e2=>?_,fun y hy=>?_,fun y c z e=>?_,I.ok.hd,I.ok.frames,.inl rfl,fun b hb=>⟨?_,fun y c e z=>?_⟩,I.bs,Nat.le_trans I.ok.bsz I.sz,fun b o e hb=>?_,fun b hb z=>?_,I.stack,I.stkFree⟩
  ·have e1:cenv.cells.lookup y=some c:=e1
   have e2:cenv.cells.lookup z=some c:=e2
   rw [hcl] at e1 e2
   refine qS (fun p hp=>?_) (fun y z c a b=>I.ok.inj y z c (cm a).1 (cm b).1) (PySem.mem_of_lookup e1) (PySem.mem_of_lookup e2)
   rw [Heap.size_push]
   exact Nat.lt_succ_of_lt (cm (y:=p.1) (c:=p.2) hp).2
  ·show ∃ c,cenv.cells.lookup y=some c
   have key:∀ k,cenv.kindOf y=some k->(k=.cell\/k=.free)->∃ c,cenv.cells.lookup y=some c:=fun k hk hk'=>by
    unfold Env.kindOf at hk
    rw [hsc] at hk
    obtain ⟨k',e,r⟩:=mE hk
    have:k'=.cell\/k'=.free:=by
     rcases r with rfl|⟨rfl,_⟩
     ·exact hk'
     ·exact .inr rfl
    rcases this with rfl|rfl
    ·obtain ⟨c,hm⟩:=rS (n:=(s.heap.push {cls:=.type "dict",data:=.dict #[]}).objs.size) (acc:=cV X.env.cells scope.names []) (PySem.mem_of_lookup e)
     obtain ⟨c',e'⟩:=oV hm
     exact ⟨c',by rw [hcl];exact e'⟩
    ·obtain ⟨c,h1,_⟩:=look e
     exact ⟨c,h1⟩
   rcases hy with hy|hy
   ·exact key _ hy (.inl rfl)
   ·exact key _ hy (.inr rfl)
  ·have z:(scope.names.lookup y==some NameKind.cell)=true:=z
   have z:scope.names.lookup y=some .cell:=by simpa using z
   have e:cenv.cells.lookup y=some c:=e
   rw [hcl] at e
   rcases jP (PySem.mem_of_lookup e) with hm|⟨_,h2,_⟩
   ·rcases jF hm with hm|⟨h1,_⟩
    ·cases hm
    ·have q:=ok.uniq _ h1
     rw [z] at q;cases q
   ·rw [Heap.size_push] at h2
    exact Nat.le_of_succ_le h2
  ·show b≠cenv.locals
   rw [hL];exact Nat.ne_of_lt (hfp b hb).2
  ·have e:cenv.cells.lookup y=some c:=e
   rcases mem e with ⟨h1,_⟩|⟨h1,_⟩
   ·exact (hfp b hb).1.2.2.2.2.1 y c h1 z
   ·have h2:s.heap.objs.size+1<=b:=by rw [<-z];exact h1
    exact absurd (Nat.lt_of_lt_of_le (hfp b hb).2 (Nat.le_of_succ_le h2)) (Nat.lt_irrefl _)
  ·rcases (hfp b hb).1.2.2.2.1 with z|z
   ·exact I.ok.noex b o e z
   ·exact absurd (Nat.lt_of_lt_of_le (Heap.lt_size e) (Nat.le_trans I.ok.bsz z)) (Nat.lt_irrefl _)
  ·rcases List.mem_cons.mp (I.stkSub b z) with z|z
   ·exact (hfp b hb).1.2.1 z
   ·exact (hfp b hb).1.2.2.1 z
 refine ⟨Nm,rfl,I.bare,Un.kept kp,⟨fun _=>none,?_,fun i y av e1 e2 e3=>?_⟩,fun y c e=>?_,?_,fun y c e=>?_,fun p hp=>?_,I.hok.kept kp,by rw [mX];exact I.len⟩
 ·show Heap.Ns _ cenv.locals _
  rw [hL]
  exact Heap.Ns.keeps (Heap.Ns.new ..) fun b o e=>pushCells_keeps _ _ _ _ e
 ·obtain ⟨e2,hne⟩:=rQ e2
  have hfr:scope.names.lookup y=some .free/\(cenv.kindOf y=some .cell\/cenv.kindOf y=some .free):=by
   have key:∀ k,cenv.scope.names.lookup y=some k->k=.local\/k=.cell\/k=.free->scope.names.lookup y=some .free/\(cenv.kindOf y=some .cell\/cenv.kindOf y=some .free):=fun k hk hk'=>by
    have hk0:=hk
    rw [hsc] at hk
    obtain ⟨k',e,r⟩:=mE hk
    have no:¬(k'=.local\/k'=.cell):=fun hh=>by
     rcases ok.own _ (PySem.mem_of_lookup e) hh with e'|e'
     ·obtain ⟨p,hp,hpy⟩:=List.mem_map.mp e'
      have e3:=ok.ix p hp
      have:p.1=y:=hpy
      rw [this] at e3
      exact hne (List.mem_map.mpr ⟨p,hp,vS hN e3 e1⟩)
     ·exact e' (List.mem_of_getElem? e1)
    rcases r with rfl|⟨rfl,rfl⟩
    ·rcases hk' with rfl|rfl|rfl
     ·exact absurd (.inl rfl) no
     ·exact absurd (.inr rfl) no
     ·exact ⟨e,.inr hk0⟩
    ·exact ⟨e,.inl hk0⟩
   have e3:Vis cenv.scope y:=e3
   rcases e3 with e3|e3|e3
   ·exact key _ e3 (.inl rfl)
   ·exact key _ e3 (.inr (.inl rfl))
   ·exact key _ e3 (.inr (.inr rfl))
  obtain ⟨m,hn,hl⟩:=I.loc
  have hvis:Vis X.env.scope y:=(ok.free _ (PySem.mem_of_lookup hfr.1) rfl).elim (fun k=>.inr (.inl k)) (fun k=>.inr (.inr k))
  obtain ⟨w,r,q⟩:=hl i y av e1 e2 hvis
  refine ⟨w,r,.inr ⟨hfr.2,?_⟩⟩
  obtain ⟨c,h1,h2⟩:=look hfr.1
  rcases q with ⟨k,_⟩|⟨_,c',e',z⟩
  ·have k:X.env.scope.names.lookup y=some .local:=k
   rcases ok.free _ (PySem.mem_of_lookup hfr.1) rfl with k'|k'<;>rw [show X.env.scope.names.lookup y=_ from k'] at k<;>cases k
  ·rw [h2] at e';cases e'
   exact ⟨c,h1,z.keeps kp⟩
 ·have e:cenv.cells.lookup y=some c:=e
  rcases mem e with ⟨h1,_⟩|⟨_,z⟩
  ·obtain ⟨w,z⟩:=I.cell y c h1
   exact ⟨w,z.keeps kp⟩
  ·exact ⟨_,z⟩
 ·show H cenv.locals=none
  rw [hL];exact I.hok.fresh (Nat.le_refl _)
 ·have e:cenv.cells.lookup y=some c:=e
  rcases mem e with ⟨h1,_⟩|⟨h1,_⟩
  ·exact I.freeC y c h1
  ·exact I.hok.fresh (Nat.le_of_succ_le h1)
 ·exact absurd (show p∈([]:List (Addr×Obj))++[] from hp) (by simp)
theorem Xd {E:Value->Shared->Prop} {D:Addr} {xs:List V} {y:V} {v:Value} {Q:Value->Shared->Prop} (I:aP X pins σ H s) (hD:H D=some (.lst xs)) (hz:xs.length<sizeLine) (r:cA y v)
  (h:∀ s',aP X pins σ (upd H D (.lst (xs++[y]))) s'->Q .none s'):wpAny (model X.prog X.w) X.A (call (.builtin "list.append") [.ref D,v]) Q E s:=by
 obtain ⟨hz',its,n,ri,e⟩:=I.hok D _ hD
 have hl:=ri.length
 refine append_at (hsz:=by rw [List.size_toArray];omega) e fun h' sb ho'=>?_
 refine h {s with heap:=h'} (I.write (t':=s.toks) (by rw [hD];trivial) (.inl rfl) (fun b u hb q=>(sb.2 b hb).trans q) ⟨_,ho'⟩ ⟨by rw [List.length_append];exact hz,its++[v],n+1,ri.append (.cons r .nil),?_⟩)
 rw [ho']
 simp
def PTs (X:Cx) (ifs:List Expr) (t:TT):Prop:=
 ∀ (pins:List (Addr×Obj)) (s:Shared) (σ:St) (H:Hp) (Q:Bool->Hp->Prop),aP X pins σ H s->t σ H Q->
  wpAny (model X.prog X.w) X.A (forIn ifs true fun c r=>if r=true then do let ok <-isTrue c X.env (eval c X.env);pure (ForInStep.yield ok) else pure (ForInStep.yield r)) (TP X pins σ Q) X.xe s
def aCo:TT:=fun _ H Q=>Q true H
theorem lJ:PTs X [] aCo:=fun _ _ _ H _ I h=>wpAny_tests_nil ⟨H,I,h⟩
theorem Ud {c:Expr} {t:TT} (h:PT X c t):PTs X [c] t:=fun pins s σ H Q I hw=>wpAny_tests_one (h pins s σ H Q I hw)
end
theorem Mh {α:Type} {t:Sem α} {Q Q':α->Shared->Prop} {M:Model} {A:Around} {E:Value->Shared->Prop} {s:Shared} (h:wpAny M A t Q (fun _ _=>False) s) (hQ:∀ a s,Q a s->Q' a s):wpAny M A t Q' E s:=wpAny_mono h hQ fun _ _ z=>False.elim z
theorem Af {prog:Program} {w:World} {A:Around} {R:Result->Shared->Prop} {s:Shared} {elt target iter:Expr} {ifs:List Expr} {scope:Scope} {pos:Pos} {it acc:Value} {env:Env} (I:Nat->Shared->Prop)
  (turn:∀ n s,I n s->wpAny (model prog w) A (pyNext it) (fun r s₁=>match r with
   |none=>R (.ok .next) s₁
   |some v=>wpAny (model prog w) A (letOwnedTupleGo target it v) (fun _ s₁'=>wpAny (model prog w) A (assign target env v) (fun _ s₂=>
     wpAny (model prog w) A (forIn ifs true fun c r=>if r=true then do let ok <-isTrue c env (eval c env);pure (ForInStep.yield ok) else pure (ForInStep.yield r)) (fun ok s₃=>
      if ok=true then wpAny (model prog w) A (eval elt env) (fun x s₄=>
       wpAny (model prog w) A (call (.builtin "list.append") [acc,x]) (fun _ s₅=>∃ m,m<n/\I m s₅) (notedBy (model prog w) A env fun e s'=>R (.error e) s') s₄) (notedBy (model prog w) A env fun e s'=>R (.error e) s') s₃
      else ∃ m,m<n/\I m s₃) (notedBy (model prog w) A env fun e s'=>R (.error e) s') s₂) (notedBy (model prog w) A env fun e s'=>R (.error e) s') s₁') (notedBy (model prog w) A env fun e s'=>R (.error e) s') s₁) (notedBy (model prog w) A env fun e s'=>R (.error e) s') s)
  (n:Nat) (h:I n s):
  codeAny (model prog w) A (.compLoop (.ListComp elt [⟨target,iter,ifs,0⟩] scope pos) 0 it acc env) R s:=by
 refine codeAny_loop rfl I (fun n s hI=>?_) n h
 show wpAny _ A ((compTurn (.ListComp elt [⟨target,iter,ifs,0⟩] scope pos) 0 it acc env).onRaise (fun x=>do noteFrame x env;theTreesLotGoes x)) _ _ s
 refine wpAny_noted ?_
 rw [compTurn_list]
 refine wpAny_bind (wpAny_standAt (wpAny_bind (wpAny_mono (turn n s hI) (fun r s₁ h₁=>?_) fun _ _ h'=>h')))
 cases r with
 |none=>exact wpAny_pure h₁
 |some v=>
  refine wpAny_bind (wpAny_mono h₁ (fun _ s₁' h₁'=>?_) fun _ _ h'=>h')
  refine wpAny_bind (wpAny_mono h₁' (fun _ s₂ h₂=>wpAny_bind (wpAny_mono h₂ (fun ok s₃ h₃=>?_) fun _ _ h'=>h')) fun _ _ h'=>h')
  cases ok with
  |false=>exact wpAny_pure ⟨rfl,h₃⟩
  |true=>
   exact wpAny_bind (wpAny_bind (wpAny_mono h₃ (fun x s₄ h₄=>wpAny_bind (wpAny_mono h₄ (fun _ s₅ h₅=>wpAny_pure (wpAny_pure ⟨rfl,h₅⟩)) fun _ _ h'=>h')) fun _ _ h'=>h'))
section
variable {X:Cx}
def tLc (wi:TI) (g:TG) (tt:TT) (te:TE) (vs:List Nat):TE:=fun σ H Q=>wi σ H fun J H1=>∀ D,H1 D=none->∃ W:Nat->Nat->Hp->Prop,(∃ m,W 0 m (upd H1 D (.lst [])))/\∀ i m H,W i m H->
 (J.stop i H/\Q (.ref D) H)\/(J.go i H/\∃ Nx:Hp->Prop,(∀ H',Nx H'->∃ m',m'<m/\W (i+1) m' H')/\∀ x H',J.yld i H x H'->g x (fQ σ vs) H' fun σ2 H2=>fQ σ2 vs=fQ σ vs/\tt σ2 H2 fun b H3=>
  if b=true then te σ2 H3 fun y H4=>∃ acc,H4 D=some (.lst acc)/\acc.length<sizeLine/\Nx (upd H4 D (.lst (acc++[y]))) else Nx H3)
theorem Jv {pins:List (Addr×Obj)} {s:Shared} {σ:St} {H:Hp} {Q:VK} {elt tg iter:Expr} {ifs:List Expr} {scope:Scope} {own:List (Str×Nat)} {pos pos':Pos} {wi:TI} {g:TG} {tt:TT} {te:TE} {use:Option (Value->Sem Unit)} {Qf:Value->Shared->Prop}
  (hc:X.calm=true) (hN:X.N.Nodup) (I:aP X pins σ H s) (hi:PI X tg iter wi) (ok:Ed X.N X.env.scope scope own)
  (hg:∀ (s:Shared) (H:Hp) (C:Addr) (cl:List (Str×Addr)) (fp:List Addr),PG (X.blk s H scope (compEnvC scope cl C X.env) fp) tg g) (ht:∀ (s:Shared) (H:Hp) (C:Addr) (cl:List (Str×Addr)) (fp:List Addr),PTs (X.blk s H scope (compEnvC scope cl C X.env) fp) ifs tt)
  (he:∀ (s:Shared) (H:Hp) (C:Addr) (cl:List (Str×Addr)) (fp:List Addr),PE (X.blk s H scope (compEnvC scope cl C X.env) fp) elt te) (hs:∀ x,foldedSetIterable iter X.env x=pure x)
  (h:tLc wi g tt te (own.map (·.2)) σ H Q)
  (hRR:∀ D C s' m H',aP X pins σ H' s'->Q (.ref D) H'->s'.heap.Ns C m->sY X pins H' C->compPost (model X.prog X.w) X.A X.xe use Qf (.ref D) C (.ok .next) s'):
  wpAny (model X.prog X.w) X.A (comprehension (.ListComp elt [⟨tg,iter,ifs,0⟩] scope pos) scope X.env pos' (newList []) false (eval iter X.env) use) Qf X.xe s:=by
 have hfree:∀ y∈scope.names,y.2=.free->∃ c,X.env.cells.lookup y.1=some c:=fun y hy e=>by
  rcases ok.free y hy e with k|k
  ·exact I.ok.has _ (.inl k)
  ·exact I.ok.has _ (.inr k)
 refine wpAny_comprehension_free (use:=use) rfl hs (Hk hfree) ok.kind (fun y hy e=>by rw [ok.uniq y hy,e])
  (cT (hi pins s σ H _ I h) fun xv s1 hx=>cT hx fun itv s2 h2=>?_)
 obtain ⟨it,fp,tn,J,H2,e,I2,T,st2,f2,q⟩:=h2
 subst e
 refine wpAny_newObj_type (Cj ?_) (by show 0<=sizeLine;decide)
 generalize hD:s2.heap.objs.size=D
 have hDn:H2 D=none:=I2.hok.fresh (Nat.le_of_eq hD)
 obtain ⟨W,⟨m0,w0⟩,turn⟩:=q D hDn
 generalize hs3:({s2 with heap:=s2.heap.push {cls:=.type "list",data:=.seq ([]:List Value).toArray}}:Shared)=s3
 have I3:aP X pins σ (upd H2 D (.lst [])) s3:=by
  rw [<-hs3]
  refine I2.laid (t':=s2.toks) (fun b o e=>Heap.get?_push_of_some _ e) (Nat.le_of_eq hD) ⟨Nat.zero_le _,[],0,.nil,?_⟩
  rw [<-hD]
  exact Heap.get?_push_size _ rfl
 have h3:s3.heap=s2.heap.push {cls:=.type "list",data:=.seq ([]:List Value).toArray}:=by rw [<-hs3]
 have sz:∀ b∈fp,b<s2.heap.objs.size:=fun b hb=>by
  obtain ⟨o,e,_⟩:=T.obj _ _ st2 b hb
  exact Heap.lt_size e
 have f3:∀ b∈fp,sY X pins (upd H2 D (.lst [])) b/\b<s3.heap.objs.size:=fun b hb=>by
  have hlt:=sz b hb
  refine ⟨⟨?_,(f2 b hb).2⟩,by rw [h3,Heap.size_push];exact Nat.lt_succ_of_lt hlt⟩
  rw [aC (by rw [<-hD];exact Nat.ne_of_lt hlt)]
  exact (f2 b hb).1
 have st3:tn 0 s3.heap:=T.keep _ _ _ st2 fun b _ o e=>by rw [h3];exact Heap.get?_push_of_some _ e
 have I4:=Dx I3 ok hN f3
 have pg:=hg s3 (upd H2 D (.lst [])) s3.heap.objs.size (cellsFrom (s3.heap.objs.size+1) scope.names (cV X.env.cells scope.names [])) fp
 have pt:=ht s3 (upd H2 D (.lst [])) s3.heap.objs.size (cellsFrom (s3.heap.objs.size+1) scope.names (cV X.env.cells scope.names [])) fp
 have pe:=he s3 (upd H2 D (.lst [])) s3.heap.objs.size (cellsFrom (s3.heap.objs.size+1) scope.names (cV X.env.cells scope.names [])) fp
 show codeAny _ _ (.compStart (.ListComp elt [⟨tg,iter,ifs,0⟩] scope pos) 0 (.ref it) (.ref D) (compEnvC scope (cellsFrom (s3.heap.objs.size+1) scope.names (cV X.env.cells scope.names [])) s3.heap.objs.size X.env)) (compPost (model X.prog X.w) X.A X.xe use Qf (.ref D) s3.heap.objs.size) {s3 with heap:=pushCells (s3.heap.push {cls:=.type "dict",data:=.dict #[]}) scope.names}
 have nfp:∀ b∈fp,(upd H2 D (.lst [])) b=none:=fun b hb=>(f3 b hb).1.1
 generalize hce:compEnvC scope (cellsFrom (s3.heap.objs.size+1) scope.names (cV X.env.cells scope.names [])) s3.heap.objs.size X.env=ce at I4 pg pt pe ⊢
 have cL:ce.locals=s3.heap.objs.size:=by subst hce;rfl
 generalize hH3:upd H2 D (.lst [])=H3 at I3 I4 pg pt pe w0 nfp f3
 generalize hs4:({s3 with heap:=pushCells (s3.heap.push {cls:=.type "dict",data:=.dict #[]}) scope.names}:Shared)=s4 at I4 ⊢
 have st4:tn 0 s4.heap:=T.keep _ _ _ st3 fun b _ o e=>by rw [<-hs4];exact pushCells_keeps _ _ _ _ (Heap.get?_push_of_some _ e)
 have stat:∀ {σ':St} {H':Hp} {s':Shared},aP (X.blk s3 H3 scope ce fp) [] σ' H' s'->(∀ b∈fp,H' b=none)->∀ b∈fp,sY (X.blk s3 H3 scope ce fp) [] H' b:=fun {σ' H' s'} I' hn b hb=>
  ⟨hn b hb,(I'.ok.exf b hb).1,I'.ok.exfs b hb,.inl hb,fun x c e=>(I'.ok.exf b hb).2 x c e,fun p hp=>absurd (show p∈([]:List (Addr×Obj))++[] from hp) (by simp)⟩
 have loop:codeAny (model X.prog X.w) X.A (.compLoop (.ListComp elt [⟨tg,iter,ifs,0⟩] scope pos) 0 (.ref it) (.ref D) ce) (compPost (model X.prog X.w) X.A X.xe use Qf (.ref D) s3.heap.objs.size) s4:=by
  refine Af (fun n s'=>∃ i H',aP (X.blk s3 H3 scope ce fp) [] (fQ σ (own.map (·.2))) H' s'/\tn i s'.heap/\(∀ b∈fp,H' b=none)/\W i n H') ?_ m0 ⟨0,H3,I4,st4,nfp,w0⟩
  rintro n s5 ⟨i,H5,I5,st5,n5,w5⟩
  rcases turn i n H5 w5 with ⟨stop,qq⟩|⟨go,Nx,hNx,step⟩
  ·have td:=T.done (X.blk s3 H3 scope ce fp) rfl rfl rfl hc i [] s5 _ H5 (fun _ _=>False) I5 (stat I5 n5) st5 stop
   refine Mh td fun r s6 ⟨hr,I6⟩=>?_
   subst hr
   have I7:aP X pins σ H5 s6:=I3.call' (ch:=fp) I6.os I6.base I6.hok I6.bare fun b hb=>⟨(f3 b hb).1.2.2.2.1,(f3 b hb).1.2.1,(f3 b hb).1.2.2.2.2.1,(f3 b hb).1.2.2.2.2.2⟩
   have nC:H5 s3.heap.objs.size=none:=by
    have z:H5 ce.locals=none:=I6.free
    rw [cL] at z
    exact z
   obtain ⟨m,hn,_⟩:=I6.loc
   have hn:s6.heap.Ns ce.locals m:=hn
   rw [cL] at hn
   exact hRR D s3.heap.objs.size s6 m H5 I7 qq hn (I3.fpOk (Nat.le_refl _) nC)
  ·have ti:=T.item (X.blk s3 H3 scope ce fp) rfl rfl rfl hc i [] s5 _ H5 (fun _ _=>False) I5 (stat I5 n5) st5 go
   refine Mh ti fun r s6 ⟨u,hr,h6⟩=>?_
   subst hr
   refine Mh h6 fun _ s7 ⟨x,H7,I7,r7,y7,st7,n7⟩=>?_
   have I7':=I7.pinned (stat I7 n7) (T.obj _ _ st7)
   refine Mh (pg _ s7 _ H7 x u _ I7' r7 (step x H7 y7)) fun _ s8 ⟨σ8,H8,I8,hw8,q8⟩=>?_
   refine Mh (pt _ s8 σ8 H8 _ I8 q8) fun b s9 ⟨H9,I9,q9⟩=>?_
   have fin:∀ {s':Shared} {H':Hp},aP (X.blk s3 H3 scope ce fp) ([]++rM fp s7.heap) σ8 H' s'->Nx H'->∃ m,m<n/\∃ i H',aP (X.blk s3 H3 scope ce fp) [] (fQ σ (own.map (·.2))) H' s'/\tn i s'.heap/\(∀ b∈fp,H' b=none)/\W i m H':=fun {s' H'} I' nx=>by
    obtain ⟨m',hm,w'⟩:=hNx H' nx
    have pin':∀ b∈fp,∀ o,s7.heap.get? b=some o->s'.heap.get? b=some o/\H' b=none:=fun b hb o e=>
     let z:=I'.pin (b,o) (List.mem_append_right _ (List.mem_append_right _ (iL hb e)))
     ⟨z.1,z.2.1⟩
    have hl:(fQ σ (own.map (·.2))).length=σ8.length:=by rw [<-hw8,mX]
    refine ⟨m',hm,i+1,H',(I'.unpinned (pins:=[])).weak hl (fun j v e=>?_),T.keep _ _ _ st7 fun b hb o e=>(pin' b hb o e).1,fun b hb=>?_,w'⟩
    ·rw [<-hw8] at e
     exact (rQ e).1
    ·obtain ⟨o,e,_⟩:=T.obj _ _ st7 b hb
     exact (pin' b hb o e).2
   cases b with
   |false=>
    simp only [Bool.false_eq_true,if_false] at q9 ⊢
    exact fin I9 q9
   |true=>
    simp only [if_true] at q9 ⊢
    refine Mh (pe _ s9 σ8 H9 _ I9 q9) fun z s10 ⟨yv,H10,I10,r10,acc,hD10,hz10,nx⟩=>?_
    exact Xd (X:=X.blk s3 H3 scope ce fp) I10 hD10 hz10 r10 fun s11 I11=>fin I11 nx
 exact codeAny_compStart_list loop (T.self X.A 0 _ _ _ st4 loop)
theorem zF {elt tg iter:Expr} {ifs:List Expr} {scope:Scope} {own:List (Str×Nat)} {pos:Pos} {wi:TI} {g:TG} {tt:TT} {te:TE} (hc:X.calm=true) (hN:X.N.Nodup) (hi:PI X tg iter wi) (ok:Ed X.N X.env.scope scope own)
  (hg:∀ (s:Shared) (H:Hp) (C:Addr) (cl:List (Str×Addr)) (fp:List Addr),PG (X.blk s H scope (compEnvC scope cl C X.env) fp) tg g) (ht:∀ (s:Shared) (H:Hp) (C:Addr) (cl:List (Str×Addr)) (fp:List Addr),PTs (X.blk s H scope (compEnvC scope cl C X.env) fp) ifs tt)
  (he:∀ (s:Shared) (H:Hp) (C:Addr) (cl:List (Str×Addr)) (fp:List Addr),PE (X.blk s H scope (compEnvC scope cl C X.env) fp) elt te) (hs:∀ x,foldedSetIterable iter X.env x=pure x:=by intro _;rfl):
  PE X (.ListComp elt [⟨tg,iter,ifs,0⟩] scope pos) (tLc wi g tt te (own.map (·.2))):=by
 intro pins s σ H Q I h
 rw [eval_ListComp]
 refine Jv hc hN I hi ok hg ht he hs h fun D C s' m H' I' q hn f=>⟨m,hn,fun h'' sb=>?_⟩
 obtain ⟨f0,f1,f2,f3,f4,f5⟩:=f
 exact ⟨.ref D,H',I'.turned (t':=s'.toks) (fun b o hb e=>(sb.2 b hb).trans e) f0 f1 f3 f4 f5,rfl,q⟩
theorem De {i:Nat} {y:Str} {py:Pos} {elt tg iter:Expr} {ifs:List Expr} {scope:Scope} {own:List (Str×Nat)} {pos spos:Pos} {wi:TI} {g:TG} {tt:TT} {te:TE} (hc:X.calm=true) (hN:X.N.Nodup) (hy:X.N[i]?=some y) (hyl:X.env.scope.names.lookup y=some .local)
  (hsw:swapsWith (.ListComp elt [⟨tg,iter,ifs,0⟩] scope pos) (some (.Name y py)) spos.line X.env=pure true) (hi:PI X tg iter wi) (ok:Ed X.N X.env.scope scope own)
  (hg:∀ (s:Shared) (H:Hp) (C:Addr) (cl:List (Str×Addr)) (fp:List Addr),PG (X.blk s H scope (compEnvC scope cl C X.env) fp) tg g) (ht:∀ (s:Shared) (H:Hp) (C:Addr) (cl:List (Str×Addr)) (fp:List Addr),PTs (X.blk s H scope (compEnvC scope cl C X.env) fp) ifs tt)
  (he:∀ (s:Shared) (H:Hp) (C:Addr) (cl:List (Str×Addr)) (fp:List Addr),PE (X.blk s H scope (compEnvC scope cl C X.env) fp) elt te) (hs:∀ x,foldedSetIterable iter X.env x=pure x:=by intro _;rfl):
  PS X (.Assign [.Name y py] (.ListComp elt [⟨tg,iter,ifs,0⟩] scope pos) spos) (Ef (tLc wi g tt te (own.map (·.2))) (mL i)):=by
 intro pins s σ H D I h
 rw [exec_Assign_Name_used _ _ _ _ hsw]
 refine wpAny_bind (wpAny_standAt (wpAny_bind ?_))
 show wpAny _ X.A (do let _ <-comprehension (.ListComp elt [⟨tg,iter,ifs,0⟩] scope pos) scope X.env (firstIterPos [⟨tg,iter,ifs,0⟩] pos) (newList []) false (eval iter X.env) (some (assign (.Name y py) X.env))) _ _ s
 have h:tLc wi g tt te (own.map (·.2)) σ H (fun x H1=>mL i x σ H1 D.nx):=h
 refine wpAny_bind (cT (Jv (Qf:=fun _ s'=>SP X pins D .next s') hc hN I hi ok hg ht he hs h fun L C s' m H' I' q hn f=>?_) fun _ s' hq=>wpAny_pure (wpAny_pure hq))
 show wpAny _ _ (assign (.Name y py) X.env (.ref L)) _ _ _
 refine wpAny_assign_Name (yM (v:=V.ref L) I' hN hy (.inl hyl) rfl (fun s2 I2 ⟨a,sb,ha⟩=>?_) (.inr hyl))
 obtain ⟨f0,f1,f2,f3,f4,f5⟩:=f
 have haC:C≠a:=by
  rcases ha with z|z
  ·rw [z];exact f1
  ·exact fun e=>f4 y a z e.symm
 refine ⟨m,hn.sameBut sb haC,fun h3 sb3=>?_⟩
 exact ⟨_,H',I2.turned (t':=s2.toks) (fun b o hb e=>(sb3.2 b hb).trans e) f0 f1 f3 f4 f5,q⟩
end
theorem pV {K:PySem.W.Frag} {a:Addr} {xs:List V} {g:TG} {tt:TT} {te:TE} {vs:List Nat} {σ:St} {H1:Hp} {D:Addr} {Qd:Hp->Prop} (Pv:Nat->Hp->Prop) (h0:Pv 0 (upd H1 D (.lst []))) (hl:∀ i H,i<=xs.length->Pv i H->dE K H a xs)
  (hs:∀ i x H,xs[i]?=some x->Pv i H->g x (fQ σ vs) H fun σ2 H2=>fQ σ2 vs=fQ σ vs/\tt σ2 H2 fun b H3=>
   if b=true then te σ2 H3 fun y H4=>∃ acc,H4 D=some (.lst acc)/\acc.length<sizeLine/\Pv (i+1) (upd H4 D (.lst (acc++[y]))) else Pv (i+1) H3) (hd:∀ H,Pv xs.length H->Qd H):
  ∃ W:Nat->Nat->Hp->Prop,(∃ m,W 0 m (upd H1 D (.lst [])))/\∀ i m H,W i m H->
   ((Wc K a).stop i H/\Qd H)\/((Wc K a).go i H/\∃ Nx:Hp->Prop,(∀ H',Nx H'->∃ m',m'<m/\W (i+1) m' H')/\∀ x H',(Wc K a).yld i H x H'->g x (fQ σ vs) H' fun σ2 H2=>fQ σ2 vs=fQ σ vs/\tt σ2 H2 fun b H3=>
    if b=true then te σ2 H3 fun y H4=>∃ acc,H4 D=some (.lst acc)/\acc.length<sizeLine/\Nx (upd H4 D (.lst (acc++[y]))) else Nx H3):=by
 refine ⟨fun i m H=>m=xs.length - i/\i<=xs.length/\Pv i H,⟨xs.length,by simp,Nat.zero_le _,h0⟩,?_⟩
 rintro i m H ⟨rfl,hi,p⟩
 have q:=hl i H hi p
 by_cases hlt:i<xs.length
 ·refine .inr ⟨⟨xs,xs[i],q,by simp [hlt]⟩,Pv (i+1),fun H' p'=>⟨xs.length - (i+1),by omega,rfl,hlt,p'⟩,fun x H' y=>?_⟩
  obtain ⟨e,y⟩:=y
  subst e
  exact hs i x _ (y xs q) p
 ·have e:i=xs.length:=by omega
  subst e
  exact .inl ⟨⟨xs,q,Nat.le_refl _⟩,hd H p⟩
def aAr (N:List Str) (sc scope:Scope) (own:List (Str×Nat)):Bool:=
 (match scope.kind with|.function=>true|_=>false) && (scope.names.all fun y=>decide (scope.names.lookup y.1=some y.2)) && (own.all fun p=>decide (N[p.2]?=some p.1)) &&
  (scope.names.all fun y=>match y.2 with
   |.free=>(match sc.names.lookup y.1 with|some .cell=>true|some .free=>true|_=>false)
   |.local=>decide (y.1∈own.map (·.1))||decide (y.1∉N)
   |.cell=>decide (y.1∈own.map (·.1))||decide (y.1∉N)
   |_=>true)
theorem gN {N:List Str} {sc scope:Scope} {own:List (Str×Nat)} (h:aAr N sc scope own=true):Ed N sc scope own:=by
 unfold aAr at h
 simp only [Bool.and_eq_true,List.all_eq_true,decide_eq_true_eq] at h
 obtain ⟨⟨⟨h1,h2⟩,h3⟩,h4⟩:=h
 refine ⟨?_,h2,h3,fun y hy e=>?_,fun y hy e=>?_⟩
 ·split at h1
  ·assumption
  ·cases h1
 ·have q:=h4 y hy
  simp only [e] at q
  split at q<;>first|exact .inl (by assumption)|exact .inr (by assumption)|cases q
 ·have q:=h4 y hy
  rcases e with e|e<;>(simp only [e,Bool.or_eq_true,decide_eq_true_eq] at q;exact q)
section
variable {prog:Program} {w:World} {A:Around} {R:Result->Shared->Prop} {s:Shared} {elt t0 i0 t1 i1:Expr} {ifs0 ifs1:List Expr} {scope:Scope} {pos:Pos} {it acc:Value} {env:Env}
end
section
variable {X:Cx}
end
section
variable {κ:Type} [DecidableEq κ]
def lF (aI:List (κ×V)) (k:κ):Option V:=(aI.find? fun kv=>decide (kv.1=k)).map (·.2)
def lA (aI:List (κ×V)) (k:κ) (v:V):List (κ×V):=
 if (aI.any fun kv=>decide (kv.1=k))=true then aI.map (fun kv=>if kv.1=k then (kv.1,v) else kv) else aI++[(k,v)]
theorem wU {p:κ×V} {r:List (κ×V)} {k:κ} (e:p.1=k):lF (p::r) k=some p.2:=by simp [lF,List.find?_cons,e]
theorem uP {p:κ×V} {r:List (κ×V)} {k:κ} (e:¬p.1=k):lF (p::r) k=lF r k:=by simp [lF,List.find?_cons,e]
theorem vI (k:κ):∀ aI:List (κ×V),(aI.any fun kv=>decide (kv.1=k))=(lF aI k).isSome
 |[]=>rfl
 |p::r=>by
  rw [List.any_cons]
  by_cases e:p.1=k
  ·simp only [wU e,decide_eq_true e,Bool.true_or,Option.isSome_some]
  ·rw [uP e,decide_eq_false e,Bool.false_or];exact vI k r
theorem sO (aI:List (κ×V)) (k:κ) (v:V):(lA aI k v).length<=aI.length+1:=by
 unfold lA
 split
 ·rw [List.length_map];omega
 ·rw [List.length_append,List.length_cons,List.length_nil];omega
theorem wT {aI:List (κ×V)} {k:κ} (v:V) (h:lF aI k=none):lA aI k v=aI++[(k,v)]:=by
 unfold lA
 rw [vI,h]
 exact if_neg (by decide)
theorem lH.isSome_eq {o:Option V} {u:Option Value} (r:lH o u):o.isSome=u.isSome:=by
 cases o with
 |none=>cases u with
  |none=>rfl
  |some _=>exact (show False from r).elim
 |some _=>cases u with
  |none=>exact (show False from r).elim
  |some _=>rfl
theorem KV.val {aI:List (κ×V)} {vs:List (κ×Value)} (r:KV aI vs) (k:κ):lH (lF aI k) (valueAt vs k):=by
 unfold KV at r
 induction r with
 |nil=>exact True.intro
 | @cons p q ps qs h t ih=>
  obtain ⟨h1,h2⟩:=h
  by_cases e:p.1=k
  ·have e':q.1=k:=h1.symm.trans e
   have b:valueAt (q::qs) k=some q.2:=by simp [valueAt,List.find?_cons,e']
   rw [wU e,b];exact h2
  ·have e':¬q.1=k:=fun z=>e (h1.trans z)
   have b:valueAt (q::qs) k=valueAt qs k:=by simp [valueAt,List.find?_cons,e']
   rw [uP e,b];exact ih
theorem KV.any {aI:List (κ×V)} {vs:List (κ×Value)} (r:KV aI vs) (k:κ):(aI.any fun kv=>decide (kv.1=k))=vs.any fun kv=>decide (kv.1=k):=by
 unfold KV at r
 induction r with
 |nil=>rfl
 |cons h t ih=>rw [List.any_cons,List.any_cons,ih,h.1]
theorem KV.repl {aI:List (κ×V)} {vs:List (κ×Value)} (r:KV aI vs) (k:κ) {y:V} {u:Value} (ry:cA y u):
  KV (aI.map fun kv=>if kv.1=k then (kv.1,y) else kv) (vs.map fun kv=>if kv.1=k then (kv.1,u) else kv):=by
 unfold KV at r ⊢
 induction r with
 |nil=>exact .nil
 | @cons p q ps qs h t ih=>
  rw [List.map_cons,List.map_cons]
  refine .cons ?_ ih
  obtain ⟨h1,h2⟩:=h
  by_cases e:p.1=k
  ·rw [if_pos e,if_pos (h1.symm.trans e)];exact ⟨h1,ry⟩
  ·rw [if_neg e,if_neg (fun z=>e (h1.trans z))];exact ⟨h1,h2⟩
theorem KV.put {aI:List (κ×V)} {vs:List (κ×Value)} (r:KV aI vs) (k:κ) {y:V} {u:Value} (ry:cA y u):KV (lA aI k y) (stored vs k u):=by
 unfold lA stored
 rw [r.any k]
 by_cases e:(vs.any fun kv=>decide (kv.1=k))=true
 ·rw [if_pos e,if_pos e];exact r.repl k ry
 ·rw [if_neg e,if_neg e];exact Paired.snoc r ⟨rfl,ry⟩
theorem KV.length {aI:List (κ×V)} {vs:List (κ×Value)} (r:KV aI vs):aI.length=vs.length:=Paired.length r
end
theorem Ec {P:Program} {w:World} {k:eD} {u:Value} (r:cA (kV k) u):(eO P w).is k u=true:=by
 cases k with
 |inl i=>obtain ⟨t,e⟩:=(show ∃ t,u=Value.int i t from r);subst e;exact Do P w i t
 |inr x=>obtain ⟨t,e⟩:=(show ∃ t,u=Value.str x t from r);subst e;exact Cg P w x t
theorem xI {P:Program} {w:World}:∀ {ks:List eD} {us:List Value},bN (ks.map kV) us->ItemsAre (eO P w) ks us
 |[],_,r=>by rw [List.map_nil] at r;cases r;exact .nil
 |k::ks,_,r=>by
  rw [List.map_cons] at r
  cases r with
  |cons h t=>exact .cons (Ec h) (xI t)
abbrev KT (H:Hp):List (List eD×V)->List (List eD×Addr×Value)->Prop:=Paired fun p q=>p.1=q.1/\H q.2.1=some (.tup (p.1.map kV))/\cA p.2 q.2.2
theorem KT.val {H:Hp} {aI:List (List eD×V)} {xs:List (List eD×Addr×Value)} (r:KT H aI xs) (k:List eD):lH (lF aI k) ((atKey xs k).map (·.2)):=by
 induction r with
 |nil=>exact True.intro
 | @cons p q ps qs h t ih=>
  obtain ⟨h1,_,h2⟩:=h
  by_cases e:p.1=k
  ·have e':q.1=k:=h1.symm.trans e
   have b:atKey (q::qs) k=some q.2:=by simp [atKey,List.find?_cons,e']
   rw [wU e,b];exact h2
  ·have e':¬q.1=k:=fun z=>e (h1.trans z)
   have b:atKey (q::qs) k=atKey qs k:=by simp [atKey,List.find?_cons,e']
   rw [uP e,b];exact ih
theorem KT.repl {H:Hp} {aI:List (List eD×V)} {xs:List (List eD×Addr×Value)} (r:KT H aI xs) (k:List eD) {y:V} {u:Value} (ry:cA y u):
  KT H (aI.map fun kv=>if kv.1=k then (kv.1,y) else kv) (xs.map (putAt k u)):=by
 induction r with
 |nil=>exact .nil
 | @cons p q ps qs h t ih=>
  rw [List.map_cons,List.map_cons]
  refine .cons ?_ ih
  obtain ⟨h1,h2,h3⟩:=h
  unfold putAt
  by_cases e:p.1=k
  ·rw [if_pos e,if_pos (h1.symm.trans e)];exact ⟨h1,h2,ry⟩
  ·rw [if_neg e,if_neg (fun z=>e (h1.trans z))];exact ⟨h1,h2,h3⟩
theorem KT.put {H:Hp} {aI:List (List eD×V)} {xs:List (List eD×Addr×Value)} (r:KT H aI xs) (k:List eD) {b:Addr} {y:V} {u:Value} (hb:H b=some (.tup (k.map kV))) (ry:cA y u):
  KT H (lA aI k y) (storedH xs k b u):=by
 have e:(aI.any fun kv=>decide (kv.1=k))=(atKey xs k).isSome:=by
  rw [vI,(r.val k).isSome_eq,Option.isSome_map]
 unfold lA storedH
 rw [e]
 by_cases q:(atKey xs k).isSome=true
 ·rw [if_pos q,if_pos q];exact r.repl k ry
 ·rw [if_neg q,if_neg q];exact Paired.snoc r ⟨rfl,hb,ry⟩
theorem KT.keeps {H H':Hp} {aI:List (List eD×V)} {xs:List (List eD×Addr×Value)} (r:KT H aI xs) (ht:∀ b ys,H b=some (.tup ys)->H' b=some (.tup ys)):KT H' aI xs:=
 Paired.mapP r fun _ _ z=>⟨z.1,ht _ _ z.2.1,z.2.2⟩
section
variable {P:Program} {w:World} {H:Hp} {h:Heap} {a:Addr}
theorem Ql {u:HO} (ok:kG P w H h) (e:Rd H a u):cJ P w H h a u:=e.ok ok
theorem Di {aI:List (eD×V)} (ok:kG P w H h) (e:Rd H a (.dK aI)):aI.length<=sizeLine/\(a==sysModules)=false/\∃ vs,KV aI vs/\h.DictOf (eO P w) a vs:=
 show cJ P w H h a (.dK aI) from Ql ok e
theorem aAe {aI:List (eD×V)} (ok:kG P w H h) (e:H a=some (.dK aI)):aI.length<=sizeLine/\(a==sysModules)=false/\∃ vs,KV aI vs/\h.DictOf (eO P w) a vs:=Di ok (.inl e)
theorem qW {ks:List eD} (ok:kG P w H h) (e:H a=some (.tup (ks.map kV))):(tupleKind (eO P w)).is h ks a:=by
 obtain ⟨_,its,r,o,h1,h2,n,h3⟩:=(show cJ P w H h a (.tup (ks.map kV)) from ok a _ e)
 exact ⟨o,its.toArray,n,h1,h2,h3,by simpa using xI r⟩
theorem Cs {aI:List (List eD×V)} (ok:kG P w H h) (e:Rd H a (.dT aI)):aI.length<=sizeLine/\(a==sysModules)=false/\
  ∃ xs,KT H aI xs/\h.DictOfH (tupleKind (eO P w)) a xs:=by
 obtain ⟨z,y,xs,r,o,es,ep,h1,h2,h3,h4,h5⟩:=(show cJ P w H h a (.dT aI) from Ql ok e)
 refine ⟨z,y,xs,r,o,es,ep,h1,h2,h3,h4,fun x hx=>?_,h5⟩
 have all:∀ {l:List (List eD×V)} {m:List (List eD×Addr×Value)},KT H l m->∀ x∈m,(tupleKind (eO P w)).is h x.1 x.2.1:=by
  intro l m q
  induction q with
  |nil=>intro x hx;exact nomatch hx
  | @cons p q ps qs hq t ih=>
   intro x hx
   rcases List.mem_cons.mp hx with e|hx
   ·subst e
    exact qW ok (by rw [<-hq.1];exact hq.2.1)
   ·exact ih x hx
 exact all r x hx
theorem Vk {aI:List (List eD×V)} (ok:kG P w H h) (e:H a=some (.dT aI)):aI.length<=sizeLine/\(a==sysModules)=false/\
  ∃ xs,KT H aI xs/\h.DictOfH (tupleKind (eO P w)) a xs:=Cs ok (.inl e)
end
def rE (H:Hp) (a:Addr) (y:V) (r:Option V):Prop:=
 (∃ aI k,Rd H a (.dK aI)/\y=kV k/\r=lF aI k)\/∃ aI k b,Rd H a (.dT aI)/\y=.ref b/\H b=some (.tup (k.map kV))/\r=lF aI k
def xD (H:Hp) (a:Addr) (y v:V) (H':Hp):Prop:=
 (∃ aI k,H a=some (.dK aI)/\y=kV k/\aI.length<sizeLine/\H'=upd H a (.dK (lA aI k v)))\/
 ∃ aI k b,H a=some (.dT aI)/\y=.ref b/\H b=some (.tup (k.map kV))/\aI.length<sizeLine/\H'=upd H a (.dT (lA aI k v))
theorem rE.t {H:Hp} {a b:Addr} {aI:List (List eD×V)} {k:List eD} (e:H a=some (.dT aI)) (eb:H b=some (.tup (k.map kV))):rE H a (.ref b) (lF aI k):=.inr ⟨aI,k,b,.inl e,rfl,eb,rfl⟩
theorem xD.t {H:Hp} {a b:Addr} {aI:List (List eD×V)} {k:List eD} {v:V} (e:H a=some (.dT aI)) (eb:H b=some (.tup (k.map kV))) (hl:aI.length<sizeLine):
  xD H a (.ref b) v (upd H a (.dT (lA aI k v))):=.inr ⟨aI,k,b,e,rfl,eb,hl,rfl⟩
section
variable {X:Cx} {pins:List (Addr×Obj)} {σ:St} {H:Hp} {s:Shared} {a:Addr} {y v:V} {u r:Value} {o:Option V} {A:Around} {E:Value->Shared->Prop}
theorem aP.big (I:aP X pins σ H s):sysModules<s.heap.objs.size:=by
 have h:mainGlobals<s.heap.objs.size:=(I.mod.glob.keeps I.bk).lt
 exact Nat.lt_trans (by decide) h
theorem Lx {Q:Value->Shared->Prop} (hu:A.units+1<cLine) (I:aP X pins σ H s) (g:rE H a y (some v)) (ry:cA y u) (h:∀ w' s',aP X pins σ H s'->cA v w'->Q w' s'):
  wpAny (model X.prog X.w) A (getItem (.ref a) u) Q E s:=by
 rcases g with ⟨aI,k,e,ey,l⟩|⟨aI,k,b,e,ey,eb,l⟩
 ·subst ey
  obtain ⟨z,hd,vs,rel,dd⟩:=Di I.hok e
  obtain ⟨w',hw,rw'⟩:=lH.some_of (v:=v) (o:=valueAt vs k) (by rw [l];exact rel.val k)
  exact wpAny_getItem_of (Ec ry) dd.mapOf hw (h w' _ (I.tok _) rw')
 ·subst ey
  cases (show u=Value.ref b from ry)
  obtain ⟨z,hd,xs,rel,dd⟩:=Cs I.hok e
  obtain ⟨w',hw,rw'⟩:=lH.some_of (v:=v) (o:=(atKey xs k).map (·.2)) (by rw [l];exact rel.val k)
  obtain ⟨p,hp,hp2⟩:=Option.map_eq_some_iff.mp hw
  refine wpAny_getItem_heap (tupleKind_room_in1 hu) (qW I.hok eb) dd hp ?_
  rw [hp2]
  exact h w' _ (I.tok _) rw'
theorem aCm {Q:Value->Shared->Prop} (hu:A.units+1<cLine) (I:aP X pins σ H s) (g:rE H a y o) (ry:cA y u) (h:∀ s',aP X pins σ H s'->Q (.bool o.isSome) s'):
  wpAny (model X.prog X.w) A (compareOp .In u (.ref a)) Q E s:=by
 rcases g with ⟨aI,k,e,ey,l⟩|⟨aI,k,b,e,ey,eb,l⟩
 ·subst ey
  obtain ⟨z,hd,vs,rel,dd⟩:=Di I.hok e
  refine wpAny_in_of (Ec ry) hd dd.mapOf ?_
  rw [<-(rel.val k).isSome_eq,<-l]
  exact h _ (I.tok _)
 ·subst ey
  cases (show u=Value.ref b from ry)
  obtain ⟨z,hd,xs,rel,dd⟩:=Cs I.hok e
  refine wpAny_in_heap (tupleKind_room_in1 hu) (qW I.hok eb) hd dd ?_
  have q:=(rel.val k).isSome_eq
  rw [Option.isSome_map] at q
  rw [<-q,<-l]
  exact h _ (I.tok _)
theorem Sk {Q:Value->Shared->Prop} (hu:A.units+1<cLine) (I:aP X pins σ H s) (g:rE H a y o) (ry:cA y u) (h:∀ s',aP X pins σ H s'->Q (.bool (!o.isSome)) s'):
  wpAny (model X.prog X.w) A (compareOp .NotIn u (.ref a)) Q E s:=by
 rcases g with ⟨aI,k,e,ey,l⟩|⟨aI,k,b,e,ey,eb,l⟩
 ·subst ey
  obtain ⟨z,hd,vs,rel,dd⟩:=Di I.hok e
  refine wpAny_notIn_of (Ec ry) hd dd.mapOf ?_
  rw [<-(rel.val k).isSome_eq,<-l]
  exact h _ (I.tok _)
 ·subst ey
  cases (show u=Value.ref b from ry)
  obtain ⟨z,hd,xs,rel,dd⟩:=Cs I.hok e
  refine wpAny_notIn_heap (tupleKind_room_in1 hu) (qW I.hok eb) hd dd ?_
  have q:=(rel.val k).isSome_eq
  rw [Option.isSome_map] at q
  rw [<-q,<-l]
  exact h _ (I.tok _)
theorem zQ {h':Heap} {t':Nat} {ob:HO} (I:aP X pins σ H s) (mu:Wb (H a)) (hs:Heap.SameBut a s.heap h') (he:∃ q,h'.get? a=some q) (new:cJ X.prog X.w (upd H a ob) h' a ob):
  aP X pins σ (upd H a ob) {s with heap:=h',toks:=t'}:=
 I.write (x:=a) (e:=a) mu (.inl rfl) (fun b q hb z=>(hs.2 b hb).trans z) he new
theorem Zf {P:Program} {w:World} {H':Hp} {h':Heap} {aI:List (eD×V)} {vs:List (eD×Value)} (z:aI.length<=sizeLine) (hd:(a==sysModules)=false) (rel:KV aI vs) (dd:h'.DictOf (eO P w) a vs):
  cJ P w H' h' a (.dK aI):=⟨z,hd,vs,rel,dd⟩
theorem Md {H':Hp} {Q:Unit->Shared->Prop} (hu:A.units+1<cLine) (I:aP X pins σ H s) (g:xD H a y v H') (ry:cA y u) (rv:cA v r) (h:∀ s',aP X pins σ H' s'->Q () s'):
  wpAny (model X.prog X.w) A (setItem (.ref a) u r) Q E s:=by
 rcases g with ⟨aI,k,e,ey,l,eH⟩|⟨aI,k,b,e,ey,eb,l,eH⟩
 ·subst ey eH
  obtain ⟨z,hd,vs,rel,dd⟩:=aAe I.hok e
  have hz:vs.length<=sizeLine:=by rw [<-rel.length];exact z
  have hl:(lA aI k v).length<=sizeLine:=by have:=sO aI k v;omega
  refine wpAny_setItem_pairs (hsz:=hz) (Ec ry) dd fun h' dd' hs=>h _ ?_
  have he:∃ q,h'.get? a=some q:=let ⟨q,_,_,hq,_⟩:=dd';⟨q,hq⟩
  exact zQ I (by rw [e];exact True.intro) hs he (Zf hl hd (rel.put k rv) dd')
 ·subst ey eH
  cases (show u=Value.ref b from ry)
  obtain ⟨z,hd,xs,rel,dd⟩:=Vk I.hok e
  have hz:xs.length<=sizeLine:=by rw [<-Paired.length rel];exact z
  have hl:(lA aI k v).length<=sizeLine:=by have:=sO aI k v;omega
  refine wpAny_setItem_heap (hsz:=hz) (tupleKind_room_in1 hu) (qW I.hok eb) dd fun h' dd' hs=>h _ ?_
  obtain ⟨q,es,ep,hq,h2,h3,h4,_,h5⟩:=dd'
  refine zQ I (by rw [e];exact True.intro) hs ⟨q,hq⟩ ⟨hl,hd,_,(rel.put k eb rv).keeps fun c ys ec=>?_,q,es,ep,hq,h2,h3,h4,h5⟩
  rw [aC (Vt ec e (fun z=>nomatch z))]
  exact ec
end
section
variable {X:Cx} {pins:List (Addr×Obj)} {σ:St} {H:Hp} {s:Shared} {a:Addr} {aI:List (eD×V)} {k:eD} {u:Value} {A:Around} {E:Value->Shared->Prop}
end
def Zl (i:Expr):Prop:=∀ ov iv,subscripted i false ov iv=operate [ov,iv] (getItem ov iv)
theorem Sy {prog:Program} {w:World} {A:Around} {E:Value->Shared->Prop} {s:Shared} {env:Env} {value slice:Expr} {pos:Pos} {T id:String} {Q:Value->Shared->Prop}
  (hl:typeLookup (.type T) "__getitem__"=pure (some (.builtin id))) (hs:Zl slice)
  (h:wpAny (model prog w) A (eval value env) (fun o s₁=>wpAny (model prog w) A (eval slice env) (fun i s₂=>s₂.TypeIs o T/\wpAny (model prog w) A (getItem o i) Q E s₂) E s₁) E s):
  wpAny (model prog w) A (eval (.Subscript value slice pos) env) Q E s:=by
 refine Subscript_ (wpAny_mono h (fun o s₁ h₁=>wpAny_mono h₁ (fun i s₂ h₂=>?_) fun _ _ x=>x) fun _ _ x=>x)
 obtain ⟨hT,h₂⟩:=h₂
 unfold subscriptTail
 refine wpAny_bind ?_
 rw [getitemInPython_of_ne hT.not_modules]
 refine wpAny_bind (wpAny_specialOf hT hl ?_)
 have fin:wpAny (model prog w) A (subscripted slice false o i) (fun r s₃=>wpAny (model prog w) A (letTemporaryGo value o r>>=fun _=>pure r) Q E s₃) E s₂:=by
  rw [hs o i]
  exact wpAny_operating (wpAny_mono h₂ (fun r s₃ h₃=>wpAny_bind (wpAny_letTemporaryGo (wpAny_pure h₃))) fun _ _ x=>x)
 first
  |exact wpAny_pure (wpAny_bind fin)
  |exact wpAny_bind (wpAny_pure (wpAny_bind fin))
  |exact wpAny_bind fin
theorem Du {X:Cx} {pins:List (Addr×Obj)} {σ:St} {H:Hp} {s:Shared} {a:Addr} {y:V} {o:Option V} (I:aP X pins σ H s) (g:rE H a y o):s.TypeIs (.ref a) "dict":=by
 rcases g with ⟨aI,k,e,_,_⟩|⟨aI,k,b,e,_,_,_⟩
 ·obtain ⟨_,_,vs,_,dd⟩:=Di I.hok e
  exact dd.typeIs
 ·obtain ⟨_,_,xs,_,dd⟩:=Cs I.hok e
  exact dd.typeIs
def Vn (td ty:TE):TE:=fun σ H Q=>td σ H fun x H1=>ty σ H1 fun y H2=>∃ a v,x=.ref a/\rE H2 a y (some v)/\Q v H2
def aAs (ty td:TE):TE:=fun σ H Q=>ty σ H fun y H1=>td σ H1 fun x H2=>∃ a o,x=.ref a/\rE H2 a y o/\Q (.bl o.isSome) H2
def Ti (ty td:TE):TE:=fun σ H Q=>ty σ H fun y H1=>td σ H1 fun x H2=>∃ a o,x=.ref a/\rE H2 a y o/\Q (.bl (!o.isSome)) H2
def Vz (td ty tv:TE):TS:=fun D σ H=>tv σ H fun v H1=>td σ H1 fun x H2=>ty σ H2 fun y H3=>∃ a H4,x=.ref a/\xD H3 a y v H4/\D.nx σ H4
section
variable {X:Cx} {o i e value:Expr} {pos pos' tpos:Pos} {td ty tv:TE}
theorem pH (hu:X.A.units+1<cLine) (ho:PE X o td) (hi:PE X i ty) (hs:Zl i):PE X (.Subscript o i pos) (Vn td ty):=by
 intro pins s σ H Q I h
 refine Sy PySem.F.slot_dict_getitem.lookup hs (cT (ho pins s σ H _ I h) fun u s1 ⟨x,H1,I1,rx,q1⟩=>cT (hi pins s1 σ H1 _ I1 q1) fun iv s2 ⟨y,H2,I2,ry,a,v,ex,g,q2⟩=>?_)
 subst ex
 obtain rfl:u=Value.ref a:=rx
 exact ⟨Du I2 g,Lx hu I2 g ry fun w' s3 I3 rw'=>⟨v,H2,I3,rw',q2⟩⟩
theorem rD (hu:X.A.units+1<cLine) (hi:PE X i ty) (ho:PE X o td):PC X .In i o (aAs ty td):=by
 intro pins s σ H Q I h
 refine cT (hi pins s σ H _ I h) fun iv s1 ⟨y,H1,I1,ry,q1⟩=>cT (ho pins s1 σ H1 _ I1 q1) fun u s2 ⟨x,H2,I2,rx,a,ov,ex,g,q2⟩=>?_
 subst ex
 obtain rfl:u=Value.ref a:=rx
 exact aCm hu I2 g ry fun s3 I3=>⟨.bl ov.isSome,H2,I3,rfl,q2⟩
theorem Mw (hu:X.A.units+1<cLine) (hi:PE X i ty) (ho:PE X o td):PC X .NotIn i o (Ti ty td):=by
 intro pins s σ H Q I h
 refine cT (hi pins s σ H _ I h) fun iv s1 ⟨y,H1,I1,ry,q1⟩=>cT (ho pins s1 σ H1 _ I1 q1) fun u s2 ⟨x,H2,I2,rx,a,ov,ex,g,q2⟩=>?_
 subst ex
 obtain rfl:u=Value.ref a:=rx
 exact Sk hu I2 g ry fun s3 I3=>⟨.bl (!ov.isSome),H2,I3,rfl,q2⟩
theorem nQ (hu:X.A.units+1<cLine) (ho:PE X o td) (hi:PE X i ty) (hv:PE X value tv) (hs:swapsWith value (some (.Subscript o i pos')) pos.line X.env=pure false):
  PS X (.Assign [.Subscript o i pos'] value pos) (Vz td ty tv):=by
 intro pins s σ H D I h
 refine wpAny_Assign_Subscript (cT (hv pins s σ H _ I h) fun r s1 ⟨v,H1,I1,rv,q1⟩=>cT (ho pins s1 σ H1 _ I1 q1) fun u s2 ⟨x,H2,I2,rx,q2⟩=>cT (hi pins s2 σ H2 _ I2 q2) fun iv s3 ⟨y,H3,I3,ry,a,H4,ex,g,q3⟩=>?_) hs
 subst ex
 obtain rfl:u=Value.ref a:=rx
 exact Md hu I3 g ry rv fun s4 I4=>⟨σ,H4,I4,q3⟩
end
theorem Cw {P:Program} {w:World} {H:Hp} (h:Heap) (hb:sysModules<h.objs.size):cJ P w H (h.push {cls:=.type "dict",data:=.dict #[]}) h.objs.size (.dT []):=
 ⟨Nat.zero_le _,beq_eq_false_iff_ne.mpr (Ne.symm (Nat.ne_of_lt hb)),[],.nil,_,#[],0,Heap.get?_push_size _ rfl,⟨rfl,rfl,rfl⟩,rfl,rfl,List.nodup_nil⟩
def Xp:TE:=fun _ H Q=>∀ p,H p=none->Q (.ref p) (upd H p (.dT []))
section
variable {X:Cx} {pos:Pos}
theorem mP:PE X (.Dict [] [] pos) Xp:=fun pins s σ H Q I h=>
 wpAny_Dict_empty ⟨.ref s.heap.objs.size,_,I.laid (a:=s.heap.objs.size) (o:=.dT []) (t':=s.toks) (fun _ _ q=>Heap.get?_push_of_some _ q) (Nat.le_refl _) (Cw s.heap I.big),rfl,h _ (I.hok.fresh (Nat.le_refl _))⟩
end
section
variable {X:Cx} {pins:List (Addr×Obj)} {σ:St} {H:Hp} {s:Shared} {a:Addr} {y d:V} {u r:Value} {o:Option V} {A:Around} {E:Value->Shared->Prop}
end
section
variable {X:Cx} {o e f:Expr} {apos cpos:Pos} {td ty tx:TE}
end
section
variable {X:Cx} {pins:List (Addr×Obj)} {σ:St} {H:Hp} {s:Shared} {a:Addr} {aI:List (eD×V)} {A:Around} {E:Value->Shared->Prop}
end
section
variable {X:Cx} {pins:List (Addr×Obj)} {σ:St} {H:Hp} {s:Shared} {a:Addr} {y:V} {u:Value} {A:Around} {E:Value->Shared->Prop}
end
section
variable {prog:Program} {w:World} {A:Around} {E:Value->Shared->Prop}
end
section
variable {X:Cx}
end
section
variable {X:Cx} {pins:List (Addr×Obj)} {σ:St} {H:Hp} {s:Shared} {h':Heap}
theorem aP.turnedNew {t':Nat} {ch:List Addr} {T:Addr} {ob:HO} (I:aP X pins σ H s) (k:∀ b o,b∉ch->s.heap.get? b=some o->h'.get? b=some o) (hf:∀ b∈ch,sY X pins H b) (hT:s.heap.objs.size<=T)
  (new:cJ X.prog X.w (upd H T ob) h' T ob):aP X pins σ (upd H T ob) {s with heap:=h',toks:=t'}:=by
 have hn:H T=none:=I.hok.fresh hT
 have nit:∀ b u,H b=some u->b∉ch:=fun b u e z=>by
  have q:=(hf b z).1
  rw [q] at e;cases e
 refine I.step (g':=s.gens) (d':=s.drawn) (ch:=ch) (fun b hb=>⟨(hf b hb).2.2.2.1,(hf b hb).2.1,(hf b hb).2.2.2.2.1,(hf b hb).2.2.2.2.2⟩) (fun b o _ _ hc e _=>k b o hc e) (fun b o _ _ hc e _=>⟨o.slots,k b o hc e⟩)
  (fun b o _ e n=>?_) (fun b o hc e=>⟨o,k b o hc e⟩) (fun b xs e=>?_) (fun b o u e=>?_) (fun b ps e=>⟨#[],?_⟩) (fun m hm=>?_) (fun b u e=>?_) I.bare
 ·rw [aC (Nat.ne_of_lt (Nat.lt_of_lt_of_le (Heap.lt_size e) hT))];exact n
 ·rw [aC (aD e hn)];exact e
 ·rw [aC (aD e hn)];exact e
 ·rw [aC (aD e hn),e];simp
 ·obtain ⟨o,es,ep,ho,r⟩:=hm
  exact ⟨o,es,ep,k _ o (fun z=>(hf _ z).2.1 rfl) ho,r⟩
 ·by_cases hb:b=T
  ·subst hb
   rw [aB] at e
   cases e
   exact new
  ·rw [aC hb] at e
   refine (I.hok b u e).stay (fun c v hc q=>k c v ?_ q) (fun c q=>by rw [aC (aD q hn)];exact q) fun c xs q=>by rw [aC (aD q hn)];exact q
   rcases hc with z|z
   ·rw [z];exact nit b u e
   ·exact nit c _ z
theorem aP.lock {d:Addr} {u:HO} (I:aP X pins σ H s) (h:H d=some u) (mu:Wb (some u)):∃ od,aP X pins σ (upd H d (.frz od u)) s:=by
 have x:=I.hok d u h
 have ex:∃ od,s.heap.get? d=some od:=by
  cases u with
  |lst xs=>obtain ⟨_,_,_,_,e⟩:=x;exact ⟨_,e⟩
  |dK aI=>obtain ⟨_,_,_,_,o,_,_,e,_⟩:=x;exact ⟨o,e⟩
  |dT aI=>obtain ⟨_,_,_,_,o,_,_,e,_⟩:=x;exact ⟨o,e⟩
  |set S n=>obtain ⟨o,_,_,_,e,_⟩:=x;exact ⟨o,e⟩
  |ins C dx fs=>obtain ⟨_,_,_,e,_⟩:=x;exact ⟨_,e⟩
  |ext φ=>obtain ⟨_,⟨_,e⟩,_⟩:=x;exact ⟨_,e⟩
  |_=>exact False.elim mu
 obtain ⟨od,e⟩:=ex
 have new:cJ X.prog X.w (upd H d (.frz od u)) s.heap d (.frz od u):=by
  refine ⟨e,x.stay (fun b v _ q=>q) (fun b q=>?_) fun b xs q=>?_⟩
  ·rw [aC (fun z=>by rw [z,h] at q;cases q;exact mu)];exact q
  ·rw [aC (fun z=>by rw [z,h] at q;cases q;exact mu)];exact q
 exact ⟨od,I.write (x:=d) (e:=d) (t':=s.toks) (h':=s.heap) (by rw [h];exact mu) (.inl rfl) (fun b v _ q=>q) ⟨od,e⟩ new⟩
theorem aP.nofrz {d:Addr} {u:HO} (I:aP X pins σ H s) (h:H d=some u) (mu:Wb (some u)):∀ o' u',X.H_0 d≠some (.frz o' u'):=fun o' u' e=>by
 have q:=I.base.frzs d o' u' e
 rw [h] at q
 cases q
 exact mu
theorem aP.unlock {d:Addr} {od:Obj} {u:HO} (I:aP X pins σ H s) (h:H d=some (.frz od u)) (hn:∀ o' u',X.H_0 d≠some (.frz o' u')):aP X pins σ (upd H d u) s:=by
 have neH:∀ b o,H b=some o->(∀ o' u',o≠.frz o' u')->b≠d:=fun b o e hne z=>by
  rw [z,h] at e
  cases e
  exact hne _ _ rfl
 have neN:∀ b,H b=none->b≠d:=fun b e z=>by rw [z,h] at e;cases e
 refine ⟨I.ok,I.os,I.bare,⟨I.base.keep,I.base.slot,fun b o e n hx=>?_,I.base.there,fun b xs e=>?_,fun b o x e=>?_,fun b ps e=>?_⟩,I.loc,I.cell,?_,fun x c e=>?_,fun p hp=>?_,fun b o e=>?_,I.len⟩
 ·rw [aC (neN b (I.base.free b o e n hx))];exact I.base.free b o e n hx
 ·have q:=I.base.tups b xs e
  rw [aC (neH b _ q (fun _ _ z=>nomatch z))];exact q
 ·have q:=I.base.frzs b o x e
  rw [aC (fun z=>by rw [z] at e;exact hn _ _ e)];exact q
 ·obtain ⟨m,q⟩:=I.base.tbls b ps e
  exact ⟨m,by rw [aC (neH b _ q (fun _ _ z=>nomatch z))];exact q⟩
 ·rw [aC (neN _ I.free)];exact I.free
 ·rw [aC (neN c (I.freeC x c e))];exact I.freeC x c e
 ·obtain ⟨e,n,r⟩:=I.pin p hp
  exact ⟨e,by rw [aC (neN _ n)];exact n,r⟩
 ·by_cases hb:b=d
  ·rw [hb,aB] at e
   cases e
   rw [hb]
   obtain ⟨_,x⟩:=I.hok d _ h
   exact x.stay (fun c v _ q=>q) (fun c q=>by rw [aC (neH c _ q (fun _ _ z=>nomatch z))];exact q) fun c xs q=>by rw [aC (neH c _ q (fun _ _ z=>nomatch z))];exact q
  ·rw [aC hb] at e
   exact (I.hok b o e).stay (fun c v _ q=>q) (fun c q=>by rw [aC (neH c _ q (fun _ _ z=>nomatch z))];exact q) fun c xs q=>by rw [aC (neH c _ q (fun _ _ z=>nomatch z))];exact q
end
def Zp (t:TS):TS:=fun D σ H=>∃ d u,H d=some u/\Wb (some u)/\∀ od,t ⟨fun σ' H'=>H' d=some (.frz od u)/\D.nx σ' (upd H' d u),fun v H'=>H' d=some (.frz od u)/\D.rt v (upd H' d u),fun σ' H'=>H' d=some (.frz od u)/\D.bk σ' (upd H' d u),fun σ' H'=>H' d=some (.frz od u)/\D.ct σ' (upd H' d u)⟩ σ (upd H d (.frz od u))
section
variable {X:Cx}
theorem kH {st:Stmt} {t:TS} (h:PS X st t):PS X st (Zp t):=by
 intro pins s σ H D I hw
 obtain ⟨d,u,hd,mu,hw⟩:=hw
 obtain ⟨od,I1⟩:=I.lock hd mu
 refine cT (h pins s σ _ _ I1 (hw od)) fun f s1 q=>?_
 cases f with
 |next=>obtain ⟨σ',H',I2,e,q⟩:=q;exact ⟨σ',_,I2.unlock e (I.nofrz hd mu),q⟩
 |brk=>obtain ⟨σ',H',I2,e,q⟩:=q;exact ⟨σ',_,I2.unlock e (I.nofrz hd mu),q⟩
 |cont=>obtain ⟨σ',H',I2,e,q⟩:=q;exact ⟨σ',_,I2.unlock e (I.nofrz hd mu),q⟩
 |ret v=>obtain ⟨x,σ',H',I2,r,e,q⟩:=q;exact ⟨x,σ',_,I2.unlock e (I.nofrz hd mu),r,q⟩
theorem rL {tg:Expr} {pins:List (Addr×Obj)} {σ:St} {H:Hp} {s:Shared} {R:It->Hp->Prop} {J:It} {tn:Nat->Heap->Prop} {tk:Nat} (I:aP X pins σ H s) (o:Obj)
  (T:vD X.prog X.w X.K tg J [s.heap.objs.size] s.heap.objs.size tn) (st:tn 0 (s.heap.push o)) (q:R J H):Zk X pins σ tg R (.ref s.heap.objs.size) {s with heap:=s.heap.push o,toks:=tk}:=by
 refine ⟨s.heap.objs.size,[s.heap.objs.size],tn,J,H,rfl,I.kept fun b ob e=>Heap.get?_push_of_some _ e,T,st,fun b hb=>?_,q⟩
 have e:b=s.heap.objs.size:=by simpa using hb
 subst e
 exact I.fpOk (Nat.le_refl _) (I.hok.fresh (Nat.le_refl _))
end
section
variable {X:Cx} {tg:Expr}
end
section
variable {X:Cx} {tg:Expr}
end
def Wf (x:Str):It:=⟨fun i _=>i<x.cps.size,fun i H v H'=>H'=H/\∃ c,x.cps[i]?=some c/\v=.str ⟨#[c]⟩,fun i _=>x.cps.size<=i⟩
theorem Eh {P:Program} {w:World} {K:PySem.W.Frag} {tg:Expr} (it:Addr) (x:Str) (t:Tok) (ty:String) (hty:ty="str_ascii_iterator"\/ty="str_iterator"):
  vD P w K tg (Wf x) [it] it (fun i h=>h.IsStrIter it ty x t i) where
 mem:=by simp
 obj:=fun i h st b hb=>by
  have e:b=it:=by simpa using hb
  subst e
  obtain ⟨o,e,c,d⟩:=st
  exact ⟨o,e,fun v z=>by rw [d] at z;cases z⟩
 keep:=fun i h h' st k=>let ⟨o,ho,r⟩:=st;⟨o,k it (by simp) o ho,r⟩
 item:=by
  intro X hP hw hK hc i pins s σ H E I hf st hg
  subst hP hw hK
  obtain ⟨f0,f1,f2,f3,f4,f5⟩:=hf it (by simp)
  have W:Walks X.prog X.w X.A it [it] [it] x.cps.size (SignAt x) (fun i h=>h.IsStrIter it ty x t i):=by
   rcases hty with e|e
   ·rw [e];exact Walks.strAscii (I.ok.hd hc) it x t
   ·rw [e];exact Walks.strWide (I.ok.hd hc) it x t
  have hno:["enumerate","zip","dict_itemiterator","dict_reverseitemiterator","odict_iterator","itertools.zip_longest","itertools.pairwise"].contains ty=false:=by
   rcases hty with e|e
   ·rw [e];decide
   ·rw [e];decide
  refine W.item i s _ _ hg st fun v h' tk hv st' kk=>?_
  obtain ⟨c,u,hcx,rfl⟩:=hv
  have I1:aP X pins σ H {s with heap:=h',toks:=tk}:=I.turned (fun b o hb e=>kk b o (by simpa using hb) e) f0 f1 f3 f4 f5
  obtain ⟨oi,e,cc,dd⟩:=id st'
  exact ⟨_,rfl,yX (s:={s with heap:=h',toks:=tk}) e cc dd hno ⟨.str ⟨#[c]⟩,H,I1,⟨u,rfl⟩,⟨rfl,c,hcx,rfl⟩,st',fun b hb=>(hf b hb).1⟩⟩
 done:=by
  intro X hP hw hK hc i pins s σ H E I hf st hg
  subst hP hw hK
  obtain ⟨f0,f1,f2,f3,f4,f5⟩:=hf it (by simp)
  have hx:x.cps[i]?=none:=Array.getElem?_eq_none hg
  rcases hty with e|e
  ·rw [e] at st
   exact wpAny_pyNext_ascii_end (I.ok.hd hc) st hx fun h' eb=>⟨rfl,I.turned (t':=s.toks) (fun b o hb e=>eb b o hb e) f0 f1 f3 f4 f5⟩
  ·rw [e] at st
   exact wpAny_pyNext_wide_end (I.ok.hd hc) st hx fun h' eb=>⟨rfl,I.turned (t':=s.toks) (fun b o hb e=>eb b o hb e) f0 f1 f3 f4 f5⟩
 self:=fun A i s Q E st h=>by
  rcases hty with e|e
  ·rw [e] at st;exact wpAny_pyIter_striter_ascii st h
  ·rw [e] at st;exact wpAny_pyIter_striter_wide st h
def aBo (te:TE):TI:=fun σ H R=>te σ H fun v H1=>∃ x,v=.str x/\R (Wf x) H1
theorem Of {X:Cx} {tg e:Expr} {te:TE} (he:PE X e te):PI X tg e (aBo te):=by
 intro pins s σ H R I h
 refine cT (he pins s σ H _ I h) fun v s1 ⟨y,H1,I1,r1,x,ex,q⟩=>?_
 subst ex
 obtain ⟨t,rfl⟩:=r1
 cases ha:x.cps.all (· <128)
 ·exact wpAny_pyIter_wide ha (rL (tk:=s1.toks) I1 _ (Eh _ x t "str_iterator" (.inr rfl)) ⟨_,Heap.get?_push_size _ rfl,rfl,rfl⟩ q)
 ·exact wpAny_pyIter_ascii ha (rL (tk:=s1.toks) I1 _ (Eh _ x t "str_ascii_iterator" (.inl rfl)) ⟨_,Heap.get?_push_size _ rfl,rfl,rfl⟩ q)
section
variable {prog:Program} {w:World} {A:Around} {E:Value->Shared->Prop} {s:Shared}
theorem qY {d:Addr} {o:Obj} {es:Array DictEntry} {ep:Nat} {Q:Value->Shared->Prop} (hd:(d==sysModules)=false) (ho:s.heap.get? d=some o) (hc:o.ExactDict) (hdat:o.data=.dict es ep)
  (hQ:Q (.ref s.heap.objs.size) {s with heap:=s.heap.push {cls:=.type "dict_keyiterator",data:=.fields #[.ref d,.int 0 0,.int es.size 0,.int ep 0]}}):
  wpAny (model prog w) A (pyIter (.ref d)) Q E s:=by
 have hT:s.TypeIs (.ref d) "dict":=⟨o,ho,hc.1⟩
 refine wpAny_pyIter_slot hT F.slot_dict_iter (wpAny_call_entry F.slot_dict_iter hT F.entry_dict_iter ?_ (F.args_dict_iter_1 _))
 unfold Builtin.«dict.__iter__»
 refine wpAny_bind ?_
 unfold Builtin.Dict.dictSlotNone
 refine wpAny_bind (wpAny_notOrdered_dict hT ?_)
 show wpAny _ _ (pure (Value.ref d)) _ _ s
 refine wpAny_pure ?_
 show wpAny _ _ (Builtin.Dict.showsAll d>>=_) _ _ s
 unfold Builtin.Dict.showsAll
 rw [if_neg (by rw [hd];exact Bool.false_ne_true)]
 refine wpAny_bind (wpAny_pure ?_)
 refine wpAny_bind (wpAny_dictEntries ho hdat ?_)
 refine wpAny_bind (wpAny_dictEpoch ho hdat ?_)
 refine wpAny_bind (wpAny_newObj_type (wpAny_pure ⟨_,rfl,"dict_keyiterator",_,⟨_,Heap.get?_push_size _ rfl,rfl⟩,F.slot_dict_keyiterator_next.lookup,?_⟩))
 simpa [rawInt] using hQ
theorem oJ {it d:Addr} {i n ep:Nat} {od:Obj} {es:Array DictEntry} {en:DictEntry} {Q:Option Value->Shared->Prop} (hit:s.heap.IsKeyIter it d i n ep) (hod:s.heap.get? d=some od) (hdd:od.data=.dict es ep)
  (hsz:es.size=n) (hx:es[i]?=some en) (hQ:∀ h',h'.IsKeyIter it d (i+1) n ep->Heap.SameBut it s.heap h'->Q (some en.key) {s with heap:=h'}):wpAny (model prog w) A (pyNext (.ref it)) Q E s:=by
 obtain ⟨o,ho,hc,hd⟩:=id hit
 unfold pyNext
 refine wpAny_bind (wpAny_attempt (wpAny_callSpecial?_slot (name:=Str.ofString "__next__") hit.typeIs F.slot_dict_keyiterator_next
  (wpAny_call_entry F.slot_dict_keyiterator_next hit.typeIs F.entry_dict_keyiterator_next ?_ (F.args_dict_keyiterator_next_1 _))))
 refine wpAny_bind (wpAny_pure ?_)
 refine wpAny_bind ?_
 refine wpAny_bind ?_
 first|refine wpAny_bind (wpAny_typeNameOfWhole_keyiter hit.typeIs (wpAny_pure ?_))|refine wpAny_bind (wpAny_typeNameOf_keyiter hit.typeIs (wpAny_pure ?_))
 refine wpAny_bind (wpAny_fieldsOf ho hd ?_)
 have hown:Builtin.Dict_items.ownsTuple "dict_keyiterator"=false:=by decide
 simp only [hown,Bool.false_eq_true,if_false]
 show wpAny _ _ (if (Value.ref d==Value.none)=true then _ else _) _ _ s
 rw [if_neg (show ¬((Value.ref d==Value.none)=true) from Bool.false_ne_true)]
 refine wpAny_bind (wpAny_pure ?_)
 refine wpAny_bind (wpAny_dictEntries hod hdd ?_)
 rw [if_neg (by rw [hsz];simp)]
 refine wpAny_bind (wpAny_pure ?_)
 refine wpAny_bind (wpAny_dictEpoch hod hdd ?_)
 rw [if_neg (by simp)]
 refine wpAny_pure ?_
 obtain ⟨hlt',hen⟩:=Array.getElem?_eq_some_iff.mp hx
 simp only [show ¬((i:Int)<0) from by omega,if_false,Int.toNat_natCast,Array.getElem?_eq_getElem hlt']
 refine wpAny_bind ?_
 first|refine wpAny_bind (wpAny_typeNameOfWhole_keyiter hit.typeIs (wpAny_pure ?_))|refine wpAny_bind (wpAny_typeNameOf_keyiter hit.typeIs (wpAny_pure ?_))
 refine wpAny_bind (wpAny_isOneOf_keyiter hit.typeIs ?_)
 show wpAny _ _ (setField (.ref it) 1 (rawInt ((i:Int)+1))>>=_) _ _ s
 refine wpAny_bind (wpAny_setField ho hd (by simp) ?_)
 have hit':(s.heap.update it (Obj.mapFields (·.setIfInBounds 1 (rawInt ((i:Int)+1))))).IsKeyIter it d (i+1) n ep:=
  ⟨_,Heap.get?_update_self _ ho (Obj.isFreed_of_fields (Obj.data_mapFields hd _)),(Obj.cls_mapFields ..).trans hc,by rw [Obj.data_mapFields hd];simp [rawInt]⟩
 refine wpAny_bind (wpAny_holding ?_)
 refine wpAny_bind (wpAny_isOneOf_keyiter (s:={s with heap:=s.heap.update it (Obj.mapFields (·.setIfInBounds 1 (rawInt ((i:Int)+1))))}) hit'.typeIs ?_)
 show wpAny _ _ (pure es[i].key) _ _ _
 rw [hen]
 exact wpAny_pure (wpAny_pure ⟨_,rfl,wpAny_pure (hQ _ hit' (Heap.SameBut.update ..))⟩)
theorem kZ {it d:Addr} {i n ep:Nat} {od:Obj} {es:Array DictEntry} {Q:Option Value->Shared->Prop} (hh:A.handled=none) (hit:s.heap.IsKeyIter it d i n ep) (hod:s.heap.get? d=some od) (hdd:od.data=.dict es ep)
  (hsz:es.size=n) (hge:n<=i) (hQ:∀ h',Heap.ExtBut it s.heap h'->Q none {s with heap:=h'}):wpAny (model prog w) A (pyNext (.ref it)) Q E s:=by
 obtain ⟨o,ho,hc,hd⟩:=id hit
 unfold pyNext
 refine wpAny_bind (wpAny_attempt (wpAny_callSpecial?_slot (name:=Str.ofString "__next__") hit.typeIs F.slot_dict_keyiterator_next
  (wpAny_call_entry F.slot_dict_keyiterator_next hit.typeIs F.entry_dict_keyiterator_next ?_ (F.args_dict_keyiterator_next_1 _))))
 refine wpAny_bind (wpAny_pure ?_)
 refine wpAny_bind ?_
 refine wpAny_bind ?_
 first|refine wpAny_bind (wpAny_typeNameOfWhole_keyiter hit.typeIs (wpAny_pure ?_))|refine wpAny_bind (wpAny_typeNameOf_keyiter hit.typeIs (wpAny_pure ?_))
 refine wpAny_bind (wpAny_fieldsOf ho hd ?_)
 have hown:Builtin.Dict_items.ownsTuple "dict_keyiterator"=false:=by decide
 simp only [hown,Bool.false_eq_true,if_false]
 show wpAny _ _ (if (Value.ref d==Value.none)=true then _ else _) _ _ s
 rw [if_neg (show ¬((Value.ref d==Value.none)=true) from Bool.false_ne_true)]
 refine wpAny_bind (wpAny_pure ?_)
 refine wpAny_bind (wpAny_dictEntries hod hdd ?_)
 rw [if_neg (by rw [hsz];simp)]
 refine wpAny_bind (wpAny_pure ?_)
 refine wpAny_bind (wpAny_dictEpoch hod hdd ?_)
 rw [if_neg (by simp)]
 refine wpAny_pure ?_
 have hge':es.size<=i:=by rw [hsz];exact hge
 simp only [show ¬((i:Int)<0) from by omega,if_false,Int.toNat_natCast,Array.getElem?_eq_none hge']
 refine wpAny_bind ?_
 first|refine wpAny_bind (wpAny_typeNameOfWhole_keyiter hit.typeIs (wpAny_pure ?_))|refine wpAny_bind (wpAny_typeNameOf_keyiter hit.typeIs (wpAny_pure ?_))
 show wpAny _ _ (setField (.ref it) 0 .none>>=_) _ _ s
 refine wpAny_bind (wpAny_setField ho hd (by simp) ?_)
 show wpAny _ _ (newExc (.type "StopIteration") []>>=_) _ _ _
 refine wpAny_bind ?_
 simp only [newExc,newTuple]
 refine wpAny_bind (wpAny_newObj_type ?_ (by size_fits))
 refine wpAny_bind (m:=firstArgMember _ _) (wpAny_of_eq (a:=Value.none) (by first|rfl|(simp only [firstArgMember];rfl)) ?_)
 refine wpAny_newObj_type ?_ (by size_fits)
 simp only [raiseNew]
 refine wpAny_bind (wpAny_handled ?_)
 rw [show A.in1.handled=none from hh]
 refine wpAny_bind (wpAny_pure (wpAny_throw ?_))
 refine wpAny_bind (wpAny_isInstance (T:="StopIteration") (b:=true) ⟨_,Heap.get?_push_size _ rfl,rfl⟩ isSubtype_stop ?_)
 exact wpAny_pure (hQ _ (((Heap.SameBut.update ..).extBut.push _).push _))
end
theorem Xf {κ:Type} {aI:List (κ×V)} {vs:List (κ×Value)} (h:KV aI vs):∀ {i:Nat} {k:κ} {v:V},aI[i]?=some (k,v)->∃ u,vs[i]?=some (k,u)/\cA v u:=by
 unfold KV at h
 induction h with
 |nil=>intro i k v e;simp at e
 | @cons a b l₁ l₂ r t ih=>
  intro i k v e
  cases i with
  |zero=>
   simp only [List.getElem?_cons_zero,Option.some.injEq] at e
   subst e
   refine ⟨b.2,?_,r.2⟩
   simp only [List.getElem?_cons_zero]
   exact congrArg some (Prod.ext r.1.symm rfl)
  |succ j=>
   simp only [List.getElem?_cons_succ] at e ⊢
   exact ih e
theorem pC {α β:Type} {G:α->β->Prop} {l₁:List α} {l₂:List β} (h:Paired G l₁ l₂):∀ {i:Nat} {a:α},l₁[i]?=some a->∃ b,l₂[i]?=some b/\G a b:=by
 induction h with
 |nil=>intro i a e;simp at e
 | @cons a b l₁ l₂ r t ih=>
  intro i a' e
  cases i with
  |zero=>
   simp only [List.getElem?_cons_zero,Option.some.injEq] at e
   subst e
   exact ⟨b,rfl,r⟩
  |succ j=>
   simp only [List.getElem?_cons_succ] at e ⊢
   exact ih e
theorem Op {k:eD} {u:Value} (h:sT k u=true):cA (kV k) u:=by
 rcases dH h with ⟨i,t,rfl,rfl⟩|⟨x,t,rfl,rfl⟩
 ·exact ⟨t,rfl⟩
 ·exact ⟨t,rfl⟩
section
variable {X:Cx} {pins:List (Addr×Obj)} {σ:St} {H:Hp} {s:Shared} {d:Addr} {o:Obj}
theorem aP.frzK {aI:List (eD×V)} (I:aP X pins σ H s) (h:H d=some (.frz o (.dK aI))):
  (d==sysModules)=false/\s.heap.get? d=some o/\o.ExactDict/\∃ (es:Array DictEntry) (ep:Nat) (vs:List (eD×Value)),o.data=.dict es ep/\es.size=aI.length/\KV aI vs/\s.heap.DictAt (eO X.prog X.w) d vs ep:=by
 obtain ⟨hd,z,hs,vs,kv,o',es,ep,ho,hx,hdt,r⟩:=I.hok d _ h
 rw [hd] at ho
 cases ho
 refine ⟨hs,hd,hx,es,ep,vs,hdt,?_,kv,o,es,hd,hx,hdt,r⟩
 have l1:=r.2.1.length
 have l2:aI.length=vs.length:=Paired.length kv
 rw [Array.length_toList] at l1
 omega
theorem aP.frzT {aI:List (List eD×V)} (I:aP X pins σ H s) (h:H d=some (.frz o (.dT aI))):
  (d==sysModules)=false/\s.heap.get? d=some o/\o.ExactDict/\∃ (es:Array DictEntry) (ep:Nat),o.data=.dict es ep/\es.size=aI.length/\
   ∀ (i:Nat) (k:List eD) (v:V),aI[i]?=some (k,v)->∃ (en:DictEntry) (q:Addr),es[i]?=some en/\en.key=.ref q/\H q=some (.tup (k.map kV)):=by
 obtain ⟨hd,z,hs,xs,pr,o',es,ep,ho,hx,hdt,he,_⟩:=I.hok d _ h
 rw [hd] at ho
 cases ho
 refine ⟨hs,hd,hx,es,ep,hdt,?_,fun i k v e=>?_⟩
 ·have l1:es.size=xs.length:=size_of_entries he
  have l2:aI.length=xs.length:=Paired.length pr
  omega
 ·obtain ⟨b,hb,e1,e2,_⟩:=pC pr e
  have q:=entry_at he i
  rw [hb] at q
  exact ⟨_,b.2.1,q,rfl,e2⟩
end
def Itk (d:Addr) (o:Obj) (aI:List (eD×V)):It:=
 ⟨fun i H=>H d=some (.frz o (.dK aI))/\i<aI.length,fun i H x H'=>H'=H/\∃ k v,aI[i]?=some (k,v)/\x=kV k,fun i H=>H d=some (.frz o (.dK aI))/\aI.length<=i⟩
def Re (d:Addr) (o:Obj) (aI:List (List eD×V)):It:=
 ⟨fun i H=>H d=some (.frz o (.dT aI))/\i<aI.length,fun i H x H'=>H'=H/\∃ (k:List eD) (v:V) (q:Addr),aI[i]?=some (k,v)/\x=.ref q/\H q=some (.tup (k.map kV)),fun i H=>H d=some (.frz o (.dT aI))/\aI.length<=i⟩
theorem nJ {o:Obj} {es es':Array DictEntry} {ep ep':Nat} (h:o.data=.dict es ep) (h':o.data=.dict es' ep'):es'=es/\ep'=ep:=by
 rw [h] at h'
 cases h'
 exact ⟨rfl,rfl⟩
section
variable {P:Program} {w:World} {K:PySem.W.Frag} {tg:Expr} {d:Addr} {o:Obj} {es:Array DictEntry} {ep:Nat}
theorem Kr {aI:List (eD×V)} (it:Addr) (hod:o.data=.dict es ep):vD P w K tg (Itk d o aI) [it] it (fun i h=>h.IsKeyIter it d i aI.length ep) where
 mem:=by simp
 obj:=fun i h st b hb=>by
  have e:b=it:=by simpa using hb
  subst e
  obtain ⟨oi,e,c,dd⟩:=st
  exact ⟨oi,e,fun v z=>by rw [dd] at z;cases z⟩
 keep:=fun i h h' st k=>st.at fun oi e=>k it (by simp) oi e
 item:=by
  intro X hP hw hK hc i pins s σ H E I hf st hg
  subst hP hw hK
  obtain ⟨hd,hi⟩:=hg
  obtain ⟨f0,f1,f2,f3,f4,f5⟩:=hf it (by simp)
  obtain ⟨hs,hgd,hx,es',ep',vs,hdt,hsz,kv,hm⟩:=I.frzK hd
  obtain ⟨rfl,rfl⟩:=nJ hod hdt
  obtain ⟨⟨k,v⟩,hkv⟩:∃ p,aI[i]?=some p:=⟨aI[i],List.getElem?_eq_getElem hi⟩
  obtain ⟨u,hu,ru⟩:=Xf kv hkv
  have hl:aI.length=vs.length:=Paired.length kv
  rw [hl] at st
  refine wpAny_pyNext_dict_item st hm hu fun key h' hkey st' sb=>?_
  have I1:aP X pins σ H {s with heap:=h'}:=I.turned (t':=s.toks) (fun b ob hb e=>(sb.2 b hb).trans e) f0 f1 f3 f4 f5
  obtain ⟨oi,e,c,dd⟩:=id st'
  refine ⟨key,rfl,yX (s:={s with heap:=h'}) e c dd (by decide) ⟨kV k,H,I1,Op (show sT k key=true from hkey),⟨rfl,k,v,hkv,rfl⟩,?_,fun b hb=>(hf b hb).1⟩⟩
  show h'.IsKeyIter it d (i+1) aI.length _
  rw [hl]
  exact st'
 done:=by
  intro X hP hw hK hc i pins s σ H E I hf st hg
  subst hP hw hK
  obtain ⟨hd,hi⟩:=hg
  obtain ⟨f0,f1,f2,f3,f4,f5⟩:=hf it (by simp)
  obtain ⟨hs,hgd,hx,es',ep',vs,hdt,hsz,kv,hm⟩:=I.frzK hd
  obtain ⟨rfl,rfl⟩:=nJ hod hdt
  exact kZ (I.ok.hd hc) st hgd hdt hsz hi fun h' eb=>⟨rfl,I.turned (t':=s.toks) (fun b ob hb e=>eb b ob hb e) f0 f1 f3 f4 f5⟩
 self:=fun A i s Q E st h=>wpAny_pyIter_keyiter st h
theorem Fo {aI:List (List eD×V)} (it:Addr) (hod:o.data=.dict es ep):vD P w K tg (Re d o aI) [it] it (fun i h=>h.IsKeyIter it d i aI.length ep) where
 mem:=by simp
 obj:=fun i h st b hb=>by
  have e:b=it:=by simpa using hb
  subst e
  obtain ⟨oi,e,c,dd⟩:=st
  exact ⟨oi,e,fun v z=>by rw [dd] at z;cases z⟩
 keep:=fun i h h' st k=>st.at fun oi e=>k it (by simp) oi e
 item:=by
  intro X hP hw hK hc i pins s σ H E I hf st hg
  subst hP hw hK
  obtain ⟨hd,hi⟩:=hg
  obtain ⟨f0,f1,f2,f3,f4,f5⟩:=hf it (by simp)
  obtain ⟨hs,hgd,hx,es',ep',hdt,hsz,ent⟩:=I.frzT hd
  obtain ⟨rfl,rfl⟩:=nJ hod hdt
  obtain ⟨⟨k,v⟩,hkv⟩:∃ p,aI[i]?=some p:=⟨aI[i],List.getElem?_eq_getElem hi⟩
  obtain ⟨en,q,hen,hkey,hq⟩:=ent i k v hkv
  refine oJ st hgd hdt hsz hen fun h' st' sb=>?_
  have I1:aP X pins σ H {s with heap:=h'}:=I.turned (t':=s.toks) (fun b ob hb e=>(sb.2 b hb).trans e) f0 f1 f3 f4 f5
  obtain ⟨oi,e,c,dd⟩:=id st'
  exact ⟨en.key,rfl,yX (s:={s with heap:=h'}) e c dd (by decide) ⟨.ref q,H,I1,hkey,⟨rfl,k,v,q,hkv,rfl,hq⟩,st',fun b hb=>(hf b hb).1⟩⟩
 done:=by
  intro X hP hw hK hc i pins s σ H E I hf st hg
  subst hP hw hK
  obtain ⟨hd,hi⟩:=hg
  obtain ⟨f0,f1,f2,f3,f4,f5⟩:=hf it (by simp)
  obtain ⟨hs,hgd,hx,es',ep',hdt,hsz,ent⟩:=I.frzT hd
  obtain ⟨rfl,rfl⟩:=nJ hod hdt
  exact kZ (I.ok.hd hc) st hgd hdt hsz hi fun h' eb=>⟨rfl,I.turned (t':=s.toks) (fun b ob hb e=>eb b ob hb e) f0 f1 f3 f4 f5⟩
 self:=fun A i s Q E st h=>by
  refine wpAny_pyIter_slot st.typeIs F.slot_dict_keyiterator_iter (wpAny_call_entry F.slot_dict_keyiterator_iter st.typeIs F.entry_dict_keyiterator_iter ?_ (F.args_dict_keyiterator_iter_1 _))
  show wpAny _ _ (ret (.ref it)) _ _ s
  exact wpAny_pure ⟨_,rfl,"dict_keyiterator",_,st.typeIs,F.slot_dict_keyiterator_next.lookup,h⟩
end
def aA8 (td:TE):TI:=fun σ H R=>td σ H fun x H1=>∃ d o,x=.ref d/\((∃ aI,H1 d=some (.frz o (.dK aI))/\R (Itk d o aI) H1)\/∃ aI,H1 d=some (.frz o (.dT aI))/\R (Re d o aI) H1)
section
variable {X:Cx} {tg e:Expr} {td:TE} {apos cpos:Pos}
theorem Ih (he:PE X e td):PI X tg e (aA8 td):=by
 intro pins s σ H R I h
 refine cT (he pins s σ H _ I h) fun u s1 ⟨x,H1,I1,rx,d,o,ex,q⟩=>?_
 subst ex
 obtain rfl:u=Value.ref d:=rx
 rcases q with ⟨aI,hd,q⟩|⟨aI,hd,q⟩
 ·obtain ⟨hs,hgd,hx,es,ep,vs,hdt,hsz,kv,hm⟩:=I1.frzK hd
  refine qY hs hgd hx hdt (rL (tk:=s1.toks) I1 _ (Kr _ hdt) ⟨_,Heap.get?_push_size _ rfl,rfl,?_⟩ q)
  rw [hsz]<;>rfl
 ·obtain ⟨hs,hgd,hx,es,ep,hdt,hsz,ent⟩:=I1.frzT hd
  refine qY hs hgd hx hdt (rL (tk:=s1.toks) I1 _ (Fo _ hdt) ⟨_,Heap.get?_push_size _ rfl,rfl,?_⟩ q)
  rw [hsz]<;>rfl
end
def Zy (K:PySem.W.Frag) (a:Addr):It:=
 ⟨fun i H=>∃ (xs:List V) (x:V),dE K H a xs/\xs[i]?=some x,fun i H v H'=>∃ T x,v=.ref T/\H T=none/\H'=upd H T (.tup [.int (i:Nat),x])/\∀ xs,dE K H a xs->xs[i]?=some x,fun i H=>∃ xs:List V,dE K H a xs/\xs.length<=i⟩
theorem Mj {P:Program} {w:World} {K:PySem.W.Frag} {elts:List Expr} {kk:Nat} {tpos:Pos} (a e it:Addr):
  vD P w K (.Tuple elts kk tpos) (Zy K a) [e,it] e (fun i h=>(∃ old,IsEnum h e it ((i:Nat):Int) old)/\h.IsListIter it a i/\e≠it) where
 mem:=by simp
 obj:=fun i h st b hb=>by
  obtain ⟨⟨old,he⟩,⟨o,ho,hc,hd⟩,_⟩:=st
  have e':b=e\/b=it:=by simpa using hb
  rcases e' with z|z
  ·rw [z];exact ⟨_,he,fun v q=>nomatch q⟩
  ·rw [z];exact ⟨o,ho,fun v q=>by rw [hd] at q;cases q⟩
 keep:=fun i h h' st k=>let ⟨⟨old,he⟩,hi,hne⟩:=st;⟨⟨old,k e (by simp) _ he⟩,hi.at fun o q=>k it (by simp) o q,hne⟩
 item:=by
  intro X hP hw hK hc i pins s σ H E I hf st hg
  subst hP hw hK
  obtain ⟨⟨old,he⟩,hit,hne⟩:=st
  obtain ⟨xs,x,hq,hx⟩:=hg
  obtain ⟨its,rv,p,hz⟩:=I.list hq
  obtain ⟨u,hu,ru⟩:=rv.get hx
  have hel:e<s.heap.objs.size:=Heap.lt_size he
  have hil:it<s.heap.objs.size:=by obtain ⟨_,q,_⟩:=hit;exact Heap.lt_size q
  refine wpAny_pyNext_enum_item he hit p.isList (x:=u) (by simpa using hu) hne fun h' ho hit' hT hsz hk=>?_
  refine ⟨_,rfl,wpAny_letOwnedTupleGo_enum (s:={s with heap:=h',toks:=s.toks+1}) ho fun h'' he' sb=>?_⟩
  have hT2:h''.get? s.heap.objs.size=some {cls:=.type "tuple",data:=.seq #[.int i s.toks,u]}:=(sb.2 _ (Nat.ne_of_gt hel)).trans hT
  have new:cJ X.prog X.w (upd H s.heap.objs.size (.tup [.int (i:Nat),x])) h'' s.heap.objs.size (.tup [.int (i:Nat),x]):=
   ⟨by show 2<=sizeLine;decide,[.int i s.toks,u],.cons ⟨_,rfl⟩ (.cons ru .nil),⟨_,hT2,rfl,_,rfl⟩⟩
  have I1:aP X pins σ (upd H s.heap.objs.size (.tup [.int (i:Nat),x])) {s with heap:=h'',toks:=s.toks+1}:=
   I.turnedNew (ch:=[e,it]) (fun b ob hb q=>(sb.2 b (fun z=>hb (by simp [z]))).trans (hk b ob (fun z=>hb (by simp [z])) (fun z=>hb (by simp [z])) q)) hf (Nat.le_refl _) new
  refine ⟨.ref s.heap.objs.size,_,I1,rfl,⟨_,x,rfl,I.hok.fresh (Nat.le_refl _),rfl,fun ys hy=>by rw [I.list_inj hy hq];exact hx⟩,⟨⟨u,?_⟩,hit'.at fun o q=>(sb.2 it (Ne.symm hne)).trans q,hne⟩,fun b hb=>?_⟩
  ·have e1:((i+1:Nat):Int)=(i:Int)+1:=by omega
   rw [e1];exact he'
  ·have hb':b<s.heap.objs.size:=by
    have e':b=e\/b=it:=by simpa using hb
    rcases e' with z|z
    ·rw [z];exact hel
    ·rw [z];exact hil
   rw [aC (Nat.ne_of_lt hb')]
   exact (hf b hb).1
 done:=by
  intro X hP hw hK hc i pins s σ H E I hf st hg
  subst hP hw hK
  obtain ⟨⟨old,he⟩,hit,hne⟩:=st
  obtain ⟨xs,hq,hx⟩:=hg
  obtain ⟨its,rv,p,hz⟩:=I.list hq
  obtain ⟨f0,f1,f2,f3,f4,f5⟩:=hf it (by simp)
  have hl:=rv.length
  exact wpAny_pyNext_enum_end (I.ok.hd hc) he hit p.isList (by simp;omega) fun h' eb=>⟨rfl,I.turned (t':=s.toks) (fun b o hb q=>eb b o hb q) f0 f1 f3 f4 f5⟩
 self:=fun A i s Q E st h=>let ⟨⟨_,he⟩,_⟩:=st;wpAny_pyIter_enum he h
def aAm (K:PySem.W.Frag) (ta:TA):TI:=fun σ H R=>ta σ H fun vs H1=>∃ a xs,vs=[.ref a]/\dE K H1 a xs/\R (Zy K a) H1
theorem Sc {X:Cx} {e:Expr} {ta:TA} {p pos tpos:Pos} {elts:List Expr} {kk:Nat} (hg:Gl X "enumerate") (hm:X.mg "enumerate"=none) (ha:PA X [e] ta) (hs:starEach [e] X.env=[(false,eval e X.env)]:=by rfl):
  PI X (.Tuple elts kk tpos) (.Call (.Name "enumerate" p) [e] [] pos) (aAm X.K ta):=by
 intro pins s σ H R I h
 refine Call_ (qU I hg hm boot_enumerate (PyProof.Rows.callWith_type1 (cT (ha pos pins s σ H _ I h) fun us s1 ⟨vs,H1,I1,r1,q1⟩=>?_) hs rfl))
 obtain ⟨a,xs,ex,hq,q⟩:=q1
 subst ex
 cases r1 with
 |cons r rr=>
  cases rr
  cases r
  obtain ⟨its,rv,p',hz⟩:=I1.list hq
  refine call_enumerate_list p'.isList fun h' he hit hsz hk=>wpAny_pyIter_enum he ?_
  have I2:aP X pins σ H1 {s1 with heap:=h'}:=I1.kept (t':=s1.toks) hk
  refine ⟨s1.heap.objs.size+1,[s1.heap.objs.size+1,s1.heap.objs.size],_,_,H1,rfl,I2,Mj a (s1.heap.objs.size+1) s1.heap.objs.size,⟨⟨.none,he⟩,hit,Nat.succ_ne_self _⟩,fun b hb=>?_,q⟩
  have e':b=s1.heap.objs.size+1\/b=s1.heap.objs.size:=by simpa using hb
  have hle:s1.heap.objs.size<=b:=by
   rcases e' with z|z
   ·rw [z];exact Nat.le_add_right _ _
   ·rw [z];exact Nat.le_refl _
  exact I1.fpOk hle (I1.hok.fresh hle)
end L2
section
namespace Bits
open PySem PyProof.Rows
end Bits
end
section
namespace TL
open PySem PySem.Builtin PySem.Builtin.Str PySem.StrLaws
end TL
end
namespace L2
open PySem PySem.Spec PyProof.Rows
section
variable {X:Cx} {pins:List (Addr×Obj)} {σ:St} {H:Hp} {s:Shared} {Q:VK}
end
section
variable {X:Cx}
end
section
variable {X:Cx} {o e:Expr} {to te:TE}
end
section
variable {X:Cx}
end
end L2
namespace Att
open PySem PySem.W PySem.Calls PyProof.Rows
section
variable {prog:Program} {w:World} {A:Around} {E:Value->Shared->Prop} {s:Shared} {K:Frag}
end
end Att
namespace L2
open PySem PySem.Spec PyProof.Rows
abbrev bV:Ez:=fun _ _ _ _ _ _=>False
abbrev E0:XK:=fun _ _ _=>False
theorem aX {X:Cx}:iP bV X E0:=fun _ _ _ _ _ _ _ h=>h.elim
structure fK (K:PySem.W.Frag) (x qual:Str) (st:Stmt) (f:Addr) (fd:FuncData):Prop where
 ex:∃ (oc:Value) (od:Option Addr) (kV doc pm:Value) (an:Option Addr) (cdv ct:Value) (osl:Array (Option Value)),
  fd=PySem.W.fnOf x qual (eQ st) (dR st) (aG st) .none kV doc pm an cdv ct/\K.lookup f=some ⟨oc,od,.func fd,osl⟩/\PySem.W.codeIn K cdv qual=true
 kp:PySem.W.keepIn K (.ref f)=true
section
variable {P:Program} {w:World} {K:PySem.W.Frag} {mg:Str->Option Value} {base:Heap}
theorem fK.ok {x qual:Str} {st:Stmt} {f:Addr} {fd:FuncData} {N ps:List Str} {k:Nat} {sp:Sp} (F:fK K x qual st f fd) (S:aO N ps (aG st)) (len:∀ vs H Q E,sp vs H Q E->vs.length=ps.length)
  (hbody:∀ (cdv:Value) (A:Around) (outer:List Env) (s:Shared) (H:Hp) (vs:List V) (Q:VK) (E:XK),fW k (A.deeper (envOfC qual (aG st) s.heap.objs.size f cdv))->sp vs H Q E->
   ∃ t,xJ (Bh bV P w K mg base N qual (aG st) f cdv A outer s H E).nox (dR st) t/\t {nx:=fun _ H'=>Q .non H',rt:=Q} (lN N vs) H):bU P w K mg base bV (k+1) f fd ps sp:=by
 obtain ⟨oc,od,kV,doc,pm,an,cdv,ct,osl,rfl,lk,hcd⟩:=F.ex
 refine Vs lk hcd S len fun A outer s H vs Q E hr hsp=>?_
 obtain ⟨t,h,q⟩:=hbody cdv A outer s H vs Q E hr hsp
 exact ⟨t,h.nox,q⟩
theorem fK.binds {x qual:Str} {st:Stmt} {f:Addr} {fd:FuncData} {ps:List Str} (F:fK K x qual st f fd)
  (h:∀ (kV doc pm:Value) (an:Option Addr) (cdv ct:Value) (us:List Value),us.length=ps.length->bindArgs (PySem.W.fnOf x qual (eQ st) (dR st) (aG st) .none kV doc pm an cdv ct) ⟨us,[]⟩=pure (ps.zip us)):eZ K fd ps []:=by
 obtain ⟨oc,od,kV,doc,pm,an,cdv,ct,osl,rfl,lk,hcd⟩:=F.ex
 exact .all (h kV doc pm an cdv ct)
theorem rA {x qual:Str} {st:Stmt} {f:Addr} {oc:Value} {od an:Option Addr} {osl:Array (Option Value)} {kV doc pm cdv ct:Value} (l:K.lookup f=some ⟨oc,od,.func (PySem.W.fnOf x qual (eQ st) (dR st) (aG st) .none kV doc pm an cdv ct),osl⟩)
  (c:PySem.W.codeIn K cdv qual=true) (k:PySem.W.keepIn K (.ref f)=true):fK K x qual st f (PySem.W.fnOf x qual (eQ st) (dR st) (aG st) .none kV doc pm an cdv ct):=⟨⟨oc,od,kV,doc,pm,an,cdv,ct,osl,rfl,l,c⟩,k⟩
end
theorem lR {A:Around} {k:Nat} (hr:fW k A):A.units+1<cLine:=Nat.lt_of_le_of_lt (Nat.add_le_add_left (by decide:1<=64) _) hr.units
section
variable {X:Cx}
theorem pv (i:Nat) {x:Str} {pos:Pos} (hN:X.N[i]?=some x:=by rfl) (hv:Vis X.env.scope x:=by first|exact Or.inl rfl|exact Or.inr (Or.inl rfl)|exact Or.inr (Or.inr rfl)) (hd:(x==("__debug__":Str))=false:=by decide)
  (hcd:(x==("__classdict__":Str))=false:=by decide):PE X (.Name x pos) (dI i):=Wu hN hv hd hcd
end
theorem tG {A B:Prop} (h:B):if false=true then A else B:=by
 rw [if_neg Bool.false_ne_true]
 exact h
theorem Oh {A B:Prop} (h:A):if true=true then A else B:=by
 rw [if_pos rfl]
 exact h
theorem cE {c A B:Prop} [Decidable c] (h1:c->A) (h2:¬c->B):if c then A else B:=by
 by_cases h:c
 ·rw [if_pos h]
  exact h1 h
 ·rw [if_neg h]
  exact h2 h
def aL (H H':Hp):Prop:=∀ b o,H b=some o->H' b=some o
theorem aL.trans {H H1 H2:Hp} (a:aL H H1) (b:aL H1 H2):aL H H2:=fun c o h=>b c o (a c o h)
theorem aL.free {H H':Hp} (e:aL H H') {l:Addr} (h:H' l=Option.none):H l=Option.none:=by
 cases q:H l with
 |none=>rfl
 |some o=>
  rw [e l o q] at h
  cases h
theorem aL.seq {K:PySem.W.Frag} {H H':Hp} {a:Addr} {xs:List V} (e:aL H H') (h:dE K H a xs):dE K H' a xs:=by
 rcases h with (h|⟨o,h⟩)|h
 ·exact .inl (.inl (e _ _ h))
 ·exact .inl (.inr ⟨o,e _ _ h⟩)
 ·exact .inr h
section
variable {κ:Type} [DecidableEq κ]
end
end L2
section
namespace L2
open PySem PySem.Spec PyProof.Rows
open PySem.W (WData Codec OpenSpec Well WellAll ReadsW ReadsAllW)
mutual
inductive Dw (K:PySem.W.Frag) (H:Hp):V->WData->Prop
 |non:Dw K H .non .none
 |bl (b:Bool):Dw K H (.bl b) (.bool b)
 |int (i:Int):Dw K H (.int i) (.int i)
 |str (x:Str):Dw K H (.str x) (.str x)
 |byt (b:Array UInt8):Dw K H (.byt b) (.bytes b.toList)
 |lst {a:Addr} {xs:List V} {ds:List WData}:dE K H a xs->mO K H xs ds->Dw K H (.ref a) (.list ds)
 |tup {a:Addr} {xs:List V} {ds:List WData}:cN K H a xs->mO K H xs ds->Dw K H (.ref a) (.tuple ds)
inductive mO (K:PySem.W.Frag) (H:Hp):List V->List WData->Prop
 |nil:mO K H [] []
 |cons {v:V} {vs:List V} {d:WData} {ds:List WData}:Dw K H v d->mO K H vs ds->mO K H (v::vs) (d::ds)
end
theorem Jo {K:PySem.W.Frag} {H:Hp}:∀ ns:List Int,mO K H (ns.map V.int) (ns.map WData.int)
 |[]=>.nil
 |n::r=>.cons (.int n) (Jo r)
theorem Ap {K:PySem.W.Frag} {H:Hp}:∀ (ns:List Int) (xs:List V),mO K H xs (ns.map WData.int)->xs=ns.map V.int
 |[],xs,h=>by
  cases h
  rfl
 |n::r,xs,h=>by
  cases h with
  |cons h1 h2=>
   cases h1
   rw [Ap r _ h2]<;>rfl
section
variable {P:Program} {w:World} {K:PySem.W.Frag} {H:Hp} {h:Heap} {R:PySem.W.WRecords} {cl:Str->Option Addr}
theorem Ws {a:Addr} {xs:List V} (hok:kG P w H h) (KX:K.In h) (q:dE K H a xs):∃ (its:List Value) (o:Obj) (n:Nat),bN xs its/\h.get? a=some o/\o.cls=.type "list"/\o.data=.seq its.toArray n:=by
 rcases q with q|⟨o,its,n,e,hc,_,hd,_,hv⟩
 ·obtain ⟨_,its,n,hv,e⟩:=(show cJ P w H h a (.lst xs) from q.ok hok)
  exact ⟨its,_,n,hv,e,rfl,rfl⟩
 ·exact ⟨its.toList,o,n,hv,KX _ _ e,hc,by simp [hd]⟩
theorem Zc {a:Addr} {xs:List V} (hok:kG P w H h) (KX:K.In h) (q:cN K H a xs):∃ (its:List Value) (o:Obj) (n:Nat),bN xs its/\h.get? a=some o/\o.cls=.type "tuple"/\o.data=.seq its.toArray n:=by
 rcases q with q|⟨o,its,n,e,hc,hd,_,hv⟩
 ·obtain ⟨_,its,hv,o,e,hc,n,hd⟩:=(show cJ P w H h a (.tup xs) from q.ok hok)
  exact ⟨its,o,n,hv,e,hc,hd⟩
 ·exact ⟨its.toList,o,n,hv,KX _ _ e,hc,by simp [hd]⟩
mutual
theorem Dw.reads (hok:kG P w H h) (KX:K.In h):∀ (d:WData) (v:V) (u:Value),Dw K H v d->cA v u->∃ as,ReadsW R cl h u d as
 |.none,_,_,x,r=>by
  cases x
  cases r
  exact ⟨_,ReadsW.none⟩
 |.bool b,_,_,x,r=>by
  cases x
  cases r
  exact ⟨_,ReadsW.bool b⟩
 |.int i,_,_,x,r=>by
  cases x
  obtain ⟨t,rfl⟩:=r
  exact ⟨_,ReadsW.int i t⟩
 |.str s,_,_,x,r=>by
  cases x
  obtain ⟨t,rfl⟩:=r
  exact ⟨_,ReadsW.str s t⟩
 |.bytes b,_,_,x,r=>by
  cases x
  obtain ⟨t,rfl⟩:=r
  exact ⟨_,ReadsW.bytes _ t⟩
 |.list ds,_,_,x,r=>by
  cases x with
  |lst hs ha=>
   cases r
   obtain ⟨its,o,n,rv,ho,hc,hd⟩:=Ws hok KX hs
   obtain ⟨as,hr⟩:=Dw.readsAll hok KX ds _ its ha rv
   exact ⟨_,ReadsW.list ho hc hd hr⟩
 |.tuple ds,_,_,x,r=>by
  cases x with
  |tup hs ha=>
   cases r
   obtain ⟨its,o,n,rv,ho,hc,hd⟩:=Zc hok KX hs
   obtain ⟨as,hr⟩:=Dw.readsAll hok KX ds _ its ha rv
   exact ⟨_,ReadsW.tuple ho hc hd hr⟩
 |.float _,_,_,x,_=>by cases x
 |.dict _,_,_,x,_=>by cases x
 |.bytearray _,_,_,x,_=>by cases x
 |.set _,_,_,x,_=>by cases x
 |.frozenset _,_,_,x,_=>by cases x
 |.obj _ _,_,_,x,_=>by cases x
theorem Dw.readsAll (hok:kG P w H h) (KX:K.In h):∀ (ds:List WData) (vs:List V) (us:List Value),mO K H vs ds->bN vs us->∃ as,ReadsAllW R cl h us ds as
 |[],_,_,x,r=>by
  cases x
  cases r
  exact ⟨_,ReadsAllW.nil⟩
 |d::ds,_,_,x,r=>by
  cases x with
  |cons h1 h2=>
   cases r with
   |cons r1 r2=>
    obtain ⟨as,q1⟩:=Dw.reads hok KX d _ _ h1 r1
    obtain ⟨bs,q2⟩:=Dw.readsAll hok KX ds _ _ h2 r2
    exact ⟨_,ReadsAllW.cons q1 q2⟩
end
end
mutual
def Ip:WData->Bool
 |.none=>true
 |.bool _=>true
 |.int _=>true
 |.str _=>true
 |.bytes _=>true
 |.list xs=>tE xs
 |.tuple xs=>tE xs
 |_=>false
def tE:List WData->Bool
 |[]=>true
 |x::r=>Ip x && tE r
end
theorem Ck {α:Type} {f:α->WData} (h:∀ a,Ip (f a)=true):∀ l:List α,tE (l.map f)=true
 |[]=>rfl
 |x::r=>by
  show (Ip (f x) && tE (r.map f))=true
  rw [h x,Ck h r]<;>rfl
theorem mF:∀ (c:Codec) (a:c.denote),Ip (c.enc a)=true
 |.unit,_=>rfl
 |.bool,_=>rfl
 |.int _ _,_=>rfl
 |.nat _ _,_=>rfl
 |.u8,_=>rfl
 |.bytes _ _,_=>rfl
 |.text _ _ _ _,_=>rfl
 |.list _ _ c,a=>Ck (fun x=>mF c x) a
 |.pair c d,a=>by
  show (Ip (c.enc a.1) && (Ip (d.enc a.2) && true))=true
  rw [mF c a.1,mF d a.2]<;>rfl
 |.triple c d e,a=>by
  show (Ip (c.enc a.1) && (Ip (d.enc a.2.1) && (Ip (e.enc a.2.2) && true)))=true
  rw [mF c a.1,mF d a.2.1,mF e a.2.2]<;>rfl
 |.option c,none=>rfl
 |.option c,some x=>mF c x
theorem yQ:∀ (cs:List Codec) (a:Codec.denoteAll cs),tE (Codec.encAll cs a)=true
 |[],_=>rfl
 |c::cs,a=>by
  show (Ip (c.enc a.1) && tE (Codec.encAll cs a.2))=true
  rw [mF c a.1,yQ cs a.2]<;>rfl
theorem oW:∀ {xs:List WData} {d:WData},d∈xs->d.weight<=WData.weightAll xs
 |[],d,h=>absurd h (by simp)
 |x::r,d,h=>by
  show d.weight<=x.weight+1+WData.weightAll r
  rcases List.mem_cons.mp h with e|m
  ·rw [e]
   omega
  ·have z:=oW m
   omega
def Ci:Value->V
 |.none=>.non
 |.bool b=>.bl b
 |.int i _=>.int i
 |.str x _=>.str x
 |.bytes b _=>.byt b
 |.ref a=>.ref a
 |_=>.non
def Lr (A:List Addr):Value->Prop
 |.none=>True
 |.bool _=>True
 |.int _ _=>True
 |.str _ _=>True
 |.bytes _ _=>True
 |.ref a=>a∈A
 |_=>False
theorem Lr.mono {A B:List Addr} (h:∀ a∈A,a∈B):∀ {u:Value},Lr A u->Lr B u:=fun {u} x=>by
 cases u with
 |ref a=>exact h a x
 |none=>trivial
 |bool b=>trivial
 |int i t=>trivial
 |str s t=>trivial
 |bytes b t=>trivial
 |_=>exact False.elim x
theorem Oi {A:List Addr} {u:Value} (x:Lr A u):cA (Ci u) u:=by
 cases u with
 |ref a=>rfl
 |none=>rfl
 |bool b=>rfl
 |int i t=>exact ⟨t,rfl⟩
 |str s t=>exact ⟨t,rfl⟩
 |bytes b t=>exact ⟨t,rfl⟩
 |_=>exact False.elim x
theorem jV {A:List Addr}:∀ {vs:List Value},(∀ u∈vs,Lr A u)->bN (vs.map Ci) vs
 |[],_=>.nil
 |u::r,h=>.cons (Oi (h u (List.mem_cons_self ..))) (jV fun x hx=>h x (List.mem_cons_of_mem _ hx))
def lO (h:Heap) (A:List Addr) (a:Addr):Prop:=∃ vs:List Value,vs.length<=sizeLine/\(∀ u∈vs,Lr A u)/\
 (h.get? a=some {cls:=.type "list",data:=.seq vs.toArray}\/h.get? a=some {cls:=.type "tuple",data:=.seq vs.toArray})
theorem lO.mono {h:Heap} {A B:List Addr} {a:Addr} (k:∀ a∈A,a∈B) (x:lO h A a):lO h B a:=by
 obtain ⟨vs,h1,h2,h3⟩:=x
 exact ⟨vs,h1,fun u hu=>(h2 u hu).mono k,h3⟩
theorem jH {P:Params} {h:Heap}:∀ {vs:List Value} {ds:List WData},WellAll P h vs ds->vs.length=ds.length
 |_,_,.nil=>rfl
 |_,_,.cons _ b=>by
  show _+1=_+1
  rw [jH b]
theorem yY {P:Params} {h:Heap} {v:Value} {ds:List WData} (x:Well P h v (.list ds)):∃ (a:Addr) (vs:List Value),v=.ref a/\h.get? a=some {cls:=.type "list",data:=.seq vs.toArray}/\WellAll P h vs ds:=by
 cases x with
 |list ho hall=>exact ⟨_,_,rfl,ho,hall⟩
theorem wQ {P:Params} {h:Heap} {v:Value} {ds:List WData} (x:Well P h v (.tuple ds)):∃ (a:Addr) (vs:List Value),v=.ref a/\h.get? a=some {cls:=.type "tuple",data:=.seq vs.toArray}/\WellAll P h vs ds:=by
 cases x with
 |tuple ho hall=>exact ⟨_,_,rfl,ho,hall⟩
theorem zJ {P:Params} {h:Heap} {us:List Value} {d:WData} {ds:List WData} (x:WellAll P h us (d::ds)):∃ (v:Value) (vs:List Value),us=v::vs/\Well P h v d/\WellAll P h vs ds:=by
 cases x with
 |cons a b=>exact ⟨_,_,rfl,a,b⟩
theorem Kg {n:Nat} (h:n<=1048576):n<=sizeLine:=Nat.le_trans h (by decide)
section
variable {P:Params} {h:Heap}
mutual
theorem Rs:∀ (d:WData) (v:Value),Well P h v d->Ip d=true->d.weight<=1048576->∃ A:List Addr,Lr A v/\∀ a∈A,lO h A a
 |.none,_,x,_,_=>by
  cases x
  exact ⟨[],trivial,fun a m=>absurd m (by simp)⟩
 |.bool b,_,x,_,_=>by
  cases x
  exact ⟨[],trivial,fun a m=>absurd m (by simp)⟩
 |.int i,_,x,_,_=>by
  cases x
  exact ⟨[],trivial,fun a m=>absurd m (by simp)⟩
 |.str s,_,x,_,_=>by
  cases x
  exact ⟨[],trivial,fun a m=>absurd m (by simp)⟩
 |.bytes b,_,x,_,_=>by
  cases x
  exact ⟨[],trivial,fun a m=>absurd m (by simp)⟩
 |.list ds,_,x,p,z=>by
  obtain ⟨a,vs,rfl,ho,hall⟩:=yY x
  have z2:WData.weightAll ds<=1048576:=z
  obtain ⟨A,h1,h2⟩:=pX ds _ hall p fun d hd=>Nat.le_trans (oW hd) z2
  have k:∀ b∈A,b∈a::A:=fun b hb=>List.mem_cons_of_mem _ hb
  refine ⟨a::A,List.mem_cons_self ..,fun b hb=>?_⟩
  rcases List.mem_cons.mp hb with e|m
  ·rw [e]
   exact ⟨vs,Kg (by rw [jH hall];exact Nat.le_trans (PySem.W.length_le_weightAllW ds) z2),fun u hu=>(h1 u hu).mono k,.inl ho⟩
  ·exact (h2 b m).mono k
 |.tuple ds,_,x,p,z=>by
  obtain ⟨a,vs,rfl,ho,hall⟩:=wQ x
  have z2:WData.weightAll ds<=1048576:=z
  obtain ⟨A,h1,h2⟩:=pX ds _ hall p fun d hd=>Nat.le_trans (oW hd) z2
  have k:∀ b∈A,b∈a::A:=fun b hb=>List.mem_cons_of_mem _ hb
  refine ⟨a::A,List.mem_cons_self ..,fun b hb=>?_⟩
  rcases List.mem_cons.mp hb with e|m
  ·rw [e]
   exact ⟨vs,Kg (by rw [jH hall];exact Nat.le_trans (PySem.W.length_le_weightAllW ds) z2),fun u hu=>(h1 u hu).mono k,.inr ho⟩
  ·exact (h2 b m).mono k
 |.float _,_,_,p,_=>Bool.noConfusion (show false=true from p)
 |.dict _,_,_,p,_=>Bool.noConfusion (show false=true from p)
 |.bytearray _,_,_,p,_=>Bool.noConfusion (show false=true from p)
 |.set _,_,_,p,_=>Bool.noConfusion (show false=true from p)
 |.frozenset _,_,_,p,_=>Bool.noConfusion (show false=true from p)
 |.obj _ _,_,_,p,_=>Bool.noConfusion (show false=true from p)
theorem pX:∀ (ds:List WData) (vs:List Value),WellAll P h vs ds->tE ds=true->(∀ d∈ds,d.weight<=1048576)->∃ A:List Addr,(∀ u∈vs,Lr A u)/\∀ a∈A,lO h A a
 |[],_,x,_,_=>by
  cases x
  exact ⟨[],fun u m=>absurd m (by simp),fun a m=>absurd m (by simp)⟩
 |d::ds,_,x,p,z=>by
  obtain ⟨v,vs,rfl,x1,x2⟩:=zJ x
  have q:Ip d=true/\tE ds=true:=Bool.and_eq_true_iff.mp p
  obtain ⟨A,a1,a2⟩:=Rs d v x1 q.1 (z d (List.mem_cons_self ..))
  obtain ⟨B,b1,b2⟩:=pX ds vs x2 q.2 fun e he=>z e (List.mem_cons_of_mem _ he)
  have kA:∀ b∈A,b∈A++B:=fun b hb=>List.mem_append.mpr (.inl hb)
  have kB:∀ b∈B,b∈A++B:=fun b hb=>List.mem_append.mpr (.inr hb)
  refine ⟨A++B,fun u hu=>?_,fun b hb=>?_⟩
  ·rcases List.mem_cons.mp hu with e|m
   ·rw [e]
    exact a1.mono kA
   ·exact (b1 u m).mono kB
  ·rcases List.mem_append.mp hb with m|m
   ·exact (a2 b m).mono kA
   ·exact (b2 b m).mono kB
end
end
def Uw (o:Obj):Option HO:=match o.data with
 |.seq vs _=>if (o.cls==Value.type "list")=true then some (.frz o (.lst (vs.toList.map Ci))) else some (.frz o (.tup (vs.toList.map Ci)))
 |_=>none
def lK (K:PySem.W.Frag) (h:Heap) (A:List Addr):Hp:=fun b=>if b∈A then (if (K.lookup b).isNone=true then (h.get? b).bind Uw else none) else none
def Iu (H:Hp):Prop:=∀ b,H b=none\/∃ o u,H b=some (.frz o u)
theorem Dm (vs:List Value):Uw {cls:=.type "list",data:=.seq vs.toArray}=some (.frz {cls:=.type "list",data:=.seq vs.toArray} (.lst (vs.map Ci))):=by
 show (if (Value.type "list"==Value.type "list")=true then some (HO.frz {cls:=.type "list",data:=.seq vs.toArray} (.lst (vs.toArray.toList.map Ci))) else some (HO.frz {cls:=.type "list",data:=.seq vs.toArray} (.tup (vs.toArray.toList.map Ci))))=_
 rw [if_pos (beq_self_eq_true _)]
theorem Co (vs:List Value):Uw {cls:=.type "tuple",data:=.seq vs.toArray}=some (.frz {cls:=.type "tuple",data:=.seq vs.toArray} (.tup (vs.map Ci))):=by
 show (if (Value.type "tuple"==Value.type "list")=true then some (HO.frz {cls:=.type "tuple",data:=.seq vs.toArray} (.lst (vs.toArray.toList.map Ci))) else some (HO.frz {cls:=.type "tuple",data:=.seq vs.toArray} (.tup (vs.toArray.toList.map Ci))))=_
 rw [if_neg (by decide)]
section
variable {P:Program} {w:World} {K:PySem.W.Frag} {h:Heap} {A:List Addr}
theorem tZ {b:Addr} {o:Obj} (hb:b∈A) (hk:K.lookup b=none) (e:h.get? b=some o):lK K h A b=Uw o:=by
 unfold lK
 rw [if_pos hb,hk,if_pos (show (none:Option Obj).isNone=true from rfl),e]<;>rfl
theorem Tr {b:Addr} {u:HO} (q:lK K h A b=some u):b∈A/\K.lookup b=none:=by
 unfold lK at q
 by_cases hb:b∈A
 ·rw [if_pos hb] at q
  cases hk:K.lookup b with
  |none=>exact ⟨hb,rfl⟩
  |some o=>
   rw [hk,if_neg (by simp)] at q
   cases q
 ·rw [if_neg hb] at q
  cases q
theorem tN (ar:∀ a∈A,lO h A a) {b:Addr} {u:HO} (q:lK K h A b=some u):K.lookup b=none/\∃ vs:List Value,vs.length<=sizeLine/\(∀ u∈vs,Lr A u)/\
  ((h.get? b=some {cls:=.type "list",data:=.seq vs.toArray}/\u=.frz {cls:=.type "list",data:=.seq vs.toArray} (.lst (vs.map Ci)))\/
   (h.get? b=some {cls:=.type "tuple",data:=.seq vs.toArray}/\u=.frz {cls:=.type "tuple",data:=.seq vs.toArray} (.tup (vs.map Ci)))):=by
 obtain ⟨hb,hk⟩:=Tr q
 obtain ⟨vs,h1,h2,h3⟩:=ar b hb
 refine ⟨hk,vs,h1,h2,?_⟩
 rcases h3 with e|e
 ·rw [tZ hb hk e,Dm] at q
  exact .inl ⟨e,(Option.some.inj q).symm⟩
 ·rw [tZ hb hk e,Co] at q
  exact .inr ⟨e,(Option.some.inj q).symm⟩
theorem Km (ar:∀ a∈A,lO h A a):Iu (lK K h A):=fun b=>by
 cases q:lK K h A b with
 |none=>exact .inl rfl
 |some u=>
  obtain ⟨_,vs,_,_,⟨_,e⟩|⟨_,e⟩⟩:=tN ar q
  ·exact .inr ⟨_,_,by rw [e]⟩
  ·exact .inr ⟨_,_,by rw [e]⟩
theorem To (ar:∀ a∈A,lO h A a):kG P w (lK K h A) h:=fun b u q=>by
 obtain ⟨_,vs,h1,h2,⟨e,rfl⟩|⟨e,rfl⟩⟩:=tN ar q
 ·exact ⟨e,by rw [List.length_map];exact h1,vs,_,jV h2,e⟩
 ·exact ⟨e,by rw [List.length_map];exact h1,vs,jV h2,_,e,rfl,_,rfl⟩
theorem tR {c c':Value} {vs us:List Value} (e:(some {cls:=c,data:=.seq vs.toArray}:Option Obj)=some {cls:=c',data:=.seq us.toArray}):c=c'/\vs=us:=by
 have e1:=Option.some.inj e
 have e2:c=c':=congrArg Obj.cls e1
 have e3:Data.seq vs.toArray=Data.seq us.toArray:=congrArg Obj.data e1
 injection e3 with e4
 refine ⟨e2,?_⟩
 have e5:=congrArg Array.toList e4
 simpa using e5
theorem aB7 (KX:K.In h) (ar:∀ a∈A,lO h A a) {a:Addr} {vs:List Value} (ha:a∈A) (e:h.get? a=some {cls:=.type "list",data:=.seq vs.toArray}):(∀ u∈vs,Lr A u)/\dE K (lK K h A) a (vs.map Ci):=by
 obtain ⟨us,h1,h2,h3⟩:=ar a ha
 have hu:us=vs:=by
  rcases h3 with q|q
  ·rw [e] at q
   exact (tR q).2.symm
  ·rw [e] at q
   exact absurd (Value.type.inj (tR q).1) (by decide)
 subst hu
 refine ⟨h2,?_⟩
 cases hk:K.lookup a with
 |none=>exact .inl (.inr ⟨_,by rw [tZ ha hk e,Dm]⟩)
 |some o=>
  have e2:=KX a o hk
  rw [e] at e2
  obtain rfl:=Option.some.inj e2
  exact .inr ⟨_,us.toArray,_,hk,rfl,rfl,rfl,by rw [List.size_toArray];exact h1,by simpa using jV h2⟩
theorem aBq (KX:K.In h) (ar:∀ a∈A,lO h A a) {a:Addr} {vs:List Value} (ha:a∈A) (e:h.get? a=some {cls:=.type "tuple",data:=.seq vs.toArray}):(∀ u∈vs,Lr A u)/\cN K (lK K h A) a (vs.map Ci):=by
 obtain ⟨us,h1,h2,h3⟩:=ar a ha
 have hu:us=vs:=by
  rcases h3 with q|q
  ·rw [e] at q
   exact absurd (Value.type.inj (tR q).1) (by decide)
  ·rw [e] at q
   exact (tR q).2.symm
 subst hu
 refine ⟨h2,?_⟩
 cases hk:K.lookup a with
 |none=>exact .inl (.inr ⟨_,by rw [tZ ha hk e,Co]⟩)
 |some o=>
  have e2:=KX a o hk
  rw [e] at e2
  obtain rfl:=Option.some.inj e2
  exact .inr ⟨_,us.toArray,_,hk,rfl,rfl,by rw [List.size_toArray];exact h1,by simpa using jV h2⟩
mutual
theorem Xb {Pm:Params} (KX:K.In h) (ar:∀ a∈A,lO h A a):∀ (d:WData) (v:Value),Well Pm h v d->Ip d=true->Lr A v->Dw K (lK K h A) (Ci v) d
 |.none,_,x,_,_=>by
  cases x
  exact .non
 |.bool b,_,x,_,_=>by
  cases x
  exact .bl b
 |.int i,_,x,_,_=>by
  cases x
  exact .int i
 |.str s,_,x,_,_=>by
  cases x
  exact .str s
 |.bytes b,_,x,_,_=>by
  cases x
  have z:=Dw.byt (K:=K) (H:=lK K h A) b.toArray
  exact z
 |.list ds,_,x,p,hu=>by
  obtain ⟨a,vs,rfl,ho,hall⟩:=yY x
  obtain ⟨h2,hs⟩:=aB7 KX ar hu ho
  exact .lst hs (Be KX ar ds _ hall p h2)
 |.tuple ds,_,x,p,hu=>by
  obtain ⟨a,vs,rfl,ho,hall⟩:=wQ x
  obtain ⟨h2,hs⟩:=aBq KX ar hu ho
  exact .tup hs (Be KX ar ds _ hall p h2)
 |.float _,_,_,p,_=>Bool.noConfusion (show false=true from p)
 |.dict _,_,_,p,_=>Bool.noConfusion (show false=true from p)
 |.bytearray _,_,_,p,_=>Bool.noConfusion (show false=true from p)
 |.set _,_,_,p,_=>Bool.noConfusion (show false=true from p)
 |.frozenset _,_,_,p,_=>Bool.noConfusion (show false=true from p)
 |.obj _ _,_,_,p,_=>Bool.noConfusion (show false=true from p)
theorem Be {Pm:Params} (KX:K.In h) (ar:∀ a∈A,lO h A a):∀ (ds:List WData) (vs:List Value),WellAll Pm h vs ds->tE ds=true->(∀ u∈vs,Lr A u)->mO K (lK K h A) (vs.map Ci) ds
 |[],_,x,_,_=>by
  cases x
  exact .nil
 |d::ds,_,x,p,hu=>by
  obtain ⟨v,vs,rfl,x1,x2⟩:=zJ x
  have q:Ip d=true/\tE ds=true:=Bool.and_eq_true_iff.mp p
  exact .cons (Xb KX ar d v x1 q.1 (hu _ (List.mem_cons_self ..))) (Be KX ar ds vs x2 q.2 fun u m=>hu u (List.mem_cons_of_mem _ m))
end
end
theorem Mn {P:Program} {w:World} {K:PySem.W.Frag} {mg mb:Str->Option Value} {CX:Ez} {k:Nat} {fa:Addr} {fd:FuncData} {ps:List Str} {sp:Sp} {s₁:Shared} {vals:List Value} {ds:List WData} {R:PySem.W.WRecords} {cl:Str->Option Addr} {d0:WData}
  (KX:K.In s₁.heap) (hns:s₁.heap.Ns mainGlobals mg) (hb:s₁.heap.Ns builtinsNs mb) (hbb:∀ x:Str,x≠"__name__"->mb x=bootBuiltins x) (hlim:s₁.heap.NoLimit) (hg:s₁.gens=#[])
  (hwl:WellAll w.params s₁.heap vals ds) (hpl:tE ds=true) (hwt:∀ d∈ds,d.weight<=1048576) (hr:fW k callerA)
  (F:∀ base:Heap,K.In base->base.Ns mainGlobals mg->bU P w K mg base CX k fa fd ps sp) (hbind:∀ (s:Shared) (us:List Value),us.length=ps.length->BindsTo s fd ⟨us,[]⟩ (ps.zip us)) (hlen:ds.length=ps.length)
  (hsp:∀ (H:Hp) (xs:List V),Iu H->mO K H xs ds->sp xs H (fun v H'=>Dw K H' v d0) fun _ _ _=>False)
  (hCX:∀ H e s',CX [] H s₁ (fun _ _ _=>False) e s'->False):
  codeAny (model P w) callerA (.call (.ref fa) ⟨vals,[]⟩) (fun r s'=>∃ u as,r=.ok (.ret u)/\ReadsW R cl s'.heap u d0 as/\OldK s₁.heap s'.heap/\s'.os=s₁.os/\AllBare s'.gens) s₁:=by
 obtain ⟨A,ho,ar⟩:=pX ds vals hwl hpl hwt
 have hO:Iu (lK K s₁.heap A):=Km ar
 have hok:kG P w (lK K s₁.heap A) s₁.heap:=To ar
 have hS:=Be KX ar ds vals hwl hpl ho
 have hV:=jV ho
 have hK:∀ b u,lK K s₁.heap A b=some u->K.lookup b=none:=fun b u q=>(tN ar q).1
 have noA:∀ {b:Addr} {o:Obj} {es:Array DictEntry} {ep:Nat},s₁.heap.get? b=some o->o.data=.dict es ep->lK K s₁.heap A b=none:=fun {b o es ep} e d=>by
  cases q:lK K s₁.heap A b with
  |none=>rfl
  |some u=>
   obtain ⟨_,vs,_,_,⟨e2,_⟩|⟨e2,_⟩⟩:=tN ar q
   ·rw [e2] at e
    cases e
    have d':Data.seq vs.toArray _=Data.dict es ep:=d
    cases d'
   ·rw [e2] at e
    cases e
    have d':Data.seq vs.toArray _=Data.dict es ep:=d
    cases d'
 generalize lK K s₁.heap A=H at hO hok hS hK noA
 have base_of:∀ {b:Addr} {o:Obj},s₁.heap.get? b=some o->H b=none->(Bo s₁.heap H).get? b=some o:=fun e n=>Ng e n
 have nsK:∀ {b:Addr} {m:Str->Option Value},s₁.heap.Ns b m->(Bo s₁.heap H).Ns b m:=fun {b m} ⟨o,es,ep,e,d,r⟩=>⟨o,es,ep,base_of e (noA e d),d,r⟩
 have nK:∀ b o,K.lookup b=some o->H b=none:=fun b o e=>by
  cases q:H b with
  |none=>rfl
  |some u=>
   rw [hK b u q] at e
   cases e
 have hKb:K.In (Bo s₁.heap H):=fun b o e=>base_of (KX b o e) (nK b o e)
 have hM:Mod K mg (Bo s₁.heap H):=⟨hKb,nsK hns,⟨mb,nsK hb,hbb⟩,let ⟨mc,h1,h2⟩:=hlim;⟨mc,nsK h1,h2⟩⟩
 have e0:Da P w K mg (Bo s₁.heap H) callerA [] s₁ H:=⟨rfl,hM,fun b o e=>Vi e,Nat.le_of_eq (Ln _ _),trivial,fun b hb=>absurd (show b∈([]:List Addr) from hb) (by simp),hok,.of_eq hg⟩
 have hl:vals.length=ps.length:=by rw [jH hwl];exact hlen
 refine codeAny_mono ((F _ hKb (nsK hns)).run callerA [] s₁ H ⟨vals,[]⟩ vals (vals.map Ci) _ _ hr e0 (hbind s₁ vals hl) hV (hsp H _ hO hS)) fun r s' x=>?_
 cases r with
 |error e=>exact (hCX H e s' x).elim
 |ok fl=>
  cases fl with
  |next=>exact False.elim x
  |brk=>exact False.elim x
  |cont=>exact False.elim x
  |ret u=>
   obtain ⟨v,H',os,bare,un,hok',r',q⟩:=x
   have kept:∀ b o,s₁.heap.get? b=some o->s'.heap.get? b=some o:=fun b o e=>by
    cases q2:H b with
    |none=>exact un.keep b o e q2 (by intro z;exact absurd (show b∈([]:List Addr) from z) (by simp)) (by simp)
    |some u2=>
     rcases hO b with z|⟨ob,u3,z⟩
     ·rw [q2] at z
      cases z
     ·have z2:=un.frzs b ob _ z
      obtain ⟨e1,_⟩:=hok b _ z
      obtain ⟨e2,_⟩:=hok' b _ z2
      rw [e] at e1
      cases e1
      exact e2
   have KX':K.In s'.heap:=fun b o e=>kept b o (KX b o e)
   obtain ⟨as,hrd⟩:=Dw.reads (R:=R) (cl:=cl) hok' KX' d0 v u q r'
   exact ⟨u,as,rfl,hrd,OldK.of_keep kept,os,bare⟩
theorem wB {ds:List WData} (h:WData.layableAll ds=true):∀ d∈ds,d.weight<=1048576:=fun d hd=>
 (PySem.W.layableW_iff.mp (List.all_eq_true.mp h d hd)).2.2
theorem wW:∀ (cs:List Codec) (a:Codec.denoteAll cs),(Codec.encAll cs a).length=cs.length
 |[],_=>rfl
 |c::cs,a=>by
  show (Codec.encAll cs a.2).length+1=cs.length+1
  rw [wW cs a.2]
end L2
end
namespace L2
open PySem PySem.Spec PyProof.Rows
structure Dd (fr:List Addr) (e T0 T:Addr) (h h':Heap):Prop where
 keep:∀ b o,b∉fr->b≠e->b≠T0->h.get? b=some o->h'.get? b=some o
 slot:∀ b o,b∈fr->h.get? b=some o->∃ sl,h'.get? b=some {o with slots:=sl}
 big:h.objs.size<=T
 self:∀ oe vs,h.get? e=some oe->oe.data=.fields vs->1<vs.size->∃ oe' vs',h'.get? e=some oe'/\oe'.cls=oe.cls/\oe'.dict=oe.dict/\oe'.data=.fields vs'/\vs'.size=vs.size/\vs'[1]?=some (.ref T)
 head:∃ oT ts,h'.get? T=some oT/\oT.data=.fields ts/\ts[3]?=some .none
 old:∀ o,h.get? T0=some o->∃ o',h'.get? T0=some o'
theorem lQ (o:Obj) (f:Array Value->Array Value):(o.mapFields f).cls=o.cls/\(o.mapFields f).dict=o.dict:=by
 obtain ⟨c,d,dt,sl⟩:=o
 cases dt<;>exact ⟨rfl,rfl⟩
section
variable {M:Model} {A:Around} {E:Value->Shared->Prop} {s:Shared}
theorem uU {base:Heap} {env:Env} {outer:List Env} {L e:Addr} {oe:Obj} {vs:Array Value} {head:Value} {hadNext:Bool} {Q:Unit->Shared->Prop}
  (hfr:A.frames=some (env::outer)) (hl:s.heap.FunFrames base (env::outer)) (hf:env.frame=some L)
  (he:s.heap.get? e=some oe) (hd:oe.data=.fields vs) (hsz:1<vs.size)
  (h:∀ h' T,Dd ((env::outer).filterMap (·.frame)) e e T s.heap h'->Q () {s with heap:=h'}):
  wpAny M A (do let a <-frameOf env;let pl <-entryPlaceOf L hadNext;let b <-EntryCells.newEntry head a .none (rawInt L) .none pl;setField (.ref e) 1 b) (fun _ s'=>wpAny M A (setFlight (.ref e) none) Q E s') E s:=by
 have hene:e∉(env::outer).filterMap (·.frame):=fun hm=>by
  obtain ⟨_,o,ho,hnf⟩:=hl.mem hm
  rw [he] at ho;injection ho with ho;subst ho;exact hnf vs hd
 refine wpAny_bind (wpAny_frameOf_fun hfr hl hf fun h₁ hs₁=>?_)
 refine wpAny_bind (wpAny_entryPlaceOf fun pl hpl=>?_)
 unfold EntryCells.newEntry newFields
 refine wpAny_bind (wpAny_newObj_type ?_ (hpl.sizeOk5 _ _ _ _ _))
 have he₁:h₁.get? e=some oe:=(hs₁.2.1 e hene).trans he
 have he₂:=Heap.get?_push_of_some (h:=h₁) {cls:=.type "traceback",dict:=none,data:=.fields ([head,.ref L,.none,rawInt L,.none]++(if pl.isEmpty then List.replicate 6 Value.none else pl)).toArray} he₁
 refine wpAny_setField he₂ hd hsz ?_
 have hTe:h₁.objs.size≠e:=Nat.ne_of_gt (Heap.lt_size he₁)
 have hd₃:=Obj.data_mapFields hd (·.setIfInBounds 1 (Value.ref h₁.objs.size))
 have he₃:=Heap.get?_update_self (Obj.mapFields (·.setIfInBounds 1 (Value.ref h₁.objs.size))) he₂ (Obj.isFreed_of_fields hd₃)
 have hT₃:=(Heap.get?_update_other (h₁.push {cls:=.type "traceback",dict:=none,data:=.fields ([head,.ref L,.none,rawInt L,.none]++(if pl.isEmpty then List.replicate 6 Value.none else pl)).toArray})
  (Obj.mapFields (·.setIfInBounds 1 (Value.ref h₁.objs.size))) (Ne.symm hTe)).trans (Heap.get?_push_size h₁ rfl)
 unfold setFlight
 refine wpAny_bind (wpAny_field he₃ hd₃ (x:=.ref h₁.objs.size) (by simp [hsz]) ?_)
 rw [if_pos (show (Value.ref h₁.objs.size !=Value.none)=true from by simp)]
 refine wpAny_setField hT₃ rfl (by simp only [List.size_toArray,List.length_append,List.length_cons,List.length_nil]<;>(clear hTe hene hsz;omega)) (h _ h₁.objs.size ?_)
 have keep:∀ b o,b≠e->h₁.get? b=some o->
   (((h₁.push {cls:=.type "traceback",dict:=none,data:=.fields ([head,.ref L,.none,rawInt L,.none]++(if pl.isEmpty then List.replicate 6 Value.none else pl)).toArray}).update e (Obj.mapFields (·.setIfInBounds 1 (Value.ref h₁.objs.size)))).update h₁.objs.size
    (Obj.mapFields (·.setIfInBounds 3 ((none:Option Addr).elim Value.none fun f=>rawInt f)))).get? b=some o:=fun b o hbe hb=>by
  have hbT:h₁.objs.size≠b:=Nat.ne_of_gt (Heap.lt_size hb)
  rw [Heap.get?_update_other _ _ hbT,Heap.get?_update_other _ _ (Ne.symm hbe)]
  exact Heap.get?_push_of_some _ hb
 have he₄:=(Heap.get?_update_other ((h₁.push {cls:=.type "traceback",dict:=none,data:=.fields ([head,.ref L,.none,rawInt L,.none]++(if pl.isEmpty then List.replicate 6 Value.none else pl)).toArray}).update e (Obj.mapFields (·.setIfInBounds 1 (Value.ref h₁.objs.size))))
  (Obj.mapFields (·.setIfInBounds 3 ((none:Option Addr).elim Value.none fun f=>rawInt f))) hTe).trans he₃
 refine ⟨fun b o hb hbe _ hbo=>keep b o hbe ((hs₁.2.1 b hb).trans hbo),fun b o hb hbo=>?_,Nat.le_of_eq hs₁.1.symm,fun oe' vs' h1 h2 _=>?_,?_,fun o ho=>⟨_,he₄⟩⟩
 ·obtain ⟨sl,hs⟩:=hs₁.2.2 b o hbo
  exact ⟨sl,keep b _ (fun q=>hene (q▸hb)) hs⟩
 ·rw [he] at h1;cases h1
  rw [hd] at h2;cases h2
  exact ⟨_,_,he₄,(lQ _ _).1,(lQ _ _).2,hd₃,by simp,by simp [hsz]⟩
 ·exact ⟨_,_,Heap.get?_update_self _ hT₃ (Obj.isFreed_of_fields (Obj.data_mapFields rfl _)),Obj.data_mapFields rfl _,by first|(simp;done)|(rcases hpl with rfl|⟨_,_,_,_,_,_,_,rfl⟩<;>simp)⟩
theorem Gz {base:Heap} {env:Env} {outer:List Env} {L e:Addr} {oe:Obj} {vs:Array Value} {Q:Unit->Shared->Prop}
  (hfr:A.frames=some (env::outer)) (hl:s.heap.FunFrames base (env::outer)) (hf:env.frame=some L)
  (he:s.heap.get? e=some oe) (hd:oe.data=.fields vs) (h1:vs[1]?=some .none)
  (h:∀ h' T,Dd ((env::outer).filterMap (·.frame)) e e T s.heap h'->Q () {s with heap:=h'}):
  wpAny M A (noteFrame (.ref e) env) (fun _ s'=>wpAny M A (setFlight (.ref e) none) Q E s') E s:=by
 unfold noteFrame
 simp only [hf]
 refine wpAny_bind (wpAny_field he hd h1 ?_)
 rw [if_neg (by decide)]
 exact uU hfr hl hf he hd (Array.getElem?_eq_some_iff.mp h1).1 h
theorem yD {base:Heap} {env:Env} {outer:List Env} {L e T oeT:Addr} {oe oT:Obj} {vs ts:Array Value} {Q:Unit->Shared->Prop}
  (hfr:A.frames=some (env::outer)) (hl:s.heap.FunFrames base (env::outer)) (hf:env.frame=some L)
  (he:s.heap.get? e=some oe) (hd:oe.data=.fields vs) (h1:vs[1]?=some (.ref T)) (hTe:T≠e) (hT:s.heap.get? T=some oT) (hdT:oT.data=.fields ts) (h3:ts[3]?=some .none)
  (h:∀ h' T',Dd ((env::outer).filterMap (·.frame)) e T T' s.heap h'->Q () {s with heap:=h'}):
  wpAny M A (noteFrame (.ref e) env) (fun _ s'=>wpAny M A (setFlight (.ref e) none) Q E s') E s:=by
 unfold noteFrame
 simp only [hf]
 refine wpAny_bind (wpAny_field he hd h1 ?_)
 rw [if_pos (show (Value.ref T !=Value.none)=true from by simp)]
 refine wpAny_bind (wpAny_field hT hdT h3 ?_)
 rw [if_neg (show ¬((Value.none==rawInt L)=true) from by simp [rawInt])]
 refine wpAny_bind (wpAny_setField hT hdT (Array.getElem?_eq_some_iff.mp h3).1 ?_)
 have other:∀ b,b≠T->(s.heap.update T (Obj.mapFields (·.setIfInBounds 3 Value.none))).get? b=s.heap.get? b:=fun b hb=>Heap.get?_update_other _ _ (Ne.symm hb)
 have noRecord:∀ b o,s.heap.get? b=some o->(∀ vs,o.data≠.fields vs)->b≠T:=fun b o hb hnf q=>by
  rw [q,hT] at hb;injection hb with hb;subst hb;exact hnf ts hdT
 have hfT:∀ b∈(env::outer).filterMap (·.frame),b≠T:=fun b hb=>by
  obtain ⟨_,o,ho,hnf⟩:=hl.mem hb
  exact noRecord b o ho hnf
 have hTself:=Heap.get?_update_self (Obj.mapFields (·.setIfInBounds 3 Value.none)) hT (Obj.isFreed_of_fields (Obj.data_mapFields hdT _))
 refine uU (base:=base) hfr (hl.of_keeps fun b o hb hnf=>⟨o,(other b (noRecord b o hb hnf)).trans hb,rfl⟩) hf ((other e (Ne.symm hTe)).trans he) hd (Array.getElem?_eq_some_iff.mp h1).1 fun h' T' N=>h h' T' ?_
 refine ⟨fun b o hb hbe hbT hbo=>N.keep b o hb hbe hbe ((other b hbT).trans hbo),fun b o hb hbo=>N.slot b o hb ((other b (hfT b hb)).trans hbo),?_,fun oe' vs' q1 q2 q3=>N.self oe' vs' ((other e (Ne.symm hTe)).trans q1) q2 q3,N.head,fun o _=>?_⟩
 ·have:=N.big
  rwa [Heap.size_after_update] at this
 ·by_cases hb:T∈(env::outer).filterMap (·.frame)
  ·exact absurd rfl (hfT T hb)
  ·exact ⟨_,N.keep T _ hb hTe hTe hTself⟩
end
section
variable {X:Cx} {pins:List (Addr×Obj)} {σ:List (Option V)} {H H':Hp} {s:Shared} {h':Heap}
theorem aP.step2 {g':Array GenState} {t':Nat} {d':Drawn} {ch:List Addr} (I:aP X pins σ H s)
  (hch:∀ b∈ch,(b∈X.ex\/X.s_0.heap.get? b=none)/\b≠X.env.locals/\(∀ x c,X.env.cells.lookup x=some c->c≠b)/\∀ p∈X.pn++pins,p.1≠b)
  (keep:∀ b o,b≠X.env.locals->b∉X.fs->b∉ch->s.heap.get? b=some o->H b=none->h'.get? b=some o)
  (slot:∀ b o,b≠X.env.locals->b∈X.fs->b∉ch->s.heap.get? b=some o->H b=none->∃ sl,h'.get? b=some {o with slots:=sl}) (free:∀ b o,b∉ch->s.heap.get? b=some o->H b=none->H' b=none)
  (there:∀ b o,b∉ch->s.heap.get? b=some o->∃ o',h'.get? b=some o')
  (tups:∀ b xs,H b=some (.tup xs)->H' b=some (.tup xs)) (frzs:∀ b o u,H b=some (.frz o u)->H' b=some (.frz o u)) (tbls:∀ b ps,H b=some (.tbl ps)->∃ more,H' b=some (.tbl (ps++more)))
  (ns:∀ m,s.heap.Ns X.env.locals m->h'.Ns X.env.locals m) (hok:kG X.prog X.w H' h') (hg:AllBare g'):
  aP X pins σ H' {s with heap:=h',gens:=g',drawn:=d',toks:=t'}:=by
 have neL:∀ b o,X.s_0.heap.get? b=some o->b≠X.env.locals:=fun b o e=>Nat.ne_of_lt (Nat.lt_of_lt_of_le (Heap.lt_size e) I.ok.above)
 have neC:∀ b o,X.s_0.heap.get? b=some o->b∉X.ex->b∉ch:=fun b o e hx hb=>by
  rcases (hch b hb).1 with z|z
  ·exact hx z
  ·rw [e] at z;cases z
 have cellK:∀ x c,X.env.cells.lookup x=some c->∀ v,s.heap.IsCell c v->h'.IsCell c v:=fun x c e v ⟨o,ho,hd⟩=>by
  have nch:c∉ch:=fun z=>(hch c z).2.2.1 x c e rfl
  by_cases hc:c∈X.fs
  ·obtain ⟨sl,q⟩:=slot c o (I.cne x c e) hc nch ho (I.freeC x c e)
   exact ⟨_,q,hd⟩
  ·exact ⟨o,keep c o (I.cne x c e) hc nch ho (I.freeC x c e),hd⟩
 refine ⟨I.ok,I.os,hg,⟨fun b o e n hb hx=>?_,fun b o e n hb hx=>?_,fun b o e n hx=>?_,fun b o e hx=>?_,fun b xs e=>tups b xs (I.base.tups b xs e),fun b o xs e=>frzs b o xs (I.base.frzs b o xs e),fun b ps e=>?_⟩,?_,fun x c e=>?_,?_,fun x c e=>?_,fun p hp=>?_,hok,I.len⟩
 ·exact keep b o (neL b o e) hb (neC b o e hx) (I.base.keep b o e n hb hx) (I.base.free b o e n hx)
 ·obtain ⟨sl,e1⟩:=I.base.slot b o e n hb hx
  obtain ⟨sl',e2⟩:=slot b _ (neL b o e) hb (neC b o e hx) e1 (I.base.free b o e n hx)
  exact ⟨sl',e2⟩
 ·obtain ⟨o',e1⟩:=I.base.there b o e hx
  exact free b o' (neC b o e hx) e1 (I.base.free b o e n hx)
 ·obtain ⟨o',e1⟩:=I.base.there b o e hx
  exact there b o' (neC b o e hx) e1
 ·obtain ⟨m1,e1⟩:=I.base.tbls b ps e
  obtain ⟨m2,e2⟩:=tbls b _ e1
  exact ⟨m1++m2,by rw [e2,Array.append_assoc]⟩
 ·obtain ⟨m,hn,hl⟩:=I.loc
  refine ⟨m,ns m hn,fun i x v e1 e2 e3=>?_⟩
  obtain ⟨u,r,l⟩:=hl i x v e1 e2 e3
  refine ⟨u,r,?_⟩
  rcases l with l|⟨k,c,e,z⟩
  ·exact .inl l
  ·exact .inr ⟨k,c,e,cellK x c e _ z⟩
 ·obtain ⟨v,z⟩:=I.cell x c e
  exact ⟨v,cellK x c e v z⟩
 ·obtain ⟨m,⟨o,_,_,ho,_⟩,_⟩:=I.loc
  exact free _ o (fun z=>(hch _ z).2.1 rfl) ho I.free
 ·obtain ⟨v,o,ho,hd⟩:=I.cell x c e
  exact free c o (fun z=>(hch c z).2.2.1 x c e rfl) ho (I.freeC x c e)
 ·obtain ⟨e,n,ne,nf,d⟩:=I.pin p hp
  have nch:p.1∉ch:=fun z=>(hch p.1 z).2.2.2 p hp rfl
  exact ⟨keep p.1 p.2 ne nf nch e n,free p.1 p.2 nch e n,ne,nf,d⟩
end
structure Xn (C:Addr) (H:Hp) (h h0:Heap) (e:Addr) (n:Int) (tb:Value):Prop where
 at_:∃ oe vs d mA,h.get? e=some oe/\oe.cls=.ref C/\oe.dict=some d/\oe.data=.fields vs/\vs[1]?=some tb/\h.Ns1 d mA/\(∀ f,lH (([("fault",V.int n)]:List (Str×V)).lookup f) (mA f))/\H d=none/\h0.get? d=none/\d≠e
 he:H e=none
 lo:h0.get? e=none
def sQ (C:Addr) (H:Hp) (h h0:Heap) (e:Addr) (n:Int):Prop:=
 ∃ T,Xn C H h h0 e n (.ref T)/\T≠e/\h0.get? T=none/\H T=none/\∃ oT ts,h.get? T=some oT/\oT.data=.fields ts/\ts[3]?=some .none
def Sub (h0 h1:Heap):Prop:=∀ b o,h0.get? b=some o->∃ o',h1.get? b=some o'
theorem Sub.no {h0 h1:Heap} (x:Sub h0 h1) {b:Addr} (e:h1.get? b=none):h0.get? b=none:=by
 cases q:h0.get? b with
 |none=>rfl
 |some o=>
  obtain ⟨o',z⟩:=x b o q
  rw [e] at z;cases z
theorem Xn.mono {C:Addr} {H:Hp} {h h0 h1:Heap} {e:Addr} {n:Int} {tb:Value} (x:Xn C H h h1 e n tb) (hl:Sub h0 h1):Xn C H h h0 e n tb:=by
 obtain ⟨oe,vs,d,mA,g1,g2,g3,g4,g5,g6,g7,g8,g9,g10⟩:=x.at_
 exact ⟨⟨oe,vs,d,mA,g1,g2,g3,g4,g5,g6,g7,g8,hl.no g9,g10⟩,x.he,hl.no x.lo⟩
theorem sQ.mono {C:Addr} {H:Hp} {h h0 h1:Heap} {e:Addr} {n:Int} (x:sQ C H h h1 e n) (hl:Sub h0 h1):sQ C H h h0 e n:=by
 obtain ⟨T,x,g1,g2,g3⟩:=x
 exact ⟨T,x.mono hl,g1,hl.no g2,g3⟩
def iS (C:Addr) (P:Program) (w:World):Ez:=fun outer H s E e s'=>
 ∃ (ea:Addr) (n:Int) (H':Hp),e=.ref ea/\s'.os=s.os/\AllBare s'.gens/\Un (yL outer) [] H H' s.heap s'.heap/\kG P w H' s'.heap/\sQ C H' s'.heap s.heap ea n/\E (.int n 0) none H'
section
variable {X:Cx} {pins:List (Addr×Obj)} {σ:St} {H:Hp} {s:Shared} {h' h0:Heap} {e T0 T:Addr}
structure Es (X:Cx) (pins:List (Addr×Obj)) (h0:Heap):Prop where
 s0:∀ b o,X.s_0.heap.get? b=some o->b∉X.ex->∃ o',h0.get? b=some o'
 loc:∃ o,h0.get? X.env.locals=some o
 cell:∀ x c,X.env.cells.lookup x=some c->∃ o,h0.get? c=some o
 pin:∀ p∈X.pn++pins,∃ o,h0.get? p.1=some o
 fr:∀ b∈yL X.stack,∃ o,h0.get? b=some o
theorem eM {h0:Heap} {a b:Addr} (x:∃ o,h0.get? a=some o) (e:h0.get? b=none):a≠b:=by
 rintro rfl
 obtain ⟨o,q⟩:=x
 rw [e] at q;cases q
theorem aP.below (I:aP X pins σ H s):Es X pins s.heap where
 s0:=I.base.there
 loc:=let ⟨_,⟨o,_,_,ho,_⟩,_⟩:=I.loc;⟨o,ho⟩
 cell:=fun x c e=>let ⟨_,o,z,_⟩:=I.cell x c e;⟨o,z⟩
 pin:=fun p hp=>⟨_,(I.pin p hp).1⟩
 fr:=fun b hb=>let ⟨_,o,ho,_⟩:=I.stack.mem hb;⟨o,ho⟩
theorem aP.noted (I:aP X pins σ H s) (N:Dd (yL X.stack) e T0 T s.heap h') (B:Es X pins h0) (he:h0.get? e=none) (ht:h0.get? T0=none) (ne:H e=none) (nt:H T0=none):aP X pins σ H {s with heap:=h'}:=by
 have hch:∀ b∈[e,T0],h0.get? b=none:=fun b hb=>by
  rcases List.mem_cons.mp hb with rfl|hb
  ·exact he
  ·rw [List.mem_singleton.mp hb];exact ht
 have keep:∀ b o,b∉yL X.stack->b∉[e,T0]->s.heap.get? b=some o->h'.get? b=some o:=fun b o h1 h2 h3=>N.keep b o h1 (fun z=>h2 (by simp [z])) (fun z=>h2 (by simp [z])) h3
 have any:∀ b o,b∉[e,T0]->s.heap.get? b=some o->∃ sl,h'.get? b=some {o with slots:=sl}:=fun b o h2 h3=>by
  by_cases hb:b∈yL X.stack
  ·exact N.slot b o hb h3
  ·exact ⟨o.slots,keep b o hb h2 h3⟩
 refine I.step2 (g':=s.gens) (d':=s.drawn) (t':=s.toks) (ch:=[e,T0]) (fun b hb=>?_) (fun b o h1 h2 h3 h4 _=>?_) (fun b o _ _ h3 h4 _=>any b o h3 h4) (fun _ _ _ _ n=>n) (fun b o h3 h4=>?_) (fun _ _ q=>q) (fun _ _ _ q=>q) (fun b ps q=>⟨#[],by rw [q];simp⟩) (fun m hm=>?_) (fun b u q=>?_) I.bare
 ·have hb:=hch b hb
  refine ⟨?_,Ne.symm (eM B.loc hb),fun x c q=>eM (B.cell x c q) hb,fun p hp=>eM (B.pin p hp) hb⟩
  by_cases hx:b∈X.ex
  ·exact .inl hx
  ·refine .inr ?_
   cases q:X.s_0.heap.get? b with
   |none=>rfl
   |some o=>exact absurd rfl (eM (B.s0 b o q hx) hb)
 ·refine keep b o (fun z=>?_) h3 h4
  rcases List.mem_cons.mp (I.stkSub b z) with z|z
  ·exact h1 z
  ·exact h2 z
 ·obtain ⟨sl,q⟩:=any b o h3 h4
  exact ⟨_,q⟩
 ·obtain ⟨o,es,ep,ho,hd,r⟩:=hm
  obtain ⟨sl,q⟩:=any X.env.locals o (fun z=>absurd rfl (eM B.loc (hch _ z))) ho
  exact ⟨_,es,ep,q,hd,r⟩
 ·have tr:∀ c v,H c=some v->c∉yL X.stack/\c∉[e,T0]:=fun c v q=>by
   refine ⟨fun z=>?_,fun z=>?_⟩
   ·rw [I.stkFree c z] at q;cases q
   ·rcases List.mem_cons.mp z with rfl|z
    ·rw [ne] at q;cases q
    ·rw [List.mem_singleton.mp z,nt] at q;cases q
  refine (I.hok b u q).stay (fun c v hc r=>?_) (fun _ z=>z) fun _ _ z=>z
  rcases hc with rfl|hc
  ·exact keep c v (tr c u q).1 (tr c u q).2 r
  ·exact keep c v (tr c _ hc).1 (tr c _ hc).2 r
theorem Xn.noted {C:Addr} {n:Int} {tb:Value} (I:aP X pins σ H s) (N:Dd (yL X.stack) e T0 T s.heap h') (B:Es X pins h0) (hs:Sub h0 s.heap) (x:Xn C H s.heap h0 e n tb) (hk:∀ o es ep,s.heap.get? T0=some o->o.data≠.dict es ep):sQ C H h' h0 e n:=by
 obtain ⟨oe,vs,d,mA,h1,h2,h3,h4,h5,h6,h7,h8,h9,h10⟩:=x.at_
 obtain ⟨oe',vs',g1,g2,g3,g4,g5,g6⟩:=N.self oe vs h1 h4 (Array.getElem?_eq_some_iff.mp h5).1
 have hTs:e<s.heap.objs.size:=Heap.lt_size h1
 refine ⟨T,⟨⟨oe',vs',d,mA,g1,g2.trans h2,g3.trans h3,g4,g6,h6.at fun o q=>N.keep d o (fun z=>absurd rfl (eM (B.fr d z) h9)) h10 (fun z=>?_) q,h7,h8,h9,h10⟩,x.he,x.lo⟩,fun z=>?_,hs.no (Heap.get?_none_of_le N.big),I.hok.fresh N.big,N.head⟩
 ·obtain ⟨o',es,ep,q1,q2,_⟩:=h6
  rw [z] at q1
  exact hk o' es ep q1 q2
 ·exact absurd (Nat.lt_of_lt_of_le hTs N.big) (by rw [z];exact Nat.lt_irrefl _)
end
structure Ou (C:Addr) (X:Cx) (E:XK):Prop where
 pass:iP (iS C X.prog X.w) X E
 new:∀ (pins:List (Addr×Obj)) (σ:St) (H:Hp) (s:Shared) (ea:Addr) (n:Int) (h0:Heap),aP X pins σ H s->Es X pins h0->Sub h0 s.heap->Xn C H s.heap h0 ea n .none->E (.int n 0) none H->X.xe (.ref ea) s
 own:PassesOwn (model X.prog X.w) X.A X.env X.xe
theorem aN {C:Addr} {P:Program} {w:World} {K:PySem.W.Frag} {mg:Str->Option Value} {base:Heap} {N:List Str} {qual:Str} {scope:Scope} {f:Addr} {cd:Value} {A:Around} {outer:List Env} {s:Shared} {H:Hp} {E:XK}:
  Ou C (Bh (iS C P w) P w K mg base N qual scope f cd A outer s H E) E where
 pass:=by
  intro pins σ H1 s1 e s' I ⟨ea,n,H',he,hos,hb,un,hok,fl,hE⟩
  subst he
  have I':=I.call' (ch:=[]) hos un hok hb (fun _ z=>nomatch z)
  have B:=I.below
  obtain ⟨T,x,hTe,hTl,hTn,oT,ts,t1,t2,t3⟩:=fl
  obtain ⟨oe,vs,d,mA,h1,h2,h3,h4,h5,h6,h7,h8,h9,h10⟩:=id x.at_
  show wpAny _ _ (leaving _ _) _ _ _
  unfold leaving
  refine wpAny_bind (yD (oeT:=0) I'.ok.frames I'.stack rfl h1 h4 h5 hTe t1 t2 t3 fun h' T' Nt=>?_)
  have I2:=I'.noted Nt B x.lo hTl x.he hTn
  have fl2:=Xn.noted (C:=C) I' Nt B (fun b o q=>un.there b o q (by simp)) x (fun o es ep q z=>by rw [t1] at q;cases q;rw [t2] at z;cases z)
  exact ⟨ea,n,H',rfl,I2.os,I2.bare,I2.base,I2.hok,(fl2.mono fun b o q=>B.s0 b o q (fun z=>nomatch (show b∈([]:List Addr) from z))),hE⟩
 new:=by
  intro pins σ H1 s1 ea n h0 I B hs x hE
  obtain ⟨oe,vs,d,mA,h1,h2,h3,h4,h5,h6,h7,h8,h9,h10⟩:=id x.at_
  show wpAny _ _ (leaving _ _) _ _ _
  unfold leaving
  refine wpAny_bind (Gz I.ok.frames I.stack rfl h1 h4 h5 fun h' T' Nt=>?_)
  have I2:=I.noted Nt B x.lo x.lo x.he x.he
  have fl2:=Xn.noted (C:=C) I Nt B hs x (fun o es ep q z=>by rw [h1] at q;cases q;rw [h4] at z;cases z)
  exact ⟨ea,n,H1,rfl,I2.os,I2.bare,I2.base,I2.hok,(fl2.mono fun b o q=>B.s0 b o q (fun z=>nomatch (show b∈([]:List Addr) from z))),hE⟩
 own:=PassesOwn.leaving
section
open Builtin Builtin.ObjectAttr
variable {prog:Program} {w:World} {A:Around} {E:Value->Shared->Prop} {h:Heap} {g:Array GenState} {d:Drawn} {t:Nat} {os:OsState}
variable {nm q:Str} {C N x:Addr} {bs bm:List Value} {sn:List Str} {sub:List Value} {ab:Bool} {col:Option Bool} {dd:Option Addr} {k0 k1 k2 k3 k5:Option Value} {B newId sa owner:String}
 {mN:Str->Option Value} {name:Str} {v:Value} {o:Obj}
structure yZ (h h':Heap) (x:Addr) (o:Obj) (name:Str) (v:Value):Prop where
 obj:h'.get? x=some {o with dict:=some h.objs.size}
 ns:h'.Ns1 h.objs.size (fun y=>if y=name then some v else none)
 keep:∀ b ob,b≠x->h.get? b=some ob->h'.get? b=some ob
theorem Ee {tk:Tok} {Q:Fin->Shared->Prop} (SF:StoreFacts B bm sa owner)
  (hC:h.get? C=some (excClassObj nm q C N bs bm true sn sub ab col dd k0 k1 k2 k3 k5 newId)) (hn:h.Ns N mN) (hna:mN name=none)
  (hB:typeLookup (.type B) name=pure none) (hx:h.get? x=some o) (hc:o.cls=.ref C) (hnc:∀ c,o.data≠.cls c) (hdn:o.dict=none)
  (hq:∀ h' tk',yZ h h' x o name v->Q (.done (.ret .none)) ⟨h',g,d,tk',os⟩):
  wpAny (model prog w) A (Builtin.«object.__setattr__» ⟨[.ref x,.str name tk,v],[]⟩) Q E ⟨h,g,d,t,os⟩:=by
 have hpass:=SF.passes (.ref x)
 unfold Builtin.«object.__setattr__»
 repeat (first|rw [refuse_eq]|(rw [refuseLoop_ref,hpass])|(with_reducible refine wpAny_loadPart_at hx ?_;rw [hc])|with_reducible refine wpAny_mroOf_exc hC ?_|(with_reducible refine wpAny_typeLookup_exc hC hn SF.mro hB ?_;rw [hna])|wp_step)
 rw [hdn,if_neg (by simp [typeHasDict])]
 split
 ·rename_i hcd
  cases hcd
 split
 ·rename_i c hcd
  exact absurd hcd (hnc c)
 ·have hx1:(h.push {cls:=.type "dict",data:=.dict #[]}).get? x=some o:=Heap.get?_push_of_some _ hx
  have hxs:x≠h.objs.size:=Nat.ne_of_lt (Heap.lt_size hx)
  refine wpAny_bind (wpAny_alloc' (wpAny_bind (wpAny_update' hx1 (wpAny_pure ?_))))
  have hgd:((h.push {cls:=.type "dict",data:=.dict #[]}).update x fun o=>{cls:=o.cls,dict:=some h.objs.size,data:=o.data,slots:=o.slots}).get? h.objs.size
    =some {cls:=.type "dict",data:=.dict #[]}:=(Heap.get?_update_ne _ _ _ _ hxs.symm).trans (Heap.get?_push_at rfl rfl)
  have hnd:((h.push {cls:=.type "dict",data:=.dict #[]}).update x fun o=>{cls:=o.cls,dict:=some h.objs.size,data:=o.data,slots:=o.slots}).Ns h.objs.size (fun _=>none):=
   ⟨_,#[],_,hgd,rfl,fun e he=>absurd he (by simp),fun _=>rfl⟩
  show wpAny _ _ (storeInDict h.objs.size (.str name tk) name v) _ _ _
  unfold storeInDict newKeyGuard
  refine wpAny_bind (wpAny_pure (wpAny_bind (wpAny_nsSet1 (Heap.Ns1.of_empty hnd) fun h' hn' hs=>?_)))
  obtain ⟨oD,esD,epD,hoD,hdD,hcD⟩:=hn'.count (Within.cons name v Within.nil)
  refine wpAny_bind (wpAny_lookBehind hoD (by rw [hdD];exact pastItsLine_dict (Nat.le_trans hcD (by rw [List.length_cons,List.length_nil,sizeLine_eq];(clear hcD;omega)))) ?_)
  wp_walk
  refine hq h' _ ⟨?_,hn',fun b ob hbx hb=>(hs.2 b (Nat.ne_of_lt (Heap.lt_size hb))).trans ((Heap.get?_update_ne _ _ _ _ hbx).trans (Heap.get?_push_of_some _ hb))⟩
  refine (hs.2 x hxs).trans (Heap.get?_update_self _ hx1 ?_)
  have hfr:=(Heap.get?_some_iff.mp hx).2
  obtain ⟨oc,od,odt,osl⟩:=o
  cases odt<;>first|rfl|exact hfr
theorem Fz {Q:Unit->Shared->Prop} (SF:StoreFacts B bm sa owner)
  (hC:h.get? C=some (excClassObj nm q C N bs bm true sn sub ab col dd k0 k1 k2 k3 k5 newId)) (hn:h.Ns N mN) (hns:mN "__setattr__"=none) (hna:mN name=none)
  (hB:typeLookup (.type B) name=pure none) (hx:h.get? x=some o) (hc:o.cls=.ref C) (hnc:∀ c,o.data≠.cls c) (hdn:o.dict=none)
  (hq:∀ h' tk',yZ h h' x o name v->Q () ⟨h',g,d,tk',os⟩):
  wpAny (model prog w) A (setAttr (.ref x) name v) Q E ⟨h,g,d,t,os⟩:=by
 have f3:=SF.slot.bind (.ref x)
 unfold setAttr callSpecial? specialOf
 repeat (any_goals (first|assumption|(with_reducible refine wpAny_loadPart_at hx ?_;rw [hc])|(with_reducible refine wpAny_typeLookup_exc hC hn SF.mro SF.slot.lookup ?_;rw [hns])|wp_step))
 refine codeAny_call_builtin SF.slot.plain SF.entry (wpAny_check_sa SF hC hx hc (Ee SF hC hn hna hB hx hc hnc hdn fun h' tk' I'=>?_))
 repeat (any_goals (first|assumption|wp_step))
 exact hq h' tk' I'
end
section
open Builtin Builtin.ObjectAttr
variable {prog:Program} {w:World} {A:Around} {E:Value->Shared->Prop} {h:Heap} {g:Array GenState} {d:Drawn} {t:Nat} {os:OsState}
variable {nm q:Str} {C N x dx:Addr} {bs bm:List Value} {sn:List Str} {sub:List Value} {ab:Bool} {col:Option Bool} {dd:Option Addr} {k0 k1 k2 k3 k5:Option Value} {B newId:String}
 {mN mA:Str->Option Value} {name:Str} {v:Value} {o:Obj}
theorem Kj {tk:Tok} {Q:Fin->Shared->Prop} (FB:ExcAttrBase B bm)
  (hC:h.get? C=some (excClassObj nm q C N bs bm true sn sub ab col dd k0 k1 k2 k3 k5 newId)) (hn:h.Ns N mN) (hna:mN name=none)
  (hB:typeLookup (.type B) name=pure none) (hx:h.get? x=some o) (hc:o.cls=.ref C) (hnc:∀ c,o.data≠.cls c) (hdx:o.dict=some dx) (hA:h.Ns1 dx mA) (hv:mA name=some v) (hq:Q (.done (.ret v)) ⟨h,g,d,t,os⟩):
  wpAny (model prog w) A (Builtin.«object.__getattribute__» ⟨[.ref x,.str name tk],[]⟩) Q E ⟨h,g,d,t,os⟩:=by
 unfold Builtin.«object.__getattribute__»
 repeat (first|(with_reducible refine wpAny_loadPart_at hx ?_;rw [hc])|(with_reducible refine wpAny_typeLookup_exc hC hn FB.mro hB ?_;rw [hna])|wp_step)
 split
 ·rename_i c hcd
  exact absurd hcd (hnc c)
 unfold instanceDict
 repeat (first|(with_reducible refine wpAny_loadPart_at hx ?_;rw [hc])|with_reducible refine wpAny_loadPart_at hC ?_|wp_step)
 rw [hdx]
 repeat (first|(with_reducible refine wpAny_nsGet hA.ns ?_;rw [hv])|wp_step)
 exact hq
theorem Xz {tk:Tok} {fill expr:Bool} {Q:Value->Shared->Prop} (FB:ExcAttrBase B bm)
  (hC:h.get? C=some (excClassObj nm q C N bs bm true sn sub ab col dd k0 k1 k2 k3 k5 newId)) (hn:h.Ns N mN) (hng:mN "__getattribute__"=none) (hnh:mN "__getattr__"=none) (hna:mN name=none)
  (hB:typeLookup (.type B) name=pure none) (hx:h.get? x=some o) (hc:o.cls=.ref C) (hnc:∀ c,o.data≠.cls c) (hdx:o.dict=some dx) (hA:h.Ns1 dx mA) (hv:mA name=some v) (hh:handedOut v=pure v) (hq:Q v ⟨h,g,d,t,os⟩):
  wpAny (model prog w) A (getAttrBy (.ref x) (.str name tk) fill expr) Q E ⟨h,g,d,t,os⟩:=by
 have f3:=FB.ga.bind (.ref x)
 have hx0:(expr && onTheHeap (Value.builtin "BaseException.__getattribute__"))=false:=by cases expr<;>rfl
 have hx2:(Value.builtin "BaseException.__getattribute__"==Value.builtin "object.__getattribute__")=false:=by decide+kernel
 have hx1:(onTheHeap (Value.ref C) && Value.builtin "BaseException.__getattribute__"==Value.builtin "object.__getattribute__")=false:=by rw [hx2];rfl
 repeat (any_goals (first|assumption|(with_reducible refine wpAny_loadPart_at hx ?_;rw [hc])|(with_reducible refine wpAny_typeLookup_exc hC hn FB.mro FB.ga.lookup ?_;rw [hng])|(with_reducible refine wpAny_typeLookup_exc hC hn FB.mro FB.noGetattr ?_;rw [hnh])|wp_step))
 refine codeAny_call_builtin FB.ga.plain F.entry_bexc_ga (wpAny_check_ga_own FB hC .base hx hc (Kj FB hC hn hna hB hx hc hnc hdx hA hv ?_))
 repeat (any_goals (first|assumption|wp_step))
theorem Ox {expr:Bool} {Q:Value->Shared->Prop} (FB:ExcAttrBase B bm)
  (hC:h.get? C=some (excClassObj nm q C N bs bm true sn sub ab col dd k0 k1 k2 k3 k5 newId)) (hn:h.Ns N mN) (hng:mN "__getattribute__"=none) (hnh:mN "__getattr__"=none) (hna:mN name=none)
  (hB:typeLookup (.type B) name=pure none) (hx:h.get? x=some o) (hc:o.cls=.ref C) (hnc:∀ c,o.data≠.cls c) (hdx:o.dict=some dx) (hA:h.Ns1 dx mA) (hv:mA name=some v) (hh:handedOut v=pure v) (hq:Q v ⟨h,g,d,t+1,os⟩):
  wpAny (model prog w) A (getAttr (.ref x) name expr) Q E ⟨h,g,d,t,os⟩:=by
 unfold getAttr
 repeat (any_goals (first|assumption|with_reducible apply Xz FB hC hn hng hnh hna hB hx hc hnc hdx hA hv hh|wp_step))
end
structure zX (K:PySem.W.Frag) (C fI:Addr):Prop where
 cls:∃ nm q N bs sn sub ab col dd k0 k1 k2 k3 k5,K.lookup C=some (excClassObj nm q C N bs Aj true sn sub ab col dd k0 k1 k2 k3 k5 "Exception.__new__")/\PySem.W.nsOkIn K N=true/\PySem.W.nsIn K N "__init__"=some (some (.ref fI))/\
  PySem.W.nsIn K N "fault"=some none/\PySem.W.nsIn K N "__setattr__"=some none/\PySem.W.nsIn K N "__getattribute__"=some none/\PySem.W.nsIn K N "__getattr__"=some none
 fn:PySem.W.isFn K (.ref fI)=true
 kp:PySem.W.keepIn K (.ref C)=true
theorem Th {K:PySem.W.Frag} {h:Heap} {N:Addr} {m:Str->Option Value} {x:Str} {v:Value} (X:K.In h) (G:h.Ns N m) (e:PySem.W.nsIn K N x=some (some v)):m x=some v:=by
 obtain ⟨o,es,ep,ho,hd,_,hf⟩:=G
 unfold PySem.W.nsIn at e
 split at e
 ·rename_i q
  have z:=X _ _ q
  rw [ho] at z
  cases z
  cases hd
  split at e
  ·rename_i en he
   cases e
   rw [<-hf]
   unfold nsFind findBy
   rw [<-Array.find?_toList,he]
   rfl
  ·split at e<;>cases e
 ·cases e
theorem uN:typeLookup (.type "Exception") "fault"=pure none:=by rw [typeLookup_type,builtinLookup_eq_fast];kernel_rfl
theorem Yq {K:PySem.W.Frag} {f:Addr} (h:PySem.W.isFn K (.ref f)=true):∃ o,K.lookup f=some o/\o.cls=.type "function":=by
 have h:((K.lookup f).map (·.cls)==some (.type "function"))=true:=h
 cases q:K.lookup f with
 |none=>rw [q] at h;cases h
 |some o=>
  rw [q] at h
  exact ⟨o,rfl,Option.some.inj (beq_iff_eq.mp h)⟩
theorem cJ.there {P:Program} {w:World} {H:Hp} {h:Heap} {a:Addr} {o:HO} (x:cJ P w H h a o):∃ ob,h.get? a=some ob:=by
 cases o with
 |lst xs=>obtain ⟨_,_,_,_,e⟩:=x;exact ⟨_,e⟩
 |tup xs=>obtain ⟨_,_,_,o,e,_⟩:=x;exact ⟨_,e⟩
 |dK aI=>obtain ⟨_,_,_,_,o,_,_,e,_⟩:=x;exact ⟨_,e⟩
 |dT aI=>obtain ⟨_,_,_,_,o,_,_,e,_⟩:=x;exact ⟨_,e⟩
 |set S n=>obtain ⟨o,_,_,_,e,_⟩:=x;exact ⟨_,e⟩
 |ins C dx fs=>obtain ⟨_,_,_,e,_⟩:=x;exact ⟨_,e⟩
 |own y=>exact x
 |xd fs=>obtain ⟨_,⟨_,_,_,e,_⟩,_⟩:=x;exact ⟨_,e⟩
 |rng lo hi=>obtain ⟨_,_,_,e⟩:=x;exact ⟨_,e⟩
 |frz ob u=>obtain ⟨e,_⟩:=x;exact ⟨_,e⟩
 |tbl ps=>exact ⟨_,(show h.get? a=some _ from x)⟩
 |met f y=>exact ⟨_,(show h.get? a=some _ from x)⟩
 |ext φ=>obtain ⟨_,e,_⟩:=x;exact e
theorem kG.none_of {P:Program} {w:World} {H:Hp} {h:Heap} {a:Addr} (x:kG P w H h) (e:h.get? a=none):H a=none:=by
 cases q:H a with
 |none=>rfl
 |some o=>
  obtain ⟨ob,z⟩:=(x a o q).there
  rw [e] at z;cases z
section
variable {X:Cx} {pins:List (Addr×Obj)} {σ:St} {H H':Hp} {s:Shared} {h':Heap} {a:Addr} {o:HO}
theorem aP.laidN {t':Nat} (I:aP X pins σ H s) (k:∀ b u,s.heap.get? b=some u->h'.get? b=some u) (hp:s.heap.get? a=none) (new:cJ X.prog X.w (upd H a o) h' a o):
  aP X pins σ (upd H a o) {s with heap:=h',toks:=t'}:=by
 have hn:=I.hok.none_of hp
 have ne:∀ b u,s.heap.get? b=some u->b≠a:=fun b u q z=>by rw [z,hp] at q;cases q
 refine I.un ⟨fun b u q _ _ _=>k b u q,fun b u q _ _ _=>⟨u.slots,k b u q⟩,fun b u q n _=>by rw [aC (ne b u q)];exact n,fun b u q _=>⟨u,k b u q⟩,
  fun b xs q=>by rw [aC (aD q hn)];exact q,fun b u xs q=>by rw [aC (aD q hn)];exact q,fun b ps q=>⟨#[],by rw [aC (aD q hn),q];simp⟩⟩ fun b u q=>?_
 by_cases hb:b=a
 ·subst hb;rw [aB] at q;cases q;exact new
 ·rw [aC hb] at q
  exact (I.hok b u q).stay (fun c v _ z=>k c v z) (fun c z=>by rw [aC (aD z hn)];exact z) fun c xs z=>by rw [aC (aD z hn)];exact z
theorem aP.untrack {pins0:List (Addr×Obj)} {σ0:St} {s0:Shared} (I:aP X pins σ H' s) (I0:aP X pins0 σ0 H s0) (sub:∀ b o,H b=some o->H' b=some o)
  (own:∀ b a,H' b=some (.own a)->H b=some (.own a)) (tup:∀ b xs,H' b=some (.tup xs)->H b=some (.tup xs)):aP X pins σ H s:=by
 have no:∀ b,H' b=none->H b=none:=fun b e=>by
  cases q:H b with
  |none=>rfl
  |some o=>rw [sub b o q] at e;cases e
 refine ⟨I.ok,I.os,I.bare,⟨I.base.keep,I.base.slot,fun b o e n hx=>no b (I.base.free b o e n hx),I.base.there,I0.base.tups,I0.base.frzs,I0.base.tbls⟩,I.loc,I.cell,no _ I.free,fun x c e=>no c (I.freeC x c e),fun p hp=>?_,fun b o e=>?_,I.len⟩
 ·obtain ⟨h1,h2,h3⟩:=I.pin p hp
  exact ⟨h1,no _ h2,h3⟩
 ·exact (I.hok b o (sub b o e)).stay (fun _ _ _ q=>q) (fun c q=>own c b q) fun c xs q=>tup c xs q
end
def XO (C t e:Addr) (od:Option Addr):HO:=.ext fun h=>h.get? e=some {cls:=.ref C,dict:=od,data:=.fields #[.ref t,.none,.none,.none,.bool false,.none]}
theorem XO.ok {P:Program} {w:World} {H:Hp} {h:Heap} {C t e:Addr} {od:Option Addr} (q:h.get? e=some {cls:=.ref C,dict:=od,data:=.fields #[.ref t,.none,.none,.none,.bool false,.none]}):cJ P w H h e (XO C t e od):=
 ⟨q,⟨_,q⟩,fun _ _ z k=>k _ z⟩
def Wx (C:Addr):Sp:=fun vs H Q _=>∃ e t n,vs=[.ref e,.int n]/\H e=some (XO C t e none)/\∀ d,H d=none->d≠e->Q .non (upd (upd H d (.xd [("fault",.int n)])) e (XO C t e (some d)))
def sXF (C:Addr) (ta tv:TE):TS:=fun D σ H=>tv σ H fun y H1=>ta σ H1 fun x H2=>∃ e t n,y=.int n/\x=.ref e/\H2 e=some (XO C t e none)/\∀ d,H2 d=none->d≠e->D.nx σ (upd (upd H2 d (.xd [("fault",.int n)])) e (XO C t e (some d)))
theorem Sw {X:Cx} {o value:Expr} {pos pos':Pos} {ta tv:TE} {C fI:Addr} (T:zX X.K C fI) (ha:PE X o ta) (hv:PE X value tv) (hs:swapsWith value (some (.Attribute o "fault" pos')) pos.line X.env=pure false):
  PS X (.Assign [.Attribute o "fault" pos'] value pos) (sXF C ta tv):=by
 intro pins s σ H D I h
 refine plainObj_wpAny_Assign_Attribute (cT (hv pins s σ H _ I h) fun u s1 ⟨y,H1,I1,ry,q⟩=>cT (ha pins s1 σ H1 _ I1 q) fun ov s2 ⟨x,H2,I2,rx,e,t,n,ey,ex,ee,q2⟩=>?_) hs
 subst ex ey
 obtain rfl:ov=Value.ref e:=rx
 obtain ⟨tk,rfl⟩:=(show ∃ t,u=Value.int n t from ry)
 obtain ⟨nm,qn,N,bs,sn,sub,ab,col,dd,k0,k1,k2,k3,k5,lk,nok,ni,nf,ns,ng,nh⟩:=T.cls
 have hC:=I2.kIn _ _ lk
 have hN:s2.heap.Ns N (s2.heap.nsMap N):=.of_isNs (PySem.W.isNs_of_in I2.kIn nok)
 obtain ⟨obj,_,_⟩:=(show cJ X.prog X.w H2 s2.heap e (XO C t e none) from I2.hok e _ ee)
 obtain ⟨hp,g,dr,tks,os⟩:=s2
 refine Fz F.store_Exception hC hN (PySem.W.ns_none_of I2.kIn hN ns) (PySem.W.ns_none_of I2.kIn hN nf) uN obj rfl (fun c z=>nomatch z) rfl fun h' tk' A=>?_
 have hde:hp.objs.size≠e:=Nat.ne_of_gt (Heap.lt_size obj)
 have hdn:H2 hp.objs.size=none:=I2.hok.fresh (Nat.le_refl _)
 refine ⟨σ,_,?_,q2 hp.objs.size hdn hde⟩
 have nb:∀ b (u:Obj),H2 b=none->b≠e:=fun b u z y=>by rw [y,ee] at z;cases z
 have nd:∀ b u,hp.get? b=some u->b≠hp.objs.size:=fun b u z=>Nat.ne_of_lt (Heap.lt_size z)
 have other:∀ b u,H2 b=some u->b≠e->upd (upd H2 hp.objs.size (.xd [("fault",.int n)])) e (XO C t e (some hp.objs.size)) b=some u:=fun b u z y=>by
  rw [aC y,aC (aD z hdn)];exact z
 refine I2.un (t':=tk') ⟨fun b u z y _ _=>A.keep b u (nb b u y) z,fun b u z y _ _=>⟨u.slots,A.keep b u (nb b u y) z⟩,fun b u z y _=>by rw [aC (nb b u y),aC (nd b u z)];exact y,fun b u z _=>?_,fun b xs z=>other b _ z ?_,fun b u xs z=>other b _ z ?_,fun b ps z=>⟨#[],by rw [other b _ z (by rintro rfl;rw [ee] at z;cases z)];simp⟩⟩ fun b u z=>?_
 ·by_cases y:b=e
  ·exact ⟨_,by rw [y];exact A.obj⟩
  ·exact ⟨u,A.keep b u y z⟩
 ·rintro rfl;rw [ee] at z;cases z
 ·rintro rfl;rw [ee] at z;cases z
 ·by_cases y:b=e
  ·subst y
   rw [aB] at z
   cases z
   exact XO.ok A.obj
  ·rw [aC y] at z
   by_cases y2:b=hp.objs.size
   ·subst y2
    rw [aB] at z
    cases z
    refine ⟨_,A.ns,fun f=>?_⟩
    show lH ((lV "fault" (V.int n) []).lookup f) (if f="fault" then some (Value.int n tk) else none)
    rw [nA]
    by_cases y3:f="fault"
    ·rw [if_pos y3,if_pos y3];exact ⟨tk,rfl⟩
    ·rw [if_neg y3,if_neg y3];exact True.intro
   ·rw [aC y2] at z
    refine (I2.hok b u z).stay (fun c v hc q=>A.keep c v ?_ q) (fun c q=>other c _ q ?_) fun c xs q=>other c _ q ?_
    ·rcases hc with rfl|hc
     ·exact y
     ·rintro rfl;rw [ee] at hc;cases hc
    ·rintro rfl;rw [ee] at q;cases q
    ·rintro rfl;rw [ee] at q;cases q
section
variable {M:Model} {A:Around} {E:Value->Shared->Prop} {env:Env}
variable {nm q:Str} {C N:Addr} {bs bm:List Value} {hdct:Bool} {sn:List Str} {sub:List Value} {ab:Bool} {col:Option Bool} {dd:Option Addr} {k0 k1 k2 k3 k5:Option Value} {newId:String}
theorem Ho {s:Shared} {x:Sem Value} {Q:Flow->Shared->Prop} (hbase:bm.contains (.type "BaseException")=true) (hh:A.handled=none)
  (h:wpAny M A x (fun v s1=>∃ e oe vs,v=.ref e/\s1.heap.get? C=some (excClassObj nm q C N bs bm hdct sn sub ab col dd k0 k1 k2 k3 k5 newId)/\s1.heap.get? e=some oe/\oe.cls=.ref C/\oe.data=.fields vs/\vs[1]?=some .none/\E (.ref e) s1) E s):
  wpAny M A (raiseStmt env (some x) none) Q E s:=by
 have hcB:(Value.ref C::bm).contains (.type "BaseException")=true:=by rw [List.contains_cons,hbase,Bool.or_true]
 unfold raiseStmt
 refine wpAny_bind (wpAny_mono h (fun v s1 h1=>?_) fun _ _ x=>x)
 obtain ⟨e,oe,vs,rfl,hC,he,hcl,hd,h1,hE⟩:=h1
 obtain ⟨hp,g,d,tk,os⟩:=s1
 repeat (first|(with_reducible refine wpAny_loadPart_at he ?_;rw [hcl])|with_reducible refine wpAny_loadPart_at hC ?_|(with_reducible refine wpAny_isSubtype_exc hC ?_;rw [hcB])|with_reducible refine wpAny_field he hd h1 ?_|wp_step)
 exact wpAny_raiseNew_none hh hE
end
def Yy (E:XK):List V->Hp->Prop:=fun vs H=>match vs with
 |[x]=>∃ n,x=.int n/\E (.int n 0) none H
 |_=>False
def Xm (E:XK) (te:TE):TS:=fun _ σ H=>te σ H fun v H1=>∃ n,v=.int n/\E (.int n 0) none H1
theorem mM {X:Cx} {C fI:Addr} {fd:FuncData} {k:Nat} {E:XK} {x:Str} {np cpos pos:Pos} {e:Expr} {te:TE} (L:Ou C X E) (hc:X.calm=true) (T:zX X.K C fI)
  (G:bU X.prog X.w X.K X.mg X.base bV k fI fd ["self","fault"] (Wx C)) (hr:fW (k+1) X.A) (hg:Gl X x) (hm:X.mg x=some (.ref C)) (hb:eZ X.K fd ["self","fault"] []) (he:PE X e te)
  (hdb:(x==("__debug__":Str))=false:=by decide) (hst:starEach [e] X.env=(false,eval e X.env)::starEach [] X.env:=by rfl):
  PS X (.Raise (some (.Call (.Name x np) [e] [] cpos)) none pos) (Xm E te):=by
 intro pins s σ H D I h
 have ha:PA X [e] (dL te gR):=aA he aE hst
 have h':dL te gR σ H (Yy E):=h
 obtain ⟨nm,qn,N,bs,sn,sub,ab,col,dd,k0,k1,k2,k3,k5,lk,nok,ni,nf,ns,ng,nh⟩:=id T.cls
 rw [arm_exec_Raise]
 refine wpAny_bind (wpAny_standAt (Ho (C:=C) (nm:=nm) (q:=qn) (N:=N) (bs:=bs) (bm:=Aj) (hdct:=true) (sn:=sn) (sub:=sub) (ab:=ab) (col:=col) (dd:=dd) (k0:=k0) (k1:=k1) (k2:=k2) (k3:=k3) (k5:=k5) (newId:="Exception.__new__")
  F.excBase_Exception.hasBase (I.ok.hd hc) (wpAny_bind (cT (Q:=fun v s3=>∃ ea oe vs,v=.ref ea/\s3.heap.get? C=some (excClassObj nm qn C N bs Aj true sn sub ab col dd k0 k1 k2 k3 k5 "Exception.__new__")/\s3.heap.get? ea=some oe/\oe.cls=.ref C/\oe.data=.fields vs/\vs[1]?=some .none/\X.xe (.ref ea) s3) ?_ fun v s3 h3=>wpAny_bind (wpAny_standAt (wpAny_pure h3))))))
 refine wpAny_Call_Name_kw (iZ I hg hm ?_ hdb)
 refine PySem.W.callWith_K (h₀:=X.base) I.ok.mod.kin T.kp (cT (ha cpos pins s σ H _ I h') fun us s1 ⟨vs,H1,I1,r,q⟩=>⟨I1.kIn,?_⟩) hst rfl
 match vs,r,q with
 |[x1],.cons (b:=u) r1 .nil,q=>
  obtain ⟨n,rfl,hE⟩:=q
  obtain ⟨tk,rfl⟩:=(show ∃ t,u=Value.int n t from r1)
  obtain ⟨oI,hoI,hfc⟩:=Yq T.fn
  have hC:=I1.kIn _ _ lk
  have hN:s1.heap.Ns N (s1.heap.nsMap N):=.of_isNs (PySem.W.isNs_of_in I1.kIn nok)
  have B:=I1.below
  obtain ⟨hp,g,dr,tks,os⟩:=s1
  refine wpAny_call_exc_init F.excBase_Exception hC hN (Th I1.kIn hN ni) (I1.kIn _ _ hoI) hfc (fun h1 ea hm=>?_)
  obtain ⟨t,ht,htn,htt⟩:=hm.there
  have I2:aP X pins σ (upd H1 ea (XO C t ea none)) ⟨h1,g,dr,tks,os⟩:=I1.laidN (t':=tks) hm.keeps hm.new (XO.ok ht)
  refine wpAny_call (codeAny_mono (G.run (X.A.under (.builtin "type.__call__" ⟨.ref C::[.int n tk],[]⟩)) X.stack ⟨h1,g,dr,tks,os⟩ (upd H1 ea (XO C t ea none)) ⟨.ref ea::[.int n tk],[]⟩ [.ref ea,.int n tk] [.ref ea,.int n]
   (fun v H2=>v=.non/\∃ d,d≠ea/\H1 d=none/\H2=upd (upd (upd H1 ea (XO C t ea none)) d (.xd [("fault",.int n)])) ea (XO C t ea (some d))) E0 (hr.make C [.int n tk] []) (I2.env0.make C [.int n tk] [])
   (hb _ [.ref ea,.int n tk] I2.kIn rfl) (.cons rfl (.cons ⟨tk,rfl⟩ .nil)) ⟨ea,t,n,rfl,aB,fun d hd hde=>⟨rfl,d,hde,by rw [aC hde] at hd;exact hd,rfl⟩⟩) fun r s' hq'=>?_)
  cases r with
  |error e=>exact False.elim hq'
  |ok fl=>
   cases fl with
   |ret u=>
    obtain ⟨v,H',hos,hbare,un,hok,rv,ev,d,hde,hdn,hH⟩:=hq'
    subst ev
    have I3:aP X pins σ H' s':=I2.call' (ch:=[]) hos un hok hbare (fun _ z=>nomatch z)
    have hobj:=(show cJ X.prog X.w H' s'.heap ea (XO C t ea (some d)) from I3.hok ea _ (by rw [hH];exact aB)).1
    refine ⟨rv,ea,_,_,rfl,I3.kIn _ _ lk,hobj,rfl,rfl,rfl,?_⟩
    have hea:H1 ea=none:=I1.hok.none_of hm.new
    have hHd:H' d=some (.xd [("fault",.int n)]):=by rw [hH,aC hde,aB]
    have hHe:H' ea=some (XO C t ea (some d)):=by rw [hH];exact aB
    have oth:∀ b,b≠ea->b≠d->H' b=H1 b:=fun b z1 z2=>by rw [hH,aC z1,aC z2,aC z1]
    have hnew:h1.get? d=none:=by
     cases z:h1.get? d with
     |none=>rfl
     |some ob=>
      have y:=un.free d ob z (by rw [aC hde];exact hdn) (by simp)
      rw [hHd] at y;cases y
    have hnp:hp.get? d=none:=by
     cases z:hp.get? d with
     |none=>rfl
     |some ob=>rw [hm.keeps d ob z] at hnew;cases hnew
    have I4:aP X pins σ H1 s':=I3.untrack I1 (fun b o z=>by rw [oth b (aD z hea) (aD z hdn)];exact z)
     (fun b a z=>by rw [<-oth b (by rintro rfl;rw [hHe] at z;cases z) (by rintro rfl;rw [hHd] at z;cases z)];exact z)
     (fun b a z=>by rw [<-oth b (by rintro rfl;rw [hHe] at z;cases z) (by rintro rfl;rw [hHd] at z;cases z)];exact z)
    obtain ⟨mA,nsd,rel⟩:=(show cJ X.prog X.w H' s'.heap d (.xd [("fault",.int n)]) from I3.hok d _ hHd)
    exact L.new pins σ H1 s' ea n hp I4 B (fun b o z=>un.there b o (hm.keeps b o z) (by simp)) ⟨⟨_,_,d,mA,hobj,rfl,rfl,rfl,rfl,nsd,rel,hdn,hnp,hde⟩,hea,hm.new⟩ hE
   |next=>exact False.elim hq'
   |brk=>exact False.elim hq'
   |cont=>exact False.elim hq'
abbrev Cx.tryIn (X:Cx) (xe:Value->Shared->Prop) (pn:List (Addr×Obj)):Cx:={X with xe:=xe,pn:=pn}
abbrev Cx.inH (X:Cx) (ea:Addr):Cx:={X with A:=X.A.mark (some (.ref ea)),calm:=false,xe:=fun _ _=>False}
section
variable {X:Cx} {pins pins':List (Addr×Obj)} {σ:St} {H:Hp} {s:Shared} {xe:Value->Shared->Prop} {ea:Addr}
theorem Cx.Ok.tryIn (ok:X.Ok) (xe:Value->Shared->Prop) (pn:List (Addr×Obj)):(X.tryIn xe pn).Ok:=
 ⟨ok.mod,ok.kind,ok.glob,ok.blt,ok.above,ok.inj,ok.has,ok.cab,ok.hd,ok.frames,ok.stk,ok.exf,ok.bs,ok.bsz,ok.noex,ok.exfs,ok.funs,ok.frf⟩
theorem Cx.Ok.inH (ok:X.Ok) (ea:Addr):(X.inH ea).Ok:=
 ⟨ok.mod,ok.kind,ok.glob,ok.blt,ok.above,ok.inj,ok.has,ok.cab,(fun z=>nomatch (show false=true from z)),ok.frames,ok.stk,ok.exf,ok.bs,ok.bsz,ok.noex,ok.exfs,ok.funs,ok.frf⟩
theorem aP.tryIn (I:aP X pins σ H s) (xe:Value->Shared->Prop):aP (X.tryIn xe (X.pn++pins)) [] σ H s:=
 ⟨I.ok.tryIn _ _,I.os,I.bare,I.base,I.loc,I.cell,I.free,I.freeC,fun p hp=>I.pin p (by rw [List.append_nil] at hp;exact hp),I.hok,I.len⟩
theorem aP.untry (ok:X.Ok) (I:aP (X.tryIn xe (X.pn++pins)) pins' σ H s):aP X pins σ H s:=
 ⟨ok,I.os,I.bare,I.base,I.loc,I.cell,I.free,I.freeC,fun p hp=>I.pin p (List.mem_append_left _ hp),I.hok,I.len⟩
theorem aP.inH (I:aP X pins σ H s) (ea:Addr):aP (X.inH ea) pins σ H s:=⟨I.ok.inH ea,I.os,I.bare,I.base,I.loc,I.cell,I.free,I.freeC,I.pin,I.hok,I.len⟩
theorem aP.outH (ok:X.Ok) (I:aP (X.inH ea) pins σ H s):aP X pins σ H s:=⟨ok,I.os,I.bare,I.base,I.loc,I.cell,I.free,I.freeC,I.pin,I.hok,I.len⟩
theorem SP.untry {D:fZ} {f:Flow} (ok:X.Ok) (h:SP (X.tryIn xe (X.pn++pins)) pins' D f s):SP X pins D f s:=by
 cases f with
 |next=>obtain ⟨σ',H',I,q⟩:=h;exact ⟨σ',H',I.untry ok,q⟩
 |brk=>obtain ⟨σ',H',I,q⟩:=h;exact ⟨σ',H',I.untry ok,q⟩
 |cont=>obtain ⟨σ',H',I,q⟩:=h;exact ⟨σ',H',I.untry ok,q⟩
 |ret u=>obtain ⟨v,σ',H',I,r,q⟩:=h;exact ⟨v,σ',H',I.untry ok,r,q⟩
theorem SP.outH {D:fZ} {f:Flow} (ok:X.Ok) (h:SP (X.inH ea) pins D f s):SP X pins D f s:=by
 cases f with
 |next=>obtain ⟨σ',H',I,q⟩:=h;exact ⟨σ',H',I.outH ok,q⟩
 |brk=>obtain ⟨σ',H',I,q⟩:=h;exact ⟨σ',H',I.outH ok,q⟩
 |cont=>obtain ⟨σ',H',I,q⟩:=h;exact ⟨σ',H',I.outH ok,q⟩
 |ret u=>obtain ⟨v,σ',H',I,r,q⟩:=h;exact ⟨v,σ',H',I.outH ok,r,q⟩
theorem sD {C:Addr} {Q:Shared->Prop} {E:Value->Shared->Prop} {H':Hp} {s':Shared} {n:Int} (hst:X.stack=X.env::X.outer) (hfr:X.env.frame=some X.env.locals) (I:aP X pins σ H s) (hos:s'.os=s.os) (hb:AllBare s'.gens)
  (un:Un (yL X.stack) [] H H' s.heap s'.heap) (hok:kG X.prog X.w H' s'.heap) (fl:sQ C H' s'.heap s.heap ea n)
  (h:∀ s3,aP X pins σ H' s3->sQ C H' s3.heap s.heap ea n->Q s3):
  wpAny (model X.prog X.w) X.A (noteFrame (.ref ea) X.env) (fun _ s2=>wpAny (model X.prog X.w) X.A (setFlight (.ref ea) none) (fun _ s3=>Q s3) E s2) E s':=by
 have I':=I.call' (ch:=[]) hos un hok hb (fun _ z=>nomatch z)
 have B:=I.below
 obtain ⟨T,x,hTe,hTl,hTn,oT,ts,t1,t2,t3⟩:=fl
 obtain ⟨oe,vs,d,mA,h1,h2,h3,h4,h5,h6,h7,h8,h9,h10⟩:=id x.at_
 have fe:yL X.stack=(X.env::X.outer).filterMap (·.frame):=by rw [hst];rfl
 refine yD (outer:=X.outer) (base:=X.base) (oeT:=0) (by rw [I'.ok.frames,hst]) (by rw [<-hst];exact I'.stack) hfr h1 h4 h5 hTe t1 t2 t3 fun h' T' Nt=>?_
 rw [<-fe] at Nt
 have I2:=I'.noted Nt B x.lo hTl x.he hTn
 have fl2:=Xn.noted (C:=C) I' Nt B (fun b o q=>un.there b o q (by simp)) x (fun o es ep q z=>by rw [t1] at q;cases q;rw [t2] at z;cases z)
 exact h _ I2 fl2
theorem sK {M:Model} {A:Around} {C:Addr} {h0:Heap} {n:Int} {Q:Unit->Shared->Prop} {E:Value->Shared->Prop} (fl:sQ C H s.heap h0 ea n) (h:Q () s):wpAny M A (setFlight (.ref ea) none) Q E s:=by
 obtain ⟨T,x,hTe,hTl,hTn,oT,ts,t1,t2,t3⟩:=fl
 obtain ⟨oe,vs,d,mA,h1,h2,h3,h4,h5,h6,h7,h8,h9,h10⟩:=id x.at_
 refine wpAny_setFlight_none h1 h4 h5 t1 t2 (Array.getElem?_eq_some_iff.mp t3).1 ?_
 rw [Heap.update_setField_same s.heap T oT ts 3 .none t1 t2 t3]
 exact h
end
def aCp (n:Nat) (tb:XK->TS) (ts:TS):TS:=fun D σ H=>tb (fun _ _ H'=>∀ σ':St,σ'.length=n->ts D σ' H') D σ H
theorem Ze {X:Cx} {C fI:Addr} {x:Str} {np hpos pos:Pos} {body:List Stmt} {b0:Stmt} {suite:List Stmt} {tb:XK->TS} {ts:TS} (T:zX X.K C fI) (hst:X.stack=X.env::X.outer) (hfr:X.env.frame=some X.env.locals) (hg:Gl X x) (hm:X.mg x=some (.ref C))
  (hb:∀ xe pn E',iP (iS C X.prog X.w) (X.tryIn xe pn) E'->xJ (X.tryIn xe pn) body (tb E')) (hs:∀ ea,xJ (X.inH ea) (b0::suite) ts) (hdb:(x==("__debug__":Str))=false:=by decide):
  PS X (.Try body [.ExceptHandler (some (.Name x np)) none (b0::suite) hpos] [] [] pos) (aCp X.N.length tb ts):=by
 intro pins s σ H D I h
 have ok:=I.ok
 refine wpAny_Try_except (cT (hb _ (X.pn++pins) _ ?_ [] s σ H D (I.tryIn _) h) fun f s1 q=>?_)
 ·intro pins' σ' H1 s1 e s' I1 ⟨ea,n,H',he,hos,hbare,un,hok,fl,hE⟩
  subst he
  refine sD hst hfr (I1.untry ok) hos hbare un hok fl fun s3 I3 fl3=>?_
  obtain ⟨nm,qn,N,bs,sn,sub,ab,col,dd,k0,k1,k2,k3,k5,lk,nok,ni,nf,ns,ng,nh⟩:=id T.cls
  refine wpAny_handleBy_cons (codeAny_handlers_test (iZ (X:=X.inH ea) (I3.inH ea) hg hm ?_ hdb)) (fun z=>nomatch z)
  obtain ⟨oe,vs,d,mA,h1,h2,h3,h4,h5,h6⟩:=fl3.choose_spec.1.at_
  have hC:=I3.kIn _ _ lk
  obtain ⟨hp,g,dr,tks,os⟩:=s3
  refine wpAny_excMatches_sub_self hC h1 h2 F.excBase_Exception.hasBase ?_
  refine codeAny_handlers_suite (sK fl3 ?_)
  exact wpAny_mono (hs ea pins _ σ' H' D (I3.inH ea) (hE σ' I3.len)) (fun f s4 q=>q.outH ok) fun _ _ z=>False.elim z
 ·have q':=q.untry ok
  cases f with
  |next=>exact wpAny_execs_nil q'
  |brk=>exact q'
  |cont=>exact q'
  |ret u=>exact q'
section
variable {X:Cx} {pins:List (Addr×Obj)} {σ:St} {H:Hp} {s:Shared} {h' h0:Heap} {a:Addr} {o:HO}
theorem aP.track (I:aP X pins σ H s) (B:Es X pins h0) (hn:h0.get? a=none) (hH:H a=none) (ok:cJ X.prog X.w (upd H a o) s.heap a o):aP X pins σ (upd H a o) s:=by
 refine ⟨I.ok,I.os,I.bare,⟨I.base.keep,I.base.slot,fun b ob e n hx=>?_,I.base.there,fun b xs e=>?_,fun b ob xs e=>?_,fun b ps e=>?_⟩,I.loc,I.cell,?_,fun x c e=>?_,fun p hp=>?_,fun b u e=>?_,I.len⟩
 ·rw [aC (eM (B.s0 b ob e hx) hn)]
  exact I.base.free b ob e n hx
 ·have e:=I.base.tups b xs e
  rw [aC (aD e hH)];exact e
 ·have e:=I.base.frzs b ob xs e
  rw [aC (aD e hH)];exact e
 ·obtain ⟨m,e⟩:=I.base.tbls b ps e
  exact ⟨m,by rw [aC (aD e hH)];exact e⟩
 ·rw [aC (eM B.loc hn)];exact I.free
 ·rw [aC (eM (B.cell x c e) hn)];exact I.freeC x c e
 ·obtain ⟨h1,h2,h3⟩:=I.pin p hp
  exact ⟨h1,by rw [aC (eM (B.pin p hp) hn)];exact h2,h3⟩
 ·by_cases hb:b=a
  ·subst hb;rw [aB] at e;cases e;exact ok
  ·rw [aC hb] at e
   exact (I.hok b u e).stay (fun _ _ _ q=>q) (fun c q=>by rw [aC (aD q hH)];exact q) fun c xs q=>by rw [aC (aD q hH)];exact q
theorem aP.forget {m':Str->Option Value} {t':Nat} (I:aP X pins σ H s) (hn:h'.Ns X.env.locals m') (hs:Heap.SameBut X.env.locals s.heap h'):aP X pins (List.replicate X.N.length none) H {s with heap:=h',toks:=t'}:=by
 have old:∀ b ob,X.s_0.heap.get? b=some ob->b≠X.env.locals:=fun b ob e=>Nat.ne_of_lt (Nat.lt_of_lt_of_le (Heap.lt_size e) I.ok.above)
 refine ⟨I.ok,I.os,I.bare,⟨fun b ob e n hb hx=>(hs.2 b (old b ob e)).trans (I.base.keep b ob e n hb hx),fun b ob e n hb hx=>?_,I.base.free,fun b ob e hx=>?_,I.base.tups,I.base.frzs,I.base.tbls⟩,⟨_,hn,fun j y v e1 e2 e3=>?_⟩,fun y c e=>?_,I.free,I.freeC,fun p hp=>?_,fun b ob e=>?_,by simp⟩
 ·obtain ⟨sl,e1⟩:=I.base.slot b ob e n hb hx
  exact ⟨sl,(hs.2 b (old b ob e)).trans e1⟩
 ·obtain ⟨o',e1⟩:=I.base.there b ob e hx
  exact ⟨o',(hs.2 b (old b ob e)).trans e1⟩
 ·rw [List.getElem?_replicate] at e2
  split at e2<;>cases e2
 ·obtain ⟨w',z⟩:=I.cell y c e
  exact ⟨w',z.sameBut hs (I.cne y c e)⟩
 ·obtain ⟨e,n,ne,nf,d⟩:=I.pin p hp
  exact ⟨(hs.2 p.1 ne).trans e,n,ne,nf,d⟩
 ·refine (I.hok b ob e).stay (fun c w' hc q=>(hs.2 c ?_).trans q) (fun _ q=>q) fun _ _ q=>q
  rintro rfl
  rcases hc with rfl|hc
  ·rw [I.free] at e;cases e
  ·rw [I.free] at hc;cases hc
end
def XR (C d e:Addr):HO:=.ext fun h=>∃ oe vs,h.get? e=some oe/\oe.cls=.ref C/\oe.dict=some d/\oe.data=.fields vs
theorem XR.ok {P:Program} {w:World} {H:Hp} {h:Heap} {C d e:Addr} {oe:Obj} {vs:Array Value} (h1:h.get? e=some oe) (h2:oe.cls=.ref C) (h3:oe.dict=some d) (h4:oe.data=.fields vs):cJ P w H h e (XR C d e):=
 ⟨⟨oe,vs,h1,h2,h3,h4⟩,⟨_,h1⟩,fun _ _ ⟨oe,vs,z,r⟩ k=>⟨oe,vs,k _ z,r⟩⟩
def Zs (C:Addr) (ta:TE):TE:=fun σ H Q=>ta σ H fun x H1=>∃ e d n,x=.ref e/\H1 e=some (XR C d e)/\H1 d=some (.xd [("fault",.int n)])/\Q (.int n) H1
theorem Rz {X:Cx} {C fI:Addr} {e:Expr} {pos:Pos} {ta:TE} (T:zX X.K C fI) (he:PE X e ta) (hb:attributeBase e "fault" X.env (eval e X.env)=eval e X.env):PE X (.Attribute e "fault" pos) (Zs C ta):=by
 intro pins s σ H Q I h
 refine Hz hb (cT (he pins s σ H _ I h) fun u s1 ⟨x,H1,I1,rx,ea,d,n,ex,h1,h2,q⟩=>?_)
 subst ex
 obtain rfl:u=Value.ref ea:=rx
 obtain ⟨nm,qn,N,bs,sn,sub,ab,col,dd,k0,k1,k2,k3,k5,lk,nok,ni,nf,ns,ng,nh⟩:=id T.cls
 have hC:=I1.kIn _ _ lk
 have hN:s1.heap.Ns N (s1.heap.nsMap N):=.of_isNs (PySem.W.isNs_of_in I1.kIn nok)
 obtain ⟨⟨oe,vs,g1,g2,g3,g4⟩,_,_⟩:=(show cJ X.prog X.w H1 s1.heap ea (XR C d ea) from I1.hok ea _ h1)
 obtain ⟨mA,nsd,rel⟩:=(show cJ X.prog X.w H1 s1.heap d (.xd [("fault",.int n)]) from I1.hok d _ h2)
 obtain ⟨uf,hf,tk',rfl⟩:=lH.some_of (v:=V.int n) (o:=mA "fault") (rel "fault")
 have I2:=I1.tok (s1.toks+1)
 obtain ⟨hp,g,dr,tks,os⟩:=s1
 exact Ox F.attrBase_Exception hC hN (PySem.W.ns_none_of I1.kIn hN ng) (PySem.W.ns_none_of I1.kIn hN nh) (PySem.W.ns_none_of I1.kIn hN nf) uN g1 g2 (fun c z=>by rw [g4] at z;cases z) g3 nsd hf rfl ⟨.int n,H1,I2,⟨_,rfl⟩,q⟩
def Wh (C:Addr) (i n:Nat) (tb:XK->TS) (ts:TS):TS:=fun D σ H=>tb (fun v _ H'=>∃ f,v=.int f 0/\∀ (σ':St) (e d:Addr),σ'.length=n->H' e=none->H' d=none->d≠e->
 ts {nx:=fun _ _=>False,rt:=D.rt} (σ'.set i (some (.ref e))) (upd (upd H' d (.xd [("fault",.int f)])) e (XR C d e))) D σ H
theorem Qc {X:Cx} {C fI:Addr} {x y:Str} {i:Nat} {np hpos pos:Pos} {body:List Stmt} {b0:Stmt} {suite:List Stmt} {tb:XK->TS} {ts:TS} (T:zX X.K C fI) (hst:X.stack=X.env::X.outer) (hfr:X.env.frame=some X.env.locals) (hg:Gl X x) (hm:X.mg x=some (.ref C))
  (hN:X.N.Nodup) (hi:X.N[i]?=some y) (hy:X.env.kindOf y=some .local)
  (hb:∀ xe pn E',iP (iS C X.prog X.w) (X.tryIn xe pn) E'->xJ (X.tryIn xe pn) body (tb E')) (hs:∀ ea,xJ (X.inH ea) (b0::suite) ts) (hdb:(x==("__debug__":Str))=false:=by decide):
  PS X (.Try body [.ExceptHandler (some (.Name x np)) (some y) (b0::suite) hpos] [] [] pos) (Wh C i X.N.length tb ts):=by
 intro pins s σ H D I h
 have ok:=I.ok
 refine wpAny_Try_except (cT (hb _ (X.pn++pins) _ ?_ [] s σ H D (I.tryIn _) h) fun f s1 q=>?_)
 ·intro pins' σ' H1 s1 e s' I1 ⟨ea,n,H',he,hos,hbare,un,hok,fl,fn,hfn,hE⟩
  subst he
  obtain rfl:n=fn:=by cases hfn;rfl
  have B:=(I1.untry ok).below
  refine sD hst hfr (I1.untry ok) hos hbare un hok fl fun s3 I3 fl3=>?_
  obtain ⟨nm,qn,N,bs,sn,sub,ab,col,dd,k0,k1,k2,k3,k5,lk,nok,ni,nf,ns,ng,nh⟩:=id T.cls
  refine wpAny_handleBy_cons (codeAny_handlers_test (iZ (X:=X.inH ea) (I3.inH ea) hg hm ?_ hdb)) (fun z=>nomatch z)
  have fl4:=fl3
  obtain ⟨TT,xn,_⟩:=fl4
  obtain ⟨oe,vs,d,mA,h1,h2,h3,h4,h5,h6,h7,h8,h9,h10⟩:=id xn.at_
  have hC:=I3.kIn _ _ lk
  have It:aP X pins σ' (upd (upd H' d (.xd [("fault",.int n)])) ea (XR C d ea)) s3:=by
   have J:=I3.track (a:=d) (o:=.xd [("fault",.int n)]) B h9 h8 ?_
   ·exact J.track (a:=ea) (o:=XR C d ea) B xn.lo (by rw [aC (Ne.symm h10)];exact xn.he) (XR.ok h1 h2 h3 h4)
   ·exact ⟨mA,h6,h7⟩
  obtain ⟨hp,g,dr,tks,os⟩:=s3
  refine wpAny_excMatches_sub_self hC h1 h2 F.excBase_Exception.hasBase ?_
  refine codeAny_handlers_suite_as (sK fl3 ?_)
  refine vW (X:=X.inH ea) (v:=.ref ea) (It.inH ea) hN hi (.inl hy) rfl (fun s4 I4=>?_) (.inr hy)
  refine wpAny_mono (hs ea pins _ _ _ _ I4 (hE σ' ea d I3.len xn.he h8 h10)) (fun f s5 q=>?_) fun _ _ z=>False.elim z
  cases f with
  |next=>obtain ⟨_,_,_,z⟩:=q;exact False.elim z
  |brk=>obtain ⟨_,_,_,z⟩:=q;exact False.elim z
  |cont=>obtain ⟨_,_,_,z⟩:=q;exact False.elim z
  |ret u=>
   obtain ⟨v,σ6,H6,I6,r,q⟩:=q
   have I6:=I6.outH ok
   obtain ⟨m,hns,_⟩:=id I6.loc
   refine wpAny_nameGoes hy hns (by rw [ok.kind];rfl) fun h' m' hn' hs'=>?_
   exact ⟨v,_,H6,I6.forget hn' hs',r,q⟩
 ·have q':=q.untry ok
  cases f with
  |next=>exact wpAny_execs_nil q'
  |brk=>exact q'
  |cont=>exact q'
  |ret u=>exact q'
structure gZ (k:Nat) (A:Around):Prop where
 dp:A.depth+3 * k+5<recursionLimit
 un:A.units+16 * k+200<cLine
theorem fW.n {k:Nat} {A:Around} (r:fW k A):gZ k A:=⟨r.dp,r.un⟩
theorem gZ.mark {k:Nat} {A:Around} (r:gZ k A) (h:Option Value):gZ k (A.mark h):=⟨r.dp,r.un⟩
theorem gZ.make {k:Nat} {A:Around} (r:gZ (k+1) A) (C:Addr) (us:List Value) (kw:List (Str×Value)):gZ k (A.under (.builtin "type.__call__" ⟨.ref C::us,kw⟩)):=
 ⟨by have:=r.dp;rw [vM];omega,by have:=r.un;rw [uL];omega⟩
theorem gZ.deeper {k:Nat} {A:Around} (r:gZ (k+1) A) (env:Env):gZ k (A.deeper env):=
 ⟨by have:=r.dp;show A.depth+1+3 * k+5<_;omega,by have:=r.un;show A.units+3+16 * k+200<_;omega⟩
theorem gZ.depth {k:Nat} {A:Around} (r:gZ k A):A.depth<recursionLimit:=by have:=r.dp;omega
structure yU (P:Program) (w:World) (K:PySem.W.Frag) (mg:Str->Option Value) (base:Heap) (CX:Ez) (k:Nat) (f:Addr) (fd:FuncData) (ps:List Str) (sp:Sp):Prop where
 len:∀ vs H Q E,sp vs H Q E->vs.length=ps.length
 run:∀ (A:Around) (outer:List Env) (s:Shared) (H:Hp) (args:Args) (us:List Value) (vs:List V) (Q:VK) (E:XK),gZ k A->Da P w K mg base A outer s H->BindsTo s fd args (ps.zip us)->bN vs us->sp vs H Q E->
  codeAny (model P w) A (.call (.ref f) args) (CR CX outer P w H s Q E) s
abbrev cxN (P:Program) (w:World) (K:PySem.W.Frag) (mg:Str->Option Value) (base:Heap) (N:List Str) (qual:Str) (scope:Scope) (f:Addr) (cd:Value) (A:Around) (outer:List Env) (s:Shared) (H:Hp) (E:XK):Cx:=
 {Bh bV P w K mg base N qual scope f cd A outer s H E with calm:=false}
theorem fK.okN {P:Program} {w:World} {K:PySem.W.Frag} {mg:Str->Option Value} {base:Heap} {x qual:Str} {st:Stmt} {f:Addr} {fd:FuncData} {N ps:List Str} {k:Nat} {sp:Sp} (F:fK K x qual st f fd) (S:aO N ps (aG st))
  (len:∀ vs H Q E,sp vs H Q E->vs.length=ps.length)
  (hbody:∀ (cdv:Value) (A:Around) (outer:List Env) (s:Shared) (H:Hp) (vs:List V) (Q:VK) (E:XK),gZ k (A.deeper (envOfC qual (aG st) s.heap.objs.size f cdv))->sp vs H Q E->
   ∃ t,xJ (cxN P w K mg base N qual (aG st) f cdv A outer s H E).nox (dR st) t/\t {nx:=fun _ H'=>Q .non H',rt:=Q} (lN N vs) H):yU P w K mg base bV (k+1) f fd ps sp:=by
 obtain ⟨oc,od,kV,doc,pm,an,cdv,ct,osl,rfl,lk,hcd⟩:=F.ex
 refine ⟨len,fun A outer s H args us vs Q E hr e0 hb r hsp=>?_⟩
 have hl:=len _ _ _ _ hsp
 have KX:K.In s.heap:=e0.mod.kin.keeps fun b o e=>(e0.bs b o e).1
 have lim:s.heap.NoLimit:=e0.mod.nolimit.keeps fun b o e=>(e0.bs b o e).1
 have hkind:∀ y∈ps.zip us,(aG st).names.lookup y.1=some .local\/((aG st).names.lookup y.1=some .cell/\((cellsFrom (s.heap.objs.size+1) (aG st).names []).lookup y.1).isSome=true):=fun ⟨n,v⟩ hy=>by
  rcases S.par n (List.of_mem_zip hy).1 with q|q
  ·exact .inl q
  ·exact .inr ⟨q,PySem.W.cellsFrom_some _ _ _ (.inl q)⟩
 refine codeAny_call_function hr.depth (KX _ _ lk) rfl S.co S.gen rfl (PySem.W.codeRec_of KX hcd) (hb _ _ _ _ ?_)
 refine wpAny_newFunctionEnv_cells S.kind hkind fun env he s1 x=>?_
 subst he
 refine ⟨lim.keeps x.toInCall.keep,codeAny_func ?_⟩
 obtain ⟨t,ht,hq⟩:=hbody cdv A outer s H vs Q E (hr.deeper _) hsp
 have I0:=zI (CX:=bV) (P:=P) (w:=w) (K:=K) (mg:=mg) (base:=base) (N:=N) (qual:=qual) (f:=f) (cd:=cdv) (A:={A with handled:=none}) (outer:=outer) (H:=H) (E:=E) S rfl ⟨e0.frames,e0.mod,e0.bs,e0.bsz,e0.funs,e0.frf,e0.hok,e0.bare⟩ hl r x
 have ok:=I0.ok
 have I:aP (cxN P w K mg base N qual (aG st) f cdv A outer s H E).nox [] (lN N vs) H s1:=
  ⟨⟨ok.mod,ok.kind,ok.glob,ok.blt,ok.above,ok.inj,ok.has,ok.cab,(fun z=>nomatch (show false=true from z)),ok.frames,ok.stk,ok.exf,ok.bs,ok.bsz,ok.noex,ok.exfs,ok.funs,ok.frf⟩,I0.os,I0.bare,I0.base,I0.loc,I0.cell,I0.free,I0.freeC,I0.pin,I0.hok,I0.len⟩
 refine wpAny_mono (ht [] s1 (lN N vs) H _ I hq) (fun fl s' hs=>?_) fun e s' hs=>False.elim hs
 have fin:∀ {σ':St} {H':Hp} {v:V} {u:Value},aP (cxN P w K mg base N qual (aG st) f cdv A outer s H E).nox [] σ' H' s'->cA v u->Q v H'->CE outer P w H s Q u s':=
  fun {σ' H' v u} J rv q=>⟨v,H',J.os,J.bare,J.base,J.hok,rv,q⟩
 cases fl with
 |ret u=>
  obtain ⟨v,σ',H',J,rv,q⟩:=hs
  exact fin J rv q
 |next=>
  obtain ⟨σ',H',J,q⟩:=hs
  exact fin (v:=V.non) (u:=Value.none) J rfl q
 |brk=>
  obtain ⟨_,_,_,q⟩:=hs
  exact False.elim q
 |cont=>
  obtain ⟨_,_,_,q⟩:=hs
  exact False.elim q
section
variable {X:Cx} {k:Nat} {f C:Addr} {fd:FuncData} {ps:List Str} {sp:Sp} {x:Str} {p pos:Pos} {e:Expr} {es:List Expr} {t:TA}
theorem mJ (M:Mk X.K C f) (F:yU X.prog X.w X.K X.mg X.base bV k f fd ps sp) (hr:gZ (k+1) X.A) (hg:Gl X x) (hm:X.mg x=some (.ref C)) (hb:eZ X.K fd ps [])
  (ha:PA X (e::es) t) (hdb:(x==("__debug__":Str))=false:=by decide) (he:starEach (e::es) X.env=(false,eval e X.env)::starEach es X.env:=by rfl) (hpl:(backTo pos (starEach es X.env)).any (·.1)=false:=by rfl):
  PE X (.Call (.Name x p) (e::es) [] pos) (Jb C sp [] E0 t):=by
 intro pins s σ H Q I h
 refine wpAny_Call_Name_kw (iZ I hg hm ?_ hdb)
 refine PySem.W.callWith_K (h₀:=X.base) I.ok.mod.kin M.kp (cT (ha pos pins s σ H _ I h) fun us s1 ⟨vs,H1,I1,r,q⟩=>⟨I1.kIn,?_⟩) he hpl
 have hq:=q (s1.heap.objs.size+1) s1.heap.objs.size (I1.hok.fresh (Nat.le_succ _)) (I1.hok.fresh (Nat.le_refl _)) (Nat.ne_of_lt (Nat.lt_succ_self _))
 rw [List.append_nil] at hq
 have I2:=aP.made (C:=C) I1
 have r2:bN (V.ref (s1.heap.objs.size+1)::vs) (Value.ref (s1.heap.objs.size+1)::us):=.cons rfl r
 have hl:(Value.ref (s1.heap.objs.size+1)::us++[]).length=ps.length:=by
  have e:=r2.length
  rw [F.len _ _ _ _ hq] at e
  rw [List.append_nil]
  exact e.symm
 have hb2:=hb _ (Value.ref (s1.heap.objs.size+1)::us) I2.kIn hl
 rw [List.append_nil] at hb2
 refine wpAny_call (Cn (f:=f) I1.kIn M.makes M.init (beq_iff_eq.mp M.fn) (codeAny_mono (F.run _ X.stack _ _ ⟨Value.ref (s1.heap.objs.size+1)::us,[]⟩ (Value.ref (s1.heap.objs.size+1)::us) _ _ E0 (hr.make C us [])
  (I2.env0.make C us []) hb2 r2 hq) fun r s' hq'=>?_))
 cases r with
 |error e=>exact False.elim hq'
 |ok fl=>
  cases fl with
  |ret u=>
   obtain ⟨v,H',I3,rv,ev,q3⟩:=I2.after hq'
   subst ev
   exact ⟨rv,⟨V.ref (s1.heap.objs.size+1),H',I3,rfl,q3⟩⟩
  |next=>exact False.elim hq'
  |brk=>exact False.elim hq'
  |cont=>exact False.elim hq'
end
theorem fK.okX {P:Program} {w:World} {K:PySem.W.Frag} {mg:Str->Option Value} {base:Heap} {C:Addr} {x qual:Str} {st:Stmt} {f:Addr} {fd:FuncData} {N ps:List Str} {k:Nat} {sp:Sp} (F:fK K x qual st f fd) (S:aO N ps (aG st))
  (len:∀ vs H Q E,sp vs H Q E->vs.length=ps.length)
  (hbody:∀ (cdv:Value) (A:Around) (outer:List Env) (s:Shared) (H:Hp) (vs:List V) (Q:VK) (E:XK),fW k (A.deeper (envOfC qual (aG st) s.heap.objs.size f cdv))->sp vs H Q E->
   ∃ t,xJ (Bh (iS C P w) P w K mg base N qual (aG st) f cdv A outer s H E) (dR st) t/\t {nx:=fun _ H'=>Q .non H',rt:=Q} (lN N vs) H):bU P w K mg base (iS C P w) (k+1) f fd ps sp:=by
 obtain ⟨oc,od,kV,doc,pm,an,cdv,ct,osl,rfl,lk,hcd⟩:=F.ex
 exact Vs lk hcd S len fun A outer s H vs Q E hr hsp=>hbody cdv A outer s H vs Q E hr hsp
theorem jD {X:Cx} {x:Str} (n:Int) {j:Nat} {p pp pos:Pos} (hm:X.mg "ord"=none) (hg:Gl X "ord":=by rfl) (hl:x.length=1:=by decide+kernel) (hn:((x.cps.getD 0 0:Nat):Int)=n:=by decide+kernel)
  (he:starEach [.Constant (.str x) j pp] X.env=(false,eval (.Constant (.str x) j pp) X.env)::starEach [] X.env:=by rfl):PE X (.Call (.Name "ord" p) [.Constant (.str x) j pp] [] pos) (tC (.int n)):=by
 intro pins s σ H Q I h
 refine bS (r:=fun xs H Q=>∃ x,xs=[.str x]/\x.length=1/\Q (.int (x.cps.getD 0 0:Nat)) H) wE hg hm boot_ord (aA eS aE he) (by decide) (by decide) he rfl pins s σ H Q I ?_
 refine ⟨x,rfl,hl,?_⟩
 rw [hn]
 exact h
end L2
namespace Br1
open PySem PySem.Spec PyProof.Rows L2
section
variable {P:Program} {w:World} {K:PySem.W.Frag} {mg:Str->Option Value} {base:Heap}
def jK (b:Int):Bool:=decide (97<=b) && decide (b<=122)
def iX (b:Int):Bool:=decide (48<=b) && decide (b<=57)
def oS:Sp:=fun vs H Q _=>∃ b:Int,vs=[.int b]/\Q (.bl (jK b)) H
def nN:Sp:=fun vs H Q _=>∃ b:Int,vs=[.int b]/\Q (.bl (iX b)) H
theorem Cq:aO ["byte"] ["byte"] (aG nU):=⟨rfl,rfl,rfl,by decide+kernel,rfl,by decide+kernel,by decide+kernel⟩
theorem Ds {f:Addr} {fd:FuncData} (F:fK K "is_letter" "is_letter" nU f fd) (hord:mg "ord"=none):bU P w K mg base bV 1 f fd ["byte"] oS:=by
 refine F.ok Cq (fun vs H Q E h=>?_) (fun cdv A outer s H vs Q E hr h=>?_)
 ·obtain ⟨b,rfl,_⟩:=h
  rfl
 ·obtain ⟨b,rfl,k⟩:=h
  refine ⟨_,aH (aV (mT qM qM (jD 97 hord) (pv 0) (jD 122 hord))),?_⟩
  refine ⟨_,rfl,_,_,rfl,rfl,_,rfl,cE (fun h1=>⟨_,_,rfl,rfl,?_⟩) (fun h1=>?_)⟩
  ·have e:jK b=decide (b<=122):=by unfold jK;rw [h1,Bool.true_and]
   rw [e] at k
   exact k
  ·have e:jK b=false:=by unfold jK;rw [eq_false_of_ne_true h1,Bool.false_and]
   rw [e] at k
   exact k
theorem Hj:aO ["byte"] ["byte"] (aG qE):=⟨rfl,rfl,rfl,by decide+kernel,rfl,by decide+kernel,by decide+kernel⟩
theorem Fu {f:Addr} {fd:FuncData} (F:fK K "is_digit" "is_digit" qE f fd) (hord:mg "ord"=none):bU P w K mg base bV 1 f fd ["byte"] nN:=by
 refine F.ok Hj (fun vs H Q E h=>?_) (fun cdv A outer s H vs Q E hr h=>?_)
 ·obtain ⟨b,rfl,_⟩:=h
  rfl
 ·obtain ⟨b,rfl,k⟩:=h
  refine ⟨_,aH (aV (mT qM qM (jD 48 hord) (pv 0) (jD 57 hord))),?_⟩
  refine ⟨_,rfl,_,_,rfl,rfl,_,rfl,cE (fun h1=>⟨_,_,rfl,rfl,?_⟩) (fun h1=>?_)⟩
  ·have e:iX b=decide (b<=57):=by unfold iX;rw [h1,Bool.true_and]
   rw [e] at k
   exact k
  ·have e:iX b=false:=by unfold iX;rw [eq_false_of_ne_true h1,Bool.false_and]
   rw [e] at k
   exact k
end
def RdF (a:Addr) (p:Int):List (Str×V):=[("text",.ref a),("position",.int p)]
theorem Bs (a:Addr) (p:Int):(RdF a p).lookup ("text":Str)=some (V.ref a):=rfl
theorem gL (a:Addr) (p:Int):(RdF a p).lookup ("position":Str)=some (V.int p):=rfl
def hU (CR:Addr) (H:Hp) (r a:Addr) (p:Nat):Prop:=∃ dx,H r=some (.ins CR dx (RdF a p))
def SX (r:Addr) (H H':Hp):Prop:=∀ b o,H b=some o->b≠r->H' b=some o
theorem SX.refl (r:Addr) (H:Hp):SX r H H:=fun _ _ e _=>e
theorem SX.trans {r:Addr} {H H1 H2:Hp} (a:SX r H H1) (b:SX r H1 H2):SX r H H2:=fun c o e n=>b c o (a c o e n) n
theorem SX.upd {r:Addr} {H:Hp} (o:HO):SX r H (upd H r o):=fun b u e n=>by rw [aC n];exact e
theorem aL.sx {r:Addr} {H H':Hp} (s:aL H H'):SX r H H':=fun b o e _=>s b o e
theorem SX.seq {K:PySem.W.Frag} {r a:Addr} {H H':Hp} {xs:List V} {C dx:Addr} {fs:List (Str×V)} (s:SX r H H') (hr:H r=some (.ins C dx fs)) (h:dE K H a xs):dE K H' a xs:=by
 rcases h with (h|⟨o,h⟩)|h
 ·exact .inl (.inl (s _ _ h (by rintro rfl;rw [hr] at h;cases h)))
 ·exact .inl (.inr ⟨o,s _ _ h (by rintro rfl;rw [hr] at h;cases h)⟩)
 ·exact .inr h
theorem SX.seqT {K:PySem.W.Frag} {r a:Addr} {H H':Hp} {xs:List V} {C dx:Addr} {fs:List (Str×V)} (s:SX r H H') (hr:H r=some (.ins C dx fs)) (h:cN K H a xs):cN K H' a xs:=by
 rcases h with (h|⟨o,h⟩)|h
 ·exact .inl (.inl (s _ _ h (by rintro rfl;rw [hr] at h;cases h)))
 ·exact .inl (.inr ⟨o,s _ _ h (by rintro rfl;rw [hr] at h;cases h)⟩)
 ·exact .inr h
structure Fc (K:PySem.W.Frag) (CR:Addr):Prop where
 cl:Fb K CR
 nT:dD K CR "text"
 nP:dD K CR "position"
def aR (l:List Int) (p:Nat):Int:=(l[p]?).getD 256
structure jI (K:PySem.W.Frag) (CR:Addr) (H:Hp) (r a:Addr) (l:List Int) (p:Nat):Prop where
 rd:hU CR H r a p
 tx:dE K H a (l.map V.int)
 le:p<=l.length
theorem jI.same {K:PySem.W.Frag} {CR:Addr} {H H':Hp} {r a:Addr} {l:List Int} {p q:Nat} (x:jI K CR H r a l p) (s:SX r H H') (hr:hU CR H' r a q) (hq:q<=l.length):jI K CR H' r a l q:=
 let ⟨_,e⟩:=x.rd
 ⟨hr,s.seq e x.tx,hq⟩
section
variable {P:Program} {w:World} {K:PySem.W.Frag} {mg:Str->Option Value} {base:Heap}
theorem Ls:aO ["self","fault"] ["self","fault"] (aG qN):=⟨rfl,rfl,rfl,by decide+kernel,rfl,by decide+kernel,by decide+kernel⟩
theorem Mm {f C:Addr} {fd:FuncData} (F:fK K "__init__" "Stuck.__init__" qN f fd) (T:zX K C f):bU P w K mg base bV 1 f fd ["self","fault"] (Wx C):=by
 refine F.ok Ls (fun vs H Q E h=>?_) (fun cdv A outer s H vs Q E hr h=>?_)
 ·obtain ⟨e,t,n,rfl,_⟩:=h
  rfl
 ·obtain ⟨e,t,n,rfl,he,k⟩:=h
  refine ⟨_,aH (Sw T (pv 0) (pv 1) rfl),?_⟩
  exact ⟨_,rfl,_,rfl,e,t,n,rfl,rfl,he,k⟩
def aAk (CR:Addr):Sp:=fun vs H Q _=>∃ r dx a:Addr,vs=[.ref r,.ref a]/\H r=some (.ins CR dx [])/\∀ H':Hp,hU CR H' r a 0->SX r H H'->Q .non H'
theorem Yd:aO ["self","text"] ["self","text"] (aG Td):=⟨rfl,rfl,rfl,by decide+kernel,rfl,by decide+kernel,by decide+kernel⟩
theorem Xu {f CR:Addr} {fd:FuncData} (F:fK K "__init__" "Reader.__init__" Td f fd) (T:Fc K CR):bU P w K mg base bV 1 f fd ["self","text"] (aAk CR):=by
 refine F.ok Yd (fun vs H Q E h=>?_) (fun cdv A outer s H vs Q E hr h=>?_)
 ·obtain ⟨r,dx,a,rfl,_⟩:=h
  rfl
 ·obtain ⟨r,dx,a,rfl,hp,k⟩:=h
  refine ⟨_,aF (dW (pv 0) (pv 1) rfl) (aH (dW (pv 0) aK rfl)),?_⟩
  refine ⟨_,rfl,_,rfl,r,CR,dx,[],rfl,hp,T.cl,T.nT,(by show 0<1000;decide),?_⟩
  refine ⟨_,rfl,r,CR,dx,_,rfl,aB,T.cl,T.nP,(by show 1<1000;decide),?_⟩
  exact k _ ⟨dx,aB⟩ fun b o e hb=>by rw [aC hb,aC hb];exact e
def nL (K:PySem.W.Frag) (CR:Addr):Sp:=fun vs H Q _=>∃ (r a:Addr) (l:List Int) (p:Nat),vs=[.ref r]/\jI K CR H r a l p/\Q (.bl (decide (p=l.length))) H
theorem Qe:aO ["self"] ["self"] (aG Ba):=⟨rfl,rfl,rfl,by decide+kernel,rfl,by decide+kernel,by decide+kernel⟩
theorem Qg {f CR:Addr} {fd:FuncData} (F:fK K "ended" "Reader.ended" Ba f fd) (T:Fc K CR) (hlen:mg "len"=none):bU P w K mg base bV 1 f fd ["self"] (nL K CR):=by
 refine F.ok Qe (fun vs H Q E h=>?_) (fun cdv A outer s H vs Q E hr h=>?_)
 ·obtain ⟨r,a,l,p,rfl,_⟩:=h
  rfl
 ·obtain ⟨r,a,l,p,rfl,⟨⟨dx,h1⟩,tx,le⟩,k⟩:=h
  refine ⟨_,aH (aV (kT qG (aT (pv 0) rfl) (bS bW (by rfl) hlen PySem.boot_len (aA (aT (pv 0) rfl) aE)) (gU _))),?_⟩
  refine ⟨_,rfl,r,CR,dx,_,_,rfl,h1,T.cl,T.nP,gL _ _,_,rfl,r,CR,dx,_,_,rfl,h1,T.cl,T.nT,Bs _ _,a,_,rfl,.inl tx,rfl,?_⟩
  have e:decide (V.int (p:Int)=V.int ((l.map V.int).length:Int))=decide (p=l.length):=by
   rw [List.length_map,tO,Bool.eq_iff_iff,beq_iff_eq,decide_eq_true_iff]
   (clear le;omega)
  show Q (.bl (decide (V.int (p:Int)=V.int ((l.map V.int).length:Int)))) H
  rw [e]
  exact k
structure nZ (P:Program) (w:World) (K:PySem.W.Frag) (mg:Str->Option Value) (base:Heap) (CR:Addr) (m:Str) (CX:Ez) (k:Nat) (ps:List Str) (sp:Sp):Prop where
 ex:∃ f fd,Tg K CR m f/\bU P w K mg base CX k f fd ps sp/\eZ K fd ps []
def pA (K:PySem.W.Frag) (CR:Addr):Sp:=fun vs H Q _=>∃ (r a:Addr) (l:List Int) (p:Nat),vs=[.ref r]/\jI K CR H r a l p/\Q (.int (aR l p)) H
theorem Tj:aO ["self"] ["self"] (aG Ij):=⟨rfl,rfl,rfl,by decide+kernel,rfl,by decide+kernel,by decide+kernel⟩
theorem Tl {f CR:Addr} {fd:FuncData} {tk:Tok} (F:fK K "here" "Reader.here" Ij f fd) (T:Fc K CR) (hno:mg "NO_BYTE"=some (.int 256 tk)) (M:nZ P w K mg base CR "ended" bV 1 ["self"] (nL K CR)):bU P w K mg base bV 2 f fd ["self"] (pA K CR):=by
 obtain ⟨fe,fde,me,Ge,be⟩:=M.ex
 refine F.ok Tj (fun vs H Q E h=>?_) (fun cdv A outer s H vs Q E hr h=>?_)
 ·obtain ⟨r,a,l,p,rfl,_⟩:=h
  rfl
 ·obtain ⟨r,a,l,p,rfl,x,k⟩:=h
  obtain ⟨⟨dx,h1⟩,tx,le⟩:=id x
  refine ⟨_,aF (eK (eE (cB (pv 0) T.cl me Ge hr be .nil aX)) (aH (aV (Ao (v:=.int 256) (by rfl) hno ⟨tk,rfl⟩))) cF) (aH (aV (bY kK (aT (pv 0) rfl) (aT (pv 0) rfl) (fun _ _=>rfl)))),?_⟩
  refine ⟨_,rfl,r,dx,_,rfl,h1,rfl,r,a,l,p,rfl,x,_,rfl,cE (fun hc=>?_) (fun hc=>?_)⟩
  ·have e:p=l.length:=of_decide_eq_true hc
   have e2:aR l p=256:=by unfold aR;rw [List.getElem?_eq_none (Nat.le_of_eq e.symm)];rfl
   rw [e2] at k
   exact k
  ·have e:p<l.length:=Nat.lt_of_le_of_ne le fun z=>hc (decide_eq_true z)
   refine ⟨_,rfl,r,CR,dx,_,_,rfl,h1,T.cl,T.nT,Bs _ _,_,rfl,r,CR,dx,_,_,rfl,h1,T.cl,T.nP,gL _ _,a,_,_,_,rfl,rfl,tx,kJ (j:=p) (v:=V.int (aR l p)) ?_,k⟩
   unfold aR
   rw [List.getElem?_map,List.getElem?_eq_getElem e]
   rfl
def oR (K:PySem.W.Frag) (CR:Addr):Sp:=fun vs H Q _=>∃ (r a:Addr) (l:List Int) (p:Nat),vs=[.ref r]/\jI K CR H r a l p/\∀ H':Hp,hU CR H' r a (p+1)->SX r H H'->Q (.int (aR l p)) H'
theorem Ja:aO ["self","byte"] ["self"] (aG Jj):=⟨rfl,rfl,rfl,by decide+kernel,rfl,by decide+kernel,by decide+kernel⟩
theorem Sr {f CR:Addr} {fd:FuncData} (F:fK K "take" "Reader.take" Jj f fd) (T:Fc K CR) (M:nZ P w K mg base CR "here" bV 2 ["self"] (pA K CR)):bU P w K mg base bV 3 f fd ["self"] (oR K CR):=by
 obtain ⟨fe,fde,me,Ge,be⟩:=M.ex
 refine F.ok Ja (fun vs H Q E h=>?_) (fun cdv A outer s H vs Q E hr h=>?_)
 ·obtain ⟨r,a,l,p,rfl,_⟩:=h
  rfl
 ·obtain ⟨r,a,l,p,rfl,x,k⟩:=h
  obtain ⟨⟨dx,h1⟩,tx,le⟩:=id x
  refine ⟨_,aF (bI (i:=1) Ja.nd rfl (Or.inl rfl) (cB (pv 0) T.cl me Ge hr be .nil aX)) (aF (Ku (pv 0) aK Ym) (aH (aV (pv 1)))),?_⟩
  refine ⟨_,rfl,r,dx,_,rfl,h1,rfl,r,a,l,p,rfl,x,?_⟩
  refine ⟨_,rfl,r,CR,dx,_,_,rfl,h1,T.cl,T.nP,gL _ _,_,_,rfl,rfl,dx,_,h1,(by show 2<1000;decide),?_⟩
  refine ⟨_,rfl,k _ ⟨dx,?_⟩ (SX.upd _)⟩
  rw [aB]
  rfl
end
structure Ww (P:Program) (w:World) (K:PySem.W.Frag) (mg:Str->Option Value) (base:Heap) (C:Addr):Prop where
 ex:∃ f fd,zX K C f/\bU P w K mg base bV 1 f fd ["self","fault"] (Wx C)/\eZ K fd ["self","fault"] []
 mg:mg "Stuck"=some (.ref C)
theorem gA {l:List Int} {p:Nat} (h:aR l p≠256):p<l.length:=by
 by_cases z:p<l.length
 ·exact z
 ·refine absurd ?_ h
  unfold aR
  rw [List.getElem?_eq_none (Nat.le_of_not_lt z)]
  rfl
theorem iM (x:Int):∀ l:List Int,Qa (.int x) (l.map V.int)=decide (x∈l)
 |[]=>by simp [Qa]
 |y::r=>by
  have ih:=iM x r
  unfold Qa at ih ⊢
  rw [List.map_cons,List.any_cons,ih,Bool.eq_iff_iff]
  show ((y==x)||decide (x∈r))=true↔_
  rw [Bool.or_eq_true,beq_iff_eq,decide_eq_true_iff,decide_eq_true_iff,List.mem_cons]
  constructor
  ·rintro (h|h)
   ·exact .inl h.symm
   ·exact .inr h
  ·rintro (h|h)
   ·exact .inl h.symm
   ·exact .inr h
theorem yV:∀ l:List Int,(l.map V.int).all oM=true
 |[]=>rfl
 |_::r=>by rw [List.map_cons,List.all_cons,yV r];rfl
section
variable {P:Program} {w:World} {K:PySem.W.Frag} {mg:Str->Option Value} {base:Heap} {C CR:Addr}
def pM (K:PySem.W.Frag) (CR:Addr):Sp:=fun vs H Q E=>∃ (r a g:Addr) (l sl:List Int) (p:Nat),vs=[.ref r,.ref g]/\jI K CR H r a l p/\cN K H g (sl.map V.int)/\256∉sl/\
 (aR l p∈sl->∀ H':Hp,hU CR H' r a (p+1)->SX r H H'->Q (.int (aR l p)) H')/\(aR l p∉sl->E (.int p 0) none H)
theorem Ov:aO ["self","signs"] ["self","signs"] (aG Ae):=⟨rfl,rfl,rfl,by decide+kernel,rfl,by decide+kernel,by decide+kernel⟩
theorem Nn {f:Addr} {fd:FuncData} (F:fK K "read_one_of" "Reader.read_one_of" Ae f fd) (T:Fc K CR) (S:Ww P w K mg base C) (M1:nZ P w K mg base CR "here" bV 2 ["self"] (pA K CR)) (M2:nZ P w K mg base CR "take" bV 3 ["self"] (oR K CR)):
  bU P w K mg base (iS C P w) 4 f fd ["self","signs"] (pM K CR):=by
 obtain ⟨f1,fd1,m1,G1,b1⟩:=M1.ex
 obtain ⟨f2,fd2,m2,G2,b2⟩:=M2.ex
 obtain ⟨fx,fdx,XT,GX,bx⟩:=S.ex
 refine F.okX Ov (fun vs H Q E h=>?_) (fun cdv A outer s H vs Q E hr h=>?_)
 ·obtain ⟨r,a,g,l,sl,p,rfl,_⟩:=h
  rfl
 ·obtain ⟨r,a,g,l,sl,p,rfl,x,hg,h256,k1,k2⟩:=h
  obtain ⟨⟨dx,h1⟩,tx,le⟩:=id x
  have hr2:=hr.mono (j:=2) (by decide)
  refine ⟨_,aF (eK (iB kW (cB (pv 0) T.cl m1 G1 hr2 b1 .nil aX) (pv 1) (by with_unfolding_all rfl)) (aH (mM aN rfl XT GX hr2 (by rfl) S.mg bx (aT (pv 0) rfl))) cF)
   (aH (aV (cB (pv 0) T.cl m2 G2 hr b2 .nil aX))),?_⟩
  refine ⟨_,rfl,r,dx,_,rfl,h1,rfl,r,a,l,p,rfl,x,_,rfl,g,_,rfl,.inr hg,rfl,yV sl,_,rfl,cE (fun hc=>?_) (fun hc=>?_)⟩
  ·have hc:(!Qa (.int (aR l p)) (sl.map V.int))=true:=hc
   rw [iM,Bool.not_eq_true',decide_eq_false_iff_not] at hc
   exact ⟨_,rfl,r,CR,dx,_,_,rfl,h1,T.cl,T.nP,gL _ _,_,rfl,k2 hc⟩
  ·have hc:¬(!Qa (.int (aR l p)) (sl.map V.int))=true:=hc
   rw [iM,Bool.not_eq_true',decide_eq_false_iff_not,Classical.not_not] at hc
   exact ⟨_,rfl,r,dx,_,rfl,h1,rfl,r,a,l,p,rfl,x,k1 hc⟩
end
end Br1
namespace L2
open PySem PySem.Spec PyProof.Rows
theorem Tp {x:Str} {g:TG} {tb:TS} {D:fZ} {σ:St} {H:Hp} (Pv:Nat->St->Hp->Prop) (h0:Pv 0 σ H)
  (hs:∀ i c σ H,x.cps[i]?=some c->Pv i σ H->g (.str ⟨#[c]⟩) σ H fun σ2 H2=>tb {D with nx:=Pv (i+1),ct:=Pv (i+1),bk:=D.nx} σ2 H2) (hd:∀ σ H,Pv x.cps.size σ H->D.nx σ H):
  ∃ W:Nat->Nat->St->Hp->Prop,(∃ m,W 0 m σ H)/\∀ i m σ H,W i m σ H->
   ((Wf x).stop i H/\D.nx σ H)\/((Wf x).go i H/\∃ N:St->Hp->Prop,(∀ σ' H',N σ' H'->∃ m',m'<m/\W (i+1) m' σ' H')/\∀ v H',(Wf x).yld i H v H'->g v σ H' fun σ2 H2=>tb {D with nx:=N,ct:=N,bk:=D.nx} σ2 H2):=by
 refine ⟨fun i m σ H=>m=x.cps.size - i/\i<=x.cps.size/\Pv i σ H,⟨x.cps.size,by simp,Nat.zero_le _,h0⟩,?_⟩
 rintro i m σ H ⟨rfl,hi,p⟩
 by_cases hlt:i<x.cps.size
 ·refine .inr ⟨hlt,Pv (i+1),fun σ' H' p'=>⟨x.cps.size - (i+1),by (clear hi;omega),rfl,hlt,p'⟩,fun v H' y=>?_⟩
  obtain ⟨e,c,hc,rfl⟩:=y
  subst e
  exact hs i c σ _ hc p
 ·have e:i=x.cps.size:=by omega
  subst e
  exact .inl ⟨Nat.le_refl _,hd σ H p⟩
end L2
namespace Br1
open PySem PySem.Spec PyProof.Rows L2
def aU (l:List Int):Nat->List Nat->Except Nat Nat
 |p,[]=>.ok p
 |p,c::r=>if aR l p=c then aU l (p+1) r else .error p
def gM (b:Int):Bool:=jK b||iX b
def bH (l:List Int):Nat->Nat->List Int
 |_,0=>[]
 |p,n+1=>if gM (aR l p)=true then aR l p::bH l (p+1) n else []
def dC (l:List Int) (hi:Int):Nat->Nat->Int->Int×Nat
 |0,p,v=>(v,p)
 |n+1,p,v=>if 0<v/\iX (aR l p)=true/\v * 10+aR l p - 48<=hi then dC l hi n (p+1) (v * 10+aR l p - 48) else (v,p)
def jG (l:List Int) (p:Nat) (lo hi:Int):Prop:=iX (aR l p)=true/\lo<=aR l p - 48/\aR l p - 48<=hi
def eF (l:List Int) (p:Nat) (hi:Int):Int×Nat:=dC l hi (l.length - (p+1)) (p+1) (aR l p - 48)
theorem Ru {l:List Int} {p:Nat} (h:gM (aR l p)=true):p<l.length:=gA fun z=>by rw [z] at h;revert h;decide
theorem Qn {l:List Int} {p:Nat} (h:iX (aR l p)=true):p<l.length:=gA fun z=>by rw [z] at h;revert h;decide
theorem iG {b:Int} (h:iX b=true):48<=b/\b<=57:=by
 unfold iX at h
 rw [Bool.and_eq_true,decide_eq_true_iff,decide_eq_true_iff] at h
 exact h
section
variable {P:Program} {w:World} {K:PySem.W.Frag} {mg:Str->Option Value} {base:Heap} {C CR:Addr}
def lI (K:PySem.W.Frag) (CR:Addr):Sp:=fun vs H Q E=>∃ (r a:Addr) (l:List Int) (p:Nat) (x:Str),vs=[.ref r,.str x]/\jI K CR H r a l p/\(∀ c∈x.cps.toList,c<256)/\
 match aU l p x.cps.toList with
 |.ok p'=>∀ H':Hp,hU CR H' r a p'->p'<=l.length->SX r H H'->Q .non H'
 |.error i=>∀ H':Hp,SX r H H'->E (.int i 0) none H'
theorem Jn:aO ["self","word","sign"] ["self","word"] (aG Ka):=⟨rfl,rfl,rfl,by decide+kernel,rfl,by decide+kernel,by decide+kernel⟩
theorem Tf {f:Addr} {fd:FuncData} (F:fK K "read_word" "Reader.read_word" Ka f fd) (T:Fc K CR) (hord:mg "ord"=none) (M1:nZ P w K mg base CR "read_one_of" (iS C P w) 4 ["self","signs"] (pM K CR)):
  bU P w K mg base (iS C P w) 5 f fd ["self","word"] (lI K CR):=by
 obtain ⟨f1,fd1,m1,G1,b1⟩:=M1.ex
 refine F.okX Jn (fun vs H Q E h=>?_) (fun cdv A outer s H vs Q E hr h=>?_)
 ·obtain ⟨r,a,l,p,x,rfl,_⟩:=h
  rfl
 ·obtain ⟨r,a,l,p,x,rfl,tx,hx,k⟩:=h
  refine ⟨_,aH (eU aN.own rfl (Of (pv 1)) (bJ (i:=2) Jn.nd rfl (Or.inl rfl))
   (aH (cD (cX (pv 0) T.cl m1 G1 hr b1 .nil aN.pass (aA (eN (aA (bS wE (by rfl) hord boot_ord (aA (pv 2) aE)) aE)) aE))))),?_⟩
  refine ⟨_,rfl,x,rfl,Tp (fun i σ H'=>∃ v2:Option V,σ=[some (.ref r),some (.str x),v2]/\SX r H H'/\jI K CR H' r a l (p+i)/\aU l p x.cps.toList=aU l (p+i) (x.cps.toList.drop i))
   ⟨none,rfl,SX.refl r H,tx,rfl⟩ ?_ ?_⟩
  ·rintro i c σ H1 hc ⟨v2,rfl,s1,x1,e1⟩
   have hcl:x.cps.toList[i]?=some c:=by rw [Array.getElem?_toList];exact hc
   have hdr:x.cps.toList.drop i=c::x.cps.toList.drop (i+1):=by
    obtain ⟨hlt,e⟩:=List.getElem?_eq_some_iff.mp hcl
    rw [<-e]
    exact List.drop_eq_getElem_cons hlt
   rw [hdr] at e1
   have c256:c<256:=hx c (List.mem_of_getElem? hcl)
   obtain ⟨⟨dx,h1⟩,_,_⟩:=id x1
   refine ⟨_,rfl,r,dx,_,rfl,h1,rfl,⟨_,rfl,⟨#[c]⟩,rfl,rfl,(by show 1<=sizeLine;decide),fun g hg=>?_⟩⟩
   have sg:aL H1 (upd H1 g (.tup [.int c])):=fun b o e=>by rw [aC (aD e hg)];exact e
   have x2:jI K CR (upd H1 g (.tup [.int c])) r a l (p+i):=x1.same (aL.sx sg) ⟨dx,sg _ _ h1⟩ x1.le
   refine ⟨r,a,g,l,[(c:Int)],p+i,rfl,x2,.inl (.inl aB),by simp;omega,fun hin H2 hr2 s2=>?_,fun hin=>?_⟩
   ·have hin:aR l (p+i)=c:=by simpa using hin
    have lt:p+i<l.length:=gA (by rw [hin];(clear hin;omega))
    refine ⟨_,rfl,(s1.trans (aL.sx sg)).trans s2,x2.same s2 hr2 lt,?_⟩
    rw [e1]
    show (if aR l (p+i)=c then _ else _)=_
    rw [if_pos hin]
    rfl
   ·have hin:¬aR l (p+i)=c:=by simpa using hin
    have e2:aU l p x.cps.toList=.error (p+i):=by
     rw [e1]
     show (if aR l (p+i)=c then _ else _)=_
     rw [if_neg hin]
    rw [e2] at k
    exact k _ (s1.trans (aL.sx sg))
  ·rintro σ H1 ⟨v2,rfl,s1,x1,e1⟩
   have e2:aU l p x.cps.toList=.ok (p+x.cps.size):=by
    rw [e1,List.drop_eq_nil_of_le (by simp)]
    rfl
   rw [e2] at k
   exact k H1 x1.rd x1.le s1
def yK (K:PySem.W.Frag) (CR:Addr):Sp:=fun vs H Q E=>∃ (r a:Addr) (l:List Int) (p:Nat),vs=[.ref r]/\jI K CR H r a l p/\(p=l.length->Q .non H)/\(p≠l.length->E (.int p 0) none H)
theorem Xy:aO ["self"] ["self"] (aG Ul):=⟨rfl,rfl,rfl,by decide+kernel,rfl,by decide+kernel,by decide+kernel⟩
theorem Xr {f:Addr} {fd:FuncData} (F:fK K "read_end" "Reader.read_end" Ul f fd) (T:Fc K CR) (S:Ww P w K mg base C) (M1:nZ P w K mg base CR "ended" bV 1 ["self"] (nL K CR)):
  bU P w K mg base (iS C P w) 3 f fd ["self"] (yK K CR):=by
 obtain ⟨f1,fd1,m1,G1,b1⟩:=M1.ex
 obtain ⟨fx,fdx,XT,GX,bx⟩:=S.ex
 refine F.okX Xy (fun vs H Q E h=>?_) (fun cdv A outer s H vs Q E hr h=>?_)
 ·obtain ⟨r,a,l,p,rfl,_⟩:=h
  rfl
 ·obtain ⟨r,a,l,p,rfl,x,k1,k2⟩:=h
  obtain ⟨⟨dx,h1⟩,tx,le⟩:=id x
  refine ⟨_,aH (eK (kU (eE (cB (pv 0) T.cl m1 G1 (hr.mono (by decide)) b1 .nil aX))) (aH (mM aN rfl XT GX hr (by rfl) S.mg bx (aT (pv 0) rfl))) cF),?_⟩
  refine ⟨_,rfl,r,dx,_,rfl,h1,rfl,r,a,l,p,rfl,x,_,rfl,cE (fun hc=>?_) (fun hc=>?_)⟩
  ·rw [Bool.not_eq_true',decide_eq_false_iff_not] at hc
   exact ⟨_,rfl,r,CR,dx,_,_,rfl,h1,T.cl,T.nP,gL _ _,_,rfl,k2 hc⟩
  ·rw [Bool.not_eq_true',decide_eq_false_iff_not,Classical.not_not] at hc
   exact k1 hc
end
theorem bE:20000<sizeLine:=by rw [sizeLine_eq];decide
theorem dB {b:Bool} (h:¬b=true):b=false:=by cases b<;>simp_all
section
variable {P:Program} {w:World} {K:PySem.W.Frag} {mg:Str->Option Value} {base:Heap} {C CR:Addr}
structure dO (P:Program) (w:World) (K:PySem.W.Frag) (mg:Str->Option Value) (base:Heap) (x:Str) (CX:Ez) (k:Nat) (ps:List Str) (sp:Sp):Prop where
 ex:∃ f fd,bU P w K mg base CX k f fd ps sp/\eZ K fd ps []/\PySem.W.keepIn K (.ref f)=true/\mg x=some (.ref f)
theorem Ax {l:List Int} {p i n:Nat} {xs:List Int} (e:bH l p (i+(n+1))=xs++bH l (p+i) (n+1)) (h:gM (aR l (p+i))=true):bH l p (i+(n+1))=(xs++[aR l (p+i)])++bH l (p+(i+1)) n:=by
 rw [e,List.append_assoc]
 congr 1
 show (if gM (aR l (p+i))=true then _ else _)=_
 rw [if_pos h]
 rfl
def Ig (CR:Addr) (H:Hp) (r a q:Addr) (l:List Int) (p L:Nat) (m:Nat) (σ:List (Option V)) (H':Hp):Prop:=
 ∃ i,m+i=L/\∃ xs:List Int,σ=[some (.ref r),some (.int L),some (.ref q)]/\xs.length=i/\SX r H H'/\hU CR H' r a (p+i)/\p+i<=l.length/\H' q=some (.lst (xs.map V.int))/\bH l p L=xs++bH l (p+i) m
theorem xY {H H1:Hp} {r a q:Addr} {l:List Int} {p i n:Nat} {xs:List Int} {D:fZ} (x:jI K CR H r a l p) (hq:H q=none) (nrq:r≠q) (hxl:xs.length=i) (hL:i+(n+1)<=1000) (s1:SX r H H1) (hr1:hU CR H1 r a (p+i)) (le1:p+i<=l.length)
  (hq1:H1 q=some (.lst (xs.map V.int))) (e1:bH l p (i+(n+1))=xs++bH l (p+i) (n+1)) (ha:gM (aR l (p+i))=true) (hD:∀ σ H',Ig CR H r a q l p (i+(n+1)) n σ H'->D.nx σ H'):
  zA (tBM K "list" Kf (dI 2) (dL (lZ CR "take" (oR K CR) [] E0 (dI 0) gR) gR)) D [some (.ref r),some (.int ((i+(n+1):Nat):Int)),some (.ref q)] H1:=by
 have lt:=Ru ha
 obtain ⟨dx1,g1⟩:=id hr1
 refine ⟨_,rfl,.inl ⟨rfl,_,dE.of hq1⟩,_,rfl,r,dx1,_,rfl,g1,rfl,r,a,l,p+i,rfl,x.same s1 hr1 le1,fun H2 hr2 s2=>?_⟩
 have hq2:H2 q=some (.lst (xs.map V.int)):=s2 _ _ hq1 (Ne.symm nrq)
 refine ⟨q,_,_,rfl,rfl,hq2,?_,?_⟩
 ·rw [List.length_map]
  have:=bE
  (clear lt le1;omega)
 ·obtain ⟨dx2,g2⟩:=hr2
  have s3:SX r H (upd H2 q (.lst (xs.map V.int++[V.int (aR l (p+i))]))):=fun b o e hb=>by
   rw [aC (aD e hq)]
   exact s2 b o (s1 b o e hb) hb
  refine hD _ _ ⟨i+1,by (clear lt le1 hL hxl;omega),xs++[aR l (p+i)],rfl,by simp [hxl],s3,⟨dx2,by rw [aC nrq];exact g2⟩,lt,?_,Ax e1 ha⟩
  rw [aB,List.map_append]
  rfl
def oU (K:PySem.W.Frag) (CR:Addr):Sp:=fun vs H Q E=>∃ (r a:Addr) (l:List Int) (p L:Nat),vs=[.ref r,.int L]/\jI K CR H r a l p/\L<=1000/\
 (jK (aR l p)=true->∀ (H':Hp) (q:Addr),hU CR H' r a (p+(bH l p L).length)->p+(bH l p L).length<=l.length->SX r H H'->H' q=some (.tup ((bH l p L).map V.int))->Q (.ref q) H')/\
 (jK (aR l p)=false->E (.int p 0) none H)
theorem Jw:aO ["self","longest","name"] ["self","longest"] (aG Ht):=⟨rfl,rfl,rfl,by decide+kernel,rfl,by decide+kernel,by decide+kernel⟩
theorem Vh {f:Addr} {fd:FuncData} (F:fK K "read_name" "Reader.read_name" Ht f fd) (T:Fc K CR) (S:Ww P w K mg base C) (hlen:mg "len"=none) (htup:mg "tuple"=none)
  (M1:nZ P w K mg base CR "here" bV 2 ["self"] (pA K CR)) (M2:nZ P w K mg base CR "take" bV 3 ["self"] (oR K CR)) (L1:dO P w K mg base "is_letter" bV 1 ["byte"] oS) (L2:dO P w K mg base "is_digit" bV 1 ["byte"] nN):
  bU P w K mg base (iS C P w) 4 f fd ["self","longest"] (oU K CR):=by
 obtain ⟨f1,fd1,m1,G1,b1⟩:=M1.ex
 obtain ⟨f2,fd2,m2,G2,b2⟩:=M2.ex
 obtain ⟨g1,gd1,GL,bL,kL,hL⟩:=L1.ex
 obtain ⟨g2,gd2,GD,bD,kD,hD⟩:=L2.ex
 obtain ⟨fx,fdx,XT,GX,bx⟩:=S.ex
 refine F.okX Jw (fun vs H Q E h=>?_) (fun cdv A outer s H vs Q E hr h=>?_)
 ·obtain ⟨r,a,l,p,L,rfl,_⟩:=h
  rfl
 ·obtain ⟨r,a,l,p,L,rfl,x,hL1000,k1,k2⟩:=h
  obtain ⟨⟨dx,h1⟩,tx,le⟩:=id x
  have hr2:=hr.mono (j:=2) (by decide)
  have hr1:=hr.mono (j:=1) (by decide)
  refine ⟨_,aF (eK (kU (eE (aQ GL hr1 (by rfl) hL kL bL .nil aX (aA (cB (pv 0) T.cl m1 G1 hr2 b1 .nil aX) aE)))) (aH (mM aN rfl XT GX hr2 (by rfl) S.mg bx (aT (pv 0) rfl))) cF)
   (aF (bI (i:=2) Jw.nd rfl (Or.inl rfl) (eG aE))
   (aF (jW aN.own (gX (eB (Is (bS bW (by rfl) hlen PySem.boot_len (aA (pv 2) aE)) (pv 1)))
     (hZ (Iy (eE (aQ GL hr1 (by rfl) hL kL bL .nil aX (aA (cB (pv 0) T.cl m1 G1 hr2 b1 .nil aX) aE))) (zM (eE (aQ GD hr1 (by rfl) hD kD bD .nil aX (aA (cB (pv 0) T.cl m1 G1 hr2 b1 .nil aX) aE))))).pt)).pt
    (aH (cD (mD PySem.F.plainAttrs_list PySem.F.slot_list_append PySem.F.type_list_append gG (pv 2) (aA (cB (pv 0) T.cl m2 G2 hr b2 .nil aX) aE)))))
   (aH (aV (jU oK (by rfl) htup boot_tuple (aA (pv 2) aE)))))),?_⟩
  refine ⟨_,rfl,r,dx,_,rfl,h1,rfl,r,a,l,p,rfl,x,_,rfl,_,rfl,cE (fun hc=>?_) (fun hc=>?_)⟩
  ·rw [Bool.not_eq_true'] at hc
   exact ⟨_,rfl,r,CR,dx,_,_,rfl,h1,T.cl,T.nP,gL _ _,_,rfl,k2 hc⟩
  ·rw [Bool.not_eq_true',Bool.not_eq_false] at hc
   refine ⟨Nat.zero_le _,fun q hq=>?_⟩
   have sq:aL H (upd H q (.lst [])):=fun b o e=>by rw [aC (aD e hq)];exact e
   have nrq:r≠q:=aD h1 hq
   refine ⟨Ig CR H r a q l p L,⟨L,0,rfl,[],rfl,rfl,aL.sx sq,⟨dx,sq _ _ h1⟩,le,aB,rfl⟩,?_⟩
   rintro m σ H1 ⟨i,hmi,xs,rfl,hxl,s1,hr1,le1,hq1,e1⟩
   have x1:=x.same s1 hr1 le1
   obtain ⟨dx1,g1⟩:=id hr1
   have fin:bH l p L=xs->∀ t,H1 t=none->Q (.ref t) (upd H1 t (.tup (xs.map V.int))):=by
    intro e2 t ht
    have st:aL H1 (upd H1 t (.tup (xs.map V.int))):=fun b o e=>by rw [aC (aD e ht)];exact e
    refine k1 hc _ t ⟨dx1,?_⟩ ?_ (s1.trans (aL.sx st)) ?_
    ·rw [e2,hxl];exact st _ _ g1
    ·rw [e2,hxl];exact le1
    ·rw [e2];exact aB
   refine ⟨_,rfl,q,_,rfl,.inl (dE.of hq1),_,rfl,_,_,rfl,rfl,_,rfl,cE (fun hlt=>?_) (fun hlt=>?_)⟩
   ·have hlt:((xs.map V.int).length:Int)<(L:Int):=of_decide_eq_true hlt
    rw [List.length_map] at hlt
    obtain ⟨n,rfl⟩:∃ n,m=n+1:=⟨m - 1,by (clear le1 le hL1000;omega)⟩
    obtain rfl:L=i+(n+1):=by (clear hlt le1 hxl le hL1000;omega)
    refine ⟨_,rfl,r,dx1,_,rfl,g1,rfl,r,a,l,p+i,rfl,x1,_,rfl,_,rfl,cE (fun hl=>Oh ?_) (fun hl=>?_)⟩
    ·exact ⟨Ig CR H r a q l p (i+(n+1)) n,fun _ _ z=>⟨n,Nat.lt_succ_self n,z⟩,xY x hq nrq hxl hL1000 s1 hr1 le1 hq1 e1 (by unfold gM;rw [hl];rfl) fun _ _ z=>z⟩
    ·refine ⟨_,rfl,r,dx1,_,rfl,g1,rfl,r,a,l,p+i,rfl,x1,_,rfl,_,rfl,cE (fun hd=>?_) (fun hd=>?_)⟩
     ·exact ⟨Ig CR H r a q l p (i+(n+1)) n,fun _ _ z=>⟨n,Nat.lt_succ_self n,z⟩,xY x hq nrq hxl hL1000 s1 hr1 le1 hq1 e1 (by unfold gM;rw [hd,Bool.or_true]) fun _ _ z=>z⟩
     ·refine ⟨_,rfl,q,_,rfl,.inl ⟨dE.of hq1,fin ?_⟩⟩
      rw [e1]
      show xs++(if gM (aR l (p+i))=true then _ else _)=xs
      rw [if_neg (by unfold gM;rw [dB hl,dB hd];decide),List.append_nil]
   ·have hlt:¬((xs.map V.int).length:Int)<(L:Int):=fun z=>hlt (decide_eq_true z)
    rw [List.length_map] at hlt
    refine tG ⟨_,rfl,q,_,rfl,.inl ⟨dE.of hq1,fin ?_⟩⟩
    rw [e1,show m=0 by (clear le1 le hL1000;omega)]
    exact List.append_nil _
end
section
variable {P:Program} {w:World} {K:PySem.W.Frag} {mg:Str->Option Value} {base:Heap} {C CR:Addr}
def aAj (CR:Addr) (H:Hp) (r a:Addr) (l:List Int) (p:Nat) (lo hi:Int) (m:Nat) (σ:List (Option V)) (H':Hp):Prop:=
 ∃ (q:Nat) (v:Int),m+q=l.length/\σ=[some (.ref r),some (.int lo),some (.int hi),some (.int v)]/\SX r H H'/\hU CR H' r a q/\0<=v/\v<=hi/\eF l p hi=dC l hi m q v
def jQ (K:PySem.W.Frag) (CR:Addr):Sp:=fun vs H Q E=>∃ (r a:Addr) (l:List Int) (p:Nat) (lo hi:Int),vs=[.ref r,.int lo,.int hi]/\jI K CR H r a l p/\0<=lo/\hi<=100000/\
 (jG l p lo hi->∀ H':Hp,hU CR H' r a (eF l p hi).2->(eF l p hi).2<=l.length->0<=(eF l p hi).1->(eF l p hi).1<=hi->SX r H H'->Q (.int (eF l p hi).1) H')/\(¬jG l p lo hi->E (.int p 0) none H)
theorem rT:aO ["self","least","most","value"] ["self","least","most"] (aG tS):=⟨rfl,rfl,rfl,by decide+kernel,rfl,by decide+kernel,by decide+kernel⟩
theorem Lh {f:Addr} {fd:FuncData} (F:fK K "read_number" "Reader.read_number" tS f fd) (T:Fc K CR) (S:Ww P w K mg base C) (hord:mg "ord"=none)
  (M1:nZ P w K mg base CR "here" bV 2 ["self"] (pA K CR)) (M2:nZ P w K mg base CR "take" bV 3 ["self"] (oR K CR)) (L2:dO P w K mg base "is_digit" bV 1 ["byte"] nN):
  bU P w K mg base (iS C P w) 4 f fd ["self","least","most"] (jQ K CR):=by
 obtain ⟨f1,fd1,m1,G1,b1⟩:=M1.ex
 obtain ⟨f2,fd2,m2,G2,b2⟩:=M2.ex
 obtain ⟨g2,gd2,GD,bD,kD,hD⟩:=L2.ex
 obtain ⟨fx,fdx,XT,GX,bx⟩:=S.ex
 refine F.okX rT (fun vs H Q E h=>?_) (fun cdv A outer s H vs Q E hr h=>?_)
 ·obtain ⟨r,a,l,p,lo,hi,rfl,_⟩:=h
  rfl
 ·obtain ⟨r,a,l,p,lo,hi,rfl,x,hlo,hhi,k1,k2⟩:=h
  obtain ⟨⟨dx,h1⟩,tx,le⟩:=id x
  have hr2:=hr.mono (j:=2) (by decide)
  have hr1:=hr.mono (j:=1) (by decide)
  refine ⟨_,aF (eK (Iy (kU (eE (aQ GD hr1 (by rfl) hD kD bD .nil aX (aA (cB (pv 0) T.cl m1 G1 hr2 b1 .nil aX) aE))))
     (zM (kU (Pu qM qM (pv 1) (cI eT (cB (pv 0) T.cl m1 G1 hr2 b1 .nil aX) (jD 48 hord)) (pv 2))))).pt (aH (mM aN rfl XT GX hr2 (by rfl) S.mg bx (aT (pv 0) rfl))) cF)
   (aF (bI (i:=3) rT.nd rfl (Or.inl rfl) (cI eT (cB (pv 0) T.cl m2 G2 hr b2 .nil aX) (jD 48 hord)))
   (aF (jW aN.own (gX (eB (sI (pv 3) aK)) (gX (eE (aQ GD hr1 (by rfl) hD kD bD .nil aX (aA (cB (pv 0) T.cl m1 G1 hr2 b1 .nil aX) aE)))
     (hZ (eB (Zu (cI eT (cI fY (cI Ph (pv 3) aK) (cB (pv 0) T.cl m1 G1 hr2 b1 .nil aX)) (jD 48 hord)) (pv 2)))))).pt
    (aH (bI (i:=3) rT.nd rfl (Or.inl rfl) (cI eT (cI fY (cI Ph (pv 3) aK) (cB (pv 0) T.cl m2 G2 hr b2 .nil aX)) (jD 48 hord)))))
   (aH (aV (pv 3))))),?_⟩
  refine ⟨_,rfl,r,dx,_,rfl,h1,rfl,r,a,l,p,rfl,x,_,rfl,_,rfl,cE (fun hc=>Oh ?_) (fun hc=>?_)⟩
  ·rw [Bool.not_eq_true'] at hc
   exact ⟨_,rfl,r,CR,dx,_,_,rfl,h1,T.cl,T.nP,gL _ _,_,rfl,k2 fun z=>by rw [z.1] at hc;cases hc⟩
  ·rw [Bool.not_eq_true',Bool.not_eq_false] at hc
   refine ⟨_,rfl,_,rfl,r,dx,_,rfl,h1,rfl,r,a,l,p,rfl,x,_,_,rfl,rfl,_,_,rfl,rfl,_,rfl,cE (fun h3=>⟨_,rfl,_,_,rfl,rfl,_,rfl,cE (fun h4=>?_) (fun h4=>?_)⟩) (fun h3=>⟨_,rfl,Oh ?_⟩)⟩
   ·rw [Bool.not_eq_true',decide_eq_false_iff_not] at h4
    exact ⟨_,rfl,r,CR,dx,_,_,rfl,h1,T.cl,T.nP,gL _ _,_,rfl,k2 fun z=>h4 z.2.2⟩
   ·rw [Bool.not_eq_true',decide_eq_false_iff_not,Classical.not_not] at h4
    have h3:=of_decide_eq_true h3
    have hn:jG l p lo hi:=⟨hc,h3,h4⟩
    have lt:=Qn hc
    have dr:=iG hc
    refine ⟨_,rfl,r,dx,_,rfl,h1,rfl,r,a,l,p,rfl,x,fun H1 hr1 s1=>⟨_,_,rfl,rfl,?_⟩⟩
    refine ⟨aAj CR H r a l p lo hi,⟨l.length - (p+1),p+1,aR l p - 48,by (clear dr h3 h4 le hhi hlo;omega),rfl,s1,hr1,by (clear dr lt h4 le hhi;omega),h4,rfl⟩,?_⟩
    rintro m σ H2 ⟨q,v,hmq,rfl,s2,hr2,v0,vh,e2⟩
    have x2:=x.same s2 hr2 (by (clear vh v0 dr lt h3 h4 le hhi hlo;omega))
    obtain ⟨dx2,g2⟩:=id hr2
    have fin:eF l p hi=(v,q)->Q (.int v) H2:=fun e3=>by
     have z:=k1 hn H2
     rw [e3] at z
     exact z hr2 (by show q<=l.length;(clear vh v0 dr lt h3 h4 le hhi hlo;omega)) v0 vh s2
    refine ⟨_,rfl,_,_,rfl,rfl,_,rfl,cE (fun h5=>?_) (fun h5=>tG ⟨_,rfl,fin ?_⟩)⟩
    ·have h5:=of_decide_eq_true h5
     refine ⟨_,rfl,r,dx2,_,rfl,g2,rfl,r,a,l,q,rfl,x2,_,rfl,_,rfl,cE (fun h6=>?_) (fun h6=>tG ⟨_,rfl,fin ?_⟩)⟩
     ·have lt2:=Qn h6
      have dr2:=iG h6
      obtain ⟨n,rfl⟩:∃ n,m=n+1:=⟨m - 1,by (clear dr2 h5 vh v0 dr lt h3 h4 le hhi hlo;omega)⟩
      refine ⟨_,rfl,_,_,rfl,rfl,.inl ⟨by (clear hmq dr2 lt2 h5 vh dr lt h3 h4 le hhi hlo;omega),by (clear hmq dr2 lt2 h5 v0 dr lt h3 h4 le hlo;omega)⟩,_,rfl,r,dx2,_,rfl,g2,rfl,r,a,l,q,rfl,x2,_,_,rfl,rfl,_,_,rfl,rfl,_,rfl,_,_,rfl,rfl,_,rfl,cE (fun h7=>?_) (fun h7=>⟨_,rfl,fin ?_⟩)⟩
      ·have h7:=of_decide_eq_true h7
       refine ⟨aAj CR H r a l p lo hi n,fun _ _ z=>⟨n,Nat.lt_succ_self n,z⟩,?_⟩
       refine ⟨_,rfl,_,_,rfl,rfl,.inl ⟨by (clear h7 hmq dr2 lt2 h5 vh dr lt h3 h4 le hhi hlo;omega),by (clear h7 hmq dr2 lt2 h5 v0 dr lt h3 h4 le hlo;omega)⟩,_,rfl,r,dx2,_,rfl,g2,rfl,r,a,l,q,rfl,x2,fun H3 hr3 s3=>⟨_,_,rfl,rfl,_,_,rfl,rfl,?_⟩⟩
       refine ⟨q+1,v * 10+aR l q - 48,by (clear h7 dr2 lt2 h5 vh v0 dr lt h3 h4 le hhi hlo;omega),rfl,s2.trans s3,hr3,by (clear h7 hmq lt2 h5 vh dr lt h3 h4 le hhi hlo;omega),h7,?_⟩
       rw [e2]
       show (if _ then _ else _)=_
       rw [if_pos ⟨h5,h6,h7⟩]
      ·rw [e2]
       show (if _ then _ else _)=_
       rw [if_neg fun z=>h7 (decide_eq_true z.2.2)]
     ·rw [e2]
      cases m with
      |zero=>rfl
      |succ n=>
       show (if _ then _ else _)=_
       rw [if_neg fun z=>h6 z.2.1]
    ·rw [e2]
     cases m with
     |zero=>rfl
     |succ n=>
      show (if _ then _ else _)=_
      rw [if_neg fun z=>h5 (decide_eq_true z.1)]
   ·exact ⟨_,rfl,r,CR,dx,_,_,rfl,h1,T.cl,T.nP,gL _ _,_,rfl,k2 fun z=>h3 (decide_eq_true z.2.1)⟩
end
def gE {α:Type} (x:α):Except Nat (List α×Nat)->Except Nat (List α×Nat)
 |.ok r=>.ok (x::r.1,r.2)
 |.error i=>.error i
def bX (l:List Int):Nat->Nat->Except Nat (List Int×Nat)
 |0,p=>.ok ([],p)
 |n+1,p=>if aR l p∈cK then gE (aR l p) (bX l n (p+1)) else .error p
def fE (l:List Int) (w p:Nat):Except Nat (List Int×Nat):=match bX l w p with
 |.ok r=>if aR l r.2=10 then .ok (r.1,r.2+1) else .error r.2
 |.error i=>.error i
def bO (l:List Int) (w:Nat):Nat->Nat->Except Nat (List (List Int)×Nat)
 |0,p=>.ok ([],p)
 |n+1,p=>match fE l w p with
  |.ok r=>gE r.1 (bO l w n r.2)
  |.error i=>.error i
def fU {α:Type} (xs:List α):Except Nat (List α×Nat)->Except Nat (List α×Nat)
 |.ok r=>.ok (xs++r.1,r.2)
 |.error i=>.error i
theorem jM {α:Type} (r:Except Nat (List α×Nat)):fU [] r=r:=by cases r<;>rfl
theorem iO {α:Type} (xs:List α) (x:α) (r:Except Nat (List α×Nat)):fU xs (gE x r)=fU (xs++[x]) r:=by
 cases r with
 |error i=>rfl
 |ok r=>unfold fU gE;simp
abbrev eJ (x y z:Int):List eD:=[Sum.inl x,Sum.inl y,Sum.inl z]
def fA (y z:Nat):Nat->List Int->List (List eD×V)
 |_,[]=>[]
 |x,s::r=>(if s=46 then [] else [(eJ x y z,V.int s)])++fA y z (x+1) r
def dX (d:Nat):Nat->List (List Int)->List (List eD×V)
 |_,[]=>[]
 |j,r::rs=>fA (j % d) (j / d) 0 r++dX d (j+1) rs
theorem wJ (y z:Nat) (s:Int):∀ (xs:List Int) (x:Nat),fA y z x (xs++[s])=fA y z x xs++(if s=46 then [] else [(eJ ((x+xs.length:Nat):Int) y z,V.int s)])
 |[],x=>by simp [fA]
 |a::r,x=>by
  show _++fA y z (x+1) (r++[s])=(_++fA y z (x+1) r)++_
  rw [wJ y z s r (x+1),<-List.append_assoc,List.length_cons,show x+1+r.length=x+(r.length+1) by omega]
theorem sM (d:Nat) (r:List Int):∀ (rs:List (List Int)) (j:Nat),dX d j (rs++[r])=dX d j rs++fA ((j+rs.length) % d) ((j+rs.length) / d) 0 r
 |[],j=>by simp [dX]
 |a::rs,j=>by
  show _++dX d (j+1) (rs++[r])=(_++dX d (j+1) rs)++_
  rw [sM d r rs (j+1),<-List.append_assoc,List.length_cons,show j+1+rs.length=j+(rs.length+1) by omega]
theorem qT {y z:Nat} {kv:List eD×V}:∀ {xs:List Int} {x:Nat},kv∈fA y z x xs->∃ x':Nat,kv.1=eJ x' y z/\x<=x'/\x'<x+xs.length
 |[],x,h=>by simp [fA] at h
 |a::r,x,h=>by
  have h:kv∈(if a=46 then [] else [(eJ x y z,V.int a)])++fA y z (x+1) r:=h
  rcases List.mem_append.mp h with h|h
  ·split at h
   ·cases h
   ·rw [List.mem_singleton.mp h]
    exact ⟨x,rfl,Nat.le_refl _,by simp⟩
  ·obtain ⟨x',e,h1,h2⟩:=qT h
   exact ⟨x',e,by (clear h2;omega),by rw [List.length_cons];(clear h1;omega)⟩
theorem uJ {d:Nat} {kv:List eD×V}:∀ {rs:List (List Int)} {j:Nat},kv∈dX d j rs->∃ x' j':Nat,kv.1=eJ x' ((j' % d:Nat):Int) ((j' / d:Nat):Int)/\j<=j'/\j'<j+rs.length
 |[],j,h=>by simp [dX] at h
 |a::rs,j,h=>by
  have h:kv∈fA (j % d) (j / d) 0 a++dX d (j+1) rs:=h
  rcases List.mem_append.mp h with h|h
  ·obtain ⟨x',e,_⟩:=qT h
   exact ⟨x',j,e,Nat.le_refl _,by simp⟩
  ·obtain ⟨x',j',e,h1,h2⟩:=uJ h
   exact ⟨x',j',e,by (clear h2;omega),by rw [List.length_cons];(clear h1;omega)⟩
theorem rW (y z:Nat):∀ (xs:List Int) (x:Nat),(fA y z x xs).length<=xs.length
 |[],x=>by simp [fA]
 |a::r,x=>by
  show (_++fA y z (x+1) r).length<=_
  rw [List.length_append,List.length_cons]
  have:=rW y z r (x+1)
  split<;>simp<;>omega
theorem oO (d w:Nat):∀ (rs:List (List Int)) (j:Nat),(∀ r∈rs,r.length=w)->(dX d j rs).length<=rs.length * w
 |[],j,_=>by simp [dX]
 |a::rs,j,h=>by
  show (fA (j % d) (j / d) 0 a++dX d (j+1) rs).length<=_
  have h1:=rW (j % d) (j / d) a 0
  have h2:=oO d w rs (j+1) fun r hr=>h r (List.mem_cons_of_mem _ hr)
  have h3:=h a List.mem_cons_self
  rw [List.length_append,List.length_cons,Nat.succ_mul]
  omega
theorem Lm {κ:Type} [DecidableEq κ] {aI:List (κ×V)} {k:κ} (h:∀ kv∈aI,kv.1≠k):lF aI k=none:=by
 unfold lF
 rw [List.find?_eq_none.mpr fun kv hkv=>by simpa using h kv hkv]
 rfl
theorem Te {d:Nat} {rs:List (List Int)} {xs:List Int} (hd:0<d):lF (dX d 0 rs++fA (rs.length % d) (rs.length / d) 0 xs) (eJ (xs.length:Int) ((rs.length % d:Nat):Int) ((rs.length / d:Nat):Int))=none:=by
 refine Lm fun kv hkv e=>?_
 rcases List.mem_append.mp hkv with h|h
 ·obtain ⟨x',j',e',h1,h2⟩:=uJ h
  rw [e'] at e
  simp only [eJ,List.cons.injEq,Sum.inl.injEq,and_true] at e
  obtain ⟨_,e1,e2⟩:=e
  have q1:=Nat.div_add_mod j' d
  have q2:=Nat.div_add_mod rs.length d
  have e1':j' % d=rs.length % d:=by (clear q2 q1 e2 h2 h1 hd;omega)
  have e2':j' / d=rs.length / d:=by (clear e1' q2 q1 e1 h2 h1 hd;omega)
  rw [e1',e2'] at q1
  (clear e2' e1' e2 e1 h1 hd;omega)
 ·obtain ⟨x',e',h1,h2⟩:=qT h
  rw [e'] at e
  simp only [eJ,List.cons.injEq,Sum.inl.injEq,and_true] at e
  obtain ⟨e1,_⟩:=e
  (clear h1 hd;omega)
section
variable {P:Program} {w:World} {K:PySem.W.Frag} {mg:Str->Option Value} {base:Heap} {C CR CP:Addr}
def CI (mg:Str->Option Value) (x:Str) (n:Int):Prop:=∃ tk,mg x=some (.int n tk)
theorem eR {X:Cx} {x:Str} {n:Int} {pos:Pos} (h:CI X.mg x n) (hg:Gl X x:=by rfl) (hd:(x==("__debug__":Str))=false:=by decide):PE X (.Name x pos) (tC (.int n)):=by
 obtain ⟨tk,h⟩:=h
 exact Ao hg h ⟨tk,rfl⟩ hd
def fC (s:Int):Bool:=decide (s=115)||decide (s=98)
def dQ (s:Int):Bool:=decide (s=116)||decide (s=98)
def vH:Sp:=fun vs H Q _=>∃ s:Int,vs=[.int s]/\Q (.bl (fC s)) H
def uY:Sp:=fun vs H Q _=>∃ s:Int,vs=[.int s]/\Q (.bl (dQ s)) H
theorem gW (i j:Int):decide (V.int i=V.int j)=decide (i=j):=by rw [tO,Bool.beq_eq_decide_eq]
theorem Tw:aO ["sign"] ["sign"] (aG qP):=⟨rfl,rfl,rfl,by decide+kernel,rfl,by decide+kernel,by decide+kernel⟩
theorem Sx {f:Addr} {fd:FuncData} (F:fK K "has_stud" "has_stud" qP f fd) (h1:CI mg "STUD" 115) (h2:CI mg "BOTH" 98):bU P w K mg base bV 1 f fd ["sign"] vH:=by
 refine F.ok Tw (fun vs H Q E h=>?_) (fun cdv A outer s H vs Q E hr h=>?_)
 ·obtain ⟨b,rfl,_⟩:=h
  rfl
 ·obtain ⟨b,rfl,k⟩:=h
  refine ⟨_,aH (aV (Rf (kT qG (pv 0) (eR h1) (gU _)) (sB (kT qG (pv 0) (eR h2) (gU _))))),?_⟩
  unfold fC at k
  rw [<-gW,<-gW] at k
  refine ⟨_,rfl,rfl,_,rfl,cE (fun h=>?_) (fun h=>⟨_,rfl,rfl,?_⟩)⟩
  ·rw [h] at k;exact k
  ·rw [dB h] at k;exact k
theorem Ry:aO ["sign"] ["sign"] (aG qB):=⟨rfl,rfl,rfl,by decide+kernel,rfl,by decide+kernel,by decide+kernel⟩
theorem Ug {f:Addr} {fd:FuncData} (F:fK K "has_tube" "has_tube" qB f fd) (h1:CI mg "TUBE" 116) (h2:CI mg "BOTH" 98):bU P w K mg base bV 1 f fd ["sign"] uY:=by
 refine F.ok Ry (fun vs H Q E h=>?_) (fun cdv A outer s H vs Q E hr h=>?_)
 ·obtain ⟨b,rfl,_⟩:=h
  rfl
 ·obtain ⟨b,rfl,k⟩:=h
  refine ⟨_,aH (aV (Rf (kT qG (pv 0) (eR h1) (gU _)) (sB (kT qG (pv 0) (eR h2) (gU _))))),?_⟩
  unfold dQ at k
  rw [<-gW,<-gW] at k
  refine ⟨_,rfl,rfl,_,rfl,cE (fun h=>?_) (fun h=>⟨_,rfl,rfl,?_⟩)⟩
  ·rw [h] at k;exact k
  ·rw [dB h] at k;exact k
def nM:Sp:=fun vs H Q _=>∃ (g:Addr) (x y z:Int),vs=[.ref g]/\H g=some (.tup [.int x,.int y,.int z])/\∀ q,H q=none->Q (.ref q) (upd H q (.tup [.int x,.int y,.int (z+1)]))
def nI:Sp:=fun vs H Q _=>∃ (g:Addr) (x y z:Int),vs=[.ref g]/\H g=some (.tup [.int x,.int y,.int z])/\∀ q,H q=none->Q (.ref q) (upd H q (.tup [.int x,.int y,.int (z - 1)]))
theorem Rc:aO ["place"] ["place"] (aG Ac):=⟨rfl,rfl,rfl,by decide+kernel,rfl,by decide+kernel,by decide+kernel⟩
theorem Og {f:Addr} {fd:FuncData} (F:fK K "above" "above" Ac f fd):bU P w K mg base bV 1 f fd ["place"] nM:=by
 refine F.ok Rc (fun vs H Q E h=>?_) (fun cdv A outer s H vs Q E hr h=>?_)
 ·obtain ⟨g,x,y,z,rfl,_⟩:=h
  rfl
 ·obtain ⟨g,x,y,z,rfl,hg,k⟩:=h
  refine ⟨_,aH (aV (eN (aA (bY bQ (pv 0) aK (fun _ _=>rfl)) (aA (bY bQ (pv 0) aK (fun _ _=>rfl)) (aA (cI fY (bY bQ (pv 0) aK (fun _ _=>rfl)) aK) aE))))),?_⟩
  refine ⟨_,rfl,g,_,_,_,rfl,rfl,cN.of hg,rfl,_,rfl,g,_,_,_,rfl,rfl,cN.of hg,rfl,_,rfl,g,_,_,_,rfl,rfl,cN.of hg,rfl,_,_,rfl,rfl,(by show 3<=sizeLine;decide),k⟩
theorem Rm:aO ["place"] ["place"] (aG Au):=⟨rfl,rfl,rfl,by decide+kernel,rfl,by decide+kernel,by decide+kernel⟩
theorem Rr {f:Addr} {fd:FuncData} (F:fK K "below" "below" Au f fd):bU P w K mg base bV 1 f fd ["place"] nI:=by
 refine F.ok Rm (fun vs H Q E h=>?_) (fun cdv A outer s H vs Q E hr h=>?_)
 ·obtain ⟨g,x,y,z,rfl,_⟩:=h
  rfl
 ·obtain ⟨g,x,y,z,rfl,hg,k⟩:=h
  refine ⟨_,aH (aV (eN (aA (bY bQ (pv 0) aK (fun _ _=>rfl)) (aA (bY bQ (pv 0) aK (fun _ _=>rfl)) (aA (cI eT (bY bQ (pv 0) aK (fun _ _=>rfl)) aK) aE))))),?_⟩
  refine ⟨_,rfl,g,_,_,_,rfl,rfl,cN.of hg,rfl,_,rfl,g,_,_,_,rfl,rfl,cN.of hg,rfl,_,rfl,g,_,_,_,rfl,rfl,cN.of hg,rfl,_,_,rfl,rfl,(by show 3<=sizeLine;decide),k⟩
def Mz (nm:Addr) (W D Hh g:Int) (cells:Addr):List (Str×V):=[("name",.ref nm),("width",.int W),("depth",.int D),("height",.int Hh),("weight",.int g),("cells",.ref cells)]
structure Na (K:PySem.W.Frag) (CP:Addr):Prop where
 cl:Fb K CP
 n1:dD K CP "name"
 n2:dD K CP "width"
 n3:dD K CP "depth"
 n4:dD K CP "height"
 n5:dD K CP "weight"
 n6:dD K CP "cells"
def Jt (CP:Addr):Sp:=fun vs H Q _=>∃ (r dx nm cells:Addr) (W D Hh g:Int),vs=[.ref r,.ref nm,.int W,.int D,.int Hh,.int g,.ref cells]/\H r=some (.ins CP dx [])/\∀ H':Hp,H' r=some (.ins CP dx (Mz nm W D Hh g cells))->SX r H H'->Q .non H'
theorem Qt:aO ["self","name","width","depth","height","weight","cells"] ["self","name","width","depth","height","weight","cells"] (aG Bj):=⟨rfl,rfl,rfl,by decide+kernel,rfl,by decide+kernel,by decide+kernel⟩
theorem Pd {f:Addr} {fd:FuncData} (F:fK K "__init__" "Part.__init__" Bj f fd) (T:Na K CP):bU P w K mg base bV 1 f fd ["self","name","width","depth","height","weight","cells"] (Jt CP):=by
 refine F.ok Qt (fun vs H Q E h=>?_) (fun cdv A outer s H vs Q E hr h=>?_)
 ·obtain ⟨r,dx,nm,cells,W,D,Hh,g,rfl,_⟩:=h
  rfl
 ·obtain ⟨r,dx,nm,cells,W,D,Hh,g,rfl,hp,k⟩:=h
  refine ⟨_,aF (dW (pv 0) (pv 1) rfl) (aF (dW (pv 0) (pv 2) rfl) (aF (dW (pv 0) (pv 3) rfl) (aF (dW (pv 0) (pv 4) rfl) (aF (dW (pv 0) (pv 5) rfl) (aH (dW (pv 0) (pv 6) rfl)))))),?_⟩
  refine ⟨_,rfl,_,rfl,r,CP,dx,_,rfl,hp,T.cl,T.n1,(by show 0<1000;decide),?_⟩
  refine ⟨_,rfl,_,rfl,r,CP,dx,_,rfl,aB,T.cl,T.n2,(by show 1<1000;decide),?_⟩
  refine ⟨_,rfl,_,rfl,r,CP,dx,_,rfl,aB,T.cl,T.n3,(by show 2<1000;decide),?_⟩
  refine ⟨_,rfl,_,rfl,r,CP,dx,_,rfl,aB,T.cl,T.n4,(by show 3<1000;decide),?_⟩
  refine ⟨_,rfl,_,rfl,r,CP,dx,_,rfl,aB,T.cl,T.n5,(by show 4<1000;decide),?_⟩
  refine ⟨_,rfl,_,rfl,r,CP,dx,_,rfl,aB,T.cl,T.n6,(by show 5<1000;decide),?_⟩
  exact k _ aB fun b o e hb=>by rw [aC hb,aC hb,aC hb,aC hb,aC hb,aC hb];exact e
end
end Br1
namespace L2
open PySem PySem.Spec PyProof.Rows
theorem kX {n:Nat} {g:TG} {tb:TS} {D:fZ} {σ:St} {H:Hp} (Pv:Nat->St->Hp->Prop) (h0:Pv 0 σ H)
  (hs:∀ i σ H,i<n->Pv i σ H->g (.int (i:Int)) σ H fun σ2 H2=>tb {D with nx:=Pv (i+1),ct:=Pv (i+1),bk:=D.nx} σ2 H2) (hd:∀ σ H,Pv n σ H->D.nx σ H):
  ∃ W:Nat->Nat->St->Hp->Prop,(∃ m,W 0 m σ H)/\∀ i m σ H,W i m σ H->
   ((Rv 0 ((n:Int)).toNat).stop i H/\D.nx σ H)\/((Rv 0 ((n:Int)).toNat).go i H/\∃ N:St->Hp->Prop,(∀ σ' H',N σ' H'->∃ m',m'<m/\W (i+1) m' σ' H')/\∀ x H',(Rv 0 ((n:Int)).toNat).yld i H x H'->g x σ H' fun σ2 H2=>tb {D with nx:=N,ct:=N,bk:=D.nx} σ2 H2):=by
 rw [Int.toNat_natCast]
 refine xV (lo:=0) (n:=n) Pv h0 (fun i σ H hi p=>?_) hd
 rw [Int.zero_add]
 exact hs i σ H hi p
end L2
namespace Br1
open PySem PySem.Spec PyProof.Rows L2
theorem Mu {l:List Int} {w n pr i:Nat} {rs:List (List Int)} (h:bX l w pr=.error i):fU rs (bO l w (n+1) pr)=.error i:=by
 have e:fE l w pr=.error i:=by
  unfold fE
  rw [h]
 unfold bO
 rw [e]
 rfl
theorem Tb {l:List Int} {w n pr q:Nat} {rs:List (List Int)} {xs:List Int} (h:bX l w pr=.ok (xs,q)) (h2:¬aR l q=10):fU rs (bO l w (n+1) pr)=.error q:=by
 have e:fE l w pr=.error q:=by
  unfold fE
  rw [h]
  exact if_neg h2
 unfold bO
 rw [e]
 rfl
theorem Xj {l:List Int} {w n pr q:Nat} {rs:List (List Int)} {xs:List Int} (h:bX l w pr=.ok (xs,q)) (h2:aR l q=10):fU rs (bO l w (n+1) pr)=fU (rs++[xs]) (bO l w n (q+1)):=by
 have e:fE l w pr=.ok (xs,q+1):=by
  unfold fE
  rw [h]
  exact if_pos h2
 rw [<-iO]
 show fU rs (bO l w (n+1) pr)=_
 rw [bO,e]
theorem pK:("\n":Str).cps.toList=[10]:=by decide+kernel
section
variable {P:Program} {w:World} {K:PySem.W.Frag} {mg:Str->Option Value} {base:Heap} {C CR CP:Addr}
def Ab (K:PySem.W.Frag) (CR:Addr):Sp:=fun vs H Q E=>∃ (r a:Addr) (l:List Int) (p W D Hh:Nat),vs=[.ref r,.int W,.int D,.int Hh]/\jI K CR H r a l p/\W<=16/\D<=16/\Hh<=18/\0<D/\
 match bO l W (D * Hh) p with
 |.ok q=>∀ (H':Hp) (c:Addr),hU CR H' r a q.2->q.2<=l.length->SX r H H'->H c=none->H' c=some (.dT (dX D 0 q.1))->(∀ x∈q.1,x.length=W)->Q (.ref c) H'
 |.error i=>∀ H':Hp,SX r H H'->E (.int i 0) none H'
structure CS (CR:Addr) (H:Hp) (r a c:Addr) (l:List Int) (d:Nat) (rs:List (List Int)) (xs:List Int) (p':Nat) (H':Hp):Prop where
 sx:SX r H H'
 rd:hU CR H' r a p'
 le:p'<=l.length
 dc:H' c=some (.dT (dX d 0 rs++fA (rs.length % d) (rs.length / d) 0 xs))
def SgC (r c:Addr) (W D Hh z y:Nat) (v7 v8:Option V):List (Option V):=[some (.ref r),some (.int W),some (.int D),some (.int Hh),some (.ref c),some (.int z),some (.int y),v7,v8]
abbrev Wv (K:PySem.W.Frag) (CR aS:Addr) (E:XK):TS:=Ce (Ef (lZ CR "read_one_of" (pM K CR) [] E (dI 0) (dL (tC (.ref aS)) gR)) (mL 8)) (Wy (Pj (Fa rNe (dI 8) (tC (.int 46)))) (Vz (dI 4) (Wo (dL (dI 7) (dL (dI 6) (dL (dI 5) gR)))) (dI 8)) Wa)
theorem Gr {H H1:Hp} {r a c aS:Addr} {l:List Int} {p W D Hh z y i pr p':Nat} {rs:List (List Int)} {xs:List Int} {v8:Option V} {E:XK} {Dn:fZ} (x:jI K CR H r a l p) (hc:H c=none) (nrc:r≠c) (hS:∀ H,cN K H aS (cK.map V.int)) (hW:W<=16)
  (hrs:rs.length<=300) (hrw:∀ q∈rs,q.length=W) (hD:0<D) (hz:z=rs.length / D) (hy:y=rs.length % D) (hi:i<W) (hx:xs.length=i) (cs:CS CR H r a c l D rs xs p' H1) (e1:bX l W pr=fU xs (bX l (W - i) p'))
  (kE:∀ q,bX l W pr=.error q->∀ H',SX r H H'->E (.int q 0) none H')
  (kN:∀ (v8:Option V) (H':Hp) (xs':List Int) (q:Nat),xs'.length=i+1->CS CR H r a c l D rs xs' q H'->bX l W pr=fU xs' (bX l (W - (i+1)) q)->Dn.nx (SgC r c W D Hh z y (some (.int i)) v8) H'):
  Wv K CR aS E Dn (SgC r c W D Hh z y (some (.int i)) v8) H1:=by
 subst hz hy
 obtain ⟨dx,h1⟩:=id cs.rd
 have x1:=x.same cs.sx cs.rd cs.le
 obtain ⟨n,hn⟩:∃ n,W - i=n+1:=⟨W - i - 1,by (clear hx hD hrs hW;omega)⟩
 have hn2:W - (i+1)=n:=by (clear hx hi hD hrs hW;omega)
 rw [hn] at e1
 refine ⟨_,rfl,r,dx,_,rfl,h1,rfl,⟨r,a,aS,l,cK,p',rfl,x1,hS H1,by decide,fun hin H2 hr2 s2=>?_,fun hin=>?_⟩⟩
 ·have lt:p'<l.length:=gA fun q=>by rw [q] at hin;revert hin;decide
  have e2:bX l W pr=fU (xs++[aR l p']) (bX l n (p'+1)):=by
   rw [e1,<-iO]
   show fU xs (if aR l p'∈cK then _ else _)=_
   rw [if_pos hin]
  have c2:H2 c=some (.dT (dX D 0 rs++fA (rs.length % D) (rs.length / D) 0 xs)):=s2 _ _ cs.dc (Ne.symm nrc)
  have ls:(xs++[aR l p']).length=i+1:=by simp [hx]
  have ek:=wJ (rs.length % D) (rs.length / D) (aR l p') xs 0
  rw [Nat.zero_add] at ek
  refine ⟨_,rfl,rfl,_,rfl,cE (fun hne=>?_) (fun hne=>?_)⟩
  ·have hne:¬aR l p'=46:=by
    intro q
    rw [q] at hne
    revert hne
    decide
   rw [if_neg hne,hx] at ek
   refine ⟨_,rfl,_,rfl,_,rfl,_,rfl,_,rfl,(by show 3<=sizeLine;decide),fun g hg=>?_⟩
   have sg:aL H2 (upd H2 g (.tup [.int i,.int ((rs.length % D:Nat):Int),.int ((rs.length / D:Nat):Int)])):=fun b o e=>by rw [aC (aD e hg)];exact e
   refine ⟨c,_,rfl,xD.t (k:=eJ i ((rs.length % D:Nat):Int) ((rs.length / D:Nat):Int)) (sg _ _ c2) aB ?_,?_⟩
   ·have h1:=oO D W rs 0 hrw
    have h2:=rW (rs.length % D) (rs.length / D) xs 0
    have h3:rs.length * W<=300 * 16:=Nat.mul_le_mul hrs hW
    have:=bE
    rw [List.length_append]
    (clear hne ls lt hn2 hn hD hrs;omega)
   ·have kn:=Te (d:=D) (rs:=rs) (xs:=xs) hD
    rw [hx] at kn
    have kp:=wT (V.int (aR l p')) kn
    refine kN _ _ (xs++[aR l p']) (p'+1) ls ⟨fun b o e hb=>?_,?_,lt,?_⟩ (by rw [hn2];exact e2)
    ·rw [aC (aD e hc)]
     exact sg b o (s2 b o (cs.sx b o e hb) hb)
    ·obtain ⟨dx2,g2⟩:=hr2
     exact ⟨dx2,by rw [aC nrc];exact sg _ _ g2⟩
    ·rw [aB,kp,List.append_assoc,ek]
  ·have hne:aR l p'=46:=by
    refine Classical.byContradiction fun q=>hne ?_
    show (!decide (V.int (aR l p')=V.int 46))=true
    rw [gW,decide_eq_false q]
    rfl
   rw [if_pos hne,List.append_nil] at ek
   refine kN _ _ (xs++[aR l p']) (p'+1) ls ⟨cs.sx.trans s2,hr2,lt,?_⟩ (by rw [hn2];exact e2)
   rw [ek]
   exact c2
 ·refine kE p' ?_ _ cs.sx
  rw [e1]
  show fU xs (if aR l p'∈cK then _ else _)=_
  rw [if_neg hin]
  rfl
end
theorem yH {l:List Int}:∀ {n p:Nat} {r:List Int×Nat},bX l n p=.ok r->r.1.length=n
 |0,p,r,h=>by cases h;rfl
 |n+1,p,r,h=>by
  rw [bX] at h
  split at h
  ·cases e:bX l n (p+1) with
   |error i=>rw [e] at h;cases h
   |ok q=>
    rw [e] at h
    cases h
    show (_::q.1).length=n+1
    rw [List.length_cons,yH e]
  ·cases h
section
variable {P:Program} {w:World} {K:PySem.W.Frag} {mg:Str->Option Value} {base:Heap} {C CR CP:Addr}
theorem jZ:aO ["reader","width","depth","height","cells","z","y","x","sign"] ["reader","width","depth","height"] (aG kM):=⟨rfl,rfl,rfl,by decide+kernel,rfl,by decide+kernel,by decide+kernel⟩
theorem On {f aS:Addr} {fd:FuncData} (F:fK K "read_cells" "read_cells" kM f fd) (T:Fc K CR) (hrange:mg "range"=none) (hS:∀ H,cN K H aS (cK.map V.int)) (hSg:mg "SIGNS"=some (.ref aS)) (hNC:CI mg "NO_CELL" 46)
  (M1:nZ P w K mg base CR "read_one_of" (iS C P w) 4 ["self","signs"] (pM K CR)) (M2:nZ P w K mg base CR "read_word" (iS C P w) 5 ["self","word"] (lI K CR)):
  bU P w K mg base (iS C P w) 6 f fd ["reader","width","depth","height"] (Ab K CR):=by
 obtain ⟨f1,fd1,m1,G1,b1⟩:=M1.ex
 obtain ⟨f2,fd2,m2,G2,b2⟩:=M2.ex
 refine F.okX jZ (fun vs H Q E h=>?_) (fun cdv A outer s H vs Q E hr h=>?_)
 ·obtain ⟨r,a,l,p,W,D,Hh,rfl,_⟩:=h
  rfl
 ·obtain ⟨r,a,l,p,W,D,Hh,rfl,x,hW,hD,hH,hD0,k⟩:=h
  obtain ⟨⟨dx,h1⟩,tx,le⟩:=id x
  have hr4:=hr.mono (j:=4) (by decide)
  have hu:=lR hr
  refine ⟨_,aF (bI (i:=4) jZ.nd rfl (Or.inl rfl) mP)
   (aF (eU aN.own rfl (nE rfl hrange (aA (pv 3) aE)) (bJ (i:=5) jZ.nd rfl (Or.inl rfl))
    (aH (eU aN.own rfl (nE rfl hrange (aA (pv 2) aE)) (bJ (i:=6) jZ.nd rfl (Or.inl rfl))
     (aF (eU aN.own rfl (nE rfl hrange (aA (pv 1) aE)) (bJ (i:=7) jZ.nd rfl (Or.inl rfl))
      (aF (bI (i:=8) jZ.nd rfl (Or.inl rfl) (cX (pv 0) T.cl m1 G1 hr4 b1 .nil aN.pass (aA (Ao (v:=.ref aS) (by rfl) hSg rfl) aE)))
      (aH (eK (iB aAg (pv 8) (eR hNC) (gU _)) (aH (nQ hu (pv 4) (eN (aA (pv 7) (aA (pv 6) (aA (pv 5) aE)))) (pv 8) rfl)) cF))))
     (aH (cD (cX (pv 0) T.cl m2 G2 hr b2 .nil aN.pass (aA eS aE))))))))
   (aH (aV (pv 4)))),?_⟩
  intro c hc
  have nrc:r≠c:=aD h1 hc
  have sc0:aL H (upd H c (.dT [])):=fun b o e=>by rw [aC (aD e hc)];exact e
  refine ⟨_,rfl,_,rfl,by (clear hu le hD0 hH hD hW;omega),by (clear hu le hD0 hD hW;omega),kX (n:=Hh) (fun z σ H'=>∃ (rs:List (List Int)) (p':Nat) (v5 v6 v7 v8:Option V),σ=[some (.ref r),some (.int W),some (.int D),some (.int Hh),some (.ref c),v5,v6,v7,v8]/\
   rs.length=z * D/\(∀ q∈rs,q.length=W)/\CS CR H r a c l D rs [] p' H'/\bO l W (D * Hh) p=fU rs (bO l W (D * Hh - z * D) p'))
   ⟨[],p,none,none,none,none,rfl,by simp,(fun q hq=>nomatch hq),⟨aL.sx sc0,⟨dx,sc0 _ _ h1⟩,le,aB⟩,by rw [jM,Nat.zero_mul,Nat.sub_zero]⟩ ?_ ?_⟩
  ·rintro z σ H1 hz ⟨rs,p1,v5,v6,v7,v8,rfl,hrl,hrw,cs,e1⟩
   have zD:z * D+D<=D * Hh:=by
    rw [Nat.mul_comm D Hh,<-Nat.succ_mul]
    exact Nat.mul_le_mul_right D hz
   have DH:D * Hh<=16 * 18:=Nat.mul_le_mul hD hH
   refine ⟨_,rfl,_,rfl,by (clear DH zD hrl hz hu le hD0 hH hD hW;omega),by (clear DH zD hrl hz hu le hD0 hH hW;omega),kX (n:=D) (fun y σ H'=>∃ (rs:List (List Int)) (p':Nat) (v6 v7 v8:Option V),σ=[some (.ref r),some (.int W),some (.int D),some (.int Hh),some (.ref c),some (.int z),v6,v7,v8]/\
    rs.length=z * D+y/\(∀ q∈rs,q.length=W)/\CS CR H r a c l D rs [] p' H'/\bO l W (D * Hh) p=fU rs (bO l W (D * Hh - (z * D+y)) p'))
    ⟨rs,p1,v6,v7,v8,rfl,hrl,hrw,cs,e1⟩ ?_ ?_⟩
   ·rintro y σ H2 hy ⟨rs,pr,v6,v7,v8,rfl,hrl,hrw,cs,e1⟩
    obtain ⟨n,hn⟩:∃ n,D * Hh - (z * D+y)=n+1:=⟨D * Hh - (z * D+y) - 1,by (clear hrl DH hz hu le hD0 hH hD hW;omega)⟩
    have hn2:D * Hh - (z * D+(y+1))=n:=by (clear hrl hy DH zD hz hu le hD0 hH hD hW;omega)
    rw [hn] at e1
    have ey:y=rs.length % D:=by
     rw [hrl,Nat.add_comm,Nat.add_mul_mod_self_right,Nat.mod_eq_of_lt hy]
    have ez:z=rs.length / D:=by
     rw [hrl,Nat.add_comm,Nat.add_mul_div_right _ _ hD0,Nat.div_eq_of_lt hy,Nat.zero_add]
    have kE:∀ q,bO l W (D * Hh) p=.error q->∀ H',SX r H H'->E (.int q 0) none H':=fun q e H' s'=>by
     rw [e] at k
     exact k H' s'
    refine ⟨_,rfl,_,rfl,by (clear ez ey hn2 hn hrl hy DH zD hz hu le hD0 hH hD hW;omega),by (clear ez ey hn2 hn hrl hy DH zD hz hu le hD0 hH hD;omega),kX (n:=W) (fun i σ H'=>∃ (xs:List Int) (p':Nat) (v7 v8:Option V),σ=SgC r c W D Hh z y v7 v8/\xs.length=i/\CS CR H r a c l D rs xs p' H'/\bX l W pr=fU xs (bX l (W - i) p'))
     ⟨[],pr,v7,v8,rfl,rfl,cs,by rw [jM,Nat.sub_zero]⟩ ?_ ?_⟩
    ·rintro i σ H3 hi ⟨xs,p',v7,v8,rfl,hx,cs,e2⟩
     exact Gr x hc nrc hS hW (by (clear hx hi ez ey hn2 hn hz hu le hD0 hH hD hW;omega)) hrw hD0 ez ey hi hx cs e2 (fun q e H' s'=>kE q (by rw [e1];exact Mu e) H' s') fun v8 H' xs' q g1 g2 g3=>⟨xs',q,_,v8,rfl,g1,g2,g3⟩
    ·rintro σ H3 ⟨xs,p',v7,v8,rfl,hx,cs,e2⟩
     have e3:bX l W pr=.ok (xs,p'):=by
      rw [e2,Nat.sub_self]
      show Except.ok (xs++[],p')=_
      rw [List.append_nil]
     obtain ⟨dx3,g3⟩:=id cs.rd
     refine ⟨_,rfl,r,dx3,_,rfl,g3,rfl,r,a,l,p',"\n",rfl,x.same cs.sx cs.rd cs.le,?_,?_⟩
     ·rw [pK]
      intro q hq
      rw [List.mem_singleton.mp hq]
      decide
     ·rw [pK]
      have ew:aU l p' [10]=if aR l p'=10 then .ok (p'+1) else .error p':=rfl
      rw [ew]
      by_cases h10:aR l p'=10
      ·rw [if_pos h10]
       intro H4 hr4 le4 s4
       have c4:H4 c=some (.dT (dX D 0 rs++fA (rs.length % D) (rs.length / D) 0 xs)):=s4 _ _ cs.dc (Ne.symm nrc)
       refine ⟨rs++[xs],p'+1,_,v7,v8,rfl,by simp [hrl];(clear le4 h10 hx ez ey hn2 hn hrl hy DH zD hz hu le hD0 hH hD hW;omega),fun q hq=>?_,⟨cs.sx.trans s4,hr4,le4,?_⟩,?_⟩
       ·rcases List.mem_append.mp hq with hq|hq
        ·exact hrw q hq
        ·rw [List.mem_singleton.mp hq];exact hx
       ·have ek:=sM D xs rs 0
        rw [Nat.zero_add] at ek
        rw [ek,c4]
        show _=some (HO.dT ((_++_)++[]))
        rw [List.append_nil]
       ·rw [e1,Xj e3 h10,hn2]
      ·rw [if_neg h10]
       intro H4 s4
       exact kE p' (by rw [e1];exact Tb e3 h10) H4 (cs.sx.trans s4)
   ·rintro σ H2 ⟨rs,p',v6,v7,v8,rfl,hrl,hrw,cs,e1⟩
    exact ⟨rs,p',_,v6,v7,v8,rfl,by rw [hrl,Nat.succ_mul],hrw,cs,by rw [Nat.succ_mul];exact e1⟩
  ·rintro σ H1 ⟨rs,p',v5,v6,v7,v8,rfl,hrl,hrw,cs,e1⟩
   have e2:bO l W (D * Hh) p=.ok (rs,p'):=by
    rw [e1,Nat.mul_comm Hh D,Nat.sub_self]
    show Except.ok (rs++[],p')=_
    rw [List.append_nil]
   rw [e2] at k
   refine ⟨_,rfl,k H1 c cs.rd cs.le cs.sx hc ?_ hrw⟩
   rw [cs.dc]
   show some (HO.dT (_++[]))=_
   rw [List.append_nil]
end
def eI {α β:Type} (r:Except Nat α) (f:α->Except Nat β):Except Nat β:=match r with
 |.ok a=>f a
 |.error i=>.error i
theorem bZ {α β:Type} (a:α) (f:α->Except Nat β):eI (.ok a) f=f a:=rfl
theorem Al {α β:Type} (i:Nat) (f:α->Except Nat β):eI (.error i) f=.error i:=rfl
instance {l:List Int} {p:Nat} {lo hi:Int}:Decidable (jG l p lo hi):=by unfold jG;infer_instance
def gD (l:List Int) (p L:Nat):Except Nat (List Int×Nat):=if jK (aR l p)=true then .ok (bH l p L,p+(bH l p L).length) else .error p
def iU (l:List Int) (p:Nat) (lo hi:Int):Except Nat (Nat×Nat):=if jG l p lo hi then .ok ((eF l p hi).1.toNat,(eF l p hi).2) else .error p
structure aM where
 name:List Int
 w:Nat
 d:Nat
 h:Nat
 g:Nat
 rows:List (List Int)
def dP (l:List Int) (p:Nat):Except Nat (aM×Nat):=
 eI (aU l p [112,97,114,116,32]) fun p1=>eI (gD l p1 8) fun nm=>eI (aU l nm.2 [32]) fun p3=>eI (iU l p3 1 16) fun w=>eI (aU l w.2 [32]) fun p5=>eI (iU l p5 1 16) fun d=>
 eI (aU l d.2 [32]) fun p7=>eI (iU l p7 1 18) fun h=>eI (aU l h.2 [32]) fun p9=>eI (iU l p9 1 9999) fun g=>eI (aU l g.2 [10]) fun p11=>eI (bO l w.1 (d.1 * h.1) p11) fun rs=>.ok (⟨nm.1,w.1,d.1,h.1,g.1,rs.1⟩,rs.2)
theorem Lj:("part ":Str).cps.toList=[112,97,114,116,32]:=by decide+kernel
theorem iI:(" ":Str).cps.toList=[32]:=by decide+kernel
theorem Pt:∀ {l:List Int} {hi:Int} {n p:Nat} {v:Int},1<=v->1<=(dC l hi n p v).1
 |l,hi,0,p,v,h=>h
 |l,hi,n+1,p,v,h=>by
  rw [dC]
  split
  ·rename_i q
   have:=iG q.2.1
   exact Pt (by (clear q;omega))
  ·exact h
theorem Su {l:List Int} {p:Nat} {lo hi:Int} (h:jG l p lo hi):iU l p lo hi=.ok ((eF l p hi).1.toNat,(eF l p hi).2):=if_pos h
theorem Pg {l:List Int} {p:Nat} {lo hi:Int} (h:¬jG l p lo hi):iU l p lo hi=.error p:=if_neg h
section
variable {P:Program} {w:World} {K:PySem.W.Frag} {mg:Str->Option Value} {base:Heap} {C CR CP:Addr}
theorem xN {H:Hp} {r a:Addr} {l:List Int} {p:Nat} {x:Str} {cs:List Nat} {Q:V->Hp->Prop} {E:XK} (hx:x.cps.toList=cs) (h256:∀ c∈cs,c<256) (tx:jI K CR H r a l p)
  (k1:∀ p',aU l p cs=.ok p'->∀ H',jI K CR H' r a l p'->SX r H H'->Q .non H') (k2:∀ i,aU l p cs=.error i->∀ H',SX r H H'->E (.int i 0) none H'):lI K CR [.ref r,.str x] H Q E:=by
 refine ⟨r,a,l,p,x,rfl,tx,by rw [hx];exact h256,?_⟩
 rw [hx]
 cases e:aU l p cs with
 |ok p'=>exact fun H' hr hl s=>k1 p' e H' (tx.same s hr hl) s
 |error i=>exact fun H' s=>k2 i e H' s
theorem Cm {H:Hp} {r a:Addr} {l:List Int} {p:Nat} {lo:Int} {hi:Nat} {Q:V->Hp->Prop} {E:XK} (tx:jI K CR H r a l p) (hlo:0<=lo) (hhi:hi<=100000)
  (k1:∀ v:Nat×Nat,iU l p lo hi=.ok v->v.1<=hi->(1<=lo->1<=v.1)->∀ H',jI K CR H' r a l v.2->SX r H H'->Q (.int v.1) H') (k2:iU l p lo hi=.error p->E (.int p 0) none H):jQ K CR [.ref r,.int lo,.int hi] H Q E:=by
 refine ⟨r,a,l,p,lo,hi,rfl,tx,hlo,by (clear hlo;omega),fun ok H' hr hl h0 hh s=>?_,fun no=>k2 (Pg no)⟩
 have e:=k1 _ (Su ok) (by show (eF l p hi).1.toNat<=hi;(clear h0 hl hhi hlo;omega)) (fun h1=>by
  have z:=Pt (l:=l) (hi:=hi) (n:=l.length - (p+1)) (p:=p+1) (v:=aR l p - 48) (by have:=ok.2.1;(clear hh h0 hl hhi hlo;omega))
  show 1<=(eF l p hi).1.toNat
  unfold eF
  (clear h1 hh h0 hl hhi hlo;omega)) H' (tx.same s hr hl) s
 have z:(((eF l p hi).1.toNat:Nat):Int)=(eF l p hi).1:=by (clear hh hl hhi hlo;omega)
 rw [<-z]
 exact e
def eC (CP:Addr) (H:Hp) (b:Addr) (pr:aM):Prop:=∃ dx nm c,H b=some (.ins CP dx (Mz nm pr.w pr.d pr.h pr.g c))/\H nm=some (.tup (pr.name.map V.int))/\H c=some (.dT (dX pr.d 0 pr.rows))
structure rX (pr:aM):Prop where
 w1:1<=pr.w
 w2:pr.w<=16
 d1:1<=pr.d
 d2:pr.d<=16
 h1:1<=pr.h
 h2:pr.h<=18
 g2:pr.g<=9999
 rw:∀ q∈pr.rows,q.length=pr.w
 rl:pr.rows.length=pr.d * pr.h
 nm:pr.name.length<=8
def Hd (K:PySem.W.Frag) (CR CP:Addr):Sp:=fun vs H Q E=>∃ (r a:Addr) (l:List Int) (p:Nat),vs=[.ref r]/\jI K CR H r a l p/\
 match dP l p with
 |.ok q=>∀ (H':Hp) (b:Addr),jI K CR H' r a l q.2->SX r H H'->H b=none->eC CP H' b q.1->rX q.1->Q (.ref b) H'
 |.error i=>∀ H':Hp,SX r H H'->E (.int i 0) none H'
theorem Er {l:List Int} {w:Nat}:∀ {n p:Nat} {r:List (List Int)×Nat},bO l w n p=.ok r->r.1.length=n
 |0,p,r,h=>by cases h;rfl
 |n+1,p,r,h=>by
  rw [bO] at h
  cases e:fE l w p with
  |error i=>rw [e] at h;cases h
  |ok q=>
   rw [e] at h
   cases e2:bO l w n q.2 with
   |error i=>
    have h:gE q.1 (bO l w n q.2)=.ok r:=h
    rw [e2] at h;cases h
   |ok q2=>
    have h:gE q.1 (bO l w n q.2)=.ok r:=h
    rw [e2] at h
    cases h
    show (_::q2.1).length=n+1
    rw [List.length_cons,Er e2]
theorem sV {l:List Int}:∀ {n p:Nat},(bH l p n).length<=n
 |0,p=>Nat.le_refl _
 |n+1,p=>by
  rw [bH]
  split
  ·rw [List.length_cons];exact Nat.succ_le_succ sV
  ·exact Nat.zero_le _
theorem nW:aO ["reader","name","width","depth","height","weight"] ["reader"] (aG oC):=⟨rfl,rfl,rfl,by decide+kernel,rfl,by decide+kernel,by decide+kernel⟩
end
section
variable {P:Program} {w:World} {K:PySem.W.Frag} {mg:Str->Option Value} {base:Heap} {C CR CP:Addr}
theorem xU {H:Hp} {r a:Addr} {l:List Int} {p L:Nat} {Q:V->Hp->Prop} {E:XK} (tx:jI K CR H r a l p) (hL:L<=1000)
  (k1:∀ v:List Int×Nat,gD l p L=.ok v->∀ (H':Hp) (q:Addr),jI K CR H' r a l v.2->SX r H H'->H' q=some (.tup (v.1.map V.int))->v.1.length<=L->Q (.ref q) H') (k2:gD l p L=.error p->E (.int p 0) none H):oU K CR [.ref r,.int L] H Q E:=by
 refine ⟨r,a,l,p,L,rfl,tx,hL,fun ok H' q hr hl s hq=>?_,fun no=>k2 ?_⟩
 ·exact k1 (bH l p L,p+(bH l p L).length) (if_pos ok) H' q (tx.same s hr hl) s hq sV
 ·exact if_neg (by rw [no];decide)
theorem eV {t u:TS} {D:fZ} {σ:List (Option V)} {H:Hp} (h:t {D with nx:=u D} σ H):Ce t u D σ H:=h
theorem hG {H:Hp} {r a:Addr} {l:List Int} {p:Nat} {x:Str} {cs:List Nat} {D:fZ} {σ:List (Option V)} {E:XK} (hσ:σ[0]?=some (some (.ref r))) (hx:x.cps.toList=cs) (h256:∀ c∈cs,c<256) (tx:jI K CR H r a l p)
  (k2:∀ i,aU l p cs=.error i->∀ H',SX r H H'->E (.int i 0) none H') (k1:∀ p',aU l p cs=.ok p'->∀ H',jI K CR H' r a l p'->SX r H H'->D.nx σ H'):zA (lZ CR "read_word" (lI K CR) [] E (dI 0) (dL (tC (.str x)) gR)) D σ H:=by
 obtain ⟨⟨dx,h1⟩,_,_⟩:=id tx
 exact ⟨_,hσ,r,dx,_,rfl,h1,rfl,xN (Q:=fun _ H1=>D.nx σ H1) hx h256 tx (fun p' e H' x' s'=>k1 p' e H' x' s') k2⟩
theorem Bk {H:Hp} {r a:Addr} {l:List Int} {p i:Nat} {lo hiI:Int} {hi:Nat} {D:fZ} {σ:List (Option V)} {E:XK} (hh:hiI=(hi:Int)) (hσ:σ[0]?=some (some (.ref r))) (tx:jI K CR H r a l p) (hlo:0<=lo) (hhi:hi<=100000)
  (k2:iU l p lo hiI=.error p->E (.int p 0) none H) (k1:∀ v:Nat×Nat,iU l p lo hiI=.ok v->v.1<=hi->(1<=lo->1<=v.1)->∀ H',jI K CR H' r a l v.2->SX r H H'->D.nx (σ.set i (some (.int v.1))) H'):
  Ef (lZ CR "read_number" (jQ K CR) [] E (dI 0) (dL (tC (.int lo)) (dL (tC (.int hiI)) gR))) (mL i) D σ H:=by
 subst hh
 obtain ⟨⟨dx,h1⟩,_,_⟩:=id tx
 exact ⟨_,hσ,r,dx,_,rfl,h1,rfl,Cm (Q:=fun y H1=>D.nx (σ.set i (some y)) H1) tx hlo hhi (fun v e g1 g2 H' x' s'=>k1 v e g1 g2 H' x' s') k2⟩
theorem Ty {H:Hp} {r a:Addr} {l:List Int} {p L i:Nat} {D:fZ} {σ:List (Option V)} {E:XK} (hσ:σ[0]?=some (some (.ref r))) (tx:jI K CR H r a l p) (hL:L<=1000) (k2:gD l p L=.error p->E (.int p 0) none H)
  (k1:∀ v:List Int×Nat,gD l p L=.ok v->∀ (H':Hp) (q:Addr),jI K CR H' r a l v.2->SX r H H'->H' q=some (.tup (v.1.map V.int))->v.1.length<=L->D.nx (σ.set i (some (.ref q))) H'):
  Ef (lZ CR "read_name" (oU K CR) [] E (dI 0) (dL (tC (.int L)) gR)) (mL i) D σ H:=by
 obtain ⟨⟨dx,h1⟩,_,_⟩:=id tx
 exact ⟨_,hσ,r,dx,_,rfl,h1,rfl,xU (Q:=fun y H1=>D.nx (σ.set i (some y)) H1) tx hL (fun v e H' q x' s' g1 g2=>k1 v e H' q x' s' g1 g2) k2⟩
theorem SX.tup {CR r q:Addr} {H H':Hp} {xs:List V} {a:Addr} {p:Nat} (s:SX r H H') (hr:hU CR H r a p) (h:H q=some (.tup xs)):H' q=some (.tup xs):=by
 obtain ⟨dx,g⟩:=hr
 exact s _ _ h (by rintro rfl;rw [g] at h;cases h)
theorem b32:∀ c∈([32]:List Nat),c<256:=by decide
theorem b10:∀ c∈([10]:List Nat),c<256:=by decide
structure PtM (P:Program) (w:World) (K:PySem.W.Frag) (mg:Str->Option Value) (base:Heap) (CP:Addr):Prop where
 ex:∃ f fd,Mk K CP f/\bU P w K mg base bV 1 f fd ["self","name","width","depth","height","weight","cells"] (Jt CP)/\eZ K fd ["self","name","width","depth","height","weight","cells"] []
 mg:mg "Part"=some (.ref CP)
theorem Uf {f:Addr} {fd:FuncData} (F:fK K "read_part" "read_part" oC f fd) (T:Fc K CR) (PM:PtM P w K mg base CP) (c1:CI mg "LONGEST_PART_NAME" 8) (c2:CI mg "MOST_WIDTH" 16) (c3:CI mg "MOST_DEPTH" 16) (c4:CI mg "MOST_HEIGHT" 18) (c5:CI mg "MOST_WEIGHT" 9999)
  (M1:nZ P w K mg base CR "read_word" (iS C P w) 5 ["self","word"] (lI K CR)) (M2:nZ P w K mg base CR "read_name" (iS C P w) 4 ["self","longest"] (oU K CR)) (M3:nZ P w K mg base CR "read_number" (iS C P w) 4 ["self","least","most"] (jQ K CR))
  (L1:dO P w K mg base "read_cells" (iS C P w) 6 ["reader","width","depth","height"] (Ab K CR)):bU P w K mg base (iS C P w) 7 f fd ["reader"] (Hd K CR CP):=by
 obtain ⟨f1,fd1,m1,G1,b1⟩:=M1.ex
 obtain ⟨f2,fd2,m2,G2,b2⟩:=M2.ex
 obtain ⟨f3,fd3,m3,G3,b3⟩:=M3.ex
 obtain ⟨g1,gd1,GC,bC,kC,hC⟩:=L1.ex
 obtain ⟨fp,fdp,MP,GP,bP⟩:=PM.ex
 refine F.okX nW (fun vs H Q E h=>?_) (fun cdv A outer s H vs Q E hr h=>?_)
 ·obtain ⟨r,a,l,p,rfl,_⟩:=h
  rfl
 ·obtain ⟨r,a,l,p,rfl,x,k⟩:=h
  have hr5:=hr.mono (j:=5) (by decide)
  have hr4:=hr.mono (j:=4) (by decide)
  have hr2:=hr.mono (j:=2) (by decide)
  refine ⟨_,aF (cD (cX (pv 0) T.cl m1 G1 hr5 b1 .nil aN.pass (aA eS aE)))
   (aF (bI (i:=1) nW.nd rfl (Or.inl rfl) (cX (pv 0) T.cl m2 G2 hr4 b2 .nil aN.pass (aA (eR c1) aE)))
   (aF (cD (cX (pv 0) T.cl m1 G1 hr5 b1 .nil aN.pass (aA eS aE)))
   (aF (bI (i:=2) nW.nd rfl (Or.inl rfl) (cX (pv 0) T.cl m3 G3 hr4 b3 .nil aN.pass (aA aK (aA (eR c2) aE))))
   (aF (cD (cX (pv 0) T.cl m1 G1 hr5 b1 .nil aN.pass (aA eS aE)))
   (aF (bI (i:=3) nW.nd rfl (Or.inl rfl) (cX (pv 0) T.cl m3 G3 hr4 b3 .nil aN.pass (aA aK (aA (eR c3) aE))))
   (aF (cD (cX (pv 0) T.cl m1 G1 hr5 b1 .nil aN.pass (aA eS aE)))
   (aF (bI (i:=4) nW.nd rfl (Or.inl rfl) (cX (pv 0) T.cl m3 G3 hr4 b3 .nil aN.pass (aA aK (aA (eR c4) aE))))
   (aF (cD (cX (pv 0) T.cl m1 G1 hr5 b1 .nil aN.pass (aA eS aE)))
   (aF (bI (i:=5) nW.nd rfl (Or.inl rfl) (cX (pv 0) T.cl m3 G3 hr4 b3 .nil aN.pass (aA aK (aA (eR c5) aE))))
   (aF (cD (cX (pv 0) T.cl m1 G1 hr5 b1 .nil aN.pass (aA eS aE)))
   (aH (aV (nF MP GP hr2 (by rfl) PM.mg bP .nil aX (aA (pv 1) (aA (pv 2) (aA (pv 3) (aA (pv 4) (aA (pv 5)
    (aA (aQ GC hr (by rfl) hC kC bC .nil aN.pass (aA (pv 0) (aA (pv 2) (aA (pv 3) (aA (pv 4) aE))))) aE))))))))))))))))))),?_⟩
  unfold dP at k
  refine eV (hG rfl Lj (by decide) x (fun i e1 H' s1=>by rw [e1] at k;exact k H' s1) fun p1 e1 H1 x1 s1=>?_)
  rw [e1,bZ] at k
  refine eV (Ty (L:=8) rfl x1 (by decide) (fun e2=>by rw [e2] at k;exact k _ s1) fun nm e2 H2 qn x2 s2 hn hn8=>?_)
  rw [e2,bZ] at k
  have s2:=s1.trans s2
  refine eV (hG rfl iI b32 x2 (fun i e3 H' s3=>by rw [e3] at k;exact k H' (s2.trans s3)) fun p3 e3 H3 x3 s3=>?_)
  rw [e3,bZ] at k
  have hn3:=s3.tup x2.rd hn
  have s3:=s2.trans s3
  refine eV (Bk (lo:=1) (hiI:=16) (hi:=16) rfl rfl x3 (by decide) (by decide) (fun e4=>by rw [e4] at k;exact k _ s3) fun W e4 hW2 hW1 H4 x4 s4=>?_)
  rw [e4,bZ] at k
  have hn4:=s4.tup x3.rd hn3
  have s4:=s3.trans s4
  refine eV (hG rfl iI b32 x4 (fun i e5 H' s5=>by rw [e5] at k;exact k H' (s4.trans s5)) fun p5 e5 H5 x5 s5=>?_)
  rw [e5,bZ] at k
  have hn5:=s5.tup x4.rd hn4
  have s5:=s4.trans s5
  refine eV (Bk (lo:=1) (hiI:=16) (hi:=16) rfl rfl x5 (by decide) (by decide) (fun e6=>by rw [e6] at k;exact k _ s5) fun D e6 hD2 hD1 H6 x6 s6=>?_)
  rw [e6,bZ] at k
  have hn6:=s6.tup x5.rd hn5
  have s6:=s5.trans s6
  refine eV (hG rfl iI b32 x6 (fun i e7 H' s7=>by rw [e7] at k;exact k H' (s6.trans s7)) fun p7 e7 H7 x7 s7=>?_)
  rw [e7,bZ] at k
  have hn7:=s7.tup x6.rd hn6
  have s7:=s6.trans s7
  refine eV (Bk (lo:=1) (hiI:=18) (hi:=18) rfl rfl x7 (by decide) (by decide) (fun e8=>by rw [e8] at k;exact k _ s7) fun Hh e8 hH2 hH1 H8 x8 s8=>?_)
  rw [e8,bZ] at k
  have hn8':=s8.tup x7.rd hn7
  have s8:=s7.trans s8
  refine eV (hG rfl iI b32 x8 (fun i e9 H' s9=>by rw [e9] at k;exact k H' (s8.trans s9)) fun p9 e9 H9 x9 s9=>?_)
  rw [e9,bZ] at k
  have hn9:=s9.tup x8.rd hn8'
  have s9:=s8.trans s9
  refine eV (Bk (lo:=1) (hiI:=9999) (hi:=9999) rfl rfl x9 (by decide) (by decide) (fun e10=>by rw [e10] at k;exact k _ s9) fun g e10 hg2 hg1 H10 x10 s10=>?_)
  rw [e10,bZ] at k
  have hn10:=s10.tup x9.rd hn9
  have s10:=s9.trans s10
  refine eV (hG rfl pK b10 x10 (fun i e11 H' s11=>by rw [e11] at k;exact k H' (s10.trans s11)) fun p11 e11 H11 x11 s11=>?_)
  rw [e11,bZ] at k
  have hn11:=s11.tup x10.rd hn10
  have s11:=s10.trans s11
  obtain ⟨⟨dx,h1⟩,_,_⟩:=id x11
  have hD0:=hD1 (by decide)
  refine ⟨_,rfl,_,rfl,_,rfl,_,rfl,_,rfl,_,rfl,_,rfl,_,rfl,_,rfl,r,a,l,p11,W.1,D.1,Hh.1,rfl,x11,hW2,hD2,hH2,hD0,?_⟩
  cases e12:bO l W.1 (D.1 * Hh.1) p11 with
  |error i=>
   intro H' s'
   rw [e12] at k
   exact k H' (s11.trans s')
  |ok q=>
   intro H12 c hr12 le12 s12 hc hcc hrw
   rw [e12,bZ] at k
   have hn12:=s12 _ _ hn11 (by rintro rfl;rw [h1] at hn11;cases hn11)
   have s12':=s11.trans s12
   intro b db hb hdb hne
   obtain ⟨dx12,g12⟩:=id hr12
   refine ⟨b,db,qn,c,W.1,D.1,Hh.1,g.1,rfl,aB,fun H13 hpt s13=>⟨rfl,?_⟩⟩
   have up:∀ y o,H12 y=some o->upd (upd H12 db (.own b)) b (.ins CP db []) y=some o:=fun y o e=>by rw [aC (aD e hb),aC (aD e hdb)];exact e
   have up2:∀ y o,H12 y=some o->H13 y=some o:=fun y o e=>s13 y o (up y o e) (aD e hb)
   have sH:SX r H H13:=fun y o e hy=>up2 y o (s12' y o e hy)
   have hb0:H b=none:=by
    cases z:H b with
    |none=>rfl
    |some o=>
     have:=s12' b o z (by rintro rfl;rw [g12] at hb;cases hb)
     rw [hb] at this;cases this
   refine k H13 b (x.same sH ⟨dx12,up2 _ _ g12⟩ le12) sH hb0 ⟨db,qn,c,hpt,up2 _ _ hn12,up2 _ _ hcc⟩ ⟨hW1 (by decide),hW2,hD0,hD2,hH1 (by decide),hH2,hg2,hrw,Er e12,hn8⟩
end
def cQ (l:List Int):Nat->Nat->Except Nat (List aM×Nat)
 |0,p=>.ok ([],p)
 |n+1,p=>if p=l.length then .ok ([],p) else eI (dP l p) fun q=>gE q.1 (cQ l n q.2)
def gY (l:List Int):Except Nat (List aM):=eI (dP l 0) fun q=>eI (cQ l 63 q.2) fun r=>if r.2=l.length then .ok (q.1::r.1) else .error r.2
theorem eC.keep {CP:Addr} {H H':Hp} {b:Addr} {pr:aM} (h:eC CP H b pr) (k:∀ y o,H y=some o->(y=b\/(∃ xs,o=.tup xs)\/∃ aI,o=.dT aI)->H' y=some o):eC CP H' b pr:=by
 obtain ⟨dx,nm,c,h1,h2,h3⟩:=h
 exact ⟨dx,nm,c,k _ _ h1 (.inl rfl),k _ _ h2 (.inr (.inl ⟨_,rfl⟩)),k _ _ h3 (.inr (.inr ⟨_,rfl⟩))⟩
theorem eC.same {CP:Addr} {H H':Hp} {b:Addr} {pr:aM} (h:eC CP H b pr) (s:aL H H'):eC CP H' b pr:=h.keep fun y o e _=>s y o e
theorem eC.sx {CP CR r a:Addr} {p:Nat} {H H':Hp} {b:Addr} {pr:aM} (h:eC CP H b pr) (hb:b≠r) (hr:hU CR H r a p) (s:SX r H H'):eC CP H' b pr:=by
 obtain ⟨dx,g⟩:=hr
 refine h.keep fun y o e z=>s y o e ?_
 rintro rfl
 rw [g] at e
 cases e
 rcases z with z|⟨_,z⟩|⟨_,z⟩
 ·exact hb z.symm
 ·cases z
 ·cases z
theorem eC.list {CP q:Addr} {H:Hp} {b:Addr} {pr:aM} {xs ys:List V} (h:eC CP H b pr) (hq:H q=some (.lst xs)):eC CP (upd H q (.lst ys)) b pr:=by
 have hb:b≠q:=by
  obtain ⟨dx,nm,c,h1,_⟩:=h
  rintro rfl
  rw [h1] at hq
  cases hq
 refine h.keep fun y o e z=>?_
 rw [aC ?_]
 ·exact e
 ·rintro rfl
  rw [hq] at e
  cases e
  rcases z with z|⟨_,z⟩|⟨_,z⟩
  ·exact hb z.symm
  ·cases z
  ·cases z
def dS (CP:Addr) (H:Hp) (bs:List Addr) (prs:List aM):Prop:=Paired (fun b pr=>eC CP H b pr/\rX pr) bs prs
section
variable {P:Program} {w:World} {K:PySem.W.Frag} {mg:Str->Option Value} {base:Heap} {C CR CP:Addr}
def Ik (K:PySem.W.Frag) (CP:Addr):Sp:=fun vs H Q E=>∃ (a:Addr) (l:List Int),vs=[.ref a]/\dE K H a (l.map V.int)/\
 match gY l with
 |.ok prs=>∀ (H':Hp) (q:Addr) (bs:List Addr),aL H H'->H' q=some (.lst (bs.map V.ref))->dS CP H' bs prs->prs.length<=64->1<=prs.length->Q (.ref q) H'
 |.error i=>∀ H':Hp,aL H H'->E (.int i 0) none H'
theorem Ga:aO ["c","reader","parts"] ["c"] (aG pR):=⟨rfl,rfl,rfl,by decide+kernel,rfl,by decide+kernel,by decide+kernel⟩
structure RdK (P:Program) (w:World) (K:PySem.W.Frag) (mg:Str->Option Value) (base:Heap) (CR:Addr):Prop where
 ex:∃ f fd,Mk K CR f/\bU P w K mg base bV 1 f fd ["self","text"] (aAk CR)/\eZ K fd ["self","text"] []
 mg:mg "Reader"=some (.ref CR)
def aAw (CR CP:Addr) (H:Hp) (r a q:Addr) (l:List Int) (p0 m:Nat) (pr0:aM) (σ:List (Option V)) (H':Hp):Prop:=
 ∃ (ps:List aM) (bs:List Addr) (p':Nat),σ=[some (.ref a),some (.ref r),some (.ref q)]/\ps.length+m=63/\p'<=l.length/\aL H H'/\hU CR H' r a p'/\H' q=some (.lst (bs.map V.ref))/\
  Paired (fun b pr=>b≠r/\eC CP H' b pr/\rX pr) bs (pr0::ps)/\cQ l 63 p0=fU ps (cQ l m p')
theorem Wz {f:Addr} {fd:FuncData} (F:fK K "read_catalogue" "read_catalogue" pR f fd) (T:Fc K CR) (RK:RdK P w K mg base CR) (hlen:mg "len"=none) (c1:CI mg "MOST_PARTS" 64) (M1:nZ P w K mg base CR "ended" bV 1 ["self"] (nL K CR))
  (M2:nZ P w K mg base CR "read_end" (iS C P w) 3 ["self"] (yK K CR)) (L1:dO P w K mg base "read_part" (iS C P w) 7 ["reader"] (Hd K CR CP)):bU P w K mg base (iS C P w) 8 f fd ["c"] (Ik K CP):=by
 obtain ⟨f1,fd1,m1,G1,b1⟩:=M1.ex
 obtain ⟨f2,fd2,m2,G2,b2⟩:=M2.ex
 obtain ⟨g1,gd1,GP,bP,kP,hP⟩:=L1.ex
 obtain ⟨fr,fdr,MR,GR,bR⟩:=RK.ex
 refine F.okX Ga (fun vs H Q E h=>?_) (fun cdv A outer s H vs Q E hr h=>?_)
 ·obtain ⟨a,l,rfl,_⟩:=h
  rfl
 ·obtain ⟨a,l,rfl,tx,k⟩:=h
  have hr3:=hr.mono (j:=3) (by decide)
  have hr2:=hr.mono (j:=2) (by decide)
  have hr1:=hr.mono (j:=1) (by decide)
  refine ⟨_,aF (bI (i:=1) Ga.nd rfl (Or.inl rfl) (nF MR GR hr2 (by rfl) RK.mg bR .nil aX (aA (pv 0) aE)))
   (aF (bI (i:=2) Ga.nd rfl (Or.inl rfl) (eG (aA (aQ GP hr (by rfl) hP kP bP .nil aN.pass (aA (pv 1) aE)) aE)))
   (aF (jW aN.own (gX (eB (Is (bS bW (by rfl) hlen PySem.boot_len (aA (pv 2) aE)) (eR c1))) (hZ (kU (eE (cB (pv 1) T.cl m1 G1 hr1 b1 .nil aX))))).pt
    (aH (cD (mD PySem.F.plainAttrs_list PySem.F.slot_list_append PySem.F.type_list_append gG (pv 2) (aA (aQ GP hr (by rfl) hP kP bP .nil aN.pass (aA (pv 1) aE)) aE)))))
   (aF (cD (cB (pv 1) T.cl m2 G2 hr3 b2 .nil aN.pass))
   (aH (aV (pv 2)))))),?_⟩
  refine ⟨_,rfl,fun r dr nr ndr ndrr=>?_⟩
  refine ⟨r,dr,a,rfl,aB,fun H1 hr1 s1=>⟨rfl,?_⟩⟩
  have up:∀ y o,H y=some o->H1 y=some o:=fun y o e=>s1 y o (by rw [aC (aD e nr),aC (aD e ndr)];exact e) (aD e nr)
  have S1:aL H H1:=up
  have x1:jI K CR H1 r a l 0:=⟨hr1,S1.seq tx,Nat.zero_le _⟩
  have sxs:∀ {H2:Hp},SX r H1 H2->aL H H2:=fun s2 y o e=>s2 y o (S1 y o e) (aD e nr)
  unfold gY at k
  refine ⟨_,rfl,r,a,l,0,rfl,x1,?_⟩
  cases e1:dP l 0 with
  |error i=>
   intro H' s'
   rw [e1] at k
   exact k H' (sxs s')
  |ok q0=>
   intro H2 b0 x2 s2 nb0 pa0 po0
   rw [e1,bZ] at k
   refine ⟨by show 1<=sizeLine;decide,fun q hq=>?_⟩
   have hb0:b0≠r:=fun z=>by rw [z] at nb0;obtain ⟨dx,g⟩:=hr1;rw [nb0] at g;cases g
   have sq:aL H2 (upd H2 q (.lst [.ref b0])):=fun b o e=>by rw [aC (aD e hq)];exact e
   have hqH:H q=none:=(sxs s2).free hq
   obtain ⟨dx2,g2⟩:=x2.rd
   refine ⟨fun m=>aAw CR CP H r a q l q0.2 m q0.1,⟨63,[],[b0],q0.2,rfl,rfl,x2.le,(sxs s2).trans sq,⟨dx2,sq _ _ g2⟩,aB,.cons ⟨hb0,pa0.same sq,po0⟩ .nil,by rw [jM]⟩,?_⟩
   rintro m σ H3 ⟨ps,bs,p',rfl,hm,lp,S3,hr3,hq3,pp,e3⟩
   have x3:jI K CR H3 r a l p':=⟨hr3,S3.seq tx,lp⟩
   obtain ⟨dx3,g3⟩:=id hr3
   have hbl:bs.length=ps.length+1:=by
    have:=Paired.length pp
    rw [List.length_cons] at this
    exact this
   have nrq:r≠q:=fun z=>by rw [z,hq3] at g3;cases g3
   have fin:cQ l m p'=.ok ([],p')->Ce (zA (lZ CR "read_end" (yK K CR) [] E (dI 1) gR)) (Xv (dI 2)) {nx:=fun _ H'=>Q .non H',rt:=Q} [some (.ref a),some (.ref r),some (.ref q)] H3:=by
    intro e4
    have e5:cQ l 63 q0.2=.ok (ps,p'):=by
     rw [e3,e4]
     show Except.ok (ps++[],p')=_
     rw [List.append_nil]
    rw [e5,bZ] at k
    refine ⟨_,rfl,r,dx3,_,rfl,g3,rfl,r,a,l,p',rfl,x3,fun he=>⟨_,rfl,?_⟩,fun he=>?_⟩
    ·have he:p'=l.length:=he
     rw [if_pos he] at k
     refine k H3 q bs S3 hq3 (Paired.mapP pp fun _ _ z=>z.2) ?_ ?_
     ·show (q0.1::ps).length<=64
      rw [List.length_cons]
      (clear he hbl lp;omega)
     ·show 1<=(q0.1::ps).length
      rw [List.length_cons]
      (clear he hbl lp hm;omega)
    ·have he:¬p'=l.length:=he
     rw [if_neg he] at k
     exact k H3 S3
   refine ⟨_,rfl,q,_,rfl,.inl (dE.of hq3),_,_,rfl,rfl,_,rfl,cE (fun hlt=>?_) (fun hlt=>tG (fin ?_))⟩
   ·have hlt:((bs.map V.ref).length:Int)<64:=of_decide_eq_true hlt
    rw [List.length_map] at hlt
    obtain ⟨n,rfl⟩:∃ n,m=n+1:=⟨m - 1,by (clear lp;omega)⟩
    refine ⟨_,rfl,r,dx3,_,rfl,g3,rfl,r,a,l,p',rfl,x3,_,rfl,cE (fun hne=>?_) (fun hne=>fin ?_)⟩
    ·rw [Bool.not_eq_true',decide_eq_false_iff_not] at hne
     refine ⟨aAw CR CP H r a q l q0.2 n q0.1,fun _ _ z=>⟨n,Nat.lt_succ_self n,z⟩,?_⟩
     refine ⟨_,rfl,.inl ⟨rfl,_,dE.of hq3⟩,_,rfl,r,a,l,p',rfl,x3,?_⟩
     have e4:cQ l (n+1) p'=eI (dP l p') fun q=>gE q.1 (cQ l n q.2):=if_neg hne
     cases e5:dP l p' with
     |error i=>
      intro H' s'
      have e6:cQ l 63 q0.2=.error i:=by
       rw [e3,e4,e5]
       rfl
      rw [e6] at k
      exact k H' fun y o e=>s' y o (S3 y o e) (aD e nr)
     |ok q1=>
      intro H4 b4 x4 s4 nb4 pa4 po4
      have hq4:H4 q=some (.lst (bs.map V.ref)):=s4 _ _ hq3 (Ne.symm nrq)
      refine ⟨q,_,_,rfl,rfl,hq4,?_,?_⟩
      ·rw [List.length_map]
       have:=bE
       (clear hne hm hbl lp;omega)
      ·have hb4:b4≠r:=fun z=>by rw [z,g3] at nb4;cases nb4
       obtain ⟨dx4,g4⟩:=x4.rd
       refine ⟨ps++[q1.1],bs++[b4],q1.2,rfl,by simp;(clear hne hlt hbl lp;omega),x4.le,fun y o e=>?_,⟨dx4,by rw [aC nrq];exact g4⟩,by rw [aB,List.map_append];rfl,?_,?_⟩
       ·have e7:=S3 y o e
        have e8:=s4 y o e7 (aD e nr)
        rw [aC (aD e hqH)]
        exact e8
       ·have pp2:Paired (fun b pr=>b≠r/\eC CP (upd H4 q (.lst (bs.map V.ref++[V.ref b4]))) b pr/\rX pr) bs (q0.1::ps):=Paired.mapP pp fun b pr z=>⟨z.1,(z.2.1.sx z.1 hr3 s4).list hq4,z.2.2⟩
        exact Paired.snoc pp2 ⟨hb4,pa4.list hq4,po4⟩
       ·rw [e3,e4,e5,bZ,iO]
    ·rw [Bool.not_eq_true',decide_eq_false_iff_not,Classical.not_not] at hne
     exact if_pos hne
   ·have hlt:¬((bs.map V.ref).length:Int)<64:=fun z=>hlt (decide_eq_true z)
    rw [List.length_map] at hlt
    rw [show m=0 by (clear lp;omega)]
    rfl
end
end Br1
namespace L2
open PySem PySem.Spec PyProof.Rows
section
variable {prog:Program} {w:World} {A:Around} {E:Value->Shared->Prop} {s:Shared} {d:Addr} {o:Obj} {es:Array DictEntry} {ep:Nat}
theorem yS (hs:(d==sysModules)=false):MeetsIn prog w (Builtin.«dict.items» ⟨[.ref d],[]⟩) (fun _ R s=>s.TypeIs (.ref d) "dict"/\
  R (.ok (.ret (.ref s.heap.objs.size))) {s with heap:=s.heap.push {cls:=.type "dict_items",data:=.fields #[.ref d]}}):=
 .of_wp fun A R s ⟨hm,h⟩=>by
  unfold Builtin.«dict.items» Builtin.Dict.noArgs
  refine wpAny_bind (wpAny_bind (wpAny_notOrdered_dict hm ?_))
  show wpAny _ _ (pure d) _ _ s
  refine wpAny_pure ?_
  show wpAny _ _ (Builtin.Dict.showsAll d>>=_) _ _ s
  unfold Builtin.Dict.showsAll
  rw [if_neg (by rw [hs];exact Bool.false_ne_true)]
  exact wpAny_bind (wpAny_pure (wpAny_bind (wpAny_newObj_type (wpAny_pure ⟨_,rfl,h⟩))))
theorem Bw {v:Addr} {n:Nat} {Q:Value->Shared->Prop} (hv:s.heap.IsItemsView v d) (ho:s.heap.get? d=some o) (hdat:o.data=.dict es ep) (hn:es.size=n)
  (hQ:Q (.ref s.heap.objs.size) {s with heap:=s.heap.push {cls:=.type "dict_itemiterator",data:=.fields #[.none,.bool false,.ref d,.int 0 0,.int n 0,.int ep 0,.none,.none]}}):
  wpAny (model prog w) A (pyIter (.ref v)) Q E s:=by
 obtain ⟨ov,hov,hcv,hdv⟩:=id hv
 refine wpAny_pyIter_slot hv.typeIs F.slot_dict_items_iter (wpAny_call_entry F.slot_dict_items_iter hv.typeIs F.entry_dict_items_iter ?_ (F.args_dict_items_iter_1 _))
 unfold Builtin.«dict_items.__iter__»
 refine wpAny_bind (wpAny_pure (wpAny_bind ?_))
 unfold Builtin.Dict_items.dictOf
 refine wpAny_bind (wpAny_field hov hdv (x:=.ref d) rfl (wpAny_pure (wpAny_bind ?_)))
 unfold Builtin.Dict_items.newIterator
 refine wpAny_bind (wpAny_dictEntries ho hdat (wpAny_bind (wpAny_dictEpoch ho hdat ?_)))
 have hown:Builtin.Dict_items.ownsTuple "dict_itemiterator"=true:=by decide
 simp only [hown,if_true]
 refine wpAny_newObj_type (wpAny_pure ⟨_,rfl,"dict_itemiterator",_,⟨_,Heap.get?_push_size _ rfl,rfl⟩,F.slot_dict_itemiterator_next.lookup,?_⟩)
  (by simp only [sizeOk,Builtin.Dict_items.ownedTupleFields,List.size_toArray,List.length_append,List.length_cons,List.length_nil,sizeLine_eq];(clear hn;omega))
 simpa [rawInt,hn,Builtin.Dict_items.ownedTupleFields] using hQ
theorem Pq {it:Addr} {i n:Nat} {en:DictEntry} {ok ov:Value} {Q:Option Value->Shared->Prop} (hit:IsItemIter s.heap it d i n ep ok ov) (hod:s.heap.get? d=some o) (hdd:o.data=.dict es ep) (hsz:es.size=n) (hen:es[i]?=some en)
  (hQ:∀ h',IsItemIterOut h' it d (i+1) n ep en.key en.val s.heap.objs.size->h'.get? s.heap.objs.size=some {cls:=.type "tuple",data:=.seq #[en.key,en.val]}->
   (∀ b ob,b≠it->s.heap.get? b=some ob->h'.get? b=some ob)->Q (some (.ref s.heap.objs.size)) {s with heap:=h'}):
  wpAny (model prog w) A (pyNext (.ref it)) Q E s:=by
 obtain ⟨hp,g,dr,tk,os⟩:=s
 have hT:Shared.TypeIs ⟨hp,g,dr,tk,os⟩ (.ref it) "dict_itemiterator":=⟨_,hit,rfl⟩
 obtain ⟨hlt,hev⟩:=Array.getElem?_eq_some_iff.mp hen
 unfold pyNext
 refine wpAny_bind (wpAny_attempt (wpAny_callSpecial?_slot (name:=Str.ofString "__next__") hT F.slot_dict_itemiterator_next
  (wpAny_call_entry F.slot_dict_itemiterator_next hT F.entry_dict_itemiterator_next ?_ (F.args_dict_itemiterator_next_1 _))))
 refine wpAny_bind (wpAny_pure (wpAny_bind (wpAny_bind ?_)))
 first|refine wpAny_bind (wpAny_typeNameOfWhole_itemiter hT (wpAny_pure ?_))|refine wpAny_bind (wpAny_typeNameOf_itemiter hT (wpAny_pure ?_))
 refine wpAny_bind (wpAny_fieldsOf hit rfl ?_)
 have hown:Builtin.Dict_items.ownsTuple "dict_itemiterator"=true:=by decide
 simp only [hown,if_true]
 show wpAny _ _ (if (Value.ref d==Value.none)=true then _ else _) _ _ _
 rw [if_neg (show ¬((Value.ref d==Value.none)=true) from Bool.false_ne_true)]
 refine wpAny_bind (wpAny_pure (wpAny_bind (wpAny_dictEntries hod hdd ?_)))
 rw [if_neg (by rw [hsz];simp)]
 refine wpAny_bind (wpAny_pure (wpAny_bind (wpAny_dictEpoch hod hdd ?_)))
 rw [if_neg (by simp)]
 refine wpAny_pure ?_
 simp only [show ¬((i:Int)<0) from by (clear hsz;omega),if_false,Int.toNat_natCast,hen]
 refine wpAny_bind ?_
 first|refine wpAny_bind (wpAny_typeNameOfWhole_itemiter hT (wpAny_pure ?_))|refine wpAny_bind (wpAny_typeNameOf_itemiter hT (wpAny_pure ?_))
 refine wpAny_bind (wpAny_isOneOf_itemiter hT ?_)
 show wpAny _ _ (setField (.ref it) 3 (rawInt ((i:Int)+1))>>=_) _ _ ⟨hp,g,dr,tk,os⟩
 refine wpAny_bind (wpAny_setField_rec hit (by simp) fun h1 he1 hs1=>?_)
 replace hs1:Heap.SameBut it hp h1:=hs1
 replace he1:IsItemIter h1 it d (i+1) n ep ok ov:=by
  have e:((i+1:Nat):Int)=(i:Int)+1:=by (clear hsz;omega)
  unfold IsItemIter;rw [e];simpa [rawInt] using he1
 have hT1:Shared.TypeIs ⟨h1,g,dr,tk,os⟩ (.ref it) "dict_itemiterator":=⟨_,he1,rfl⟩
 refine wpAny_bind (wpAny_holding (wpAny_bind (wpAny_isOneOf_itemiter hT1 (wpAny_bind (wpAny_isOneOf_itemiter hT1 ?_)))))
 show wpAny _ _ (Builtin.Dict_items.pairFromOwner (.ref it) 6 en.key en.val) _ _ ⟨h1,g,dr,tk,os⟩
 unfold Builtin.Dict_items.pairFromOwner
 refine wpAny_bind (wpAny_newTuple ?_)
 have he2:IsItemIter (h1.push {cls:=.type "tuple",data:=.seq #[en.key,en.val]}) it d (i+1) n ep ok ov:=Heap.get?_push_of_some _ he1
 generalize hh2:h1.push {cls:=.type "tuple",data:=.seq #[en.key,en.val]}=h2 at he2
 have hz1:h1.objs.size=hp.objs.size:=hs1.1
 have hil:it<hp.objs.size:=Heap.lt_size hit
 have ht2:h2.get? hp.objs.size=some {cls:=.type "tuple",data:=.seq #[en.key,en.val]}:=by rw [<-hh2,<-hz1];exact Heap.get?_push_size _ rfl
 have hk2:∀ b ob,b≠it->hp.get? b=some ob->h2.get? b=some ob:=fun b ob hb e=>by rw [<-hh2];exact Heap.get?_push_of_some _ (hs1.extBut b ob hb e)
 show wpAny _ _ (Builtin.Dict_items.ownedTupleIsFree (.ref it)>>=_) _ _ ⟨h2,g,dr,tk,os⟩
 rw [hz1]
 clear hh2 he1 hs1 hT1 hz1 h1
 refine wpAny_bind ?_
 unfold Builtin.Dict_items.ownedTupleIsFree
 refine wpAny_bind (wpAny_field he2 rfl (x:=.none) rfl (wpAny_pure ?_))
 simp only [if_true]
 refine wpAny_bind (wpAny_field he2 rfl (x:=ok) rfl (wpAny_bind (wpAny_field he2 rfl (x:=ov) rfl ?_)))
 refine wpAny_bind (wpAny_setField_rec he2 (by simp) fun h3 he3 hs3=>?_)
 replace hs3:Heap.SameBut it h2 h3:=hs3
 replace he3:IsItemIter h3 it d (i+1) n ep en.key ov:=he3
 refine wpAny_bind (wpAny_setField_rec he3 (by simp) fun h4 he4 hs4=>?_)
 replace hs4:Heap.SameBut it h3 h4:=hs4
 replace he4:IsItemIter h4 it d (i+1) n ep en.key en.val:=he4
 refine wpAny_bind (wpAny_setField_rec he4 (by simp) fun h5 he5 hs5=>?_)
 replace hs5:Heap.SameBut it h4 h5:=hs5
 replace he5:IsItemIterOut h5 it d (i+1) n ep en.key en.val hp.objs.size:=he5
 refine wpAny_bind (wpAny_setField_rec he5 (by simp) fun h6 he6 hs6=>?_)
 replace hs6:Heap.SameBut it h5 h6:=hs6
 replace he6:IsItemIterOut h6 it d (i+1) n ep en.key en.val hp.objs.size:=he6
 have keep:∀ b ob,b≠it->h2.get? b=some ob->h6.get? b=some ob:=fun b ob hb e=>hs6.extBut b ob hb (hs5.extBut b ob hb (hs4.extBut b ob hb (hs3.extBut b ob hb e)))
 exact wpAny_bind (wpAny_letGo (wpAny_pure (wpAny_pure ⟨_,rfl,wpAny_pure (hQ h6 he6 (keep _ _ (Nat.ne_of_gt hil) ht2) fun b ob hb e=>keep b ob hb (hk2 b ob hb e))⟩)))
theorem Sv {it:Addr} {i n:Nat} {ok ov:Value} {Q:Option Value->Shared->Prop} (hh:A.handled=none) (hit:IsItemIter s.heap it d i n ep ok ov) (hod:s.heap.get? d=some o) (hdd:o.data=.dict es ep) (hsz:es.size=n) (hge:n<=i)
  (hQ:∀ h',Heap.ExtBut it s.heap h'->Q none {s with heap:=h'}):wpAny (model prog w) A (pyNext (.ref it)) Q E s:=by
 have hT:s.TypeIs (.ref it) "dict_itemiterator":=⟨_,hit,rfl⟩
 unfold pyNext
 refine wpAny_bind (wpAny_attempt (wpAny_callSpecial?_slot (name:=Str.ofString "__next__") hT F.slot_dict_itemiterator_next
  (wpAny_call_entry F.slot_dict_itemiterator_next hT F.entry_dict_itemiterator_next ?_ (F.args_dict_itemiterator_next_1 _))))
 refine wpAny_bind (wpAny_pure (wpAny_bind (wpAny_bind ?_)))
 first|refine wpAny_bind (wpAny_typeNameOfWhole_itemiter hT (wpAny_pure ?_))|refine wpAny_bind (wpAny_typeNameOf_itemiter hT (wpAny_pure ?_))
 refine wpAny_bind (wpAny_fieldsOf hit rfl ?_)
 have hown:Builtin.Dict_items.ownsTuple "dict_itemiterator"=true:=by decide
 simp only [hown,if_true]
 show wpAny _ _ (if (Value.ref d==Value.none)=true then _ else _) _ _ s
 rw [if_neg (show ¬((Value.ref d==Value.none)=true) from Bool.false_ne_true)]
 refine wpAny_bind (wpAny_pure (wpAny_bind (wpAny_dictEntries hod hdd ?_)))
 rw [if_neg (by rw [hsz];simp)]
 refine wpAny_bind (wpAny_pure (wpAny_bind (wpAny_dictEpoch hod hdd ?_)))
 rw [if_neg (by simp)]
 refine wpAny_pure ?_
 have hno:es.size<=i:=by rw [hsz];exact hge
 simp only [show ¬((i:Int)<0) from by (clear hno hge hsz;omega),if_false,Int.toNat_natCast,Array.getElem?_eq_none hno]
 refine wpAny_bind ?_
 first|refine wpAny_bind (wpAny_typeNameOfWhole_itemiter hT (wpAny_pure ?_))|refine wpAny_bind (wpAny_typeNameOf_itemiter hT (wpAny_pure ?_))
 show wpAny _ _ (setField (.ref it) 2 .none>>=_) _ _ s
 refine wpAny_bind (wpAny_setField hit rfl (by simp) ?_)
 show wpAny _ _ (newExc (.type "StopIteration") []>>=_) _ _ _
 refine wpAny_bind ?_
 simp only [newExc,newTuple]
 refine wpAny_bind (wpAny_newObj_type ?_ (by size_fits))
 refine wpAny_bind (m:=firstArgMember _ _) (wpAny_of_eq (a:=Value.none) (by first|rfl|(simp only [firstArgMember];rfl)) ?_)
 refine wpAny_newObj_type ?_ (by size_fits)
 simp only [raiseNew]
 refine wpAny_bind (wpAny_handled ?_)
 rw [show A.in1.handled=none from hh]
 refine wpAny_bind (wpAny_pure (wpAny_throw ?_))
 refine wpAny_bind (wpAny_isInstance (T:="StopIteration") (b:=true) ⟨_,Heap.get?_push_size _ rfl,rfl⟩ isSubtype_stop ?_)
 exact wpAny_pure (hQ _ (((Heap.SameBut.update ..).extBut.push _).push _))
end
section
variable {X:Cx} {pins:List (Addr×Obj)} {σ:St} {H:Hp} {s:Shared} {d:Addr} {o:Obj}
theorem aP.frzT2 {aI:List (List eD×V)} (I:aP X pins σ H s) (h:H d=some (.frz o (.dT aI))):
  (d==sysModules)=false/\s.heap.get? d=some o/\o.ExactDict/\∃ (es:Array DictEntry) (ep:Nat),o.data=.dict es ep/\es.size=aI.length/\
   ∀ (i:Nat) (k:List eD) (v:V),aI[i]?=some (k,v)->∃ (en:DictEntry) (q:Addr),es[i]?=some en/\en.key=.ref q/\H q=some (.tup (k.map kV))/\cA v en.val:=by
 obtain ⟨hd,z,hs,xs,pr,o',es,ep,ho,hx,hdt,he,_⟩:=I.hok d _ h
 rw [hd] at ho
 cases ho
 refine ⟨hs,hd,hx,es,ep,hdt,?_,fun i k v e=>?_⟩
 ·have l1:es.size=xs.length:=size_of_entries he
  have l2:aI.length=xs.length:=Paired.length pr
  (clear z;omega)
 ·obtain ⟨b,hb,e1,e2,e3⟩:=pC pr e
  have q:=entry_at he i
  rw [hb] at q
  exact ⟨_,b.2.1,q,rfl,e2,e3⟩
end
def Go (d:Addr) (o:Obj) (aI:List (List eD×V)):It:=
 ⟨fun i H=>H d=some (.frz o (.dT aI))/\i<aI.length,fun i H x H'=>∃ T k v q,aI[i]?=some (k,v)/\x=.ref T/\H T=none/\H q=some (.tup (k.map kV))/\H'=upd H T (.tup [.ref q,v]),fun i H=>H d=some (.frz o (.dT aI))/\aI.length<=i⟩
theorem sL {P:Program} {w:World} {K:PySem.W.Frag} {d:Addr} {o:Obj} {es:Array DictEntry} {ep:Nat} {aI:List (List eD×V)} {elts:List Expr} {kk:Nat} {tpos:Pos} (it:Addr) (hod:o.data=.dict es ep):
  vD P w K (.Tuple elts kk tpos) (Go d o aI) [it] it (fun i h=>∃ ok ov,IsItemIter h it d i aI.length ep ok ov) where
 mem:=by simp
 obj:=fun i h st b hb=>by
  have e:b=it:=by simpa using hb
  subst e
  obtain ⟨ok,ov,e⟩:=st
  exact ⟨_,e,fun v z=>nomatch z⟩
 keep:=fun i h h' st k=>let ⟨ok,ov,e⟩:=st;⟨ok,ov,k it (by simp) _ e⟩
 item:=by
  intro X hP hw hK hc i pins s σ H E I hf st hg
  subst hP hw hK
  obtain ⟨hd,hi⟩:=hg
  obtain ⟨hs,hgd,hx,es',ep',hdt,hsz,ent⟩:=I.frzT2 hd
  obtain ⟨rfl,rfl⟩:=nJ hod hdt
  obtain ⟨⟨k,v⟩,hkv⟩:∃ p,aI[i]?=some p:=⟨aI[i],List.getElem?_eq_getElem hi⟩
  obtain ⟨en,q,hen,hkey,hq,ru⟩:=ent i k v hkv
  obtain ⟨ok,ov,he⟩:=st
  have hlt:it<s.heap.objs.size:=Heap.lt_size he
  refine Pq he hgd hdt hsz hen fun h' ho hT hk=>?_
  refine ⟨_,rfl,wpAny_letOwnedTupleGo_items (s:={s with heap:=h'}) ho fun h'' he' sb=>?_⟩
  have hT2:h''.get? s.heap.objs.size=some {cls:=.type "tuple",data:=.seq #[en.key,en.val]}:=(sb.2 _ (Nat.ne_of_gt hlt)).trans hT
  have new:cJ X.prog X.w (upd H s.heap.objs.size (.tup [.ref q,v])) h'' s.heap.objs.size (.tup [.ref q,v]):=
   ⟨by show 2<=sizeLine;decide,[en.key,en.val],.cons hkey (.cons ru .nil),⟨_,hT2,rfl,_,rfl⟩⟩
  have I1:aP X pins σ (upd H s.heap.objs.size (.tup [.ref q,v])) {s with heap:=h''}:=
   I.turnedNew (t':=s.toks) (ch:=[it]) (fun b ob hb e=>(sb.2 b (by simpa using hb)).trans (hk b ob (by simpa using hb) e)) hf (Nat.le_refl _) new
  refine ⟨.ref s.heap.objs.size,_,I1,rfl,⟨_,k,v,q,hkv,rfl,I.hok.fresh (Nat.le_refl _),hq,rfl⟩,⟨en.key,en.val,he'⟩,fun b hb=>?_⟩
  have e:b=it:=by simpa using hb
  rw [e,aC (Nat.ne_of_lt hlt)]
  exact (hf it (by simp)).1
 done:=by
  intro X hP hw hK hc i pins s σ H E I hf st hg
  subst hP hw hK
  obtain ⟨hd,hi⟩:=hg
  obtain ⟨f0,f1,f2,f3,f4,f5⟩:=hf it (by simp)
  obtain ⟨hs,hgd,hx,es',ep',hdt,hsz,ent⟩:=I.frzT2 hd
  obtain ⟨rfl,rfl⟩:=nJ hod hdt
  obtain ⟨ok,ov,he⟩:=st
  exact Sv (I.ok.hd hc) he hgd hdt hsz hi fun h' eb=>⟨rfl,I.turned (t':=s.toks) (fun b ob hb e=>eb b ob hb e) f0 f1 f3 f4 f5⟩
 self:=fun A i s Q E st h=>let ⟨_,_,e⟩:=st;PySem.W.kcp_self e h
def Ts (td:TE):TI:=fun σ H R=>td σ H fun x H1=>∃ d o aI,x=.ref d/\H1 d=some (.frz o (.dT aI))/\R (Go d o aI) H1
theorem jX {X:Cx} {e:Expr} {td:TE} {apos cpos:Pos} {elts:List Expr} {kk:Nat} {tpos:Pos} (he:PE X e td) (hbase:attributeBase e "items" X.env (eval e X.env)=eval e X.env:=by rfl) (hline:(apos.endLine==cpos.line)=true:=by rfl):
  PI X (.Tuple elts kk tpos) (.Call (.Attribute e "items" apos) [] [] cpos) (Ts td):=by
 intro pins s σ H R I h
 refine wpAny_Call_method (T:="dict") (id:="dict.items") hbase rfl hline F.plainAttrs_dict F.slot_dict_items F.type_dict_items (cT (he pins s σ H _ I h) fun u s1 ⟨x,H1,I1,rx,d,o,aI,ex,hd,q⟩=>?_)
 subst ex
 obtain rfl:u=Value.ref d:=rx
 obtain ⟨hs,hgd,hx,es,ep,hdt,hsz,ent⟩:=I1.frzT2 hd
 have hty:s1.TypeIs (.ref d) "dict":=⟨o,hgd,hx.1⟩
 refine ⟨hty,fun b q=>by cases q;exact ⟨o,hgd,hx.2.1⟩,?_⟩
 have I2:aP X pins σ H1 {s1 with heap:=s1.heap.push {cls:=.type "dict_items",data:=.fields #[.ref d]}}:=I1.kept (t':=s1.toks) fun b ob q=>Heap.get?_push_of_some _ q
 have fin:wpAny (model X.prog X.w) X.A (pyIter (.ref s1.heap.objs.size)) (Zk X pins σ (.Tuple elts kk tpos) R) X.xe {s1 with heap:=s1.heap.push {cls:=.type "dict_items",data:=.fields #[.ref d]}}:=
  Bw (d:=d) (n:=aI.length) ⟨_,Heap.get?_push_size _ rfl,rfl,rfl⟩ (Heap.get?_push_of_some _ hgd) hdt hsz (rL (tk:=s1.toks) I2 _ (sL _ hdt) ⟨.none,.none,Heap.get?_push_size _ rfl⟩ q)
 show wpAny _ _ (callWith cpos (.builtin "dict.items") [.ref d] [] []) _ X.xe s1
 exact method_meetsIn F.slot_dict_items F.entry_dict_items rfl (PySem.evalArgs_none ⟨rfl,hty,F.args_dict_items_1 _,_,yS hs,hty,fin⟩)
section
variable {prog:Program} {w:World} {A:Around} {E:Value->Shared->Prop} {s:Shared} {d:Addr} {o:Obj} {es:Array DictEntry} {ep:Nat}
theorem xA (hd:(d==sysModules)=false):MeetsIn prog w (Builtin.«dict.__len__» ⟨[.ref d],[]⟩) (fun _ R s=>∃ o es ep,s.heap.get? d=some o/\o.data=.dict es ep/\R (.ok (.ret (.int es.size s.toks))) {s with toks:=s.toks+1}):=
 .of_wp fun A R s ⟨o,es,ep,ho,hdat,h⟩=>by
  show wpAny _ _ (dictSize d>>=_) _ _ s
  unfold dictSize
  refine wpAny_bind (wpAny_bind (wpAny_dictEntries ho hdat (wpAny_pure ?_)))
  show wpAny _ _ (Builtin.Dict.pendingCount d>>=_) _ _ s
  refine wpAny_bind (wpAny_pendingCount_other hd (wpAny_ret_mkInt ?_))
  rw [Nat.add_zero]
  exact h
theorem Sq {Q:Value->Shared->Prop} (hd:(d==sysModules)=false) (ho:s.heap.get? d=some o) (hx:o.ExactDict) (hdat:o.data=.dict es ep) (hfit:(es.size:Int)<2 ^ 63)
  (h:Q (.int es.size (s.toks+1)) {s with toks:=s.toks+1+1}):wpAny (model prog w) A (call (.builtin "len") [.ref d]) Q E s:=by
 have hT:s.TypeIs (.ref d) "dict":=⟨o,ho,hx.1⟩
 refine Calls.call_function_entry kind_len plain_len entry_len (args_len1 _) ?_
 unfold Builtin.«len»
 refine wpAny_bind (m:=oneArg "len" _) (wpAny_pure ?_)
 refine wpAny_bind (m:=callSpecial? (.ref d) (Str.ofString "__len__")) (wpAny_callSpecial?_slot (name:=Str.ofString "__len__") hT F.slot_dict_len
  (call_meetsIn F.slot_dict_len hT F.entry_dict_len (F.args_dict_len_1 _) (xA hd) ⟨o,es,ep,ho,hdat,?_⟩))
 show wpAny _ _ _ _ _ {s with toks:=s.toks+1}
 refine wpAny_bind (wpAny_holding (wpAny_pure (wpAny_bind (wpAny_letGo ?_))))
 show wpAny _ _ (if ((es.size:Nat):Int)<0 then _ else _) _ _ _
 rw [if_neg (by (clear hfit;omega))]
 show wpAny _ _ (if ((es.size:Nat):Int)≥2 ^ 63 then _ else _) _ _ _
 rw [if_neg (by omega)]
 exact wpAny_bind (wpAny_mkInt (wpAny_pure ⟨_,rfl,h⟩))
theorem Nu (hh:A.handled=none) (I:Addr) (hne:d≠I) (hdat:o.data=.dict es ep):Walks prog w A I [I,d] [I] es.size (fun i v=>∃ en,es[i]?=some en/\v=en.key) (fun i h=>h.IsKeyIter I d i es.size ep/\h.get? d=some o) where
 sub:=fun b hb=>by simp at hb;simp [hb]
 frame:=fun _ _ _ st hk=>⟨st.1.at fun o e=>hk I (by simp) o e,hk d (by simp) o st.2⟩
 item:=fun i s Q E hi st hQ=>by
  refine oJ (en:=es[i]) st.1 st.2 hdat rfl (by simp [hi]) fun h' hit' hs'=>?_
  exact hQ _ h' s.toks ⟨_,by simp [hi],rfl⟩ ⟨hit',hs'.extBut d o hne st.2⟩ fun b o hb e=>hs'.extBut b o (fun h=>hb (by simp [h])) e
 done:=fun s Q E st hQ=>kZ hh st.1 st.2 hdat rfl (Nat.le_refl _) fun h' he'=>hQ h' s.toks fun b o hb e=>he' b o (fun h=>hb (by simp [h])) e
 self:=fun _ _ _ _ st hQ=>wpAny_pyIter_keyiter st.1 hQ
theorem Tk (lo:(d==sysModules)=false) (hx:o.ExactDict) (hdat:o.data=.dict es ep):PySem.W.KdlSrc prog w "dict" d d es.size (fun i v=>∃ en,es[i]?=some en/\v=en.key) (fun h=>h.get? d=some o) where
 type:=fun _ hm=>⟨o,hm,hx.1⟩
 there:=fun _ hm=>⟨Heap.lt_size hm,Heap.lt_size hm⟩
 keep:=fun _ _ hm hk=>hk d (.inl rfl) o hm
 notList:=by decide
 notTuple:=by decide
 hint:=fun _ _ _ _ hm hq=>PySem.W.kdl_hint_dict ⟨o,hm,hx.1⟩ hq
 iter:=fun _ _ hh hm=>⟨_,_,(fun _ _ hq=>qY lo hm hx hdat hq),Nu hh _ (Nat.ne_of_lt (Heap.lt_size hm)) hdat,⟨⟨_,Heap.get?_push_size _ rfl,rfl,rfl⟩,Heap.get?_push_of_some _ hm⟩⟩
end
section
variable {X:Cx} {pins:List (Addr×Obj)} {σ:St} {H:Hp} {s:Shared} {d:Addr} {o:Obj}
theorem aP.rawT {aI:List (List eD×V)} (I:aP X pins σ H s) (h:Rd H d (.dT aI)):
  (d==sysModules)=false/\aI.length<=sizeLine/\∃ (o:Obj) (es:Array DictEntry) (ep:Nat),s.heap.get? d=some o/\o.ExactDict/\o.data=.dict es ep/\es.size=aI.length/\
   ∀ (i:Nat) (k:List eD) (v:V),aI[i]?=some (k,v)->∃ (en:DictEntry) (q:Addr),es[i]?=some en/\en.key=.ref q/\H q=some (.tup (k.map kV)):=by
 obtain ⟨z,hs,xs,pr,o,es,ep,ho,hx,hdt,he,_⟩:=Ql I.hok h
 refine ⟨hs,z,o,es,ep,ho,hx,hdt,?_,fun i k v e=>?_⟩
 ·have l1:es.size=xs.length:=size_of_entries he
  have l2:aI.length=xs.length:=Paired.length pr
  (clear z;omega)
 ·obtain ⟨b,hb,e1,e2,e3⟩:=pC pr e
  have q:=entry_at he i
  rw [hb] at q
  exact ⟨_,b.2.1,q,rfl,e2⟩
theorem rJ:mR X (.builtin "len") (fun xs H Q=>∃ a aI,xs=[V.ref a]/\Rd H a (.dT aI)/\Q (.int aI.length) H):=by
 intro pins s σ H xs us Q I r h
 obtain ⟨a,aI,rfl,ha,q⟩:=h
 obtain ⟨u,rfl,ru⟩:=vP r
 cases ru
 obtain ⟨hs,z,o,es,ep,ho,hx,hdt,hsz,_⟩:=I.rawT ha
 refine Sq hs ho hx hdt (by rw [hsz];rw [sizeLine_eq] at z;(clear hsz;omega)) ⟨.int es.size,H,I.tok _,⟨_,rfl⟩,?_⟩
 rw [hsz]
 exact q
theorem Hl (hc:X.calm=true):mR X (.type "list") (fun xs H Q=>∃ a aI,xs=[V.ref a]/\Rd H a (.dT aI)/\
  ∀ l ps,H l=none->Paired (fun (p:Addr) (kv:List eD×V)=>H p=some (.tup (kv.1.map kV))) ps aI->Q (.ref l) (upd H l (.lst (ps.map V.ref)))):=by
 intro pins s σ H xs us Q I r h
 obtain ⟨a,aI,rfl,ha,q⟩:=h
 obtain ⟨u,rfl,ru⟩:=vP r
 cases ru
 obtain ⟨hs,z,o,es,ep,ho,hx,hdt,hsz,ent⟩:=I.rawT ha
 refine PySem.W.kdl_call (Tk hs hx hdt) (I.ok.hd hc) ho (by rw [hsz];exact z) fun h' tk acc' c' hk hl hacc=>?_
 obtain ⟨hn,hp⟩:=hacc
 have key:∀ (aI:List (List eD×V)) (vs:List Value),vs.length=aI.length->(∀ (i:Nat) (k:List eD) (v:V),aI[i]?=some (k,v)->∃ q:Addr,vs[i]?=some (Value.ref q)/\H q=some (.tup (k.map kV)))->
   ∃ ps:List Addr,vs=ps.map Value.ref/\Paired (fun (p:Addr) (kv:List eD×V)=>H p=some (.tup (kv.1.map kV))) ps aI:=by
  intro aI
  induction aI with
  |nil=>
   intro vs hl _
   cases vs with
   |nil=>exact ⟨[],rfl,.nil⟩
   |cons _ _=>cases hl
  |cons kv r ih=>
   intro vs hl hh
   cases vs with
   |nil=>cases hl
   |cons v vr=>
    obtain ⟨q,e1,e2⟩:=hh 0 kv.1 kv.2 rfl
    cases e1
    obtain ⟨ps,e3,e4⟩:=ih vr (by simpa using hl) fun i k v e=>hh (i+1) k v e
    exact ⟨q::ps,by rw [e3];rfl,.cons e2 e4⟩
 obtain ⟨ps,e1,e2⟩:=key aI acc'.toList (by rw [Array.length_toList,hn,hsz]) fun i k v e=>by
  obtain ⟨en,q,g1,g2,g3⟩:=ent i k v e
  have hi:i<aI.length:=(List.getElem?_eq_some_iff.mp e).1
  have hi2:i<acc'.size:=by rw [hn,hsz];exact hi
  obtain ⟨en',g4,g5⟩:=hp i acc'[i] (by simp [hi2])
  rw [g1] at g4
  cases g4
  refine ⟨q,?_,g3⟩
  rw [Array.getElem?_toList]
  simp [hi2,g5,g2]
 have fr:H s.heap.objs.size=none:=I.hok.fresh (Nat.le_refl _)
 have rv:bN (ps.map V.ref) acc'.toList:=by
  rw [e1]
  clear e1 e2 hp hn hl
  induction ps with
  |nil=>exact .nil
  |cons p r ih=>exact .cons rfl ih
 refine ⟨.ref s.heap.objs.size,_,I.laid (o:=.lst (ps.map V.ref)) hk (Nat.le_refl _) ⟨?_,acc'.toList,c',rv,by simpa using hl⟩,rfl,q _ ps fr e2⟩
 rw [List.length_map,Paired.length e2]
 exact z
end
open AutoSeq1 (wpAny_loadPart')
section
variable {prog:Program} {w:World} {A:Around} {E:Value->Shared->Prop} {s:Shared}
theorem wK (l:Addr) (items:Array Value) (n:Nat) (dct:Option Addr) (sl:Array (Option Value)):
  Meets (Builtin.«enumerate.__new__» ⟨[.type "enumerate",.ref l],[]⟩) (fun _ R s=>s.heap.get? l=some {cls:=.type "tuple",dict:=dct,data:=.seq items n,slots:=sl}/\
   R (.ok (.ret (.ref (s.heap.push {cls:=.type "tuple_iterator",data:=.fields #[.ref l,.int 0 0]}).objs.size)))
    {s with heap:=(s.heap.push {cls:=.type "tuple_iterator",data:=.fields #[.ref l,.int 0 0]}).push {cls:=.type "enumerate",data:=.fields #[.none,.bool false,.ref s.heap.objs.size,rawInt 0,.none,.none]}}):=
 .of_wp fun prog w A R s h=>by
  obtain ⟨hp,g,d,tk,os⟩:=s;obtain ⟨hl,h⟩:=h
  have hsub:=sub_enumerate
  have hL:Heap.IsTuple (Shared.heap ⟨hp,g,d,tk,os⟩) l items:=⟨_,hl,rfl,n,rfl⟩
  wp_walk using wpAny_loadPart' hl
  refine wpAny_stack_any fun st=>wpAny_pure ?_
  split
  ·rename_i c _ _ _ _ _
   cases (c==Value.type "enumerate")
   ·wp_walk using wpAny_loadPart' hl,wpAny_pyIter_tuple hL
    exact ⟨_,rfl,h⟩
   ·wp_walk using wpAny_loadPart' hl,wpAny_pyIter_tuple hL
    exact ⟨_,rfl,h⟩
  ·wp_walk using wpAny_loadPart' hl,wpAny_pyIter_tuple hL
   exact ⟨_,rfl,h⟩
theorem xB {l:Addr} {items:Array Value} {Q:Value->Shared->Prop} (hL:IsTup s.heap l items)
  (h:∀ h',IsEnum h' (s.heap.objs.size+1) s.heap.objs.size 0 .none->h'.IsTupleIter s.heap.objs.size l 0->h'.objs.size=s.heap.objs.size+2->
   (∀ b o,s.heap.get? b=some o->h'.get? b=some o)->Q (.ref (s.heap.objs.size+1)) {s with heap:=h'}):
  wpAny (model prog w) A (call (.type "enumerate") [.ref l]) Q E s:=by
 obtain ⟨⟨c,dct,dt,sl⟩,hl,hc,n,hd⟩:=hL
 replace hc:c=.type "tuple":=hc
 replace hd:dt=.seq items n:=hd
 subst hc hd
 refine callType_new F.called_enumerate (by decide) (F.typeCall_enumerate_1 _) (F.newCall_enumerate_1 _) (fun obj=>F.args_object_init_2 obj _) F.entry_enumerate_new
  (wK l items n dct sl) ⟨hl,?_⟩
 have hz:(s.heap.push {cls:=.type "tuple_iterator",data:=.fields #[.ref l,.int 0 0]}).objs.size=s.heap.objs.size+1:=Heap.size_push ..
 show _/\_
 rw [hz]
 have he:IsEnum ((s.heap.push {cls:=.type "tuple_iterator",data:=.fields #[.ref l,.int 0 0]}).push
   {cls:=.type "enumerate",data:=.fields #[.none,.bool false,.ref s.heap.objs.size,rawInt 0,.none,.none]}) (s.heap.objs.size+1) s.heap.objs.size 0 .none:=by
  have:=Heap.get?_push_size (s.heap.push {cls:=.type "tuple_iterator",data:=.fields #[.ref l,.int 0 0]})
   (o:={cls:=.type "enumerate",data:=.fields #[.none,.bool false,.ref s.heap.objs.size,rawInt 0,.none,.none]}) rfl
  rw [hz] at this;exact this
 refine ⟨⟨_,he,rfl⟩,h _ he ⟨_,Heap.get?_push_of_some _ (Heap.get?_push_size _ rfl),rfl,rfl⟩ (by rw [Heap.size_push,hz]) fun b o x=>Heap.get?_push_of_some _ (Heap.get?_push_of_some _ x)⟩
theorem xC {it l:Addr} {i:Nat} {items} {x:Value} {Q:Value->Shared->Prop} (hit:s.heap.IsTupleIter it l i)
  (hl:IsTup s.heap l items) (hx:items[i]?=some x)
  (hQ:∀ h',h'.IsTupleIter it l (i+1)->Heap.SameBut it s.heap h'->Q x {s with heap:=h'}):
  wpAny (model prog w) A (Builtin.SmallTypes.nextOf (.ref it)) Q E s:=by
 obtain ⟨o,ho,hc,hd⟩:=id hit
 obtain ⟨ol,hol,_,nl,hdl⟩:=hl
 unfold Builtin.SmallTypes.nextOf
 refine wpAny_bind (wpAny_callSpecial?_slot (name:=Str.ofString "__next__") hit.typeIs F.slot_tuple_iterator_next
  (wpAny_call_entry F.slot_tuple_iterator_next hit.typeIs F.entry_tuple_iterator_next ?_ (F.args_tuple_iterator_next_1 _)))
 show wpAny _ _ (field (.ref it) 0>>=_) _ _ s
 refine wpAny_bind (wpAny_field ho hd (x:=.ref l) rfl ?_)
 show wpAny _ _ (if (Value.ref l==Value.none)=true then _ else _) _ _ s
 rw [if_neg (show ¬((Value.ref l==Value.none)=true) from Bool.false_ne_true)]
 show wpAny _ _ (field (.ref it) 1>>=_) _ _ s
 refine wpAny_bind (wpAny_field ho hd (x:=.int i 0) rfl ?_)
 show wpAny _ _ (seqItems? (.ref l)>>=_) _ _ s
 refine wpAny_bind (wpAny_seqItems hol hdl ?_)
 simp only [Int.toNat_natCast,hx]
 refine wpAny_bind (wpAny_setField ho hd (by simp) (wpAny_pure ⟨x,rfl,wpAny_pure (hQ _ ?_ (Heap.SameBut.update ..))⟩))
 exact ⟨_,Heap.get?_update_self _ ho (Obj.isFreed_of_fields (Obj.data_mapFields hd _)),(Obj.cls_mapFields ..).trans hc,by
  rw [Obj.data_mapFields hd];simp [rawInt]⟩
theorem Bd {it l:Addr} {i:Nat} {items} {Q:Value->Shared->Prop} (hh:A.handled=none)
  (hit:s.heap.IsTupleIter it l i) (hl:IsTup s.heap l items) (hx:items[i]?=none)
  (hE:∀ h' e,Heap.ExtBut it s.heap h'->(∃ o,h'.get? e=some o/\o.cls=.type "StopIteration")->E (.ref e) {s with heap:=h'}):
  wpAny (model prog w) A (Builtin.SmallTypes.nextOf (.ref it)) Q E s:=by
 obtain ⟨o,ho,hc,hd⟩:=id hit
 obtain ⟨ol,hol,_,nl,hdl⟩:=hl
 unfold Builtin.SmallTypes.nextOf
 refine wpAny_bind (wpAny_callSpecial?_slot (name:=Str.ofString "__next__") hit.typeIs F.slot_tuple_iterator_next
  (wpAny_call_entry F.slot_tuple_iterator_next hit.typeIs F.entry_tuple_iterator_next ?_ (F.args_tuple_iterator_next_1 _)))
 show wpAny _ _ (field (.ref it) 0>>=_) _ _ s
 refine wpAny_bind (wpAny_field ho hd (x:=.ref l) rfl ?_)
 show wpAny _ _ (if (Value.ref l==Value.none)=true then _ else _) _ _ s
 rw [if_neg (show ¬((Value.ref l==Value.none)=true) from Bool.false_ne_true)]
 show wpAny _ _ (field (.ref it) 1>>=_) _ _ s
 refine wpAny_bind (wpAny_field ho hd (x:=.int i 0) rfl ?_)
 show wpAny _ _ (seqItems? (.ref l)>>=_) _ _ s
 refine wpAny_bind (wpAny_seqItems hol hdl ?_)
 simp only [Int.toNat_natCast,hx]
 refine wpAny_bind (wpAny_rule (wpAny_bind (wpAny_setField ho hd (by simp) ?_)))
 show wpAny _ _ (newExc (.type "StopIteration") []>>=_) _ _ _
 refine wpAny_bind ?_
 simp only [newExc,newTuple]
 refine wpAny_bind (wpAny_newObj_type ?_ (by size_fits))
 refine wpAny_bind (m:=firstArgMember _ _) (wpAny_of_eq (a:=Value.none) (by first|rfl|(simp only [firstArgMember];rfl)) ?_)
 refine wpAny_newObj_type ?_ (by size_fits)
 simp only [raiseNew]
 refine wpAny_bind (wpAny_handled ?_)
 first|rw [show A.in1.handled=none from hh]|rw [hh]
 refine wpAny_bind (wpAny_pure (wpAny_throw ?_))
 exact hE _ _ (((Heap.SameBut.update ..).extBut.push _).push _) ⟨_,Heap.get?_push_size _ rfl,rfl⟩
theorem xM (hh:A.handled=none) (it l:Addr) (hne:l≠it) (items:Array Value):
  Draws prog w A it [it,l] items.size (fun i v=>items[i]?=some v) (fun i h=>h.IsTupleIter it l i/\IsTup h l items) where
 live:=fun _ _ st=>let ⟨o,ho,_⟩:=st.1;⟨o,ho⟩
 frame:=fun _ _ _ st hk=>⟨st.1.at fun o e=>hk it (by simp) o e,let ⟨o,ho,r⟩:=st.2;⟨o,hk l (by simp) o ho,r⟩⟩
 item:=fun i s Q E hi st hQ=>by
  refine xC st.1 st.2 (x:=items[i]) (by simp [hi]) fun h' hit' hs'=>?_
  exact hQ _ h' s.toks (by simp [hi]) ⟨hit',st.2.extBut hs'.extBut hne⟩ hs'
 done:=fun s Q E st hE=>Bd hh st.1 st.2 (by simp) hE
end
def Oz (K:PySem.W.Frag) (a:Addr):It:=
 ⟨fun i H=>∃ (xs:List V) (x:V),cN K H a xs/\xs[i]?=some x,fun i H v H'=>∃ T x,v=.ref T/\H T=none/\H'=upd H T (.tup [.int (i:Nat),x])/\∀ xs,cN K H a xs->xs[i]?=some x,fun i H=>∃ xs:List V,cN K H a xs/\xs.length=i⟩
theorem Gm {P:Program} {w:World} {K:PySem.W.Frag} {elts:List Expr} {kk:Nat} {tpos:Pos} (a e it:Addr):
  vD P w K (.Tuple elts kk tpos) (Oz K a) [e,it] e (fun i h=>(∃ old,IsEnum h e it ((i:Nat):Int) old)/\h.IsTupleIter it a i/\e≠it/\a≠e/\a≠it) where
 mem:=by simp
 obj:=fun i h st b hb=>by
  obtain ⟨⟨old,he⟩,⟨o,ho,hc,hd⟩,_⟩:=st
  have e':b=e\/b=it:=by simpa using hb
  rcases e' with z|z
  ·rw [z];exact ⟨_,he,fun v q=>nomatch q⟩
  ·rw [z];exact ⟨o,ho,fun v q=>by rw [hd] at q;cases q⟩
 keep:=fun i h h' st k=>let ⟨⟨old,he⟩,hi,hne⟩:=st;⟨⟨old,k e (by simp) _ he⟩,hi.at fun o q=>k it (by simp) o q,hne⟩
 item:=by
  intro X hP hw hK hc i pins s σ H E I hf st hg
  subst hP hw hK
  obtain ⟨⟨old,he⟩,hit,hne,hae,hai⟩:=st
  obtain ⟨xs,x,hq,hx⟩:=hg
  obtain ⟨its,rv,p,hz⟩:=I.tuple hq
  obtain ⟨u,hu,ru⟩:=rv.get hx
  have hel:e<s.heap.objs.size:=Heap.lt_size he
  have hil:it<s.heap.objs.size:=by obtain ⟨_,q,_⟩:=hit;exact Heap.lt_size q
  have hlt:i<its.toArray.size:=by
   have:=(List.getElem?_eq_some_iff.mp hu).1
   simpa using this
  refine wpAny_pyNext_enum_itemD (xM (A:=X.A.in1) (I.ok.hd hc) it a hai its.toArray) he ⟨hit,p⟩ hlt hne (by simp [hne,Ne.symm hae]) fun x' h' tk hP ho hst hT hsz hk=>?_
  have hxu:x'=u:=by
   have h1:its.toArray[i]?=some u:=by simpa using hu
   rw [h1] at hP
   cases hP
   rfl
  subst hxu
  refine ⟨_,rfl,wpAny_letOwnedTupleGo_enum (s:={s with heap:=h',toks:=tk+1}) ho fun h'' he' sb=>?_⟩
  have hT2:h''.get? s.heap.objs.size=some {cls:=.type "tuple",data:=.seq #[.int i tk,x']}:=(sb.2 _ (Nat.ne_of_gt hel)).trans hT
  have new:cJ X.prog X.w (upd H s.heap.objs.size (.tup [.int (i:Nat),x])) h'' s.heap.objs.size (.tup [.int (i:Nat),x]):=
   ⟨by show 2<=sizeLine;decide,[.int i tk,x'],.cons ⟨_,rfl⟩ (.cons ru .nil),⟨_,hT2,rfl,_,rfl⟩⟩
  have I1:aP X pins σ (upd H s.heap.objs.size (.tup [.int (i:Nat),x])) {s with heap:=h'',toks:=tk+1}:=
   I.turnedNew (ch:=[e,it]) (fun b ob hb q=>(sb.2 b (fun z=>hb (by simp [z]))).trans (hk b ob (fun z=>hb (by simp [z])) (fun z=>hb (by simp [z])) q)) hf (Nat.le_refl _) new
  refine ⟨.ref s.heap.objs.size,_,I1,rfl,⟨_,x,rfl,I.hok.fresh (Nat.le_refl _),rfl,fun ys hy=>by rw [I.tuple_inj hy hq];exact hx⟩,⟨⟨x',?_⟩,hst.1.at fun o q=>(sb.2 it (Ne.symm hne)).trans q,hne,hae,hai⟩,fun b hb=>?_⟩
  ·have e1:((i+1:Nat):Int)=(i:Int)+1:=by (clear hsz hst hlt hil hel hz;omega)
   rw [e1];exact he'
  ·have hb':b<s.heap.objs.size:=by
    have e':b=e\/b=it:=by simpa using hb
    rcases e' with z|z
    ·rw [z];exact hel
    ·rw [z];exact hil
   rw [aC (Nat.ne_of_lt hb')]
   exact (hf b hb).1
 done:=by
  intro X hP hw hK hc i pins s σ H E I hf st hg
  subst hP hw hK
  obtain ⟨⟨old,he⟩,hit,hne,hae,hai⟩:=st
  obtain ⟨xs,hq,hx⟩:=hg
  obtain ⟨its,rv,p,hz⟩:=I.tuple hq
  obtain ⟨f0,f1,f2,f3,f4,f5⟩:=hf it (by simp)
  have hl:=rv.length
  have hn:its.toArray.size=i:=by simp;(clear f3 f2 hz;omega)
  exact wpAny_pyNext_enum_endD (xM (A:=X.A.in1) (I.ok.hd hc) it a hai its.toArray) he (by rw [hn];exact ⟨hit,p⟩) fun h' eb=>⟨rfl,I.turned (t':=s.toks) (fun b o hb q=>eb b o hb q) f0 f1 f3 f4 f5⟩
 self:=fun A i s Q E st h=>let ⟨⟨_,he⟩,_⟩:=st;wpAny_pyIter_enum he h
def Yv (K:PySem.W.Frag) (ta:TA):TI:=fun σ H R=>ta σ H fun vs H1=>∃ a xs,vs=[.ref a]/\cN K H1 a xs/\R (Oz K a) H1
theorem Py {X:Cx} {e:Expr} {ta:TA} {p pos tpos:Pos} {elts:List Expr} {kk:Nat} (hg:Gl X "enumerate") (hm:X.mg "enumerate"=none) (ha:PA X [e] ta) (hs:starEach [e] X.env=[(false,eval e X.env)]:=by rfl):
  PI X (.Tuple elts kk tpos) (.Call (.Name "enumerate" p) [e] [] pos) (Yv X.K ta):=by
 intro pins s σ H R I h
 refine Call_ (qU I hg hm boot_enumerate (PyProof.Rows.callWith_type1 (cT (ha pos pins s σ H _ I h) fun us s1 ⟨vs,H1,I1,r1,q1⟩=>?_) hs rfl))
 obtain ⟨a,xs,ex,hq,q⟩:=q1
 subst ex
 cases r1 with
 |cons r rr=>
  cases rr
  cases r
  obtain ⟨its,rv,p',hz⟩:=I1.tuple hq
  have hal:a<s1.heap.objs.size:=p'.lt
  refine xB p' fun h' he hit hsz hk=>wpAny_pyIter_enum he ?_
  have I2:aP X pins σ H1 {s1 with heap:=h'}:=I1.kept (t':=s1.toks) hk
  refine ⟨s1.heap.objs.size+1,[s1.heap.objs.size+1,s1.heap.objs.size],_,_,H1,rfl,I2,Gm a (s1.heap.objs.size+1) s1.heap.objs.size,⟨⟨.none,he⟩,hit,Nat.succ_ne_self _,Nat.ne_of_lt (Nat.lt_succ_of_lt hal),Nat.ne_of_lt hal⟩,fun b hb=>?_,q⟩
  have e':b=s1.heap.objs.size+1\/b=s1.heap.objs.size:=by simpa using hb
  have hle:s1.heap.objs.size<=b:=by
   rcases e' with z|z
   ·rw [z];exact Nat.le_add_right _ _
   ·rw [z];exact Nat.le_refl _
  exact I1.fpOk hle (I1.hok.fresh hle)
end L2
namespace HT
open PySem PyProof.Rows
def gC:List Int->List Int->Bool
 |[],_=>true
 |_::_,[]=>false
 |x::xs,y::ys=>if x=y then gC xs ys else decide (x<=y)
theorem Hg (x y:Int) (xs ys:List Int):gC (x::xs) (y::ys)=if x=y then gC xs ys else decide (x<=y):=rfl
theorem Mg (ys:List Int):gC [] ys=true:=by cases ys<;>rfl
theorem vG (x:Int) (xs:List Int):gC (x::xs) []=false:=rfl
theorem Nd (A:Around) (s:Shared) (a:Int) (t:Tok) (c:Int) (u:Tok) (prog:Program) (w:World) (E:Value->Shared->Prop) (Q:Value->Shared->Prop) (h:Q (.bool (decide (a<=c))) s):
  wpAny (model prog w) A (richCompare .LtE (.int a t) (.int c u)) Q E s:=
 (PyProof.Rows.le_int h:wpAny (model prog w) A (compareOp .LtE (.int a t) (.int c u)) Q E s)
section
open PySem.SeqAt
open PySem.AutoSeq1 (wpAny_loadPart')
open PySem.MeetsSeq PySem.MeetsSeq2 PySem.MeetsSeq3
theorem xF (l b:Addr) (items items2:Array Value) (n n2:Nat) (dd dd2:Option Addr) (sl sl2:Array (Option Value)) (ns ms:List Int) (hi:IntsAre items.toList ns) (hj:IntsAre items2.toList ms):
  Meets (Builtin.«tuple.__le__» ⟨[.ref l,.ref b],[]⟩)
   (fun _ R s=>s.heap.get? l=some {cls:=.type "tuple",dict:=dd,data:=.seq items n,slots:=sl}/\s.heap.get? b=some {cls:=.type "tuple",dict:=dd2,data:=.seq items2 n2,slots:=sl2}/\
    R (.ok (.ret (.bool (gC ns ms)))) s):=
 .of_wp fun prog w A R s h=>by
  obtain ⟨hp,g,d,tk,os⟩:=s;obtain ⟨hl,hb,h⟩:=h
  have f2:=AutoSeq1.sub_tuple_tuple
  have z1:items.size=ns.length:=by rw [<-hi.length];simp
  have z2:items2.size=ms.length:=by rw [<-hj.length];simp
  wp_walk using wpAny_loadPart' hl,wpAny_loadPart' hb,wpAny_forIn_list _ (fun rest b s'=>b.1=none/\s'=⟨hp,g,d,tk,os⟩/\∃ (vs ws:List Value) (ns' ms':List Int),rest=vs.zip ws/\
   IntsAre vs ns'/\IntsAre ws ms'/\ns'.length+items2.size=ms'.length+items.size/\R (.ok (.ret (.bool (gC ns' ms')))) ⟨hp,g,d,tk,os⟩) _
  case turn=>
   rintro ⟨y,x⟩ rest b s' ⟨hb',rfl,vs,ws,ns',ms',hz,hvi,hwi,hlen,hR⟩
   cases hvi with
   |nil=>rw [List.zip_nil_left] at hz;cases hz
   |cons a t hvi'=>
    cases hwi with
    |nil=>rw [List.zip_nil_right] at hz;cases hz
    |cons c u hwi'=>
     rw [List.zip_cons_cons] at hz
     injection hz with hyx hrest
     injection hyx with hy hx
     subst hy hx
     rw [Hg] at hR
     simp only [List.length_cons] at hlen
     obtain ⟨e,he,hiff⟩:=Qz A.in1 ⟨hp,g,d,tk,os⟩ a t c u
     refine wpAny_bind (he prog w _ _ ?_)
     cases e with
     |true=>
      rw [if_pos (hiff.mp rfl)] at hR
      wp_walk
      exact ⟨rfl,rfl,_,_,_,_,hrest,hvi',hwi',by (clear hiff z2 z1;omega),hR⟩
     |false=>
      rw [if_neg (fun q=>absurd (hiff.mpr q) Bool.false_ne_true)] at hR
      have hri:=Nd A.in1 ⟨hp,g,d,tk,os⟩ a t c u prog w
      wp_walk using hri
      exact ⟨_,rfl,by simpa using hR⟩
  case fin=>
   rintro ⟨b1,b2⟩ s' ⟨hb',rfl,vs,ws,ns',ms',hz,hvi,hwi,hlen,hR⟩
   simp only at hb'
   subst hb'
   have hv:gC ns' ms'=decide (items.size<=items2.size):=by
    cases hvi with
    |nil=>
     simp only [List.length_nil] at hlen
     rw [Mg]
     exact (decide_eq_true (by (clear z2 z1;omega))).symm
    |cons a t hv=>
     cases hwi with
     |nil=>
      simp only [List.length_nil,List.length_cons] at hlen
      rw [vG]
      exact (decide_eq_false (by (clear z2 z1;omega))).symm
     |cons c u hw=>
      rw [List.zip_cons_cons] at hz
      cases hz
   rw [hv] at hR
   wp_walk
   exact ⟨_,rfl,by simpa [Builtin.Tuple.tupleCompareSizes] using hR⟩
  case h=>
   exact ⟨rfl,rfl,items.toList,items2.toList,ns,ms,rfl,hi,hj,by omega,h⟩
end
section
variable {prog:Program} {w:World} {A:Around} {E:Value->Shared->Prop} {s:Shared}
theorem Gu {l b:Addr} {items items2:Array Value} {ns ms:List Int} {Q:Value->Shared->Prop} (hl:IsTup s.heap l items) (hb:IsTup s.heap b items2) (hi:IntsAre items.toList ns) (hj:IntsAre items2.toList ms)
  (hu:A.units<cLine) (h:Q (.bool (gC ns ms)) s):wpAny (model prog w) A (compareOp .LtE (.ref l) (.ref b)) Q E s:=by
 obtain ⟨⟨cls,dd,data,sl⟩,ho,hc,n,hd⟩:=id hl
 obtain ⟨⟨cls2,dd2,data2,sl2⟩,ho2,hc2,n2,hd2⟩:=id hb
 simp only at hc hd hc2 hd2
 subst hc hd hc2 hd2
 exact richCompare_meets_room (op:=.LtE) ⟨_,ho,rfl⟩ ⟨_,ho2,rfl⟩ PySem.F.slot_tuple_le PySem.F.entry_tuple_le (PySem.F.args_tuple_le_2 _ _) (xF l b items items2 n n2 dd dd2 sl sl2 ns ms hi hj)
  ⟨ho,ho2,show Value.bool (gC ns ms)≠Value.notImplemented/\Q (.bool (gC ns ms)) s from ⟨(fun x=>nomatch x),h⟩⟩ hu
theorem Sl {t b:Addr} {ws:List Value} {Q:Value->Shared->Prop} (ht:IsTup s.heap t ([]:List Value).toArray) (hb:IsTup s.heap b ws.toArray) (h:Q (.ref b) s):wpAny (model prog w) A (binaryOp .Add (.ref t) (.ref b)) Q E s:=by
 obtain ⟨⟨cls,dd,data,sl⟩,ho,hc,n,hd⟩:=id ht
 obtain ⟨⟨cls2,dd2,data2,sl2⟩,ho2,hc2,n2,hd2⟩:=id hb
 simp only at hc hd hc2 hd2
 subst hc hd hc2 hd2
 exact concat_meets ⟨_,ho,rfl⟩ ⟨_,ho2,rfl⟩ noFill_tuple_add seq_tuple_add PySem.F.slot_tuple_add PySem.F.entry_tuple_add (PySem.F.args_tuple_add_2 _ _)
   (tuple_addW0 t b #[] ws.toArray n n2 dd dd2 sl sl2 rfl) ⟨ho,ho2,h⟩
theorem yO {l b:Addr} {items items2:Array Value} {ns ms:List Int} (hl:IsTup s.heap l items) (hb:IsTup s.heap b items2) (hi:IntsAre items.toList ns) (hj:IntsAre items2.toList ms) (hu:A.units<cLine):
  SeqAt.RcAt A s (.ref l) (.ref b) (decide (ns=ms)):=by
 have z1:items.size=ns.length:=by rw [<-hi.length];simp
 have z2:items2.size=ms.length:=by rw [<-hj.length];simp
 have at':∀ {vs:List Value} {xs:List Int} (j:Nat),IntsAre vs xs->(h1:j<vs.length)->∃ t,vs[j]=.int (xs.getD j 0) t:=by
  intro vs
  induction vs with
  |nil=>intro xs j _ h1;exact absurd h1 (Nat.not_lt_zero _)
  |cons v r ih=>
   intro xs j h1 hl
   cases h1 with
   |cons a t h1=>
    cases j with
    |zero=>exact ⟨t,rfl⟩
    |succ j=>exact ih j h1 (by simpa using hl)
 have key:=SeqAt.RcAt.tuples (A:=A) (s:=s) (l:=l) (b:=b) (e:=fun j=>decide (ns.getD j 0=ms.getD j 0)) hl hb hu fun j h1 h2=>by
  obtain ⟨t,e1⟩:=at' j hi (by simpa using h1)
  obtain ⟨u,e2⟩:=at' j hj (by simpa using h2)
  rw [show items[j]=.int (ns.getD j 0) t by simpa using e1,show items2[j]=.int (ms.getD j 0) u by simpa using e2,<-Bool.beq_eq_decide_eq]
  exact SeqAt.EqAt.int_int _ _ _ _
 have val:((List.range (min items.size items2.size)).all (fun j=>decide (ns.getD j 0=ms.getD j 0)) && items.size==items2.size)=decide (ns=ms):=by
  rw [z1,z2,Bool.eq_iff_iff,Bool.and_eq_true,List.all_eq_true,decide_eq_true_iff,beq_iff_eq]
  constructor
  ·rintro ⟨h1,h2⟩
   refine List.ext_getElem h2 fun j g1 g2=>?_
   have:=of_decide_eq_true (h1 j (by rw [List.mem_range];(clear g2 z2 z1 hu;omega)))
   rw [List.getD_eq_getElem?_getD,List.getD_eq_getElem?_getD,List.getElem?_eq_getElem g1,List.getElem?_eq_getElem g2] at this
   simpa using this
  ·rintro rfl
   exact ⟨fun j _=>decide_eq_true rfl,rfl⟩
 rw [val] at key
 exact key
theorem sU:∀ {vs:List Value} {xs ys:List Int},IntsAre vs xs->IntsAre vs ys->xs=ys:=by
 intro vs
 induction vs with
 |nil=>intro xs ys h1 h2;cases h1;cases h2;rfl
 |cons v r ih=>
  intro xs ys h1 h2
  cases h1 with
  |cons a t h1=>
   cases h2 with
   |cons _ _ h2=>rw [ih h1 h2]
theorem Kw {l b:Addr} {items items2:Array Value} {ns ms:List Int} (hl:IsTup s.heap l items) (hb:IsTup s.heap b items2) (hi:IntsAre items.toList ns) (hj:IntsAre items2.toList ms) (hu:A.units<cLine):
  SeqAt.EqAt A s (.ref l) (.ref b) (decide (ns=ms)):=by
 by_cases hlb:l=b
 ·subst hlb
  obtain ⟨o,e1,_,n,e2⟩:=hl
  obtain ⟨o2,e3,_,n2,e4⟩:=hb
  rw [e1] at e3
  cases e3
  rw [e2] at e4
  cases e4
  rw [sU hi hj,decide_eq_true rfl]
  exact SeqAt.EqAt.same _
 ·exact SeqAt.EqAt.of_refs hlb (yO hl hb hi hj hu)
end
end HT
namespace L2
open PySem PySem.Spec PyProof.Rows
section
variable {X:Cx}
def aCs (K:PySem.W.Frag):R2:=fun x y H Q=>∃ a b ns ms,x=.ref a/\y=.ref b/\cN K H a (ns.map V.int)/\cN K H b (ms.map V.int)/\Q (.bl (HT.gC ns ms)) H
theorem Yi (hu:X.A.units<cLine):tD X (compareOp .LtE) (aCs X.K):=by
 intro pins s σ H x y v u Q I rx ry h
 obtain ⟨a,b,ns,ms,rfl,rfl,ha,hb,q⟩:=h
 cases rx
 cases ry
 obtain ⟨its,r1,p1,_⟩:=I.tuple ha
 obtain ⟨its2,r2,p2,_⟩:=I.tuple hb
 have i1:IntsAre its.toArray.toList ns:=fO r1
 have i2:IntsAre its2.toArray.toList ms:=fO r2
 exact HT.Gu p1 p2 i1 i2 hu ⟨.bl (HT.gC ns ms),H,I,rfl,q⟩
def aAl (K:PySem.W.Frag):R2:=fun x y H Q=>∃ a b xs ys,x=.ref a/\y=.ref b/\cN K H a xs/\cN K H b ys/\ys≠[]/\xs.length+ys.length<=sizeLine/\
 ∀ p H',(∀ c o,H c=some o->H' c=some o)->cN K H' p (xs++ys)->Q (.ref p) H'
theorem Ia:tD X (binaryOp .Add) (aAl X.K):=by
 intro pins s σ H x y v u Q I rx ry h
 obtain ⟨a,b,xs,ys,rfl,rfl,ha,hb,hy,hz,q⟩:=h
 by_cases hx:xs=[]
 ·subst hx
  cases rx
  cases ry
  obtain ⟨its,r1,p1,_⟩:=I.tuple ha
  obtain ⟨its2,r2,p2,_⟩:=I.tuple hb
  cases r1
  exact HT.Sl p1 p2 ⟨.ref b,H,I,rfl,q b H (fun _ _ e=>e) hb⟩
 ·refine Ux pins s σ H _ _ v u Q I rx ry ⟨a,b,xs,ys,rfl,rfl,ha,hb,hx,hz,fun e=>absurd e hy,fun _ p hp=>?_⟩
  exact q p _ (fun c o e=>by rw [aC (aD e hp)];exact e) (cN.of aB)
def oH (K:PySem.W.Frag) (H:Hp) (xs:List V) (nss:List (List Int)):Prop:=Paired (fun x ns=>∃ p,x=V.ref p/\cN K H p (ns.map V.int)) xs nss
open Classical in
noncomputable def Kn (s:Shared) (ns:List Int) (v:Value):Bool:=decide (∃ p its,v=.ref p/\IsTup s.heap p its/\IntsAre its.toList ns)
theorem Xh {s:Shared} {p:Addr} {its:Array Value} {ns ms:List Int} (h:IsTup s.heap p its) (hi:IntsAre its.toList ms):Kn s ns (.ref p)=decide (ms=ns):=by
 unfold Kn
 rw [decide_eq_decide]
 constructor
 ·rintro ⟨p',its',e,h',hi'⟩
  cases e
  obtain ⟨o,e1,_,n,e2⟩:=h
  obtain ⟨o2,e3,_,n2,e4⟩:=h'
  rw [e1] at e3
  cases e3
  rw [e2] at e4
  cases e4
  exact HT.sU hi hi'
 ·rintro rfl
  exact ⟨p,its,rfl,h,hi⟩
theorem zS {pins:List (Addr×Obj)} {σ:St} {H:Hp} {s:Shared} {A:Around} {p:Addr} {its:Array Value} {ns:List Int} (I:aP X pins σ H s) (hu:A.units<cLine) (hp:IsTup s.heap p its) (hi:IntsAre its.toList ns):
  ∀ {xs:List V} {us:List Value} {nss:List (List Int)},oH X.K H xs nss->bN xs us->(∀ u∈us,SeqAt.EqAt A s u (.ref p) (Kn s ns u))/\us.map (Kn s ns)=nss.map fun ms=>decide (ms=ns)
 |[],_,_,t,v=>by
  cases t
  cases v
  exact ⟨(fun u h=>by cases h),rfl⟩
 |x::xs,_,_,t,v=>by
  cases t with
  |cons t1 t2=>
   cases v with
   |cons v1 v2=>
    obtain ⟨q,rfl,hq⟩:=t1
    cases v1
    obtain ⟨itq,rq,pq,_⟩:=I.tuple hq
    have iq:=fO rq
    have e:=Xh (ns:=ns) (its:=itq.toArray) pq (by simpa using iq)
    obtain ⟨g1,g2⟩:=zS I hu hp hi t2 v2
    refine ⟨fun u h=>?_,?_⟩
    ·rcases List.mem_cons.mp h with rfl|h
     ·rw [e]
      exact HT.Kw pq hp (by simpa using iq) hi hu
     ·exact g1 u h
    ·rw [List.map_cons,List.map_cons,e,g2]
def aBz (K:PySem.W.Frag) (neg:Bool):R2:=fun x y H Q=>∃ p a ns xs nss,x=.ref p/\y=.ref a/\cN K H p (ns.map V.int)/\dE K H a xs/\oH K H xs nss/\Q (.bl (if neg then !decide (ns∈nss) else decide (ns∈nss))) H
theorem Sn {s:Shared} {ns:List Int} {us:List Value} {nss:List (List Int)} (h:us.map (Kn s ns)=nss.map fun ms=>decide (ms=ns)):us.toArray.any (Kn s ns)=decide (ns∈nss):=by
 have h1:us.any (Kn s ns)=(us.map (Kn s ns)).any id:=by rw [List.any_map];rfl
 have h2:us.toArray.any (Kn s ns)=us.any (Kn s ns):=by simp
 rw [h2,h1,h,List.any_map,Bool.eq_iff_iff,List.any_eq_true,decide_eq_true_iff]
 constructor
 ·rintro ⟨m,hm,e⟩
  have e:decide (m=ns)=true:=e
  rw [<-of_decide_eq_true e]
  exact hm
 ·intro hm
  exact ⟨ns,hm,show decide (ns=ns)=true from decide_eq_true rfl⟩
theorem Lw (hu:X.A.units+1<cLine):tD X (compareOp .NotIn) (aBz X.K true):=by
 intro pins s σ H x y v u Q I rx ry h
 obtain ⟨p,a,ns,xs,nss,rfl,rfl,hp,ha,ht,q⟩:=h
 cases rx
 cases ry
 obtain ⟨its,r,pl,hz⟩:=I.list ha
 obtain ⟨itp,rp,pp,_⟩:=I.tuple hp
 obtain ⟨g1,g2⟩:=zS (A:=X.A.in1) I hu pp (by simpa using fO rp) ht r
 refine SeqAt.notIn_listAt (Kn s ns) pl.isList (fun w hw=>g1 w (by simpa using hw)) ⟨.bl _,H,I,rfl,?_⟩
 rw [Sn g2]
 exact q
def So (K:PySem.W.Frag):V->List V->Hp->VK->Prop:=fun x ys H Q=>∃ (a p:Addr) (xs:List V) (nss:List (List Int)) (ns:List Int) (j:Nat),x=V.ref a/\ys=[V.ref p]/\dE K H a xs/\oH K H xs nss/\cN K H p (ns.map V.int)/\
 nss[j]?=some ns/\(∀ m ms,m<j->nss[m]?=some ms->ms≠ns)/\Q (.int (j:Nat)) H
theorem Kx (hu:X.A.units+1<cLine):MtR X "list.index" (So X.K):=by
 intro pins s σ H x xs v us Q I rx rxs h
 obtain ⟨a,p,ys,nss,ns,j,rfl,rfl,hs,ht,hp,hj,hno,q⟩:=h
 cases rx
 obtain ⟨uy,rfl,ry⟩:=vP rxs
 cases ry
 obtain ⟨its,rv,⟨⟨cls,dd,data,sl⟩,n,ho,hc,hdn,hd⟩,hlen⟩:=I.list hs
 simp only at hc hd
 subst hc hd
 obtain ⟨itp,rp,pp,_⟩:=I.tuple hp
 obtain ⟨g1,g2⟩:=zS (A:=X.A.in1) I hu pp (by simpa using fO rp) ht rv
 have hl1:its.length=nss.length:=by
  have:=congrArg List.length g2
  simpa using this
 have at':∀ m (hm:m<its.length) ms,nss[m]?=some ms->Kn s ns its[m]=decide (ms=ns):=by
  intro m hm ms e
  have:=congrArg (fun l:List Bool=>l[m]?) g2
  simp only [List.getElem?_map,e,List.getElem?_eq_getElem hm,Option.map_some] at this
  injection this
 have hjl:j<its.length:=by rw [hl1];exact (List.getElem?_eq_some_iff.mp hj).1
 have hsl:=sizeLine_eq
 have hvl:=rv.length
 refine call_meets PySem.F.slot_list_index ⟨_,ho,rfl⟩ PySem.F.entry_list_index (PySem.F.args_list_index_2 _ _)
  (SeqAt.list_indexAt a its.toArray n dd sl (.ref p) (Kn s ns) j (by simpa using hjl) (by (clear hl1 hu;omega)) ?_ ?_) ⟨ho,fun u' hu'=>g1 u' (by simpa using hu'),?_⟩
 ·have e1:its.toArray[j]=its[j]:=by simp
  rw [e1,at' j hjl ns hj]
  exact decide_eq_true rfl
 ·intro m hm hmj
  have hml:m<its.length:=by simpa using hm
  have e1:its.toArray[m]=its[m]:=by simp
  have hmn:m<nss.length:=by rw [<-hl1];exact hml
  rw [e1,at' m hml _ (List.getElem?_eq_getElem hmn)]
  exact decide_eq_false (hno m _ hmj (List.getElem?_eq_getElem hmn))
 ·exact ⟨.int (j:Nat),H,I.tok _,⟨_,rfl⟩,q⟩
def Zd (K:PySem.W.Frag):R2:=fun x y H Q=>∃ (p q:Addr) (ns ms:List Int),x=.ref p/\y=.ref q/\cN K H p (ns.map V.int)/\cN K H q (ms.map V.int)/\Q (.bl (decide (ns=ms))) H
theorem Xw (hu:X.A.units<cLine):tD X (compareOp .Eq) (Zd X.K):=by
 intro pins s σ H x y v u Q I rx ry h
 obtain ⟨a,b,ns,ms,rfl,rfl,ha,hb,q⟩:=h
 cases rx
 cases ry
 obtain ⟨its,r1,p1,_⟩:=I.tuple ha
 obtain ⟨its2,r2,p2,_⟩:=I.tuple hb
 exact HT.yO p1 p2 (by simpa using fO r1) (by simpa using fO r2) hu _ _ _ _ ⟨.bl _,H,I,rfl,q⟩
end
theorem iC {d:Addr} {o:Obj} {aI:List (List eD×V)} {g:TG} {tb:TS} {D:fZ} {σ:St} {H:Hp} (Pv:Nat->St->Hp->Prop) (h0:Pv 0 σ H) (hl:∀ i σ H,i<=aI.length->Pv i σ H->H d=some (.frz o (.dT aI)))
  (hs:∀ i σ H T k v q,aI[i]?=some (k,v)->Pv i σ H->H T=none->H q=some (.tup (k.map kV))->g (.ref T) σ (upd H T (.tup [.ref q,v])) fun σ2 H2=>tb {D with nx:=Pv (i+1),ct:=Pv (i+1),bk:=D.nx} σ2 H2) (hd:∀ σ H,Pv aI.length σ H->D.nx σ H):
  ∃ W:Nat->Nat->St->Hp->Prop,(∃ m,W 0 m σ H)/\∀ i m σ H,W i m σ H->
   ((Go d o aI).stop i H/\D.nx σ H)\/((Go d o aI).go i H/\∃ N:St->Hp->Prop,(∀ σ' H',N σ' H'->∃ m',m'<m/\W (i+1) m' σ' H')/\∀ x H',(Go d o aI).yld i H x H'->g x σ H' fun σ2 H2=>tb {D with nx:=N,ct:=N,bk:=D.nx} σ2 H2):=by
 refine ⟨fun i m σ H=>m=aI.length - i/\i<=aI.length/\Pv i σ H,⟨aI.length,by simp,Nat.zero_le _,h0⟩,?_⟩
 rintro i m σ H ⟨rfl,hi,p⟩
 have q:=hl i σ H hi p
 by_cases hlt:i<aI.length
 ·refine .inr ⟨⟨q,hlt⟩,Pv (i+1),fun σ' H' p'=>⟨aI.length - (i+1),by (clear hi;omega),rfl,hlt,p'⟩,fun x H' y=>?_⟩
  obtain ⟨T,k,v,a,e1,rfl,e2,e3,rfl⟩:=y
  exact hs i σ H T k v a e1 p e2 e3
 ·have e:i=aI.length:=by omega
  subst e
  exact .inl ⟨⟨q,Nat.le_refl _⟩,hd σ H p⟩
theorem iF {H H':Hp} {c:Addr} {u:HO} {od:Obj} (h:H c=some u) (s:aL (upd H c (.frz od u)) H'):aL H (upd H' c u):=fun b o e=>by
 by_cases hb:b=c
 ·rw [hb] at e ⊢
  rw [aB,<-e,h]
 ·rw [aC hb]
  exact s b o (by rw [aC hb];exact e)
theorem aL.new {H:Hp} {q:Addr} {o:HO} (h:H q=none):aL H (upd H q o):=fun b o' e=>by rw [aC (aD e h)];exact e
theorem aL.id' (H:Hp):aL H H:=fun _ _ e=>e
end L2
namespace Br1
open PySem PySem.Spec PyProof.Rows L2
abbrev Pl:=Int×Int×Int
abbrev CL:=List (Pl×Int)
def Wr (c:Pl×Int):List eD×V:=(eJ c.1.1 c.1.2.1 c.1.2.2,V.int c.2)
def aI (cs:CL):List (List eD×V):=cs.map Wr
def aY (cs:CL) (p:Pl):Option Int:=(cs.find? fun c=>decide (c.1=p)).map (·.2)
def oZ (p:Pl):Pl:=(p.1,p.2.1,p.2.2+1)
def oN (p:Pl):Pl:=(p.1,p.2.1,p.2.2 - 1)
theorem wL {p q:Pl}:eJ p.1 p.2.1 p.2.2=eJ q.1 q.2.1 q.2.2↔p=q:=by
 obtain ⟨a,b,c⟩:=p
 obtain ⟨x,y,z⟩:=q
 simp [eJ]
theorem qH (p:Pl):∀ cs:CL,lF (aI cs) (eJ p.1 p.2.1 p.2.2)=(aY cs p).map V.int
 |[]=>rfl
 |c::r=>by
  have ih:=qH p r
  unfold lF aY aI at *
  rw [List.map_cons,List.find?_cons,List.find?_cons]
  by_cases h:c.1=p
  ·have h2:(Wr c).1=eJ p.1 p.2.1 p.2.2:=wL.mpr h
   simp only [h,h2,decide_true,Option.map_some]
   rfl
  ·have h2:¬(Wr c).1=eJ p.1 p.2.1 p.2.2:=fun z=>h (wL.mp z)
   simp only [h,h2,decide_false]
   exact ih
theorem iY {cs:CL} {i:Nat} {k:List eD} {v:V} (h:(aI cs)[i]?=some (k,v)):∃ p s,cs[i]?=some (p,s)/\k=eJ p.1 p.2.1 p.2.2/\v=V.int s:=by
 unfold aI at h
 rw [List.getElem?_map] at h
 obtain ⟨⟨p,s⟩,e1,e2⟩:=Option.map_eq_some_iff.mp h
 cases e2
 exact ⟨p,s,e1,rfl,rfl⟩
theorem Dg {α:Type} {f:α->Bool} {l:List α} {i:Nat} {x:α} (h:(l.take i).all f=true) (e:l[i]?=some x) (hx:f x=true):(l.take (i+1)).all f=true:=by
 have hl:=(List.getElem?_eq_some_iff.mp e).1
 rw [List.take_succ,e,List.all_append,h]
 simp [hx]
def mC (cs:CL):Bool:=cs.all fun c=> !(fC c.2 && (aY cs (oZ c.1)).isSome)
def lY (cs:CL):Bool:=cs.all fun c=> !(dQ c.2 && (aY cs (oN c.1)).isSome)
section
variable {P:Program} {w:World} {K:PySem.W.Frag} {mg:Str->Option Value} {base:Heap} {C CR CP:Addr}
def wZ (CP:Addr) (H:Hp) (b:Addr) (nm:Addr) (W D Hh g:Int) (cs:CL):Prop:=∃ dx c,H b=some (.ins CP dx (Mz nm W D Hh g c))/\H c=some (.dT (aI cs))
def Aq (CP:Addr):Sp:=fun vs H Q _=>∃ (b nm:Addr) (W D Hh g:Int) (cs:CL),vs=[.ref b]/\wZ CP H b nm W D Hh g cs/\∀ H',aL H H'->Q (.bl (mC cs)) H'
def zY (CP:Addr):Sp:=fun vs H Q _=>∃ (b nm:Addr) (W D Hh g:Int) (cs:CL),vs=[.ref b]/\wZ CP H b nm W D Hh g cs/\∀ H',aL H H'->Q (.bl (lY cs)) H'
theorem wG:aO ["part","place","sign"] ["part"] (aG Bc):=⟨rfl,rfl,rfl,by decide+kernel,rfl,by decide+kernel,by decide+kernel⟩
theorem uW:aO ["part","place","sign"] ["part"] (aG Bf):=⟨rfl,rfl,rfl,by decide+kernel,rfl,by decide+kernel,by decide+kernel⟩
theorem Dy {H:Hp} {c q:Addr} {od:Obj} {cs:CL} {p:Pl} (hc:H c=some (.frz od (.dT (aI cs)))) (hq:H q=some (.tup [.int p.1,.int p.2.1,.int p.2.2])):rE H c (.ref q) ((aY cs p).map V.int):=
 .inr ⟨aI cs,eJ p.1 p.2.1 p.2.2,q,.inr ⟨od,hc⟩,rfl,hq,(qH p cs).symm⟩
theorem wM {H:Hp} {c q:Addr} {cs:CL} {p:Pl} (hc:H c=some (.dT (aI cs))) (hq:H q=some (.tup [.int p.1,.int p.2.1,.int p.2.2])):rE H c (.ref q) ((aY cs p).map V.int):=
 .inr ⟨aI cs,eJ p.1 p.2.1 p.2.2,q,.inl hc,rfl,hq,(qH p cs).symm⟩
theorem Pa {f:Addr} {fd:FuncData} (F:fK K "studs_clear" "studs_clear" Bc f fd) (T':Na K CP) (L1:dO P w K mg base "has_stud" bV 1 ["sign"] vH) (L2:dO P w K mg base "above" bV 1 ["place"] nM):
  bU P w K mg base bV 2 f fd ["part"] (Aq CP):=by
 obtain ⟨g1,gd1,G1,b1,k1,h1⟩:=L1.ex
 obtain ⟨g2,gd2,G2,b2,k2,h2⟩:=L2.ex
 refine F.ok wG (fun vs H Q E h=>?_) (fun cdv A outer s H vs Q E hr h=>?_)
 ·obtain ⟨b,nm,W,D,Hh,g,cs,rfl,_⟩:=h
  rfl
 ·obtain ⟨b,nm,W,D,Hh,g,cs,rfl,⟨dx,c,hb,hc⟩,k⟩:=h
  have hr1:=hr.mono (j:=1) (by decide)
  have hu:=lR hr
  refine ⟨_,aF (kH (eU PassesOwn.never rfl (jX (aT (pv 0) rfl)) (lX rfl (dG (bJ (i:=1) wG.nd rfl (Or.inl rfl)) (dG (bJ (i:=2) wG.nd rfl (Or.inl rfl)) jB)))
    (aH (eK (gX (eE (aQ G1 hr1 (by rfl) h1 k1 b1 .nil aX (aA (pv 2) aE))) (hZ (eB (rD hu (aQ G2 hr1 (by rfl) h2 k2 b2 .nil aX (aA (pv 1) aE)) (aT (pv 0) rfl))))).pt (aH (aV mV)) cF))))
   (aH (aV mV)),?_⟩
  refine ⟨c,_,hc,trivial,fun od=>?_⟩
  have nbc:b≠c:=fun z=>by rw [z,hc] at hb;cases hb
  have hcL:upd H c (.frz od (.dT (aI cs))) c=some (.frz od (.dT (aI cs))):=aB
  have hbL:upd H c (.frz od (.dT (aI cs))) b=some (.ins CP dx (Mz nm W D Hh g c)):=by rw [aC nbc];exact hb
  refine ⟨_,rfl,b,CP,dx,_,_,rfl,hbL,T'.cl,T'.n6,rfl,c,od,_,rfl,hcL,?_⟩
  refine iC (fun i σ H'=>∃ v1 v2,σ=[some (.ref b),v1,v2]/\aL (upd H c (.frz od (.dT (aI cs)))) H'/\(cs.take i).all (fun c=> !(fC c.2 && (aY cs (oZ c.1)).isSome))=true) ⟨none,none,rfl,aL.id' _,rfl⟩ ?_ ?_ ?_
  ·rintro i σ H1 hi ⟨v1,v2,rfl,S1,_⟩
   exact S1 _ _ hcL
  ·rintro i σ H1 T k v q e ⟨v1,v2,rfl,S1,al⟩ hT hq
   obtain ⟨p,sg,e1,rfl,rfl⟩:=iY e
   have ST:=aL.new (o:=.tup [.ref q,.int sg]) hT
   have S2:aL (upd H c (.frz od (.dT (aI cs)))) (upd H1 T (.tup [.ref q,.int sg])):=S1.trans ST
   refine ⟨T,_,rfl,cN.of aB,rfl,_,_,rfl,_,_,rfl,rfl,?_⟩
   have step:(!(fC sg && (aY cs (oZ p)).isSome))=true->(cs.take (i+1)).all (fun c=> !(fC c.2 && (aY cs (oZ c.1)).isSome))=true:=fun z=>Dg al e1 z
   refine ⟨_,rfl,sg,rfl,_,rfl,cE (fun hs=>?_) (fun hs=>tG ⟨_,_,rfl,S2,step (by rw [dB hs];rfl)⟩)⟩
   refine ⟨_,rfl,q,p.1,p.2.1,p.2.2,rfl,ST _ _ hq,fun q2 hq2=>?_⟩
   have SQ:=aL.new (o:=.tup [.int p.1,.int p.2.1,.int (p.2.2+1)]) hq2
   have S3:=S2.trans SQ
   refine ⟨_,rfl,b,CP,dx,_,_,rfl,S3 _ _ hbL,T'.cl,T'.n6,rfl,c,_,rfl,Dy (p:=oZ p) (S3 _ _ hcL) aB,_,rfl,cE (fun hi=>?_) (fun hi=>?_)⟩
   ·refine ⟨S3 _ _ hcL,?_⟩
    have z:=k _ (iF hc S3)
    have e3:mC cs=false:=by
     unfold mC
     rw [Bool.eq_false_iff]
     intro z
     have:=List.all_eq_true.mp z _ (List.mem_of_getElem? e1)
     rw [Option.isSome_map] at hi
     rw [hs,hi] at this
     cases this
    rw [e3] at z
    exact z
   ·refine ⟨_,_,rfl,S3,step ?_⟩
    rw [Option.isSome_map] at hi
    rw [dB hi,Bool.and_false]
    rfl
  ·rintro σ H1 ⟨v1,v2,rfl,S1,al⟩
   refine ⟨S1 _ _ hcL,?_⟩
   have z:=k _ (iF hc S1)
   have e3:mC cs=true:=by
    unfold mC
    have hl:(aI cs).length=cs.length:=by unfold aI;rw [List.length_map]
    rw [hl,List.take_length] at al
    exact al
   rw [e3] at z
   exact z
theorem Nj {f:Addr} {fd:FuncData} (F:fK K "tubes_clear" "tubes_clear" Bf f fd) (T':Na K CP) (L1:dO P w K mg base "has_tube" bV 1 ["sign"] uY) (L2:dO P w K mg base "below" bV 1 ["place"] nI):
  bU P w K mg base bV 2 f fd ["part"] (zY CP):=by
 obtain ⟨g1,gd1,G1,b1,k1,h1⟩:=L1.ex
 obtain ⟨g2,gd2,G2,b2,k2,h2⟩:=L2.ex
 refine F.ok uW (fun vs H Q E h=>?_) (fun cdv A outer s H vs Q E hr h=>?_)
 ·obtain ⟨b,nm,W,D,Hh,g,cs,rfl,_⟩:=h
  rfl
 ·obtain ⟨b,nm,W,D,Hh,g,cs,rfl,⟨dx,c,hb,hc⟩,k⟩:=h
  have hr1:=hr.mono (j:=1) (by decide)
  have hu:=lR hr
  refine ⟨_,aF (kH (eU PassesOwn.never rfl (jX (aT (pv 0) rfl)) (lX rfl (dG (bJ (i:=1) uW.nd rfl (Or.inl rfl)) (dG (bJ (i:=2) uW.nd rfl (Or.inl rfl)) jB)))
    (aH (eK (gX (eE (aQ G1 hr1 (by rfl) h1 k1 b1 .nil aX (aA (pv 2) aE))) (hZ (eB (rD hu (aQ G2 hr1 (by rfl) h2 k2 b2 .nil aX (aA (pv 1) aE)) (aT (pv 0) rfl))))).pt (aH (aV mV)) cF))))
   (aH (aV mV)),?_⟩
  refine ⟨c,_,hc,trivial,fun od=>?_⟩
  have nbc:b≠c:=fun z=>by rw [z,hc] at hb;cases hb
  have hcL:upd H c (.frz od (.dT (aI cs))) c=some (.frz od (.dT (aI cs))):=aB
  have hbL:upd H c (.frz od (.dT (aI cs))) b=some (.ins CP dx (Mz nm W D Hh g c)):=by rw [aC nbc];exact hb
  refine ⟨_,rfl,b,CP,dx,_,_,rfl,hbL,T'.cl,T'.n6,rfl,c,od,_,rfl,hcL,?_⟩
  refine iC (fun i σ H'=>∃ v1 v2,σ=[some (.ref b),v1,v2]/\aL (upd H c (.frz od (.dT (aI cs)))) H'/\(cs.take i).all (fun c=> !(dQ c.2 && (aY cs (oN c.1)).isSome))=true) ⟨none,none,rfl,aL.id' _,rfl⟩ ?_ ?_ ?_
  ·rintro i σ H1 hi ⟨v1,v2,rfl,S1,_⟩
   exact S1 _ _ hcL
  ·rintro i σ H1 T k v q e ⟨v1,v2,rfl,S1,al⟩ hT hq
   obtain ⟨p,sg,e1,rfl,rfl⟩:=iY e
   have ST:=aL.new (o:=.tup [.ref q,.int sg]) hT
   have S2:aL (upd H c (.frz od (.dT (aI cs)))) (upd H1 T (.tup [.ref q,.int sg])):=S1.trans ST
   refine ⟨T,_,rfl,cN.of aB,rfl,_,_,rfl,_,_,rfl,rfl,?_⟩
   have step:(!(dQ sg && (aY cs (oN p)).isSome))=true->(cs.take (i+1)).all (fun c=> !(dQ c.2 && (aY cs (oN c.1)).isSome))=true:=fun z=>Dg al e1 z
   refine ⟨_,rfl,sg,rfl,_,rfl,cE (fun hs=>?_) (fun hs=>tG ⟨_,_,rfl,S2,step (by rw [dB hs];rfl)⟩)⟩
   refine ⟨_,rfl,q,p.1,p.2.1,p.2.2,rfl,ST _ _ hq,fun q2 hq2=>?_⟩
   have SQ:=aL.new (o:=.tup [.int p.1,.int p.2.1,.int (p.2.2 - 1)]) hq2
   have S3:=S2.trans SQ
   refine ⟨_,rfl,b,CP,dx,_,_,rfl,S3 _ _ hbL,T'.cl,T'.n6,rfl,c,_,rfl,Dy (p:=oN p) (S3 _ _ hcL) aB,_,rfl,cE (fun hi=>?_) (fun hi=>?_)⟩
   ·refine ⟨S3 _ _ hcL,?_⟩
    have z:=k _ (iF hc S3)
    have e3:lY cs=false:=by
     unfold lY
     rw [Bool.eq_false_iff]
     intro z
     have:=List.all_eq_true.mp z _ (List.mem_of_getElem? e1)
     rw [Option.isSome_map] at hi
     rw [hs,hi] at this
     cases this
    rw [e3] at z
    exact z
   ·refine ⟨_,_,rfl,S3,step ?_⟩
    rw [Option.isSome_map] at hi
    rw [dB hi,Bool.and_false]
    rfl
  ·rintro σ H1 ⟨v1,v2,rfl,S1,al⟩
   refine ⟨S1 _ _ hcL,?_⟩
   have z:=k _ (iF hc S1)
   have e3:lY cs=true:=by
    unfold lY
    have hl:(aI cs).length=cs.length:=by unfold aI;rw [List.length_map]
    rw [hl,List.take_length] at al
    exact al
   rw [e3] at z
   exact z
end
end Br1
namespace L2
open PySem PySem.Spec PyProof.Rows
theorem Em {d:Addr} {o:Obj} {aI:List (List eD×V)} {g:TG} {tt:TT} {te:TE} {vs:List Nat} {σ:St} {H1:Hp} {D:Addr} {Qd:Hp->Prop} (Pv:Nat->Hp->Prop) (h0:Pv 0 (upd H1 D (.lst []))) (hl:∀ i H,i<=aI.length->Pv i H->H d=some (.frz o (.dT aI)))
  (hs:∀ i k v q H,aI[i]?=some (k,v)->Pv i H->H q=some (.tup (k.map kV))->g (.ref q) (fQ σ vs) H fun σ2 H2=>fQ σ2 vs=fQ σ vs/\tt σ2 H2 fun b H3=>
   if b=true then te σ2 H3 fun y H4=>∃ acc,H4 D=some (.lst acc)/\acc.length<sizeLine/\Pv (i+1) (upd H4 D (.lst (acc++[y]))) else Pv (i+1) H3) (hd:∀ H,Pv aI.length H->Qd H):
  ∃ W:Nat->Nat->Hp->Prop,(∃ m,W 0 m (upd H1 D (.lst [])))/\∀ i m H,W i m H->
   ((Re d o aI).stop i H/\Qd H)\/((Re d o aI).go i H/\∃ Nx:Hp->Prop,(∀ H',Nx H'->∃ m',m'<m/\W (i+1) m' H')/\∀ x H',(Re d o aI).yld i H x H'->g x (fQ σ vs) H' fun σ2 H2=>fQ σ2 vs=fQ σ vs/\tt σ2 H2 fun b H3=>
    if b=true then te σ2 H3 fun y H4=>∃ acc,H4 D=some (.lst acc)/\acc.length<sizeLine/\Nx (upd H4 D (.lst (acc++[y]))) else Nx H3):=by
 refine ⟨fun i m H=>m=aI.length - i/\i<=aI.length/\Pv i H,⟨aI.length,by simp,Nat.zero_le _,h0⟩,?_⟩
 rintro i m H ⟨rfl,hi,p⟩
 have q:=hl i H hi p
 by_cases hlt:i<aI.length
 ·refine .inr ⟨⟨q,hlt⟩,Pv (i+1),fun H' p'=>⟨aI.length - (i+1),by (clear hi;omega),rfl,hlt,p'⟩,fun x H' y=>?_⟩
  obtain ⟨e,k,v,a,e1,rfl,e2⟩:=y
  subst e
  exact hs i k v a _ e1 p e2
 ·have e:i=aI.length:=by omega
  subst e
  exact .inl ⟨⟨q,Nat.le_refl _⟩,hd H p⟩
theorem Lu {K:PySem.W.Frag} {a:Addr} {xs:List V} {g:TG} {tb:TS} {D:fZ} {σ:St} {H:Hp} (Pv:Nat->St->Hp->Prop) (h0:Pv 0 σ H) (hl:∀ i σ H,i<=xs.length->Pv i σ H->cN K H a xs)
  (hs:∀ i x σ H T,xs[i]?=some x->Pv i σ H->H T=none->g (.ref T) σ (upd H T (.tup [.int (i:Nat),x])) fun σ2 H2=>tb {D with nx:=Pv (i+1),ct:=Pv (i+1),bk:=D.nx} σ2 H2) (hd:∀ σ H,Pv xs.length σ H->D.nx σ H):
  ∃ W:Nat->Nat->St->Hp->Prop,(∃ m,W 0 m σ H)/\∀ i m σ H,W i m σ H->
   ((Oz K a).stop i H/\D.nx σ H)\/((Oz K a).go i H/\∃ N:St->Hp->Prop,(∀ σ' H',N σ' H'->∃ m',m'<m/\W (i+1) m' σ' H')/\∀ x H',(Oz K a).yld i H x H'->g x σ H' fun σ2 H2=>tb {D with nx:=N,ct:=N,bk:=D.nx} σ2 H2):=by
 refine ⟨fun i m σ H=>m=xs.length - i/\i<=xs.length/\Pv i σ H,⟨xs.length,by simp,Nat.zero_le _,h0⟩,?_⟩
 rintro i m σ H ⟨rfl,hi,p⟩
 have q:=hl i σ H hi p
 by_cases hlt:i<xs.length
 ·refine .inr ⟨⟨xs,xs[i],q,by simp [hlt]⟩,Pv (i+1),fun σ' H' p'=>⟨xs.length - (i+1),by (clear hi;omega),rfl,hlt,p'⟩,fun x H' y=>?_⟩
  obtain ⟨T,x',rfl,hT,rfl,y⟩:=y
  exact hs i x' σ H T (y xs q) p hT
 ·have e:i=xs.length:=by omega
  subst e
  exact .inl ⟨⟨xs,q,rfl⟩,hd σ H p⟩
end L2
namespace Br1
open PySem PySem.Spec PyProof.Rows L2
def Zr (p:Pl):Nat->Int
 |0=>p.1
 |1=>p.2.1
 |_=>p.2.2
def fR (cs:CL) (a:Nat):List Int:=cs.map fun c=>Zr c.1 a
def fF (cs:CL) (a:Nat) (n:Int):Bool:=decide ((0:Int)∈fR cs a) && decide (n - 1∈fR cs a)
def mW (cs:CL) (W D Hh:Int):Bool:=fF cs 0 W && fF cs 1 D && fF cs 2 Hh
section
variable {P:Program} {w:World} {K:PySem.W.Frag} {mg:Str->Option Value} {base:Heap} {C CR CP:Addr}
def Ad (CP:Addr):Sp:=fun vs H Q _=>∃ (b nm:Addr) (W D Hh g:Int) (cs:CL),vs=[.ref b]/\wZ CP H b nm W D Hh g cs/\cs.length<20000/\∀ H',aL H H'->Q (.bl (mW cs W D Hh)) H'
theorem kF:aO ["part","sizes","axis","size","reached","place"] ["part"] (aG uG):=⟨rfl,rfl,rfl,by decide+kernel,rfl,by decide+kernel,by decide+kernel⟩
theorem Rl {f:Addr} {fd:FuncData} (F:fK K "fills_its_box" "fills_its_box" uG f fd) (T':Na K CP) (henum:mg "enumerate"=none):
  bU P w K mg base bV 2 f fd ["part"] (Ad CP):=by
 refine F.ok kF (fun vs H Q E h=>?_) (fun cdv A outer s H vs Q E hr h=>?_)
 ·obtain ⟨b,nm,W,D,Hh,g,cs,rfl,_⟩:=h
  rfl
 ·obtain ⟨b,nm,W,D,Hh,g,cs,rfl,⟨dx,c,hb,hc⟩,hl,k⟩:=h
  refine ⟨_,aF (bI (i:=1) kF.nd rfl (Or.inl rfl) (eN (aA (aT (pv 0) rfl) (aA (aT (pv 0) rfl) (aA (aT (pv 0) rfl) aE)))))
   (aF (eU PassesOwn.never rfl (Py rfl henum (aA (pv 1) aE)) (lX rfl (dG (bJ (i:=2) kF.nd rfl (by first|exact Or.inl rfl|exact Or.inr rfl)) (dG (bJ (i:=3) kF.nd rfl (Or.inl rfl)) jB)))
    (aF (kH (De (i:=4) (te:=Fa (pB K) (dI 5) (dI 2)) (own:=[("place",5)]) rfl kF.nd rfl rfl rfl (Ih (aT (pv 0) rfl)) (gN (N:=["part","sizes","axis","size","reached","place"]) (sc:=aG uG) (by decide+kernel))
      (fun _ _ _ _ _=>bJ (i:=5) kF.nd rfl (Or.inl rfl)) (fun _ _ _ _ _=>lJ) (fun _ _ _ _ _=>bY (r:=pB K) bQ (pv 5) (pv 2) (fun _ _=>rfl))))
     (aH (eK (Iy (iB kW aK (pv 4) rfl) (zM (iB kW (cI eT (pv 3) aK) (pv 4) rfl))).pt (aH (aV mV)) cF))))
   (aH (aV mV))),?_⟩
  refine ⟨_,rfl,b,CP,dx,_,_,rfl,hb,T'.cl,T'.n2,rfl,_,rfl,b,CP,dx,_,_,rfl,hb,T'.cl,T'.n3,rfl,_,rfl,b,CP,dx,_,_,rfl,hb,T'.cl,T'.n4,rfl,(by show 3<=sizeLine;decide),fun q hq=>?_⟩
  have S0:=aL.new (o:=.tup [.int W,.int D,.int Hh]) hq
  have hsq:cN K (upd H q (.tup [.int W,.int D,.int Hh])) q [.int W,.int D,.int Hh]:=cN.of aB
  have htup:upd H q (.tup [.int W,.int D,.int Hh]) q=some (.tup [.int W,.int D,.int Hh]):=aB
  refine ⟨_,rfl,q,_,rfl,hsq,?_⟩
  refine Lu (xs:=[.int W,.int D,.int Hh]) (fun i σ H'=>∃ v2 v3 v4 v5,σ=[some (.ref b),some (.ref q),v2,v3,v4,v5]/\aL (upd H q (.tup [.int W,.int D,.int Hh])) H'/\∀ j,j<i->fF cs j ([W,D,Hh].getD j 0)=true) ⟨none,none,none,none,rfl,aL.id' _,fun j hj=>absurd hj (Nat.not_lt_zero _)⟩ ?_ ?_ ?_
  ·rintro i σ H1 hi ⟨v2,v3,v4,v5,rfl,S1,_⟩
   exact cN.of (S1 _ _ htup)
  ·rintro i x σ H1 T ex ⟨v2,v3,v4,v5,rfl,S1,al⟩ hT
   have hi:i<3:=(List.getElem?_eq_some_iff.mp ex).1
   obtain ⟨n,rfl,en⟩:∃ n:Int,x=.int n/\[W,D,Hh].getD i 0=n:=by
    match i,hi,ex with
    |0,_,ex=>cases ex;exact ⟨_,rfl,rfl⟩
    |1,_,ex=>cases ex;exact ⟨_,rfl,rfl⟩
    |2,_,ex=>cases ex;exact ⟨_,rfl,rfl⟩
   have ST:=aL.new (o:=.tup [.int (i:Nat),.int n]) hT
   have S2:=(S0.trans S1).trans ST
   refine ⟨T,_,rfl,cN.of aB,rfl,_,_,rfl,_,_,rfl,rfl,?_⟩
   have hb2:=S2 _ _ hb
   have hc2:=S2 _ _ hc
   have S12:=S1.trans ST
   generalize upd H1 T (.tup [.int (i:Nat),.int n])=H2 at hb2 hc2 S2 S12
   have nbc:b≠c:=fun z=>by rw [z,hc2] at hb2;cases hb2
   refine ⟨c,_,hc2,trivial,fun od=>?_⟩
   have hcL:upd H2 c (.frz od (.dT (aI cs))) c=some (.frz od (.dT (aI cs))):=aB
   have hbL:upd H2 c (.frz od (.dT (aI cs))) b=some (.ins CP dx (Mz nm W D Hh g c)):=by rw [aC nbc];exact hb2
   refine ⟨_,rfl,b,CP,dx,_,_,rfl,hbL,T'.cl,T'.n6,rfl,c,od,rfl,.inr ⟨aI cs,hcL,fun Dl hDl=>?_⟩⟩
   refine Em (fun j H'=>aL (upd H2 c (.frz od (.dT (aI cs)))) H'/\H' Dl=some (.lst ((fR (cs.take j) i).map V.int))) ⟨aL.new hDl,aB⟩ (fun j H' _ p=>p.1 _ _ hcL) ?_ ?_
   ·rintro j kk vv q2 H3 e3 ⟨S3,hD3⟩ hq2
    obtain ⟨p,sg,e4,rfl,rfl⟩:=iY e3
    have hj:j<cs.length:=(List.getElem?_eq_some_iff.mp e4).1
    refine ⟨rfl,⟨_,rfl,_,rfl,q2,_,(i:Int),.int (Zr p i),rfl,rfl,cN.of hq2,?_,_,hD3,?_,?_⟩⟩
    ·match i,hi with
     |0,_=>rfl
     |1,_=>rfl
     |2,_=>rfl
    ·rw [List.length_map]
     unfold fR
     rw [List.length_map,List.length_take]
     have:=bE
     (clear hj en hi;omega)
    ·refine ⟨fun b' o e=>?_,?_⟩
     ·rw [aC (aD e hDl)]
      exact S3 _ _ e
     ·rw [aB]
      unfold fR
      rw [List.take_succ,e4]
      simp
   ·rintro H3 ⟨S3,hD3⟩
    have hl2:(aI cs).length=cs.length:=by unfold aI;rw [List.length_map]
    rw [hl2,List.take_length] at hD3
    refine ⟨S3 _ _ hcL,?_⟩
    have S4:=iF hc2 S3
    have nDc:Dl≠c:=fun z=>by rw [z,hcL] at hDl;cases hDl
    have hD4:upd H3 c (.dT (aI cs)) Dl=some (.lst ((fR cs i).map V.int)):=by rw [aC nDc];exact hD3
    generalize upd H3 c (.dT (aI cs))=H4 at S4 hD4
    have S5:=S12.trans S4
    have fal:fF cs i n=false->mW cs W D Hh=false:=by
     intro z
     unfold mW
     rw [<-en] at z
     match i,hi,z with
     |0,_,z=>rw [show fF cs 0 W=false from z];rfl
     |1,_,z=>rw [show fF cs 1 D=false from z,Bool.and_false];rfl
     |2,_,z=>rw [show fF cs 2 Hh=false from z,Bool.and_false]
    have fin:fF cs i n=false->Q (.bl false) H4:=fun z=>by
     have kk:=k H4 (S0.trans S5)
     rw [fal z] at kk
     exact kk
    have allf:((fR cs i).map V.int).all oM=true:=List.all_eq_true.mpr fun x hx=>by
     obtain ⟨y,_,rfl⟩:=List.mem_map.mp hx
     rfl
    refine ⟨_,rfl,Dl,_,rfl,.inl (dE.of hD4),rfl,allf,_,rfl,cE (fun h0=>Oh ?_) (fun h0=>?_)⟩
    ·have h0:(!Qa (.int 0) ((fR cs i).map V.int))=true:=h0
     rw [iM,Bool.not_eq_true'] at h0
     exact fin (by unfold fF;rw [h0];rfl)
    ·have h0:¬(!Qa (.int 0) ((fR cs i).map V.int))=true:=h0
     rw [iM,Bool.not_eq_true',Bool.not_eq_false] at h0
     refine ⟨_,rfl,_,_,rfl,rfl,_,rfl,Dl,_,rfl,.inl (dE.of hD4),rfl,allf,_,rfl,cE (fun h1=>?_) (fun h1=>?_)⟩
     ·have h1:(!Qa (.int (n - 1)) ((fR cs i).map V.int))=true:=h1
      rw [iM,Bool.not_eq_true'] at h1
      exact fin (by unfold fF;rw [h1,Bool.and_false])
     ·have h1:¬(!Qa (.int (n - 1)) ((fR cs i).map V.int))=true:=h1
      rw [iM,Bool.not_eq_true',Bool.not_eq_false] at h1
      refine ⟨_,_,_,_,rfl,S5,fun j hj=>?_⟩
      by_cases hji:j=i
      ·rw [hji,en]
       unfold fF
       rw [h0,h1]
       rfl
      ·exact al j (by (clear hl2 en hi hl;omega))
  ·rintro σ H1 ⟨v2,v3,v4,v5,rfl,S1,al⟩
   have kk:=k H1 (S0.trans S1)
   have e:mW cs W D Hh=true:=by
    unfold mW
    rw [show fF cs 0 W=true from al 0 (by show 0<3;decide),show fF cs 1 D=true from al 1 (by show 1<3;decide),show fF cs 2 Hh=true from al 2 (by show 2<3;decide)]
    rfl
   rw [e] at kk
   exact kk
end
end Br1
namespace L2
open PySem PySem.Spec PyProof.Rows
def Yc (tk tv:TE):TE:=fun σ H Q=>∀ p,H p=none->tk σ (upd H p (.dT [])) fun x H1=>tv σ H1 fun y H2=>H2 p=some (.dT [])/\∃ (b:Addr) (ks:List eD),x=.ref b/\H2 b=some (.tup (ks.map kV))/\Q (.ref p) (upd H2 p (.dT [(ks,y)]))
theorem aAo {X:Cx} {pins:List (Addr×Obj)} {σ:St} {H:Hp} {s:Shared} {a b:Addr} {v:V} {r:Value} {ks:List eD} {A:Around} {E:Value->Shared->Prop} {Q:Unit->Shared->Prop} (hu:A.units+1<cLine) (I:aP X pins σ H s) (e:H a=some (.dT [])) (eb:H b=some (.tup (ks.map kV))) (rv:cA v r)
  (h:∀ s',aP X pins σ (upd H a (.dT [(ks,v)])) s'->Q () s'):wpAny (model X.prog X.w) A (dictSet a (.ref b) r) Q E s:=by
 obtain ⟨z,hd,xs,rel,dd⟩:=Vk I.hok e
 have hz:xs.length<=sizeLine:=by rw [<-Paired.length rel];exact z
 refine wpAny_dictSet_heap (hsz:=hz) (Nat.lt_of_succ_lt hu) (qW I.hok eb) dd fun h' dd' hs=>h _ ?_
 obtain ⟨q,es,ep,hq,h2,h3,h4,_,h5⟩:=dd'
 have hl:(lA ([]:List (List eD×V)) ks v).length<=sizeLine:=by show 1<=sizeLine;decide
 refine zQ I (by rw [e];exact True.intro) hs ⟨q,hq⟩ ⟨hl,hd,_,(rel.put ks eb rv).keeps fun c ys ec=>?_,q,es,ep,hq,h2,h3,h4,h5⟩
 rw [aC (Vt ec e (fun z=>nomatch z))]
 exact ec
theorem Nw {X:Cx} {pos:Pos} {k v:Expr} {tk tv:TE} (hu:X.A.units+1<cLine) (hk:PE X k tk) (hv:PE X v tv):PE X (.Dict [some k] [v] pos) (Yc tk tv):=by
 intro pins s σ H Q I q
 have hn:=I.hok.fresh (Nat.le_refl s.heap.objs.size)
 have I1:=I.laid (a:=s.heap.objs.size) (o:=.dT []) (h':=s.heap.push {cls:=.type "dict",data:=.dict #[]}) (t':=s.toks) (fun _ _ q=>Heap.get?_push_of_some _ q) (Nat.le_refl _) (Cw s.heap I.big)
 rw [arm_eval_Dict,zip_pairTrees [some k] [v] X.env pos rfl rfl,dictDisplay_pairs (pairTrees [some k] [v] X.env pos) (by intro z;cases z) (by show 1<17;decide)]
 refine wpAny_bind (wpAny_standAt (wpAny_bind ?_))
 unfold subDict
 refine wpAny_bind (wpAny_alloc (wpAny_bind (wpAny_holding ?_)))
 rw [if_pos (show (pairTrees [some k] [v] X.env pos).length<=15 by show 1<=15;decide)]
 refine wpAny_bind (pairTrees_cons_walk (cT (hk pins _ σ _ _ I1 (q _ hn)) fun u s1 ⟨x,H1,I2,rx,q1⟩=>cT (hv pins s1 σ H1 _ I2 q1) fun w2 s2 ⟨y,H2,I3,ry,q2⟩=>pairTrees_nil_walk ?_))
 obtain ⟨e,b,ks,rfl,eb,q2⟩:=q2
 cases (show u=Value.ref b from rx)
 refine wpAny_holding ?_
 rw [List.forIn_cons]
 refine wpAny_bind (wpAny_bind (wpAny_bind (aAo hu I3 e eb ry fun s3 I4=>wpAny_pure ?_)))
 show wpAny _ _ (forIn [] _ _) _ _ s3
 rw [List.forIn_nil]
 exact wpAny_pure (wpAny_pure (wpAny_pure (wpAny_pure ⟨.ref s.heap.objs.size,_,I4,rfl,q2⟩)))
end L2
namespace Br1
open PySem PySem.Spec PyProof.Rows L2
def xO (p:Pl):List Pl:=[(p.1 - 1,p.2.1,p.2.2),(p.1+1,p.2.1,p.2.2),(p.1,p.2.1 - 1,p.2.2),(p.1,p.2.1+1,p.2.2),oZ p,oN p]
def Rw (p:Pl):List V:=[.int p.1,.int p.2.1,.int p.2.2]
def jC (H:Hp) (qs:List Addr) (ps:List Pl):Prop:=Paired (fun q p=>H q=some (.tup (Rw p))) qs ps
theorem jC.same {H H':Hp} {qs:List Addr} {ps:List Pl} (h:jC H qs ps) (s:aL H H'):jC H' qs ps:=Paired.mapP h fun _ _ e=>s _ _ e
section
variable {P:Program} {w:World} {K:PySem.W.Frag} {mg:Str->Option Value} {base:Heap} {C CR CP:Addr}
def Aw:Sp:=fun vs H Q _=>∃ (g:Addr) (p:Pl),vs=[.ref g]/\H g=some (.tup (Rw p))/\∀ (H':Hp) (l:Addr) (qs:List Addr),aL H H'->H l=none->H' l=some (.lst (qs.map V.ref))->jC H' qs (xO p)->Q (.ref l) H'
theorem pU:aO ["place","x","y","z"] ["place"] (aG Av):=⟨rfl,rfl,rfl,by decide+kernel,rfl,by decide+kernel,by decide+kernel⟩
theorem Ri {f:Addr} {fd:FuncData} (F:fK K "neighbours" "neighbours" Av f fd) (L1:dO P w K mg base "above" bV 1 ["place"] nM) (L2:dO P w K mg base "below" bV 1 ["place"] nI):
  bU P w K mg base bV 2 f fd ["place"] Aw:=by
 obtain ⟨g1,gd1,G1,b1,k1,h1⟩:=L1.ex
 obtain ⟨g2,gd2,G2,b2,k2,h2⟩:=L2.ex
 refine F.ok pU (fun vs H Q E h=>?_) (fun cdv A outer s H vs Q E hr h=>?_)
 ·obtain ⟨g,p,rfl,_⟩:=h
  rfl
 ·obtain ⟨g,p,rfl,hg,k⟩:=h
  have hr1:=hr.mono (j:=1) (by decide)
  refine ⟨_,aF (bI (i:=1) pU.nd rfl (Or.inl rfl) (bY bQ (pv 0) aK (fun _ _=>rfl)))
   (aF (bI (i:=2) pU.nd rfl (Or.inl rfl) (bY bQ (pv 0) aK (fun _ _=>rfl)))
   (aF (bI (i:=3) pU.nd rfl (Or.inl rfl) (bY bQ (pv 0) aK (fun _ _=>rfl)))
   (aH (aV (eG (aA (eN (aA (cI eT (pv 1) aK) (aA (pv 2) (aA (pv 3) aE)))) (aA (eN (aA (cI fY (pv 1) aK) (aA (pv 2) (aA (pv 3) aE))))
    (aA (eN (aA (pv 1) (aA (cI eT (pv 2) aK) (aA (pv 3) aE)))) (aA (eN (aA (pv 1) (aA (cI fY (pv 2) aK) (aA (pv 3) aE))))
    (aA (aQ G1 hr1 (by rfl) h1 k1 b1 .nil aX (aA (pv 0) aE)) (aA (aQ G2 hr1 (by rfl) h2 k2 b2 .nil aX (aA (pv 0) aE)) aE))))))))))),?_⟩
  refine ⟨_,rfl,g,_,_,_,rfl,rfl,cN.of hg,rfl,?_⟩
  refine ⟨_,rfl,g,_,_,_,rfl,rfl,cN.of hg,rfl,?_⟩
  refine ⟨_,rfl,g,_,_,_,rfl,rfl,cN.of hg,rfl,?_⟩
  have sz:∀ a b c:V,[a,b,c].length<=sizeLine:=fun _ _ _=>by show 3<=sizeLine;decide
  refine ⟨_,rfl,_,_,rfl,rfl,_,rfl,_,rfl,sz _ _ _,fun q1 n1=>?_⟩
  refine ⟨_,rfl,_,_,rfl,rfl,_,rfl,_,rfl,sz _ _ _,fun q2 n2=>?_⟩
  refine ⟨_,rfl,_,rfl,_,_,rfl,rfl,_,rfl,sz _ _ _,fun q3 n3=>?_⟩
  refine ⟨_,rfl,_,rfl,_,_,rfl,rfl,_,rfl,sz _ _ _,fun q4 n4=>?_⟩
  have S1:=aL.new (o:=.tup (Rw (p.1 - 1,p.2.1,p.2.2))) n1
  have S2:=aL.new (o:=.tup (Rw (p.1+1,p.2.1,p.2.2))) n2
  have S3:=aL.new (o:=.tup (Rw (p.1,p.2.1 - 1,p.2.2))) n3
  have S4:=aL.new (o:=.tup (Rw (p.1,p.2.1+1,p.2.2))) n4
  have hg4:=S4 _ _ (S3 _ _ (S2 _ _ (S1 _ _ hg)))
  refine ⟨_,rfl,g,p.1,p.2.1,p.2.2,rfl,hg4,fun q5 n5=>?_⟩
  have S5:=aL.new (o:=.tup (Rw (oZ p))) n5
  refine ⟨_,rfl,g,p.1,p.2.1,p.2.2,rfl,S5 _ _ hg4,fun q6 n6=>?_⟩
  have S6:=aL.new (o:=.tup (Rw (oN p))) n6
  refine ⟨by show 6<=sizeLine;decide,fun l nl=>?_⟩
  have S7:=aL.new (o:=.lst [V.ref q1,V.ref q2,V.ref q3,V.ref q4,V.ref q5,V.ref q6]) nl
  have SB:=(((((S1.trans S2).trans S3).trans S4).trans S5).trans S6)
  refine k _ l [q1,q2,q3,q4,q5,q6] (SB.trans S7) (SB.free nl) aB ?_
  ·refine .cons ?_ (.cons ?_ (.cons ?_ (.cons ?_ (.cons ?_ (.cons ?_ .nil)))))
   ·exact (((((S2.trans S3).trans S4).trans S5).trans S6).trans S7) _ _ aB
   ·exact ((((S3.trans S4).trans S5).trans S6).trans S7) _ _ aB
   ·exact (((S4.trans S5).trans S6).trans S7) _ _ aB
   ·exact ((S5.trans S6).trans S7) _ _ aB
   ·exact (S6.trans S7) _ _ aB
   ·exact S7 _ _ aB
def iW:List (List Int)->Bool
 |a::b::r=> !HT.gC b a && iW (b::r)
 |_=>true
def Tu (CP:Addr) (H:Hp) (b:Addr) (nm:List Int):Prop:=∃ dx q W D Hh g c,H b=some (.ins CP dx (Mz q W D Hh g c))/\H q=some (.tup (nm.map V.int))
def Gn (K:PySem.W.Frag) (CP:Addr):Sp:=fun vs H Q _=>∃ (a:Addr) (bs:List Addr) (nms:List (List Int)),vs=[.ref a]/\dE K H a (bs.map V.ref)/\Paired (Tu CP H) bs nms/\1<=nms.length/\nms.length<=64/\Q (.bl (iW nms)) H
theorem Ix:aO ["parts","k"] ["parts"] (aG Iv):=⟨rfl,rfl,rfl,by decide+kernel,rfl,by decide+kernel,by decide+kernel⟩
theorem rH:∀ {l:List (List Int)},iW l=true↔∀ i a b,l[i]?=some a->l[i+1]?=some b->HT.gC b a=false
 |[]=>by simp [iW]
 |[x]=>by simp [iW]
 |x::y::r=>by
  have ih:=rH (l:=y::r)
  rw [iW,Bool.and_eq_true,ih,Bool.not_eq_true']
  constructor
  ·rintro ⟨h1,h2⟩ i a b ea eb
   cases i with
   |zero=>
    cases ea
    cases eb
    exact h1
   |succ i=>exact h2 i a b ea eb
  ·intro h
   exact ⟨h 0 x y rfl rfl,fun i a b ea eb=>h (i+1) a b ea eb⟩
theorem cG {α β:Type} {R:α->β->Prop}:∀ {as:List α} {bs:List β},Paired R as bs->∀ {i:Nat} {b:β},bs[i]?=some b->∃ a,as[i]?=some a/\R a b
 |_,_,.nil,i,b,h=>by simp at h
 |_,_,.cons r t,i,b,h=>by
  cases i with
  |zero=>cases h;exact ⟨_,rfl,r⟩
  |succ i=>exact cG t h
theorem Sf {f:Addr} {fd:FuncData} (F:fK K "names_grow" "names_grow" Iv f fd) (T':Na K CP) (hrange:mg "range"=none) (hlen:mg "len"=none):bU P w K mg base bV 2 f fd ["parts"] (Gn K CP):=by
 refine F.ok Ix (fun vs H Q E h=>?_) (fun cdv A outer s H vs Q E hr h=>?_)
 ·obtain ⟨a,bs,nms,rfl,_⟩:=h
  rfl
 ·obtain ⟨a,bs,nms,rfl,ha,hp,hn1,hn,k⟩:=h
  have hu:=lR hr
  refine ⟨_,aF (eU PassesOwn.never rfl (Mq rfl hrange (aA aK (aA (bS bW (by rfl) hlen PySem.boot_len (aA (pv 0) aE)) aE))) (bJ (i:=1) Ix.nd rfl (Or.inl rfl))
    (aH (eK (iB (Yi (Nat.lt_of_succ_lt hu)) (aT (bY kK (pv 0) (pv 1) (fun _ _=>rfl)) rfl) (aT (bY kK (pv 0) (cI eT (pv 1) aK) (fun _ _=>rfl)) rfl) (gU _)) (aH (aV mV)) cF)))
   (aH (aV mV)),?_⟩
  have hbl:bs.length=nms.length:=Paired.length hp
  have hsl:=bE
  have at':∀ (i:Nat) (nm:List Int),nms[i]?=some nm->∃ b,Qq (bs.map V.ref) (i:Int)=some (.ref b)/\Tu CP H b nm:=fun i nm e=>by
   obtain ⟨b,e1,e2⟩:=cG hp e
   exact ⟨b,kJ (by rw [List.getElem?_map,e1];rfl),e2⟩
  have hml:(bs.map V.ref).length=nms.length:=by rw [List.length_map,hbl]
  refine ⟨_,rfl,a,_,rfl,.inl ha,1,((bs.map V.ref).length:Int),rfl,⟨by decide,by decide,by (clear hml hsl hbl hu hn hn1;omega),by rw [hml];(clear hml hsl hbl hu hn1;omega)⟩,?_⟩
  have et:(((bs.map V.ref).length:Int) - 1).toNat=nms.length - 1:=by rw [hml];(clear hml hsl hbl hu hn hn1;omega)
  rw [et]
  refine xV (fun i σ H'=>∃ v1,σ=[some (.ref a),v1]/\H'=H/\∀ j x y,j<i->nms[j]?=some x->nms[j+1]?=some y->HT.gC y x=false) ⟨none,rfl,rfl,fun j x y hj=>absurd hj (Nat.not_lt_zero _)⟩ ?_ ?_
  ·rintro i σ H1 hi ⟨v1,rfl,rfl,al⟩
   have e0:nms[i]?=some nms[i]:=List.getElem?_eq_getElem (by (clear et hml hsl hbl hu hn hn1;omega))
   have e1:nms[i+1]?=some nms[i+1]:=List.getElem?_eq_getElem (by (clear et hsl hu;omega))
   obtain ⟨c0,g0,dx0,q0,W0,D0,H0,w0,cc0,f0,t0⟩:=at' i _ e0
   obtain ⟨c1,g1,dx1,q1,W1,D1,H1',w1,cc1,f1,t1⟩:=at' (i+1) _ e1
   have z1:(1:Int)+(i:Int)=((i+1:Nat):Int):=by (clear et hsl hu;omega)
   have z2:(1:Int)+(i:Int) - 1=((i:Nat):Int):=by (clear z1 et hsl hu;omega)
   refine ⟨_,rfl,_,rfl,a,_,_,_,rfl,rfl,ha,by rw [z1];exact g1,c1,CP,dx1,_,_,rfl,f1,T'.cl,T'.n1,rfl,?_⟩
   refine ⟨_,rfl,_,rfl,_,_,rfl,rfl,a,_,_,_,rfl,rfl,ha,by rw [z2];exact g0,c0,CP,dx0,_,_,rfl,f0,T'.cl,T'.n1,rfl,?_⟩
   refine ⟨q1,q0,_,_,rfl,rfl,cN.of t1,cN.of t0,_,rfl,cE (fun hle=>?_) (fun hle=>?_)⟩
   ·have e3:iW nms=false:=by
     rw [Bool.eq_false_iff]
     intro z
     have:=rH.mp z i _ _ e0 e1
     rw [hle] at this
     cases this
    rw [e3] at k
    exact k
   ·refine ⟨_,rfl,rfl,fun j x y hj ex ey=>?_⟩
    by_cases hji:j=i
    ·subst hji
     rw [e0] at ex
     rw [e1] at ey
     cases ex
     cases ey
     exact dB hle
    ·exact al j x y (by (clear hle z2 z1 et hsl hu;omega)) ex ey
  ·rintro σ H1 ⟨v1,rfl,rfl,al⟩
   have e3:iW nms=true:=rH.mpr fun i x y ex ey=>by
    have:=(List.getElem?_eq_some_iff.mp ey).1
    exact al i x y (by (clear et hml hsl hbl hu hn hn1;omega)) ex ey
   rw [e3] at k
   exact k
end
def gP (cs:CL) (st:List Pl×List Pl) (p:Pl):List Pl×List Pl:=if (aY cs p).isSome=true/\p∉st.1 then (st.1++[p],st.2++[p]) else st
def dM (cs:CL):Nat->List Pl->List Pl->List Pl
 |0,rs,_=>rs
 |n+1,rs,ws=>match ws.getLast? with
  |none=>rs
  |some q=>dM cs n ((xO q).foldl (gP cs) (rs,ws.dropLast)).1 ((xO q).foldl (gP cs) (rs,ws.dropLast)).2
def vK (cs:CL) (rs:List Pl):Nat:=(cs.filter fun c=> !decide (c.1∈rs)).length
def vT:CL->Bool
 |[]=>false
 |c::r=>decide ((dM (c::r) (c::r).length [c.1] [c.1]).length=(c::r).length)
theorem mU (c:Pl×Int) (r:CL) (rs:List Pl):vK (c::r) rs=(if c.1∈rs then 0 else 1)+vK r rs:=by
 unfold vK
 by_cases h:c.1∈rs
 ·rw [List.filter_cons_of_neg (by simp [h]),if_pos h,Nat.zero_add]
 ·rw [List.filter_cons_of_pos (by simp [h]),if_neg h,List.length_cons,Nat.add_comm]
theorem Qy (p:Pl) (rs:List Pl):∀ cs:CL,vK cs (rs++[p])<=vK cs rs
 |[]=>Nat.le_refl _
 |c::r=>by
  have ih:=Qy p rs r
  rw [mU,mU]
  by_cases h:c.1∈rs
  ·rw [if_pos h,if_pos (List.mem_append_left _ h)];omega
  ·rw [if_neg h]
   split<;>omega
theorem dJ {cs:CL} {p:Pl}:(aY cs p).isSome=true↔∃ c∈cs,c.1=p:=by
 unfold aY
 rw [Option.isSome_map,List.find?_isSome]
 simp
theorem mB {p:Pl} {rs:List Pl} (hp:p∉rs):∀ {cs:CL},(aY cs p).isSome=true->vK cs (rs++[p])+1<=vK cs rs
 |[],h=>by cases h
 |c::r,h=>by
  have hle:=Qy p rs r
  rw [mU,mU]
  by_cases hc:c.1=p
  ·rw [if_pos (by simp [hc]),if_neg (by rw [hc];exact hp)];(clear hp;omega)
  ·have h2:(aY r p).isSome=true:=by
    rw [dJ] at h ⊢
    obtain ⟨x,hx,e⟩:=h
    rcases List.mem_cons.mp hx with rfl|hx
    ·exact absurd e hc
    ·exact ⟨x,hx,e⟩
   have ih:=mB hp h2
   by_cases h3:c.1∈rs
   ·rw [if_pos h3,if_pos (List.mem_append_left _ h3)];(clear hc hle hp;omega)
   ·rw [if_neg h3,if_neg (by simp [h3,hc])];(clear h3 hc hle hp;omega)
def Ky (rs:List Pl):List (List eD×V):=rs.map fun p=>(eJ p.1 p.2.1 p.2.2,V.bl true)
theorem pL (p:Pl):∀ rs:List Pl,lF (Ky rs) (eJ p.1 p.2.1 p.2.2)=if p∈rs then some (V.bl true) else none
 |[]=>rfl
 |c::r=>by
  have ih:=pL p r
  unfold lF Ky at *
  rw [List.map_cons,List.find?_cons]
  by_cases h:c=p
  ·subst h
   simp
  ·have h2:¬eJ c.1 c.2.1 c.2.2=eJ p.1 p.2.1 p.2.2:=fun z=>h (wL.mp z)
   simp only [h2,decide_false]
   rw [ih]
   by_cases h3:p∈r
   ·rw [if_pos h3,if_pos (List.mem_cons_of_mem _ h3)]
   ·rw [if_neg h3,if_neg (by simp [h3,Ne.symm h])]
theorem jC.upd {H:Hp} {a:Addr} {o o':HO} {qs:List Addr} {ps:List Pl} (h:jC H qs ps) (ha:H a=some o) (ho:∀ xs,o≠.tup xs):jC (upd H a o') qs ps:=Paired.mapP h fun q p e=>by
 rw [aC (by rintro rfl;rw [ha] at e;cases e;exact ho _ rfl)]
 exact e
theorem sX {α β:Type} {R:α->β->Prop}:∀ {as:List α} {bs:List β},Paired R as bs->Paired R as.dropLast bs.dropLast
 |_,_,.nil=>.nil
 |_,_,.cons r .nil=>.nil
 |_,_,.cons r (.cons r2 t)=>.cons r (sX (.cons r2 t))
structure HS (CP:Addr) (H:Hp) (cs:CL) (d l:Addr) (rs ws:List Pl) (qs:List Addr) (H':Hp):Prop where
 sm:aL H H'
 dd:H' d=some (.dT (Ky rs))
 ll:H' l=some (.lst (qs.map V.ref))
 pl:jC H' qs ws
 c1:rs.length+vK cs rs<=cs.length
 c2:ws.length<=rs.length
theorem HS.same {CP:Addr} {H H1 H2:Hp} {cs:CL} {d l:Addr} {rs ws:List Pl} {qs:List Addr} (h:HS CP H cs d l rs ws qs H1) (s:aL H1 H2):HS CP H cs d l rs ws qs H2:=⟨h.sm.trans s,s _ _ h.dd,s _ _ h.ll,h.pl.same s,h.c1,h.c2⟩
theorem Po {rs:List Pl} {p:Pl} (h:p∉rs):lA (Ky rs) (eJ p.1 p.2.1 p.2.2) (V.bl true)=Ky (rs++[p]):=by
 rw [wT (V.bl true) (by rw [pL,if_neg h])]
 unfold Ky
 rw [List.map_append]
 rfl
section
variable {P:Program} {w:World} {K:PySem.W.Frag} {mg:Str->Option Value} {base:Heap} {C CR CP:Addr}
def Bg (CP:Addr):Sp:=fun vs H Q _=>∃ (b nm:Addr) (W D Hh g:Int) (cs:CL),vs=[.ref b]/\wZ CP H b nm W D Hh g cs/\cs.length<20000/\∀ H',aL H H'->Q (.bl (vT cs)) H'
theorem jY:aO ["part","start","reached","waiting","reached_last","place"] ["part"] (aG Ar):=⟨rfl,rfl,rfl,by decide+kernel,rfl,by decide+kernel,by decide+kernel⟩
theorem Nf {f:Addr} {fd:FuncData} (F:fK K "hangs_together" "hangs_together" Ar f fd) (T':Na K CP) (hlen:mg "len"=none) (hlist:mg "list"=none) (L1:dO P w K mg base "neighbours" bV 2 ["place"] Aw):
  bU P w K mg base bV 3 f fd ["part"] (Bg CP):=by
 obtain ⟨g1,gd1,G1,b1,k1,h1⟩:=L1.ex
 refine F.ok jY (fun vs H Q E h=>?_) (fun cdv A outer s H vs Q E hr h=>?_)
 ·obtain ⟨b,nm,W,D,Hh,g,cs,rfl,_⟩:=h
  rfl
 ·obtain ⟨b,nm,W,D,Hh,g,cs,rfl,⟨dx,c,hb,hc⟩,hl,k⟩:=h
  have hr2:=hr.mono (j:=2) (by decide)
  have hu:=lR hr
  refine ⟨_,aF (eK (iB qG (bS rJ (by rfl) hlen PySem.boot_len (aA (aT (pv 0) rfl) aE)) aK (gU _)) (aH (aV mV)) cF)
   (aF (bI (i:=1) jY.nd rfl (Or.inl rfl) (bY kK (jU (Hl rfl) (by rfl) hlist boot_list (aA (aT (pv 0) rfl) aE)) aK (fun _ _=>rfl)))
   (aF (bI (i:=2) jY.nd rfl (Or.inl rfl) (Nw hu (pv 1) mV))
   (aF (bI (i:=3) jY.nd rfl (Or.inl rfl) (eG (aA (pv 1) aE)))
   (aF (jW PassesOwn.never (eB (sI (bS bW (by rfl) hlen PySem.boot_len (aA (pv 3) aE)) aK))
    (aF (bI (i:=4) jY.nd rfl (Or.inl rfl) (Yo PySem.F.plainAttrs_list PySem.F.slot_list_pop PySem.F.type_list_pop Yw (pv 3)))
    (aH (eU PassesOwn.never rfl (kY (aQ G1 hr2 (by rfl) h1 k1 b1 .nil aX (aA (pv 4) aE))) (bJ (i:=5) jY.nd rfl (Or.inl rfl))
     (aH (eK (gX (eB (rD hu (pv 5) (aT (pv 0) rfl))) (hZ (eB (Mw hu (pv 5) (pv 2))))).pt
      (aF (nQ hu (pv 2) (pv 5) mV rfl) (aH (cD (mD PySem.F.plainAttrs_list PySem.F.slot_list_append PySem.F.type_list_append gG (pv 3) (aA (pv 5) aE))))) cF))))))
   (aH (aV (kT qG (bS rJ (by rfl) hlen PySem.boot_len (aA (pv 2) aE)) (bS rJ (by rfl) hlen PySem.boot_len (aA (aT (pv 0) rfl) aE)) (gU _)))))))),?_⟩
  have kl:(aI cs).length=cs.length:=by unfold aI;rw [List.length_map]
  have hsl:=bE
  refine ⟨_,rfl,b,CP,dx,_,_,rfl,hb,T'.cl,T'.n6,rfl,c,_,rfl,.inl hc,rfl,_,rfl,cE (fun h0=>?_) (fun h0=>?_)⟩
  ·rw [gW] at h0
   have h0:=of_decide_eq_true h0
   have e0:cs=[]:=List.length_eq_zero_iff.mp (by (clear hsl hu hl;omega))
   subst e0
   exact k H (aL.id' _)
  ·rw [gW] at h0
   have h0:¬((aI cs).length:Int)=0:=fun z=>h0 (decide_eq_true z)
   cases cs with
   |nil=>exact absurd rfl h0
   |cons c0 cr=>
   refine ⟨_,rfl,b,CP,dx,_,_,rfl,hb,T'.cl,T'.n6,rfl,c,_,rfl,.inl hc,fun lk ps hlk hps=>?_⟩
   obtain ⟨st,psr,rfl,hst⟩:∃ st psr,ps=st::psr/\H st=some (.tup (Rw c0.1)):=by
    cases hps with
    |cons r t=>exact ⟨_,_,rfl,r⟩
   have S1:=aL.new (o:=.lst ((st::psr).map V.ref)) hlk
   refine ⟨lk,_,0,.ref st,rfl,rfl,dE.of aB,kJ (j:=0) rfl,?_⟩
   have hst1:=S1 _ _ hst
   generalize upd H lk (.lst ((st::psr).map V.ref))=H1 at S1 hst1
   intro d hd
   have S2:=aL.new (o:=.dT []) hd
   refine ⟨_,rfl,aB,st,eJ c0.1.1 c0.1.2.1 c0.1.2.2,rfl,S2 _ _ hst1,?_⟩
   refine ⟨_,rfl,by show 1<=sizeLine;decide,fun l hl'=>?_⟩
   have dd0:upd (upd H1 d (.dT [])) d (.dT [(eJ c0.1.1 c0.1.2.1 c0.1.2.2,V.bl true)])=upd H1 d (.dT (Ky [c0.1])):=by
    funext x
    by_cases hx:x=d
    ·rw [hx,aB,aB];rfl
    ·rw [aC hx,aC hx,aC hx]
   rw [dd0] at hl' ⊢
   have S3:aL H1 (upd H1 d (.dT (Ky [c0.1]))):=aL.new hd
   have S4:=aL.new (o:=.lst [V.ref st]) hl'
   have hdH:H d=none:=S1.free hd
   have hlH:H l=none:=(S1.trans S3).free hl'
   have ndl:d≠l:=fun z=>by rw [<-z,aB] at hl';cases hl'
   have hb':∀ {H':Hp},aL H H'->H' b=some (.ins CP dx (Mz nm W D Hh g c)):=fun s=>s _ _ hb
   have hc':∀ {H':Hp},aL H H'->H' c=some (.dT (aI (c0::cr))):=fun s=>s _ _ hc
   generalize hcs:c0::cr=cs at *
   refine ⟨fun m σ H'=>∃ rs ws qs v4 v5,σ=[some (.ref b),some (.ref st),some (.ref d),some (.ref l),v4,v5]/\HS CP H cs d l rs ws qs H'/\ws.length+vK cs rs<=m/\dM cs cs.length [c0.1] [c0.1]=dM cs m rs ws,
    ⟨cs.length,[c0.1],[c0.1],[st],none,none,rfl,⟨(S1.trans S3).trans S4,S4 _ _ aB,aB,.cons (S4 _ _ (S3 _ _ hst1)) .nil,?_,Nat.le_refl _⟩,?_,rfl⟩,?_⟩
   ·have u1:vK cs [c0.1]+1<=cs.length:=by
     have z:=mB (p:=c0.1) (rs:=[]) (cs:=cs) (by simp) (dJ.mpr ⟨c0,by rw [<-hcs];exact List.mem_cons_self,rfl⟩)
     have z2:vK cs []<=cs.length:=List.length_filter_le _ _
     exact Nat.le_trans z z2
    show 1+vK cs [c0.1]<=cs.length
    (clear h0 kl hl hsl hu;omega)
   ·have u1:vK cs [c0.1]+1<=cs.length:=by
     have z:=mB (p:=c0.1) (rs:=[]) (cs:=cs) (by simp) (dJ.mpr ⟨c0,by rw [<-hcs];exact List.mem_cons_self,rfl⟩)
     have z2:vK cs []<=cs.length:=List.length_filter_le _ _
     exact Nat.le_trans z z2
    show 1+vK cs [c0.1]<=cs.length
    (clear h0 kl hl hsl hu;omega)
   ·rintro m σ H2 ⟨rs,ws,qs,v4,v5,rfl,hs,hm,er⟩
    have ql:qs.length=ws.length:=Paired.length hs.pl
    refine ⟨_,rfl,l,_,rfl,.inl (dE.of hs.ll),_,_,rfl,rfl,_,rfl,cE (fun hw=>?_) (fun hw=>?_)⟩
    ·have hw:(0:Int)<((qs.map V.ref).length:Int):=of_decide_eq_true hw
     rw [List.length_map] at hw
     obtain ⟨n,rfl⟩:∃ n,m=n+1:=⟨m - 1,by (clear h0 kl hl hsl hu;omega)⟩
     obtain ⟨q,eq⟩:∃ q,ws[ws.length - 1]?=some q:=⟨_,List.getElem?_eq_getElem (by (clear hm h0 kl hl hsl hu;omega))⟩
     obtain ⟨qa,eqa,hqa⟩:=cG hs.pl eq
     have elast:ws.getLast?=some q:=by rw [List.getLast?_eq_getElem?];exact eq
     have er2:dM cs (n+1) rs ws=dM cs n ((xO q).foldl (gP cs) (rs,ws.dropLast)).1 ((xO q).foldl (gP cs) (rs,ws.dropLast)).2:=by
      rw [dM,elast]
     have hwd:ws.dropLast.length+1=ws.length:=by rw [List.length_dropLast];(clear hm h0 kl hl hsl hu;omega)
     have nq:qa≠l:=fun z=>by rw [z,hs.ll] at hqa;cases hqa
     refine ⟨fun σ' H'=>∃ rs ws qs v4 v5,σ'=[some (.ref b),some (.ref st),some (.ref d),some (.ref l),v4,v5]/\HS CP H cs d l rs ws qs H'/\ws.length+vK cs rs<=n/\dM cs cs.length [c0.1] [c0.1]=dM cs n rs ws,fun σ' H' z=>⟨n,Nat.lt_succ_self n,z⟩,?_⟩
     refine ⟨_,rfl,.inl ⟨rfl,_,dE.of hs.ll⟩,l,_,.ref qa,rfl,rfl,hs.ll,(by rw [List.length_map,List.getElem?_map,ql,eqa];rfl),?_⟩
     have hs3:HS CP H cs d l rs ws.dropLast qs.dropLast (upd H2 l (.lst (qs.map V.ref).dropLast)):=⟨fun x o e=>by rw [aC (aD e hlH)];exact hs.sm _ _ e,by rw [aC ndl];exact hs.dd,by rw [aB,List.map_dropLast],jC.upd (sX hs.pl) hs.ll (fun xs z=>by cases z),hs.c1,by have:=hs.c2;(clear hm hw ql h0 kl hl hsl hu;omega)⟩
     have hqa3:upd H2 l (.lst (qs.map V.ref).dropLast) qa=some (.tup (Rw q)):=by rw [aC nq];exact hqa
     generalize upd H2 l (.lst (qs.map V.ref).dropLast)=H3 at hs3 hqa3
     refine ⟨_,rfl,qa,q,rfl,hqa3,fun H4 nl ns S4 hnl hln pns=>?_⟩
     have nd:nl≠d:=fun z=>by rw [z,hs3.dd] at hnl;cases hnl
     have nll:nl≠l:=fun z=>by rw [z,hs3.ll] at hnl;cases hnl
     have hs4:=hs3.same S4
     refine ⟨nl,rfl,⟨_,dE.of hln⟩,?_⟩
     refine Bv (xs:=ns.map V.ref) (fun i σ H'=>∃ rs' ws' qs' v5,σ=[some (.ref b),some (.ref st),some (.ref d),some (.ref l),some (.ref qa),v5]/\HS CP H cs d l rs' ws' qs' H'/\ws'.length+vK cs rs'<=n/\((xO q).take i).foldl (gP cs) (rs,ws.dropLast)=(rs',ws')/\H' nl=some (.lst (ns.map V.ref))/\jC H' ns (xO q))
      ⟨rs,ws.dropLast,qs.dropLast,v5,rfl,hs4,by (clear hw ql h0 kl hl hsl hu;omega),rfl,hln,pns⟩ (fun i σ H' _ z=>by obtain ⟨_,_,_,_,_,_,_,_,z,_⟩:=z;exact dE.of z) ?_ ?_
     ·rintro i x σ H5 ex ⟨rs',ws',qs',v5,rfl,hs5,hm5,ef,hn5,pn5⟩
      have hi:i<ns.length:=by
       have:=(List.getElem?_eq_some_iff.mp ex).1
       rwa [List.length_map] at this
      have nsl:ns.length=(xO q).length:=Paired.length pn5
      obtain ⟨p,ep⟩:∃ p,(xO q)[i]?=some p:=⟨_,List.getElem?_eq_getElem (by (clear hm5 hwd hm hw ql h0 kl hl hsl hu;omega))⟩
      obtain ⟨pa,epa,hpa⟩:=cG pn5 ep
      rw [List.getElem?_map,epa] at ex
      cases ex
      have ef2:((xO q).take (i+1)).foldl (gP cs) (rs,ws.dropLast)=gP cs (rs',ws') p:=by
       rw [List.take_succ,ep,List.foldl_append,ef]
       rfl
      have stay:¬((aY cs p).isSome=true/\p∉rs')->((xO q).take (i+1)).foldl (gP cs) (rs,ws.dropLast)=(rs',ws'):=fun z=>by
       rw [ef2]
       exact if_neg z
      have hl5:ws'.length<=rs'.length:=hs5.c2
      have hl6:=hs5.c1
      refine ⟨_,rfl,_,rfl,b,CP,dx,_,_,rfl,hb' hs5.sm,T'.cl,T'.n6,rfl,c,_,rfl,wM (hc' hs5.sm) hpa,_,rfl,cE (fun hin=>?_) (fun hin=>tG ⟨rs',ws',qs',_,rfl,hs5,hm5,stay (fun z=>hin (by rw [Option.isSome_map];exact z.1)),hn5,pn5⟩)⟩
      rw [Option.isSome_map] at hin
      refine ⟨_,rfl,_,rfl,d,_,rfl,rE.t (k:=eJ p.1 p.2.1 p.2.2) hs5.dd hpa,_,rfl,cE (fun hno=>?_) (fun hno=>?_)⟩
      ·have hnp:p∉rs':=fun z=>by
        rw [pL,if_pos z] at hno
        cases hno
       have hpu:=mB hnp hin
       refine ⟨_,rfl,_,rfl,d,_,rfl,xD.t (k:=eJ p.1 p.2.1 p.2.2) hs5.dd hpa (by unfold Ky;rw [List.length_map];(clear hpu hnp hl5 nsl hi hm5 hwd hm hw ql h0 kl hu;omega)),?_⟩
       rw [Po hnp]
       have ndl':l≠d:=Ne.symm ndl
       have ql5:qs'.length=ws'.length:=Paired.length hs5.pl
       have ll6:upd H5 d (.dT (Ky (rs'++[p]))) l=some (.lst (qs'.map V.ref)):=by rw [aC ndl'];exact hs5.ll
       refine ⟨_,rfl,.inl ⟨rfl,_,dE.of ll6⟩,_,rfl,l,_,_,rfl,rfl,ll6,by rw [List.length_map];(clear hpu hnp nsl hi hm5 hwd hm hw ql h0 kl hu;omega),?_⟩
       have npd:pa≠d:=fun z=>by rw [z,hs5.dd] at hpa;cases hpa
       have npl:pa≠l:=fun z=>by rw [z,hs5.ll] at hpa;cases hpa
       have pl6:∀ {qq:List Addr} {pp:List Pl},jC H5 qq pp->jC (upd (upd H5 d (.dT (Ky (rs'++[p])))) l (.lst (qs'.map V.ref++[V.ref pa]))) qq pp:=fun z=>jC.upd (jC.upd z hs5.dd (fun xs z=>by cases z)) ll6 (fun xs z=>by cases z)
       refine ⟨rs'++[p],ws'++[p],qs'++[pa],_,rfl,⟨fun x o e=>?_,by rw [aC ndl,aB],by rw [aB,List.map_append];rfl,Paired.snoc (pl6 hs5.pl) (by rw [aC npl,aC npd];exact hpa),?_,?_⟩,?_,?_,by rw [aC nll,aC nd];exact hn5,pl6 pn5⟩
       ·rw [aC (aD e hlH),aC (aD e hdH)]
        exact hs5.sm _ _ e
       ·rw [List.length_append]
        show rs'.length+1+_<=_
        (clear ql5 hnp hl5 nsl hi hm5 hwd hm hw ql h0 kl hl hsl hu;omega)
       ·rw [List.length_append,List.length_append]
        show ws'.length+1<=rs'.length+1
        (clear ql5 hpu hnp hl6 nsl hi hm5 hwd hm hw ql h0 kl hl hsl hu;omega)
       ·rw [List.length_append]
        show ws'.length+1+_<=_
        (clear ql5 hnp hl6 hl5 nsl hi hwd hm hw ql h0 kl hl hsl hu;omega)
       ·rw [ef2]
        exact if_pos ⟨hin,hnp⟩
      ·refine ⟨rs',ws',qs',_,rfl,hs5,hm5,stay (fun z=>hno ?_),hn5,pn5⟩
       rw [pL,if_neg z.2]
       rfl
     ·rintro σ H5 ⟨rs',ws',qs',v5,rfl,hs5,hm5,ef,hn5,pn5⟩
      have nsl:ns.length=(xO q).length:=Paired.length pn5
      rw [List.length_map,nsl,List.take_length] at ef
      refine ⟨rs',ws',qs',_,v5,rfl,hs5,hm5,?_⟩
      rw [er,er2,ef]
    ·have hw:¬(0:Int)<((qs.map V.ref).length:Int):=fun z=>hw (decide_eq_true z)
     rw [List.length_map] at hw
     have e0:ws=[]:=List.length_eq_zero_iff.mp (by (clear hm h0 kl hl hsl hu;omega))
     subst e0
     have er3:dM cs m rs []=rs:=by cases m<;>rfl
     refine ⟨_,rfl,d,_,rfl,.inl hs.dd,_,rfl,b,CP,dx,_,_,rfl,hb' hs.sm,T'.cl,T'.n6,rfl,c,_,rfl,.inl (hc' hs.sm),rfl,?_⟩
     have kk:=k H2 hs.sm
     have e5:vT cs=decide (V.int ((Ky rs).length:Int)=V.int ((aI cs).length:Int)):=by
      rw [gW]
      have e6:vT cs=decide ((dM cs cs.length [c0.1] [c0.1]).length=cs.length):=by rw [<-hcs];rfl
      rw [e6,er,er3,kl]
      unfold Ky
      rw [List.length_map,decide_eq_decide]
      (clear ql hm hw h0 kl hl hsl hu;omega)
     rw [e5] at kk
     exact kk
end
def uX (y z:Nat):Nat->List Int->CL
 |_,[]=>[]
 |x,s::r=>(if s=46 then [] else [(((x:Int),(y:Int),(z:Int)),s)])++uX y z (x+1) r
def pE (d:Nat):Nat->List (List Int)->CL
 |_,[]=>[]
 |j,r::rs=>uX (j % d) (j / d) 0 r++pE d (j+1) rs
theorem En (y z:Nat):∀ (xs:List Int) (x:Nat),fA y z x xs=aI (uX y z x xs)
 |[],x=>rfl
 |s::r,x=>by
  rw [fA,uX,En y z r (x+1)]
  unfold aI
  rw [List.map_append]
  split<;>rfl
theorem rY (d:Nat):∀ (rs:List (List Int)) (j:Nat),dX d j rs=aI (pE d j rs)
 |[],j=>rfl
 |r::rs,j=>by
  rw [dX,pE,En,rY d rs (j+1)]
  unfold aI
  rw [List.map_append]
def sN (pr:aM):CL:=pE pr.d 0 pr.rows
def An (cs:CL) (W D Hh:Int):Bool:=mC cs && (lY cs && (mW cs W D Hh && vT cs))
def gK (pr:aM):Bool:=An (sN pr) pr.w pr.d pr.h
def nD (prs:List aM):Bool:=prs.all gK && iW (prs.map (·.name))
theorem eC.pt {CP:Addr} {H:Hp} {b:Addr} {pr:aM} (h:eC CP H b pr):∃ nm,wZ CP H b nm pr.w pr.d pr.h pr.g (sN pr):=by
 obtain ⟨dx,nm,c,h1,h2,h3⟩:=h
 exact ⟨nm,dx,c,h1,by rw [h3,rY];rfl⟩
theorem eC.nm {CP:Addr} {H:Hp} {b:Addr} {pr:aM} (h:eC CP H b pr):Tu CP H b pr.name:=by
 obtain ⟨dx,nm,c,h1,h2,h3⟩:=h
 exact ⟨dx,nm,_,_,_,_,c,h1,h2⟩
theorem rX.len {pr:aM} (h:rX pr):(sN pr).length<20000:=by
 have e:(sN pr).length=(dX pr.d 0 pr.rows).length:=by
  rw [rY]
  unfold aI sN
  rw [List.length_map]
 have h1:=oO pr.d pr.w pr.rows 0 h.rw
 have h2:pr.rows.length * pr.w<=(16 * 18) * 16:=by
  rw [h.rl]
  exact Nat.mul_le_mul (Nat.mul_le_mul h.d2 h.h2) h.w2
 omega
section
variable {P:Program} {w:World} {K:PySem.W.Frag} {mg:Str->Option Value} {base:Heap} {C CR CP:Addr}
def tK (CP:Addr):Sp:=fun vs H Q _=>∃ (b nm:Addr) (W D Hh g:Int) (cs:CL),vs=[.ref b]/\wZ CP H b nm W D Hh g cs/\cs.length<20000/\∀ H',aL H H'->Q (.bl (An cs W D Hh)) H'
theorem wZ.same {H H':Hp} {b nm:Addr} {W D Hh g:Int} {cs:CL} (h:wZ CP H b nm W D Hh g cs) (s:aL H H'):wZ CP H' b nm W D Hh g cs:=by
 obtain ⟨dx,c,h1,h2⟩:=h
 exact ⟨dx,c,s _ _ h1,s _ _ h2⟩
theorem Oa:aO ["part"] ["part"] (aG lL):=⟨rfl,rfl,rfl,by decide+kernel,rfl,by decide+kernel,by decide+kernel⟩
theorem Ow {f:Addr} {fd:FuncData} (F:fK K "part_right" "part_right" lL f fd) (L1:dO P w K mg base "studs_clear" bV 2 ["part"] (Aq CP)) (L2:dO P w K mg base "tubes_clear" bV 2 ["part"] (zY CP))
  (L3:dO P w K mg base "fills_its_box" bV 2 ["part"] (Ad CP)) (L4:dO P w K mg base "hangs_together" bV 3 ["part"] (Bg CP)):bU P w K mg base bV 4 f fd ["part"] (tK CP):=by
 obtain ⟨g1,gd1,G1,b1,k1,h1⟩:=L1.ex
 obtain ⟨g2,gd2,G2,b2,k2,h2⟩:=L2.ex
 obtain ⟨g3,gd3,G3,b3,k3,h3⟩:=L3.ex
 obtain ⟨g4,gd4,G4,b4,k4,h4⟩:=L4.ex
 refine F.ok Oa (fun vs H Q E h=>?_) (fun cdv A outer s H vs Q E hr h=>?_)
 ·obtain ⟨b,nm,W,D,Hh,g,cs,rfl,_⟩:=h
  rfl
 ·obtain ⟨b,nm,W,D,Hh,g,cs,rfl,hp,hl,k⟩:=h
  have hr2:=hr.mono (j:=2) (by decide)
  have hr3:=hr.mono (j:=3) (by decide)
  refine ⟨_,aH (aV (rZ (aQ G1 hr2 (by rfl) h1 k1 b1 .nil aX (aA (pv 0) aE)) (rZ (aQ G2 hr2 (by rfl) h2 k2 b2 .nil aX (aA (pv 0) aE))
   (rZ (aQ G3 hr2 (by rfl) h3 k3 b3 .nil aX (aA (pv 0) aE)) (sB (aQ G4 hr3 (by rfl) h4 k4 b4 .nil aX (aA (pv 0) aE))))))),?_⟩
  unfold An at k
  refine ⟨_,rfl,b,nm,W,D,Hh,g,cs,rfl,hp,fun H1 S1=>⟨_,rfl,cE (fun e1=>?_) (fun e1=>?_)⟩⟩
  ·rw [e1,Bool.true_and] at k
   refine ⟨_,rfl,b,nm,W,D,Hh,g,cs,rfl,hp.same S1,fun H2 S2=>⟨_,rfl,cE (fun e2=>?_) (fun e2=>?_)⟩⟩
   ·rw [e2,Bool.true_and] at k
    have S2:=S1.trans S2
    refine ⟨_,rfl,b,nm,W,D,Hh,g,cs,rfl,hp.same S2,hl,fun H3 S3=>⟨_,rfl,cE (fun e3=>?_) (fun e3=>?_)⟩⟩
    ·rw [e3,Bool.true_and] at k
     have S3:=S2.trans S3
     exact ⟨_,rfl,b,nm,W,D,Hh,g,cs,rfl,hp.same S3,hl,fun H4 S4=>k H4 (S3.trans S4)⟩
    ·rw [dB e3,Bool.false_and] at k
     exact k H3 (S2.trans S3)
   ·rw [dB e2,Bool.false_and] at k
    exact k H2 (S1.trans S2)
  ·rw [dB e1,Bool.false_and] at k
   exact k H1 S1
def oY (K:PySem.W.Frag) (CP:Addr):Sp:=fun vs H Q _=>∃ (a:Addr) (bs:List Addr) (prs:List aM),vs=[.ref a]/\dE K H a (bs.map V.ref)/\dS CP H bs prs/\1<=prs.length/\prs.length<=64/\∀ H',aL H H'->Q (.bl (nD prs)) H'
theorem mS:aO ["parts","part"] ["parts"] (aG jR):=⟨rfl,rfl,rfl,by decide+kernel,rfl,by decide+kernel,by decide+kernel⟩
theorem Db {f:Addr} {fd:FuncData} (F:fK K "catalogue_right" "catalogue_right" jR f fd) (hall:mg "all"=none) (L1:dO P w K mg base "part_right" bV 4 ["part"] (tK CP)) (L2:dO P w K mg base "names_grow" bV 2 ["parts"] (Gn K CP)):
  bU P w K mg base bV 5 f fd ["parts"] (oY K CP):=by
 obtain ⟨g1,gd1,G1,b1,k1,h1⟩:=L1.ex
 obtain ⟨g2,gd2,G2,b2,k2,h2⟩:=L2.ex
 refine F.ok mS (fun vs H Q E h=>?_) (fun cdv A outer s H vs Q E hr h=>?_)
 ·obtain ⟨a,bs,prs,rfl,_⟩:=h
  rfl
 ·obtain ⟨a,bs,prs,rfl,ha,hp,hn1,hn,k⟩:=h
  have hr2:=hr.mono (j:=2) (by decide)
  have hr4:=hr.mono (j:=4) (by decide)
  refine ⟨_,aH (aV (rZ (bS (Xi rfl) (by rfl) hall boot_all (aA (zF (own:=[("part",1)]) (te:=xP (tK CP) [] E0 (dL (dI 1) gR)) rfl mS.nd (kY (pv 0)) (gN (N:=["parts","part"]) (sc:=aG jR) (by decide+kernel))
      (fun _ _ _ _ _=>bJ (i:=1) mS.nd rfl (Or.inl rfl)) (fun _ _ _ _ _=>lJ) (fun _ _ _ _ _=>aQ G1 hr4 (by rfl) h1 k1 b1 .nil aX (aA (pv 1) aE))) aE))
    (sB (aQ G2 hr2 (by rfl) h2 k2 b2 .nil aX (aA (pv 0) aE))))),?_⟩
  have hbl:bs.length=prs.length:=Paired.length hp
  have hsl:=bE
  refine ⟨_,rfl,a,rfl,⟨_,ha⟩,fun Dl hDl=>?_⟩
  refine pV (xs:=bs.map V.ref) (fun i H'=>aL H H'/\H' Dl=some (.lst (((prs.take i).map gK).map V.bl))) ⟨aL.new hDl,aB⟩ (fun i H' _ z=>z.1.seq ha) ?_ ?_
  ·rintro i x H1 ex ⟨S1,hD1⟩
   have hi:i<prs.length:=by
    have:=(List.getElem?_eq_some_iff.mp ex).1
    rwa [List.length_map,hbl] at this
   obtain ⟨pr,ep⟩:∃ pr,prs[i]?=some pr:=⟨_,List.getElem?_eq_getElem hi⟩
   obtain ⟨b,eb,pa,po⟩:=cG hp ep
   rw [List.getElem?_map,eb] at ex
   cases ex
   obtain ⟨nm,pt⟩:=pa.pt
   refine ⟨rfl,_,rfl,b,nm,_,_,_,_,_,rfl,pt.same S1,po.len,fun H2 S2=>⟨_,S2 _ _ hD1,?_,?_,?_⟩⟩
   ·rw [List.length_map,List.length_map,List.length_take]
    (clear hi hbl hn1;omega)
   ·intro b' o e
    rw [aC (aD e hDl)]
    exact S2 _ _ (S1 _ _ e)
   ·rw [aB,List.take_succ,ep,List.map_append,List.map_append]
    rfl
  ·rintro H1 ⟨S1,hD1⟩
   rw [List.length_map,hbl,List.take_length] at hD1
   refine ⟨Dl,_,rfl,dE.of hD1,_,rfl,cE (fun e1=>?_) (fun e1=>?_)⟩
   ·refine ⟨_,rfl,a,bs,prs.map (·.name),rfl,S1.seq ha,?_,by rw [List.length_map];exact hn1,by rw [List.length_map];exact hn,?_⟩
    ·have key:∀ {bs:List Addr} {prs:List aM},dS CP H bs prs->Paired (Tu CP H1) bs (prs.map (·.name)):=by
      intro bs prs z
      unfold dS at z
      induction z with
      |nil=>exact .nil
      |cons h t ih=>exact .cons (h.1.same S1).nm ih
     exact key hp
    ·have kk:=k H1 S1
     unfold nD at kk
     rw [List.all_map] at e1
     have e1:prs.all gK=true:=e1
     rw [e1,Bool.true_and] at kk
     exact kk
   ·have kk:=k H1 S1
    unfold nD at kk
    rw [List.all_map] at e1
    have e1:¬prs.all gK=true:=e1
    rw [dB e1,Bool.false_and] at kk
    exact kk
end
end Br1
namespace HT
open PySem PyProof.Rows
section
variable {prog:Program} {w:World} {A:Around} {E:Value->Shared->Prop} {s:Shared}
theorem oG {t sl:Addr} {items:Array Value} {vl vu:Value} {lo hi:Option Int} {Q:Value->Shared->Prop} (ht:IsTup s.heap t items) (hs:s.heap.IsSliceOf sl vl vu .none) (pl:IsPart vl lo) (pu:IsPart vu hi)
  (hw:gQ items.size 0 lo=0/\gQ items.size items.size hi=items.size) (h:Q (.ref t) s):wpAny (model prog w) A (getItem (.ref t) (.ref sl)) Q E s:=by
 obtain ⟨os,hos,hcs,hds⟩:=id hs
 have hTs:s.TypeIs (.ref sl) "slice":=⟨os,hos,hcs⟩
 unfold getItem
 try with_reducible refine wpAny_holding ?_
 first|refine wpAny_bind (wpAny_pure ?_)|skip
 refine wpAny_bind (wpAny_sequenceKey ht.typeIs (by decide) ?_)
 refine wpAny_bind (wpAny_callSpecial?_slot (name:=Str.ofString "__getitem__") ht.typeIs PyProof.Rows.slot_tuple_getitem
  (wpAny_call_entry PyProof.Rows.slot_tuple_getitem ht.typeIs entry_tuple_getitem ?_ (args_tuple_getitem _ _)))
 show wpAny _ _ (Builtin.Tuple.tupleItemsOf (.ref t)>>=_) _ _ s
 refine wpAny_bind (tupleItemsOf_ ht ?_)
 refine wpAny_bind (wpAny_typeOf hTs ?_)
 rw [if_pos (by decide)]
 refine wpAny_bind (jL hs pl pu ?_)
 have hyes:((((gQ items.size 0 lo:Nat):Int)==0 && (1:Int)==1 && (gQ items.size items.size hi - gQ items.size 0 lo)==items.size)=true):=by
  rw [hw.1,hw.2]
  simp
 show wpAny _ _ (if (((gQ items.size 0 lo:Nat):Int)==0 && (1:Int)==1 && (gQ items.size items.size hi - gQ items.size 0 lo)==items.size)=true then _ else _) _ _ s
 rw [if_pos hyes]
 unfold Builtin.Tuple.tupleIsExact
 refine wpAny_bind (wpAny_bind (wpAny_typeOf ht.typeIs (wpAny_pure ?_)))
 rw [if_pos (by decide)]
 exact wpAny_bind (wpAny_rule (wpAny_pure ⟨_,rfl,wpAny_pure h⟩))
end
end HT
namespace L2
open PySem PySem.Spec PyProof.Rows
section
variable {X:Cx}
def Wt (K:PySem.W.Frag):V->Option Int->Option Int->Hp->VK->Prop:=fun x lo hi H Q=>∃ a xs,x=.ref a/\cN K H a xs/\∀ p H',aL H H'->cN K H' p (uS xs lo hi)->Q (.ref p) H'
theorem Kd:SlR X (Wt X.K):=by
 intro pins s σ H x v vl vu lo hi sl Q I rx hs pl pu h
 obtain ⟨a,xs,rfl,hx,q⟩:=h
 by_cases hw:HT.gQ xs.length 0 lo=0/\HT.gQ xs.length xs.length hi=xs.length
 ·cases rx
  obtain ⟨its,r,ht,hz⟩:=I.tuple hx
  have hlen:its.toArray.size=xs.length:=by rw [List.size_toArray];exact r.length.symm
  refine ⟨"tuple",_,PyProof.Rows.slot_tuple_getitem.lookup,ht.typeIs,?_⟩
  refine HT.oG ht hs pl pu (by rw [hlen];exact hw) ⟨.ref a,H,I,rfl,q a H (fun _ _ e=>e) ?_⟩
  have e:uS xs lo hi=xs:=by
   unfold uS
   rw [hw.1,hw.2,List.drop_zero,Nat.sub_zero,List.take_length]
  rw [e]
  exact hx
 ·exact Wg pins s σ H _ v vl vu lo hi sl Q I rx hs pl pu ⟨a,xs,rfl,hx,hw,fun p hp=>q p _ (fun b o e=>by rw [aC (aD e hp)];exact e) (cN.of aB)⟩
end
theorem aL.seqT {K:PySem.W.Frag} {H H':Hp} {a:Addr} {xs:List V} (e:aL H H') (h:cN K H a xs):cN K H' a xs:=by
 rcases h with (h|⟨o,h⟩)|h
 ·exact .inl (.inl (e _ _ h))
 ·exact .inl (.inr ⟨o,e _ _ h⟩)
 ·exact .inr h
end L2
namespace Br1
open PySem PySem.Spec PyProof.Rows L2
def hX (nss:List (List Int)) (ns:List Int):Bool:=nss.any fun m=>decide (m.take ns.length=ns)
theorem No (m:List Int) (k:Nat):uS (m.map V.int) none (some (k:Int))=(m.take k).map V.int:=by
 unfold uS
 rw [HT.Rb,HT.Ib,Nat.sub_zero,List.drop_zero,List.length_map]
 rw [<-List.map_take]
 congr 1
 by_cases h:k<=m.length
 ·rw [Nat.min_eq_left h]
 ·rw [Nat.min_eq_right (by omega),List.take_length,List.take_of_length_le (by omega)]
section
variable {P:Program} {w:World} {K:PySem.W.Frag} {mg:Str->Option Value} {base:Heap} {C CR CP:Addr}
theorem oH.same {H H':Hp} {xs:List V} {nss:List (List Int)} (h:oH K H xs nss) (s:aL H H'):oH K H' xs nss:=Paired.mapP h fun x ns z=>by
 obtain ⟨p,e,t⟩:=z
 exact ⟨p,e,s.seqT t⟩
def uV (K:PySem.W.Frag):Sp:=fun vs H Q _=>∃ (a q:Addr) (xs:List V) (nss:List (List Int)) (ns:List Int),vs=[.ref a,.ref q]/\dE K H a xs/\oH K H xs nss/\cN K H q (ns.map V.int)/\nss.length<=64/\∀ H',aL H H'->Q (.bl (hX nss ns)) H'
theorem qV:aO ["names","beginning","name"] ["names","beginning"] (aG qO):=⟨rfl,rfl,rfl,by decide+kernel,rfl,by decide+kernel,by decide+kernel⟩
def aA1 (K:PySem.W.Frag):List V->Hp->VK->Prop:=fun xs H Q=>∃ p ys,xs=[.ref p]/\(dE K H p ys\/cN K H p ys)/\Q (.int ys.length) H
theorem Ml {f:Addr} {fd:FuncData} (F:fK K "some_begins" "some_begins" qO f fd) (hany:mg "any"=none) (hlen:mg "len"=none):bU P w K mg base bV 2 f fd ["names","beginning"] (uV K):=by
 refine F.ok qV (fun vs H Q E h=>?_) (fun cdv A outer s H vs Q E hr h=>?_)
 ·obtain ⟨a,q,xs,nss,ns,rfl,_⟩:=h
  rfl
 ·obtain ⟨a,q,xs,nss,ns,rfl,ha,ht,hq,hn,k⟩:=h
  have hu:=lR hr
  refine ⟨_,aH (aV (bS (Qh rfl) (by rfl) hany boot_any (aA (zF (own:=[("name",2)]) (te:=Fa (Zd K) (tSl (Wt K) (dI 2) Jh (We (tCB (aA1 K) (dL (dI 1) gR)))) (dI 1)) rfl qV.nd (kY (pv 0)) (gN (N:=["names","beginning","name"]) (sc:=aG qO) (by decide+kernel))
      (fun _ _ _ _ _=>bJ (i:=2) qV.nd rfl (Or.inl rfl)) (fun _ _ _ _ _=>lJ)
      (fun _ _ _ _ _=>kT (r:=Zd K) (Xw (Nat.lt_of_succ_lt hu)) (Ct (r:=Wt K) Kd (pv 2) Jm (Kc (bS (r:=aA1 K) bW (by rfl) hlen PySem.boot_len (aA (pv 1) aE)))) (pv 1) (gU _))) aE))),?_⟩
  have hxl:xs.length=nss.length:=Paired.length ht
  have hsl:=bE
  refine ⟨_,rfl,a,rfl,⟨_,ha⟩,fun Dl hDl=>?_⟩
  refine pV (xs:=xs) (fun i H'=>aL H H'/\H' Dl=some (.lst (((nss.take i).map fun m=>decide (m.take ns.length=ns)).map V.bl))) ⟨aL.new hDl,aB⟩ (fun i H' _ z=>z.1.seq ha) ?_ ?_
  ·rintro i x H1 ex ⟨S1,hD1⟩
   have hi:i<nss.length:=by
    have:=(List.getElem?_eq_some_iff.mp ex).1
    (clear hsl hu hn;omega)
   obtain ⟨m,em⟩:∃ m,nss[i]?=some m:=⟨_,List.getElem?_eq_getElem hi⟩
   obtain ⟨x',ex',p,rfl,hp⟩:=cG ht em
   rw [ex'] at ex
   cases ex
   have hl:((ns.map V.int).length:Int)=(ns.length:Int):=by rw [List.length_map]
   refine ⟨rfl,_,rfl,_,rfl,q,_,rfl,.inr (S1.seqT hq),_,rfl,p,_,rfl,S1.seqT hp,fun p2 H2 S2 hp2=>?_⟩
   rw [hl,No] at hp2
   refine ⟨_,rfl,p2,q,_,_,rfl,rfl,hp2,S2.seqT (S1.seqT hq),_,S2 _ _ hD1,?_,?_,?_⟩
   ·rw [List.length_map,List.length_map,List.length_take]
    (clear hl hi hxl hu;omega)
   ·intro b' o e
    rw [aC (aD e hDl)]
    exact S2 _ _ (S1 _ _ e)
   ·rw [aB,List.take_succ,em,List.map_append,List.map_append]
    rfl
  ·rintro H1 ⟨S1,hD1⟩
   rw [hxl,List.take_length] at hD1
   refine ⟨Dl,_,rfl,dE.of hD1,?_⟩
   have kk:=k H1 S1
   unfold hX at kk
   rw [List.any_map]
   exact kk
end
def cM (nss:List (List Int)) (l:List Int):Nat->Nat->List Int->List Int×Nat
 |0,p,acc=>(acc,p)
 |n+1,p,acc=>if hX nss (acc++[aR l p])=true then cM nss l n (p+1) (acc++[aR l p]) else (acc,p)
def qD (nss:List (List Int)) (ns:List Int):Nat:=nss.findIdx fun m=>decide (m=ns)
def sA (nss:List (List Int)) (l:List Int) (p:Nat):Except Nat (Nat×Nat):=if (cM nss l 8 p []).1∈nss then .ok (qD nss (cM nss l 8 p []).1,(cM nss l 8 p []).2) else .error (cM nss l 8 p []).2
def Vw (nss:List (List Int)):Prop:=nss.length<=64/\∀ m∈nss,m.length<=8/\(256:Int)∉m
theorem Gg {nss:List (List Int)} {acc:List Int} {h:Int} (ok:Vw nss) (e:hX nss (acc++[h])=true):acc.length<8/\h≠256:=by
 unfold hX at e
 obtain ⟨m,hm,z⟩:=List.any_eq_true.mp e
 have z:=of_decide_eq_true z
 obtain ⟨g1,g2⟩:=ok.2 m hm
 have hl:=congrArg List.length z
 rw [List.length_take,List.length_append] at hl
 refine ⟨?_,fun q=>g2 ?_⟩
 ·have:([h]:List Int).length=1:=rfl
  (clear g2;omega)
 ·have:h∈m.take (acc++[h]).length:=by rw [z];simp
  rw [<-q]
  exact List.mem_of_mem_take this
theorem Ui {nss:List (List Int)} {ns:List Int} (h:ns∈nss):nss[qD nss ns]?=some ns:=by
 have hl:qD nss ns<nss.length:=List.findIdx_lt_length_of_exists ⟨ns,h,decide_eq_true rfl⟩
 rw [List.getElem?_eq_getElem hl]
 have:=List.findIdx_getElem (p:=fun m=>decide (m=ns)) (xs:=nss) (w:=hl)
 exact congrArg some (of_decide_eq_true this)
theorem Ue {nss:List (List Int)} {ns ms:List Int} {m:Nat} (hm:m<qD nss ns) (e:nss[m]?=some ms):ms≠ns:=by
 have h:=List.not_of_lt_findIdx (p:=fun m=>decide (m=ns)) (xs:=nss) hm
 obtain ⟨hl,e⟩:=List.getElem?_eq_some_iff.mp e
 intro z
 rw [e,z] at h
 simp at h
section
variable {P:Program} {w:World} {K:PySem.W.Frag} {mg:Str->Option Value} {base:Heap} {C CR CP:Addr}
theorem oH.sx {r:Addr} {H H':Hp} {C' dx:Addr} {fs:List (Str×V)} {xs:List V} {nss:List (List Int)} (h:oH K H xs nss) (s:SX r H H') (hr:H r=some (.ins C' dx fs)):oH K H' xs nss:=Paired.mapP h fun x ns z=>by
 obtain ⟨p,e,t⟩:=z
 exact ⟨p,e,s.seqT hr t⟩
structure Vy (K:PySem.W.Frag) (H:Hp) (na:Addr) (nss:List (List Int)):Prop where
 ex:∃ xs,dE K H na xs/\oH K H xs nss
 ok:Vw nss
theorem Vy.sx {r:Addr} {H H':Hp} {a:Addr} {p:Nat} {na:Addr} {nss:List (List Int)} (h:Vy K H na nss) (s:SX r H H') (hr:hU CR H r a p):Vy K H' na nss:=by
 obtain ⟨⟨xs,h1,h2⟩,h3⟩:=h
 obtain ⟨dx,g⟩:=hr
 exact ⟨⟨xs,s.seq g h1,oH.sx h2 s g⟩,h3⟩
def vC (K:PySem.W.Frag) (CR:Addr):Sp:=fun vs H Q E=>∃ (r a na:Addr) (l:List Int) (p:Nat) (nss:List (List Int)),vs=[.ref r,.ref na]/\jI K CR H r a l p/\Vy K H na nss/\
 match sA nss l p with
 |.ok q=>∀ H':Hp,jI K CR H' r a l q.2->SX r H H'->Q (.int q.1) H'
 |.error i=>∀ H':Hp,SX r H H'->E (.int i 0) none H'
theorem rF:aO ["reader","names","beginning"] ["reader","names"] (aG uA):=⟨rfl,rfl,rfl,by decide+kernel,rfl,by decide+kernel,by decide+kernel⟩
theorem Ma {f:Addr} {fd:FuncData} (F:fK K "read_part_number" "read_part_number" uA f fd) (T:Fc K CR) (S:Ww P w K mg base C) (M1:nZ P w K mg base CR "here" bV 2 ["self"] (pA K CR)) (M2:nZ P w K mg base CR "take" bV 3 ["self"] (oR K CR))
  (L1:dO P w K mg base "some_begins" bV 2 ["names","beginning"] (uV K)):bU P w K mg base (iS C P w) 5 f fd ["reader","names"] (vC K CR):=by
 obtain ⟨f1,fd1,m1,G1,b1⟩:=M1.ex
 obtain ⟨f2,fd2,m2,G2,b2⟩:=M2.ex
 obtain ⟨gb,gbd,GB,bB,kB,hB⟩:=L1.ex
 obtain ⟨fx,fdx,XT,GX,bx⟩:=S.ex
 refine F.okX rF (fun vs H Q E h=>?_) (fun cdv A outer s H vs Q E hr h=>?_)
 ·obtain ⟨r,a,na,l,p,nss,rfl,_⟩:=h
  rfl
 ·obtain ⟨r,a,na,l,p,nss,rfl,x,hn,k⟩:=h
  have hr3:=hr.mono (j:=3) (by decide)
  have hr2:=hr.mono (j:=2) (by decide)
  have hu:=lR hr
  refine ⟨_,aF (bI (i:=2) rF.nd rfl (Or.inl rfl) (eN aE))
   (aF (jW aN.own (eE (aQ GB hr2 (by rfl) hB kB bB .nil aX (aA (pv 1) (aA (cI Ia (pv 2) (eN (aA (cB (pv 0) T.cl m1 G1 hr2 b1 .nil aX) aE))) aE))))
    (aH (bI (i:=2) rF.nd rfl (Or.inl rfl) (cI Ia (pv 2) (eN (aA (cB (pv 0) T.cl m2 G2 hr3 b2 .nil aX) aE))))))
   (aF (eK (iB (Lw hu) (pv 2) (pv 1) (by with_unfolding_all rfl)) (aH (mM aN rfl XT GX hr2 (by rfl) S.mg bx (aT (pv 0) rfl))) cF)
   (aH (aV (mD PySem.F.plainAttrs_list PySem.F.slot_list_index PySem.F.type_list_index (Kx hu) (pv 1) (aA (pv 2) aE)))))),?_⟩
  obtain ⟨⟨dx,h1⟩,tx,le⟩:=id x
  refine ⟨Nat.zero_le _,fun q0 hq0=>?_⟩
  have S0:=aL.new (o:=.tup []) hq0
  have hsl:=bE
  refine ⟨fun m σ H'=>∃ (acc:List Int) (q:Addr) (p':Nat),σ=[some (.ref r),some (.ref na),some (.ref q)]/\SX r H H'/\hU CR H' r a p'/\p'<=l.length/\cN K H' q (acc.map V.int)/\acc.length+m=8/\cM nss l 8 p []=cM nss l m p' acc,
   ⟨8,[],q0,p,rfl,aL.sx S0,⟨dx,S0 _ _ h1⟩,le,cN.of aB,rfl,rfl⟩,?_⟩
  rintro m σ H1 ⟨acc,q,p',rfl,s1,hr1,le1,hq,hm,e1⟩
  have x1:=x.same s1 hr1 le1
  have hn1:=hn.sx s1 x.rd
  obtain ⟨dx1,g1⟩:=id hr1
  obtain ⟨⟨xs,ha,ht⟩,ok⟩:=id hn1
  refine ⟨_,rfl,_,rfl,_,rfl,r,dx1,_,rfl,g1,rfl,r,a,l,p',rfl,x1,by show 1<=sizeLine;decide,fun q1 hq1=>?_⟩
  have S2:=aL.new (o:=.tup [.int (aR l p')]) hq1
  refine ⟨q,q1,acc.map V.int,[.int (aR l p')],rfl,rfl,S2.seqT hq,cN.of aB,(by simp),by rw [List.length_map];show acc.length+1<=_;(clear le1 le hu;omega),fun q2 H2 S3 hq2=>?_⟩
  have S4:aL H1 H2:=S2.trans S3
  have hq2:cN K H2 q2 ((acc++[aR l p']).map V.int):=by rw [List.map_append];exact hq2
  refine ⟨na,q2,xs,nss,_,rfl,S4.seq ha,oH.same ht S4,hq2,ok.1,fun H3 S5=>?_⟩
  have S6:aL H1 H3:=S4.trans S5
  have s3:SX r H H3:=s1.trans (aL.sx S6)
  have hr3:hU CR H3 r a p':=⟨dx1,S6 _ _ g1⟩
  refine ⟨_,rfl,cE (fun hb=>?_) (fun hb=>?_)⟩
  ·obtain ⟨hlt,h256⟩:=Gg ok hb
   have lt:=gA h256
   obtain ⟨n,rfl⟩:∃ n,m=n+1:=⟨m - 1,by (clear lt h256 le1 hsl le hu;omega)⟩
   refine ⟨fun σ' H'=>∃ (acc:List Int) (q:Addr) (p':Nat),σ'=[some (.ref r),some (.ref na),some (.ref q)]/\SX r H H'/\hU CR H' r a p'/\p'<=l.length/\cN K H' q (acc.map V.int)/\acc.length+n=8/\cM nss l 8 p []=cM nss l n p' acc,fun σ' H' z=>⟨n,Nat.lt_succ_self n,z⟩,?_⟩
   refine ⟨_,rfl,_,rfl,r,dx1,_,rfl,S6 _ _ g1,rfl,r,a,l,p',rfl,x.same s3 hr3 le1,fun H4 hr4 s4=>⟨by show 1<=sizeLine;decide,fun q5 hq5=>?_⟩⟩
   have S7:=aL.new (o:=.tup [.int (aR l p')]) hq5
   have hq4:=s4.seqT (S6 _ _ g1) (S6.seqT hq)
   refine ⟨q,q5,acc.map V.int,[.int (aR l p')],rfl,rfl,S7.seqT hq4,cN.of aB,(by simp),by rw [List.length_map];show acc.length+1<=_;(clear hm lt h256 le1 le hu;omega),fun q6 H5 S8 hq6=>?_⟩
   have S9:=S7.trans S8
   obtain ⟨dx4,g4⟩:=hr4
   refine ⟨acc++[aR l p'],q6,p'+1,rfl,(s3.trans s4).trans (aL.sx S9),⟨dx4,S9 _ _ g4⟩,lt,by rw [List.map_append];exact hq6,by rw [List.length_append];show acc.length+1+n=8;(clear lt h256 hlt le1 hsl le hu;omega),?_⟩
   rw [e1]
   show (if _ then _ else _)=_
   rw [if_pos hb]
  ·have e2:cM nss l 8 p []=(acc,p'):=by
    rw [e1]
    cases m with
    |zero=>rfl
    |succ n=>
     show (if _ then _ else _)=_
     rw [if_neg hb]
   have hn3:=hn1.sx (aL.sx S6) hr1
   obtain ⟨⟨xs3,ha3,ht3⟩,_⟩:=id hn3
   unfold sA at k
   rw [e2] at k
   refine ⟨_,rfl,_,rfl,q,na,acc,xs3,nss,rfl,rfl,S6.seqT hq,ha3,ht3,_,rfl,cE (fun hno=>?_) (fun hno=>?_)⟩
   ·have hno:¬acc∈nss:=by
     have hno:(!decide (acc∈nss))=true:=hno
     rw [Bool.not_eq_true',decide_eq_false_iff_not] at hno
     exact hno
    rw [if_neg hno] at k
    exact ⟨_,rfl,r,CR,dx1,_,_,rfl,S6 _ _ g1,T.cl,T.nP,gL _ _,_,rfl,k H3 s3⟩
   ·have hno:acc∈nss:=by
     have hno:¬(!decide (acc∈nss))=true:=hno
     rw [Bool.not_eq_true',decide_eq_false_iff_not,Classical.not_not] at hno
     exact hno
    rw [if_pos hno] at k
    refine ⟨_,rfl,.inl ⟨rfl,_,ha3⟩,_,rfl,na,q,xs3,nss,acc,qD nss acc,rfl,rfl,ha3,ht3,S6.seqT hq,Ui hno,fun m ms hm em=>Ue hm em,?_⟩
    exact k H3 (x.same s3 hr3 le1) s3
end
def cW (l:List Int):List Nat->Nat->Except Nat (List Nat×Nat)
 |[],p=>.ok ([],p)
 |m::ms,p=>eI (aU l p [32]) fun p1=>eI (iU l p1 0 m) fun v=>gE v.1 (cW l ms v.2)
def fH:List Nat:=[255,63,63,95,3]
def dY (nss:List (List Int)) (l:List Int) (p:Nat):Except Nat (List Nat×Nat):=
 eI (aU l p [112,117,116,32]) fun p1=>eI (sA nss l p1) fun q=>eI (cW l fH q.2) fun r=>eI (aU l r.2 [10]) fun p5=>.ok (q.1::r.1,p5)
theorem Qj:("put ":Str).cps.toList=[112,117,116,32]:=by decide+kernel
theorem pW {l:List Int}:∀ {ms:List Nat} {p:Nat} {r:List Nat×Nat},cW l ms p=.ok r->r.1.length=ms.length
 |[],p,r,h=>by cases h;rfl
 |m::ms,p,r,h=>by
  rw [cW] at h
  cases e1:aU l p [32] with
  |error i=>rw [e1] at h;cases h
  |ok p1=>
   rw [e1,bZ] at h
   cases e2:iU l p1 0 m with
   |error i=>rw [e2] at h;cases h
   |ok v=>
    rw [e2,bZ] at h
    cases e3:cW l ms v.2 with
    |error i=>rw [e3] at h;cases h
    |ok q=>
     rw [e3] at h
     cases h
     show (_::q.1).length=ms.length+1
     rw [List.length_cons,pW e3]
def Am (n:Nat):V:=.int n
section
variable {P:Program} {w:World} {K:PySem.W.Frag} {mg:Str->Option Value} {base:Heap} {C CR CP:Addr}
def Gf (K:PySem.W.Frag) (CR:Addr):Sp:=fun vs H Q E=>∃ (r a na:Addr) (l:List Int) (p:Nat) (nss:List (List Int)),vs=[.ref r,.ref na]/\jI K CR H r a l p/\Vy K H na nss/\
 match dY nss l p with
 |.ok q=>∀ (H':Hp) (t:Addr),jI K CR H' r a l q.2->SX r H H'->H t=none->H' t=some (.tup (q.1.map Am))->q.1.length=6->Q (.ref t) H'
 |.error i=>∀ H':Hp,SX r H H'->E (.int i 0) none H'
theorem zO:aO ["reader","names","numbers","most"] ["reader","names"] (aG nG):=⟨rfl,rfl,rfl,by decide+kernel,rfl,by decide+kernel,by decide+kernel⟩
theorem Um {f:Addr} {fd:FuncData} (F:fK K "read_line" "read_line" nG f fd) (T:Fc K CR) (htup:mg "tuple"=none) (c1:CI mg "MOST_COLOUR" 255) (c2:CI mg "ROOM_WIDTH" 64) (c3:CI mg "ROOM_DEPTH" 64) (c4:CI mg "ROOM_HEIGHT" 96) (c5:CI mg "MOST_TURNS" 3)
  (M1:nZ P w K mg base CR "read_word" (iS C P w) 5 ["self","word"] (lI K CR)) (M3:nZ P w K mg base CR "read_number" (iS C P w) 4 ["self","least","most"] (jQ K CR))
  (L1:dO P w K mg base "read_part_number" (iS C P w) 5 ["reader","names"] (vC K CR)):bU P w K mg base (iS C P w) 6 f fd ["reader","names"] (Gf K CR):=by
 obtain ⟨f1,fd1,m1,G1,b1⟩:=M1.ex
 obtain ⟨f3,fd3,m3,G3,b3⟩:=M3.ex
 obtain ⟨gp,gpd,GP,bP,kP,hP⟩:=L1.ex
 refine F.okX zO (fun vs H Q E h=>?_) (fun cdv A outer s H vs Q E hr h=>?_)
 ·obtain ⟨r,a,na,l,p,nss,rfl,_⟩:=h
  rfl
 ·obtain ⟨r,a,na,l,p,nss,rfl,x,hn,k⟩:=h
  have hr4:=hr.mono (j:=4) (by decide)
  refine ⟨_,aF (cD (cX (pv 0) T.cl m1 G1 hr b1 .nil aN.pass (aA eS aE)))
   (aF (bI (i:=2) zO.nd rfl (Or.inl rfl) (eG (aA (aQ GP hr (by rfl) hP kP bP .nil aN.pass (aA (pv 0) (aA (pv 1) aE))) aE)))
   (aF (eU aN.own rfl (Nh (eN (aA (eR c1) (aA (cI eT (eR c2) aK) (aA (cI eT (eR c3) aK) (aA (cI eT (eR c4) aK) (aA (eR c5) aE))))))) (bJ (i:=3) zO.nd rfl (Or.inl rfl))
    (aF (cD (cX (pv 0) T.cl m1 G1 hr b1 .nil aN.pass (aA eS aE)))
    (aH (cD (mD PySem.F.plainAttrs_list PySem.F.slot_list_append PySem.F.type_list_append gG (pv 2) (aA (cX (pv 0) T.cl m3 G3 hr4 b3 .nil aN.pass (aA aK (aA (pv 3) aE))) aE))))))
   (aF (cD (cX (pv 0) T.cl m1 G1 hr b1 .nil aN.pass (aA eS aE)))
   (aH (aV (jU oK (by rfl) htup boot_tuple (aA (pv 2) aE))))))),?_⟩
  unfold dY at k
  have hsl:=bE
  refine eV (hG rfl Qj (by decide) x (fun i e1 H' s1=>by rw [e1] at k;exact k H' s1) fun p1 e1 H1 x1 s1=>?_)
  rw [e1,bZ] at k
  refine ⟨_,rfl,_,rfl,r,a,na,l,p1,nss,rfl,x1,hn.sx s1 x.rd,?_⟩
  cases e2:sA nss l p1 with
  |error i=>
   intro H' s'
   rw [e2] at k
   exact k H' (s1.trans s')
  |ok q=>
   intro H2 x2 s2
   rw [e2,bZ] at k
   refine ⟨by show 1<=sizeLine;decide,fun nb hnb=>?_⟩
   have S3:=aL.new (o:=.lst [V.int q.1]) hnb
   have s3:SX r H (upd H2 nb (.lst [V.int q.1])):=(s1.trans s2).trans (aL.sx S3)
   obtain ⟨dx2,g2⟩:=x2.rd
   have nbr:nb≠r:=fun z=>by rw [z,g2] at hnb;cases hnb
   have hnbH:H nb=none:=by
    cases z:H nb with
    |none=>rfl
    |some o=>
     have:=(s1.trans s2) nb o z nbr
     rw [hnb] at this
     cases this
   have rd3:hU CR (upd H2 nb (.lst [V.int q.1])) r a q.2:=⟨dx2,S3 _ _ g2⟩
   have nb3:upd H2 nb (.lst [V.int q.1]) nb=some (.lst ((q.1::[]).map Am)):=aB
   generalize upd H2 nb (.lst [V.int q.1])=H3 at S3 s3 rd3 nb3
   refine ⟨_,_,rfl,rfl,_,_,rfl,rfl,_,_,rfl,rfl,by show 5<=sizeLine;decide,fun tb htb=>?_⟩
   have S4:=aL.new (o:=.tup (fH.map Am)) htb
   have tb4:upd H3 tb (.tup (fH.map Am)) tb=some (.tup (fH.map Am)):=aB
   refine ⟨tb,rfl,⟨_,cN.of tb4⟩,?_⟩
   have s4:SX r H (upd H3 tb (.tup (fH.map Am))):=s3.trans (aL.sx S4)
   have rd4:hU CR (upd H3 tb (.tup (fH.map Am))) r a q.2:=let ⟨dx,g⟩:=rd3;⟨dx,S4 _ _ g⟩
   have nb4:=S4 _ _ nb3
   have htb':H3 tb=none:=htb
   have kE:∀ i,cW l fH q.2=.error i->∀ H',SX r H H'->E (.int i 0) none H':=fun i e H' s'=>by
    rw [e] at k
    exact k H' s'
   refine Jg (xs:=fH.map Am) (fun i σ H'=>∃ (vs:List Nat) (p':Nat) (v3:Option V),σ=[some (.ref r),some (.ref na),some (.ref nb),v3]/\vs.length=i/\SX r H H'/\hU CR H' r a p'/\p'<=l.length/\H' nb=some (.lst ((q.1::vs).map Am))/\
     H' tb=some (.tup (fH.map Am))/\cW l fH q.2=fU vs (cW l (fH.drop i) p')) ⟨[],q.2,none,rfl,rfl,s4,rd4,x2.le,nb4,tb4,by rw [jM];rfl⟩ ?_ ?_ ?_
   ·rintro i σ H5 _ ⟨vs,p',v3,_,_,_,_,_,_,h,_⟩
    exact cN.of h
   ·rintro i v σ H5 ev ⟨vs,p',v3,rfl,hvl,s5,rd5,le5,nb5,tb5,e5⟩
    rw [List.getElem?_map] at ev
    obtain ⟨m,em,rfl⟩:=Option.map_eq_some_iff.mp ev
    have hi:i<5:=(List.getElem?_eq_some_iff.mp em).1
    have hm:m<=255:=by
     have:=List.mem_of_getElem? em
     revert this
     unfold fH
     simp
     (clear hi le5 hvl hsl;omega)
    have ed:fH.drop i=m::fH.drop (i+1):=by
     have hl:i<fH.length:=hi
     have:=List.drop_eq_getElem_cons hl
     rw [this]
     have e2:=(List.getElem?_eq_some_iff.mp em).2
     rw [e2]
    rw [ed] at e5
    have x5:=x.same s5 rd5 le5
    have e6:cW l (m::fH.drop (i+1)) p'=eI (aU l p' [32]) fun p1=>eI (iU l p1 0 m) fun v=>gE v.1 (cW l (fH.drop (i+1)) v.2):=rfl
    rw [e6] at e5
    refine eV (hG rfl iI b32 x5 (fun j ej H' s'=>kE j (by rw [e5,ej];rfl) H' (s5.trans s')) fun p6 ew H6 x6 s6=>?_)
    rw [ew,bZ] at e5
    have nb6:H6 nb=some (.lst ((q.1::vs).map Am)):=s6 _ _ nb5 nbr
    obtain ⟨dx6,g6⟩:=x6.rd
    refine ⟨_,rfl,.inl ⟨rfl,_,dE.of nb6⟩,_,rfl,r,dx6,_,rfl,g6,rfl,_,rfl,?_⟩
    dsimp only [gR,List.cons_append,List.nil_append]
    refine Cm (hi:=m) x6 (by decide) (by (clear hi le5 hvl hsl;omega)) (fun v en hv1 _ H7 x7 s7=>?_) (fun en=>?_)
    ·rw [en,bZ,iO] at e5
     have s67:=(s5.trans s6).trans s7
     have nb7:H7 nb=some (.lst ((q.1::vs).map Am)):=s7 _ _ nb6 nbr
     refine ⟨nb,_,_,rfl,rfl,nb7,by rw [List.length_map,List.length_cons];(clear hv1 hm le5;omega),?_⟩
     obtain ⟨dx7,g7⟩:=x7.rd
     have ntb:tb≠nb:=fun z=>by rw [z,nb3] at htb';cases htb'
     have ntr:tb≠r:=fun z=>by obtain ⟨_,g⟩:=rd3;rw [z,g] at htb';cases htb'
     refine ⟨vs++[v.1],v.2,_,rfl,by simp [hvl],fun b o e hb=>?_,⟨dx7,by rw [aC (Ne.symm nbr)];exact g7⟩,x7.le,?_,?_,e5⟩
     ·rw [aC (aD e hnbH)]
      exact s67 b o e hb
     ·rw [aB]
      simp [Am]
     ·rw [aC ntb]
      exact s7 _ _ (s6 _ _ tb5 ntr) ntr
    ·exact kE p6 (by rw [e5,en];rfl) H6 (s5.trans s6)
   ·rintro σ H5 ⟨vs,p',v3,rfl,hvl,s5,rd5,le5,nb5,tb5,e5⟩
    have hvl:vs.length=5:=hvl
    have e6:cW l fH q.2=.ok (vs,p'):=by
     rw [e5]
     show Except.ok (vs++[],p')=_
     rw [List.append_nil]
    rw [e6,bZ] at k
    have x5:=x.same s5 rd5 le5
    refine eV (hG rfl pK b10 x5 (fun j ej H' s'=>by rw [ej] at k;exact k H' (s5.trans s')) fun p7 ew H7 x7 s7=>?_)
    rw [ew,bZ] at k
    have nb7:H7 nb=some (.lst ((q.1::vs).map Am)):=s7 _ _ nb5 nbr
    have s57:=s5.trans s7
    refine ⟨_,rfl,nb,_,rfl,.inl ⟨dE.of nb7,fun t ht=>?_⟩⟩
    have ST:=aL.new (o:=.tup ((q.1::vs).map Am)) ht
    obtain ⟨dx7,g7⟩:=x7.rd
    have ntr:t≠r:=fun z=>by rw [z,g7] at ht;cases ht
    refine k _ t (x.same (s57.trans (aL.sx ST)) ⟨dx7,ST _ _ g7⟩ x7.le) (s57.trans (aL.sx ST)) ?_ aB (by rw [List.length_cons,hvl])
    cases z:H t with
    |none=>rfl
    |some o=>
     have:=s57 t o z ntr
     rw [ht] at this
     cases this
end
def cC (nss:List (List Int)) (l:List Int):Nat->Nat->Except Nat (List (List Nat)×Nat)
 |0,p=>.ok ([],p)
 |n+1,p=>if p=l.length then .ok ([],p) else eI (dY nss l p) fun q=>gE q.1 (cC nss l n q.2)
def dF (nss:List (List Int)) (l:List Int):Except Nat (List Int×List (List Nat)):=
 eI (aU l 0 [98,117,105,108,100,32]) fun p1=>eI (gD l p1 16) fun nm=>eI (aU l nm.2 [10]) fun p3=>eI (cC nss l 256 p3) fun r=>if r.2=l.length then .ok (nm.1,r.1) else .error r.2
theorem He:("build ":Str).cps.toList=[98,117,105,108,100,32]:=by decide+kernel
def jE (H:Hp) (ts:List Addr) (ls:List (List Nat)):Prop:=Paired (fun t x=>H t=some (.tup (x.map Am))/\x.length=6) ts ls
def BdF (na la:Addr):List (Str×V):=[("name",.ref na),("lines",.ref la)]
structure Wj (K:PySem.W.Frag) (CB:Addr):Prop where
 cl:Fb K CB
 n1:dD K CB "name"
 n2:dD K CB "lines"
def vQ (CB:Addr) (H:Hp) (q:Addr) (nm:List Int) (ls:List (List Nat)):Prop:=∃ (dx na la:Addr) (ts:List Addr),H q=some (.ins CB dx (BdF na la))/\H na=some (.tup (nm.map V.int))/\H la=some (.lst (ts.map V.ref))/\jE H ts ls/\ls.length<=256/\nm.length<=16
section
variable {P:Program} {w:World} {K:PySem.W.Frag} {mg:Str->Option Value} {base:Heap} {C CR CP CB:Addr}
theorem jE.keep {H H':Hp} {ts:List Addr} {ls:List (List Nat)} (h:jE H ts ls) (s:∀ b xs,H b=some (.tup xs)->H' b=some (.tup xs)):jE H' ts ls:=Paired.mapP h fun t x e=>⟨s _ _ e.1,e.2⟩
theorem vQ.same {H H':Hp} {q:Addr} {nm:List Int} {ls:List (List Nat)} (h:vQ CB H q nm ls) (s:aL H H'):vQ CB H' q nm ls:=by
 obtain ⟨dx,na,la,ts,h1,h2,h3,h4,h5⟩:=h
 exact ⟨dx,na,la,ts,s _ _ h1,s _ _ h2,s _ _ h3,h4.keep fun b xs e=>s _ _ e,h5⟩
def Ni (CB:Addr):Sp:=fun vs H Q _=>∃ (r dx na la:Addr),vs=[.ref r,.ref na,.ref la]/\H r=some (.ins CB dx [])/\∀ H':Hp,H' r=some (.ins CB dx (BdF na la))->SX r H H'->Q .non H'
theorem Yb:aO ["self","name","lines"] ["self","name","lines"] (aG tP):=⟨rfl,rfl,rfl,by decide+kernel,rfl,by decide+kernel,by decide+kernel⟩
theorem Xk {f:Addr} {fd:FuncData} (F:fK K "__init__" "Build.__init__" tP f fd) (T:Wj K CB):bU P w K mg base bV 1 f fd ["self","name","lines"] (Ni CB):=by
 refine F.ok Yb (fun vs H Q E h=>?_) (fun cdv A outer s H vs Q E hr h=>?_)
 ·obtain ⟨r,dx,na,la,rfl,_⟩:=h
  rfl
 ·obtain ⟨r,dx,na,la,rfl,hp,k⟩:=h
  refine ⟨_,aF (dW (pv 0) (pv 1) rfl) (aH (dW (pv 0) (pv 2) rfl)),?_⟩
  refine ⟨_,rfl,_,rfl,r,CB,dx,_,rfl,hp,T.cl,T.n1,(by show 0<1000;decide),?_⟩
  refine ⟨_,rfl,_,rfl,r,CB,dx,_,rfl,aB,T.cl,T.n2,(by show 1<1000;decide),?_⟩
  exact k _ aB fun b o e hb=>by rw [aC hb,aC hb];exact e
structure BdM (P:Program) (w:World) (K:PySem.W.Frag) (mg:Str->Option Value) (base:Heap) (CB:Addr):Prop where
 ex:∃ f fd,Mk K CB f/\bU P w K mg base bV 1 f fd ["self","name","lines"] (Ni CB)/\eZ K fd ["self","name","lines"] []
 mg:mg "Build"=some (.ref CB)
theorem Dj {H:Hp} {r a:Addr} {l:List Int} {p j:Nat} {x:Str} {cs:List Nat} {D:fZ} {σ:List (Option V)} {E:XK} (hσ:σ[j]?=some (some (.ref r))) (hx:x.cps.toList=cs) (h256:∀ c∈cs,c<256) (tx:jI K CR H r a l p)
  (k2:∀ i,aU l p cs=.error i->∀ H',SX r H H'->E (.int i 0) none H') (k1:∀ p',aU l p cs=.ok p'->∀ H',jI K CR H' r a l p'->SX r H H'->D.nx σ H'):zA (lZ CR "read_word" (lI K CR) [] E (dI j) (dL (tC (.str x)) gR)) D σ H:=by
 obtain ⟨⟨dx,h1⟩,_,_⟩:=id tx
 exact ⟨_,hσ,r,dx,_,rfl,h1,rfl,xN (Q:=fun _ H1=>D.nx σ H1) hx h256 tx (fun p' e H' x' s'=>k1 p' e H' x' s') k2⟩
theorem Qu {H:Hp} {r a:Addr} {l:List Int} {p L j i:Nat} {D:fZ} {σ:List (Option V)} {E:XK} (hσ:σ[j]?=some (some (.ref r))) (tx:jI K CR H r a l p) (hL:L<=1000) (k2:gD l p L=.error p->E (.int p 0) none H)
  (k1:∀ v:List Int×Nat,gD l p L=.ok v->∀ (H':Hp) (q:Addr),jI K CR H' r a l v.2->SX r H H'->H' q=some (.tup (v.1.map V.int))->v.1.length<=L->D.nx (σ.set i (some (.ref q))) H'):
  Ef (lZ CR "read_name" (oU K CR) [] E (dI j) (dL (tC (.int L)) gR)) (mL i) D σ H:=by
 obtain ⟨⟨dx,h1⟩,_,_⟩:=id tx
 exact ⟨_,hσ,r,dx,_,rfl,h1,rfl,xU (Q:=fun y H1=>D.nx (σ.set i (some y)) H1) tx hL (fun v e H' q x' s' g1 g2=>k1 v e H' q x' s' g1 g2) k2⟩
def tJ (K:PySem.W.Frag) (CB:Addr):Sp:=fun vs H Q E=>∃ (a na:Addr) (l:List Int) (nss:List (List Int)),vs=[.ref a,.ref na]/\dE K H a (l.map V.int)/\Vy K H na nss/\
 match dF nss l with
 |.ok b=>∀ (H':Hp) (q:Addr),aL H H'->vQ CB H' q b.1 b.2->Q (.ref q) H'
 |.error i=>∀ H':Hp,aL H H'->E (.int i 0) none H'
theorem pF:aO ["b","names","reader","name","lines"] ["b","names"] (aG kO):=⟨rfl,rfl,rfl,by decide+kernel,rfl,by decide+kernel,by decide+kernel⟩
def Zo (CR:Addr) (H:Hp) (r a na qn q:Addr) (nm:List Int) (nss:List (List Int)) (l:List Int) (p0 m:Nat) (σ:List (Option V)) (H':Hp):Prop:=
 ∃ (ls:List (List Nat)) (ts:List Addr) (p':Nat),σ=[some (.ref a),some (.ref na),some (.ref r),some (.ref qn),some (.ref q)]/\H' qn=some (.tup (nm.map V.int))/\ls.length+m=256/\p'<=l.length/\aL H H'/\hU CR H' r a p'/\H' q=some (.lst (ts.map V.ref))/\
  jE H' ts ls/\cC nss l 256 p0=fU ls (cC nss l m p')
theorem Qi {f:Addr} {fd:FuncData} (F:fK K "read_build" "read_build" kO f fd) (T:Fc K CR) (RK:RdK P w K mg base CR) (BM:BdM P w K mg base CB) (hlen:mg "len"=none) (c1:CI mg "LONGEST_BUILD_NAME" 16) (c2:CI mg "MOST_LINES" 256)
  (M1:nZ P w K mg base CR "ended" bV 1 ["self"] (nL K CR)) (M2:nZ P w K mg base CR "read_end" (iS C P w) 3 ["self"] (yK K CR)) (M3:nZ P w K mg base CR "read_word" (iS C P w) 5 ["self","word"] (lI K CR))
  (M4:nZ P w K mg base CR "read_name" (iS C P w) 4 ["self","longest"] (oU K CR)) (L1:dO P w K mg base "read_line" (iS C P w) 6 ["reader","names"] (Gf K CR)):bU P w K mg base (iS C P w) 7 f fd ["b","names"] (tJ K CB):=by
 obtain ⟨fb,fdb,MB,GB,bB⟩:=BM.ex
 obtain ⟨f1,fd1,m1,G1,b1⟩:=M1.ex
 obtain ⟨f2,fd2,m2,G2,b2⟩:=M2.ex
 obtain ⟨f3,fd3,m3,G3,b3⟩:=M3.ex
 obtain ⟨f4,fd4,m4,G4,b4⟩:=M4.ex
 obtain ⟨g1,gd1,GP,bP,kP,hP⟩:=L1.ex
 obtain ⟨fr,fdr,MR,GR,bR⟩:=RK.ex
 refine F.okX pF (fun vs H Q E h=>?_) (fun cdv A outer s H vs Q E hr h=>?_)
 ·obtain ⟨a,na,l,nss,rfl,_⟩:=h
  rfl
 ·obtain ⟨a,na,l,nss,rfl,tx,hn,k⟩:=h
  have hr5:=hr.mono (j:=5) (by decide)
  have hr4:=hr.mono (j:=4) (by decide)
  have hr3:=hr.mono (j:=3) (by decide)
  have hr2:=hr.mono (j:=2) (by decide)
  have hr1:=hr.mono (j:=1) (by decide)
  refine ⟨_,aF (bI (i:=2) pF.nd rfl (Or.inl rfl) (nF MR GR hr2 (by rfl) RK.mg bR .nil aX (aA (pv 0) aE)))
   (aF (cD (cX (pv 2) T.cl m3 G3 hr5 b3 .nil aN.pass (aA eS aE)))
   (aF (bI (i:=3) pF.nd rfl (Or.inl rfl) (cX (pv 2) T.cl m4 G4 hr4 b4 .nil aN.pass (aA (eR c1) aE)))
   (aF (cD (cX (pv 2) T.cl m3 G3 hr5 b3 .nil aN.pass (aA eS aE)))
   (aF (bI (i:=4) pF.nd rfl (Or.inl rfl) (eG aE))
   (aF (jW aN.own (gX (eB (Is (bS bW (by rfl) hlen PySem.boot_len (aA (pv 4) aE)) (eR c2))) (hZ (kU (eE (cB (pv 2) T.cl m1 G1 hr1 b1 .nil aX))))).pt
    (aH (cD (mD PySem.F.plainAttrs_list PySem.F.slot_list_append PySem.F.type_list_append gG (pv 4) (aA (aQ GP hr (by rfl) hP kP bP .nil aN.pass (aA (pv 2) (aA (pv 1) aE))) aE)))))
   (aF (cD (cB (pv 2) T.cl m2 G2 hr3 b2 .nil aN.pass))
   (aH (aV (nF MB GB hr2 (by rfl) BM.mg bB .nil aX (aA (pv 3) (aA (pv 4) aE))))))))))),?_⟩
  refine ⟨_,rfl,fun r dr nr ndr ndrr=>?_⟩
  refine ⟨r,dr,a,rfl,aB,fun H1 hr1 s1=>⟨rfl,?_⟩⟩
  have S1:aL H H1:=fun y o e=>s1 y o (by rw [aC (aD e nr),aC (aD e ndr)];exact e) (aD e nr)
  have x1:jI K CR H1 r a l 0:=⟨hr1,S1.seq tx,Nat.zero_le _⟩
  have sxs:∀ {H2:Hp},SX r H1 H2->aL H H2:=fun s2 y o e=>s2 y o (S1 y o e) (aD e nr)
  unfold dF at k
  refine eV (Dj rfl He (by decide) x1 (fun i e1 H' s'=>by rw [e1] at k;exact k H' (sxs s')) fun p1 e1 H2 x2 s2=>?_)
  rw [e1,bZ] at k
  refine eV (Qu (L:=16) rfl x2 (by decide) (fun e2=>by rw [e2] at k;exact k _ (sxs s2)) fun nm e2 H3 qn x3 s3 hqn hnl=>?_)
  rw [e2,bZ] at k
  have s3:=s2.trans s3
  refine eV (Dj rfl pK b10 x3 (fun i e3 H' s'=>by rw [e3] at k;exact k H' (sxs (s3.trans s'))) fun p4 e3 H4 x4 s4=>?_)
  rw [e3,bZ] at k
  have hqn4:=s4.tup x3.rd hqn
  have s4:=s3.trans s4
  have S4:=sxs s4
  refine ⟨Nat.zero_le _,fun q hq=>?_⟩
  have sq:=aL.new (o:=.lst []) hq
  have hqH:H q=none:=S4.free hq
  obtain ⟨dx4,g4⟩:=x4.rd
  have nrq:r≠q:=fun z=>by rw [z,hq] at g4;cases g4
  refine ⟨fun m=>Zo CR H r a na qn q nm.1 nss l p4 m,⟨256,[],[],p4,rfl,sq _ _ hqn4,rfl,x4.le,S4.trans sq,⟨dx4,sq _ _ g4⟩,aB,.nil,by rw [jM]⟩,?_⟩
  rintro m σ H5 ⟨ls,ts,p',rfl,hqn5,hm,lp,S5,hr5,hq5,pp,e5⟩
  have x5:jI K CR H5 r a l p':=⟨hr5,S5.seq tx,lp⟩
  obtain ⟨dx5,g5⟩:=id hr5
  have htl:ts.length=ls.length:=Paired.length pp
  have fin:cC nss l m p'=.ok ([],p')->Ce (zA (lZ CR "read_end" (yK K CR) [] E (dI 2) gR)) (Xv (Jb CB (Ni CB) [] E0 (dL (dI 3) (dL (dI 4) gR)))) {nx:=fun _ H'=>Q .non H',rt:=Q} [some (.ref a),some (.ref na),some (.ref r),some (.ref qn),some (.ref q)] H5:=by
   intro e6
   have e7:cC nss l 256 p4=.ok (ls,p'):=by
    rw [e5,e6]
    show Except.ok (ls++[],p')=_
    rw [List.append_nil]
   rw [e7,bZ] at k
   refine ⟨_,rfl,r,dx5,_,rfl,g5,rfl,r,a,l,p',rfl,x5,fun he=>⟨_,rfl,_,rfl,fun b' db nb' ndb nbb=>⟨b',db,qn,q,rfl,aB,fun H6 hb6 s6=>⟨rfl,?_⟩⟩⟩,fun he=>?_⟩
   ·have he:p'=l.length:=he
    rw [if_pos he] at k
    have S6:aL H5 H6:=fun y o e=>s6 y o (by rw [aC (aD e nb'),aC (aD e ndb)];exact e) (aD e nb')
    exact k H6 b' (S5.trans S6) ⟨db,qn,q,ts,hb6,S6 _ _ hqn5,S6 _ _ hq5,pp.keep fun y xs e=>S6 _ _ e,(by show ls.length<=256;(clear he htl lp;omega)),hnl⟩
   ·have he:¬p'=l.length:=he
    rw [if_neg he] at k
    exact k H5 S5
  refine ⟨_,rfl,q,_,rfl,.inl (dE.of hq5),_,_,rfl,rfl,_,rfl,cE (fun hlt=>?_) (fun hlt=>tG (fin ?_))⟩
  ·have hlt:((ts.map V.ref).length:Int)<256:=of_decide_eq_true hlt
   rw [List.length_map] at hlt
   obtain ⟨n,rfl⟩:∃ n,m=n+1:=⟨m - 1,by (clear lp;omega)⟩
   refine ⟨_,rfl,r,dx5,_,rfl,g5,rfl,r,a,l,p',rfl,x5,_,rfl,cE (fun hne=>?_) (fun hne=>fin ?_)⟩
   ·rw [Bool.not_eq_true',decide_eq_false_iff_not] at hne
    refine ⟨Zo CR H r a na qn q nm.1 nss l p4 n,fun _ _ z=>⟨n,Nat.lt_succ_self n,z⟩,?_⟩
    have hn5:Vy K H5 na nss:=by
     obtain ⟨⟨xs,h1,h2⟩,h3⟩:=hn
     exact ⟨⟨xs,S5.seq h1,oH.same h2 S5⟩,h3⟩
    refine ⟨_,rfl,.inl ⟨rfl,_,dE.of hq5⟩,_,rfl,_,rfl,r,a,na,l,p',nss,rfl,x5,hn5,?_⟩
    have e6:cC nss l (n+1) p'=eI (dY nss l p') fun q=>gE q.1 (cC nss l n q.2):=if_neg hne
    cases e7:dY nss l p' with
    |error i=>
     intro H' s'
     have e8:cC nss l 256 p4=.error i:=by
      rw [e5,e6,e7]
      rfl
     rw [e8] at k
     exact k H' fun y o e=>s' y o (S5 y o e) (aD e nr)
    |ok q1=>
     intro H6 t x6 s6 nt ht h6
     have hq6:H6 q=some (.lst (ts.map V.ref)):=s6 _ _ hq5 (Ne.symm nrq)
     have hsl:=bE
     refine ⟨q,_,_,rfl,rfl,hq6,?_,?_⟩
     ·rw [List.length_map]
      (clear h6 hne hm htl lp;omega)
     ·obtain ⟨dx6,g6⟩:=x6.rd
      have tupk:∀ b xs,H6 b=some (.tup xs)->upd H6 q (.lst (ts.map V.ref++[V.ref t])) b=some (.tup xs):=fun b xs e=>by
       rw [aC (fun z=>by rw [z,hq6] at e;cases e)]
       exact e
      refine ⟨ls++[q1.1],ts++[t],q1.2,rfl,tupk _ _ (s6.tup hr5 hqn5),by simp;(clear hsl h6 hne hlt htl lp;omega),x6.le,fun y o e=>?_,⟨dx6,by rw [aC nrq];exact g6⟩,by rw [aB,List.map_append];rfl,?_,?_⟩
      ·rw [aC (aD e hqH)]
       exact s6 y o (S5 y o e) (aD e nr)
      ·refine Paired.snoc ((pp.keep (H':=H6) fun b xs e=>s6.tup hr5 e).keep tupk) ⟨tupk _ _ ht,h6⟩
      ·rw [e5,e6,e7,bZ,iO]
   ·rw [Bool.not_eq_true',decide_eq_false_iff_not,Classical.not_not] at hne
    exact if_pos hne
  ·have hlt:¬((ts.map V.ref).length:Int)<256:=fun z=>hlt (decide_eq_true z)
   rw [List.length_map] at hlt
   rw [show m=0 by (clear lp;omega)]
   rfl
end
theorem sW {l:List Int}:∀ {n p:Nat},(256:Int)∉bH l p n
 |0,p=>by simp [bH]
 |n+1,p=>by
  rw [bH]
  split
  ·rename_i h
   intro z
   rcases List.mem_cons.mp z with z|z
   ·rw [<-z] at h
    revert h
    decide
   ·exact sW z
  ·simp
theorem aJ {α β:Type} {r:Except Nat α} {f:α->Except Nat β} {b:β} (h:eI r f=.ok b):∃ a,r=.ok a/\f a=.ok b:=by
 cases r with
 |error i=>cases h
 |ok a=>exact ⟨a,rfl,h⟩
theorem Ly {l:List Int} {p L:Nat} {v:List Int×Nat} (h:gD l p L=.ok v):(256:Int)∉v.1:=by
 unfold gD at h
 split at h
 ·cases h
  exact sW
 ·cases h
theorem Dt {l:List Int} {p:Nat} {q:aM×Nat} (h:dP l p=.ok q):(256:Int)∉q.1.name:=by
 unfold dP at h
 obtain ⟨p1,_,h⟩:=aJ h
 obtain ⟨nm,e,h⟩:=aJ h
 have hn:=Ly e
 obtain ⟨_,_,h⟩:=aJ h
 obtain ⟨_,_,h⟩:=aJ h
 obtain ⟨_,_,h⟩:=aJ h
 obtain ⟨_,_,h⟩:=aJ h
 obtain ⟨_,_,h⟩:=aJ h
 obtain ⟨_,_,h⟩:=aJ h
 obtain ⟨_,_,h⟩:=aJ h
 obtain ⟨_,_,h⟩:=aJ h
 obtain ⟨_,_,h⟩:=aJ h
 obtain ⟨_,_,h⟩:=aJ h
 cases h
 exact hn
theorem eX {α:Type} {x:α} {r:Except Nat (List α×Nat)} {q:List α×Nat} (h:gE x r=.ok q):∃ q',r=.ok q'/\q=(x::q'.1,q'.2):=by
 cases r with
 |error i=>cases h
 |ok q'=>cases h;exact ⟨q',rfl,rfl⟩
theorem yB {l:List Int}:∀ {n p:Nat} {q:List aM×Nat},cQ l n p=.ok q->∀ pr∈q.1,(256:Int)∉pr.name
 |0,p,q,h=>by cases h;intro pr hp;cases hp
 |n+1,p,q,h=>by
  rw [cQ] at h
  split at h
  ·cases h;intro pr hp;cases hp
  ·obtain ⟨q1,e1,h⟩:=aJ h
   obtain ⟨q2,e2,rfl⟩:=eX h
   intro pr hp
   rcases List.mem_cons.mp hp with rfl|hp
   ·exact Dt e1
   ·exact yB e2 pr hp
theorem Si {l:List Int} {prs:List aM} (h:gY l=.ok prs):∀ pr∈prs,(256:Int)∉pr.name:=by
 unfold gY at h
 obtain ⟨q,e1,h⟩:=aJ h
 obtain ⟨r,e2,h⟩:=aJ h
 split at h
 ·cases h
  intro pr hp
  rcases List.mem_cons.mp hp with rfl|hp
  ·exact Dt e1
  ·exact yB e2 pr hp
 ·cases h
def Bq (rf ft:Int) (pa:Addr) (bv rv:V):List (Str×V):=[("refusal",.int rf),("fault",.int ft),("parts",.ref pa),("build",bv),("room",rv)]
structure Zj (K:PySem.W.Frag) (CG:Addr):Prop where
 cl:Fb K CG
 n1:dD K CG "refusal"
 n2:dD K CG "fault"
 n3:dD K CG "parts"
 n4:dD K CG "build"
 n5:dD K CG "room"
inductive Tv
 |no (n:Int)
 |bad (i:Nat)
 |ok (prs:List aM) (nm:List Int) (ls:List (List Nat))
def dA (lc lb:List Int):Tv:=if 1048576<lc.length\/16384<lb.length then .no (-2) else match gY lc with
 |.error _=>.no (-6)
 |.ok prs=>if nD prs=true then (match dF (prs.map (·.name)) lb with
  |.error i=>.bad i
  |.ok b=>.ok prs b.1 b.2) else .no (-8)
def Qm (CG CP CB:Addr) (H:Hp) (g:Addr):Tv->Prop
 |.no n=>∃ dx pa,H g=some (.ins CG dx (Bq n 0 pa .non .non))
 |.bad i=>∃ dx pa,H g=some (.ins CG dx (Bq (-5) i pa .non .non))
 |.ok prs nm ls=>∃ dx pa q bs,H g=some (.ins CG dx (Bq 0 0 pa (.ref q) .non))/\H pa=some (.lst (bs.map V.ref))/\dS CP H bs prs/\vQ CB H q nm ls/\1<=prs.length/\prs.length<=64
section
variable {P:Program} {w:World} {K:PySem.W.Frag} {mg:Str->Option Value} {base:Heap} {C CR CP CB CG:Addr}
def Hn (CG:Addr):Sp:=fun vs H Q _=>∃ (r dx pa:Addr) (rf ft:Int) (bv:V),vs=[.ref r,.int rf,.int ft,.ref pa,bv]/\H r=some (.ins CG dx [])/\∀ H':Hp,H' r=some (.ins CG dx (Bq rf ft pa bv .non))->SX r H H'->Q .non H'
theorem Uu:aO ["self","refusal","fault","parts","build"] ["self","refusal","fault","parts","build"] (aG uB):=⟨rfl,rfl,rfl,by decide+kernel,rfl,by decide+kernel,by decide+kernel⟩
theorem Vc {f:Addr} {fd:FuncData} (F:fK K "__init__" "Given.__init__" uB f fd) (T:Zj K CG):yU P w K mg base bV 1 f fd ["self","refusal","fault","parts","build"] (Hn CG):=by
 refine F.okN Uu (fun vs H Q E h=>?_) (fun cdv A outer s H vs Q E hr h=>?_)
 ·obtain ⟨r,dx,pa,rf,ft,bv,rfl,_⟩:=h
  rfl
 ·obtain ⟨r,dx,pa,rf,ft,bv,rfl,hp,k⟩:=h
  refine ⟨_,aF (dW (pv 0) (pv 1) rfl) (aF (dW (pv 0) (pv 2) rfl) (aF (dW (pv 0) (pv 3) rfl) (aF (dW (pv 0) (pv 4) rfl) (aH (dW (pv 0) vF rfl))))),?_⟩
  refine ⟨_,rfl,_,rfl,r,CG,dx,_,rfl,hp,T.cl,T.n1,(by show 0<1000;decide),?_⟩
  refine ⟨_,rfl,_,rfl,r,CG,dx,_,rfl,aB,T.cl,T.n2,(by show 1<1000;decide),?_⟩
  refine ⟨_,rfl,_,rfl,r,CG,dx,_,rfl,aB,T.cl,T.n3,(by show 2<1000;decide),?_⟩
  refine ⟨_,rfl,_,rfl,r,CG,dx,_,rfl,aB,T.cl,T.n4,(by show 3<1000;decide),?_⟩
  refine ⟨_,rfl,r,CG,dx,_,rfl,aB,T.cl,T.n5,(by show 4<1000;decide),?_⟩
  exact k _ aB fun b o e hb=>by rw [aC hb,aC hb,aC hb,aC hb,aC hb];exact e
structure GvM (P:Program) (w:World) (K:PySem.W.Frag) (mg:Str->Option Value) (base:Heap) (CG:Addr):Prop where
 ex:∃ f fd,Mk K CG f/\yU P w K mg base bV 1 f fd ["self","refusal","fault","parts","build"] (Hn CG)/\eZ K fd ["self","refusal","fault","parts","build"] []
 mg:mg "Given"=some (.ref CG)
def Il (H:Hp) (D:Addr) (prs:List aM):Prop:=∃ qs:List Addr,H D=some (.lst (qs.map V.ref))/\Paired (fun q pr=>H q=some (.tup (pr.name.map V.int))) qs prs
def nS (K:PySem.W.Frag) (CP:Addr):Sp:=fun vs H Q _=>∃ (pa:Addr) (bs:List Addr) (prs:List aM),vs=[.ref pa]/\dE K H pa (bs.map V.ref)/\dS CP H bs prs/\prs.length<=64/\∀ (H':Hp) (D:Addr),aL H H'->H D=none->Il H' D prs->Q (.ref D) H'
theorem vZ:aO ["parts","part"] ["parts"] (aG mK):=⟨rfl,rfl,rfl,by decide+kernel,rfl,by decide+kernel,by decide+kernel⟩
theorem Nr {f:Addr} {fd:FuncData} (F:fK K "names_of" "names_of" mK f fd) (T':Na K CP):bU P w K mg base bV 1 f fd ["parts"] (nS K CP):=by
 refine F.ok vZ (fun vs H Q E h=>?_) (fun cdv A outer s H vs Q E hr h=>?_)
 ·obtain ⟨pa,bs,prs,rfl,_⟩:=h
  rfl
 ·obtain ⟨pa,bs,prs,rfl,hpa,hps,hp64,k⟩:=h
  refine ⟨_,aH (aV (zF (own:=[("part",1)]) (te:=Pp K (dI 1) "name") rfl vZ.nd (kY (pv 0)) (gN (N:=["parts","part"]) (sc:=aG mK) (by decide+kernel))
   (fun _ _ _ _ _=>bJ (i:=1) vZ.nd rfl (Or.inl rfl)) (fun _ _ _ _ _=>lJ) (fun _ _ _ _ _=>aT (pv 1) rfl))),?_⟩
  have hbl:bs.length=prs.length:=Paired.length hps
  have hsl:=bE
  refine ⟨_,rfl,pa,rfl,⟨_,hpa⟩,fun Dl hDl=>?_⟩
  refine pV (xs:=bs.map V.ref) (fun i H'=>aL H H'/\∃ qs,H' Dl=some (.lst (qs.map V.ref))/\Paired (fun q pr=>H q=some (.tup (pr.name.map V.int))) qs (prs.take i)) ⟨aL.new hDl,[],aB,.nil⟩ (fun i H' _ z=>z.1.seq hpa) ?_ ?_
  ·rintro i x H3 ex ⟨S3,qs,hD3,pq⟩
   have hi:i<prs.length:=by
    have:=(List.getElem?_eq_some_iff.mp ex).1
    rwa [List.length_map,hbl] at this
   obtain ⟨pr,ep⟩:∃ pr,prs[i]?=some pr:=⟨_,List.getElem?_eq_getElem hi⟩
   obtain ⟨b',eb,pat,po⟩:=cG hps ep
   rw [List.getElem?_map,eb] at ex
   cases ex
   obtain ⟨dx,nm,cc,f1,f2,f3⟩:=pat
   have hql:qs.length=(prs.take i).length:=Paired.length pq
   rw [List.length_take] at hql
   refine ⟨rfl,_,rfl,b',CP,dx,_,_,rfl,S3 _ _ f1,T'.cl,T'.n1,rfl,_,hD3,by rw [List.length_map];(clear hi hbl;omega),fun y o e=>?_,qs++[nm],by rw [aB,List.map_append];rfl,?_⟩
   ·rw [aC (aD e hDl)]
    exact S3 _ _ e
   ·rw [List.take_succ,ep]
    exact Paired.snoc pq f2
  ·rintro H3 ⟨S3,qs,hD3,pq⟩
   rw [List.length_map,hbl,List.take_length] at pq
   exact k H3 Dl S3 hDl ⟨qs,hD3,Paired.mapP pq fun q pr e=>S3 _ _ e⟩
def Ah (K:PySem.W.Frag) (CG CP CB:Addr):Sp:=fun vs H Q _=>∃ (c b:Addr) (lc lb:List Int),vs=[.ref c,.ref b]/\dE K H c (lc.map V.int)/\dE K H b (lb.map V.int)/\∀ (H':Hp) (g:Addr),aL H H'->H g=none->Qm CG CP CB H' g (dA lc lb)->Q (.ref g) H'
theorem qQ:aO ["c","b","parts","build","e"] ["c","b"] (aG iQ):=⟨rfl,rfl,rfl,by decide+kernel,rfl,by decide+kernel,by decide+kernel⟩
theorem Dr {H:Hp} {n ft:Int} {Q:V->Hp->Prop} (k:∀ (H':Hp) (g:Addr),aL H H'->H g=none->(∃ dx pa,H' g=some (.ins CG dx (Bq n ft pa .non .non)))->Q (.ref g) H'):
  ∀ l1,H l1=none->∀ x dx,upd H l1 (.lst []) x=none->upd H l1 (.lst []) dx=none->dx≠x->
   Hn CG [.ref x,.int n,.int ft,.ref l1,.non] (upd (upd (upd H l1 (.lst [])) dx (.own x)) x (.ins CG dx [])) (fun v H2=>v=.non/\Q (.ref x) H2) E0:=by
 intro l1 h1 x dx hx hdx hne
 have S:aL H (upd H l1 (.lst [])):=aL.new h1
 refine ⟨x,dx,l1,n,ft,.non,rfl,aB,fun H' hg s=>⟨rfl,k H' x (fun b o e=>?_) (S.free hx) ⟨dx,l1,hg⟩⟩⟩
 have e2:=S b o e
 exact s b o (by rw [aC (aD e2 hx),aC (aD e2 hdx)];exact e2) (aD e2 hx)
theorem Qo {f:Addr} {fd:FuncData} (F:fK K "read_given" "read_given" iQ f fd) (GM:GvM P w K mg base CG) (S:Ww P w K mg base C) (hlen:mg "len"=none) (c1:CI mg "MOST_CATALOGUE_BYTES" 1048576) (c2:CI mg "MOST_BUILD_BYTES" 16384)
  (L1:dO P w K mg base "read_catalogue" (iS C P w) 8 ["c"] (Ik K CP)) (L2:dO P w K mg base "catalogue_right" bV 5 ["parts"] (oY K CP)) (L3:dO P w K mg base "read_build" (iS C P w) 7 ["b","names"] (tJ K CB)) (L4:dO P w K mg base "names_of" bV 1 ["parts"] (nS K CP)):
  bU P w K mg base bV 9 f fd ["c","b"] (Ah K CG CP CB):=by
 obtain ⟨g1,gd1,G1,b1,k1,h1⟩:=L1.ex
 obtain ⟨g2,gd2,G2,b2,k2,h2⟩:=L2.ex
 obtain ⟨g3,gd3,G3,b3,k3,h3⟩:=L3.ex
 obtain ⟨g4,gd4,G4,b4,k4,h4⟩:=L4.ex
 obtain ⟨fg,fgd,MG,GG,bG⟩:=GM.ex
 obtain ⟨fx,fdx,XT,GX,bx⟩:=S.ex
 refine F.ok qQ (fun vs H Q E h=>?_) (fun cdv A outer s H vs Q E hr h=>?_)
 ·obtain ⟨c,b,lc,lb,rfl,_⟩:=h
  rfl
 ·obtain ⟨c,b,lc,lb,rfl,hc,hb,k⟩:=h
  have hr7:=hr.mono (j:=7) (by decide)
  have hr5:=hr.mono (j:=5) (by decide)
  have hr1:=hr.mono (j:=1) (by decide)
  have hr2:gZ 2 (A.deeper (envOfC "read_given" (aG iQ) s.heap.objs.size f cdv)):=(hr.mono (j:=2) (by decide)).n
  refine ⟨_,aF (eK (Iy (eB (sI (bS bW (by rfl) hlen PySem.boot_len (aA (pv 0) aE)) (eR c1))) (zM (eB (sI (bS bW (by rfl) hlen PySem.boot_len (aA (pv 1) aE)) (eR c2))))).pt
    (aH (aV (mJ MG GG hr2 (by rfl) GM.mg bG (aA (yI rK aK) (aA aK (aA (eG aE) (aA vF aE))))))) cF)
   (aF (Ze (tb:=fun E'=>Ef (xP (Ik K CP) [] E' (dL (dI 0) gR)) (mL 2)) XT rfl rfl (by rfl) S.mg (fun xe pn E' hP=>aH (bI (i:=2) qQ.nd rfl (Or.inl rfl) (aQ G1 hr (by rfl) h1 k1 b1 .nil hP (aA (pv 0) aE))))
    (fun ea=>aH (aV (mJ MG GG (hr2.mark _) (by rfl) GM.mg bG (aA (yI rK aK) (aA aK (aA (eG aE) (aA vF aE))))))))
   (aF (eK (kU (eE (aQ G2 hr5 (by rfl) h2 k2 b2 .nil aX (aA (pv 2) aE)))) (aH (aV (mJ MG GG hr2 (by rfl) GM.mg bG (aA (yI rK aK) (aA aK (aA (eG aE) (aA vF aE))))))) cF)
   (aF (Qc (i:=4) (tb:=fun E'=>Ef (xP (tJ K CB) [] E' (dL (dI 1) (dL (xP (nS K CP) [] E0 (dL (dI 2) gR)) gR))) (mL 3)) XT rfl rfl (by rfl) S.mg qQ.nd rfl rfl
     (fun xe pn E' hP=>aH (bI (i:=3) qQ.nd rfl (Or.inl rfl) (aQ G3 hr7 (by rfl) h3 k3 b3 .nil hP (aA (pv 1) (aA (aQ G4 hr1 (by rfl) h4 k4 b4 .nil aX (aA (pv 2) aE)) aE)))))
     (fun ea=>aH (aV (mJ MG GG (hr2.mark _) (by rfl) GM.mg bG (aA (yI rK aK) (aA (Rz XT (pv 4) rfl) (aA (eG aE) (aA vF aE))))))))
   (aH (aV (mJ MG GG hr2 (by rfl) GM.mg bG (aA aK (aA aK (aA (pv 2) (aA (pv 3) aE)))))))))),?_⟩
  have no:∀ (n:Int) (H1:Hp),aL H H1->dA lc lb=.no n->∀ (H':Hp) (g:Addr),aL H1 H'->H1 g=none->(∃ dx pa,H' g=some (.ins CG dx (Bq n 0 pa .non .non)))->Q (.ref g) H':=fun n H1 S1 e H' g S2 fg hg=>by
   have kk:=k H' g (S1.trans S2) (S1.free fg)
   rw [e] at kk
   exact kk hg
  refine ⟨_,rfl,c,_,rfl,.inl hc,_,_,rfl,rfl,_,rfl,cE (fun e1=>Oh ?_) (fun e1=>⟨_,rfl,b,_,rfl,.inl hb,_,_,rfl,rfl,_,rfl,cE (fun e2=>?_) (fun e2=>?_)⟩)⟩
  ·have e1:(1048576:Int)<((lc.map V.int).length:Int):=of_decide_eq_true e1
   rw [List.length_map] at e1
   have e3:dA lc lb=.no (-2):=if_pos (.inl (by omega))
   exact ⟨_,rfl,Nat.zero_le _,fun l1 n1=>Dr (no (-2) H (aL.id' _) e3) l1 n1⟩
  ·have e2:(16384:Int)<((lb.map V.int).length:Int):=of_decide_eq_true e2
   rw [List.length_map] at e2
   have e3:dA lc lb=.no (-2):=if_pos (.inr (by (clear e1;omega)))
   exact ⟨_,rfl,Nat.zero_le _,fun l1 n1=>Dr (no (-2) H (aL.id' _) e3) l1 n1⟩
  ·have e1:¬(1048576:Int)<((lc.map V.int).length:Int):=fun z=>e1 (decide_eq_true z)
   have e2:¬(16384:Int)<((lb.map V.int).length:Int):=fun z=>e2 (decide_eq_true z)
   rw [List.length_map] at e1 e2
   have e3:¬(1048576<lc.length\/16384<lb.length):=by omega
   unfold dA at k no
   rw [if_neg e3] at k no
   refine ⟨_,rfl,c,lc,rfl,hc,?_⟩
   cases ec:gY lc with
   |error i=>
    intro H1 S1 σ' hσ
    refine ⟨_,rfl,Nat.zero_le _,fun l1 n1=>Dr (no (-6) H1 S1 (by rw [ec])) l1 n1⟩
   |ok prs=>
    intro H1 pa bs S1 hpa hps hp64 hp1
    rw [ec] at k no
    refine ⟨_,rfl,pa,bs,prs,rfl,dE.of hpa,hps,hp1,hp64,fun H2 S2=>⟨_,rfl,cE (fun e4=>?_) (fun e4=>?_)⟩⟩
    ·rw [Bool.not_eq_true'] at e4
     exact ⟨_,rfl,Nat.zero_le _,fun l1 n1=>Dr (no (-8) H2 (S1.trans S2) (by show (if nD prs=true then _ else _)=_;rw [if_neg (by rw [e4];decide)])) l1 n1⟩
    ·rw [Bool.not_eq_true',Bool.not_eq_false] at e4
     have S12:=S1.trans S2
     have hpa2:=S2 _ _ hpa
     have hps2:dS CP H2 bs prs:=Paired.mapP hps fun _ _ z=>⟨z.1.same S2,z.2⟩
     have k:∀ (H':Hp) (g:Addr),aL H H'->H g=none->Qm CG CP CB H' g (match dF (prs.map (·.name)) lb with
       |.error i=>.bad i
       |.ok b=>.ok prs b.1 b.2)->Q (.ref g) H':=fun H' g s fg hg=>k H' g s fg (by show Qm CG CP CB H' g (if nD prs=true then _ else _);rw [if_pos e4];exact hg)
     refine ⟨_,rfl,_,rfl,pa,bs,prs,rfl,dE.of hpa2,hps2,hp64,fun H3 Dl S3 _ hN=>?_⟩
     obtain ⟨qs,hD3,pq⟩:=hN
     have ts3:oH K H3 (qs.map V.ref) (prs.map (·.name)):=by
      have key:∀ {qs:List Addr} {prs:List aM},Paired (fun q pr=>H3 q=some (.tup (pr.name.map V.int))) qs prs->oH K H3 (qs.map V.ref) (prs.map (·.name)):=by
       intro qs prs z
       induction z with
       |nil=>exact .nil
       |cons h t ih=>exact .cons ⟨_,rfl,cN.of h⟩ ih
      exact key pq
     have nms:Vy K H3 Dl (prs.map (·.name)):=by
      refine ⟨⟨_,dE.of hD3,ts3⟩,by rw [List.length_map];exact hp64,fun m hm=>?_⟩
      obtain ⟨pr,hpr,rfl⟩:=List.mem_map.mp hm
      obtain ⟨i,hi⟩:=List.mem_iff_getElem?.mp hpr
      obtain ⟨_,_,_,po⟩:=cG hps hi
      exact ⟨po.nm,Si ec pr hpr⟩
     have S13:=S12.trans S3
     refine ⟨b,Dl,lb,_,rfl,S13.seq hb,nms,?_⟩
     cases eb:dF (prs.map (·.name)) lb with
     |error i=>
      intro H4 S4
      rw [eb] at k
      refine ⟨i,rfl,fun σ' e d hσ he hd hne=>?_⟩
      have S5:aL H4 (upd (upd H4 d (.xd [("fault",.int i)])) e (XR C d e)):=fun y o z=>by rw [aC (aD z he),aC (aD z hd)];exact z
      have h4:(σ'.set 4 (some (V.ref e)))[4]?=some (some (V.ref e)):=List.getElem?_set_self (by have:σ'.length=5:=hσ;(clear hp1 hp64 e3 e2 e1;omega))
      have S15:=(S13.trans S4).trans S5
      refine ⟨_,rfl,_,h4,e,d,i,rfl,aB,by rw [aC hne,aB],Nat.zero_le _,fun l1 n1=>Dr (fun H' g s fg hg=>k H' g (S15.trans s) (S15.free fg) hg) l1 n1⟩
     |ok bd=>
      intro H4 q S4 hbd
      rw [eb] at k
      have S24:aL H1 H4:=(S2.trans S3).trans S4
      refine ⟨_,rfl,_,rfl,fun x dx hx hdx hne=>?_⟩
      refine ⟨x,dx,pa,0,0,.ref q,rfl,aB,fun H5 hg s5=>⟨rfl,?_⟩⟩
      have S45:aL H4 H5:=fun y o e=>s5 y o (by rw [aC (aD e hx),aC (aD e hdx)];exact e) (aD e hx)
      have S15:=S24.trans S45
      exact k H5 x ((S13.trans S4).trans S45) ((S13.trans S4).free hx) ⟨dx,pa,q,bs,hg,S15 _ _ hpa,Paired.mapP hps fun _ _ z=>⟨z.1.same S15,z.2⟩,hbd.same S45,hp1,hp64⟩
end
theorem Nz {lc lb:List Int} {n:Int} (h:dA lc lb=.no n):n= -2\/n= -6\/n= -8:=by
 unfold dA at h
 split at h
 ·cases h;exact .inl rfl
 ·split at h
  ·cases h;exact .inr (.inl rfl)
  ·split at h
   ·split at h<;>cases h
   ·cases h;exact .inr (.inr rfl)
end Br1
namespace L2
open PySem PySem.Spec PyProof.Rows
theorem tH {us:List Value} {x:Str} (h:us.length=([x]:List Str).length):∃ a,us=[a]:=List.length_eq_one_iff.mp h
theorem yE {us:List Value} {x y:Str} (h:us.length=([x,y]:List Str).length):∃ a b,us=[a,b]:=by
 cases us with
 |nil=>cases h
 |cons a r=>
  obtain ⟨b,rfl⟩:=tH (x:=x) (Nat.succ.inj h)
  exact ⟨a,b,rfl⟩
theorem us3 {us:List Value} {x y z:Str} (h:us.length=([x,y,z]:List Str).length):∃ a b c,us=[a,b,c]:=by
 cases us with
 |nil=>cases h
 |cons a r=>
  obtain ⟨b,c,rfl⟩:=yE (x:=x) (y:=y) (Nat.succ.inj h)
  exact ⟨a,b,c,rfl⟩
theorem us4 {us:List Value} {x y z w:Str} (h:us.length=([x,y,z,w]:List Str).length):∃ a b c d,us=[a,b,c,d]:=by
 cases us with
 |nil=>cases h
 |cons a r=>
  obtain ⟨b,c,d,rfl⟩:=us3 (x:=x) (y:=y) (z:=z) (Nat.succ.inj h)
  exact ⟨a,b,c,d,rfl⟩
theorem us5 {us:List Value} {x y z w v:Str} (h:us.length=([x,y,z,w,v]:List Str).length):∃ a b c d e,us=[a,b,c,d,e]:=by
 cases us with
 |nil=>cases h
 |cons a r=>
  obtain ⟨b,c,d,e,rfl⟩:=us4 (x:=x) (y:=y) (z:=z) (w:=w) (Nat.succ.inj h)
  exact ⟨a,b,c,d,e,rfl⟩
theorem us7 {us:List Value} {x y z w v u t:Str} (h:us.length=([x,y,z,w,v,u,t]:List Str).length):∃ a b c d e f g,us=[a,b,c,d,e,f,g]:=by
 cases us with
 |nil=>cases h
 |cons a r=>
  cases r with
  |nil=>cases h
  |cons b r=>
   obtain ⟨c,d,e,f,g,rfl⟩:=us5 (x:=x) (y:=y) (z:=z) (w:=w) (v:=v) (Nat.succ.inj (Nat.succ.inj h))
   exact ⟨a,b,c,d,e,f,g,rfl⟩
def iT (K:PySem.W.Frag) (x qual:Str) (st:Stmt):Prop:=∃ (f:Addr) (oc:Value) (od:Option Addr) (kV doc pm:Value) (an:Option Addr) (cdv ct:Value) (osl:Array (Option Value)),
 PySem.W.nsIn K mainGlobals x=some (some (.ref f))/\K.lookup f=some ⟨oc,od,.func (PySem.W.fnOf x qual (eQ st) (dR st) (aG st) .none kV doc pm an cdv ct),osl⟩/\PySem.W.codeIn K cdv qual=true/\PySem.W.keepIn K (.ref f)=true
def xW (K:PySem.W.Frag) (C:Addr) (x qual:Str) (st:Stmt):Prop:=∃ (f:Addr) (oc:Value) (od:Option Addr) (kV doc pm:Value) (an:Option Addr) (cdv ct:Value) (osl:Array (Option Value)),
 PySem.W.findIn K (.ref C) x=some (some (.ref f))/\K.lookup f=some ⟨oc,od,.func (PySem.W.fnOf x qual (eQ st) (dR st) (aG st) .none kV doc pm an cdv ct),osl⟩/\PySem.W.codeIn K cdv qual=true/\PySem.W.keepIn K (.ref f)=true/\PySem.W.isFn K (.ref f)=true
structure Fi (K:PySem.W.Frag) (x:Str) (C:Addr):Prop where
 ns:PySem.W.nsIn K mainGlobals x=some (some (.ref C))
 pg:PySem.W.plainGet K C Str.empty=true
 hd:PySem.W.hasDictIn K C=true
 po:PySem.W.plainOver K C=true
 sa:PySem.W.findIn K (.ref C) "__setattr__"=some (some (.builtin "object.__setattr__"))
 makes:PySem.W.makesIn K C=true
 kp:PySem.W.keepIn K (.ref C)=true
section
variable {P:Program} {w:World} {K:PySem.W.Frag} {h:Heap} {mg:Str->Option Value} {base:Heap} {C:Addr} {x qual:Str} {st:Stmt} {CX:Ez} {k:Nat} {ps:List Str} {sp:Sp}
theorem iT.fn0 (h1:iT K x qual st) (X:K.In h) (G:h.Ns mainGlobals mg) (ok:∀ (f:Addr) (fd:FuncData),fK K x qual st f fd->bU P w K mg base CX k f fd ps sp)
  (hb:∀ (kV doc pm:Value) (an:Option Addr) (cdv ct:Value) (us:List Value),us.length=ps.length->bindArgs (PySem.W.fnOf x qual (eQ st) (dR st) (aG st) .none kV doc pm an cdv ct) ⟨us,[]⟩=pure (ps.zip us)):Br1.dO P w K mg base x CX k ps sp:=by
 obtain ⟨f,oc,od,kV,doc,pm,an,cdv,ct,osl,a,l,c,kp⟩:=h1
 have F:=rA (st:=st) l c kp
 exact ⟨f,_,ok _ _ F,F.binds hb,kp,PySem.W.mg_of X G a⟩
theorem xW.mt (h1:xW K C x qual st) (ok:∀ (f:Addr) (fd:FuncData),fK K x qual st f fd->bU P w K mg base CX k f fd ps sp)
  (hb:∀ (kV doc pm:Value) (an:Option Addr) (cdv ct:Value) (us:List Value),us.length=ps.length->bindArgs (PySem.W.fnOf x qual (eQ st) (dR st) (aG st) .none kV doc pm an cdv ct) ⟨us,[]⟩=pure (ps.zip us)):Br1.nZ P w K mg base C x CX k ps sp:=by
 obtain ⟨f,oc,od,kV,doc,pm,an,cdv,ct,osl,a,l,c,kp,i⟩:=h1
 have F:=rA (st:=st) l c kp
 exact ⟨f,_,⟨a,i,kp⟩,ok _ _ F,F.binds hb⟩
theorem Fi.cl (h1:Fi K x C):Fb K C:=⟨h1.pg,h1.hd,h1.po,h1.sa⟩
theorem xW.mk (h1:xW K C "__init__" qual st) (hC:Fi K x C) (ok:∀ (f:Addr) (fd:FuncData),fK K "__init__" qual st f fd->bU P w K mg base CX k f fd ps sp)
  (hb:∀ (kV doc pm:Value) (an:Option Addr) (cdv ct:Value) (us:List Value),us.length=ps.length->bindArgs (PySem.W.fnOf "__init__" qual (eQ st) (dR st) (aG st) .none kV doc pm an cdv ct) ⟨us,[]⟩=pure (ps.zip us)):∃ f fd,Mk K C f/\bU P w K mg base CX k f fd ps sp/\eZ K fd ps []:=by
 obtain ⟨f,oc,od,kV,doc,pm,an,cdv,ct,osl,a,l,c,kp,i⟩:=h1
 have F:=rA (st:=st) l c kp
 exact ⟨f,_,⟨hC.makes,a,i,hC.kp⟩,ok _ _ F,F.binds hb⟩
theorem xW.mkN (h1:xW K C "__init__" qual st) (hC:Fi K x C) (ok:∀ (f:Addr) (fd:FuncData),fK K "__init__" qual st f fd->yU P w K mg base CX k f fd ps sp)
  (hb:∀ (kV doc pm:Value) (an:Option Addr) (cdv ct:Value) (us:List Value),us.length=ps.length->bindArgs (PySem.W.fnOf "__init__" qual (eQ st) (dR st) (aG st) .none kV doc pm an cdv ct) ⟨us,[]⟩=pure (ps.zip us)):∃ f fd,Mk K C f/\yU P w K mg base CX k f fd ps sp/\eZ K fd ps []:=by
 obtain ⟨f,oc,od,kV,doc,pm,an,cdv,ct,osl,a,l,c,kp,i⟩:=h1
 have F:=rA (st:=st) l c kp
 exact ⟨f,_,⟨hC.makes,a,i,hC.kp⟩,ok _ _ F,F.binds hb⟩
end
end L2
namespace Br1
open PySem PySem.Spec PyProof.Rows L2
def Qx (K:PySem.W.Frag) (x:Str) (n:Int):Prop:=∃ t,PySem.W.nsIn K mainGlobals x=some (some (.int n t))
theorem Qx.ci {K:PySem.W.Frag} {h:Heap} {mg:Str->Option Value} {x:Str} {n:Int} (hk:Qx K x n) (X:K.In h) (G:h.Ns mainGlobals mg):CI mg x n:=by
 obtain ⟨t,e⟩:=hk
 exact ⟨t,PySem.W.mg_of X G e⟩
theorem Fv {K:PySem.W.Frag} {f:Addr} {x qual:Str} {st:Stmt} (h:fnD K f x qual=some (Ur st)):∃ (oc:Value) (od:Option Addr) (kV doc pm:Value) (an:Option Addr) (cdv ct:Value) (osl:Array (Option Value)),
  K.lookup f=some ⟨oc,od,.func (PySem.W.fnOf x qual (eQ st) (dR st) (aG st) .none kV doc pm an cdv ct),osl⟩/\PySem.W.codeIn K cdv qual=true/\PySem.W.keepIn K (.ref f)=true:=by
 unfold fnD at h
 split at h
 ·rename_i oc od nm q pa b sc gl kV doc pm an cd ct bl osl e
  split at h
  ·rename_i t
   simp only [Bool.and_eq_true,beq_iff_eq] at t
   obtain ⟨rfl,rfl,rfl,rfl,c,k⟩:=t
   cases h
   exact ⟨oc,od,kV,doc,pm,an,cd,ct,osl,e,c,k⟩
  ·cases h
 ·cases h
theorem Uc {K:PySem.W.Frag} {C f:Addr} (h:Xe K C=some f):zX K C f:=by
 unfold Xe at h
 split at h
 ·rename_i c dd nm bs mro N q hd sn sub ab col hdel sl e
  split at h
  ·rename_i k0 k1 k2 k3 b k5 es
   split at h
   ·rename_i t
    simp only [Bool.and_eq_true,beq_iff_eq,Bool.not_eq_true'] at t
    obtain ⟨rfl,rfl,rfl,rfl,rfl,t1,t2,t3,t4,t5,t6⟩:=t
    split at h
    ·rename_i f' ei
     split at h
     ·rename_i tf
      cases h
      have es:sl=#[k0,k1,k2,k3,some (.builtin "Exception.__new__"),k5]:=by
       cases sl
       exact congrArg Array.mk es
      subst es
      exact ⟨⟨nm,q,N,bs,sn,sub,ab,col,dd,k0,k1,k2,k3,k5,e,t1,ei,t2,t3,t4,t5⟩,tf,t6⟩
     ·cases h
    ·cases h
   ·cases h
  ·cases h
 ·cases h
def Ft.P (K:PySem.W.Frag):Ft->Prop
 |.no x=>PySem.W.nsIn K mainGlobals x=some none
 |.int x n=>Qx K x n
 |.fn x st=>iT K x x st
 |.cl x=>Fi K x (dN K x)
 |.at c f=>PySem.W.findIn K (.ref (dN K c)) f=some none
 |.mt c m q st=>xW K (dN K c) m q st
 |.ints x l=>∃ a,PySem.W.nsIn K mainGlobals x=some (some (.ref a))/\∃ (o:Obj) (its:Array Value) (n:Nat),K.lookup a=some o/\o.cls=.type "tuple"/\o.data=.seq its n/\its.size<=sizeLine/\bN (l.map V.int) its.toList
 |.exc x q st=>PySem.W.nsIn K mainGlobals x=some (some (.ref (dN K x)))/\∃ (f:Addr) (oc:Value) (od:Option Addr) (kV doc pm:Value) (an:Option Addr) (cdv ct:Value) (osl:Array (Option Value)),
   zX K (dN K x) f/\K.lookup f=some ⟨oc,od,.func (PySem.W.fnOf "__init__" q (eQ st) (dR st) (aG st) .none kV doc pm an cdv ct),osl⟩/\PySem.W.codeIn K cdv q=true/\PySem.W.keepIn K (.ref f)=true
theorem yT:∀ {l:List Int} {vs:List Value},vs.map Vv=l.map some->bN (l.map V.int) vs
 |[],[],_=>.nil
 |[],v::r,h=>by cases h
 |n::l,[],h=>by cases h
 |n::l,v::r,h=>by
  obtain ⟨h1,h2⟩:=List.cons.inj h
  refine .cons ?_ (yT h2)
  cases v with
  |int m t=>cases h1;exact ⟨t,rfl⟩
  |_=>cases h1
theorem Ft.ok {K:PySem.W.Frag}:∀ {f:Ft},f.D K=f.X->f.P K
 |.no x,h=>beq_iff_eq.mp (congrArg Prod.fst h)
 |.int x n,h=>by
  have h:=congrArg Prod.fst h
  simp only [Ft.D,Ft.X] at h
  split at h
  ·rename_i m t e
   rw [beq_iff_eq] at h
   subst h
   exact ⟨t,e⟩
  ·cases h
 |.fn x st,h=>by
  simp only [Ft.D,Ft.X] at h
  split at h
  ·rename_i f e
   obtain ⟨oc,od,kV,doc,pm,an,cdv,ct,osl,l,c,k⟩:=Fv (congrArg Prod.snd h)
   exact ⟨f,oc,od,kV,doc,pm,an,cdv,ct,osl,e,l,c,k⟩
  ·cases h
 |.cl x,h=>by
  have h:=congrArg Prod.fst h
  simp only [Ft.D,Ft.X] at h
  simp only [Bool.and_eq_true,beq_iff_eq] at h
  obtain ⟨h1,h2,h3,h4,h5,h6,h7⟩:=h
  exact ⟨h1,h2,h3,h4,h5,h6,h7⟩
 |.at c f,h=>beq_iff_eq.mp (congrArg Prod.fst h)
 |.mt c m q st,h=>by
  simp only [Ft.D,Ft.X] at h
  split at h
  ·rename_i f e
   obtain ⟨oc,od,kV,doc,pm,an,cdv,ct,osl,l,c,k⟩:=Fv (congrArg Prod.snd h)
   exact ⟨f,oc,od,kV,doc,pm,an,cdv,ct,osl,e,l,c,k,congrArg Prod.fst h⟩
  ·cases h
 |.ints x l,h=>by
  have h:=congrArg Prod.fst h
  simp only [Ft.D,Ft.X] at h
  split at h
  ·rename_i a e
   split at h
   ·rename_i c d its n sl e2
    simp only [Bool.and_eq_true,beq_iff_eq,decide_eq_true_iff] at h
    obtain ⟨rfl,h2,h3⟩:=h
    have hl:=congrArg List.length h2
    rw [List.length_map,List.length_map,Array.length_toList] at hl
    have hb:=bE
    refine ⟨a,e,_,its,n,e2,rfl,rfl,?_,yT h2⟩
    show its.size<=sizeLine
    omega
   ·cases h
  ·cases h
 |.exc x q st,h=>by
  simp only [Ft.D,Ft.X] at h
  split at h
  ·rename_i f e
   obtain ⟨oc,od,kV,doc,pm,an,cdv,ct,osl,l,c,k⟩:=Fv (congrArg Prod.snd h)
   exact ⟨beq_iff_eq.mp (congrArg Prod.fst h),f,oc,od,kV,doc,pm,an,cdv,ct,osl,Uc e,l,c,k⟩
  ·cases h
theorem Gk {h:Heap}:∀ as:List Addr,(frH as h).In h
 |[]=>fun a o e=>by cases e
 |b::r=>fun a o e=>by
  unfold frH at e
  rw [List.filterMap_cons] at e
  cases q:h.get? b with
  |none=>
   rw [q] at e
   exact Gk r a o e
  |some u=>
   rw [q] at e
   have e:List.lookup a ((b,u)::frH r h)=some o:=e
   rw [List.lookup_cons] at e
   split at e
   ·rename_i z
    cases e
    rw [beq_iff_eq.mp z]
    exact q
   ·exact Gk r a o e
def Xl (as:List Addr) (fs:List Ft):PySem.W.Hook where
 α:=List (Bool×Option Df)
 obs s:=fs.map (Ft.D (frH as s.heap))
 val _:=fs.map Ft.X
 says _ h:=∃ K:PySem.W.Frag,K.In h/\∀ f∈fs,f.P K
 of _ s e:=⟨_,Gk as,fun f hf=>Ft.ok (List.map_inj_left.mp e f hf)⟩
 keeps _ _ _ x k:=let ⟨K,a,b⟩:=x;⟨K,a.keeps k,b⟩
theorem Ft.nth {K:PySem.W.Frag} {fs:List Ft} (h:∀ f∈fs,f.P K) (i:Nat) {f:Ft} (e:fs[i]?=some f):f.P K:=h f (List.mem_of_getElem? e)
end Br1
namespace L2
open PySem PySem.Spec PyProof.Rows
open PySem.W (WData Codec OpenSpec)
theorem Fp {r:OpenSpec} {k:Nat} {q:Program} {loose:List Str} {XP:(Str->Option Value)->Heap->Prop} {YP:World->Heap->Prop} {Good:PySem.W.Frag->Prop} {d:DefRec} {CX:Ez} {ps:List Str} {sp:PySem.W.Frag->Sp}
  (hwell:r.wellSaid=true) (hdf:d.params.defaults=[]) (hlen:r.args.length=ps.length) (hr:fW k callerA)
  (hY:∀ (w:World) (h:Heap),YP w h->∃ K:PySem.W.Frag,K.In h/\Good K)
  (F:∀ (w:World) (K:PySem.W.Frag) (mg:Str->Option Value) (fa:Addr) (h:Heap),Good K->K.In h->h.Ns mainGlobals mg->mg d.name=some (.ref fa)->
   ∃ fd:FuncData,(∀ (s:Shared) (us:List Value),us.length=ps.length->BindsTo s fd ⟨us,[]⟩ (ps.zip us))/\
    ∀ base:Heap,K.In base->base.Ns mainGlobals mg->bU r.prog w K mg base CX k fa fd ps (sp K))
  (hsp:∀ (K:PySem.W.Frag) (H:Hp) (xs:List V) (a:Codec.denoteAll r.args),Iu H->Codec.withinAll r.args a=true->Codec.app r.args r.asked a=true->mO K H xs (Codec.encAll r.args a)->
   sp K xs H (fun v H'=>Dw K H' v (r.ret.enc (Codec.app r.args r.f a))) fun _ _ _=>False)
  (hCX:∀ (H:Hp) (s:Shared) (e:Value) (s':Shared),CX [] H s (fun _ _ _=>False) e s'->False):
  PySem.W.WalkOS q loose XP YP r d [] (fun f vs=>PySem.call f vs):=by
 intro w s_0 s₁ mg mb G Y fa o pm cd doc dV kV ho hd hcd hD hmg hg args vals as hpre hlay hrd hwl hlo
 obtain ⟨a,e1,e2⟩:=PySem.W.os_pre_some hpre
 obtain ⟨e3,hwi⟩:=Codec.encAll_of_decAll r.args args a e1
 subst e3
 obtain ⟨K,KX,gk⟩:=hY w _ Y
 obtain ⟨fd,hb,hF⟩:=F w K mg fa _ gk KX G.T.g hmg
 refine PySem.W.enter_call (codeAny_mono (Mn (R:=[]) (cl:=classAt s_0.heap) (d0:=r.ret.enc (Codec.app r.args r.f a)) KX G.T.g G.T.b G.T.builtins G.T.nolimit hg hwl (yQ _ _) (wB hlay) hr hF hb (by rw [wW];exact hlen)
  (fun H xs hO hS=>hsp K H xs a hO hwi e2 hS) fun H e s'=>hCX H s₁ e s') fun r' s' hq=>?_)
 obtain ⟨u,as',rfl,h1,h2,h3,h4⟩:=hq
 exact ⟨.inl ⟨u,_,as',rfl,fun _=>rfl,h1,(OpenSpec.post_iff hwell hwi _ _).mpr rfl,fun z=>Bool.noConfusion (show false=true from z)⟩,h2,h3,h4⟩
end L2
namespace Br1
open PySem PySem.Spec PyProof.Rows L2
structure Vq (P:Program) (w:World) (K:PySem.W.Frag) (mg:Str->Option Value) (base:Heap) (CP CB CG:Addr):Prop where
 TG:Zj K CG
 TP:Na K CP
 TB:Wj K CB
 PM:PtM P w K mg base CP
 BM:BdM P w K mg base CB
 stud:dO P w K mg base "has_stud" bV 1 ["sign"] vH
 tube:dO P w K mg base "has_tube" bV 1 ["sign"] uY
 up:dO P w K mg base "above" bV 1 ["place"] nM
 dn:dO P w K mg base "below" bV 1 ["place"] nI
 names:dO P w K mg base "names_of" bV 1 ["parts"] (nS K CP)
 given:dO P w K mg base "read_given" bV 9 ["c","b"] (Ah K CG CP CB)
section
variable {P:Program} {w:World} {K:PySem.W.Frag} {h:Heap} {mg:Str->Option Value} {base:Heap}
theorem aCv (X:K.In h) (G:h.Ns mainGlobals mg) (hK:∀ f∈ftC,f.P K):Vq P w K mg base (dN K "Part") (dN K "Build") (dN K "Given"):=by
 have g:∀ (i:Nat) (f:Ft),ftC[i]?=some f->f.P K:=fun i f e=>Ft.nth hK i e
 have ci:∀ {x:Str} {n:Int},Qx K x n->CI mg x n:=fun hk=>hk.ci X G
 have nn:∀ {x:Str},PySem.W.nsIn K mainGlobals x=some none->mg x=none:=fun e=>PySem.W.mg_none_of X G e
 have T:Fc K (dN K "Reader"):=⟨Fi.cl (g 0 (.cl "Reader") rfl),(g 1 (.at "Reader" "text") rfl),(g 2 (.at "Reader" "position") rfl)⟩
 have TP:Na K (dN K "Part"):=⟨Fi.cl (g 3 (.cl "Part") rfl),(g 4 (.at "Part" "name") rfl),(g 5 (.at "Part" "width") rfl),(g 6 (.at "Part" "depth") rfl),(g 7 (.at "Part" "height") rfl),(g 8 (.at "Part" "weight") rfl),(g 9 (.at "Part" "cells") rfl)⟩
 have TB:Wj K (dN K "Build"):=⟨Fi.cl (g 10 (.cl "Build") rfl),(g 11 (.at "Build" "name") rfl),(g 12 (.at "Build" "lines") rfl)⟩
 have TG:Zj K (dN K "Given"):=⟨Fi.cl (g 13 (.cl "Given") rfl),(g 14 (.at "Given" "refusal") rfl),(g 15 (.at "Given" "fault") rfl),(g 16 (.at "Given" "parts") rfl),(g 17 (.at "Given" "build") rfl),(g 18 (.at "Given" "room") rfl)⟩
 obtain ⟨aS,sg1,hS0⟩:=(g 19 (.ints "SIGNS" cK) rfl)
 have hS:∀ H,cN K H aS (cK.map V.int):=fun H=>.inr hS0
 obtain ⟨stk,fS,oc,od,kV,doc,pm,an,cdv,ct,osl,XT,lS,cS,kS⟩:=(g 20 (.exc "Stuck" "Stuck.__init__" qN) rfl)
 have FS:=rA (st:=qN) lS cS kS
 have S:Ww P w K mg base (dN K "Stuck"):=⟨⟨fS,_,XT,Mm FS XT,FS.binds fun _ _ _ _ _ _ us hl=>(by obtain ⟨a,b,rfl⟩:=_root_.L2.yE hl;rfl)⟩,PySem.W.mg_of X G stk⟩
 have L1:dO P w K mg base "is_letter" bV 1 ["byte"] oS:=iT.fn0 (g 21 (.fn "is_letter" nU) rfl) X G (fun f fd F=>Ds F (nn (g 22 (.no "ord") rfl))) fun _ _ _ _ _ _ us hl=>(by obtain ⟨a,rfl⟩:=_root_.L2.tH hl;rfl)
 have L2:dO P w K mg base "is_digit" bV 1 ["byte"] nN:=iT.fn0 (g 23 (.fn "is_digit" qE) rfl) X G (fun f fd F=>Fu F (nn (g 22 (.no "ord") rfl))) fun _ _ _ _ _ _ us hl=>(by obtain ⟨a,rfl⟩:=_root_.L2.tH hl;rfl)
 have RK:RdK P w K mg base (dN K "Reader"):=⟨xW.mk (g 24 (.mt "Reader" "__init__" "Reader.__init__" Td) rfl) (g 0 (.cl "Reader") rfl) (fun f fd F=>Xu F T) fun _ _ _ _ _ _ us hl=>(by obtain ⟨a,b,rfl⟩:=_root_.L2.yE hl;rfl),PySem.W.mg_of X G (Fi.ns (g 0 (.cl "Reader") rfl))⟩
 have M1:nZ P w K mg base (dN K "Reader") "ended" bV 1 ["self"] (nL K (dN K "Reader")):=xW.mt (g 25 (.mt "Reader" "ended" "Reader.ended" Ba) rfl) (fun f fd F=>Qg F T (nn (g 26 (.no "len") rfl))) fun _ _ _ _ _ _ us hl=>(by obtain ⟨a,rfl⟩:=_root_.L2.tH hl;rfl)
 obtain ⟨t0,e0⟩:=ci (g 27 (.int "NO_BYTE" 256) rfl)
 have M2:nZ P w K mg base (dN K "Reader") "here" bV 2 ["self"] (pA K (dN K "Reader")):=xW.mt (g 28 (.mt "Reader" "here" "Reader.here" Ij) rfl) (fun f fd F=>Tl F T e0 M1) fun _ _ _ _ _ _ us hl=>(by obtain ⟨a,rfl⟩:=_root_.L2.tH hl;rfl)
 have M3:nZ P w K mg base (dN K "Reader") "take" bV 3 ["self"] (oR K (dN K "Reader")):=xW.mt (g 29 (.mt "Reader" "take" "Reader.take" Jj) rfl) (fun f fd F=>Sr F T M2) fun _ _ _ _ _ _ us hl=>(by obtain ⟨a,rfl⟩:=_root_.L2.tH hl;rfl)
 have M4:nZ P w K mg base (dN K "Reader") "read_one_of" (iS (dN K "Stuck") P w) 4 ["self","signs"] (pM K (dN K "Reader")):=xW.mt (g 30 (.mt "Reader" "read_one_of" "Reader.read_one_of" Ae) rfl) (fun f fd F=>Nn F T S M2 M3) fun _ _ _ _ _ _ us hl=>(by obtain ⟨a,b,rfl⟩:=_root_.L2.yE hl;rfl)
 have M5:nZ P w K mg base (dN K "Reader") "read_word" (iS (dN K "Stuck") P w) 5 ["self","word"] (lI K (dN K "Reader")):=xW.mt (g 31 (.mt "Reader" "read_word" "Reader.read_word" Ka) rfl) (fun f fd F=>Tf F T (nn (g 22 (.no "ord") rfl)) M4) fun _ _ _ _ _ _ us hl=>(by obtain ⟨a,b,rfl⟩:=_root_.L2.yE hl;rfl)
 have M6:nZ P w K mg base (dN K "Reader") "read_name" (iS (dN K "Stuck") P w) 4 ["self","longest"] (oU K (dN K "Reader")):=xW.mt (g 32 (.mt "Reader" "read_name" "Reader.read_name" Ht) rfl) (fun f fd F=>Vh F T S (nn (g 26 (.no "len") rfl)) (nn (g 33 (.no "tuple") rfl)) M2 M3 L1 L2) fun _ _ _ _ _ _ us hl=>(by obtain ⟨a,b,rfl⟩:=_root_.L2.yE hl;rfl)
 have M7:nZ P w K mg base (dN K "Reader") "read_number" (iS (dN K "Stuck") P w) 4 ["self","least","most"] (jQ K (dN K "Reader")):=xW.mt (g 34 (.mt "Reader" "read_number" "Reader.read_number" tS) rfl) (fun f fd F=>Lh F T S (nn (g 22 (.no "ord") rfl)) M2 M3 L2) fun _ _ _ _ _ _ us hl=>(by obtain ⟨a,b,c,rfl⟩:=_root_.L2.us3 hl;rfl)
 have M8:nZ P w K mg base (dN K "Reader") "read_end" (iS (dN K "Stuck") P w) 3 ["self"] (yK K (dN K "Reader")):=xW.mt (g 35 (.mt "Reader" "read_end" "Reader.read_end" Ul) rfl) (fun f fd F=>Xr F T S M1) fun _ _ _ _ _ _ us hl=>(by obtain ⟨a,rfl⟩:=_root_.L2.tH hl;rfl)
 have PM:PtM P w K mg base (dN K "Part"):=⟨xW.mk (g 36 (.mt "Part" "__init__" "Part.__init__" Bj) rfl) (g 3 (.cl "Part") rfl) (fun f fd F=>Pd F TP) fun _ _ _ _ _ _ us hl=>(by obtain ⟨a,b,c,d,e,f,g,rfl⟩:=_root_.L2.us7 hl;rfl),PySem.W.mg_of X G (Fi.ns (g 3 (.cl "Part") rfl))⟩
 have BM:BdM P w K mg base (dN K "Build"):=⟨xW.mk (g 37 (.mt "Build" "__init__" "Build.__init__" tP) rfl) (g 10 (.cl "Build") rfl) (fun f fd F=>Xk F TB) fun _ _ _ _ _ _ us hl=>(by obtain ⟨a,b,c,rfl⟩:=_root_.L2.us3 hl;rfl),PySem.W.mg_of X G (Fi.ns (g 10 (.cl "Build") rfl))⟩
 have GM:GvM P w K mg base (dN K "Given"):=⟨xW.mkN (g 38 (.mt "Given" "__init__" "Given.__init__" uB) rfl) (g 13 (.cl "Given") rfl) (fun f fd F=>Vc F TG) fun _ _ _ _ _ _ us hl=>(by obtain ⟨a,b,c,d,e,rfl⟩:=_root_.L2.us5 hl;rfl),PySem.W.mg_of X G (Fi.ns (g 13 (.cl "Given") rfl))⟩
 have L3:dO P w K mg base "has_stud" bV 1 ["sign"] vH:=iT.fn0 (g 39 (.fn "has_stud" qP) rfl) X G (fun f fd F=>Sx F (ci (g 40 (.int "STUD" 115) rfl)) (ci (g 41 (.int "BOTH" 98) rfl))) fun _ _ _ _ _ _ us hl=>(by obtain ⟨a,rfl⟩:=_root_.L2.tH hl;rfl)
 have L4:dO P w K mg base "has_tube" bV 1 ["sign"] uY:=iT.fn0 (g 42 (.fn "has_tube" qB) rfl) X G (fun f fd F=>Ug F (ci (g 43 (.int "TUBE" 116) rfl)) (ci (g 41 (.int "BOTH" 98) rfl))) fun _ _ _ _ _ _ us hl=>(by obtain ⟨a,rfl⟩:=_root_.L2.tH hl;rfl)
 have L5:dO P w K mg base "above" bV 1 ["place"] nM:=iT.fn0 (g 44 (.fn "above" Ac) rfl) X G (fun f fd F=>Og F) fun _ _ _ _ _ _ us hl=>(by obtain ⟨a,rfl⟩:=_root_.L2.tH hl;rfl)
 have L6:dO P w K mg base "below" bV 1 ["place"] nI:=iT.fn0 (g 45 (.fn "below" Au) rfl) X G (fun f fd F=>Rr F) fun _ _ _ _ _ _ us hl=>(by obtain ⟨a,rfl⟩:=_root_.L2.tH hl;rfl)
 have L9:dO P w K mg base "read_cells" (iS (dN K "Stuck") P w) 6 ["reader","width","depth","height"] (Ab K (dN K "Reader")):=iT.fn0 (g 46 (.fn "read_cells" kM) rfl) X G (fun f fd F=>On F T (nn (g 47 (.no "range") rfl)) hS (PySem.W.mg_of X G sg1) (ci (g 48 (.int "NO_CELL" 46) rfl)) M4 M5) fun _ _ _ _ _ _ us hl=>(by obtain ⟨a,b,c,d,rfl⟩:=_root_.L2.us4 hl;rfl)
 have L8:dO P w K mg base "read_part" (iS (dN K "Stuck") P w) 7 ["reader"] (Hd K (dN K "Reader") (dN K "Part")):=iT.fn0 (g 49 (.fn "read_part" oC) rfl) X G (fun f fd F=>Uf F T PM (ci (g 50 (.int "LONGEST_PART_NAME" 8) rfl)) (ci (g 51 (.int "MOST_WIDTH" 16) rfl)) (ci (g 52 (.int "MOST_DEPTH" 16) rfl)) (ci (g 53 (.int "MOST_HEIGHT" 18) rfl)) (ci (g 54 (.int "MOST_WEIGHT" 9999) rfl)) M5 M6 M7 L9) fun _ _ _ _ _ _ us hl=>(by obtain ⟨a,rfl⟩:=_root_.L2.tH hl;rfl)
 have L7:dO P w K mg base "read_catalogue" (iS (dN K "Stuck") P w) 8 ["c"] (Ik K (dN K "Part")):=iT.fn0 (g 55 (.fn "read_catalogue" pR) rfl) X G (fun f fd F=>Wz F T RK (nn (g 26 (.no "len") rfl)) (ci (g 56 (.int "MOST_PARTS" 64) rfl)) M1 M8 L8) fun _ _ _ _ _ _ us hl=>(by obtain ⟨a,rfl⟩:=_root_.L2.tH hl;rfl)
 have L12:dO P w K mg base "studs_clear" bV 2 ["part"] (Aq (dN K "Part")):=iT.fn0 (g 57 (.fn "studs_clear" Bc) rfl) X G (fun f fd F=>Pa F TP L3 L5) fun _ _ _ _ _ _ us hl=>(by obtain ⟨a,rfl⟩:=_root_.L2.tH hl;rfl)
 have L13:dO P w K mg base "tubes_clear" bV 2 ["part"] (zY (dN K "Part")):=iT.fn0 (g 58 (.fn "tubes_clear" Bf) rfl) X G (fun f fd F=>Nj F TP L4 L6) fun _ _ _ _ _ _ us hl=>(by obtain ⟨a,rfl⟩:=_root_.L2.tH hl;rfl)
 have L14:dO P w K mg base "fills_its_box" bV 2 ["part"] (Ad (dN K "Part")):=iT.fn0 (g 59 (.fn "fills_its_box" uG) rfl) X G (fun f fd F=>Rl F TP (nn (g 60 (.no "enumerate") rfl))) fun _ _ _ _ _ _ us hl=>(by obtain ⟨a,rfl⟩:=_root_.L2.tH hl;rfl)
 have L16:dO P w K mg base "neighbours" bV 2 ["place"] Aw:=iT.fn0 (g 61 (.fn "neighbours" Av) rfl) X G (fun f fd F=>Ri F L5 L6) fun _ _ _ _ _ _ us hl=>(by obtain ⟨a,rfl⟩:=_root_.L2.tH hl;rfl)
 have L15:dO P w K mg base "hangs_together" bV 3 ["part"] (Bg (dN K "Part")):=iT.fn0 (g 62 (.fn "hangs_together" Ar) rfl) X G (fun f fd F=>Nf F TP (nn (g 26 (.no "len") rfl)) (nn (g 63 (.no "list") rfl)) L16) fun _ _ _ _ _ _ us hl=>(by obtain ⟨a,rfl⟩:=_root_.L2.tH hl;rfl)
 have L17:dO P w K mg base "names_grow" bV 2 ["parts"] (Gn K (dN K "Part")):=iT.fn0 (g 64 (.fn "names_grow" Iv) rfl) X G (fun f fd F=>Sf F TP (nn (g 47 (.no "range") rfl)) (nn (g 26 (.no "len") rfl))) fun _ _ _ _ _ _ us hl=>(by obtain ⟨a,rfl⟩:=_root_.L2.tH hl;rfl)
 have L11:dO P w K mg base "part_right" bV 4 ["part"] (tK (dN K "Part")):=iT.fn0 (g 65 (.fn "part_right" lL) rfl) X G (fun f fd F=>Ow F L12 L13 L14 L15) fun _ _ _ _ _ _ us hl=>(by obtain ⟨a,rfl⟩:=_root_.L2.tH hl;rfl)
 have L10:dO P w K mg base "catalogue_right" bV 5 ["parts"] (oY K (dN K "Part")):=iT.fn0 (g 66 (.fn "catalogue_right" jR) rfl) X G (fun f fd F=>Db F (nn (g 67 (.no "all") rfl)) L11 L17) fun _ _ _ _ _ _ us hl=>(by obtain ⟨a,rfl⟩:=_root_.L2.tH hl;rfl)
 have L21:dO P w K mg base "some_begins" bV 2 ["names","beginning"] (uV K):=iT.fn0 (g 68 (.fn "some_begins" qO) rfl) X G (fun f fd F=>Ml F (nn (g 69 (.no "any") rfl)) (nn (g 26 (.no "len") rfl))) fun _ _ _ _ _ _ us hl=>(by obtain ⟨a,b,rfl⟩:=_root_.L2.yE hl;rfl)
 have L20:dO P w K mg base "read_part_number" (iS (dN K "Stuck") P w) 5 ["reader","names"] (vC K (dN K "Reader")):=iT.fn0 (g 70 (.fn "read_part_number" uA) rfl) X G (fun f fd F=>Ma F T S M2 M3 L21) fun _ _ _ _ _ _ us hl=>(by obtain ⟨a,b,rfl⟩:=_root_.L2.yE hl;rfl)
 have L19:dO P w K mg base "read_line" (iS (dN K "Stuck") P w) 6 ["reader","names"] (Gf K (dN K "Reader")):=iT.fn0 (g 71 (.fn "read_line" nG) rfl) X G (fun f fd F=>Um F T (nn (g 33 (.no "tuple") rfl)) (ci (g 72 (.int "MOST_COLOUR" 255) rfl)) (ci (g 73 (.int "ROOM_WIDTH" 64) rfl)) (ci (g 74 (.int "ROOM_DEPTH" 64) rfl)) (ci (g 75 (.int "ROOM_HEIGHT" 96) rfl)) (ci (g 76 (.int "MOST_TURNS" 3) rfl)) M5 M7 L20) fun _ _ _ _ _ _ us hl=>(by obtain ⟨a,b,rfl⟩:=_root_.L2.yE hl;rfl)
 have L18:dO P w K mg base "read_build" (iS (dN K "Stuck") P w) 7 ["b","names"] (tJ K (dN K "Build")):=iT.fn0 (g 77 (.fn "read_build" kO) rfl) X G (fun f fd F=>Qi F T RK BM (nn (g 26 (.no "len") rfl)) (ci (g 78 (.int "LONGEST_BUILD_NAME" 16) rfl)) (ci (g 79 (.int "MOST_LINES" 256) rfl)) M1 M8 M5 M6 L19) fun _ _ _ _ _ _ us hl=>(by obtain ⟨a,b,rfl⟩:=_root_.L2.yE hl;rfl)
 have L22:dO P w K mg base "names_of" bV 1 ["parts"] (nS K (dN K "Part")):=iT.fn0 (g 80 (.fn "names_of" mK) rfl) X G (fun f fd F=>Nr F TP) fun _ _ _ _ _ _ us hl=>(by obtain ⟨a,rfl⟩:=_root_.L2.tH hl;rfl)
 exact ⟨TG,TP,TB,PM,BM,L3,L4,L5,L6,L22,iT.fn0 (g 81 (.fn "read_given" iQ) rfl) X G (fun f fd F=>Qo F GM S (nn (g 26 (.no "len") rfl)) (ci (g 82 (.int "MOST_CATALOGUE_BYTES" 1048576) rfl)) (ci (g 83 (.int "MOST_BUILD_BYTES" 16384) rfl)) L7 L10 L18 L22) fun _ _ _ _ _ _ us hl=>(by obtain ⟨a,b,rfl⟩:=_root_.L2.yE hl;rfl)⟩
end
end Br1
namespace Br1
def aW (t:Br.Bytes):List Int:=t.map fun c=>(c.toNat:Int)
abbrev At (t:Br.Bytes) (p:Nat):Nat×Br.Bytes:=(p,t.drop p)
def qR (i:Int):UInt8:=UInt8.ofNat i.toNat
theorem Qb (c:UInt8):qR (c.toNat:Int)=c:=by
 unfold qR
 rw [Int.toNat_natCast]
 exact UInt8.ofNat_toNat
theorem fV {t:Br.Bytes} {p:Nat} {c:UInt8} (h:t[p]?=some c):aR (aW t) p=(c.toNat:Int):=by
 unfold aR aW
 rw [List.getElem?_map,h]
 rfl
theorem fT {t:Br.Bytes} {p:Nat} (h:t[p]?=none):aR (aW t) p=256:=by
 unfold aR aW
 rw [List.getElem?_map,h]
 rfl
theorem pJ {t:Br.Bytes} {p:Nat} {c:UInt8}:aR (aW t) p=(c.toNat:Int)↔t[p]?=some c:=by
 constructor
 ·intro h
  cases e:t[p]? with
  |none=>
   rw [fT e] at h
   have:=UInt8.toNat_lt c
   omega
  |some d=>
   rw [fV e] at h
   have:d.toNat=c.toNat:=by omega
   rw [UInt8.toNat_inj.mp this]
 ·exact fV
theorem eW (t:Br.Bytes):(aW t).length=t.length:=List.length_map _
section
variable {α β:Type} {t:Br.Bytes} {p:Nat}
theorem aZ {x:Br.Rd α} {f:α->Br.Rd β} {s:Nat×Br.Bytes}:(x>>=f) s=eI (x s) fun r=>f r.1 r.2:=by
 show (StateT.bind x f) s=_
 unfold StateT.bind
 cases x s with
 |error e=>rfl
 |ok r=>rfl
theorem jA:Br.peek (At t p)=.ok (t[p]?,At t p):=by
 show Except.ok ((t.drop p).head?,_)=_
 rw [List.head?_drop]
theorem oB:Br.skip (At t p)=.ok ((),At t (p+1)):=by
 show Except.ok ((),(p+1,(t.drop p).drop 1))=_
 rw [List.drop_drop]
end
def eY {α β:Type} (t:Br.Bytes) (f:α->β):Except Nat (α×Nat)->Except Nat (β×(Nat×Br.Bytes))
 |.ok x=>.ok (f x.1,At t x.2)
 |.error e=>.error e
def Ir (t:Br.Bytes):Except Nat Nat->Except Nat (Unit×(Nat×Br.Bytes))
 |.ok q=>.ok ((),At t q)
 |.error e=>.error e
theorem Az {t:Br.Bytes} {p:Nat} {c:UInt8}:Br.byte_ c (At t p)=if t[p]?=some c then .ok ((),At t (p+1)) else .error p:=by
 unfold Br.byte_
 rw [aZ,jA,bZ]
 show (if t[p]?=some c then Br.skip else Br.stray) (At t p)=_
 by_cases h:t[p]?=some c
 ·rw [if_pos h,if_pos h]
  exact oB
 ·rw [if_neg h,if_neg h]
  rfl
theorem pO {t:Br.Bytes}:∀ {cs:Br.Bytes} {p:Nat},Br.bytes_ cs (At t p)=Ir t (aU (aW t) p (cs.map UInt8.toNat))
 |[],p=>rfl
 |c::r,p=>by
  rw [Br.bytes_,aZ,Az]
  rw [List.map_cons,aU]
  by_cases h:t[p]?=some c
  ·rw [if_pos h,if_pos (pJ.mpr h)]
   exact pO
  ·rw [if_neg h,if_neg (fun z=>h (pJ.mp z))]
   rfl
theorem nY {t:Br.Bytes} {p:Nat} {c:UInt8}:Br.byte_ c (At t p)=Ir t (aU (aW t) p [c.toNat]):=by
 rw [Az,aU]
 by_cases h:t[p]?=some c
 ·rw [if_pos h,if_pos (pJ.mpr h)]
  rfl
 ·rw [if_neg h,if_neg (fun z=>h (pJ.mp z))]
  rfl
theorem Vj {lo hi n:Nat} (hlo:lo<=1) (hh:lo<=hi):Br.leadsTo lo hi n=decide (lo<=n/\n<=hi):=by
 unfold Br.leadsTo
 by_cases hn:n=0
 ·rw [if_pos hn,hn,Bool.eq_iff_iff,beq_iff_eq,decide_eq_true_iff]
  (clear hn hh hlo;omega)
 ·rw [if_neg hn,Bool.eq_iff_iff,List.any_eq_true,decide_eq_true_iff]
  constructor
  ·rintro ⟨k,_,h⟩
   rw [Bool.and_eq_true,decide_eq_true_iff,decide_eq_true_iff] at h
   have h1:1<=10 ^ k:=Nat.one_le_pow _ _ (by decide)
   have h2:n * 1<=n * 10 ^ k:=Nat.mul_le_mul_left n h1
   (clear h1 hh;omega)
  ·rintro ⟨h1,h2⟩
   refine ⟨0,by simp,?_⟩
   rw [Bool.and_eq_true,decide_eq_true_iff,decide_eq_true_iff]
   simp
   (clear h1 hh;omega)
theorem fN (c:UInt8):Br.isDigit c=iX (c.toNat:Int):=by
 unfold Br.isDigit iX
 rw [Bool.eq_iff_iff,Bool.and_eq_true,Bool.and_eq_true,decide_eq_true_iff,decide_eq_true_iff,decide_eq_true_iff,decide_eq_true_iff]
 omega
theorem wS (c:UInt8):Br.isLow c=jK (c.toNat:Int):=by
 unfold Br.isLow jK
 rw [Bool.eq_iff_iff,Bool.and_eq_true,Bool.and_eq_true,decide_eq_true_iff,decide_eq_true_iff,decide_eq_true_iff,decide_eq_true_iff]
 omega
theorem sG {t:Br.Bytes} {lo hi f p:Nat} {v:Option Nat}:Br.digits lo hi (f+1) v (At t p)=
  match ((t[p]?).bind fun (c:UInt8)=>if Br.isDigit c=false\/v=some 0 then Option.none else (if Br.leadsTo lo hi (10 * v.getD 0+(c.toNat - 48))=true then some (10 * v.getD 0+(c.toNat - 48)) else Option.none)) with
  |some n=>Br.digits lo hi f (some n) (At t (p+1))
  |Option.none=>match v with
   |some n=>if lo<=n/\n<=hi then .ok (n,At t p) else .error p
   |Option.none=>.error p:=by
 show (Br.peek>>=fun (o:Option UInt8)=>(match (o.bind fun (c:UInt8)=>if Br.isDigit c=false\/v=some 0 then Option.none else (if Br.leadsTo lo hi (10 * v.getD 0+(c.toNat - 48))=true then some (10 * v.getD 0+(c.toNat - 48)) else Option.none)) with
  |some n=>(do Br.skip;Br.digits lo hi f (some n):Br.Rd Nat)
  |Option.none=>(match v with
   |some n=>(if lo<=n/\n<=hi then pure n else Br.stray:Br.Rd Nat)
   |Option.none=>Br.stray))) (At t p)=_
 rw [aZ,jA]
 show (match ((t[p]?).bind fun (c:UInt8)=>if Br.isDigit c=false\/v=some 0 then Option.none else (if Br.leadsTo lo hi (10 * v.getD 0+(c.toNat - 48))=true then some (10 * v.getD 0+(c.toNat - 48)) else Option.none)) with
  |some n=>(do Br.skip;Br.digits lo hi f (some n):Br.Rd Nat)
  |Option.none=>(match v with
   |some n=>(if lo<=n/\n<=hi then pure n else Br.stray:Br.Rd Nat)
   |Option.none=>Br.stray)) (At t p)=_
 cases (t[p]?).bind fun (c:UInt8)=>if Br.isDigit c=false\/v=some 0 then Option.none else (if Br.leadsTo lo hi (10 * v.getD 0+(c.toNat - 48))=true then some (10 * v.getD 0+(c.toNat - 48)) else Option.none) with
 |some n=>
  show (Br.skip>>=fun _=>Br.digits lo hi f (some n)) (At t p)=_
  rw [aZ,oB]
  rfl
 |none=>
  cases v with
  |none=>rfl
  |some n=>
   by_cases h:lo<=n/\n<=hi
   ·simp only [h,if_true,and_self]
    rfl
   ·simp only [h,if_false]
    rfl
theorem sJ {t:Br.Bytes} {lo hi:Nat} (hlo:lo<=1):∀ {f p n m:Nat},1<=f->(n=0\/hi<n * 10 ^ f)->lo<=n->n<=hi->t.length<=p+m->
  Br.digits lo hi f (some n) (At t p)=.ok ((dC (aW t) hi m p (n:Int)).1.toNat,At t (dC (aW t) hi m p (n:Int)).2)
 |0,p,n,m,h,_,_,_,_=>absurd h (by decide)
 |f+1,p,n,m,_,hc,h1,h2,hm=>by
  rw [sG]
  have stop:(dC (aW t) hi m p (n:Int))=((n:Int),p)->(if lo<=n/\n<=hi then (.ok (n,At t p):Except Nat (Nat×(Nat×Br.Bytes))) else .error p)=.ok ((dC (aW t) hi m p (n:Int)).1.toNat,At t (dC (aW t) hi m p (n:Int)).2):=fun e=>by
   rw [if_pos ⟨h1,h2⟩,e]
   show _=Except.ok (((n:Int)).toNat,At t p)
   rw [Int.toNat_natCast]
  cases e:t[p]? with
  |none=>
   show (if lo<=n/\n<=hi then (.ok (n,At t p):Except Nat (Nat×(Nat×Br.Bytes))) else .error p)=_
   refine stop ?_
   cases m with
   |zero=>rfl
   |succ m=>
    rw [dC,if_neg]
    rintro ⟨_,z,_⟩
    rw [fT e] at z
    revert z
    decide
  |some c=>
   have hp:p<t.length:=(List.getElem?_eq_some_iff.mp e).1
   obtain ⟨m,rfl⟩:∃ m',m=m'+1:=⟨m - 1,by (clear h2 h1 hc hlo;omega)⟩
   have hh:=fV e
   by_cases hd:Br.isDigit c=false\/(some n:Option Nat)=some 0
   ·show (match (if Br.isDigit c=false\/(some n:Option Nat)=some 0 then (Option.none:Option Nat) else _) with
     |some n=>_
     |Option.none=>(if lo<=n/\n<=hi then (.ok (n,At t p):Except Nat (Nat×(Nat×Br.Bytes))) else .error p))=_
    rw [if_pos hd]
    refine stop ?_
    rw [dC,if_neg]
    rintro ⟨z1,z2,_⟩
    rw [hh,<-fN] at z2
    rcases hd with hd|hd
    ·rw [hd] at z2;cases z2
    ·cases hd;exact absurd z1 (by decide)
   ·have hd1:Br.isDigit c=true:=by
     cases z:Br.isDigit c with
     |true=>rfl
     |false=>exact absurd (.inl z) hd
    have hn0:n≠0:=fun z=>hd (.inr (by rw [z]))
    have hdr:48<=c.toNat/\c.toNat<=57:=by
     rw [fN] at hd1
     have:=iG hd1
     (clear hn0 hd hh hm hp h2 h1 hc hlo;omega)
    show (match (if Br.isDigit c=false\/(some n:Option Nat)=some 0 then (Option.none:Option Nat) else (if Br.leadsTo lo hi (10 * n+(c.toNat - 48))=true then some (10 * n+(c.toNat - 48)) else Option.none)) with
     |some n=>Br.digits lo hi f (some n) (At t (p+1))
     |Option.none=>(if lo<=n/\n<=hi then (.ok (n,At t p):Except Nat (Nat×(Nat×Br.Bytes))) else .error p))=_
    rw [if_neg hd,Vj hlo (Nat.le_trans h1 h2)]
    by_cases hl:lo<=10 * n+(c.toNat - 48)/\10 * n+(c.toNat - 48)<=hi
    ·rw [if_pos (decide_eq_true hl)]
     have hpow:n * 10 ^ (f+1)=(10 * n) * 10 ^ f:=by rw [Nat.pow_succ,Nat.mul_comm (10 ^ f) 10,<-Nat.mul_assoc,Nat.mul_comm n 10]
     have hc2:hi<n * 10 ^ (f+1):=by
      rcases hc with z|z
      ·exact absurd z hn0
      ·exact z
     have hf:1<=f:=by
      cases f with
      |zero=>rw [hpow,Nat.pow_zero,Nat.mul_one] at hc2;(clear hc2 hpow hdr hd hh hm hp h2 h1 hlo;omega)
      |succ f=>(clear hc2 hpow hc hl hdr hn0 hd hh hm hp h2 h1 hlo;omega)
     have hmul:(10 * n) * 10 ^ f<=(10 * n+(c.toNat - 48)) * 10 ^ f:=Nat.mul_le_mul_right _ (by (clear hf hc2 hpow hl hdr hn0 hd hh hm hp h2 h1 hc hlo;omega))
     show Br.digits lo hi f (some (10 * n+(c.toNat - 48))) (At t (p+1))=_
     rw [sJ hlo (m:=m) hf (.inr (by (clear hf hc2 hl hdr hd hh hm hp h2 h1 hlo;omega))) hl.1 hl.2 (by (clear hmul hf hc2 hpow hl hdr hn0 hd hh hp h2 h1 hc hlo;omega))]
     have e2:dC (aW t) hi (m+1) p (n:Int)=dC (aW t) hi m (p+1) ((10 * n+(c.toNat - 48):Nat):Int):=by
      rw [dC,if_pos]
      ·congr 1
       rw [hh]
       (clear hmul hf hc2 hpow hl hn0 hd hh hm hp h2 h1 hc hlo;omega)
      ·rw [hh]
       refine ⟨by (clear hmul hf hc2 hpow hl hdr hd hh hm hp h2 h1 hc hlo;omega),by rw [<-fN];exact hd1,by (clear hmul hf hc2 hpow hdr hn0 hd hh hm hp h2 h1 hc hlo;omega)⟩
     rw [e2]
    ·rw [if_neg (by rw [decide_eq_false hl];decide)]
     refine stop ?_
     rw [dC,if_neg]
     rw [hh]
     rintro ⟨_,_,z⟩
     exact hl ⟨by (clear z hl hdr hn0 hd hh hm hp h2 h1 hc;omega),by (clear hl hn0 hd hh hm hp h2 h1 hc hlo;omega)⟩
theorem Wp {t:Br.Bytes} {lo hi p:Nat} (hlo:lo<=1) (h1:lo<=hi) (hhi:hi<=100000):Br.num lo hi (At t p)=eY t id (iU (aW t) p lo hi):=by
 unfold Br.num
 rw [sG]
 unfold iU
 cases e:t[p]? with
 |none=>
  rw [if_neg]
  ·rfl
  ·rintro ⟨z,_⟩
   rw [fT e] at z
   revert z
   decide
 |some c=>
  have hh:=fV e
  show (match (if Br.isDigit c=false\/(Option.none:Option Nat)=some 0 then (Option.none:Option Nat) else (if Br.leadsTo lo hi (10 * 0+(c.toNat - 48))=true then some (10 * 0+(c.toNat - 48)) else Option.none)) with
   |some n=>Br.digits lo hi 19 (some n) (At t (p+1))
   |Option.none=>(.error p:Except Nat (Nat×(Nat×Br.Bytes))))=_
  by_cases hd:Br.isDigit c=true
  ·have hdr:48<=c.toNat/\c.toNat<=57:=by
    rw [fN] at hd
    have:=iG hd
    (clear hh hhi h1 hlo;omega)
   rw [if_neg (by rw [hd];simp),Vj hlo h1]
   by_cases hl:lo<=10 * 0+(c.toNat - 48)/\10 * 0+(c.toNat - 48)<=hi
   ·have hok:jG (aW t) p lo hi:=by
     unfold jG
     rw [hh]
     exact ⟨by rw [<-fN];exact hd,by (clear hh hhi h1 hlo;omega),by (clear hdr hh hhi h1 hlo;omega)⟩
    rw [if_pos (decide_eq_true hl),if_pos hok]
    have hp:p<t.length:=(List.getElem?_eq_some_iff.mp e).1
    have big:10 * 0+(c.toNat - 48)=0\/hi<(10 * 0+(c.toNat - 48)) * 10 ^ 19:=by (clear hp hl hdr hh h1 hlo;omega)
    show Br.digits lo hi 19 (some (10 * 0+(c.toNat - 48))) (At t (p+1))=_
    rw [sJ hlo (m:=(aW t).length - (p+1)) (by decide) big hl.1 hl.2 (by rw [eW];(clear big hp hl hdr hh hhi h1 hlo;omega))]
    have e2:((10 * 0+(c.toNat - 48):Nat):Int)=aR (aW t) p - 48:=by rw [hh];(clear big hp hl hh hhi h1 hlo;omega)
    rw [e2]
    rfl
   ·have hno:¬jG (aW t) p lo hi:=by
     unfold jG
     rw [hh]
     rintro ⟨_,z1,z2⟩
     exact hl ⟨by (clear z2 hl hdr hh hhi h1 hlo;omega),by (clear z1 hl hdr hh hhi h1 hlo;omega)⟩
    rw [if_neg (by rw [decide_eq_false hl];decide),if_neg hno]
    rfl
  ·have hd:Br.isDigit c=false:=by
    cases z:Br.isDigit c with
    |false=>rfl
    |true=>exact absurd z hd
   have hno:¬jG (aW t) p lo hi:=by
    unfold jG
    rw [hh,<-fN,hd]
    rintro ⟨z,_⟩
    cases z
   rw [if_pos (.inl hd),if_neg hno]
   rfl
theorem Cf {t:Br.Bytes}:∀ {n p:Nat},Br.while_ (fun (c:UInt8)=>Br.isLow c||Br.isDigit c) n (At t p)=.ok ((bH (aW t) p n).map qR,At t (p+(bH (aW t) p n).length))
 |0,p=>rfl
 |n+1,p=>by
  show (Br.peek>>=fun (o:Option UInt8)=>(match o with
   |some c=>(if (Br.isLow c||Br.isDigit c)=true then (do Br.skip;let r <-Br.while_ (fun (c:UInt8)=>Br.isLow c||Br.isDigit c) n;return c::r) else return []:Br.Rd Br.Bytes)
   |Option.none=>return [])) (At t p)=_
  rw [aZ,jA,bH]
  cases e:t[p]? with
  |none=>
   rw [if_neg (by rw [fT e];decide)]
   rfl
  |some c=>
   have hh:=fV e
   have ea:gM (aR (aW t) p)=(Br.isLow c||Br.isDigit c):=by rw [hh,wS,fN];rfl
   by_cases h:(Br.isLow c||Br.isDigit c)=true
   ·rw [if_pos (by rw [ea];exact h)]
    show (if (Br.isLow c||Br.isDigit c)=true then (do Br.skip;let r <-Br.while_ (fun (c:UInt8)=>Br.isLow c||Br.isDigit c) n;return c::r) else return []:Br.Rd Br.Bytes) (At t p)=_
    rw [if_pos h]
    show (Br.skip>>=fun _=>Br.while_ (fun (c:UInt8)=>Br.isLow c||Br.isDigit c) n>>=fun r=>pure (c::r)) (At t p)=_
    rw [aZ,oB]
    show (Br.while_ (fun (c:UInt8)=>Br.isLow c||Br.isDigit c) n>>=fun r=>pure (c::r)) (At t (p+1))=_
    rw [aZ,Cf]
    show Except.ok (c::(bH (aW t) (p+1) n).map qR,At t (p+1+(bH (aW t) (p+1) n).length))=_
    rw [List.map_cons,List.length_cons,hh,Qb]
    congr 3<;>(clear hh;omega)
   ·rw [if_neg (by rw [ea];exact h)]
    show (if (Br.isLow c||Br.isDigit c)=true then (do Br.skip;let r <-Br.while_ (fun (c:UInt8)=>Br.isLow c||Br.isDigit c) n;return c::r) else return []:Br.Rd Br.Bytes) (At t p)=_
    rw [if_neg h]
    rfl
theorem Hu {t:Br.Bytes} {p n:Nat}:(Br.peek>>=fun (o:Option UInt8)=>(match o with
   |some c=>(if Br.isLow c=true then (do Br.skip;let r <-Br.while_ (fun (c:UInt8)=>Br.isLow c||Br.isDigit c) n;return c::r) else Br.stray:Br.Rd Br.Bytes)
   |Option.none=>Br.stray)) (At t p)=eY t (List.map qR) (gD (aW t) p (n+1)):=by
 rw [aZ,jA]
 unfold gD
 cases e:t[p]? with
 |none=>
  rw [if_neg (by rw [fT e];decide)]
  rfl
 |some c=>
  have hh:=fV e
  by_cases h:Br.isLow c=true
  ·have hl:jK (aR (aW t) p)=true:=by rw [hh,<-wS];exact h
   have ha:gM (aR (aW t) p)=true:=by unfold gM;rw [hl];rfl
   rw [if_pos hl]
   show (if Br.isLow c=true then (do Br.skip;let r <-Br.while_ (fun (c:UInt8)=>Br.isLow c||Br.isDigit c) n;return c::r) else Br.stray:Br.Rd Br.Bytes) (At t p)=_
   rw [if_pos h]
   show (Br.skip>>=fun _=>Br.while_ (fun (c:UInt8)=>Br.isLow c||Br.isDigit c) n>>=fun r=>pure (c::r)) (At t p)=_
   rw [aZ,oB]
   show (Br.while_ (fun (c:UInt8)=>Br.isLow c||Br.isDigit c) n>>=fun r=>pure (c::r)) (At t (p+1))=_
   rw [aZ,Cf]
   have en:bH (aW t) p (n+1)=aR (aW t) p::bH (aW t) (p+1) n:=by rw [bH,if_pos ha]
   rw [en]
   show Except.ok (c::(bH (aW t) (p+1) n).map qR,At t (p+1+(bH (aW t) (p+1) n).length))=Except.ok ((aR (aW t) p::bH (aW t) (p+1) n).map qR,At t (p+(aR (aW t) p::bH (aW t) (p+1) n).length))
   rw [List.map_cons,List.length_cons,hh,Qb]
   congr 3<;>(clear hh;omega)
  ·rw [if_neg (by rw [hh,<-wS];exact h)]
   show (if Br.isLow c=true then (do Br.skip;let r <-Br.while_ (fun (c:UInt8)=>Br.isLow c||Br.isDigit c) n;return c::r) else Br.stray:Br.Rd Br.Bytes) (At t p)=_
   rw [if_neg h]
   rfl
theorem Va {t:Br.Bytes} {p:Nat}:Br.name_ (At t p)=eY t (List.map qR) (gD (aW t) p 8):=Hu
theorem Dv {t:Br.Bytes} {p:Nat}:Br.longName_ (At t p)=eY t (List.map qR) (gD (aW t) p 16):=Hu
def oF (i:Int):Br.Place:=if i=46 then .none else if i=35 then .cell false false else if i=115 then .cell true false else if i=116 then .cell false true else .cell true true
theorem Gh (c:UInt8):Br.placeOf c=if (c.toNat:Int)∈cK then some (oF (c.toNat:Int)) else Option.none:=by
 have key:∀ n:Fin 256,Br.placeOf (UInt8.ofNat n.1)=if ((UInt8.ofNat n.1).toNat:Int)∈cK then some (oF ((UInt8.ofNat n.1).toNat:Int)) else Option.none:=by decide+kernel
 have h:=key ⟨c.toNat,UInt8.toNat_lt c⟩
 have e:UInt8.ofNat c.toNat=c:=UInt8.ofNat_toNat
 simp only [e] at h
 exact h
theorem Ob {t:Br.Bytes} {p:Nat}:Br.place_ (At t p)=if aR (aW t) p∈cK then .ok (oF (aR (aW t) p),At t (p+1)) else .error p:=by
 show (Br.peek>>=fun (o:Option UInt8)=>(match o.bind Br.placeOf with
   |some q=>(do Br.skip;return q:Br.Rd Br.Place)
   |Option.none=>Br.stray)) (At t p)=_
 rw [aZ,jA]
 cases e:t[p]? with
 |none=>
  rw [fT e,if_neg (by decide)]
  rfl
 |some c=>
  rw [fV e]
  show (match Br.placeOf c with
   |some q=>(do Br.skip;return q:Br.Rd Br.Place)
   |Option.none=>Br.stray) (At t p)=_
  rw [Gh]
  by_cases h:(c.toNat:Int)∈cK
  ·rw [if_pos h,if_pos h]
   show (Br.skip>>=fun _=>pure (oF (c.toNat:Int))) (At t p)=_
   rw [aZ,oB]
   rfl
  ·rw [if_neg h,if_neg h]
   rfl
theorem wP {α:Type} {n:Nat} {r:Br.Rd α} {s:Nat×Br.Bytes}:Br.times (n+1) r s=eI (r s) fun x=>eI (Br.times n r x.2) fun y=>.ok (x.1::y.1,y.2):=by
 show (r>>=fun x=>Br.times n r>>=fun l=>pure (x::l)) s=_
 rw [aZ]
 cases r s with
 |error e=>rfl
 |ok x=>
  show (Br.times n r>>=fun l=>pure (x.1::l)) x.2=_
  rw [aZ]
  rfl
theorem Cl {t:Br.Bytes}:∀ {n p:Nat},Br.times n Br.place_ (At t p)=eY t (List.map oF) (bX (aW t) n p)
 |0,p=>rfl
 |n+1,p=>by
  rw [wP,Ob,bX]
  by_cases h:aR (aW t) p∈cK
  ·rw [if_pos h,if_pos h]
   show eI (Br.times n Br.place_ (At t (p+1))) (fun y=>Except.ok (oF (aR (aW t) p)::y.1,y.2))=_
   rw [Cl]
   cases bX (aW t) n (p+1) with
   |error e=>rfl
   |ok y=>rfl
  ·rw [if_neg h,if_neg h]
   rfl
theorem Yl {t:Br.Bytes} {w p:Nat}:Br.row_ w (At t p)=eY t (List.map oF) (fE (aW t) w p):=by
 show (Br.times w Br.place_>>=fun l=>Br.byte_ 10>>=fun _=>pure l) (At t p)=_
 rw [aZ,Cl]
 unfold fE
 cases bX (aW t) w p with
 |error e=>rfl
 |ok y=>
  show (Br.byte_ 10>>=fun _=>pure (y.1.map oF)) (At t y.2)=_
  rw [aZ,Az]
  have he:aR (aW t) y.2=10↔t[y.2]?=some 10:=pJ (c:=10)
  by_cases h:t[y.2]?=some 10
  ·rw [if_pos h]
   show _=eY t (List.map oF) (if aR (aW t) y.2=10 then _ else _)
   rw [if_pos (he.mpr h)]
   rfl
  ·rw [if_neg h]
   show _=eY t (List.map oF) (if aR (aW t) y.2=10 then _ else _)
   rw [if_neg (fun z=>h (he.mp z))]
   rfl
theorem Ic {t:Br.Bytes} {w:Nat}:∀ {n p:Nat},Br.times n (Br.row_ w) (At t p)=eY t (List.map (List.map oF)) (bO (aW t) w n p)
 |0,p=>rfl
 |n+1,p=>by
  rw [wP,Yl,bO]
  cases fE (aW t) w p with
  |error e=>rfl
  |ok y=>
   show eI (Br.times n (Br.row_ w) (At t y.2)) (fun z=>Except.ok (y.1.map oF::z.1,z.2))=_
   rw [Ic]
   show _=eY t (List.map (List.map oF)) (gE y.1 (bO (aW t) w n y.2))
   cases bO (aW t) w n y.2 with
   |error e=>rfl
   |ok z=>rfl
def cO (pr:aM):Br.Part:=⟨pr.name.map qR,pr.w,pr.d,pr.h,pr.g,(pr.rows.map (List.map oF)).flatten⟩
theorem wV {α β γ:Type} {t:Br.Bytes} {x:Br.Rd α} {s:Nat×Br.Bytes} {r:Except Nat (γ×Nat)} {g:γ->α} {k:α->Br.Rd β} {δ:Type} {f:γ×Nat->Except Nat (δ×Nat)} {u:δ->β} (h:x s=eY t g r) (hk:∀ c,r=.ok c->k (g c.1) (At t c.2)=eY t u (f c)):
  (x>>=k) s=eY t u (eI r f):=by
 rw [aZ,h]
 cases r with
 |error e=>rfl
 |ok c=>exact hk c rfl
theorem jS {β δ:Type} {t:Br.Bytes} {x:Br.Rd Unit} {s:Nat×Br.Bytes} {r:Except Nat Nat} {k:Unit->Br.Rd β} {f:Nat->Except Nat (δ×Nat)} {u:δ->β} (h:x s=Ir t r) (hk:∀ c,r=.ok c->k () (At t c)=eY t u (f c)):
  (x>>=k) s=eY t u (eI r f):=by
 rw [aZ,h]
 cases r with
 |error e=>rfl
 |ok c=>exact hk c rfl
theorem cY {β δ:Type} {t:Br.Bytes} {p lo hi:Nat} {k:Nat->Br.Rd β} {f:Nat×Nat->Except Nat (δ×Nat)} {u:δ->β} (hlo:lo<=1) (h1:lo<=hi) (hhi:hi<=100000) (hk:∀ c,k c.1 (At t c.2)=eY t u (f c)):
  (Br.numAfter lo hi>>=k) (At t p)=eY t u (eI (aU (aW t) p [32]) fun p1=>eI (iU (aW t) p1 lo hi) f):=by
 have e:(Br.numAfter lo hi>>=k) (At t p)=(Br.byte_ 32>>=fun _=>Br.num lo hi>>=k) (At t p):=by
  show ((Br.byte_ 32>>=fun _=>Br.num lo hi)>>=k) (At t p)=_
  rw [aZ,aZ,aZ]
  cases Br.byte_ 32 (At t p) with
  |error e=>rfl
  |ok r=>
   show eI (Br.num lo hi r.2) (fun r=>k r.1 r.2)=(Br.num lo hi>>=k) r.2
   rw [aZ]
 rw [e]
 refine jS (nY (c:=32)) fun p1 _=>?_
 exact wV (Wp hlo h1 hhi) fun c _=>hk c
theorem Fh:Br.ascii "part "=[112,97,114,116,32]:=by decide+kernel
theorem Hv {t:Br.Bytes} {p:Nat}:Br.part_ (At t p)=eY t cO (dP (aW t) p):=by
 show (Br.bytes_ (Br.ascii "part ")>>=fun _=>Br.name_>>=fun n=>Br.numAfter 1 16>>=fun w=>Br.numAfter 1 16>>=fun d=>Br.numAfter 1 18>>=fun h=>Br.numAfter 1 9999>>=fun g=>Br.byte_ 10>>=fun _=>Br.times (d * h) (Br.row_ w)>>=fun l=>pure (⟨n,w,d,h,g,l.flatten⟩:Br.Part)) (At t p)=_
 unfold dP
 rw [Fh]
 refine jS (pO (cs:=[112,97,114,116,32])) fun p1 _=>?_
 refine wV Va fun nm _=>?_
 refine cY (lo:=1) (hi:=16) (by decide) (by decide) (by decide) fun w=>?_
 refine cY (lo:=1) (hi:=16) (by decide) (by decide) (by decide) fun d=>?_
 refine cY (lo:=1) (hi:=18) (by decide) (by decide) (by decide) fun h=>?_
 refine cY (lo:=1) (hi:=9999) (by decide) (by decide) (by decide) fun g=>?_
 refine jS (nY (c:=10)) fun p11 _=>?_
 exact wV Ic fun rs _=>rfl
theorem Ie {l:List Int} {w:Nat}:∀ {n p:Nat} {r:List (List Int)×Nat},p<=l.length->bO l w n p=.ok r->r.2<=l.length
 |0,p,r,hp,h=>by cases h;exact hp
 |n+1,p,r,hp,h=>by
  rw [bO] at h
  cases e:fE l w p with
  |error i=>rw [e] at h;cases h
  |ok q=>
   rw [e] at h
   obtain ⟨q',e2,rfl⟩:=eX h
   show q'.2<=l.length
   refine Ie (r:=q') ?_ e2
   unfold fE at e
   split at e
   ·split at e
    ·rename_i h10
     cases e
     have:=gA (l:=l) (p:=_) (by rw [h10];decide)
     show _+1<=_
     (clear h10 hp;omega)
    ·cases e
   ·cases e
theorem Hs {l:List Int} {p:Nat} {q:aM×Nat} (h:dP l p=.ok q):q.2<=l.length:=by
 unfold dP at h
 obtain ⟨p1,_,h⟩:=aJ h
 obtain ⟨nm,_,h⟩:=aJ h
 obtain ⟨_,_,h⟩:=aJ h
 obtain ⟨_,_,h⟩:=aJ h
 obtain ⟨_,_,h⟩:=aJ h
 obtain ⟨_,_,h⟩:=aJ h
 obtain ⟨_,_,h⟩:=aJ h
 obtain ⟨_,_,h⟩:=aJ h
 obtain ⟨_,_,h⟩:=aJ h
 obtain ⟨g,_,h⟩:=aJ h
 obtain ⟨p11,e11,h⟩:=aJ h
 obtain ⟨rs,e12,h⟩:=aJ h
 cases h
 refine Ie ?_ e12
 rw [aU] at e11
 split at e11
 ·rename_i h10
  have:=gA (l:=l) (p:=g.2) (by rw [h10];decide)
  cases e11
  (clear h10;omega)
 ·cases e11
theorem vA {α:Type} {r:Br.Rd α} {t:Br.Bytes} {p:Nat}:Br.toEnd r 0 (At t p)=if (t[p]?).isSome=true then .error p else .ok ([],At t p):=by
 show (Br.peek>>=fun o=>if o.isSome=true then Br.stray else pure []) (At t p)=_
 rw [aZ,jA]
 show (if (t[p]?).isSome=true then (Br.stray:Br.Rd (List α)) else pure []) (At t p)=_
 by_cases h:(t[p]?).isSome=true
 ·rw [if_pos h,if_pos h];rfl
 ·rw [if_neg h,if_neg h];rfl
theorem vJ {α:Type} {r:Br.Rd α} {t:Br.Bytes} {p n:Nat}:Br.toEnd r (n+1) (At t p)=if (t[p]?).isSome=true then (eI (r (At t p)) fun x=>eI (Br.toEnd r n x.2) fun y=>.ok (x.1::y.1,y.2)) else .ok ([],At t p):=by
 show (Br.peek>>=fun o=>if o.isSome=true then (r>>=fun x=>Br.toEnd r n>>=fun l=>pure (x::l)) else pure []) (At t p)=_
 rw [aZ,jA]
 show (if (t[p]?).isSome=true then (r>>=fun x=>Br.toEnd r n>>=fun l=>pure (x::l)) else pure []:Br.Rd (List α)) (At t p)=_
 by_cases h:(t[p]?).isSome=true
 ·rw [if_pos h,if_pos h,aZ]
  cases r (At t p) with
  |error e=>rfl
  |ok x=>
   show (Br.toEnd r n>>=fun l=>pure (x.1::l)) x.2=_
   rw [aZ]
   rfl
 ·rw [if_neg h,if_neg h];rfl
def Vb {α β:Type} (t:Br.Bytes) (f:α->β):Except Nat (α×Nat)->Except Nat (β×(Nat×Br.Bytes))
 |.error e=>.error e
 |.ok r=>if r.2=t.length then .ok (f r.1,At t r.2) else .error r.2
theorem iV {t:Br.Bytes} {p:Nat}:(t[p]?).isSome=true↔p<t.length:=by
 by_cases h:p<t.length
 ·rw [List.getElem?_eq_getElem h];simp [h]
 ·rw [List.getElem?_eq_none (by omega)];simp [h]
theorem Bx {t:Br.Bytes}:∀ {n p:Nat},p<=t.length->Br.toEnd Br.part_ n (At t p)=Vb t (List.map cO) (cQ (aW t) n p)
 |0,p,hp=>by
  rw [vA]
  show _=if p=t.length then Except.ok (([]:List aM).map cO,At t p) else .error p
  by_cases h:p=t.length
  ·rw [if_pos h,if_neg (by rw [iV];(clear hp;omega))]
   rfl
  ·rw [if_neg h,if_pos (by rw [iV];omega)]
 |n+1,p,hp=>by
  rw [vJ,cQ]
  by_cases h:p=t.length
  ·rw [if_neg (by rw [iV];(clear hp;omega)),if_pos (by rw [eW];exact h)]
   show _=if p=t.length then Except.ok (([]:List aM).map cO,At t p) else .error p
   rw [if_pos h]
   rfl
  ·rw [if_pos (by rw [iV];omega),if_neg (by rw [eW];exact h),Hv]
   cases e:dP (aW t) p with
   |error i=>rfl
   |ok q=>
    have hq:=Hs e
    rw [eW] at hq
    show eI (Br.toEnd Br.part_ n (At t q.2)) (fun y=>Except.ok (cO q.1::y.1,y.2))=Vb t (List.map cO) (gE q.1 (cQ (aW t) n q.2))
    rw [Bx hq]
    cases cQ (aW t) n q.2 with
    |error i=>rfl
    |ok r=>
     show eI (if r.2=t.length then (Except.ok (r.1.map cO,At t r.2):Except Nat _) else .error r.2) (fun y=>Except.ok (cO q.1::y.1,y.2))=if r.2=t.length then Except.ok ((q.1::r.1).map cO,At t r.2) else .error r.2
     by_cases hr:r.2=t.length
     ·rw [if_pos hr,if_pos hr];rfl
     ·rw [if_neg hr,if_neg hr];rfl
theorem Rj (t:Br.Bytes):Br.readC t=eI (gY (aW t)) fun prs=>.ok (prs.map cO):=by
 show (((Br.part_>>=fun p=>Br.toEnd Br.part_ 63>>=fun l=>pure (p::l)) (At t 0)).map fun (x:Br.Catalogue×(Nat×Br.Bytes))=>x.1)=_
 rw [aZ,Hv]
 unfold gY
 cases e:dP (aW t) 0 with
 |error i=>rfl
 |ok q=>
  have hq:=Hs e
  rw [eW] at hq
  show (((Br.toEnd Br.part_ 63>>=fun l=>pure (cO q.1::l)) (At t q.2)).map fun (x:Br.Catalogue×(Nat×Br.Bytes))=>x.1)=_
  rw [aZ,Bx hq,bZ]
  cases cQ (aW t) 63 q.2 with
  |error i=>rfl
  |ok r=>
   show ((eI (if r.2=t.length then (Except.ok (r.1.map cO,At t r.2):Except Nat _) else .error r.2) fun y=>Except.ok (cO q.1::y.1,y.2)).map fun (x:Br.Catalogue×(Nat×Br.Bytes))=>x.1)=eI (if r.2=(aW t).length then Except.ok (q.1::r.1) else .error r.2) fun prs=>.ok (prs.map cO)
   rw [eW]
   by_cases hr:r.2=t.length
   ·rw [if_pos hr,if_pos hr];rfl
   ·rw [if_neg hr,if_neg hr];rfl
theorem Jf {a b:Br.Bytes} (h:aW a=aW b):a=b:=by
 unfold aW at h
 refine List.map_inj_right (fun x y e=>?_)|>.mp h
 have:x.toNat=y.toNat:=by omega
 exact UInt8.toNat_inj.mp this
theorem Cb (a:Br.Bytes) (c:UInt8):aW (a++[c])=aW a++[(c.toNat:Int)]:=by
 unfold aW
 rw [List.map_append]
 rfl
theorem Lb (a n:Br.Bytes):a.isPrefixOf n=decide ((aW n).take (aW a).length=aW a):=by
 rw [Bool.eq_iff_iff,List.isPrefixOf_iff_prefix,List.prefix_iff_eq_take,decide_eq_true_iff,eW]
 have e:(aW n).take a.length=aW (n.take a.length):=by unfold aW;rw [List.map_take]
 rw [e]
 constructor
 ·intro h
  rw [<-h]
 ·intro h
  exact (Jf h).symm
theorem xX (names:List Br.Bytes) (a:Br.Bytes):(names.any fun n=>a.isPrefixOf n)=hX (names.map aW) (aW a):=by
 unfold hX
 rw [List.any_map]
 congr 1
 funext n
 exact Lb a n
theorem zN (a:Br.Bytes):∀ names:List Br.Bytes,(names.findIdx? fun n=>n==a)=if aW a∈names.map aW then some (qD (names.map aW) (aW a)) else none
 |[]=>by simp
 |n::r=>by
  have ih:=zN a r
  have hx:qD ((n::r).map aW) (aW a)=if aW n=aW a then 0 else qD (r.map aW) (aW a)+1:=by
   unfold qD
   rw [List.map_cons,List.findIdx_cons]
   by_cases h:aW n=aW a
   ·rw [decide_eq_true h,if_pos h];rfl
   ·rw [decide_eq_false h,if_neg h];rfl
  rw [List.findIdx?_cons,ih,hx]
  by_cases h:n=a
  ·subst h
   simp
  ·have h2:¬aW n=aW a:=fun z=>h (Jf z)
   have h3:¬aW a=aW n:=fun z=>h2 z.symm
   have hb:(n==a)=false:=beq_eq_false_iff_ne.mpr h
   rw [hb,if_neg Bool.false_ne_true,if_neg h2]
   by_cases h4:aW a∈r.map aW
   ·rw [if_pos h4,if_pos (by rw [List.map_cons];exact List.mem_cons_of_mem _ h4)]
    rfl
   ·rw [if_neg h4,if_neg (by rw [List.map_cons,List.mem_cons];rintro (z|z);exact h3 z;exact h4 z)]
    rfl
theorem Nl {t:Br.Bytes} {names:List Br.Bytes}:∀ {f p:Nat} {acc:Br.Bytes},
  (((cM (names.map aW) (aW t) f p (aW acc)).1∈names.map aW->Br.known names f acc (At t p)=.ok (qD (names.map aW) (cM (names.map aW) (aW t) f p (aW acc)).1,At t (cM (names.map aW) (aW t) f p (aW acc)).2)\/
   (Br.known names f acc (At t p)=.error (cM (names.map aW) (aW t) f p (aW acc)).2/\t[(cM (names.map aW) (aW t) f p (aW acc)).2]?=none))/\
  ((cM (names.map aW) (aW t) f p (aW acc)).1∉names.map aW->Br.known names f acc (At t p)=.error (cM (names.map aW) (aW t) f p (aW acc)).2)):=by
 intro f
 induction f with
 |zero=>
  intro p acc
  have e:Br.known names 0 acc (At t p)=if aW acc∈names.map aW then .ok (qD (names.map aW) (aW acc),At t p) else .error p:=by
   show (match names.findIdx? fun (n:Br.Bytes)=>n==acc with
    |some i=>(pure i:Br.Rd Nat)
    |Option.none=>Br.stray) (At t p)=_
   rw [zN]
   by_cases h:aW acc∈names.map aW
   ·rw [if_pos h,if_pos h];rfl
   ·rw [if_neg h,if_neg h];rfl
  refine ⟨fun h=>.inl ?_,fun h=>?_⟩
  ·rw [e];exact if_pos h
  ·rw [e];exact if_neg h
 |succ f ih=>
  intro p acc
  have e:Br.known names (f+1) acc (At t p)=(match t[p]? with
    |some c=>(if (names.any fun (n:Br.Bytes)=>(acc++[c]).isPrefixOf n)=true then Br.known names f (acc++[c]) (At t (p+1)) else (if aW acc∈names.map aW then .ok (qD (names.map aW) (aW acc),At t p) else .error p))
    |Option.none=>.error p):=by
   show (Br.peek>>=fun (o:Option UInt8)=>(match o with
    |some c=>(if (names.any fun (n:Br.Bytes)=>(acc++[c]).isPrefixOf n)=true then (Br.skip>>=fun _=>Br.known names f (acc++[c])) else (match names.findIdx? fun (n:Br.Bytes)=>n==acc with
     |some i=>(pure i:Br.Rd Nat)
     |Option.none=>Br.stray))
    |Option.none=>Br.stray)) (At t p)=_
   rw [aZ,jA,bZ]
   cases e:t[p]? with
   |none=>rfl
   |some c=>
    show (if (names.any fun (n:Br.Bytes)=>(acc++[c]).isPrefixOf n)=true then (Br.skip>>=fun _=>Br.known names f (acc++[c])) else (match names.findIdx? fun (n:Br.Bytes)=>n==acc with
     |some i=>(pure i:Br.Rd Nat)
     |Option.none=>Br.stray)) (At t p)=if (names.any fun (n:Br.Bytes)=>(acc++[c]).isPrefixOf n)=true then Br.known names f (acc++[c]) (At t (p+1)) else (if aW acc∈names.map aW then .ok (qD (names.map aW) (aW acc),At t p) else .error p)
    by_cases h:(names.any fun (n:Br.Bytes)=>(acc++[c]).isPrefixOf n)=true
    ·rw [if_pos h,if_pos h,aZ,oB]
     rfl
    ·rw [if_neg h,if_neg h,zN]
     by_cases h2:aW acc∈names.map aW
     ·rw [if_pos h2,if_pos h2];rfl
     ·rw [if_neg h2,if_neg h2];rfl
  cases ep:t[p]? with
  |none=>
   rw [ep] at e
   have hb:¬hX (names.map aW) (aW acc++[aR (aW t) p])=true:=by
    rw [fT ep]
    unfold hX
    intro z
    obtain ⟨m,hm,z⟩:=List.any_eq_true.mp z
    obtain ⟨n,_,rfl⟩:=List.mem_map.mp hm
    have z:=of_decide_eq_true z
    have:(256:Int)∈aW n:=by
     have:(256:Int)∈(aW n).take (aW acc++[256]).length:=by rw [z];simp
     exact List.mem_of_mem_take this
    unfold aW at this
    obtain ⟨c,_,hc⟩:=List.mem_map.mp this
    have:=UInt8.toNat_lt c
    omega
   have er:cM (names.map aW) (aW t) (f+1) p (aW acc)=(aW acc,p):=by rw [cM,if_neg hb]
   rw [er]
   exact ⟨fun _=>.inr ⟨e,ep⟩,fun _=>e⟩
  |some c=>
   rw [ep] at e
   have hh:=fV ep
   by_cases h:(names.any fun (n:Br.Bytes)=>(acc++[c]).isPrefixOf n)=true
   ·have e:Br.known names (f+1) acc (At t p)=Br.known names f (acc++[c]) (At t (p+1)):=e.trans (if_pos h)
    have er:cM (names.map aW) (aW t) (f+1) p (aW acc)=cM (names.map aW) (aW t) f (p+1) (aW (acc++[c])):=by
     rw [cM,hh,<-Cb,if_pos (by rw [<-xX];exact h)]
    rw [e,er]
    exact ih
   ·have e:Br.known names (f+1) acc (At t p)=if aW acc∈names.map aW then .ok (qD (names.map aW) (aW acc),At t p) else .error p:=e.trans (if_neg h)
    have er:cM (names.map aW) (aW t) (f+1) p (aW acc)=(aW acc,p):=by
     rw [cM,hh,<-Cb,if_neg (by rw [<-xX];exact h)]
    rw [er]
    refine ⟨fun h2=>.inl ?_,fun h2=>?_⟩
    ·rw [e];exact if_pos h2
    ·rw [e];exact if_neg h2
def gS (x:List Nat):Br.Line:=⟨x.getD 0 0,x.getD 1 0,x.getD 2 0,x.getD 3 0,x.getD 4 0,x.getD 5 0⟩
theorem jT {α:Type} {l:List Int} {m:Nat} {ms:List Nat} {p:Nat} {F:List Nat×Nat->Except Nat α}:eI (cW l (m::ms) p) F=eI (aU l p [32]) fun p1=>eI (iU l p1 0 m) fun v=>eI (cW l ms v.2) fun r=>F (v.1::r.1,r.2):=by
 rw [cW]
 cases aU l p [32] with
 |error i=>rfl
 |ok p1=>
  show eI (eI (iU l p1 0 m) fun v=>gE v.1 (cW l ms v.2)) F=eI (iU l p1 0 m) _
  cases iU l p1 0 m with
  |error i=>rfl
  |ok v=>
   show eI (gE v.1 (cW l ms v.2)) F=eI (cW l ms v.2) _
   cases cW l ms v.2 with
   |error i=>rfl
   |ok r=>rfl
theorem Mp:Br.ascii "put "=[112,117,116,32]:=by decide+kernel
theorem Ek:Br.ascii "build "=[98,117,105,108,100,32]:=by decide+kernel
theorem Uk {t:Br.Bytes} {c:Br.Catalogue} {p:Nat}:Br.line_ c (At t p)=eY t gS (dY ((c.map fun (p:Br.Part)=>p.name).map aW) (aW t) p):=by
 show (Br.bytes_ (Br.ascii "put ")>>=fun _=>Br.known (c.map fun (p:Br.Part)=>p.name) 8 []>>=fun q=>Br.numAfter 0 255>>=fun k=>Br.numAfter 0 63>>=fun x=>Br.numAfter 0 63>>=fun y=>Br.numAfter 0 95>>=fun z=>Br.numAfter 0 3>>=fun r=>Br.byte_ 10>>=fun _=>pure (⟨q,k,x,y,z,r⟩:Br.Line)) (At t p)=_
 unfold dY
 rw [Mp]
 refine jS (pO (cs:=[112,117,116,32])) fun p1 _=>?_
 generalize (c.map fun (p:Br.Part)=>p.name)=names
 have rest:∀ (i p2:Nat),(Br.numAfter 0 255>>=fun k=>Br.numAfter 0 63>>=fun x=>Br.numAfter 0 63>>=fun y=>Br.numAfter 0 95>>=fun z=>Br.numAfter 0 3>>=fun r=>Br.byte_ 10>>=fun _=>pure (⟨i,k,x,y,z,r⟩:Br.Line)) (At t p2)=
   eY t gS (eI (cW (aW t) fH p2) fun r=>eI (aU (aW t) r.2 [10]) fun p5=>.ok (i::r.1,p5)):=by
  intro i p2
  unfold fH
  rw [jT]
  refine cY (lo:=0) (hi:=255) (by decide) (by decide) (by decide) fun k=>?_
  rw [jT]
  refine cY (lo:=0) (hi:=63) (by decide) (by decide) (by decide) fun x=>?_
  rw [jT]
  refine cY (lo:=0) (hi:=63) (by decide) (by decide) (by decide) fun y=>?_
  rw [jT]
  refine cY (lo:=0) (hi:=95) (by decide) (by decide) (by decide) fun z=>?_
  rw [jT]
  refine cY (lo:=0) (hi:=3) (by decide) (by decide) (by decide) fun r=>?_
  show _=eY t gS (eI (aU (aW t) r.2 [10]) _)
  exact jS (nY (c:=10)) fun p5 _=>rfl
 obtain ⟨k1,k2⟩:=Nl (t:=t) (names:=names) (f:=8) (p:=p1) (acc:=[])
 have e0:aW []=[]:=rfl
 rw [e0] at k1 k2
 unfold sA
 by_cases h:(cM (names.map aW) (aW t) 8 p1 []).1∈names.map aW
 ·rw [if_pos h,bZ]
  rcases k1 h with e|⟨e,en⟩
  ·rw [aZ,e,bZ]
   exact rest _ _
  ·rw [aZ,e,Al]
   have ew:aU (aW t) (cM (names.map aW) (aW t) 8 p1 []).2 [32]=.error (cM (names.map aW) (aW t) 8 p1 []).2:=by
    rw [aU,fT en]
    rfl
   unfold fH
   rw [jT]
   show _=eY t gS (eI (aU (aW t) (cM (names.map aW) (aW t) 8 p1 []).2 [32]) _)
   rw [ew]
   rfl
 ·rw [if_neg h,Al,aZ,k2 h,Al]
  rfl
theorem Sa {nss:List (List Int)} {l:List Int} {p:Nat} {q:List Nat×Nat} (h:dY nss l p=.ok q):q.2<=l.length:=by
 unfold dY at h
 obtain ⟨p1,_,h⟩:=aJ h
 obtain ⟨_,_,h⟩:=aJ h
 obtain ⟨r,_,h⟩:=aJ h
 obtain ⟨p5,e5,h⟩:=aJ h
 cases h
 show p5<=l.length
 rw [aU] at e5
 split at e5
 ·rename_i h10
  have:=gA (l:=l) (p:=r.2) (by rw [h10];decide)
  cases e5
  (clear h10;omega)
 ·cases e5
theorem Ei {t:Br.Bytes} {c:Br.Catalogue}:∀ {n p:Nat},p<=t.length->Br.toEnd (Br.line_ c) n (At t p)=Vb t (List.map gS) (cC ((c.map fun (p:Br.Part)=>p.name).map aW) (aW t) n p)
 |0,p,hp=>by
  rw [vA]
  show _=if p=t.length then Except.ok (([]:List (List Nat)).map gS,At t p) else .error p
  by_cases h:p=t.length
  ·rw [if_pos h,if_neg (by rw [iV];(clear hp;omega))]
   rfl
  ·rw [if_neg h,if_pos (by rw [iV];omega)]
 |n+1,p,hp=>by
  rw [vJ,cC]
  by_cases h:p=t.length
  ·rw [if_neg (by rw [iV];(clear hp;omega)),if_pos (by rw [eW];exact h)]
   show _=if p=t.length then Except.ok (([]:List (List Nat)).map gS,At t p) else .error p
   rw [if_pos h]
   rfl
  ·rw [if_pos (by rw [iV];omega),if_neg (by rw [eW];exact h),Uk]
   cases e:dY ((c.map fun (p:Br.Part)=>p.name).map aW) (aW t) p with
   |error i=>rfl
   |ok q=>
    have hq:=Sa e
    rw [eW] at hq
    show eI (Br.toEnd (Br.line_ c) n (At t q.2)) (fun y=>Except.ok (gS q.1::y.1,y.2))=Vb t (List.map gS) (gE q.1 (cC _ (aW t) n q.2))
    rw [Ei hq]
    cases cC ((c.map fun (p:Br.Part)=>p.name).map aW) (aW t) n q.2 with
    |error i=>rfl
    |ok r=>
     show eI (if r.2=t.length then (Except.ok (r.1.map gS,At t r.2):Except Nat _) else .error r.2) (fun y=>Except.ok (gS q.1::y.1,y.2))=if r.2=t.length then Except.ok ((q.1::r.1).map gS,At t r.2) else .error r.2
     by_cases hr:r.2=t.length
     ·rw [if_pos hr,if_pos hr];rfl
     ·rw [if_neg hr,if_neg hr];rfl
theorem Kk {l:List Int} {p q:Nat} (e:aU l p [10]=.ok q):q<=l.length:=by
 rw [aU] at e
 split at e
 ·rename_i h10
  have:=gA (l:=l) (p:=p) (by rw [h10];decide)
  cases e
  (clear h10;omega)
 ·cases e
theorem Qr (t:Br.Bytes) (c:Br.Catalogue):Br.readB c t=eI (dF ((c.map fun (p:Br.Part)=>p.name).map aW) (aW t)) fun b=>.ok (⟨b.1.map qR,b.2.map gS⟩:Br.Build):=by
 show (((Br.bytes_ (Br.ascii "build ")>>=fun _=>Br.longName_>>=fun n=>Br.byte_ 10>>=fun _=>Br.toEnd (Br.line_ c) 256>>=fun l=>pure (⟨n,l⟩:Br.Build)) (At t 0)).map fun (x:Br.Build×(Nat×Br.Bytes))=>x.1)=_
 unfold dF
 rw [Ek,aZ,pO (cs:=[98,117,105,108,100,32])]
 show _=eI (eI (aU (aW t) 0 (([98,117,105,108,100,32]:Br.Bytes).map UInt8.toNat)) _) _
 cases aU (aW t) 0 (([98,117,105,108,100,32]:Br.Bytes).map UInt8.toNat) with
 |error i=>rfl
 |ok p1=>
  show (((Br.longName_>>=fun n=>Br.byte_ 10>>=fun _=>Br.toEnd (Br.line_ c) 256>>=fun l=>pure (⟨n,l⟩:Br.Build)) (At t p1)).map fun (x:Br.Build×(Nat×Br.Bytes))=>x.1)=eI (eI (gD (aW t) p1 16) _) _
  rw [aZ,Dv]
  cases gD (aW t) p1 16 with
  |error i=>rfl
  |ok nm=>
   show (((Br.byte_ 10>>=fun _=>Br.toEnd (Br.line_ c) 256>>=fun l=>pure (⟨nm.1.map qR,l⟩:Br.Build)) (At t nm.2)).map fun (x:Br.Build×(Nat×Br.Bytes))=>x.1)=eI (eI (aU (aW t) nm.2 [10]) _) _
   rw [aZ,nY (c:=10)]
   show ((eI (Ir t (aU (aW t) nm.2 [10])) _).map _)=_
   cases e3:aU (aW t) nm.2 [10] with
   |error i=>rfl
   |ok p3=>
    have hp3:=Kk e3
    rw [eW] at hp3
    show (((Br.toEnd (Br.line_ c) 256>>=fun l=>pure (⟨nm.1.map qR,l⟩:Br.Build)) (At t p3)).map fun (x:Br.Build×(Nat×Br.Bytes))=>x.1)=eI (eI (cC ((c.map fun (p:Br.Part)=>p.name).map aW) (aW t) 256 p3) fun r=>if r.2=(aW t).length then .ok (nm.1,r.1) else .error r.2) fun b=>.ok (⟨b.1.map qR,b.2.map gS⟩:Br.Build)
    rw [aZ,Ei hp3]
    cases cC ((c.map fun (p:Br.Part)=>p.name).map aW) (aW t) 256 p3 with
    |error i=>rfl
    |ok r=>
     show ((eI (if r.2=t.length then (Except.ok (r.1.map gS,At t r.2):Except Nat _) else .error r.2) fun y=>Except.ok ((⟨nm.1.map qR,y.1⟩:Br.Build),y.2)).map fun (x:Br.Build×(Nat×Br.Bytes))=>x.1)=eI (if r.2=(aW t).length then .ok (nm.1,r.1) else .error r.2) fun b=>.ok (⟨b.1.map qR,b.2.map gS⟩:Br.Build)
     rw [eW]
     by_cases hr:r.2=t.length
     ·rw [if_pos hr,if_pos hr];rfl
     ·rw [if_neg hr,if_neg hr];rfl
theorem wA {l:List Int} {hi:Int}:∀ {n p:Nat} {v:Int},v<=hi->(dC l hi n p v).1<=hi
 |0,p,v,h=>h
 |n+1,p,v,h=>by
  rw [dC]
  split
  ·rename_i q
   exact wA q.2.2
  ·exact h
theorem wY {l:List Int} {hi:Int}:∀ {n p:Nat} {v:Int},0<=v->v<=(dC l hi n p v).1
 |0,p,v,h=>Int.le_refl _
 |n+1,p,v,h=>by
  rw [dC]
  split
  ·rename_i q
   have:=iG q.2.1
   have:=wY (l:=l) (hi:=hi) (n:=n) (p:=p+1) (v:=v * 10+aR l p - 48) (by (clear q;omega))
   (clear q;omega)
  ·exact Int.le_refl _
theorem kI {l:List Int} {p lo hi:Nat} {v:Nat×Nat} (h:iU l p lo hi=.ok v):lo<=v.1/\v.1<=hi:=by
 unfold iU at h
 split at h
 ·rename_i ok
  cases h
  obtain ⟨h1,h2,h3⟩:=ok
  have a:=wA (l:=l) (hi:=hi) (n:=l.length - (p+1)) (p:=p+1) h3
  have b:=wY (l:=l) (hi:=hi) (n:=l.length - (p+1)) (p:=p+1) (v:=aR l p - 48) (by (clear a h3;omega))
  show lo<=(eF l p hi).1.toNat/\(eF l p hi).1.toNat<=hi
  unfold eF
  (clear h3;omega)
 ·cases h
theorem Bt {l:List Int}:∀ {n p:Nat} {r:List Int×Nat},bX l n p=.ok r->∀ s∈r.1,s∈cK
 |0,p,r,h=>by cases h;intro s hs;cases hs
 |n+1,p,r,h=>by
  rw [bX] at h
  split at h
  ·rename_i hin
   obtain ⟨q,e,rfl⟩:=eX h
   intro s hs
   rcases List.mem_cons.mp hs with rfl|hs
   ·exact hin
   ·exact Bt e s hs
  ·cases h
theorem Ut {l:List Int} {w p:Nat} {r:List Int×Nat} (h:fE l w p=.ok r):r.1.length=w/\∀ s∈r.1,s∈cK:=by
 unfold fE at h
 split at h
 ·rename_i q e
  split at h
  ·cases h
   exact ⟨yH (r:=q) e,fun s hs=>Bt (r:=q) e s hs⟩
  ·cases h
 ·cases h
theorem Dh {l:List Int} {w:Nat}:∀ {n p:Nat} {r:List (List Int)×Nat},bO l w n p=.ok r->r.1.length=n/\∀ x∈r.1,x.length=w/\∀ s∈x,s∈cK
 |0,p,r,h=>by cases h;exact ⟨rfl,fun x hx=>by cases hx⟩
 |n+1,p,r,h=>by
  rw [bO] at h
  cases e:fE l w p with
  |error i=>rw [e] at h;cases h
  |ok q=>
   rw [e] at h
   obtain ⟨q',e2,rfl⟩:=eX h
   obtain ⟨h1,h2⟩:=Dh e2
   refine ⟨by rw [List.length_cons,h1],fun x hx=>?_⟩
   rcases List.mem_cons.mp hx with rfl|hx
   ·exact Ut e
   ·exact h2 x hx
theorem oX {l:List Int}:∀ {n p:Nat} {x:Int},x∈bH l p n->gM x=true
 |0,p,x,h=>by simp [bH] at h
 |n+1,p,x,h=>by
  rw [bH] at h
  split at h
  ·rename_i ha
   rcases List.mem_cons.mp h with rfl|h
   ·exact ha
   ·exact oX h
  ·cases h
structure dU (pr:aM):Prop where
 w1:1<=pr.w
 w2:pr.w<=16
 d1:1<=pr.d
 d2:pr.d<=16
 h1:1<=pr.h
 h2:pr.h<=18
 rl:pr.rows.length=pr.d * pr.h
 rw:∀ x∈pr.rows,x.length=pr.w
 sg:∀ x∈pr.rows,∀ s∈x,s∈cK
 nm:∀ x∈pr.name,gM x=true
theorem Jl {l:List Int} {p:Nat} {q:aM×Nat} (h:dP l p=.ok q):dU q.1:=by
 unfold dP at h
 obtain ⟨p1,_,h⟩:=aJ h
 obtain ⟨nm,en,h⟩:=aJ h
 obtain ⟨_,_,h⟩:=aJ h
 obtain ⟨w,ew,h⟩:=aJ h
 obtain ⟨_,_,h⟩:=aJ h
 obtain ⟨d,ed,h⟩:=aJ h
 obtain ⟨_,_,h⟩:=aJ h
 obtain ⟨hh,eh,h⟩:=aJ h
 obtain ⟨_,_,h⟩:=aJ h
 obtain ⟨g,_,h⟩:=aJ h
 obtain ⟨_,_,h⟩:=aJ h
 obtain ⟨rs,er,h⟩:=aJ h
 cases h
 obtain ⟨a1,a2⟩:=kI (lo:=1) (hi:=16) ew
 obtain ⟨b1,b2⟩:=kI (lo:=1) (hi:=16) ed
 obtain ⟨c1,c2⟩:=kI (lo:=1) (hi:=18) eh
 obtain ⟨r1,r2⟩:=Dh er
 refine ⟨a1,a2,b1,b2,c1,c2,r1,fun x hx=>(r2 x hx).1,fun x hx=>(r2 x hx).2,?_⟩
 unfold gD at en
 split at en
 ·cases en
  exact fun x hx=>oX hx
 ·cases en
theorem Ca {l:List Int}:∀ {n p:Nat} {q:List aM×Nat},cQ l n p=.ok q->∀ pr∈q.1,dU pr
 |0,p,q,h=>by cases h;intro pr hp;cases hp
 |n+1,p,q,h=>by
  rw [cQ] at h
  split at h
  ·cases h;intro pr hp;cases hp
  ·obtain ⟨q1,e1,h⟩:=aJ h
   obtain ⟨q2,e2,rfl⟩:=eX h
   intro pr hp
   rcases List.mem_cons.mp hp with rfl|hp
   ·exact Jl e1
   ·exact Ca e2 pr hp
theorem Oo {l:List Int} {prs:List aM} (h:gY l=.ok prs):∀ pr∈prs,dU pr:=by
 unfold gY at h
 obtain ⟨q,e1,h⟩:=aJ h
 obtain ⟨r,e2,h⟩:=aJ h
 split at h
 ·cases h
  intro pr hp
  rcases List.mem_cons.mp hp with rfl|hp
  ·exact Jl e1
  ·exact Ca e2 pr hp
 ·cases h
theorem Rq:∀ l:List Int,(∀ x∈l,gM x=true)->aW (l.map qR)=l:=by
 intro l
 induction l with
 |nil=>intro _;rfl
 |cons x r ih=>
  intro hx
  have h1:=hx x List.mem_cons_self
  have h2:0<=x/\x<256:=by
   unfold gM jK iX at h1
   rw [Bool.or_eq_true,Bool.and_eq_true,Bool.and_eq_true,decide_eq_true_iff,decide_eq_true_iff,decide_eq_true_iff,decide_eq_true_iff] at h1
   omega
  have h3:((qR x).toNat:Int)=x:=by
   unfold qR
   rw [UInt8.toNat_ofNat']
   omega
  show ((qR x).toNat:Int)::aW (r.map qR)=x::r
  rw [h3,ih fun y hy=>hx y (List.mem_cons_of_mem _ hy)]
theorem nV {pr:aM} (h:dU pr):aW (pr.name.map qR)=pr.name:=Rq _ h.nm
theorem yJ:∀ a b:Br.Bytes,Br.before a b= !HT.gC (aW b) (aW a)
 |[],[]=>rfl
 |[],_::_=>rfl
 |_::_,[]=>rfl
 |x::a,y::b=>by
  have ih:=yJ a b
  show (decide (x.toNat<y.toNat)||(x==y && Br.before a b))= !(if (y.toNat:Int)=(x.toNat:Int) then HT.gC (aW b) (aW a) else decide ((y.toNat:Int)<=(x.toNat:Int)))
  by_cases h:x=y
  ·subst h
   rw [if_pos rfl,ih]
   simp
  ·have h2:¬x.toNat=y.toNat:=fun z=>h (UInt8.toNat_inj.mp z)
   have hb:(x==y)=false:=beq_eq_false_iff_ne.mpr h
   rw [if_neg (by (clear h;omega)),hb,Bool.false_and,Bool.or_false,Bool.eq_iff_iff,Bool.not_eq_true',decide_eq_true_iff,decide_eq_false_iff_not]
   (clear h2 h;omega)
def iK (p:Br.Part):Bool:=p.studsOk && (p.tubesOk && (p.tight && p.whole))
def Nm:Option Br.Bytes->Br.Part->Bool
 |some n,p=>Br.before n p.name
 |none,_=>true
def kQ:Option Br.Bytes->List Br.Part->Bool
 |_,[]=>true
 |last,p::r=>Nm last p && kQ (some p.name) r
theorem sS (last:Option Br.Bytes) (p:Br.Part) (r:List Br.Part):kQ last (p::r)=(Nm last p && kQ (some p.name) r):=by cases last<;>rfl
theorem Hq {p:Br.Part} {last:Option Br.Bytes}:(p.wrong last).isSome= !(iK p && Nm last p):=by
 unfold Br.Part.wrong iK
 cases p.studsOk<;>cases p.tubesOk<;>cases p.tight<;>cases p.whole<;>try rfl
 cases last with
 |none=>rfl
 |some n=>
  show (if Br.before n p.name=true then Option.none else some 5).isSome= !(true && (true && (true && true)) && Br.before n p.name)
  cases Br.before n p.name<;>rfl
theorem uD:∀ {l:List Br.Part} {i:Nat} {last:Option Br.Bytes},(Br.wrongFrom i last l).isSome= !(l.all iK && kQ last l)
 |[],i,last=>rfl
 |p::r,i,last=>by
  have ih:=uD (l:=r) (i:=i+1) (last:=some p.name)
  have hp:=Hq (p:=p) (last:=last)
  rw [Br.wrongFrom]
  cases e:p.wrong last with
  |some k=>
   rw [e] at hp
   show true=_
   rw [List.all_cons,sS]
   have hp:true= !(iK p && Nm last p):=hp
   cases hg:iK p
   ·rfl
   ·rw [hg,Bool.true_and] at hp
    have h2:Nm last p=false:=by
     cases z:Nm last p
     ·rfl
     ·rw [z] at hp;cases hp
    rw [h2,Bool.false_and,Bool.and_false]
    rfl
  |none=>
   rw [e] at hp
   show (Br.wrongFrom (i+1) (some p.name) r).isSome=_
   rw [ih,List.all_cons,sS]
   have hp:false= !(iK p && Nm last p):=hp
   have h3:(iK p && Nm last p)=true:=by
    cases z:(iK p && Nm last p)
    ·rw [z] at hp;cases hp
    ·rfl
   rw [Bool.and_eq_true] at h3
   rw [h3.1,h3.2,Bool.true_and,Bool.true_and]
theorem oP:∀ {prs:List aM} {last:Option aM},(∀ pr∈prs,dU pr)->(∀ q,last=some q->dU q)->kQ (last.map fun q=>q.name.map qR) (prs.map cO)=iW ((last.toList++prs).map (·.name))
 |[],none,_,_=>rfl
 |[],some q,_,_=>rfl
 |pr::r,none,h,_=>by
  show (true && kQ (some (pr.name.map qR)) (r.map cO))=_
  rw [Bool.true_and]
  exact oP (last:=some pr) (fun x hx=>h x (List.mem_cons_of_mem _ hx)) fun q hq=>by cases hq;exact h _ List.mem_cons_self
 |pr::r,some q,h,hq=>by
  have ih:=oP (prs:=r) (last:=some pr) (fun x hx=>h x (List.mem_cons_of_mem _ hx)) fun q hq=>by cases hq;exact h _ List.mem_cons_self
  show (Br.before (q.name.map qR) (pr.name.map qR) && kQ (some (pr.name.map qR)) (r.map cO))=iW (q.name::pr.name::r.map (·.name))
  rw [yJ,nV (h _ List.mem_cons_self),nV (hq q rfl),iW]
  have ih:kQ (some (pr.name.map qR)) (r.map cO)=iW (pr.name::r.map (·.name)):=ih
  rw [ih]
theorem Me {prs:List aM} (h:∀ pr∈prs,dU pr) (hg:∀ pr∈prs,iK (cO pr)=gK pr):(Br.wrong (prs.map cO)).isSome= !nD prs:=by
 unfold Br.wrong nD
 rw [uD]
 have e1:(prs.map cO).all iK=prs.all gK:=by
  rw [List.all_map]
  have key:∀ l:List aM,(∀ pr∈l,iK (cO pr)=gK pr)->l.all (iK∘cO)=l.all gK:=by
   intro l
   induction l with
   |nil=>intro _;rfl
   |cons a r ih=>
    intro hx
    rw [List.all_cons,List.all_cons,ih fun y hy=>hx y (List.mem_cons_of_mem _ hy)]
    show (iK (cO a) && _)=_
    rw [hx a List.mem_cons_self]
  exact key prs hg
 have e2:=oP (prs:=prs) (last:=none) h (fun q hq=>by cases hq)
 rw [e1]
 have e2:kQ none (prs.map cO)=iW (prs.map (·.name)):=e2
 rw [e2]
abbrev lG:=Nat×Nat×Nat
def cP (s:lG):Pl:=((s.1:Int),(s.2.1:Int),(s.2.2:Int))
theorem iE {a b:lG} (h:cP a=cP b):a=b:=by
 obtain ⟨x,y,z⟩:=a
 obtain ⟨u,v,w⟩:=b
 unfold cP at h
 simp only [Prod.mk.injEq] at h ⊢
 omega
def fG (w d i:Nat):lG:=(i % w,i / w % d,i / w / d)
theorem lC {w d i x y z:Nat} (h:fG w d i=(x,y,z)):i=(z * d+y) * w+x:=by
 unfold fG at h
 simp only [Prod.mk.injEq] at h
 obtain ⟨rfl,rfl,rfl⟩:=h
 have h1:=Nat.div_add_mod (i / w) d
 have h2:=Nat.div_add_mod i w
 rw [Nat.mul_comm (i / w / d) d,h1,Nat.mul_comm (i / w) w,h2]
theorem Hc {w d x y z:Nat} (hx:x<w) (hy:y<d):fG w d ((z * d+y) * w+x)=(x,y,z):=by
 have hw:0<w:=by (clear hy;omega)
 have hd:0<d:=by (clear hw hx;omega)
 have e1:((z * d+y) * w+x) / w=z * d+y:=by
  rw [Nat.add_comm,Nat.add_mul_div_right _ _ hw,Nat.div_eq_of_lt hx,Nat.zero_add]
 have e2:((z * d+y) * w+x) % w=x:=by rw [Nat.add_comm,Nat.add_mul_mod_self_right,Nat.mod_eq_of_lt hx]
 unfold fG
 rw [e1,e2,Nat.add_comm (z * d),Nat.add_mul_div_right _ _ hd,Nat.div_eq_of_lt hy,Nat.zero_add,Nat.add_mul_mod_self_right,Nat.mod_eq_of_lt hy]
theorem lD {α:Type} {f:Nat->List α} {m:Nat} (hf:∀ z,(f z).length=m):∀ n,((List.range n).flatMap f).length=n * m
 |0=>by simp
 |n+1=>by
  rw [List.range_succ,List.flatMap_append,List.length_append,lD hf n,List.flatMap_singleton,hf,Nat.succ_mul]
theorem vE {α:Type} {f:Nat->List α} {m:Nat} (hm:0<m) (hf:∀ z,(f z).length=m):∀ n i,i<n * m->((List.range n).flatMap f)[i]?=(f (i / m))[i % m]?
 |0,i,h=>by (clear hm;omega)
 |n+1,i,h=>by
  rw [List.range_succ,List.flatMap_append,List.flatMap_singleton]
  by_cases hi:i<n * m
  ·rw [List.getElem?_append_left (by rw [lD hf];exact hi)]
   exact vE hm hf n i hi
  ·rw [List.getElem?_append_right (by rw [lD hf];(clear h hm;omega)),lD hf]
   rw [Nat.succ_mul] at h
   have e:i=(i - n * m)+n * m:=by (clear h hm;omega)
   have hl:i - n * m<m:=by (clear e hi;omega)
   have e1:i / m=n:=by
    rw [e,Nat.add_mul_div_right _ _ hm,Nat.div_eq_of_lt hl,Nat.zero_add]
   have e2:i % m=i - n * m:=by
    conv=>lhs;rw [e]
    rw [Nat.add_mul_mod_self_right,Nat.mod_eq_of_lt hl]
   rw [e1,e2]
theorem pS {p:Br.Part} (hw:0<p.wide) (hd:0<p.deep):p.spots=(List.range (p.high * (p.deep * p.wide))).map (fG p.wide p.deep):=by
 have l1:∀ y z:Nat,((List.range p.wide).map fun (x:Nat)=>(x,y,z)).length=p.wide:=by simp
 have l2:∀ z:Nat,((List.range p.deep).flatMap fun (y:Nat)=>(List.range p.wide).map fun (x:Nat)=>(x,y,z)).length=p.deep * p.wide:=fun z=>lD (fun y=>l1 y z) _
 apply List.ext_getElem?
 intro i
 unfold Br.Part.spots
 by_cases hi:i<p.high * (p.deep * p.wide)
 ·rw [vE (Nat.mul_pos hd hw) l2 _ _ hi,List.getElem?_map,List.getElem?_range hi]
  have hlt:i % (p.deep * p.wide)<p.deep * p.wide:=Nat.mod_lt _ (Nat.mul_pos hd hw)
  rw [vE hw (fun y=>l1 y _) _ _ hlt,List.getElem?_map,List.getElem?_range (Nat.mod_lt _ hw)]
  show some _=some _
  unfold fG
  rw [Nat.mod_mul_left_mod,Nat.mod_mul_left_div_self,Nat.mul_comm p.deep p.wide,Nat.div_div_eq_div_mul]
 ·rw [List.getElem?_eq_none,List.getElem?_eq_none]
  ·rw [List.length_map,List.length_range];(clear hd hw;omega)
  ·rw [lD l2];(clear hd hw;omega)
def kept (q:Nat×Int):Bool:= !decide (q.2=46)
def lM (w d:Nat) (q:Nat×Int):Pl×Int:=(cP (fG w d q.1),q.2)
theorem Eb {w d j:Nat}:∀ (r:List Int) (x:Nat),x+r.length<=w->uX (j % d) (j / d) x r=(((List.range' (j * w+x) r.length).zip r).filter kept).map (lM w d)
 |[],x,_=>by simp [uX]
 |s::r,x,h=>by
  rw [List.length_cons] at h
  have ih:=Eb (w:=w) (d:=d) (j:=j) r (x+1) (by omega)
  have hw:0<w:=by omega
  rw [uX,ih,List.length_cons,List.range'_succ,List.zip_cons_cons,show j * w+x+1=j * w+(x+1) by (clear hw h;omega)]
  have e1:(j * w+x) / w=j:=by
   rw [Nat.add_comm,Nat.add_mul_div_right _ _ hw,Nat.div_eq_of_lt (by (clear hw;omega)),Nat.zero_add]
  have e2:(j * w+x) % w=x:=by rw [Nat.add_comm,Nat.add_mul_mod_self_right,Nat.mod_eq_of_lt (by (clear e1 hw;omega))]
  by_cases hs:s=46
  ·rw [if_pos hs,List.filter_cons_of_neg (by simp [kept,hs]),List.nil_append]
  ·rw [if_neg hs,List.filter_cons_of_pos (by simp [kept,hs]),List.map_cons]
   show _::_=_
   unfold lM cP fG
   simp only [e1,e2]
   rfl
theorem xK {w d:Nat}:∀ (rs:List (List Int)) (j:Nat),(∀ x∈rs,x.length=w)->pE d j rs=(((List.range' (j * w) rs.flatten.length).zip rs.flatten).filter kept).map (lM w d)
 |[],j,_=>by simp [pE]
 |r::rs,j,h=>by
  have ih:=xK (w:=w) (d:=d) rs (j+1) fun x hx=>h x (List.mem_cons_of_mem _ hx)
  have hr:=h r List.mem_cons_self
  have e:=Eb (w:=w) (d:=d) (j:=j) r 0 (by omega)
  rw [pE,ih,e,List.flatten_cons,List.length_append,<-List.range'_append_1,List.zip_append (by rw [List.length_range']),List.filter_append,List.map_append,hr,Nat.add_zero,Nat.succ_mul]
theorem Eu {w:Nat}:∀ {rs:List (List Int)},(∀ x∈rs,x.length=w)->rs.flatten.length=rs.length * w
 |[],_=>by simp
 |r::rs,h=>by
  rw [List.flatten_cons,List.length_append,Eu fun x hx=>h x (List.mem_cons_of_mem _ hx),h r List.mem_cons_self,List.length_cons,Nat.succ_mul,Nat.add_comm]
def zP (pr:aM):List (Nat×Int):=(List.range (pr.h * (pr.d * pr.w))).zip pr.rows.flatten
theorem Dz {pr:aM} (ok:dU pr):pr.rows.flatten.length=pr.h * (pr.d * pr.w):=by
 rw [Eu ok.rw,ok.rl,Nat.mul_comm pr.d,Nat.mul_assoc]
theorem xS {pr:aM} (ok:dU pr):sN pr=((zP pr).filter kept).map (lM pr.w pr.d):=by
 unfold sN zP
 rw [xK pr.rows 0 ok.rw,Dz ok,Nat.zero_mul,<-List.range_eq_range']
theorem mZ (s:Int):(oF s).isCell= !decide (s=46):=by
 unfold oF
 by_cases h:s=46
 ·simp [h,Br.Place.isCell]
 ·rw [if_neg h]
  simp only [h,decide_false,Bool.not_false]
  split
  ·rfl
  ·split
   ·rfl
   ·split<;>rfl
theorem wC {s:Int} (h:s∈cK):(oF s).stud=fC s:=by
 simp only [cK,List.mem_cons,List.not_mem_nil,or_false] at h
 rcases h with rfl|rfl|rfl|rfl|rfl<;>decide
theorem wR {s:Int} (h:s∈cK):(oF s).tube=dQ s:=by
 simp only [cK,List.mem_cons,List.not_mem_nil,or_false] at h
 rcases h with rfl|rfl|rfl|rfl|rfl<;>decide
theorem gF (pr:aM):(cO pr).places=pr.rows.flatten.map oF:=by
 show (pr.rows.map (List.map oF)).flatten=_
 rw [List.map_flatten]
theorem Bi {pr:aM} (ok:dU pr) (f:Br.Place->Bool):(cO pr).such f=((zP pr).filter fun q=>f (oF q.2)).map fun q=>fG pr.w pr.d q.1:=by
 unfold Br.Part.such
 rw [pS (p:=cO pr) ok.w1 ok.d1,gF]
 show List.map _ (List.filter _ (((List.range (pr.h * (pr.d * pr.w))).map (fG pr.w pr.d)).zip _))=_
 rw [List.zip_map,List.filter_map,List.map_map]
 rfl
theorem pN {pr:aM} (ok:dU pr):(cO pr).cells=((zP pr).filter kept).map fun q=>fG pr.w pr.d q.1:=by
 unfold Br.Part.cells
 rw [Bi ok]
 congr 2
 funext q
 exact mZ q.2
theorem nH {pr:aM} (ok:dU pr):(sN pr).map (·.1)=(cO pr).cells.map cP:=by
 rw [xS ok,pN ok,List.map_map,List.map_map]
 rfl
theorem rR {pr:aM} (ok:dU pr) {q:Nat×Int} (h:q∈zP pr):q.2∈cK:=by
 have h2:=(List.of_mem_zip h).2
 obtain ⟨r,hr,hs⟩:=List.mem_flatten.mp h2
 exact ok.sg r hr _ hs
theorem tY {pr:aM} (ok:dU pr) (s:lG):(aY (sN pr) (cP s)).isSome=true↔s∈(cO pr).cells:=by
 rw [dJ]
 constructor
 ·rintro ⟨c,hc,e⟩
  have:cP s∈(sN pr).map (·.1):=List.mem_map.mpr ⟨c,hc,e⟩
  rw [nH ok] at this
  obtain ⟨t,ht,e2⟩:=List.mem_map.mp this
  rw [<-iE e2];exact ht
 ·intro h
  have:cP s∈(sN pr).map (·.1):=by rw [nH ok];exact List.mem_map_of_mem h
  obtain ⟨c,hc,e⟩:=List.mem_map.mp this
  exact ⟨c,hc,e⟩
theorem Hy {pr:aM} (ok:dU pr) {i:Nat} {s:Int}:(i,s)∈zP pr↔pr.rows.flatten[i]?=some s:=by
 unfold zP
 rw [List.mem_iff_getElem?]
 constructor
 ·rintro ⟨k,e⟩
  rw [List.getElem?_zip_eq_some] at e
  obtain ⟨e1,e2⟩:=e
  obtain ⟨hk,e3⟩:=List.getElem?_eq_some_iff.mp e1
  rw [List.getElem_range] at e3
  subst e3
  exact e2
 ·intro e
  refine ⟨i,?_⟩
  rw [List.getElem?_zip_eq_some]
  refine ⟨List.getElem?_range ?_,e⟩
  rw [<-Dz ok]
  exact (List.getElem?_eq_some_iff.mp e).1
theorem pY {pr:aM} (ok:dU pr) (x y z:Nat):((cO pr).at_ x y z).isCell=true↔(x,y,z)∈(cO pr).cells:=by
 rw [pN ok]
 unfold Br.Part.at_
 show ((if x<pr.w/\y<pr.d/\z<pr.h then (cO pr).places.getD ((z * pr.d+y) * pr.w+x) .none else .none:Br.Place)).isCell=true↔_
 have hN:∀ i,i<pr.h * (pr.d * pr.w)->i % pr.w<pr.w/\i / pr.w % pr.d<pr.d/\i / pr.w / pr.d<pr.h:=fun i hi=>by
  refine ⟨Nat.mod_lt _ ok.w1,Nat.mod_lt _ ok.d1,?_⟩
  rw [Nat.div_div_eq_div_mul]
  apply Nat.div_lt_of_lt_mul
  rw [Nat.mul_comm,Nat.mul_comm pr.w]
  exact hi
 constructor
 ·intro h
  split at h
  ·rename_i hr
   rw [gF,List.getD_eq_getElem?_getD,List.getElem?_map] at h
   cases e:pr.rows.flatten[(z * pr.d+y) * pr.w+x]? with
   |none=>rw [e] at h;cases h
   |some s=>
    rw [e] at h
    have h:(oF s).isCell=true:=h
    rw [mZ] at h
    refine List.mem_map.mpr ⟨(_,s),List.mem_filter.mpr ⟨(Hy ok).mpr e,h⟩,?_⟩
    exact Hc hr.1 hr.2.1
  ·cases h
 ·intro h
  obtain ⟨⟨i,s⟩,hm,e⟩:=List.mem_map.mp h
  obtain ⟨hz,hk⟩:=List.mem_filter.mp hm
  have hz:=(Hy ok).mp hz
  have hi:i<pr.h * (pr.d * pr.w):=by rw [<-Dz ok];exact (List.getElem?_eq_some_iff.mp hz).1
  have e:fG pr.w pr.d i=(x,y,z):=e
  have e2:=lC e
  have h3:=hN i hi
  unfold fG at e
  simp only [Prod.mk.injEq] at e
  rw [if_pos (by (clear e2 hi;omega)),gF,List.getD_eq_getElem?_getD,List.getElem?_map,<-e2,hz]
  show (oF s).isCell=true
  rw [mZ]
  exact hk
theorem Fw {pr:aM} (ok:dU pr):(cO pr).studsOk=mC (sN pr):=by
 rw [Bool.eq_iff_iff]
 unfold Br.Part.studsOk mC Br.Part.studs
 rw [Bi ok,List.all_eq_true,List.all_eq_true]
 constructor
 ·intro h c hc
  rw [xS ok] at hc
  obtain ⟨q,hq,rfl⟩:=List.mem_map.mp hc
  obtain ⟨hz,hk⟩:=List.mem_filter.mp hq
  cases hs:fC (lM pr.w pr.d q).2 with
  |false=>rfl
  |true=>
   have h2:=h (fG pr.w pr.d q.1) (List.mem_map.mpr ⟨q,List.mem_filter.mpr ⟨hz,by rw [wC (rR ok hz)];exact hs⟩,rfl⟩)
   rw [Bool.true_and,Bool.not_eq_true',<-Bool.not_eq_true]
   intro g
   have g2:(aY (sN pr) (cP ((fG pr.w pr.d q.1).1,(fG pr.w pr.d q.1).2.1,(fG pr.w pr.d q.1).2.2+1))).isSome=true:=g
   rw [tY ok,<-pY ok] at g2
   rw [g2] at h2
   cases h2
 ·intro h s hs
  obtain ⟨q,hq,rfl⟩:=List.mem_map.mp hs
  obtain ⟨hz,hk⟩:=List.mem_filter.mp hq
  rw [wC (rR ok hz)] at hk
  have hk2:kept q=true:=by
   unfold kept
   cases e:decide (q.2=46) with
   |false=>rfl
   |true=>rw [decide_eq_true_iff.mp e] at hk;cases hk
  have h2:=h (lM pr.w pr.d q) (by rw [xS ok];exact List.mem_map.mpr ⟨q,List.mem_filter.mpr ⟨hz,hk2⟩,rfl⟩)
  rw [show fC (lM pr.w pr.d q).2=true from hk,Bool.true_and,Bool.not_eq_true',<-Bool.not_eq_true] at h2
  rw [Bool.not_eq_true',<-Bool.not_eq_true]
  intro g
  rw [pY ok,<-tY ok] at g
  exact h2 g
theorem Fs {pr:aM} (ok:dU pr):(cO pr).tubesOk=lY (sN pr):=by
 rw [Bool.eq_iff_iff]
 unfold Br.Part.tubesOk lY Br.Part.tubes
 rw [Bi ok,List.all_eq_true,List.all_eq_true]
 constructor
 ·intro h c hc
  have hc0:=hc
  rw [xS ok] at hc
  obtain ⟨q,hq,rfl⟩:=List.mem_map.mp hc
  obtain ⟨hz,hk⟩:=List.mem_filter.mp hq
  cases hs:dQ (lM pr.w pr.d q).2 with
  |false=>rfl
  |true=>
   have h2:=h (fG pr.w pr.d q.1) (List.mem_map.mpr ⟨q,List.mem_filter.mpr ⟨hz,by rw [wR (rR ok hz)];exact hs⟩,rfl⟩)
   rw [Bool.true_and,Bool.not_eq_true',<-Bool.not_eq_true]
   intro g
   by_cases h0:(fG pr.w pr.d q.1).2.2=0
   ·obtain ⟨c,hc,e⟩:=dJ.mp g
    have hm:c.1∈(sN pr).map (·.1):=List.mem_map_of_mem hc
    rw [nH ok,e] at hm
    obtain ⟨t,ht,e2⟩:=List.mem_map.mp hm
    have e3:((t.2.2:Nat):Int)=((fG pr.w pr.d q.1).2.2:Int) - 1:=congrArg (fun p:Pl=>p.2.2) e2
    omega
   ·have g2:(aY (sN pr) (cP ((fG pr.w pr.d q.1).1,(fG pr.w pr.d q.1).2.1,(fG pr.w pr.d q.1).2.2 - 1))).isSome=true:=by
     have e:cP ((fG pr.w pr.d q.1).1,(fG pr.w pr.d q.1).2.1,(fG pr.w pr.d q.1).2.2 - 1)=oN (lM pr.w pr.d q).1:=by
      refine Prod.ext rfl (Prod.ext rfl ?_)
      show (((fG pr.w pr.d q.1).2.2 - 1:Nat):Int)=((fG pr.w pr.d q.1).2.2:Int) - 1
      omega
     rw [e];exact g
    rw [tY ok,<-pY ok] at g2
    rw [g2,Bool.not_true,Bool.or_false,beq_iff_eq] at h2
    exact h0 h2
 ·intro h s hs
  obtain ⟨q,hq,rfl⟩:=List.mem_map.mp hs
  obtain ⟨hz,hk⟩:=List.mem_filter.mp hq
  rw [wR (rR ok hz)] at hk
  have hk2:kept q=true:=by
   unfold kept
   cases e:decide (q.2=46) with
   |false=>rfl
   |true=>rw [decide_eq_true_iff.mp e] at hk;cases hk
  have h2:=h (lM pr.w pr.d q) (by rw [xS ok];exact List.mem_map.mpr ⟨q,List.mem_filter.mpr ⟨hz,hk2⟩,rfl⟩)
  rw [show dQ (lM pr.w pr.d q).2=true from hk,Bool.true_and,Bool.not_eq_true',<-Bool.not_eq_true] at h2
  by_cases h0:(fG pr.w pr.d q.1).2.2=0
  ·rw [h0];rfl
  ·rw [Bool.or_eq_true]
   right
   rw [Bool.not_eq_true',<-Bool.not_eq_true]
   intro g
   rw [pY ok,<-tY ok] at g
   have e:cP ((fG pr.w pr.d q.1).1,(fG pr.w pr.d q.1).2.1,(fG pr.w pr.d q.1).2.2 - 1)=oN (lM pr.w pr.d q).1:=by
    refine Prod.ext rfl (Prod.ext rfl ?_)
    show (((fG pr.w pr.d q.1).2.2 - 1:Nat):Int)=((fG pr.w pr.d q.1).2.2:Int) - 1
    (clear h2;omega)
   rw [e] at g
   exact h2 g
theorem iD {pr:aM} (ok:dU pr) (a:Nat) (n:Int) (f:lG->Bool) (hf:∀ s,f s=true↔Zr (cP s) a=n):(cO pr).cells.any f=decide (n∈fR (sN pr) a):=by
 rw [Bool.eq_iff_iff,List.any_eq_true,decide_eq_true_iff]
 have e:fR (sN pr) a=(cO pr).cells.map fun s=>Zr (cP s) a:=by
  have:fR (sN pr) a=((sN pr).map (·.1)).map fun p=>Zr p a:=by unfold fR;rw [List.map_map];rfl
  rw [this,nH ok,List.map_map]
  rfl
 rw [e,List.mem_map]
 exact ⟨fun ⟨s,h1,h2⟩=>⟨s,h1,(hf s).mp h2⟩,fun ⟨s,h1,h2⟩=>⟨s,h1,(hf s).mpr h2⟩⟩
theorem Fn {pr:aM} (ok:dU pr):(cO pr).tight=mW (sN pr) pr.w pr.d pr.h:=by
 have hw:=ok.w1
 have hd:=ok.d1
 have hh:=ok.h1
 show ((cO pr).cells.any (fun (s:lG)=>s.1==0) && ((cO pr).cells.any (fun (s:lG)=>s.1+1==pr.w) && ((cO pr).cells.any (fun (s:lG)=>s.2.1==0) && ((cO pr).cells.any (fun (s:lG)=>s.2.1+1==pr.d) && ((cO pr).cells.any (fun (s:lG)=>s.2.2==0) && (cO pr).cells.any fun (s:lG)=>s.2.2+1==pr.h)))))=_
 rw [iD ok 0 0 _ (fun s=>by rw [beq_iff_eq];show s.1=0↔(s.1:Int)=0;(clear hh hd hw;omega)),
  iD ok 0 (pr.w - 1) _ (fun s=>by rw [beq_iff_eq];show s.1+1=pr.w↔(s.1:Int)=pr.w - 1;(clear hh hd hw;omega)),
  iD ok 1 0 _ (fun s=>by rw [beq_iff_eq];show s.2.1=0↔(s.2.1:Int)=0;(clear hh hd hw;omega)),
  iD ok 1 (pr.d - 1) _ (fun s=>by rw [beq_iff_eq];show s.2.1+1=pr.d↔(s.2.1:Int)=pr.d - 1;(clear hh hd hw;omega)),
  iD ok 2 0 _ (fun s=>by rw [beq_iff_eq];show s.2.2=0↔(s.2.2:Int)=0;(clear hh hd hw;omega)),
  iD ok 2 (pr.h - 1) _ (fun s=>by rw [beq_iff_eq];show s.2.2+1=pr.h↔(s.2.2:Int)=pr.h - 1;(clear hh hd hw;omega))]
 unfold mW fF
 simp only [Bool.and_assoc]
inductive lU {α:Type} (E:α->α->Prop) (l rest:List α):α->Prop
 |base {a:α}:a∈l->lU E l rest a
 |step {p q:α}:lU E l rest p->E p q->q∈rest->lU E l rest q
def Nb (p q:lG):Prop:=Br.beside q p=true
theorem Np {l rest:List lG} {q:lG}:q∈(rest.partition fun (c:lG)=>l.any (Br.beside c)).1↔q∈rest/\∃ i∈l,Nb i q:=by
 rw [List.partition_eq_filter_filter,List.mem_filter,List.any_eq_true]
 rfl
theorem Uj {l rest:List lG} {q:lG}:q∈(rest.partition fun (c:lG)=>l.any (Br.beside c)).2↔q∈rest/\¬∃ i∈l,Nb i q:=by
 rw [List.partition_eq_filter_filter,List.mem_filter]
 show _/\(!(l.any (Br.beside q)))=true↔_
 rw [Bool.not_eq_true',<-Bool.not_eq_true,List.any_eq_true]
 rfl
theorem pQ {α:Type} (f:α->Bool):∀ l:List α,(l.filter f).length+(l.filter (not∘f)).length=l.length
 |[]=>rfl
 |a::r=>by
  have ih:=pQ f r
  cases h:f a with
  |true=>rw [List.filter_cons_of_pos h,List.filter_cons_of_neg (by simp [h]),List.length_cons,List.length_cons];omega
  |false=>rw [List.filter_cons_of_neg (by simp [h]),List.filter_cons_of_pos (by simp [h]),List.length_cons,List.length_cons];omega
theorem xL:∀ {n:Nat} {l rest:List lG},rest.length<=n->(∀ x∈l,x∉rest)->(Br.apartFrom n l rest=[]↔∀ s∈rest,lU Nb l rest s)
 |0,l,rest,hn,_=>by
  have:rest=[]:=List.eq_nil_of_length_eq_zero (by omega)
  subst this
  exact Iff.intro (fun _ s hs=>absurd hs List.not_mem_nil) (fun _=>rfl)
 |n+1,l,rest,hn,dj=>by
  have nm:= @Np l rest
  have fm:= @Uj l rest
  have ln:(rest.partition fun (c:lG)=>l.any (Br.beside c)).1.length+(rest.partition fun (c:lG)=>l.any (Br.beside c)).2.length=rest.length:=by
   rw [List.partition_eq_filter_filter]
   exact pQ _ _
  show (if (rest.partition fun (c:lG)=>l.any (Br.beside c)).1=[] then rest else Br.apartFrom n (rest.partition fun (c:lG)=>l.any (Br.beside c)).1 (rest.partition fun (c:lG)=>l.any (Br.beside c)).2)=[]↔_
  generalize rest.partition (fun (c:lG)=>l.any (Br.beside c))=pt at nm fm ln
  by_cases h:pt.1=[]
  ·rw [if_pos h]
   constructor
   ·rintro rfl s hs
    cases hs
   ·intro hs
    have key:∀ s,lU Nb l rest s->s∈l:=by
     intro s hf
     induction hf with
     |base ha=>exact ha
     |step _ e hq ih=>
      have:=nm.mpr ⟨hq,_,ih,e⟩
      rw [h] at this
      cases this
    cases rest with
    |nil=>rfl
    |cons a r=>exact absurd List.mem_cons_self (dj a (key a (hs a List.mem_cons_self)))
  ·rw [if_neg h]
   have hl:0<pt.1.length:=by
    cases e:pt.1 with
    |nil=>exact absurd e h
    |cons a r=>simp
   rw [xL (n:=n) (by (clear h;omega)) fun x hx hy=>(fm.mp hy).2 (nm.mp hx).2]
   constructor
   ·intro hs s hr
    by_cases hx:∃ i∈l,Nb i s
    ·obtain ⟨i,hi,e⟩:=hx
     exact .step (.base hi) e hr
    ·have hf:=hs s (fm.mpr ⟨hr,hx⟩)
     clear hr hx
     induction hf with
     |base ha=>
      obtain ⟨h1,i,hi,e⟩:=nm.mp ha
      exact .step (.base hi) e h1
     |step _ e hq ih=>exact .step ih e (fm.mp hq).1
   ·intro hs s hf
    have hf1:=fm.mp hf
    have key:∀ s,lU Nb l rest s->s∈l\/lU Nb pt.1 pt.2 s:=by
     intro s hf
     induction hf with
     |base ha=>exact .inl ha
     | @step p q _ e hq ih=>
      right
      by_cases hx:∃ i∈l,Nb i q
      ·exact .base (nm.mpr ⟨hq,hx⟩)
      ·rcases ih with h1|h1
       ·exact absurd ⟨p,h1,e⟩ hx
       ·exact .step h1 e (fm.mpr ⟨hq,hx⟩)
    rcases key s (hs s hf1.1) with h1|h1
    ·exact absurd hf1.1 (dj s h1)
    ·exact h1
def Nq (p q:Pl):Prop:=q∈xO p
theorem tU {α:Type} [DecidableEq α]:∀ {l m:List α},l.Nodup->(∀ x∈l,x∈m)->l.length<=m.length
 |[],m,_,_=>Nat.zero_le _
 |a::l,m,nd,h=>by
  have nd:=List.nodup_cons.mp nd
  have ha:=h a List.mem_cons_self
  have ih:=tU (l:=l) (m:=m.erase a) nd.2 fun x hx=>(List.mem_erase_of_ne (by rintro rfl;exact nd.1 hx)).mpr (h x (List.mem_cons_of_mem _ hx))
  have:=List.length_erase_of_mem ha
  have hp:=List.length_pos_of_mem ha
  rw [List.length_cons]
  (clear nd;omega)
structure Sm (cs:CL) (a:Pl) (rs0 ws0:List Pl) (M:Nat) (st:List Pl×List Pl):Prop where
 nd:st.1.Nodup
 ks:∀ r∈st.1,(aY cs r).isSome=true/\lU Nq [a] (cs.map (·.1)) r
 ws:∀ r∈st.2,r∈st.1
 ol:∀ r∈rs0,r∈st.1
 nw:∀ r∈st.1,r∉st.2->r∈rs0/\r∉ws0
 ms:st.2.length+vK cs st.1<=M
theorem wD {cs:CL} {p:Pl}:(aY cs p).isSome=true↔p∈cs.map (·.1):=by
 rw [dJ,List.mem_map]
theorem Sm.push {cs:CL} {a q:Pl} {rs0 ws0:List Pl} {M:Nat} {st:List Pl×List Pl} {p:Pl} (h:Sm cs a rs0 ws0 M st) (hq:lU Nq [a] (cs.map (·.1)) q) (hp:p∈xO q):Sm cs a rs0 ws0 M (gP cs st p)/\(∀ r∈st.1,r∈(gP cs st p).1)/\((aY cs p).isSome=true->p∈(gP cs st p).1):=by
 unfold gP
 by_cases hc:(aY cs p).isSome=true/\p∉st.1
 ·rw [if_pos hc]
  obtain ⟨nd,ks,ws,ol,nw,ms⟩:=h
  refine ⟨⟨?_,?_,?_,?_,?_,?_⟩,fun r hr=>List.mem_append_left _ hr,fun _=>List.mem_append_right _ List.mem_cons_self⟩
  ·show (st.1++[p]).Nodup
   rw [List.nodup_append]
   refine ⟨nd,by simp,fun x hx y hy z=>?_⟩
   rw [List.mem_singleton] at hy
   subst hy
   subst z
   exact hc.2 hx
  ·intro r hr
   rcases List.mem_append.mp hr with hr|hr
   ·exact ks r hr
   ·rw [List.mem_singleton] at hr
    subst hr
    exact ⟨hc.1,.step hq hp (wD.mp hc.1)⟩
  ·intro r hr
   rcases List.mem_append.mp hr with hr|hr
   ·exact List.mem_append_left _ (ws r hr)
   ·exact List.mem_append_right _ hr
  ·exact fun r hr=>List.mem_append_left _ (ol r hr)
  ·intro r hr hn
   rcases List.mem_append.mp hr with hr|hr
   ·exact nw r hr fun z=>hn (List.mem_append_left _ z)
   ·exact absurd (List.mem_append_right _ hr) hn
  ·have:=mB hc.2 hc.1
   show (st.2++[p]).length+vK cs (st.1++[p])<=M
   rw [List.length_append,List.length_singleton]
   (clear hc;omega)
 ·rw [if_neg hc]
  refine ⟨h,fun r hr=>hr,fun hg=>?_⟩
  by_cases hm:p∈st.1
  ·exact hm
  ·exact absurd ⟨hg,hm⟩ hc
theorem Sm.all {cs:CL} {a q:Pl} {rs0 ws0:List Pl} {M:Nat} (hq:lU Nq [a] (cs.map (·.1)) q):∀ {ps:List Pl} {st:List Pl×List Pl},Sm cs a rs0 ws0 M st->(∀ p∈ps,p∈xO q)->Sm cs a rs0 ws0 M (ps.foldl (gP cs) st)/\(∀ r∈st.1,r∈(ps.foldl (gP cs) st).1)/\∀ p∈ps,(aY cs p).isSome=true->p∈(ps.foldl (gP cs) st).1
 |[],st,h,_=>⟨h,fun _ hr=>hr,fun p hp=>by cases hp⟩
 |p::ps,st,h,hps=>by
  obtain ⟨h1,h2,h3⟩:=h.push hq (hps p List.mem_cons_self)
  obtain ⟨k1,k2,k3⟩:=Sm.all hq h1 fun x hx=>hps x (List.mem_cons_of_mem _ hx)
  refine ⟨k1,fun r hr=>k2 r (h2 r hr),fun x hx hg=>?_⟩
  rcases List.mem_cons.mp hx with rfl|hx
  ·exact k2 _ (h3 hg)
  ·exact k3 x hx hg
structure Xg (cs:CL) (a:Pl) (n:Nat) (rs ws:List Pl):Prop where
 nd:rs.Nodup
 ks:∀ r∈rs,(aY cs r).isSome=true/\lU Nq [a] (cs.map (·.1)) r
 sb:∀ r∈ws,r∈rs
 cl:∀ r∈rs,r∉ws->∀ q∈xO r,(aY cs q).isSome=true->q∈rs
 ms:ws.length+vK cs rs<=n
theorem Jz {cs:CL} {a:Pl}:∀ {n:Nat} {rs ws:List Pl},Xg cs a n rs ws->(dM cs n rs ws).Nodup/\(∀ r∈dM cs n rs ws,(aY cs r).isSome=true/\lU Nq [a] (cs.map (·.1)) r)/\(∀ r∈dM cs n rs ws,∀ q∈xO r,(aY cs q).isSome=true->q∈dM cs n rs ws)/\∀ r∈rs,r∈dM cs n rs ws
 |0,rs,ws,h=>by
  have:ws=[]:=List.eq_nil_of_length_eq_zero (by have:=h.ms;omega)
  subst this
  exact ⟨h.nd,h.ks,fun r hr=>h.cl r hr (by simp),fun r hr=>hr⟩
 |n+1,rs,ws,h=>by
  rw [dM]
  cases e:ws.getLast? with
  |none=>
   have:ws=[]:=List.getLast?_eq_none_iff.mp e
   subst this
   exact ⟨h.nd,h.ks,fun r hr=>h.cl r hr (by simp),fun r hr=>hr⟩
  |some q=>
   obtain ⟨w0,rfl⟩:=List.getLast?_eq_some_iff.mp e
   rw [List.dropLast_concat]
   have hq:=h.sb q (by simp)
   have p0:Sm cs a rs w0 n (rs,w0):=⟨h.nd,h.ks,fun r hr=>h.sb r (List.mem_append_left _ hr),fun r hr=>hr,fun r hr hn=>⟨hr,hn⟩,by have:=h.ms;rw [List.length_append,List.length_singleton] at this;show w0.length+vK cs rs<=n;omega⟩
   obtain ⟨k1,k2,k3⟩:=Sm.all (h.ks q hq).2 p0 (ps:=xO q) fun p hp=>hp
   have s2:Xg cs a n ((xO q).foldl (gP cs) (rs,w0)).1 ((xO q).foldl (gP cs) (rs,w0)).2:=by
    refine ⟨k1.nd,k1.ks,k1.ws,fun r hr hn x hx hg=>?_,k1.ms⟩
    obtain ⟨h1,h2⟩:=k1.nw r hr hn
    by_cases hrq:r=q
    ·subst hrq
     exact k3 x hx hg
    ·exact k2 x (h.cl r h1 (by simp [h2,hrq]) x hx hg)
   obtain ⟨r1,r2,r3,r4⟩:=Jz s2
   exact ⟨r1,r2,r3,fun r hr=>r4 r (k2 r hr)⟩
theorem Qv {c:Pl×Int} {r:CL} (nd:((c::r).map (·.1)).Nodup):vT (c::r)=true↔∀ p∈(c::r).map (·.1),lU Nq [c.1] ((c::r).map (·.1)) p:=by
 have g0:(aY (c::r) c.1).isSome=true:=dJ.mpr ⟨c,List.mem_cons_self,rfl⟩
 have u0:1+vK (c::r) [c.1]<=(c::r).length:=by
  rw [mU,if_pos (by simp),List.length_cons]
  have:vK r [c.1]<=r.length:=List.length_filter_le _ _
  omega
 have s0:Xg (c::r) c.1 (c::r).length [c.1] [c.1]:=⟨by simp,fun x hx=>by rw [List.mem_singleton] at hx;subst hx;exact ⟨g0,.base List.mem_cons_self⟩,fun x hx=>hx,fun x hx hn=>absurd hx hn,u0⟩
 obtain ⟨r1,r2,r3,r4⟩:=Jz s0
 rw [vT,decide_eq_true_iff]
 generalize dM (c::r) (c::r).length [c.1] [c.1]=R at r1 r2 r3 r4
 have sub:∀ x∈R,x∈(c::r).map (·.1):=fun x hx=>wD.mp (r2 x hx).1
 have hle:=tU r1 sub
 rw [List.length_map] at hle
 have all:∀ x,lU Nq [c.1] ((c::r).map (·.1)) x->x∈R:=by
  intro x hf
  induction hf with
  |base ha=>exact r4 _ ha
  |step _ e hq ih=>exact r3 _ ih _ e (wD.mpr hq)
 constructor
 ·intro hl p hp
  by_cases hm:p∈R
  ·exact (r2 p hm).2
  ·have:=tU (l:=p::R) (m:=(c::r).map (·.1)) (List.nodup_cons.mpr ⟨hm,r1⟩) fun x hx=>by
    rcases List.mem_cons.mp hx with rfl|hx
    ·exact hp
    ·exact sub x hx
   rw [List.length_map,List.length_cons,hl] at this
   (clear hm hl hle u0;omega)
 ·intro h
  have:=tU nd fun x hx=>all x (h x hx)
  rw [List.length_map] at this
  (clear u0;omega)
theorem aBr {p q r:Nat} (h:p+q+r=1):(p=1/\q=0/\r=0)\/(p=0/\q=1/\r=0)\/(p=0/\q=0/\r=1):=by omega
theorem lT {x u:Nat}:(u - x)+(x - u)=0↔(u:Int)=(x:Int):=by omega
theorem zW {x u:Nat}:(u - x)+(x - u)=1↔(u:Int)=(x:Int) - 1\/(u:Int)=(x:Int)+1:=by omega
theorem yC (a b:lG):Nb a b↔Nq (cP a) (cP b):=by
 obtain ⟨x,y,z⟩:=a
 obtain ⟨u,v,w⟩:=b
 unfold Nb Nq Br.beside
 rw [beq_iff_eq]
 constructor
 ·intro h
  rcases aBr h with ⟨h1,h2,h3⟩|⟨h1,h2,h3⟩|⟨h1,h2,h3⟩
  ·have e2:(v:Int)=y:=lT.mp h2
   have e3:(w:Int)=z:=lT.mp h3
   rcases zW.mp h1 with e1|e1
   ·exact List.mem_cons.mpr (.inl (Prod.ext e1 (Prod.ext e2 e3)))
   ·exact List.mem_cons_of_mem _ (List.mem_cons.mpr (.inl (Prod.ext e1 (Prod.ext e2 e3))))
  ·have e1:(u:Int)=x:=lT.mp h1
   have e3:(w:Int)=z:=lT.mp h3
   rcases zW.mp h2 with e2|e2
   ·exact List.mem_cons_of_mem _ (List.mem_cons_of_mem _ (List.mem_cons.mpr (.inl (Prod.ext e1 (Prod.ext e2 e3)))))
   ·exact List.mem_cons_of_mem _ (List.mem_cons_of_mem _ (List.mem_cons_of_mem _ (List.mem_cons.mpr (.inl (Prod.ext e1 (Prod.ext e2 e3))))))
  ·have e1:(u:Int)=x:=lT.mp h1
   have e2:(v:Int)=y:=lT.mp h2
   rcases zW.mp h3 with e3|e3
   ·exact List.mem_cons_of_mem _ (List.mem_cons_of_mem _ (List.mem_cons_of_mem _ (List.mem_cons_of_mem _ (List.mem_cons_of_mem _ (List.mem_cons.mpr (.inl (Prod.ext e1 (Prod.ext e2 e3))))))))
   ·exact List.mem_cons_of_mem _ (List.mem_cons_of_mem _ (List.mem_cons_of_mem _ (List.mem_cons_of_mem _ (List.mem_cons.mpr (.inl (Prod.ext e1 (Prod.ext e2 e3)))))))
 ·have fin:∀ {p q r:Nat},(p=1/\q=0/\r=0)\/(p=0/\q=1/\r=0)\/(p=0/\q=0/\r=1)->p+q+r=1:=by
   rintro p q r (⟨rfl,rfl,rfl⟩|⟨rfl,rfl,rfl⟩|⟨rfl,rfl,rfl⟩)<;>rfl
  intro h
  refine fin ?_
  have st:∀ {c:Pl},cP (u,v,w)=c->(u:Int)=c.1/\(v:Int)=c.2.1/\(w:Int)=c.2.2:=fun e=>by rw [<-e];exact ⟨rfl,rfl,rfl⟩
  rcases List.mem_cons.mp h with e|h
  ·obtain ⟨e1,e2,e3⟩:=st e
   exact .inl ⟨zW.mpr (.inl e1),lT.mpr e2,lT.mpr e3⟩
  rcases List.mem_cons.mp h with e|h
  ·obtain ⟨e1,e2,e3⟩:=st e
   exact .inl ⟨zW.mpr (.inr e1),lT.mpr e2,lT.mpr e3⟩
  rcases List.mem_cons.mp h with e|h
  ·obtain ⟨e1,e2,e3⟩:=st e
   exact .inr (.inl ⟨lT.mpr e1,zW.mpr (.inl e2),lT.mpr e3⟩)
  rcases List.mem_cons.mp h with e|h
  ·obtain ⟨e1,e2,e3⟩:=st e
   exact .inr (.inl ⟨lT.mpr e1,zW.mpr (.inr e2),lT.mpr e3⟩)
  rcases List.mem_cons.mp h with e|h
  ·obtain ⟨e1,e2,e3⟩:=st e
   exact .inr (.inr ⟨lT.mpr e1,lT.mpr e2,zW.mpr (.inr e3)⟩)
  rcases List.mem_cons.mp h with e|h
  ·obtain ⟨e1,e2,e3⟩:=st e
   exact .inr (.inr ⟨lT.mpr e1,lT.mpr e2,zW.mpr (.inl e3)⟩)
  ·cases h
theorem yP {c:lG} {r:List lG}:∀ {s:lG},lU Nb [c] r s↔lU Nq [cP c] ((c::r).map cP) (cP s):=by
 intro s
 constructor
 ·intro h
  induction h with
  |base ha=>rw [List.mem_singleton] at ha;subst ha;exact .base List.mem_cons_self
  |step _ e hq ih=>exact .step ih ((yC _ _).mp e) (List.mem_map_of_mem (List.mem_cons_of_mem _ hq))
 ·have key:∀ p,lU Nq [cP c] ((c::r).map cP) p->∃ t,p=cP t/\lU Nb [c] r t:=by
   intro p h
   induction h with
   |base ha=>rw [List.mem_singleton] at ha;exact ⟨c,ha,.base List.mem_cons_self⟩
   |step _ e hq ih=>
    obtain ⟨t,rfl,ht⟩:=ih
    obtain ⟨u,hu,rfl⟩:=List.mem_map.mp hq
    refine ⟨u,rfl,?_⟩
    rcases List.mem_cons.mp hu with rfl|hu
    ·exact .base List.mem_cons_self
    ·exact .step ht ((yC _ _).mpr e) hu
  intro h
  obtain ⟨t,e,ht⟩:=key _ h
  rw [iE e]
  exact ht
theorem Ev {pr:aM} (ok:dU pr):(cO pr).cells.Nodup:=by
 rw [pN ok]
 have sl:List.Sublist (((zP pr).filter kept).map fun q=>fG pr.w pr.d q.1) ((zP pr).map fun q=>fG pr.w pr.d q.1):=List.Sublist.map _ List.filter_sublist
 refine sl.nodup ?_
 have e:(zP pr).map (fun q=>fG pr.w pr.d q.1)=(List.range (pr.h * (pr.d * pr.w))).map (fG pr.w pr.d):=by
  have:(zP pr).map (fun q=>fG pr.w pr.d q.1)=((zP pr).map Prod.fst).map (fG pr.w pr.d):=by rw [List.map_map];rfl
  rw [this]
  unfold zP
  rw [List.map_fst_zip (by rw [Dz ok,List.length_range];exact Nat.le_refl _)]
 rw [e]
 refine List.Pairwise.map _ (fun a b h z=>h ?_) List.nodup_range
 have h1:=lC (show fG pr.w pr.d a=((fG pr.w pr.d b).1,(fG pr.w pr.d b).2.1,(fG pr.w pr.d b).2.2) from z)
 have h2:=lC (show fG pr.w pr.d b=((fG pr.w pr.d b).1,(fG pr.w pr.d b).2.1,(fG pr.w pr.d b).2.2) from rfl)
 rw [h1,<-h2]
theorem Gq {pr:aM} (ok:dU pr):(cO pr).whole=vT (sN pr):=by
 have ks:=nH ok
 have nd:=Ev ok
 unfold Br.Part.whole
 generalize (cO pr).cells=cl at ks nd
 generalize sN pr=cs at ks
 match cl,cs,ks,nd with
 |[],[],_,_=>rfl
 |[],_::_,ks,_=>cases ks
 |_::_,[],ks,_=>cases ks
 |c::r,k::cs,ks,nd=>
  have ndc:=List.nodup_cons.mp nd
  have hk:k.1=cP c:=(List.cons.inj ks).1
  have nd2:((k::cs).map (·.1)).Nodup:=by
   rw [ks]
   exact List.Pairwise.map _ (fun a b h z=>h (iE z)) nd
  rw [Bool.eq_iff_iff,Qv nd2,ks,hk]
  show (Br.apartFrom r.length [c] r).isEmpty=true↔_
  rw [List.isEmpty_iff,xL (Nat.le_refl _) (fun x hx=>by rw [List.mem_singleton] at hx;subst hx;exact ndc.1)]
  constructor
  ·intro h p hp
   obtain ⟨s,hs,rfl⟩:=List.mem_map.mp hp
   rcases List.mem_cons.mp hs with rfl|hs
   ·exact .base List.mem_cons_self
   ·exact yP.mp (h s hs)
  ·exact fun h s hs=>yP.mpr (h _ (List.mem_map_of_mem (List.mem_cons_of_mem _ hs)))
theorem Lq {pr:aM} (ok:dU pr):iK (cO pr)=gK pr:=by
 unfold iK gK An
 rw [Fw ok,Fs ok,Fn ok,Gq ok]
abbrev Fy (l:List Int):Br.Bytes:=BuildsNeutral.text l
def Nc (l:List Int):Prop:=∀ x∈l,0<=x/\x<=255
theorem zZ:∀ {l:List Int},Nc l->aW (Fy l)=l
 |[],_=>rfl
 |x::r,h=>by
  have h1:=h x List.mem_cons_self
  have ih:=zZ (l:=r) fun y hy=>h y (List.mem_cons_of_mem _ hy)
  have e:((UInt8.ofNat x.toNat).toNat:Int)=x:=by
   rw [UInt8.toNat_ofNat']
   omega
  show ((UInt8.ofNat x.toNat).toNat:Int)::aW (Fy r)=x::r
  rw [ih,e]
def aBa (tc tb:Br.Bytes):Tv->Prop
 |.no n=>(n= -2/\(BrB.LOOKED<tc.length\/BrB.BUILT<tb.length))\/(n= -6/\¬(BrB.LOOKED<tc.length\/BrB.BUILT<tb.length)/\∃ e,Br.readC tc=.error e)\/(n= -8/\¬(BrB.LOOKED<tc.length\/BrB.BUILT<tb.length)/\∃ k,Br.readC tc=.ok k/\(Br.wrong k).isSome=true)
 |.bad i=>¬(BrB.LOOKED<tc.length\/BrB.BUILT<tb.length)/\∃ k,Br.readC tc=.ok k/\¬(Br.wrong k).isSome=true/\Br.readB k tb=.error i
 |.ok prs nm ls=>¬(BrB.LOOKED<tc.length\/BrB.BUILT<tb.length)/\(∀ pr∈prs,dU pr)/\Br.readC tc=.ok (prs.map cO)/\¬(Br.wrong (prs.map cO)).isSome=true/\∃ d,Br.readB (prs.map cO) tb=.ok d/\d.lines=ls.map gS/\aW d.name=nm
theorem Pc {nss:List (List Int)} {l:List Int} {b:List Int×List (List Nat)} (h:dF nss l=.ok b):∀ x∈b.1,gM x=true:=by
 unfold dF at h
 obtain ⟨_,_,h⟩:=aJ h
 obtain ⟨nm,en,h⟩:=aJ h
 obtain ⟨_,_,h⟩:=aJ h
 obtain ⟨r,_,h⟩:=aJ h
 split at h
 ·cases h
  unfold gD at en
  split at en
  ·cases en
   exact fun x hx=>oX hx
  ·cases en
 ·cases h
theorem Cz {lc lb:List Int} (hc:Nc lc) (hb:Nc lb):aBa (Fy lc) (Fy lb) (dA lc lb):=by
 have l1:lc.length=(Fy lc).length:=(List.length_map _).symm
 have l2:lb.length=(Fy lb).length:=(List.length_map _).symm
 unfold dA
 by_cases hl:1048576<lc.length\/16384<lb.length
 ·rw [if_pos hl]
  exact .inl ⟨rfl,by rw [l1,l2] at hl;exact hl⟩
 ·rw [if_neg hl]
  have hl2:¬(BrB.LOOKED<(Fy lc).length\/BrB.BUILT<(Fy lb).length):=by rw [l1,l2] at hl;exact hl
  have rc:=Rj (Fy lc)
  rw [zZ hc] at rc
  cases e:gY lc with
  |error i=>
   rw [e] at rc
   exact .inr (.inl ⟨rfl,hl2,i,rc⟩)
  |ok prs=>
   rw [e] at rc
   have rc:Br.readC (Fy lc)=.ok (prs.map cO):=rc
   have ok:=Oo e
   have wr:=Me ok fun pr hp=>Lq (ok pr hp)
   show aBa _ _ (if nD prs=true then (match dF (prs.map (·.name)) lb with
    |.error i=>.bad i
    |.ok b=>.ok prs b.1 b.2) else .no (-8))
   by_cases hk:nD prs=true
   ·rw [if_pos hk]
    rw [hk] at wr
    have nw:¬(Br.wrong (prs.map cO)).isSome=true:=by rw [wr];decide
    have rb:=Qr (Fy lb) (prs.map cO)
    have en:((prs.map cO).map fun (p:Br.Part)=>p.name).map aW=prs.map (·.name):=by
     rw [List.map_map,List.map_map]
     refine List.map_congr_left fun pr hp=>?_
     exact nV (ok pr hp)
    rw [zZ hb,en] at rb
    cases e2:dF (prs.map (·.name)) lb with
    |error i=>
     rw [e2] at rb
     exact ⟨hl2,_,rc,nw,rb⟩
    |ok b=>
     rw [e2] at rb
     exact ⟨hl2,ok,rc,nw,_,rb,rfl,Rq _ (Pc e2)⟩
   ·rw [if_neg hk]
    have:nD prs=false:=by simpa using hk
    rw [this] at wr
    exact .inr (.inr ⟨rfl,hl2,_,rc,by rw [wr];rfl⟩)
structure TP where
 W:Int
 D:Int
 Hh:Int
 cs:CL
def fP (W:Int) (p:Pl):Pl:=(p.2.1,W - 1 - p.1,p.2.2)
def Qs (W:Int) (cs:CL):CL:=cs.map fun c=>(fP W c.1,c.2)
def Jc (t:TP):TP:=⟨t.D,t.W,t.Hh,Qs t.W t.cs⟩
def gI (t:TP):Nat->TP
 |0=>t
 |n+1=>Jc (gI t n)
def vU (pr:aM):TP:=⟨pr.w,pr.d,pr.h,sN pr⟩
def lE (t:TP) (x y z:Int):Bool:=decide (64<x+t.W)||(decide (64<y+t.D)||decide (96<z+t.Hh))
def lP (x y z:Int) (p:Pl):Pl:=(x+p.1,y+p.2.1,z+p.2.2)
def Cd (x y z:Int) (cs:CL):CL:=cs.map fun c=>(lP x y z c.1,c.2)
def fX (ow cells:CL):List Int:=cells.filterMap fun c=>aY ow c.1
def lW (sg ow:CL) (c:Pl×Int):List Int:=match aY sg (oZ c.1) with
 |some s=>if fC c.2=true/\dQ s=false then (aY ow (oZ c.1)).toList else []
 |none=>[]
def oE (sg ow:CL) (c:Pl×Int):List Int:=match aY sg (oN c.1) with
 |some s=>if dQ c.2=false/\fC s=true then (aY ow (oN c.1)).toList else []
 |none=>[]
def cR (cells sg ow:CL):List Int:=cells.flatMap fun c=>lW sg ow c++oE sg ow c
def rO:List Int->Int
 |[]=>0
 |[a]=>a
 |a::r=>min a (rO r)
def dZ (x:List Nat) (k:Nat):Nat:=x.getD k 0
def tF (prs:List aM) (x:List Nat):TP:=gI ((prs[dZ x 0]?).elim ⟨0,0,0,[]⟩ vU) (dZ x 5)
def cU (prs:List aM) (x:List Nat):CL:=Cd (dZ x 2) (dZ x 3) (dZ x 4) (tF prs x).cs
def cZ (prs:List aM):Nat->CL->CL->List (List Nat)->List Int
 |_,_,_,[]=>[]
 |j,sg,ow,x::r=>
  if lE (tF prs x) (dZ x 2) (dZ x 3) (dZ x 4)=true then [1,j,j] else
  if 0<(fX ow (cU prs x)).length then [2,j,rO (fX ow (cU prs x))] else
  if 0<(cR (cU prs x) sg ow).length then [3,j,rO (cR (cU prs x) sg ow)] else
  cZ prs (j+1) (sg++cU prs x) (ow++(cU prs x).map fun c=>(c.1,(j:Int))) r
theorem uE:∀ {l:List Int},l≠[]->rO l∈l
 |[],h=>absurd rfl h
 |[a],_=>List.mem_cons_self
 |a::b::r,_=>by
  have ih:=uE (l:=b::r) (by simp)
  show min a (rO (b::r))∈a::b::r
  rcases Int.le_total a (rO (b::r)) with h|h
  ·rw [Int.min_eq_left h];exact List.mem_cons_self
  ·rw [Int.min_eq_right h];exact List.mem_cons_of_mem _ ih
theorem Ai:∀ {l:List Int} {y:Int},y∈l->rO l<=y
 |[],y,h=>by cases h
 |[a],y,h=>by rw [List.mem_singleton] at h;subst h;exact Int.le_refl _
 |a::b::r,y,h=>by
  show min a (rO (b::r))<=y
  rcases List.mem_cons.mp h with rfl|h
  ·exact Int.min_le_left _ _
  ·have:=Ai h
   have:=Int.min_le_right a (rO (b::r))
   omega
theorem Jy {l:List Int} {m:Int} (h1:m∈l) (h2:∀ y∈l,m<=y):m=rO l:=by
 have a:=Ai h1
 have b:=h2 _ (uE (l:=l) (by rintro rfl;cases h1))
 omega
structure Zh (p:Br.Part):Prop where
 w:1<=p.wide
 d:1<=p.deep
 h:1<=p.high
 l:p.places.length=p.high * (p.deep * p.wide)
theorem Dq {p:Br.Part} (ok:Zh p) {f:Br.Place->Bool} (f0:f .none=false) {s:lG}:s∈p.such f↔f (p.at_ s.1 s.2.1 s.2.2)=true:=by
 obtain ⟨x,y,z⟩:=s
 unfold Br.Part.such Br.Part.at_
 rw [pS ok.w ok.d,List.mem_map]
 have hN:∀ i,i<p.high * (p.deep * p.wide)->i % p.wide<p.wide/\i / p.wide % p.deep<p.deep/\i / p.wide / p.deep<p.high:=fun i hi=>by
  refine ⟨Nat.mod_lt _ ok.w,Nat.mod_lt _ ok.d,?_⟩
  rw [Nat.div_div_eq_div_mul]
  apply Nat.div_lt_of_lt_mul
  rw [Nat.mul_comm,Nat.mul_comm p.wide]
  exact hi
 constructor
 ·rintro ⟨⟨t,pl⟩,hm,e⟩
  obtain ⟨hz,hf⟩:=List.mem_filter.mp hm
  obtain ⟨i,e1⟩:=List.mem_iff_getElem?.mp hz
  rw [List.getElem?_zip_eq_some] at e1
  obtain ⟨e1,e2⟩:=e1
  have hi:i<p.high * (p.deep * p.wide):=by rw [<-ok.l];exact (List.getElem?_eq_some_iff.mp e2).1
  rw [List.getElem?_map,List.getElem?_range hi] at e1
  have e1:fG p.wide p.deep i=t:=by simpa using e1
  have e:t=(x,y,z):=e
  subst e
  have e3:=lC e1
  have h3:=hN i hi
  unfold fG at e1
  simp only [Prod.mk.injEq] at e1
  show f (if x<p.wide/\y<p.deep/\z<p.high then _ else _)=true
  rw [if_pos (by omega),List.getD_eq_getElem?_getD]
  show f ((p.places[(z * p.deep+y) * p.wide+x]?).getD .none)=true
  rw [<-e3,e2]
  exact hf
 ·intro h
  have h:f (if x<p.wide/\y<p.deep/\z<p.high then p.places.getD ((z * p.deep+y) * p.wide+x) .none else .none)=true:=h
  split at h
  ·rename_i hr
   have hlt:(z * p.deep+y) * p.wide+x<p.high * (p.deep * p.wide):=by
    have h1:(z * p.deep+y)+1<=p.high * p.deep:=by
     have:(z+1) * p.deep<=p.high * p.deep:=Nat.mul_le_mul_right _ hr.2.2
     rw [Nat.succ_mul] at this
     omega
    have h2:=Nat.mul_le_mul_right p.wide h1
    rw [Nat.succ_mul,Nat.mul_assoc] at h2
    omega
   rw [List.getD_eq_getElem?_getD] at h
   have hp:(z * p.deep+y) * p.wide+x<p.places.length:=by rw [ok.l];exact hlt
   rw [List.getElem?_eq_getElem hp] at h
   refine ⟨((x,y,z),p.places[(z * p.deep+y) * p.wide+x]),List.mem_filter.mpr ⟨?_,h⟩,rfl⟩
   refine List.mem_iff_getElem?.mpr ⟨(z * p.deep+y) * p.wide+x,?_⟩
   rw [List.getElem?_zip_eq_some]
   refine ⟨?_,List.getElem?_eq_getElem hp⟩
   rw [List.getElem?_map,List.getElem?_range hlt]
   show some (fG _ _ _)=_
   rw [Hc hr.1 hr.2.1]
  ·rw [f0] at h;cases h
structure Xq (t:TP) (p:Br.Part):Prop where
 sh:Zh p
 w:t.W=p.wide
 d:t.D=p.deep
 h:t.Hh=p.high
 nd:(t.cs.map (·.1)).Nodup
 mem:∀ (q:Pl) (v:Int),(q,v)∈t.cs↔∃ s:lG,q=cP s/\v∈cK/\(p.at_ s.1 s.2.1 s.2.2).isCell=true/\p.at_ s.1 s.2.1 s.2.2=oF v
theorem Cy {p:Br.Part} {x y z:Nat} (h:(p.at_ x y z).isCell=true):x<p.wide/\y<p.deep/\z<p.high:=by
 unfold Br.Part.at_ at h
 split at h
 ·rename_i hr;exact hr
 ·cases h
theorem Tm {pr:aM} (ok:dU pr):Xq (vU pr) (cO pr):=by
 have hl:(cO pr).places.length=pr.h * (pr.d * pr.w):=by rw [gF,List.length_map,Dz ok]
 refine ⟨⟨ok.w1,ok.d1,ok.h1,hl⟩,rfl,rfl,rfl,?_,?_⟩
 ·show ((sN pr).map (·.1)).Nodup
  rw [nH ok]
  exact List.Pairwise.map _ (fun a b h z=>h (iE z)) (Ev ok)
 ·intro q v
  show (q,v)∈sN pr↔_
  rw [xS ok,List.mem_map]
  constructor
  ·rintro ⟨⟨i,s⟩,hm,e⟩
   obtain ⟨hz,hk⟩:=List.mem_filter.mp hm
   cases e
   have hc:fG pr.w pr.d i∈(cO pr).cells:=by rw [pN ok];exact List.mem_map.mpr ⟨_,hm,rfl⟩
   have hc2:=(pY ok (fG pr.w pr.d i).1 (fG pr.w pr.d i).2.1 (fG pr.w pr.d i).2.2).mpr hc
   refine ⟨fG pr.w pr.d i,rfl,rR ok hz,hc2,?_⟩
   have hin:=Cy hc2
   have e2:=lC (w:=pr.w) (d:=pr.d) (i:=i) (x:=(fG pr.w pr.d i).1) (y:=(fG pr.w pr.d i).2.1) (z:=(fG pr.w pr.d i).2.2) rfl
   unfold Br.Part.at_
   rw [if_pos hin,gF,List.getD_eq_getElem?_getD,List.getElem?_map]
   show ((pr.rows.flatten[((fG pr.w pr.d i).2.2 * pr.d+(fG pr.w pr.d i).2.1) * pr.w+(fG pr.w pr.d i).1]?).map oF).getD .none=_
   rw [<-e2,(Hy ok).mp hz]
   rfl
  ·rintro ⟨s,rfl,hv,hc,he⟩
   have hin:=Cy hc
   unfold Br.Part.at_ at he
   rw [if_pos hin,gF,List.getD_eq_getElem?_getD,List.getElem?_map] at he
   have he:((pr.rows.flatten[(s.2.2 * pr.d+s.2.1) * pr.w+s.1]?).map oF).getD .none=oF v:=he
   have hc':(oF v).isCell=true:=by
    unfold Br.Part.at_ at hc
    rw [if_pos hin,gF,List.getD_eq_getElem?_getD,List.getElem?_map] at hc
    rw [<-he];exact hc
   cases e:pr.rows.flatten[(s.2.2 * pr.d+s.2.1) * pr.w+s.1]? with
   |none=>rw [e] at he;rw [<-he] at hc';cases hc'
   |some u=>
    rw [e] at he
    have he:oF u=oF v:=he
    have hz:=(Hy ok).mpr e
    have hu:=rR ok hz
    have huv:u=v:=by
     simp only [cK,List.mem_cons,List.not_mem_nil,or_false] at hu hv
     rcases hu with rfl|rfl|rfl|rfl|rfl<;>rcases hv with rfl|rfl|rfl|rfl|rfl<;>first|rfl|(revert he;decide)
    subst huv
    refine ⟨(_,u),List.mem_filter.mpr ⟨hz,?_⟩,?_⟩
    ·rw [mZ] at hc';exact hc'
    ·have hs:fG pr.w pr.d ((s.2.2 * pr.d+s.2.1) * pr.w+s.1)=s:=Hc (w:=pr.w) (d:=pr.d) hin.1 hin.2.1
     show (cP (fG pr.w pr.d ((s.2.2 * pr.d+s.2.1) * pr.w+s.1)),u)=_
     rw [hs]
theorem Od {p:Br.Part}:p.turn.places.length=p.high * (p.wide * p.deep):=by
 show ((List.range p.high).flatMap fun (z:Nat)=>(List.range p.wide).flatMap fun (y:Nat)=>(List.range p.deep).map fun (x:Nat)=>p.places.toArray.getD ((z * p.deep+x) * p.wide+(p.wide - 1 - y)) .none).length=_
 refine lD (fun z=>?_) _
 refine lD (fun y=>?_) _
 simp
theorem Hr {p:Br.Part} (ok:Zh p) {x y z:Nat} (hx:x<p.deep) (hy:y<p.wide) (hz:z<p.high):p.turn.at_ x y z=p.at_ (p.wide - 1 - y) x z:=by
 have hw:=ok.w
 have hd:=ok.d
 have l1:∀ y z:Nat,((List.range p.deep).map fun (x:Nat)=>p.places.toArray.getD ((z * p.deep+x) * p.wide+(p.wide - 1 - y)) Br.Place.none).length=p.deep:=by simp
 have l2:∀ z:Nat,((List.range p.wide).flatMap fun (y:Nat)=>(List.range p.deep).map fun (x:Nat)=>p.places.toArray.getD ((z * p.deep+x) * p.wide+(p.wide - 1 - y)) Br.Place.none).length=p.wide * p.deep:=fun z=>lD (fun y=>l1 y z) _
 have b1:y * p.deep+x<p.wide * p.deep:=by
  have:(y+1) * p.deep<=p.wide * p.deep:=Nat.mul_le_mul_right _ hy
  rw [Nat.succ_mul] at this
  omega
 have b2:z * (p.wide * p.deep)+(y * p.deep+x)<p.high * (p.wide * p.deep):=by
  have:(z+1) * (p.wide * p.deep)<=p.high * (p.wide * p.deep):=Nat.mul_le_mul_right _ hz
  rw [Nat.succ_mul] at this
  omega
 have e0:(z * p.wide+y) * p.deep+x=z * (p.wide * p.deep)+(y * p.deep+x):=by
  rw [Nat.add_mul,Nat.mul_assoc,Nat.add_assoc]
 unfold Br.Part.at_
 rw [if_pos (show x<p.turn.wide/\y<p.turn.deep/\z<p.turn.high from ⟨hx,hy,hz⟩),if_pos (by omega)]
 rw [List.getD_eq_getElem?_getD,List.getD_eq_getElem?_getD]
 show (((List.range p.high).flatMap fun (z:Nat)=>(List.range p.wide).flatMap fun (y:Nat)=>(List.range p.deep).map fun (x:Nat)=>p.places.toArray.getD ((z * p.deep+x) * p.wide+(p.wide - 1 - y)) Br.Place.none)[(z * p.wide+y) * p.deep+x]?).getD .none=_
 rw [e0,vE (Nat.mul_pos hw hd) l2 _ _ b2]
 have e1:(z * (p.wide * p.deep)+(y * p.deep+x)) / (p.wide * p.deep)=z:=by
  rw [Nat.add_comm,Nat.add_mul_div_right _ _ (Nat.mul_pos hw hd),Nat.div_eq_of_lt b1,Nat.zero_add]
 have e2:(z * (p.wide * p.deep)+(y * p.deep+x)) % (p.wide * p.deep)=y * p.deep+x:=by
  rw [Nat.add_comm,Nat.add_mul_mod_self_right,Nat.mod_eq_of_lt b1]
 rw [e1,e2,vE hd (fun y=>l1 y z) _ _ b1]
 have e3:(y * p.deep+x) / p.deep=y:=by
  rw [Nat.add_comm,Nat.add_mul_div_right _ _ hd,Nat.div_eq_of_lt hx,Nat.zero_add]
 have e4:(y * p.deep+x) % p.deep=x:=by rw [Nat.add_comm,Nat.add_mul_mod_self_right,Nat.mod_eq_of_lt hx]
 rw [e3,e4,List.getElem?_map,List.getElem?_range hx]
 show p.places.toArray.getD ((z * p.deep+x) * p.wide+(p.wide - 1 - y)) .none=_
 simp
theorem Qp {t:TP} {p:Br.Part} (h:Xq t p):Xq (Jc t) p.turn:=by
 obtain ⟨sh,hw,hd,hh,nd,mem⟩:=h
 have sh2:Zh p.turn:=⟨sh.d,sh.w,sh.h,Od⟩
 have inj:∀ a b:Pl,fP t.W a=fP t.W b->a=b:=by
  rintro ⟨x,y,z⟩ ⟨u,v,w⟩ e
  unfold fP at e
  simp only [Prod.mk.injEq] at e ⊢
  omega
 refine ⟨sh2,hd,hw,hh,?_,?_⟩
 ·show (((t.cs).map fun c=>(fP t.W c.1,c.2)).map (·.1)).Nodup
  rw [List.map_map]
  have:(t.cs.map ((·.1)∘fun c:Pl×Int=>(fP t.W c.1,c.2)))=(t.cs.map (·.1)).map (fP t.W):=by rw [List.map_map];rfl
  rw [this]
  exact List.Pairwise.map _ (fun a b h z=>h (inj a b z)) nd
 ·intro q v
  show (q,v)∈t.cs.map (fun c=>(fP t.W c.1,c.2))↔_
  rw [List.mem_map]
  constructor
  ·rintro ⟨⟨c,u⟩,hc,e⟩
   obtain ⟨s,rfl,hv,hcell,hpl⟩:=(mem c u).mp hc
   cases e
   have hin:=Cy hcell
   have hy:p.wide - 1 - s.1<p.wide:=by omega
   have ta:=Hr sh hin.2.1 hy hin.2.2
   rw [show p.wide - 1 - (p.wide - 1 - s.1)=s.1 by omega] at ta
   refine ⟨(s.2.1,p.wide - 1 - s.1,s.2.2),?_,hv,?_,?_⟩
   ·unfold fP cP
    rw [hw]
    refine Prod.ext rfl (Prod.ext ?_ rfl)
    show (p.wide:Int) - 1 - (s.1:Int)=((p.wide - 1 - s.1:Nat):Int)
    omega
   ·show (p.turn.at_ s.2.1 (p.wide - 1 - s.1) s.2.2).isCell=true
    rw [ta];exact hcell
   ·show p.turn.at_ s.2.1 (p.wide - 1 - s.1) s.2.2=_
    rw [ta];exact hpl
  ·rintro ⟨s,rfl,hv,hcell,hpl⟩
   have hin:s.1<p.deep/\s.2.1<p.wide/\s.2.2<p.high:=Cy hcell
   have ta:=Hr sh hin.1 hin.2.1 hin.2.2
   rw [ta] at hcell hpl
   refine ⟨(cP (p.wide - 1 - s.2.1,s.1,s.2.2),v),(mem _ _).mpr ⟨_,rfl,hv,hcell,hpl⟩,?_⟩
   unfold fP cP
   rw [hw]
   refine Prod.ext (Prod.ext rfl (Prod.ext ?_ rfl)) rfl
   show (p.wide:Int) - 1 - ((p.wide - 1 - s.2.1:Nat):Int)=(s.2.1:Int)
   omega
theorem qZ {t:TP} {p:Br.Part} (h:Xq t p):∀ n,Xq (gI t n) (p.turned n)
 |0=>h
 |n+1=>Qp (qZ h n)
structure xG (sh:Br.Shape) (cl:CL):Prop where
 c:∀ s,s∈sh.cells↔∃ v,(cP s,v)∈cl
 st:∀ s,s∈sh.studs↔∃ v,(cP s,v)∈cl/\fC v=true
 tb:∀ s,s∈sh.tubes↔∃ v,(cP s,v)∈cl/\dQ v=true
 nd:(cl.map (·.1)).Nodup
 ps:∀ q v,(q,v)∈cl->∃ s:lG,q=cP s
 box:∀ s∈sh.cells,(sh.at_.1<=s.1/\s.1<sh.at_.1+sh.size.1)/\(sh.at_.2.1<=s.2.1/\s.2.1<sh.at_.2.1+sh.size.2.1)/\(sh.at_.2.2<=s.2.2/\s.2.2<sh.at_.2.2+sh.size.2.2)
theorem Nv:∀ {cl:CL} {q:Pl} {u v:Int},(cl.map (·.1)).Nodup->(q,u)∈cl->(q,v)∈cl->u=v
 |[],q,u,v,_,h,_=>by cases h
 |c::r,q,u,v,nd,h1,h2=>by
  have nd:=List.nodup_cons.mp nd
  rcases List.mem_cons.mp h1 with e1|h1
  ·rcases List.mem_cons.mp h2 with e2|h2
   ·rw [<-e1] at e2;cases e2;rfl
   ·exact absurd (List.mem_map.mpr ⟨_,h2,by rw [<-e1]⟩) nd.1
  ·rcases List.mem_cons.mp h2 with e2|h2
   ·exact absurd (List.mem_map.mpr ⟨_,h1,by rw [<-e2]⟩) nd.1
   ·exact Nv nd.2 h1 h2
theorem qK {cl:CL} {q:Pl} {v:Int} (h:aY cl q=some v):(q,v)∈cl:=by
 unfold aY at h
 obtain ⟨c,e,rfl⟩:=Option.map_eq_some_iff.mp h
 have h1:=List.find?_some e
 have h1:c.1=q:=by simpa using h1
 rw [<-h1]
 exact List.mem_of_find?_eq_some e
theorem Rx {cl:CL} {q:Pl} {v:Int} (nd:(cl.map (·.1)).Nodup):aY cl q=some v↔(q,v)∈cl:=by
 refine ⟨qK,fun h=>?_⟩
 have hs:(aY cl q).isSome=true:=dJ.mpr ⟨_,h,rfl⟩
 obtain ⟨u,e⟩:=Option.isSome_iff_exists.mp hs
 rw [e,Nv nd (qK e) h]
theorem uQ (a b:CL) (q:Pl):aY (a++b) q=(aY a q).or (aY b q):=by
 unfold aY
 rw [List.find?_append]
 cases List.find? (fun c=>decide (c.1=q)) a<;>rfl
theorem Fe (pl:Br.Place):∃ v∈cK,pl=oF v:=by
 cases pl with
 |none=>exact ⟨46,by decide,by decide⟩
 |cell a b=>cases a<;>cases b<;>first|exact ⟨35,by decide,by decide⟩|exact ⟨115,by decide,by decide⟩|exact ⟨116,by decide,by decide⟩|exact ⟨98,by decide,by decide⟩
theorem Ms {pl:Br.Place} (h:pl.stud=true):pl.isCell=true:=by cases pl;cases h;rfl
theorem La {pl:Br.Place} (h:pl.tube=true):pl.isCell=true:=by cases pl;cases h;rfl
theorem Ep {t:TP} {p:Br.Part} (h:Xq t p) {f:Br.Place->Bool} {g:Int->Bool} (f0:∀ pl,f pl=true->pl.isCell=true) (hg:∀ v∈cK,v≠46->f (oF v)=g v) (s:lG):s∈p.such f↔∃ v,(cP s,v)∈t.cs/\g v=true:=by
 have fn:f .none=false:=by
  cases e:f .none with
  |false=>rfl
  |true=>have:=f0 _ e;cases this
 rw [Dq h.sh fn]
 constructor
 ·intro hf
  have hc:=f0 _ hf
  obtain ⟨v,hv,e⟩:=Fe (p.at_ s.1 s.2.1 s.2.2)
  refine ⟨v,(h.mem _ _).mpr ⟨s,rfl,hv,hc,e⟩,?_⟩
  rw [<-hg v hv (by rintro rfl;rw [e] at hc;revert hc;decide),<-e]
  exact hf
 ·rintro ⟨v,hm,hgv⟩
  obtain ⟨s2,e,hv,hc,e2⟩:=(h.mem _ _).mp hm
  have e:=iE e
  subst e
  rw [e2,hg v hv (by rintro rfl;rw [e2] at hc;revert hc;decide)]
  exact hgv
theorem Uh {t:TP} {p:Br.Part} (h:Xq t p) (x y z:Nat) (im:Bool) (put:lG->lG) (hput:∀ s,put s=(x+s.1,y+s.2.1,z+s.2.2)):xG ⟨(x,y,z),(p.wide,p.deep,p.high),im,p.cells.map put,p.studs.map put,p.tubes.map put⟩ (Cd x y z t.cs):=by
 have key:∀ (f:Br.Place->Bool) (g:Int->Bool),(∀ pl,f pl=true->pl.isCell=true)->(∀ v∈cK,v≠46->f (oF v)=g v)->∀ s:lG,s∈(p.such f).map put↔∃ v,(cP s,v)∈Cd x y z t.cs/\g v=true:=by
  intro f g f0 hg s
  rw [List.mem_map]
  constructor
  ·rintro ⟨s0,h0,rfl⟩
   obtain ⟨v,hm,hgv⟩:=(Ep h f0 hg s0).mp h0
   refine ⟨v,List.mem_map.mpr ⟨_,hm,?_⟩,hgv⟩
   rw [hput]
   rfl
  ·rintro ⟨v,hm,hgv⟩
   obtain ⟨⟨q,u⟩,hc,e⟩:=List.mem_map.mp hm
   obtain ⟨e1,e2⟩:=Prod.mk.inj e
   have e2:u=v:=e2
   subst e2
   obtain ⟨s0,rfl,_⟩:=(h.mem q u).mp hc
   refine ⟨s0,(Ep h f0 hg s0).mpr ⟨u,hc,hgv⟩,?_⟩
   apply iE
   rw [hput,<-e1]
   rfl
 have inj:∀ a b:Pl,lP x y z a=lP x y z b->a=b:=by
  rintro ⟨a,b,c⟩ ⟨u,v,w⟩ e
  unfold lP at e
  simp only [Prod.mk.injEq] at e ⊢
  omega
 refine ⟨fun s=>?_,fun s=>?_,fun s=>?_,?_,?_,?_⟩
 ·have k:=key Br.Place.isCell (fun _=>true) (fun _ h=>h) (fun v hv hn=>by rw [mZ];simp [hn]) s
  have k:s∈p.cells.map put↔_:=k
  show s∈p.cells.map put↔_
  rw [k]
  exact ⟨fun ⟨v,h1,_⟩=>⟨v,h1⟩,fun ⟨v,h1⟩=>⟨v,h1,rfl⟩⟩
 ·exact key Br.Place.stud fC (fun _ h=>Ms h) (fun v hv _=>wC hv) s
 ·exact key Br.Place.tube dQ (fun _ h=>La h) (fun v hv _=>wR hv) s
 ·unfold Cd
  rw [List.map_map]
  have:(t.cs.map ((·.1)∘fun c:Pl×Int=>(lP x y z c.1,c.2)))=(t.cs.map (·.1)).map (lP x y z):=by rw [List.map_map];rfl
  rw [this]
  exact List.Pairwise.map _ (fun a b h z=>h (inj a b z)) h.nd
 ·intro q v hm
  obtain ⟨⟨q0,u⟩,hc,e⟩:=List.mem_map.mp hm
  obtain ⟨s0,rfl,_⟩:=(h.mem q0 u).mp hc
  obtain ⟨e1,e2⟩:=Prod.mk.inj e
  exact ⟨(x+s0.1,y+s0.2.1,z+s0.2.2),by rw [<-e1];rfl⟩
 ·intro s hs
  obtain ⟨s0,h0,rfl⟩:=List.mem_map.mp hs
  have h0:s0∈p.such Br.Place.isCell:=h0
  rw [Dq h.sh (by rfl)] at h0
  have:=Cy h0
  rw [hput]
  show (x<=x+s0.1/\x+s0.1<x+p.wide)/\(y<=y+s0.2.1/\y+s0.2.1<y+p.deep)/\(z<=z+s0.2.2/\z+s0.2.2<z+p.high)
  omega
theorem zL {i j:Br.Shape} {ci cj:CL} (hi:xG i ci) (hj:xG j cj):Br.clash i j=true↔∃ q v u,(q,v)∈ci/\(q,u)∈cj:=by
 unfold Br.clash
 rw [Bool.and_eq_true,List.any_eq_true]
 constructor
 ·rintro ⟨_,s,h1,h2⟩
  rw [List.contains_iff_mem] at h2
  obtain ⟨v,hv⟩:=(hi.c s).mp h1
  obtain ⟨u,hu⟩:=(hj.c s).mp h2
  exact ⟨_,v,u,hv,hu⟩
 ·rintro ⟨q,v,u,hv,hu⟩
  obtain ⟨s,rfl⟩:=hi.ps q v hv
  have m1:=(hi.c s).mpr ⟨v,hv⟩
  have m2:=(hj.c s).mpr ⟨u,hu⟩
  have b1:=hi.box s m1
  have b2:=hj.box s m2
  refine ⟨?_,s,m1,List.contains_iff_mem.mpr m2⟩
  unfold Br.meet
  simp only [Bool.and_eq_true,decide_eq_true_iff]
  omega
theorem oA {i j:Br.Shape} {ci cj:CL} (hi:xG i ci) (hj:xG j cj):Br.stuck i j=true↔∃ q v u,(q,v)∈ci/\fC v=true/\(oZ q,u)∈cj/\dQ u=false:=by
 unfold Br.stuck
 rw [Bool.and_eq_true,List.any_eq_true]
 constructor
 ·rintro ⟨_,s,h1,h2⟩
  rw [Bool.and_eq_true,Bool.not_eq_true',<-Bool.not_eq_true,List.contains_iff_mem,List.contains_iff_mem] at h2
  obtain ⟨v,hv,hs⟩:=(hi.st s).mp h1
  obtain ⟨u,hu⟩:=(hj.c _).mp h2.1
  refine ⟨_,v,u,hv,hs,hu,?_⟩
  cases e:dQ u with
  |false=>rfl
  |true=>exact absurd ((hj.tb _).mpr ⟨u,hu,e⟩) h2.2
 ·rintro ⟨q,v,u,hv,hs,hu,ht⟩
  obtain ⟨s,rfl⟩:=hi.ps q v hv
  have m1:=(hi.c s).mpr ⟨v,hv⟩
  have m2:Br.above s∈j.cells:=(hj.c (Br.above s)).mpr ⟨u,hu⟩
  have b1:=hi.box s m1
  have b2:=hj.box _ m2
  refine ⟨?_,s,(hi.st s).mpr ⟨v,hv,hs⟩,?_⟩
  ·unfold Br.meet
   simp only [Bool.and_eq_true,decide_eq_true_iff]
   unfold Br.above at b2
   simp only at b2
   omega
  ·rw [Bool.and_eq_true,Bool.not_eq_true',<-Bool.not_eq_true,List.contains_iff_mem,List.contains_iff_mem]
   refine ⟨m2,fun z=>?_⟩
   obtain ⟨u2,hu2,ht2⟩:=(hj.tb _).mp z
   rw [Nv hj.nd hu (show (oZ (cP s),u2)∈cj from hu2),ht2] at ht
   cases ht
structure aP (zs:List (Br.Shape×CL)) (sg ow:CL):Prop where
 rep:∀ z∈zs,xG z.1 z.2
 sgO:∀ q v,aY sg q=some v↔∃ (i:Nat) (z:Br.Shape×CL),zs[i]?=some z/\(q,v)∈z.2
 owO:∀ q k,aY ow q=some k↔∃ (i:Nat) (z:Br.Shape×CL) (v:Int),zs[i]?=some z/\(q,v)∈z.2/\k=(i:Int)
theorem Jp {zs:List (Br.Shape×CL)} {f:Br.Shape->Bool} {L:List Int} (h:∀ k:Int,k∈L↔∃ (i:Nat) (z:Br.Shape×CL),zs[i]?=some z/\f z.1=true/\k=(i:Int)):
  (L=[]->(zs.map (·.1)).findIdx? f=none)/\(L≠[]->∃ i:Nat,(zs.map (·.1)).findIdx? f=some i/\rO L=(i:Int)):=by
 constructor
 ·rintro rfl
  rw [List.findIdx?_eq_none_iff]
  intro x hx
  obtain ⟨z,hz,rfl⟩:=List.mem_map.mp hx
  obtain ⟨i,hi⟩:=List.mem_iff_getElem?.mp hz
  cases e:f z.1 with
  |false=>rfl
  |true=>exact absurd ((h i).mpr ⟨i,z,hi,e,rfl⟩) List.not_mem_nil
 ·intro hne
  have hm:=uE hne
  obtain ⟨i,z,hi,hf,e⟩:=(h _).mp hm
  refine ⟨i,?_,e⟩
  obtain ⟨hlt,hz⟩:=List.getElem?_eq_some_iff.mp hi
  rw [List.findIdx?_eq_some_iff_getElem]
  refine ⟨by rw [List.length_map];exact hlt,by rw [List.getElem_map,hz];exact hf,fun j hj=>?_⟩
  have hj2:j<zs.length:=by omega
  rw [List.getElem_map]
  intro hfj
  have:=Ai ((h (j:Int)).mpr ⟨j,zs[j],List.getElem?_eq_getElem hj2,hfj,rfl⟩)
  omega
theorem Uy {zs:List (Br.Shape×CL)} {sg ow cl:CL} {sh:Br.Shape} (I:aP zs sg ow) (hs:xG sh cl) (k:Int):k∈fX ow cl↔∃ (i:Nat) (z:Br.Shape×CL),zs[i]?=some z/\Br.clash z.1 sh=true/\k=(i:Int):=by
 unfold fX
 rw [List.mem_filterMap]
 constructor
 ·rintro ⟨⟨q,u⟩,hc,e⟩
  obtain ⟨i,z,v,hi,hv,rfl⟩:=(I.owO _ _).mp e
  exact ⟨i,z,hi,(zL (I.rep z (List.mem_of_getElem? hi)) hs).mpr ⟨q,v,u,hv,hc⟩,rfl⟩
 ·rintro ⟨i,z,hi,hcl,rfl⟩
  obtain ⟨q,v,u,hv,hu⟩:=(zL (I.rep z (List.mem_of_getElem? hi)) hs).mp hcl
  exact ⟨(q,u),hu,(I.owO _ _).mpr ⟨i,z,v,hi,hv,rfl⟩⟩
theorem aAa (q:Pl):oZ (oN q)=q:=by
 unfold oZ oN
 refine Prod.ext rfl (Prod.ext rfl ?_)
 show q.2.2 - 1+1=q.2.2
 omega
theorem Vp (q:Pl):oN (oZ q)=q:=by
 unfold oZ oN
 refine Prod.ext rfl (Prod.ext rfl ?_)
 show q.2.2+1 - 1=q.2.2
 omega
theorem Ea {sg ow:CL} {c:Pl×Int} {k:Int}:k∈lW sg ow c↔fC c.2=true/\(∃ s,aY sg (oZ c.1)=some s/\dQ s=false)/\aY ow (oZ c.1)=some k:=by
 unfold lW
 cases e:aY sg (oZ c.1) with
 |none=>simp
 |some s=>
  simp only [Option.some.injEq,exists_eq_left']
  split
  ·rename_i h
   rw [Option.mem_toList]
   exact ⟨fun z=>⟨h.1,h.2,z⟩,fun z=>z.2.2⟩
  ·rename_i h
   exact ⟨fun z=>absurd z List.not_mem_nil,fun z=>absurd ⟨z.1,z.2.1⟩ h⟩
theorem Cu {sg ow:CL} {c:Pl×Int} {k:Int}:k∈oE sg ow c↔dQ c.2=false/\(∃ s,aY sg (oN c.1)=some s/\fC s=true)/\aY ow (oN c.1)=some k:=by
 unfold oE
 cases e:aY sg (oN c.1) with
 |none=>simp
 |some s=>
  simp only [Option.some.injEq,exists_eq_left']
  split
  ·rename_i h
   rw [Option.mem_toList]
   exact ⟨fun z=>⟨h.1,h.2,z⟩,fun z=>z.2.2⟩
  ·rename_i h
   exact ⟨fun z=>absurd z List.not_mem_nil,fun z=>absurd ⟨z.1,z.2.1⟩ h⟩
theorem Uq {zs:List (Br.Shape×CL)} {sg ow cl:CL} {sh:Br.Shape} (I:aP zs sg ow) (hs:xG sh cl) (k:Int):k∈cR cl sg ow↔∃ (i:Nat) (z:Br.Shape×CL),zs[i]?=some z/\(Br.stuck z.1 sh||Br.stuck sh z.1)=true/\k=(i:Int):=by
 unfold cR
 rw [List.mem_flatMap]
 have one:∀ {q:Pl} {i:Nat} {z:Br.Shape×CL} {v s k:Int},zs[i]?=some z->(q,v)∈z.2->aY sg q=some s->s=v:=by
  intro q i z v s k hi hv e
  have:=(I.sgO q v).mpr ⟨i,z,hi,hv⟩
  rw [e] at this
  exact Option.some.inj this
 constructor
 ·rintro ⟨⟨q,u⟩,hc,hk⟩
  rcases List.mem_append.mp hk with hk|hk
  ·obtain ⟨h1,⟨s,e,h2⟩,h3⟩:=Ea.mp hk
   obtain ⟨i,z,v,hi,hv,rfl⟩:=(I.owO _ _).mp h3
   have:=one (k:=0) hi hv e
   subst this
   refine ⟨i,z,hi,?_,rfl⟩
   rw [Bool.or_eq_true]
   exact .inr ((oA hs (I.rep z (List.mem_of_getElem? hi))).mpr ⟨q,u,s,hc,h1,hv,h2⟩)
  ·obtain ⟨h1,⟨s,e,h2⟩,h3⟩:=Cu.mp hk
   obtain ⟨i,z,v,hi,hv,rfl⟩:=(I.owO _ _).mp h3
   have:=one (k:=0) hi hv e
   subst this
   refine ⟨i,z,hi,?_,rfl⟩
   rw [Bool.or_eq_true]
   exact .inl ((oA (I.rep z (List.mem_of_getElem? hi)) hs).mpr ⟨oN q,s,u,hv,h2,by rw [aAa];exact hc,h1⟩)
 ·rintro ⟨i,z,hi,hst,rfl⟩
  have hz:=I.rep z (List.mem_of_getElem? hi)
  rw [Bool.or_eq_true] at hst
  rcases hst with hst|hst
  ·obtain ⟨q,v,u,hv,h1,hu,h2⟩:=(oA hz hs).mp hst
   refine ⟨(oZ q,u),hu,List.mem_append_right _ (Cu.mpr ⟨h2,⟨v,?_,h1⟩,?_⟩)⟩
   ·rw [Vp];exact (I.sgO _ _).mpr ⟨i,z,hi,hv⟩
   ·rw [Vp];exact (I.owO _ _).mpr ⟨i,z,v,hi,hv,rfl⟩
  ·obtain ⟨q,v,u,hv,h1,hu,h2⟩:=(oA hs hz).mp hst
   refine ⟨(q,v),hv,List.mem_append_left _ (Ea.mpr ⟨h1,⟨u,?_,h2⟩,?_⟩)⟩
   ·exact (I.sgO _ _).mpr ⟨i,z,hi,hu⟩
   ·exact (I.owO _ _).mpr ⟨i,z,u,hi,hu,rfl⟩
theorem Dc {cl:CL} {q:Pl} {k j:Int}:aY (cl.map fun c=>(c.1,j)) q=some k↔k=j/\∃ v,(q,v)∈cl:=by
 constructor
 ·intro h
  obtain ⟨c,hc,e⟩:=List.mem_map.mp (qK h)
  obtain ⟨e1,e2⟩:=Prod.mk.inj e
  exact ⟨e2.symm,c.2,by rw [<-e1];exact hc⟩
 ·rintro ⟨rfl,v,hv⟩
  have hs:(aY (cl.map fun c=>(c.1,k)) q).isSome=true:=dJ.mpr ⟨(q,k),List.mem_map.mpr ⟨_,hv,rfl⟩,rfl⟩
  obtain ⟨u,e⟩:=Option.isSome_iff_exists.mp hs
  obtain ⟨c,hc,e2⟩:=List.mem_map.mp (qK e)
  rw [e,<-(Prod.mk.inj e2).2]
theorem aP.next {zs:List (Br.Shape×CL)} {sg ow cl:CL} {sh:Br.Shape} (I:aP zs sg ow) (hs:xG sh cl) (h0:fX ow cl=[]):aP (zs++[(sh,cl)]) (sg++cl) (ow++cl.map fun c=>(c.1,(zs.length:Int))):=by
 have fr:∀ q v,(q,v)∈cl->aY ow q=none:=by
  intro q v hv
  cases e:aY ow q with
  |none=>rfl
  |some k=>
   have:k∈fX ow cl:=List.mem_filterMap.mpr ⟨_,hv,e⟩
   rw [h0] at this
   cases this
 have fr2:∀ q v,(q,v)∈cl->aY sg q=none:=by
  intro q v hv
  cases e:aY sg q with
  |none=>rfl
  |some k=>
   obtain ⟨i,z,hi,hz⟩:=(I.sgO _ _).mp e
   have:=(I.owO q i).mpr ⟨i,z,k,hi,hz,rfl⟩
   rw [fr q v hv] at this
   cases this
 have ix:∀ (i:Nat) (z:Br.Shape×CL),(zs++[(sh,cl)])[i]?=some z↔zs[i]?=some z\/(i=zs.length/\z=(sh,cl)):=by
  intro i z
  by_cases hi:i<zs.length
  ·rw [List.getElem?_append_left hi]
   exact ⟨fun h=>.inl h,fun h=>h.elim id fun h=>by omega⟩
  ·rw [List.getElem?_append_right (by omega)]
   constructor
   ·intro h
    have hl:=(List.getElem?_eq_some_iff.mp h).1
    rw [List.length_singleton] at hl
    have:i=zs.length:=by omega
    subst this
    rw [Nat.sub_self] at h
    exact .inr ⟨rfl,(Option.some.inj h).symm⟩
   ·rintro (h|⟨rfl,rfl⟩)
    ·exact absurd (List.getElem?_eq_some_iff.mp h).1 hi
    ·rw [Nat.sub_self];rfl
 refine ⟨fun z hz=>?_,fun q v=>?_,fun q k=>?_⟩
 ·rcases List.mem_append.mp hz with hz|hz
  ·exact I.rep z hz
  ·rw [List.mem_singleton] at hz;subst hz;exact hs
 ·rw [uQ]
  constructor
  ·intro h
   cases e:aY sg q with
   |some u=>
    rw [e] at h
    have:u=v:=Option.some.inj h
    subst this
    obtain ⟨i,z,hi,hz⟩:=(I.sgO _ _).mp e
    exact ⟨i,z,(ix _ _).mpr (.inl hi),hz⟩
   |none=>
    rw [e] at h
    exact ⟨_,_,(ix _ _).mpr (.inr ⟨rfl,rfl⟩),qK h⟩
  ·rintro ⟨i,z,hi,hz⟩
   rcases (ix _ _).mp hi with hi|⟨rfl,rfl⟩
   ·rw [(I.sgO q v).mpr ⟨i,z,hi,hz⟩];rfl
   ·rw [fr2 q v hz,(Rx hs.nd).mpr hz];rfl
 ·rw [uQ]
  constructor
  ·intro h
   cases e:aY ow q with
   |some u=>
    rw [e] at h
    have:u=k:=Option.some.inj h
    subst this
    obtain ⟨i,z,v,hi,hz,e2⟩:=(I.owO _ _).mp e
    exact ⟨i,z,v,(ix _ _).mpr (.inl hi),hz,e2⟩
   |none=>
    rw [e] at h
    obtain ⟨rfl,v,hv⟩:=Dc.mp h
    exact ⟨_,_,v,(ix _ _).mpr (.inr ⟨rfl,rfl⟩),hv,rfl⟩
  ·rintro ⟨i,z,v,hi,hz,rfl⟩
   rcases (ix _ _).mp hi with hi|⟨rfl,rfl⟩
   ·rw [(I.owO q i).mpr ⟨i,z,v,hi,hz,rfl⟩];rfl
   ·rw [fr q v hz,Dc.mpr ⟨rfl,v,hz⟩];rfl
def wrI (w:Option (Nat×Nat×Nat)):List Int:=w.elim [] fun w=>[(w.1:Int),(w.2.1:Int),(w.2.2:Int)]
theorem pP {prs:List aM} (ok:∀ pr∈prs,dU pr) {x:List Nat} (hx:dZ x 0<prs.length):xG (Br.Line.shape (prs.map cO) (gS x)) (cU prs x)/\(Br.Line.shape (prs.map cO) (gS x)).inRoom= !lE (tF prs x) (dZ x 2) (dZ x 3) (dZ x 4):=by
 have e1:prs[dZ x 0]?=some prs[dZ x 0]:=List.getElem?_eq_getElem hx
 have e2:Br.Line.of (prs.map cO) (gS x)=(cO prs[dZ x 0]).turned (dZ x 5):=by
  unfold Br.Line.of
  show ((prs.map cO).getD (dZ x 0) Br.nothing).turned (dZ x 5)=_
  rw [List.getD_eq_getElem?_getD,List.getElem?_map,e1]
  rfl
 have r0:=qZ (Tm (ok _ (List.getElem_mem hx))) (dZ x 5)
 have et:tF prs x=gI (vU prs[dZ x 0]) (dZ x 5):=by
  unfold tF
  rw [e1]
  rfl
 constructor
 ·unfold Br.Line.shape cU
  rw [e2,et]
  exact Uh r0 (dZ x 2) (dZ x 3) (dZ x 4) _ _ fun s=>rfl
 ·unfold Br.Line.shape
  rw [e2,et]
  unfold lE
  rw [r0.w,r0.d,r0.h]
  show (decide (dZ x 2+((cO prs[dZ x 0]).turned (dZ x 5)).wide<=64) && (decide (dZ x 3+((cO prs[dZ x 0]).turned (dZ x 5)).deep<=64) && decide (dZ x 4+((cO prs[dZ x 0]).turned (dZ x 5)).high<=96)))=_
  rw [Bool.eq_iff_iff]
  simp only [Bool.and_eq_true,decide_eq_true_iff,Bool.not_eq_true',Bool.or_eq_false_iff,decide_eq_false_iff_not]
  omega
theorem vN {prs:List aM} (ok:∀ pr∈prs,dU pr):∀ {ls:List (List Nat)} {zs:List (Br.Shape×CL)} {sg ow:CL},(∀ x∈ls,dZ x 0<prs.length)->aP zs sg ow->
  cZ prs zs.length sg ow ls=wrI (Br.wrongLines zs.length (zs.map (·.1)) (ls.map fun x=>Br.Line.shape (prs.map cO) (gS x)))
 |[],zs,sg,ow,_,_=>rfl
 |x::r,zs,sg,ow,hx,I=>by
  obtain ⟨sr,hroom⟩:=pP ok (hx x List.mem_cons_self)
  rw [cZ,List.map_cons,Br.wrongLines]
  generalize Br.Line.shape (prs.map cO) (gS x)=sh at sr hroom
  have im:=Jp (f:=fun i=>Br.clash i sh) (fun k=>Uy I sr k)
  have ib:=Jp (f:=fun i=>Br.stuck i sh||Br.stuck sh i) (fun k=>Uq I sr k)
  cases hl:lE (tF prs x) (dZ x 2) (dZ x 3) (dZ x 4) with
  |true=>
   rw [hl] at hroom
   rw [if_pos rfl]
   have:Br.wrongLine (zs.map (·.1)) zs.length sh=some (1,zs.length):=by
    unfold Br.wrongLine
    rw [if_pos (show sh.inRoom=false from hroom)]
   rw [this]
   rfl
  |false=>
   rw [hl] at hroom
   rw [if_neg (by decide)]
   have hroom:¬sh.inRoom=false:=by rw [hroom];decide
   by_cases h1:fX ow (cU prs x)=[]
   ·rw [if_neg (by rw [h1];decide)]
    have f1:=im.1 h1
    by_cases h2:cR (cU prs x) sg ow=[]
    ·rw [if_neg (by rw [h2];decide)]
     have f2:=ib.1 h2
     have hw:Br.wrongLine (zs.map (·.1)) zs.length sh=none:=by
      unfold Br.wrongLine
      rw [if_neg hroom,f1]
      show (match List.findIdx? _ _ with|some i=>some (3,i)|none=>none)=none
      rw [f2]
     rw [hw]
     have ih:=vN ok (ls:=r) (zs:=zs++[(sh,cU prs x)]) (fun y hy=>hx y (List.mem_cons_of_mem _ hy)) (I.next sr h1)
     rw [List.length_append,List.length_singleton,List.map_append] at ih
     exact ih
    ·rw [if_pos (List.length_pos_iff.mpr h2)]
     obtain ⟨i,f2,e⟩:=ib.2 h2
     have hw:Br.wrongLine (zs.map (·.1)) zs.length sh=some (3,i):=by
      unfold Br.wrongLine
      rw [if_neg hroom,f1]
      show (match List.findIdx? _ _ with|some i=>some (3,i)|none=>none)=some (3,i)
      rw [f2]
     rw [hw,e]
     rfl
   ·rw [if_pos (List.length_pos_iff.mpr h1)]
    obtain ⟨i,f1,e⟩:=im.2 h1
    have hw:Br.wrongLine (zs.map (·.1)) zs.length sh=some (2,i):=by
     unfold Br.wrongLine
     rw [if_neg hroom,f1]
    rw [hw,e]
    rfl
theorem rN {prs:List aM} (ok:∀ pr∈prs,dU pr) {ls:List (List Nat)} (hx:∀ x∈ls,dZ x 0<prs.length) {d:Br.Build} (hd:d.lines=ls.map gS):cZ prs 0 [] [] ls=wrI (d.wrong (prs.map cO)):=by
 have I0:aP [] [] []:=⟨fun z hz=>absurd hz List.not_mem_nil,fun q v=>(by simp [aY]),fun q k=>(by simp [aY])⟩
 have:=vN ok (ls:=ls) hx I0
 unfold Br.Build.wrong Br.Build.shapes
 rw [hd,List.map_map]
 exact this
def vY (n:Nat) (x:List Nat):Prop:=x.length=6/\dZ x 0<n
theorem Pf {nss:List (List Int)} {l:List Int} {p:Nat} {q:List Nat×Nat} (h:dY nss l p=.ok q):vY nss.length q.1:=by
 unfold dY at h
 obtain ⟨p1,_,h⟩:=aJ h
 obtain ⟨n,en,h⟩:=aJ h
 obtain ⟨r,er,h⟩:=aJ h
 obtain ⟨_,_,h⟩:=aJ h
 cases h
 refine ⟨?_,?_⟩
 ·rw [List.length_cons,pW (r:=r) er]
  rfl
 ·show n.1<nss.length
  unfold sA at en
  split at en
  ·rename_i hm
   cases en
   exact List.findIdx_lt_length_of_exists ⟨_,hm,by simp⟩
  ·cases en
theorem zC {nss:List (List Int)} {l:List Int}:∀ {n p:Nat} {q:List (List Nat)×Nat},cC nss l n p=.ok q->∀ x∈q.1,vY nss.length x
 |0,p,q,h=>by cases h;intro x hx;cases hx
 |n+1,p,q,h=>by
  rw [cC] at h
  split at h
  ·cases h;intro x hx;cases hx
  ·obtain ⟨q1,e1,h⟩:=aJ h
   obtain ⟨q2,e2,rfl⟩:=eX h
   intro x hx
   rcases List.mem_cons.mp hx with rfl|hx
   ·exact Pf e1
   ·exact zC e2 x hx
theorem Mt {nss:List (List Int)} {l:List Int} {b:List Int×List (List Nat)} (h:dF nss l=.ok b):∀ x∈b.2,vY nss.length x:=by
 unfold dF at h
 obtain ⟨_,_,h⟩:=aJ h
 obtain ⟨_,_,h⟩:=aJ h
 obtain ⟨_,_,h⟩:=aJ h
 obtain ⟨r,er,h⟩:=aJ h
 split at h
 ·cases h;exact zC er
 ·cases h
theorem Bl {lc lb:List Int} {prs:List aM} {nm:List Int} {ls:List (List Nat)} (h:dA lc lb=.ok prs nm ls):∀ x∈ls,vY prs.length x:=by
 unfold dA at h
 split at h
 ·cases h
 ·split at h
  ·cases h
  ·split at h
   ·split at h
    ·cases h
    ·rename_i e
     cases h
     have:=Mt e
     rw [List.length_map] at this
     exact this
   ·cases h
end Br1
namespace Br1
open PySem PySem.Spec PyProof.Rows L2
def vV (f:Pl->Pl) (cs:CL):CL:=cs.map fun c=>(f c.1,c.2)
theorem vB {cs:CL} {i:Nat} {p:Pl} {s:Int} (nd:(cs.map (·.1)).Nodup) (e:cs[i]?=some (p,s)):∀ c∈cs.take i,c.1≠p:=by
 obtain ⟨hi,e⟩:=List.getElem?_eq_some_iff.mp e
 have hd:cs.drop i=(p,s)::cs.drop (i+1):=by rw [List.drop_eq_getElem_cons hi,e]
 have h2:=nd
 rw [<-List.take_append_drop i cs,hd,List.map_append,List.nodup_append] at h2
 intro c hc
 exact h2.2.2 c.1 (List.mem_map_of_mem hc) p (by simp)
theorem Rt (cl:CL) (q:Pl) (v:Int):aI cl++[(eJ q.1 q.2.1 q.2.2,V.int v)]=aI (cl++[(q,v)]):=by
 unfold aI
 rw [List.map_append]
 rfl
theorem Jk {cl:CL} {q:Pl} {v:Int} (h:aY cl q=none):lA (aI cl) (eJ q.1 q.2.1 q.2.2) (V.int v)=aI (cl++[(q,v)]):=by
 rw [wT _ (by rw [qH,h];rfl),Rt]
theorem xH {cl:CL} {q:Pl} (h:∀ c∈cl,c.1≠q):aY cl q=none:=by
 cases e:aY cl q with
 |none=>rfl
 |some v=>
  obtain ⟨c,hc,e2⟩:=dJ.mp (by rw [e];rfl:(aY cl q).isSome=true)
  exact absurd e2 (h c hc)
theorem Hw {f:Pl->Pl} (inj:∀ a b,f a=f b->a=b) {cs:CL} {i:Nat} {p:Pl} {s:Int} (nd:(cs.map (·.1)).Nodup) (e:cs[i]?=some (p,s)):lA (aI (vV f (cs.take i))) (eJ (f p).1 (f p).2.1 (f p).2.2) (V.int s)=aI (vV f (cs.take (i+1))):=by
 rw [Jk]
 ·rw [List.take_succ,e]
  unfold vV
  rw [List.map_append]
  rfl
 ·refine xH fun c hc z=>?_
  obtain ⟨c0,h0,rfl⟩:=List.mem_map.mp hc
  exact vB nd e c0 h0 (inj _ _ z)
theorem Bz (W:Int) (a b:Pl) (e:fP W a=fP W b):a=b:=by
 obtain ⟨x,y,z⟩:=a
 obtain ⟨u,v,w⟩:=b
 unfold fP at e
 simp only [Prod.mk.injEq] at e ⊢
 omega
theorem Kp (x y z:Int) (p q:Pl) (e:lP x y z p=lP x y z q):p=q:=by
 obtain ⟨a,b,c⟩:=p
 obtain ⟨u,v,w⟩:=q
 unfold lP at e
 simp only [Prod.mk.injEq] at e ⊢
 omega
theorem Tx {f:Pl->Pl} (inj:∀ a b,f a=f b->a=b) {cs:CL} (nd:(cs.map (·.1)).Nodup):((vV f cs).map (·.1)).Nodup:=by
 unfold vV
 rw [List.map_map]
 have:(cs.map ((·.1)∘fun c:Pl×Int=>(f c.1,c.2)))=(cs.map (·.1)).map f:=by rw [List.map_map];rfl
 rw [this]
 exact List.Pairwise.map _ (fun a b h z=>h (inj a b z)) nd
theorem Ex (f:Pl->Pl) (cs:CL):(vV f cs).length=cs.length:=List.length_map _
theorem hJ (cs:CL):(aI cs).length=cs.length:=by unfold aI;rw [List.length_map]
structure tI (t:TP):Prop where
 nd:(t.cs.map (·.1)).Nodup
 ln:t.cs.length<20000
theorem tI.once {t:TP} (h:tI t):tI (Jc t):=⟨Tx (Bz t.W) h.nd,by show (Qs t.W t.cs).length<20000;unfold Qs;rw [List.length_map];exact h.ln⟩
theorem tI.turns {t:TP} (h:tI t):∀ n,tI (gI t n)
 |0=>h
 |n+1=>(tI.turns h n).once
theorem Tt {x:List Nat} (h:x.length=6):∃ a b c d e f,x=[a,b,c,d,e,f]:=by
 match x,h with
 |[a,b,c,d,e,f],_=>exact ⟨a,b,c,d,e,f,rfl⟩
theorem Kh {H H':Hp} {c d:Addr} {u:HO} {od:Obj} (h:H c=some u) (hd:H d=none) {o:HO} (s:SX d (upd (upd H d o) c (.frz od u)) H'):aL H (upd H' c u):=fun b ob e=>by
 have nb:=aD e hd
 by_cases hb:b=c
 ·rw [hb] at e ⊢
  rw [aB,<-e,h]
 ·rw [aC hb]
  exact s b ob (by rw [aC hb,aC nb];exact e) nb
section
variable {P:Program} {w:World} {K:PySem.W.Frag} {mg:Str->Option Value} {base:Heap} {C CR CP CG:Addr}
def Oe (CP:Addr) (H:Hp) (b nm:Addr) (g:Int) (t:TP):Prop:=wZ CP H b nm t.W t.D t.Hh g t.cs
def Hi (CP:Addr):Sp:=fun vs H Q _=>∃ (b nm:Addr) (g:Int) (t:TP),vs=[.ref b]/\Oe CP H b nm g t/\tI t/\∀ (H':Hp) (b':Addr),aL H H'->Oe CP H' b' nm g (Jc t)->Q (.ref b') H'
theorem tX:aO ["part","cells","place","sign"] ["part"] (aG Kb):=⟨rfl,rfl,rfl,by decide+kernel,rfl,by decide+kernel,by decide+kernel⟩
theorem Sg {f:Addr} {fd:FuncData} (F:fK K "turned_once" "turned_once" Kb f fd) (T':Na K CP) (PM:PtM P w K mg base CP):bU P w K mg base bV 3 f fd ["part"] (Hi CP):=by
 obtain ⟨fp,fdp,MP,GP,bP⟩:=PM.ex
 refine F.ok tX (fun vs H Q E h=>?_) (fun cdv A outer s H vs Q E hr h=>?_)
 ·obtain ⟨b,nm,g,t,rfl,_⟩:=h
  rfl
 ·obtain ⟨b,nm,g,⟨W,D,Hh,cs⟩,rfl,⟨dx,c,hb,hc⟩,⟨nd,ln⟩,k⟩:=h
  have hb:H b=some (.ins CP dx (Mz nm W D Hh g c)):=hb
  have hc:H c=some (.dT (aI cs)):=hc
  have ln:cs.length<20000:=ln
  have hr2:=hr.mono (j:=2) (by decide)
  have hu:=lR hr
  refine ⟨_,aF (bI (i:=1) tX.nd rfl (Or.inl rfl) mP)
   (aF (kH (eU PassesOwn.never rfl (jX (aT (pv 0) rfl)) (lX rfl (dG (bJ (i:=2) tX.nd rfl (Or.inl rfl)) (dG (bJ (i:=3) tX.nd rfl (Or.inl rfl)) jB)))
    (aH (nQ hu (pv 1) (eN (aA (bY bQ (pv 2) aK (fun _ _=>rfl)) (aA (cI eT (cI eT (aT (pv 0) rfl) aK) (bY bQ (pv 2) aK (fun _ _=>rfl))) (aA (bY bQ (pv 2) aK (fun _ _=>rfl)) aE)))) (pv 3) rfl))))
   (aH (aV (nF MP GP hr2 (by rfl) PM.mg bP .nil aX (aA (aT (pv 0) rfl) (aA (aT (pv 0) rfl) (aA (aT (pv 0) rfl) (aA (aT (pv 0) rfl) (aA (aT (pv 0) rfl) (aA (pv 1) aE)))))))))),?_⟩
  intro d hd
  have S0:aL H (upd H d (.dT [])):=aL.new hd
  have nbd:b≠d:=aD hb hd
  have ncd:c≠d:=aD hc hd
  have nbc:b≠c:=fun z=>by rw [z,hc] at hb;cases hb
  have hsl:=bE
  refine ⟨c,_,S0 _ _ hc,trivial,fun od=>?_⟩
  have hcL:upd (upd H d (.dT [])) c (.frz od (.dT (aI cs))) c=some (.frz od (.dT (aI cs))):=aB
  have hbL:upd (upd H d (.dT [])) c (.frz od (.dT (aI cs))) b=some (.ins CP dx (Mz nm W D Hh g c)):=by rw [aC nbc];exact S0 _ _ hb
  have hdL:upd (upd H d (.dT [])) c (.frz od (.dT (aI cs))) d=some (.dT []):=by rw [aC (Ne.symm ncd),aB]
  refine ⟨_,rfl,b,CP,dx,_,_,rfl,hbL,T'.cl,T'.n6,rfl,c,od,_,rfl,hcL,?_⟩
  refine iC (fun i σ H'=>∃ v2 v3,σ=[some (.ref b),some (.ref d),v2,v3]/\SX d (upd (upd H d (.dT [])) c (.frz od (.dT (aI cs)))) H'/\H' d=some (.dT (aI (vV (fP W) (cs.take i))))) ⟨none,none,rfl,SX.refl _ _,hdL⟩ ?_ ?_ ?_
  ·rintro i σ H1 hi ⟨v2,v3,rfl,S1,_⟩
   exact S1 _ _ hcL ncd
  ·rintro i σ H1 T k v q e ⟨v2,v3,rfl,S1,hd1⟩ hT hq
   obtain ⟨p,sg,e1,rfl,rfl⟩:=iY e
   have ST:=aL.new (o:=.tup [.ref q,.int sg]) hT
   refine ⟨T,_,rfl,cN.of aB,rfl,_,_,rfl,_,_,rfl,rfl,?_⟩
   have hq2:=ST _ _ hq
   have hb2:=ST _ _ (S1 _ _ hbL nbd)
   have hd2:=ST _ _ hd1
   generalize upd H1 T (.tup [.ref q,.int sg])=H2 at ST hq2 hb2 hd2
   refine ⟨_,rfl,_,rfl,_,rfl,q,_,_,_,rfl,rfl,cN.of hq2,rfl,_,rfl,b,CP,dx,_,_,rfl,hb2,T'.cl,T'.n2,rfl,_,_,rfl,rfl,_,rfl,q,_,_,_,rfl,rfl,cN.of hq2,rfl,_,_,rfl,rfl,_,rfl,q,_,_,_,rfl,rfl,cN.of hq2,rfl,(by show 3<=sizeLine;decide),fun t ht=>?_⟩
   have SQ:=aL.new (o:=.tup [.int p.2.1,.int (W - 1 - p.1),.int p.2.2]) ht
   have hi:i<cs.length:=(List.getElem?_eq_some_iff.mp e1).1
   refine ⟨d,_,rfl,xD.t (k:=eJ p.2.1 (W - 1 - p.1) p.2.2) (SQ _ _ hd2) aB (by rw [hJ,Ex,List.length_take];omega),?_⟩
   refine ⟨_,_,rfl,fun b' o e' n'=>?_,?_⟩
   ·rw [aC n']
    exact SQ _ _ (ST _ _ (S1 _ _ e' n'))
   ·rw [aB]
    exact congrArg (fun z=>some (HO.dT z)) (Hw (Bz W) nd e1)
  ·rintro σ H1 ⟨v2,v3,rfl,S1,hd1⟩
   rw [hJ,List.take_length] at hd1
   refine ⟨S1 _ _ hcL ncd,?_⟩
   have S2:=Kh hc hd S1
   have hd2:upd H1 c (.dT (aI cs)) d=some (.dT (aI (vV (fP W) cs))):=by rw [aC (Ne.symm ncd)];exact hd1
   generalize upd H1 c (.dT (aI cs))=H2 at S2 hd2
   have hb2:=S2 _ _ hb
   refine ⟨_,rfl,b,CP,dx,_,_,rfl,hb2,T'.cl,T'.n1,rfl,_,rfl,b,CP,dx,_,_,rfl,hb2,T'.cl,T'.n3,rfl,_,rfl,b,CP,dx,_,_,rfl,hb2,T'.cl,T'.n2,rfl,_,rfl,b,CP,dx,_,_,rfl,hb2,T'.cl,T'.n4,rfl,_,rfl,b,CP,dx,_,_,rfl,hb2,T'.cl,T'.n5,rfl,_,rfl,?_⟩
   intro b' db hb' hdb hne
   refine ⟨b',db,nm,d,D,W,Hh,g,rfl,aB,fun H3 hpt s3=>⟨rfl,?_⟩⟩
   have up2:∀ y o,H2 y=some o->H3 y=some o:=fun y o e=>s3 y o (by rw [aC (aD e hb'),aC (aD e hdb)];exact e) (aD e hb')
   exact k H3 b' (fun y o e=>up2 y o (S2 y o e)) ⟨db,d,hpt,up2 _ _ hd2⟩
def wH (CP:Addr):Sp:=fun vs H Q _=>∃ (b nm:Addr) (g:Int) (t:TP) (n:Nat),vs=[.ref b,.int (n:Int)]/\n<=100/\Oe CP H b nm g t/\tI t/\∀ (H':Hp) (b':Addr),aL H H'->Oe CP H' b' nm g (gI t n)->Q (.ref b') H'
theorem rC:aO ["part","turns","turn"] ["part","turns"] (aG tV):=⟨rfl,rfl,rfl,by decide+kernel,rfl,by decide+kernel,by decide+kernel⟩
theorem Lp {f:Addr} {fd:FuncData} (F:fK K "turned_part" "turned_part" tV f fd) (hrange:mg "range"=none) (L1:dO P w K mg base "turned_once" bV 3 ["part"] (Hi CP)):bU P w K mg base bV 4 f fd ["part","turns"] (wH CP):=by
 obtain ⟨g1,gd1,G1,b1,k1,h1⟩:=L1.ex
 refine F.ok rC (fun vs H Q E h=>?_) (fun cdv A outer s H vs Q E hr h=>?_)
 ·obtain ⟨b,nm,g,t,n,rfl,_⟩:=h
  rfl
 ·obtain ⟨b,nm,g,t,n,rfl,hn,ht,tok,k⟩:=h
  refine ⟨_,aF (eU PassesOwn.never rfl (nE rfl hrange (aA (pv 1) aE)) (bJ (i:=2) rC.nd rfl (Or.inl rfl))
    (aH (bI (i:=0) rC.nd rfl (Or.inl rfl) (aQ G1 hr (by rfl) h1 k1 b1 .nil aX (aA (pv 0) aE)))))
   (aH (aV (pv 0))),?_⟩
  refine ⟨_,rfl,_,rfl,by omega,by omega,kX (n:=n) (fun i σ H'=>∃ b' v2,σ=[some (.ref b'),some (.int (n:Int)),v2]/\aL H H'/\Oe CP H' b' nm g (gI t i)) ⟨b,none,rfl,aL.id' _,ht⟩ ?_ ?_⟩
  ·rintro i σ H1 hi ⟨b',v2,rfl,S1,h1⟩
   exact ⟨_,rfl,b',nm,g,gI t i,rfl,h1,tok.turns i,fun H2 b2 S2 h2=>⟨b2,_,rfl,S1.trans S2,h2⟩⟩
  ·rintro σ H1 ⟨b',v2,rfl,S1,h1⟩
   exact ⟨_,rfl,k H1 b' S1 h1⟩
end
end Br1
namespace L2
open PySem PySem.Spec PyProof.Rows
def sZ (D:fZ) (d:Addr) (o:Obj) (u:HO):fZ:=⟨fun σ' H'=>H' d=some (.frz o u)/\D.nx σ' (upd H' d u),fun v H'=>H' d=some (.frz o u)/\D.rt v (upd H' d u),fun σ' H'=>H' d=some (.frz o u)/\D.bk σ' (upd H' d u),fun σ' H'=>H' d=some (.frz o u)/\D.ct σ' (upd H' d u)⟩
def Zq (td:TE) (g:TG) (tb:TS):TS:=fun D σ H=>td σ H fun x H1=>∃ d aI,x=.ref d/\H1 d=some (.dT aI)/\∀ o,∃ W:Nat->Nat->St->Hp->Prop,(∃ m,W 0 m σ (upd H1 d (.frz o (.dT aI))))/\∀ i m σ H,W i m σ H->
 ((Go d o aI).stop i H/\(sZ D d o (.dT aI)).nx σ H)\/((Go d o aI).go i H/\∃ N:St->Hp->Prop,(∀ σ' H',N σ' H'->∃ m',m'<m/\W (i+1) m' σ' H')/\∀ x H',(Go d o aI).yld i H x H'->g x σ H' fun σ2 H2=>tb {sZ D d o (.dT aI) with nx:=N,ct:=N,bk:=(sZ D d o (.dT aI)).nx} σ2 H2)
def Zw (X:Cx) (D:fZ) (σ:St) (g:TG) (tb:TS):It->Hp->Prop:=fun J H'=>∃ d aI o,J=Go d o aI/\(∀ o' u',X.H_0 d≠some (.frz o' u'))/\
   ∃ W:Nat->Nat->St->Hp->Prop,(∃ m,W 0 m σ H')/\∀ i m σ H,W i m σ H->((Go d o aI).stop i H/\(sZ D d o (.dT aI)).nx σ H)\/((Go d o aI).go i H/\∃ N:St->Hp->Prop,(∀ σ' H',N σ' H'->∃ m',m'<m/\W (i+1) m' σ' H')/\∀ x H',(Go d o aI).yld i H x H'->g x σ H' fun σ2 H2=>tb {sZ D d o (.dT aI) with nx:=N,ct:=N,bk:=(sZ D d o (.dT aI)).nx} σ2 H2)
theorem Tq {X:Cx} {e:Expr} {td:TE} {apos cpos:Pos} {elts:List Expr} {kk:Nat} {tpos pos:Pos} {body:List Stmt} {g:TG} {tb:TS} (hp:PassesOwn (model X.prog X.w) X.A X.env X.xe) (hc:X.calm=true) (he:PE X e td) (hg:PG X (.Tuple elts kk tpos) g) (hb:xJ X body tb)
  (hbase:attributeBase e "items" X.env (eval e X.env)=eval e X.env:=by rfl) (hline:(apos.endLine==cpos.line)=true:=by rfl) (hs:∀ x,foldedSetIterable (.Call (.Attribute e "items" apos) [] [] cpos) X.env x=pure x:=by intro _;rfl):
  PS X (.For (.Tuple elts kk tpos) (.Call (.Attribute e "items" apos) [] [] cpos) body [] pos) (Zq td g tb):=by
 intro pins s σ H D I h
 have hi:wpAny (model X.prog X.w) X.A (eval (.Call (.Attribute e "items" apos) [] [] cpos) X.env) (fun v s1=>wpAny (model X.prog X.w) X.A (pyIter v) (Zk X pins σ (.Tuple elts kk tpos) (Zw X D σ g tb)) X.xe s1) X.xe s:=by
  refine wpAny_Call_method (T:="dict") (id:="dict.items") hbase rfl hline F.plainAttrs_dict F.slot_dict_items F.type_dict_items (cT (he pins s σ H _ I h) fun u s1 ⟨x,H0,I0,rx,d,aI,ex,hd0,q⟩=>?_)
  subst ex
  obtain rfl:u=Value.ref d:=rx
  have hn:=I0.nofrz hd0 trivial
  obtain ⟨o,I1⟩:=I0.lock hd0 trivial
  have hd:upd H0 d (.frz o (.dT aI)) d=some (.frz o (.dT aI)):=aB
  obtain ⟨hs,hgd,hx,es,ep,hdt,hsz,ent⟩:=I1.frzT2 hd
  have hty:s1.TypeIs (.ref d) "dict":=⟨o,hgd,hx.1⟩
  refine ⟨hty,fun b q=>by cases q;exact ⟨o,hgd,hx.2.1⟩,?_⟩
  have I2:aP X pins σ (upd H0 d (.frz o (.dT aI))) {s1 with heap:=s1.heap.push {cls:=.type "dict_items",data:=.fields #[.ref d]}}:=I1.kept (t':=s1.toks) fun b ob q=>Heap.get?_push_of_some _ q
  have fin:wpAny (model X.prog X.w) X.A (pyIter (.ref s1.heap.objs.size)) (Zk X pins σ (.Tuple elts kk tpos) (Zw X D σ g tb)) X.xe {s1 with heap:=s1.heap.push {cls:=.type "dict_items",data:=.fields #[.ref d]}}:=
   Bw (d:=d) (n:=aI.length) ⟨_,Heap.get?_push_size _ rfl,rfl,rfl⟩ (Heap.get?_push_of_some _ hgd) hdt hsz (rL (tk:=s1.toks) I2 _ (sL _ hdt) ⟨.none,.none,Heap.get?_push_size _ rfl⟩ ⟨d,aI,o,rfl,hn,q o⟩)
  show wpAny _ _ (callWith cpos (.builtin "dict.items") [.ref d] [] []) _ X.xe s1
  exact method_meetsIn F.slot_dict_items F.entry_dict_items rfl (PySem.evalArgs_none ⟨rfl,hty,F.args_dict_items_1 _,_,yS hs,hty,fin⟩)
 refine wpAny_For (cT hi fun v s1 h1=>cT h1 fun itv s2 h2=>?_) hs
 obtain ⟨it,fp,tn,J,H2,e,I2,T,st2,f2,d,aI,o,rfl,hn,W,⟨m0,w0⟩,turn⟩:=h2
 subst e
 have stat:∀ {H':Hp},(∀ b∈fp,H' b=none)->∀ b∈fp,sY X pins H' b:=fun hn b hb=>⟨hn b hb,(f2 b hb).2⟩
 refine codeAny_forLoop_any (fun n s'=>∃ i σ' H',aP X pins σ' H' s'/\tn i s'.heap/\(∀ b∈fp,H' b=none)/\W i n σ' H') ?_ m0 ⟨0,σ,H2,I2,st2,fun b hb=>(f2 b hb).1,w0⟩
 rintro n s3 ⟨i,σ3,H3,I3,st3,fr3,w3⟩
 rcases turn i n σ3 H3 w3 with ⟨stop,qn⟩|⟨go,N,hN,step⟩
 ·refine wpAny_passesOwn hp (cT (T.done X rfl rfl rfl hc i pins s3 σ3 H3 X.xe I3 (stat fr3) st3 stop) fun r s4 ⟨hr,I4⟩=>?_)
  subst hr
  exact wpAny_execs_nil ⟨σ3,_,I4.unlock qn.1 hn,qn.2⟩
 ·refine wpAny_passesOwn hp (cT (T.item X rfl rfl rfl hc i pins s3 σ3 H3 X.xe I3 (stat fr3) st3 go) fun r s4 ⟨u,hr,h4⟩=>?_)
  subst hr
  refine wpAny_passesOwn hp (cT h4 fun _ s5 ⟨x,H5,I5,r5,y5,st5,fr5⟩=>?_)
  have I5':=I5.pinned (stat fr5) (T.obj _ _ st5)
  refine wpAny_passesOwn hp (cT (hg _ s5 σ3 H5 x u _ I5' r5 (step x H5 y5)) fun _ s6 ⟨σ6,H6,I6,q6⟩=>?_)
  refine wpAny_passesOwn hp (cT (hb _ s6 σ6 H6 _ I6 q6) fun f s7 q7=>?_)
  have again:∀ {σ7:St} {H7:Hp},aP X (pins++rM fp s5.heap) σ7 H7 s7->N σ7 H7->∃ m,m<n/\∃ i σ' H',aP X pins σ' H' s7/\tn i s7.heap/\(∀ b∈fp,H' b=none)/\W i m σ' H':=fun {σ7 H7} I7 n7=>by
   obtain ⟨m',hm,w7⟩:=hN σ7 H7 n7
   refine ⟨m',hm,i+1,σ7,H7,I7.unpinned,T.keep _ _ _ st5 fun b hb o e=>(I7.pin (b,o) (List.mem_append_right _ (List.mem_append_right _ (iL hb e)))).1,fun b hb=>?_,w7⟩
   obtain ⟨o,e,d⟩:=T.obj _ _ st5 b hb
   exact (I7.pin (b,o) (List.mem_append_right _ (List.mem_append_right _ (iL hb e)))).2.1
  cases f with
  |next=>obtain ⟨σ7,H7,I7,n7⟩:=q7;exact again I7 n7
  |cont=>obtain ⟨σ7,H7,I7,n7⟩:=q7;exact again I7 n7
  |brk=>obtain ⟨σ7,H7,I7,q7⟩:=q7;exact ⟨σ7,_,I7.unpinned.unlock q7.1 hn,q7.2⟩
  |ret v=>obtain ⟨x7,σ7,H7,I7,r7,q7⟩:=q7;exact ⟨x7,σ7,_,I7.unpinned.unlock q7.1 hn,r7,q7.2⟩
end L2
namespace Br1
section
open Classical
end
theorem Ju {p:Br.Part} (ok:Zh p) (f:Br.Place->Bool):(p.such f).Nodup:=by
 unfold Br.Part.such
 have sl:List.Sublist (((p.spots.zip p.places).filter fun (s:lG×Br.Place)=>f s.2).map fun (s:lG×Br.Place)=>s.1) ((p.spots.zip p.places).map Prod.fst):=List.Sublist.map _ List.filter_sublist
 refine sl.nodup ?_
 rw [List.map_fst_zip (by rw [pS ok.w ok.d,List.length_map,List.length_range,ok.l];exact Nat.le_refl _),pS ok.w ok.d]
 refine List.Pairwise.map _ ?_ List.nodup_range
 intro a b h z
 have e1:=lC (w:=p.wide) (d:=p.deep) (i:=a) rfl
 have e2:=lC (w:=p.wide) (d:=p.deep) (i:=b) (x:=(fG p.wide p.deep a).1) (y:=(fG p.wide p.deep a).2.1) (z:=(fG p.wide p.deep a).2.2) z.symm
 exact h (e1.trans e2.symm)
structure SNd (sh:Br.Shape):Prop where
 c:sh.cells.Nodup
 s:sh.studs.Nodup
theorem Wm {p:Br.Part} (ok:Zh p) (l:Br.Line) (im:Bool):SNd ⟨(l.x,l.y,l.z),(p.wide,p.deep,p.high),im,p.cells.map l.put,p.studs.map l.put,p.tubes.map l.put⟩:=by
 have inj:∀ a b:lG,l.put a=l.put b->a=b:=by
  rintro ⟨a,b,c⟩ ⟨u,v,w⟩ e
  unfold Br.Line.put at e
  simp only [Prod.mk.injEq] at e ⊢
  omega
 exact ⟨List.Pairwise.map _ (fun a b h z=>h (inj a b z)) (Ju ok _),List.Pairwise.map _ (fun a b h z=>h (inj a b z)) (Ju ok _)⟩
abbrev ZS:=List (Br.Shape×CL)
def Vl (zs:ZS):CL:=zs.flatMap (·.2)
def As:Nat->List CL->CL
 |_,[]=>[]
 |j,c::r=>(c.map fun x=>(x.1,(j:Int)))++As (j+1) r
def Us (zs:ZS):CL:=As 0 (zs.map (·.2))
theorem Jq:∀ (j:Nat) (a b:List CL),As j (a++b)=As j a++As (j+a.length) b
 |j,[],b=>rfl
 |j,c::r,b=>by
  show _++As (j+1) (r++b)=(_++As (j+1) r)++As (j+(r.length+1)) b
  rw [Jq (j+1) r b,List.append_assoc,show j+1+r.length=j+(r.length+1) by omega]
theorem uM (zs:ZS) (z:Br.Shape×CL):Us (zs++[z])=Us zs++z.2.map fun c=>(c.1,(zs.length:Int)):=by
 unfold Us
 rw [List.map_append,Jq,List.length_map,Nat.zero_add]
 show _++(_++[])=_
 rw [List.append_nil]
theorem vO (zs:ZS) (z:Br.Shape×CL):Vl (zs++[z])=Vl zs++z.2:=by
 unfold Vl
 rw [List.flatMap_append]
 simp
structure Fk (zs:ZS):Prop where
 inv:aP zs (Vl zs) (Us zs)
 snd:∀ z∈zs,SNd z.1
def vL (prs:List aM) (ls:List (List Nat)):ZS:=ls.map fun x=>(Br.Line.shape (prs.map cO) (gS x),cU prs x)
theorem Pe {prs:List aM} (ok:∀ pr∈prs,dU pr) {x:List Nat} (hx:dZ x 0<prs.length):SNd (Br.Line.shape (prs.map cO) (gS x)):=by
 have e1:prs[dZ x 0]?=some prs[dZ x 0]:=List.getElem?_eq_getElem hx
 have e2:Br.Line.of (prs.map cO) (gS x)=(cO prs[dZ x 0]).turned (dZ x 5):=by
  unfold Br.Line.of
  show ((prs.map cO).getD (dZ x 0) Br.nothing).turned (dZ x 5)=_
  rw [List.getD_eq_getElem?_getD,List.getElem?_map,e1]
  rfl
 have r0:=qZ (Tm (ok _ (List.getElem_mem hx))) (dZ x 5)
 unfold Br.Line.shape
 rw [e2]
 exact Wm r0.sh _ _
theorem sE {prs:List aM} (ok:∀ pr∈prs,dU pr):∀ {ls:List (List Nat)} {zs:ZS},(∀ x∈ls,dZ x 0<prs.length)->Fk zs->cZ prs zs.length (Vl zs) (Us zs) ls=[]->Fk (zs++vL prs ls)
 |[],zs,_,R,_=>by
  show Fk (zs++[])
  rw [List.append_nil]
  exact R
 |x::r,zs,hx,R,h=>by
  obtain ⟨sr,_⟩:=pP ok (hx x List.mem_cons_self)
  have sn:=Pe ok (hx x List.mem_cons_self)
  rw [cZ] at h
  split at h
  ·cases h
  ·split at h
   ·cases h
   ·rename_i h1
    split at h
    ·cases h
    ·have h0:fX (Us zs) (cU prs x)=[]:=List.eq_nil_of_length_eq_zero (by omega)
     have R2:Fk (zs++[(Br.Line.shape (prs.map cO) (gS x),cU prs x)]):=by
      refine ⟨?_,fun z hz=>?_⟩
      ·rw [vO,uM]
       exact R.inv.next sr h0
      ·rcases List.mem_append.mp hz with hz|hz
       ·exact R.snd z hz
       ·rw [List.mem_singleton] at hz
        subst hz
        exact sn
     have:=sE ok (ls:=r) (zs:=zs++[(Br.Line.shape (prs.map cO) (gS x),cU prs x)]) (fun y hy=>hx y (List.mem_cons_of_mem _ hy)) R2 (by rw [vO,uM,List.length_append,List.length_singleton];exact h)
     rw [List.append_assoc] at this
     exact this
theorem Hb {prs:List aM} (ok:∀ pr∈prs,dU pr) {ls:List (List Nat)} (hx:∀ x∈ls,dZ x 0<prs.length) (h:cZ prs 0 [] [] ls=[]):Fk (vL prs ls):=by
 have I0:Fk []:=⟨⟨fun z hz=>absurd hz List.not_mem_nil,fun q v=>(by simp [aY,Vl]),fun q k=>(by simp [aY,Us,As])⟩,fun z hz=>absurd hz List.not_mem_nil⟩
 exact sE ok hx I0 h
def mY (x:List Nat):List Int:=x.map fun (n:Nat)=>(n:Int)
def Zg (y:List Int):List Nat:=y.map Int.toNat
def iN (y:List Int) (k:Nat):Int:=y.getD k 0
def nB (prs:List aM) (p r:Nat):Int×Int×Int:=match prs[p]? with
 |some pr=>if r % 2=1 then ((pr.d:Int),(pr.w:Int),(pr.h:Int)) else ((pr.w:Int),(pr.d:Int),(pr.h:Int))
 |none=>(0,0,0)
def Et (x y z:Int):Bool:= !(decide (0<=x) && decide (x<64) && (decide (0<=y) && decide (y<64)) && (decide (0<=z) && decide (z<96)))
def iA (prs:List aM) (p r:Nat) (x y z:Int):Bool:=Et x y z||Et (x+(nB prs p r).1 - 1) (y+(nB prs p r).2.1 - 1) (z+(nB prs p r).2.2 - 1)
theorem xZ (p:Br.Part):∀ r:Nat,(p.turned r).high=p.high/\(p.turned r).wide=(if r % 2=1 then p.deep else p.wide)/\(p.turned r).deep=(if r % 2=1 then p.wide else p.deep)
 |0=>⟨rfl,rfl,rfl⟩
 |r+1=>by
  obtain ⟨h1,h2,h3⟩:=xZ p r
  show (p.turned r).high=_/\(p.turned r).deep=_/\(p.turned r).wide=_
  rw [h1,h2,h3]
  by_cases h:r % 2=1
  ·rw [if_pos h,if_pos h,if_neg (show ¬(r+1) % 2=1 by omega),if_neg (show ¬(r+1) % 2=1 by omega)]
   exact ⟨rfl,rfl,rfl⟩
  ·rw [if_neg h,if_neg h,if_pos (show (r+1) % 2=1 by omega),if_pos (show (r+1) % 2=1 by omega)]
   exact ⟨rfl,rfl,rfl⟩
theorem Vm {prs:List aM} {l:Br.Line} (h:l.part<prs.length):(((l.of (prs.map cO)).wide:Int),((l.of (prs.map cO)).deep:Int),((l.of (prs.map cO)).high:Int))=nB prs l.part l.r:=by
 have e1:prs[l.part]?=some prs[l.part]:=List.getElem?_eq_getElem h
 have e2:l.of (prs.map cO)=(cO prs[l.part]).turned l.r:=by
  unfold Br.Line.of
  rw [List.getD_eq_getElem?_getD,List.getElem?_map,e1]
  rfl
 obtain ⟨h1,h2,h3⟩:=xZ (cO prs[l.part]) l.r
 rw [e2,h1,h2,h3]
 unfold nB
 rw [e1]
 by_cases hr:l.r % 2=1
 ·rw [if_pos hr,if_pos hr]
  show _=if l.r % 2=1 then _ else _
  rw [if_pos hr]
  rfl
 ·rw [if_neg hr,if_neg hr]
  show _=if l.r % 2=1 then _ else _
  rw [if_neg hr]
  rfl
theorem Js {prs:List aM} (ok:∀ pr∈prs,dU pr) {p r:Nat} (h:p<prs.length):1<=(nB prs p r).1/\1<=(nB prs p r).2.1/\1<=(nB prs p r).2.2:=by
 have e1:prs[p]?=some prs[p]:=List.getElem?_eq_getElem h
 have o:=ok _ (List.getElem_mem h)
 have h1:=o.w1
 have h2:=o.d1
 have h3:=o.h1
 unfold nB
 rw [e1]
 show 1<=(if r % 2=1 then _ else _:Int×Int×Int).1/\1<=(if r % 2=1 then _ else _:Int×Int×Int).2.1/\1<=(if r % 2=1 then _ else _:Int×Int×Int).2.2
 split
 ·show 1<=((prs[p].d:Nat):Int)/\1<=((prs[p].w:Nat):Int)/\1<=((prs[p].h:Nat):Int)
  omega
 ·show 1<=((prs[p].w:Nat):Int)/\1<=((prs[p].d:Nat):Int)/\1<=((prs[p].h:Nat):Int)
  omega
theorem Bu {x y z:Int}:Et x y z=false↔(0<=x/\x<64)/\(0<=y/\y<64)/\0<=z/\z<96:=by
 unfold Et
 rw [Bool.not_eq_false']
 simp only [Bool.and_eq_true,decide_eq_true_iff,and_assoc]
theorem mI {prs:List aM} (ok:∀ pr∈prs,dU pr) {p r:Nat} (h:p<prs.length) {x y z:Int}:
  iA prs p r x y z=false↔(0<=x/\0<=y/\0<=z/\x+(nB prs p r).1<=64/\y+(nB prs p r).2.1<=64/\z+(nB prs p r).2.2<=96):=by
 have h1:=Js ok (r:=r) h
 unfold iA
 rw [Bool.or_eq_false_iff,Bu,Bu]
 omega
theorem Mc {prs:List aM} (ok:∀ pr∈prs,dU pr) {x:List Nat} (hx:dZ x 0<prs.length):iA prs (dZ x 0) (dZ x 5) (dZ x 2) (dZ x 3) (dZ x 4)=lE (tF prs x) (dZ x 2) (dZ x 3) (dZ x 4):=by
 have hr:=(pP ok hx).2
 have hs:=Vm (prs:=prs) (l:=gS x) hx
 have hs:((((gS x).of (prs.map cO)).wide:Int),(((gS x).of (prs.map cO)).deep:Int),(((gS x).of (prs.map cO)).high:Int))=nB prs (dZ x 0) (dZ x 5):=hs
 rw [<-Bool.not_not (lE _ _ _ _),<-hr,Bool.eq_iff_iff,Bool.not_eq_true',<-Bool.not_eq_false,mI ok hx,<-hs]
 show ¬_↔(decide (dZ x 2+((gS x).of (prs.map cO)).wide<=64) && (decide (dZ x 3+((gS x).of (prs.map cO)).deep<=64) && decide (dZ x 4+((gS x).of (prs.map cO)).high<=96)))=false
 rw [<-Bool.not_eq_true]
 simp only [Bool.and_eq_true,decide_eq_true_iff]
 omega
def gB (dx dy dz:Int) (y:List Int):List Int:=[iN y 0,iN y 1,iN y 2+dx,iN y 3+dy,iN y 4+dz,iN y 5]
def fL (prs:List aM) (y:List Int):Bool:=iA prs (iN y 0).toNat (iN y 5).toNat (iN y 2) (iN y 3) (iN y 4)
theorem Mr {prs:List aM} (ok:∀ pr∈prs,dU pr) {x:List Nat} (hx:vY prs.length x) (dx dy dz:Int):
  Br.Line.moved (prs.map cO) dx dy dz (gS x)=if fL prs (gB dx dy dz (mY x))=true then none else some (gS (Zg (gB dx dy dz (mY x)))):=by
 obtain ⟨h6,h0⟩:=hx
 obtain ⟨a,b,c,d,e,f,rfl⟩:∃ a b c d e f,x=[a,b,c,d,e,f]:=by
  match x,h6 with
  |[a,b,c,d,e,f],_=>exact ⟨a,b,c,d,e,f,rfl⟩
 have hs:=Vm (prs:=prs) (l:=gS [a,b,c,d,e,f]) h0
 have hl:=mI ok (p:=a) (r:=f) h0 (x:=(c:Int)+dx) (y:=(d:Int)+dy) (z:=(e:Int)+dz)
 have hs:((((gS [a,b,c,d,e,f]).of (prs.map cO)).wide:Int),(((gS [a,b,c,d,e,f]).of (prs.map cO)).deep:Int),(((gS [a,b,c,d,e,f]).of (prs.map cO)).high:Int))=nB prs a f:=hs
 rw [<-hs] at hl
 unfold Br.Line.moved
 show (if 0<=(c:Int)+dx/\0<=(d:Int)+dy/\0<=(e:Int)+dz/\(c:Int)+dx+((gS [a,b,c,d,e,f]).of (prs.map cO)).wide<=64/\(d:Int)+dy+((gS [a,b,c,d,e,f]).of (prs.map cO)).deep<=64/\(e:Int)+dz+((gS [a,b,c,d,e,f]).of (prs.map cO)).high<=96 then _ else _)=if iA prs ((a:Int).toNat) ((f:Int).toNat) ((c:Int)+dx) ((d:Int)+dy) ((e:Int)+dz)=true then _ else _
 rw [Int.toNat_natCast,Int.toNat_natCast]
 cases hb:iA prs a f ((c:Int)+dx) ((d:Int)+dy) ((e:Int)+dz) with
 |true=>
  rw [if_neg (fun z=>by rw [hl.mpr z] at hb;cases hb),if_pos rfl]
 |false=>
  rw [if_pos (hl.mp hb),if_neg (by decide)]
  rfl
theorem Fx {prs:List aM} (ok:∀ pr∈prs,dU pr) {ls:List (List Nat)} (hx:∀ x∈ls,vY prs.length x) (dx dy dz:Int):
  (ls.map gS).mapM (Br.Line.moved (prs.map cO) dx dy dz)=if (ls.map fun x=>fL prs (gB dx dy dz (mY x))).any id=true then none else some (ls.map fun x=>gS (Zg (gB dx dy dz (mY x)))):=by
 induction ls with
 |nil=>rfl
 |cons x r ih=>
  have ih:=ih fun y hy=>hx y (List.mem_cons_of_mem _ hy)
  rw [List.map_cons,List.mapM_cons,Mr ok (hx x List.mem_cons_self),ih,List.map_cons,List.any_cons,List.map_cons]
  cases fL prs (gB dx dy dz (mY x)) with
  |true=>rfl
  |false=>
   cases (r.map fun x=>fL prs (gB dx dy dz (mY x))).any id with
   |true=>rfl
   |false=>rfl
theorem Yr {y:List Int} (h:y.length=6):∃ a b c d e f,y=[a,b,c,d,e,f]:=by
 match y,h with
 |[a,b,c,d,e,f],_=>exact ⟨a,b,c,d,e,f,rfl⟩
def xE (n:Nat):List Nat:=(Nat.toDigits 10 n).map Char.toNat
theorem zH:∀ d:Nat,d<10->(Nat.digitChar d).toNat=48+d:=by decide
theorem zV {n:Nat} (h:n<10):xE n=[48+n]:=by
 unfold xE
 rw [Nat.toDigits_of_lt_base h]
 show [(Nat.digitChar n).toNat]=_
 rw [zH n h]
theorem zK {n:Nat} (h:10<=n):xE n=xE (n / 10)++[48+n % 10]:=by
 have hm:n % 10<10:=Nat.mod_lt n (by decide)
 have t:Nat.toDigits 10 (n / 10)++Nat.toDigits 10 (n % 10)=Nat.toDigits 10 (10 * (n / 10)+n % 10):=Nat.toDigits_append_toDigits (by decide) (by omega) hm
 rw [Nat.div_add_mod] at t
 show (Nat.toDigits 10 n).map Char.toNat=_
 rw [<-t,List.map_append,Nat.toDigits_of_lt_base hm]
 show (Nat.toDigits 10 (n / 10)).map Char.toNat++[(Nat.digitChar (n % 10)).toNat]=_
 rw [zH _ hm]<;>rfl
theorem fM (a b:Br.Bytes):aW (a++b)=aW a++aW b:=List.map_append
theorem Fj {d:Nat} (h:d<10):((UInt8.ofNat (48+d)).toNat:Int)=((48+d:Nat):Int):=by
 rw [UInt8.toNat_ofNat']
 rw [Nat.mod_eq_of_lt (by omega)]
theorem uH:∀ {k n:Nat},n<k->aW (Br.digitsIn k n)=(xE n).map fun (c:Nat)=>(c:Int)
 |0,n,h=>absurd h (Nat.not_lt_zero _)
 |k+1,n,h=>by
  have hm:n % 10<10:=Nat.mod_lt n (by decide)
  show aW ((if n<10 then [] else Br.digitsIn k (n / 10))++[UInt8.ofNat (48+n % 10)])=_
  rw [fM]
  have e:aW [UInt8.ofNat (48+n % 10)]=[((48+n % 10:Nat):Int)]:=by
   show [((UInt8.ofNat (48+n % 10)).toNat:Int)]=_
   rw [Fj hm]
  rw [e]
  by_cases hn:n<10
  ·rw [if_pos hn,zV hn,Nat.mod_eq_of_lt hn]
   rfl
  ·rw [if_neg hn,uH (k:=k) (n:=n / 10) (by omega),zK (n:=n) (by omega),List.map_append]
   rfl
theorem gO (n:Nat):aW (Br.decimal n)=(xE n).map fun (c:Nat)=>(c:Int):=uH (Nat.lt_succ_self n)
def mG (n:Int):List Int:=(xE n.toNat).map fun (c:Nat)=>(c:Int)
def Px (nms:List (List Int)) (y:List Int):List Int:=([112,117,116,32]++nms.getD (iN y 0).toNat [])++(y.drop 1).flatMap (fun n=>32::mG n)++[10]
def Ey (nms:List (List Int)) (nm:List Int) (ys:List (List Int)):List Int:=([98,117,105,108,100,32]++nm++[10])++ys.flatMap (Px nms)
theorem Ss:aW (Br.ascii "put")=[112,117,116]:=by decide+kernel
theorem Lc:aW (Br.ascii "build")=[98,117,105,108,100]:=by decide+kernel
theorem Ko {prs:List aM} (ok:∀ pr∈prs,dU pr) {y:List Int} (hl:y.length=6) (hp:(iN y 0).toNat<prs.length):aW (Br.Line.text (prs.map cO) (gS (Zg y)))=Px (prs.map (·.name)) y:=by
 obtain ⟨a,b,c,d,e,f,rfl⟩:=Yr hl
 have hp:a.toNat<prs.length:=hp
 have en:aW (((prs.map cO).getD a.toNat Br.nothing).name)=(prs.map (·.name)).getD a.toNat []:=by
  rw [List.getD_eq_getElem?_getD,List.getElem?_map,List.getD_eq_getElem?_getD,List.getElem?_map,List.getElem?_eq_getElem hp]
  exact nV (ok _ (List.getElem_mem hp))
 unfold Br.Line.text
 show aW (Br.ascii "put"++32::((((prs.map cO).getD a.toNat Br.nothing).name)++32::(Br.decimal b.toNat++32::(Br.decimal c.toNat++32::(Br.decimal d.toNat++32::(Br.decimal e.toNat++32::(Br.decimal f.toNat++[10])))))))=_
 have cons:∀ t:Br.Bytes,aW (32::t)=32::aW t:=fun t=>rfl
 rw [fM,cons,fM,cons,fM,cons,fM,cons,fM,cons,fM,cons,fM,gO,gO,gO,gO,gO,Ss,en]
 unfold Px
 show _=([112,117,116,32]++(prs.map (·.name)).getD a.toNat [])++(32::mG b++(32::mG c++(32::mG d++(32::mG e++(32::mG f++[])))))++[10]
 unfold mG
 simp only [List.append_assoc,List.cons_append,List.nil_append,List.append_nil]
 rfl
theorem Fl {prs:List aM} (ok:∀ pr∈prs,dU pr) {d:Br.Build} {ys:List (List Int)} (h:∀ y∈ys,y.length=6/\(iN y 0).toNat<prs.length) (hd:d.lines=ys.map fun y=>gS (Zg y)) {nm:List Int} (hn:aW d.name=nm):aW (d.text (prs.map cO))=Ey (prs.map (·.name)) nm ys:=by
 unfold Br.Build.text Ey
 rw [fM]
 have e1:aW (Br.line [Br.ascii "build",d.name])=[98,117,105,108,100,32]++nm++[10]:=by
  show aW (Br.ascii "build"++32::(d.name++[10]))=_
  have cons:∀ t:Br.Bytes,aW (32::t)=32::aW t:=fun t=>rfl
  rw [fM,cons,fM,hn,Lc]
  simp only [List.append_assoc,List.cons_append,List.nil_append]
  rfl
 rw [e1,hd]
 refine congrArg _ ?_
 clear hd e1
 induction ys with
 |nil=>rfl
 |cons y r ih=>
  rw [List.map_cons,List.flatMap_cons,List.flatMap_cons,fM,Ko ok (h y List.mem_cons_self).1 (h y List.mem_cons_self).2,ih fun z hz=>h z (List.mem_cons_of_mem _ hz)]
theorem Hf (t:Br.Bytes):BuildsNeutral.shown (.bytes t)=((aW t).length:Int)::aW t:=by
 rw [eW]
 rfl
end Br1
namespace Br1
open PySem PySem.Spec PyProof.Rows L2
def Ol (H:Hp) (t:Addr) (y:List Int):Prop:=H t=some (.tup (y.map V.int))/\y.length=6
theorem Rg (x:List Nat):x.map Am=(mY x).map V.int:=by
 unfold mY
 rw [List.map_map]
 rfl
theorem uI {d:Addr} {o:Obj} {aI:List (List eD×V)} {g:TG} {tb:TS} {D:fZ} {σ:(List (Option V))} {H:Hp} (Pv:Nat->(List (Option V))->Hp->Prop) (h0:Pv 0 σ H) (hl:∀ i σ H,i<=aI.length->Pv i σ H->H d=some (.frz o (.dT aI)))
  (hs:∀ i σ H T k v q,aI[i]?=some (k,v)->Pv i σ H->H T=none->H q=some (.tup (k.map kV))->g (.ref T) σ (upd H T (.tup [.ref q,v])) fun σ2 H2=>tb {sZ D d o (.dT aI) with nx:=Pv (i+1),ct:=Pv (i+1),bk:=(sZ D d o (.dT aI)).nx} σ2 H2) (hd:∀ σ H,Pv aI.length σ H->D.nx σ (upd H d (.dT aI))):
  ∃ W:Nat->Nat->(List (Option V))->Hp->Prop,(∃ m,W 0 m σ H)/\∀ i m σ H,W i m σ H->
   ((Go d o aI).stop i H/\(sZ D d o (.dT aI)).nx σ H)\/((Go d o aI).go i H/\∃ N:(List (Option V))->Hp->Prop,(∀ σ' H',N σ' H'->∃ m',m'<m/\W (i+1) m' σ' H')/\∀ x H',(Go d o aI).yld i H x H'->g x σ H' fun σ2 H2=>tb {sZ D d o (.dT aI) with nx:=N,ct:=N,bk:=(sZ D d o (.dT aI)).nx} σ2 H2):=
 iC (D:=sZ D d o (.dT aI)) Pv h0 hl hs fun σ' H' p=>⟨hl _ _ _ (Nat.le_refl _) p,hd σ' H' p⟩
section
variable {P:Program} {w:World} {K:PySem.W.Frag} {mg:Str->Option Value} {base:Heap} {C CR CP CB CG:Addr}
def tzz (n:Nat) (W D Hh:Int):List Int:=if n % 2=1 then [D,W,Hh] else [W,D,Hh]
def qJ (CP:Addr):Sp:=fun vs H Q _=>∃ (b dx nm c:Addr) (W D Hh g:Int) (n:Nat),vs=[.ref b,.int (n:Int)]/\H b=some (.ins CP dx (Mz nm W D Hh g c))/\∀ t,H t=none->Q (.ref t) (upd H t (.tup ((tzz n W D Hh).map V.int)))
theorem Lf:aO ["part","turns"] ["part","turns"] (aG tM):=⟨rfl,rfl,rfl,by decide+kernel,rfl,by decide+kernel,by decide+kernel⟩
theorem Kt {f:Addr} {fd:FuncData} (F:fK K "turned_sizes" "turned_sizes" tM f fd) (T':Na K CP):bU P w K mg base bV 1 f fd ["part","turns"] (qJ CP):=by
 refine F.ok Lf (fun vs H Q E h=>?_) (fun cdv A outer s H vs Q E hr h=>?_)
 ·obtain ⟨b,dx,nm,c,W,D,Hh,g,n,rfl,_⟩:=h
  rfl
 ·obtain ⟨b,dx,nm,c,W,D,Hh,g,n,rfl,hb,k⟩:=h
  refine ⟨_,aF (eK (iB qG (cI Zb (pv 1) aK) aK (gU _)) (aH (aV (eN (aA (aT (pv 0) rfl) (aA (aT (pv 0) rfl) (aA (aT (pv 0) rfl) aE)))))) cF)
   (aH (aV (eN (aA (aT (pv 0) rfl) (aA (aT (pv 0) rfl) (aA (aT (pv 0) rfl) aE)))))),?_⟩
  unfold tzz at k
  refine ⟨_,rfl,_,_,rfl,rfl,(by show (0:Int)<2;decide),rfl,_,rfl,cE (fun e=>?_) (fun e=>?_)⟩
  ·rw [gW] at e
   have e:=of_decide_eq_true e
   rw [if_pos (by omega)] at k
   exact ⟨_,rfl,b,CP,dx,_,_,rfl,hb,T'.cl,T'.n3,rfl,_,rfl,b,CP,dx,_,_,rfl,hb,T'.cl,T'.n2,rfl,_,rfl,b,CP,dx,_,_,rfl,hb,T'.cl,T'.n4,rfl,(by show 3<=sizeLine;decide),k⟩
  ·rw [gW] at e
   have e:¬((n:Int) % 2=1):=fun z=>e (decide_eq_true z)
   rw [if_neg (by omega)] at k
   exact ⟨_,rfl,b,CP,dx,_,_,rfl,hb,T'.cl,T'.n2,rfl,_,rfl,b,CP,dx,_,_,rfl,hb,T'.cl,T'.n3,rfl,_,rfl,b,CP,dx,_,_,rfl,hb,T'.cl,T'.n4,rfl,(by show 3<=sizeLine;decide),k⟩
theorem Yx {prs:List aM} {p r:Nat} {pr:aM} (h:prs[p]?=some pr):tzz r pr.w pr.d pr.h=[(nB prs p r).1,(nB prs p r).2.1,(nB prs p r).2.2]:=by
 unfold tzz nB
 rw [h]
 by_cases hr:r % 2=1
 ·rw [if_pos hr]
  show _=[(if r % 2=1 then _ else _:Int×Int×Int).1,(if r % 2=1 then _ else _:Int×Int×Int).2.1,(if r % 2=1 then _ else _:Int×Int×Int).2.2]
  rw [if_pos hr]
 ·rw [if_neg hr]
  show _=[(if r % 2=1 then _ else _:Int×Int×Int).1,(if r % 2=1 then _ else _:Int×Int×Int).2.1,(if r % 2=1 then _ else _:Int×Int×Int).2.2]
  rw [if_neg hr]
theorem uO {lo hi v:Int} {i:Nat} {σ:(List (Option V))} {H:Hp} {Q:VK} (hσ:σ[i]?=some (some (.int v))) (k:Q (.bl (decide (lo<=v) && decide (v<hi))) H):
  Gp (Pw fun i j=>.bl (decide (i<=j))) (Pw fun i j=>.bl (decide (i<j))) (tC (.int lo)) (dI i) (tC (.int hi)) σ H Q:=by
 refine ⟨_,hσ,_,_,rfl,rfl,_,rfl,cE (fun h=>⟨_,_,rfl,rfl,?_⟩) (fun h=>?_)⟩
 ·rw [h,Bool.true_and] at k
  exact k
 ·rw [dB h,Bool.false_and] at k
  exact k
def qF:Sp:=fun vs H Q _=>∃ x y z:Int,vs=[.int x,.int y,.int z]/\Q (.bl (Et x y z)) H
theorem Kv:aO ["x","y","z"] ["x","y","z"] (aG uC):=⟨rfl,rfl,rfl,by decide+kernel,rfl,by decide+kernel,by decide+kernel⟩
theorem Mb {f:Addr} {fd:FuncData} (F:fK K "beyond_room" "beyond_room" uC f fd) (c1:CI mg "ROOM_WIDTH" 64) (c2:CI mg "ROOM_DEPTH" 64) (c3:CI mg "ROOM_HEIGHT" 96):bU P w K mg base bV 1 f fd ["x","y","z"] qF:=by
 refine F.ok Kv (fun vs H Q E h=>?_) (fun cdv A outer s H vs Q E hr h=>?_)
 ·obtain ⟨x,y,z,rfl,_⟩:=h
  rfl
 ·obtain ⟨x,y,z,rfl,k⟩:=h
  refine ⟨_,aH (aV (Yj (rZ (mT qM Rp aK (pv 0) (eR c1)) (rZ (mT qM Rp aK (pv 1) (eR c2)) (sB (mT qM Rp aK (pv 2) (eR c3))))))),?_⟩
  unfold Et at k
  refine uO rfl ⟨_,rfl,cE (fun e1=>uO rfl ⟨_,rfl,cE (fun e2=>uO rfl ⟨_,rfl,?_⟩) (fun e2=>⟨_,rfl,?_⟩)⟩) (fun e1=>⟨_,rfl,?_⟩)⟩
  ·rw [e1,e2,Bool.true_and,Bool.true_and] at k
   exact k
  ·rw [e1,dB e2,Bool.true_and,Bool.false_and] at k
   exact k
  ·rw [dB e1,Bool.false_and,Bool.false_and] at k
   exact k
def jO (K:PySem.W.Frag) (CP:Addr):Sp:=fun vs H Q _=>∃ (pa t:Addr) (bs:List Addr) (prs:List aM) (y:List Int),vs=[.ref pa,.ref t]/\dE K H pa (bs.map V.ref)/\dS CP H bs prs/\Ol H t y/\0<=iN y 0/\(iN y 0).toNat<prs.length/\0<=iN y 5/\
 ∀ H':Hp,aL H H'->Q (.bl (fL prs y)) H'
theorem yG:aO ["parts","put","size"] ["parts","put"] (aG tL):=⟨rfl,rfl,rfl,by decide+kernel,rfl,by decide+kernel,by decide+kernel⟩
theorem Ll {f:Addr} {fd:FuncData} (F:fK K "leaves_room" "leaves_room" tL f fd) (L1:dO P w K mg base "turned_sizes" bV 1 ["part","turns"] (qJ CP)) (L2:dO P w K mg base "beyond_room" bV 1 ["x","y","z"] qF):bU P w K mg base bV 2 f fd ["parts","put"] (jO K CP):=by
 obtain ⟨g1,gd1,G1,b1,k1,h1⟩:=L1.ex
 obtain ⟨g2,gd2,G2,b2,k2,h2⟩:=L2.ex
 refine F.ok yG (fun vs H Q E h=>?_) (fun cdv A outer s H vs Q E hr h=>?_)
 ·obtain ⟨pa,t,bs,prs,y,rfl,_⟩:=h
  rfl
 ·obtain ⟨pa,t,bs,prs,y,rfl,hpa,hps,⟨ht,hy⟩,hy0,hlt,hy5,k⟩:=h
  obtain ⟨a0,a1,a2,a3,a4,a5,rfl⟩:=Yr hy
  have hy0:0<=a0:=hy0
  have hlt:a0.toNat<prs.length:=hlt
  have hy5:0<=a5:=hy5
  have hr1:=hr.mono (j:=1) (by decide)
  refine ⟨_,aF (bI (i:=2) yG.nd rfl (Or.inl rfl) (aQ G1 hr1 (by rfl) h1 k1 b1 .nil aX (aA (bY kK (pv 0) (bY bQ (pv 1) aK (fun _ _=>rfl)) (fun _ _=>rfl)) (aA (bY bQ (pv 1) aK (fun _ _=>rfl)) aE))))
   (aH (aV (Rf (aQ G2 hr1 (by rfl) h2 k2 b2 .nil aX (aA (bY bQ (pv 1) aK (fun _ _=>rfl)) (aA (bY bQ (pv 1) aK (fun _ _=>rfl)) (aA (bY bQ (pv 1) aK (fun _ _=>rfl)) aE))))
    (sB (aQ G2 hr1 (by rfl) h2 k2 b2 .nil aX (aA (cI eT (cI fY (bY bQ (pv 1) aK (fun _ _=>rfl)) (bY bQ (pv 2) aK (fun _ _=>rfl))) aK)
     (aA (cI eT (cI fY (bY bQ (pv 1) aK (fun _ _=>rfl)) (bY bQ (pv 2) aK (fun _ _=>rfl))) aK) (aA (cI eT (cI fY (bY bQ (pv 1) aK (fun _ _=>rfl)) (bY bQ (pv 2) aK (fun _ _=>rfl))) aK) aE)))))))),?_⟩
  obtain ⟨pr,epr⟩:∃ pr,prs[a0.toNat]?=some pr:=⟨_,List.getElem?_eq_getElem hlt⟩
  obtain ⟨b,eb,pat,po⟩:=cG hps epr
  obtain ⟨dx,nm,cc,f1,f2,f3⟩:=pat
  have e0:Qq (bs.map V.ref) a0=some (V.ref b):=by
   have:=kJ (xs:=bs.map V.ref) (j:=a0.toNat) (v:=V.ref b) (by rw [List.getElem?_map,eb];rfl)
   rwa [Int.toNat_of_nonneg hy0] at this
  have e5:a5=((a5.toNat:Nat):Int):=(Int.toNat_of_nonneg hy5).symm
  refine ⟨_,rfl,_,rfl,t,_,_,_,rfl,rfl,cN.of ht,rfl,pa,_,_,_,rfl,rfl,hpa,e0,_,rfl,t,_,_,_,rfl,rfl,cN.of ht,rfl,b,dx,nm,cc,_,_,_,_,a5.toNat,by rw [<-e5];rfl,f1,fun tz htz=>?_⟩
  have ez:=Yx (r:=a5.toNat) epr
  rw [ez]
  have S1:=aL.new (o:=.tup ([(nB prs a0.toNat a5.toNat).1,(nB prs a0.toNat a5.toNat).2.1,(nB prs a0.toNat a5.toNat).2.2].map V.int)) htz
  have ht1:=S1 _ _ ht
  have htz1:upd H tz (.tup ([(nB prs a0.toNat a5.toNat).1,(nB prs a0.toNat a5.toNat).2.1,(nB prs a0.toNat a5.toNat).2.2].map V.int)) tz=some (.tup ([(nB prs a0.toNat a5.toNat).1,(nB prs a0.toNat a5.toNat).2.1,(nB prs a0.toNat a5.toNat).2.2].map V.int)):=aB
  generalize upd H tz (.tup ([(nB prs a0.toNat a5.toNat).1,(nB prs a0.toNat a5.toNat).2.1,(nB prs a0.toNat a5.toNat).2.2].map V.int))=H1 at S1 ht1 htz1
  have k:=k H1 S1
  have k:Q (.bl (Et a2 a3 a4||Et (a2+(nB prs a0.toNat a5.toNat).1 - 1) (a3+(nB prs a0.toNat a5.toNat).2.1 - 1) (a4+(nB prs a0.toNat a5.toNat).2.2 - 1))) H1:=k
  generalize nB prs a0.toNat a5.toNat=Z at k htz1
  refine ⟨_,rfl,t,_,_,_,rfl,rfl,cN.of ht1,rfl,_,rfl,t,_,_,_,rfl,rfl,cN.of ht1,rfl,_,rfl,t,_,_,_,rfl,rfl,cN.of ht1,rfl,a2,a3,a4,rfl,_,rfl,cE (fun e1=>?_) (fun e1=>?_)⟩
  ·rw [e1,Bool.true_or] at k
   exact k
  ·rw [dB e1,Bool.false_or] at k
   exact ⟨_,rfl,t,_,_,_,rfl,rfl,cN.of ht1,rfl,_,rfl,tz,_,_,_,rfl,rfl,cN.of htz1,rfl,_,_,rfl,rfl,_,_,rfl,rfl,_,rfl,t,_,_,_,rfl,rfl,cN.of ht1,rfl,_,rfl,tz,_,_,_,rfl,rfl,cN.of htz1,rfl,_,_,rfl,rfl,_,_,rfl,rfl,
    _,rfl,t,_,_,_,rfl,rfl,cN.of ht1,rfl,_,rfl,tz,_,_,_,rfl,rfl,cN.of htz1,rfl,_,_,rfl,rfl,_,_,rfl,rfl,_,_,_,rfl,k⟩
def Gs (K:PySem.W.Frag) (CP:Addr):Sp:=fun vs H Q _=>∃ (pa q:Addr) (bs:List Addr) (prs:List aM) (x:List Nat),vs=[.ref pa,.ref q]/\dE K H pa (bs.map V.ref)/\dS CP H bs prs/\(∀ pr∈prs,dU pr)/\H q=some (.tup (x.map Am))/\vY prs.length x/\dZ x 5<=3/\
 ∀ (H':Hp) (d:Addr),aL H H'->H d=none->H' d=some (.dT (aI (cU prs x)))->Q (.ref d) H'
theorem tW:aO ["parts","put","cells","place","sign"] ["parts","put"] (aG Iw):=⟨rfl,rfl,rfl,by decide+kernel,rfl,by decide+kernel,by decide+kernel⟩
theorem Uo {f:Addr} {fd:FuncData} (F:fK K "cells_in_room" "cells_in_room" Iw f fd) (T':Na K CP) (L1:dO P w K mg base "turned_part" bV 4 ["part","turns"] (wH CP)):bU P w K mg base bV 5 f fd ["parts","put"] (Gs K CP):=by
 obtain ⟨g1,gd1,G1,b1,k1,h1⟩:=L1.ex
 refine F.ok tW (fun vs H Q E h=>?_) (fun cdv A outer s H vs Q E hr h=>?_)
 ·obtain ⟨pa,q,bs,prs,x,rfl,_⟩:=h
  rfl
 ·obtain ⟨pa,qp,bs,prs,x,rfl,hpa,hps,hok,hp,⟨hx6,hx0⟩,hx5,k⟩:=h
  obtain ⟨pr,epr⟩:∃ pr,prs[dZ x 0]?=some pr:=⟨_,List.getElem?_eq_getElem hx0⟩
  have etp:tF prs x=gI (vU pr) (dZ x 5):=by
   unfold tF
   rw [epr]
   rfl
  obtain ⟨b,eb,hbp,hbo⟩:=cG hps epr
  obtain ⟨nm,hpt⟩:=hbp.pt
  have tok:tI (vU pr):=⟨(Tm (hok pr (List.mem_of_getElem? epr))).nd,hbo.len⟩
  obtain ⟨a0,a1,a2,a3,a4,a5,rfl⟩:=Tt hx6
  have hu:=lR hr
  refine ⟨_,aF (bI (i:=2) tW.nd rfl (Or.inl rfl) mP)
   (aF (Tq PassesOwn.never rfl (aT (aQ G1 (hr.mono (j:=4) (by decide)) (by rfl) h1 k1 b1 .nil aX (aA (bY kK (pv 0) (bY bQ (pv 1) aK (fun _ _=>rfl)) (fun _ _=>rfl)) (aA (bY bQ (pv 1) aK (fun _ _=>rfl)) aE))) rfl) (lX rfl (dG (bJ (i:=3) tW.nd rfl (Or.inl rfl)) (dG (bJ (i:=4) tW.nd rfl (Or.inl rfl)) jB)))
    (aH (nQ hu (pv 2) (eN (aA (cI fY (bY bQ (pv 1) aK (fun _ _=>rfl)) (bY bQ (pv 3) aK (fun _ _=>rfl))) (aA (cI fY (bY bQ (pv 1) aK (fun _ _=>rfl)) (bY bQ (pv 3) aK (fun _ _=>rfl))) (aA (cI fY (bY bQ (pv 1) aK (fun _ _=>rfl)) (bY bQ (pv 3) aK (fun _ _=>rfl))) aE)))) (pv 4) rfl)))
   (aH (aV (pv 2)))),?_⟩
  intro d hd
  have S0:aL H (upd H d (.dT [])):=aL.new hd
  have e0:Qq (bs.map V.ref) ((a0:Nat):Int)=some (V.ref b):=kJ (by
   rw [List.getElem?_map]
   show Option.map V.ref bs[dZ [a0,a1,a2,a3,a4,a5] 0]?=_
   rw [eb];rfl)
  have hp0:=S0 _ _ hp
  have hsl:=bE
  refine ⟨_,rfl,_,rfl,qp,_,_,_,rfl,rfl,cN.of hp0,rfl,pa,_,_,_,rfl,rfl,S0.seq hpa,e0,_,rfl,qp,_,_,_,rfl,rfl,cN.of hp0,rfl,b,nm,_,vU pr,a5,rfl,Nat.le_trans hx5 (by decide),hpt.same S0,tok,fun H1 b' S1 hp1=>?_⟩
  have tok2:tI (gI (vU pr) a5):=tok.turns _
  have k:∀ (H':Hp) (d:Addr),aL H H'->H d=none->H' d=some (.dT (aI (vV (lP a2 a3 a4) (gI (vU pr) a5).cs)))->Q (.ref d) H':=fun H' d s n e=>k H' d s n (by unfold cU;rw [etp];exact e)
  obtain ⟨dx1,c,hb1,hc1⟩:=hp1
  generalize gI (vU pr) a5=tt at hb1 hc1 tok2 k
  obtain ⟨W,D,Hh,cs⟩:=tt
  have hb1:H1 b'=some (.ins CP dx1 (Mz nm W D Hh pr.g c)):=hb1
  have hc1:H1 c=some (.dT (aI cs)):=hc1
  have nd:(cs.map (·.1)).Nodup:=tok2.nd
  have ln:cs.length<20000:=tok2.ln
  have hd1:H1 d=some (.dT []):=S1 _ _ aB
  have hp1:=S1 _ _ hp0
  refine ⟨b',CP,dx1,_,_,rfl,hb1,T'.cl,T'.n6,rfl,c,_,rfl,hc1,fun od=>?_⟩
  have S01:=S0.trans S1
  by_cases ncd:c=d
  ·-- the new dict itself:then there is nothing to walk
   subst ncd
   rw [hd1] at hc1
   have hcs:cs=[]:=by
    cases cs with
    |nil=>rfl
    |cons a r=>cases hc1
   subst hcs
   refine uI (fun i σ H'=>∃ v3 v4,σ=[some (.ref pa),some (.ref qp),some (.ref c),v3,v4]/\H'=upd H1 c (.frz od (.dT (aI [])))) ⟨none,none,rfl,rfl⟩ ?_ ?_ ?_
   ·rintro i σ H2 hi ⟨v3,v4,rfl,rfl⟩
    exact aB
   ·rintro i σ H2 T k' v q e
    cases i<;>cases e
   ·rintro σ H2 ⟨v3,v4,rfl,rfl⟩
    refine ⟨_,rfl,k _ c (fun y o e=>?_) hd (by rw [aB];rfl)⟩
    have ny:=aD e hd
    rw [aC ny,aC ny]
    exact S01 _ _ e
  ·have hcL:upd H1 c (.frz od (.dT (aI cs))) c=some (.frz od (.dT (aI cs))):=aB
   have hdL:upd H1 c (.frz od (.dT (aI cs))) d=some (.dT []):=by rw [aC (Ne.symm ncd)];exact hd1
   have npc:qp≠c:=fun z=>by rw [z,hc1] at hp1;cases hp1
   have npd:qp≠d:=fun z=>by rw [z,hd1] at hp1;cases hp1
   have hpL:upd H1 c (.frz od (.dT (aI cs))) qp=some (.tup ([a0,a1,a2,a3,a4,a5].map Am)):=by rw [aC npc];exact hp1
   refine uI (fun i σ H'=>∃ v3 v4,σ=[some (.ref pa),some (.ref qp),some (.ref d),v3,v4]/\SX d (upd H1 c (.frz od (.dT (aI cs)))) H'/\H' d=some (.dT (aI (vV (lP a2 a3 a4) (cs.take i))))) ⟨none,none,rfl,SX.refl _ _,hdL⟩ ?_ ?_ ?_
   ·rintro i σ H2 hi ⟨v3,v4,rfl,S2,_⟩
    exact S2 _ _ hcL ncd
   ·rintro i σ H2 T kk v q e ⟨v3,v4,rfl,S2,hd2⟩ hT hq
    obtain ⟨p,sg,e1,rfl,rfl⟩:=iY e
    have ST:=aL.new (o:=.tup [.ref q,.int sg]) hT
    refine ⟨T,_,rfl,cN.of aB,rfl,_,_,rfl,_,_,rfl,rfl,?_⟩
    have hq3:=ST _ _ hq
    have hp3:=ST _ _ (S2 _ _ hpL npd)
    have hd3:=ST _ _ hd2
    generalize upd H2 T (.tup [.ref q,.int sg])=H3 at ST hq3 hp3 hd3
    refine ⟨_,rfl,_,rfl,_,rfl,qp,_,_,_,rfl,rfl,cN.of hp3,rfl,_,rfl,q,_,_,_,rfl,rfl,cN.of hq3,rfl,_,_,rfl,rfl,_,rfl,qp,_,_,_,rfl,rfl,cN.of hp3,rfl,_,rfl,q,_,_,_,rfl,rfl,cN.of hq3,rfl,_,_,rfl,rfl,_,rfl,qp,_,_,_,rfl,rfl,cN.of hp3,rfl,_,rfl,q,_,_,_,rfl,rfl,cN.of hq3,rfl,_,_,rfl,rfl,(by show 3<=sizeLine;decide),fun t ht=>?_⟩
    have SQ:=aL.new (o:=.tup [.int (a2+p.1),.int (a3+p.2.1),.int (a4+p.2.2)]) ht
    have hi:i<cs.length:=(List.getElem?_eq_some_iff.mp e1).1
    refine ⟨d,_,rfl,xD.t (k:=eJ (a2+p.1) (a3+p.2.1) (a4+p.2.2)) (SQ _ _ hd3) aB (by rw [hJ,Ex,List.length_take];omega),?_⟩
    refine ⟨_,_,rfl,fun b' o e' n'=>?_,?_⟩
    ·rw [aC n']
     exact SQ _ _ (ST _ _ (S2 _ _ e' n'))
    ·rw [aB]
     exact congrArg (fun z=>some (HO.dT z)) (Hw (Kp a2 a3 a4) nd e1)
   ·rintro σ H2 ⟨v3,v4,rfl,S2,hd2⟩
    rw [hJ,List.take_length] at hd2
    have hdE:upd H2 c (.dT (aI cs)) d=some (.dT (aI (vV (lP a2 a3 a4) cs))):=by rw [aC (Ne.symm ncd)];exact hd2
    refine ⟨_,rfl,k _ d (fun y o e=>?_) hd hdE⟩
    have ny:=aD e hd
    have e1:=S01 _ _ e
    by_cases hy:y=c
    ·rw [hy] at e1 ⊢
     rw [aB,<-e1,hc1]
    ·rw [aC hy]
     exact S2 _ _ (by rw [aC hy];exact e1) ny
end
theorem Sh {A B:TS} {D:fZ} {σ:List (Option V)} {H:Hp} {M:List (Option V)->Hp->Prop} (h2:∀ σ' H',M σ' H'->B D σ' H') (h1:(∀ σ' H',M σ' H'->B D σ' H')->A {D with nx:=B D} σ H):Ce A B D σ H:=h1 h2
theorem Vr {i:Nat} {x:V} {σ:List (Option V)} {H:Hp} {k:List (Option V)->Hp->Prop} (h:k (σ.set i (some x)) H):mL i x σ H k:=h
def Fd (ds os wr:Addr):List (Str×V):=[("signs",.ref ds),("owners",.ref os),("wrong",.ref wr)]
structure Yt (K:PySem.W.Frag) (CM:Addr):Prop where
 cl:Fb K CM
 n1:dD K CM "signs"
 n2:dD K CM "owners"
 n3:dD K CM "wrong"
def Wd (CM:Addr):Sp:=fun vs H Q _=>∃ (r dx:Addr),vs=[.ref r]/\H r=some (.ins CM dx [])/\∀ (H':Hp) (ds os wr:Addr),H' r=some (.ins CM dx (Fd ds os wr))->H' ds=some (.dT [])->H' os=some (.dT [])->H' wr=some (.lst [])->H ds=none->H os=none->H wr=none->ds≠os->SX r H H'->Q .non H'
theorem Yn:aO ["self"] ["self"] (aG Bn):=⟨rfl,rfl,rfl,by decide+kernel,rfl,by decide+kernel,by decide+kernel⟩
theorem Xc {P:Program} {w:World} {K:PySem.W.Frag} {mg:Str->Option Value} {base:Heap} {CM f:Addr} {fd:FuncData} (F:fK K "__init__" "Room.__init__" Bn f fd) (T:Yt K CM):bU P w K mg base bV 1 f fd ["self"] (Wd CM):=by
 refine F.ok Yn (fun vs H Q E h=>?_) (fun cdv A outer s H vs Q E hr h=>?_)
 ·obtain ⟨r,dx,rfl,_⟩:=h
  rfl
 ·obtain ⟨r,dx,rfl,hp,k⟩:=h
  refine ⟨_,aF (dW (pv 0) mP rfl) (aF (dW (pv 0) mP rfl) (aH (dW (pv 0) (eG aE) rfl))),?_⟩
  intro ds hds
  have n1:r≠ds:=aD hp hds
  refine ⟨_,rfl,r,CM,dx,_,rfl,by rw [aC n1];exact hp,T.cl,T.n1,(by show 0<1000;decide),?_⟩
  intro os hos
  have n2:r≠os:=fun z=>by rw [<-z,aB] at hos;cases hos
  have n3:ds≠os:=fun z=>by rw [<-z,aC (Ne.symm n1),aB] at hos;cases hos
  rw [aC (Ne.symm n2),aC (Ne.symm n3)] at hos
  refine ⟨_,rfl,r,CM,dx,_,rfl,by rw [aC n2,aB],T.cl,T.n2,(by show 1<1000;decide),?_⟩
  refine ⟨Nat.zero_le _,fun wr hwr=>?_⟩
  have n4:r≠wr:=fun z=>by rw [<-z,aB] at hwr;cases hwr
  have n5:os≠wr:=fun z=>by rw [<-z,aC (Ne.symm n2),aB] at hwr;cases hwr
  have n6:ds≠wr:=fun z=>by rw [<-z,aC (Ne.symm n1),aC n3,aC (Ne.symm n1),aB] at hwr;cases hwr
  rw [aC (Ne.symm n4),aC (Ne.symm n5),aC (Ne.symm n4),aC (Ne.symm n6)] at hwr
  refine ⟨_,rfl,r,CM,dx,_,rfl,by rw [aC n4,aB],T.cl,T.n3,(by show 2<1000;decide),?_⟩
  refine k _ ds os wr aB ?_ ?_ ?_ hds hos hwr n3 fun b o e hb=>?_
  ·rw [aC (Ne.symm n1),aC n6,aC (Ne.symm n1),aC n3,aC (Ne.symm n1),aB]
  ·rw [aC (Ne.symm n2),aC n5,aC (Ne.symm n2),aB]
  ·rw [aC (Ne.symm n4),aB]
  ·rw [aC hb,aC (aD e hwr),aC hb,aC (aD e hos),aC hb,aC (aD e hds)]
   exact e
structure RmM (P:Program) (w:World) (K:PySem.W.Frag) (mg:Str->Option Value) (base:Heap) (CM:Addr):Prop where
 ex:∃ f fd,Mk K CM f/\bU P w K mg base bV 1 f fd ["self"] (Wd CM)/\eZ K fd ["self"] []
 mg:mg "Room"=some (.ref CM)
section
variable {sg ow:CL} {c:Pl×Int} {s k:Int}
theorem Mv (h:¬fC c.2=true):lW sg ow c=[]:=by
 unfold lW
 split
 ·exact if_neg fun z=>h z.1
 ·rfl
theorem My (h:aY sg (oZ c.1)=none):lW sg ow c=[]:=by
 unfold lW
 rw [h]
theorem Kl (h:aY sg (oZ c.1)=some s) (ht:dQ s=true):lW sg ow c=[]:=by
 unfold lW
 rw [h]
 exact if_neg fun z=>by rw [ht] at z;exact Bool.noConfusion z.2
theorem Ny (h:aY sg (oZ c.1)=some s) (h1:fC c.2=true) (h2:dQ s=false) (h3:aY ow (oZ c.1)=some k):lW sg ow c=[k]:=by
 unfold lW
 rw [h]
 show (if fC c.2=true/\dQ s=false then _ else _)=_
 rw [if_pos ⟨h1,h2⟩,h3]
 rfl
theorem Ks (h:dQ c.2=true):oE sg ow c=[]:=by
 unfold oE
 split
 ·exact if_neg fun z=>by rw [h] at z;exact Bool.noConfusion z.1
 ·rfl
theorem Mi (h:aY sg (oN c.1)=none):oE sg ow c=[]:=by
 unfold oE
 rw [h]
theorem Kz (h:aY sg (oN c.1)=some s) (ht:¬fC s=true):oE sg ow c=[]:=by
 unfold oE
 rw [h]
 exact if_neg fun z=>ht z.2
theorem Pr (h:aY sg (oN c.1)=some s) (h1:dQ c.2=false) (h2:fC s=true) (h3:aY ow (oN c.1)=some k):oE sg ow c=[k]:=by
 unfold oE
 rw [h]
 show (if dQ c.2=false/\fC s=true then _ else _)=_
 rw [if_pos ⟨h1,h2⟩,h3]
 rfl
theorem Cc:(lW sg ow c).length<=1:=by
 unfold lW
 split
 ·split
  ·cases aY ow (oZ c.1)<;>simp
  ·simp
 ·simp
theorem Oy:(oE sg ow c).length<=1:=by
 unfold oE
 split
 ·split
  ·cases aY ow (oN c.1)<;>simp
  ·simp
 ·simp
end
theorem yW (sg ow:CL):∀ cl:CL,(cR cl sg ow).length<=2 * cl.length
 |[]=>Nat.le_refl _
 |c::r=>by
  have ih:=yW sg ow r
  have h1:=Cc (sg:=sg) (ow:=ow) (c:=c)
  have h2:=Oy (sg:=sg) (ow:=ow) (c:=c)
  unfold cR at ih ⊢
  rw [List.flatMap_cons,List.length_append,List.length_append,List.length_cons]
  omega
theorem oQ {cl sg ow:CL} {i:Nat} {c:Pl×Int} (e:cl[i]?=some c):cR (cl.take (i+1)) sg ow=cR (cl.take i) sg ow++lW sg ow c++oE sg ow c:=by
 unfold cR
 rw [List.take_succ,e,List.flatMap_append,List.append_assoc]
 show _++List.flatMap _ [c]=_
 rw [List.flatMap_singleton]
theorem pG {H:Hp} {c q:Addr} {cs:CL} {p:Pl} {v:Int} (hc:H c=some (.dT (aI cs))) (hq:H q=some (.tup [.int p.1,.int p.2.1,.int p.2.2])) (h:aY cs p=some v):rE H c (.ref q) (some (V.int v)):=by
 have:=wM (p:=p) hc hq
 rw [h] at this
 exact this
theorem fJ:16000000<sizeLine:=by rw [sizeLine_eq];decide
section
variable {P:Program} {w:World} {K:PySem.W.Frag} {mg:Str->Option Value} {base:Heap} {C CR CP CB CG CM:Addr}
def rG (CM:Addr):Sp:=fun vs H Q _=>∃ (d m dm wr s o:Addr) (cl sg ow:CL),vs=[.ref d,.ref m]/\H m=some (.ins CM dm (Fd s o wr))/\H d=some (.dT (aI cl))/\H s=some (.dT (aI sg))/\H o=some (.dT (aI ow))/\d≠s/\d≠o/\(∀ p,(aY sg p).isSome=true->(aY ow p).isSome=true)/\cl.length<20000/\
 ∀ (H':Hp) (l:Addr),aL H H'->H l=none->H' l=some (.lst ((cR cl sg ow).map V.int))->Q (.ref l) H'
theorem gH:aO ["cells","room","blocked","place","sign","over","under"] ["cells","room"] (aG qL):=⟨rfl,rfl,rfl,by decide+kernel,rfl,by decide+kernel,by decide+kernel⟩
theorem Fm {f:Addr} {fd:FuncData} (F:fK K "blocked_lines" "blocked_lines" qL f fd) (TM:Yt K CM) (L1:dO P w K mg base "above" bV 1 ["place"] nM) (L2:dO P w K mg base "below" bV 1 ["place"] nI)
  (L3:dO P w K mg base "has_stud" bV 1 ["sign"] vH) (L4:dO P w K mg base "has_tube" bV 1 ["sign"] uY):bU P w K mg base bV 2 f fd ["cells","room"] (rG CM):=by
 obtain ⟨g1,gd1,G1,b1,k1,h1⟩:=L1.ex
 obtain ⟨g2,gd2,G2,b2,k2,h2⟩:=L2.ex
 obtain ⟨g3,gd3,G3,b3,k3,h3⟩:=L3.ex
 obtain ⟨g4,gd4,G4,b4,k4,h4⟩:=L4.ex
 refine F.ok gH (fun vs H Q E h=>?_) (fun cdv A outer s H vs Q E hr h=>?_)
 ·obtain ⟨d,m,dm,wr,s,o,cl,sg,ow,rfl,_⟩:=h
  rfl
 ·obtain ⟨d,m,dm,wr,s,o,cl,sg,ow,rfl,hm,hd,hs,ho,nds,ndo,sub,ln,k⟩:=h
  have hr1:=hr.mono (j:=1) (by decide)
  have hu:=lR hr
  refine ⟨_,aF (bI (i:=2) gH.nd rfl (Or.inl rfl) (eG aE))
   (aF (kH (eU PassesOwn.never rfl (jX (pv 0)) (lX rfl (dG (bJ (i:=3) gH.nd rfl (Or.inl rfl)) (dG (bJ (i:=4) gH.nd rfl (Or.inl rfl)) jB)))
    (aF (bI (i:=5) gH.nd rfl (Or.inl rfl) (aQ G1 hr1 (by rfl) h1 k1 b1 .nil aX (aA (pv 3) aE)))
    (aF (eK (gX (eE (aQ G3 hr1 (by rfl) h3 k3 b3 .nil aX (aA (pv 4) aE))) (gX (eB (rD hu (pv 5) (aT (pv 1) rfl))) (hZ (kU (eE (aQ G4 hr1 (by rfl) h4 k4 b4 .nil aX (aA (pH hu (aT (pv 1) rfl) (pv 5) (fun _ _=>rfl)) aE))))))).pt
     (aH (cD (mD PySem.F.plainAttrs_list PySem.F.slot_list_append PySem.F.type_list_append gG (pv 2) (aA (pH hu (aT (pv 1) rfl) (pv 5) (fun _ _=>rfl)) aE)))) cF)
    (aF (bI (i:=6) gH.nd rfl (Or.inl rfl) (aQ G2 hr1 (by rfl) h2 k2 b2 .nil aX (aA (pv 3) aE)))
    (aH (eK (gX (kU (eE (aQ G4 hr1 (by rfl) h4 k4 b4 .nil aX (aA (pv 4) aE)))) (gX (eB (rD hu (pv 6) (aT (pv 1) rfl))) (hZ (eE (aQ G3 hr1 (by rfl) h3 k3 b3 .nil aX (aA (pH hu (aT (pv 1) rfl) (pv 6) (fun _ _=>rfl)) aE)))))).pt
     (aH (cD (mD PySem.F.plainAttrs_list PySem.F.slot_list_append PySem.F.type_list_append gG (pv 2) (aA (pH hu (aT (pv 1) rfl) (pv 6) (fun _ _=>rfl)) aE)))) cF)))))))
   (aH (aV (pv 2)))),?_⟩
  refine ⟨by show 0<=sizeLine;decide,fun l hl=>?_⟩
  have S0:aL H (upd H l (.lst [])):=aL.new hl
  have ndl:d≠l:=aD hd hl
  have nsl:s≠l:=aD hs hl
  have nol:o≠l:=aD ho hl
  have nml:m≠l:=aD hm hl
  have nmd:m≠d:=fun z=>by rw [z,hd] at hm;cases hm
  have hsz:=fJ
  refine ⟨d,_,S0 _ _ hd,trivial,fun od=>?_⟩
  have hdL:upd (upd H l (.lst [])) d (.frz od (.dT (aI cl))) d=some (.frz od (.dT (aI cl))):=aB
  have hsL:upd (upd H l (.lst [])) d (.frz od (.dT (aI cl))) s=some (.dT (aI sg)):=by rw [aC (Ne.symm nds)];exact S0 _ _ hs
  have hoL:upd (upd H l (.lst [])) d (.frz od (.dT (aI cl))) o=some (.dT (aI ow)):=by rw [aC (Ne.symm ndo)];exact S0 _ _ ho
  have hmL:upd (upd H l (.lst [])) d (.frz od (.dT (aI cl))) m=some (.ins CM dm (Fd s o wr)):=by rw [aC nmd];exact S0 _ _ hm
  have hlL:upd (upd H l (.lst [])) d (.frz od (.dT (aI cl))) l=some (.lst []):=by rw [aC (Ne.symm ndl),aB]
  refine ⟨_,rfl,d,od,_,rfl,hdL,?_⟩
  refine iC (fun i σ H'=>∃ v4 v5 v6 v7,σ=[some (.ref d),some (.ref m),some (.ref l),v4,v5,v6,v7]/\SX l (upd (upd H l (.lst [])) d (.frz od (.dT (aI cl)))) H'/\H' l=some (.lst ((cR (cl.take i) sg ow).map V.int))) ⟨none,none,none,none,rfl,SX.refl _ _,hlL⟩ ?_ ?_ ?_
  ·rintro i σ H1 hi ⟨v4,v5,v6,v7,rfl,S1,_⟩
   exact S1 _ _ hdL ndl
  ·rintro i σ H1 T kk v q e ⟨v4,v5,v6,v7,rfl,S1,hl1⟩ hT hq
   obtain ⟨p,sv,e1,rfl,rfl⟩:=iY e
   have hi:i<cl.length:=(List.getElem?_eq_some_iff.mp e1).1
   have ST:=aL.new (o:=.tup [.ref q,.int sv]) hT
   refine ⟨T,_,rfl,cN.of aB,rfl,_,_,rfl,_,_,rfl,rfl,?_⟩
   have hq2:=ST _ _ hq
   have S2:SX l (upd (upd H l (.lst [])) d (.frz od (.dT (aI cl)))) (upd H1 T (.tup [.ref q,.int sv])):=fun b ob eb nb=>ST _ _ (S1 _ _ eb nb)
   have hl2:=ST _ _ hl1
   generalize upd H1 T (.tup [.ref q,.int sv])=H2 at ST hq2 S2 hl2
   have nql:q≠l:=fun z=>by rw [z,hl2] at hq2;cases hq2
   have len0:(cR (cl.take i) sg ow).length<=40000:=by
    have:=yW sg ow (cl.take i)
    rw [List.length_take] at this
    omega
   have fin:∀ {H':Hp} {xs:List Int},lW sg ow (p,sv)++oE sg ow (p,sv)=xs->H' l=some (.lst ((cR (cl.take i) sg ow++xs).map V.int))->H' l=some (.lst ((cR (cl.take (i+1)) sg ow).map V.int)):=fun {H' xs} ex hx=>by
    rw [hx,oQ e1,List.append_assoc,ex]
   refine ⟨_,rfl,q,p.1,p.2.1,p.2.2,rfl,hq2,fun t ht=>?_⟩
   have SQ:=aL.new (o:=.tup [.int p.1,.int p.2.1,.int (p.2.2+1)]) ht
   have S3:SX l (upd (upd H l (.lst [])) d (.frz od (.dT (aI cl)))) (upd H2 t (.tup [.int p.1,.int p.2.1,.int (p.2.2+1)])):=fun b ob eb nb=>SQ _ _ (S2 _ _ eb nb)
   have hl3:=SQ _ _ hl2
   have hq3:=SQ _ _ hq2
   have ht3:upd H2 t (.tup [.int p.1,.int p.2.1,.int (p.2.2+1)]) t=some (.tup [.int (oZ p).1,.int (oZ p).2.1,.int (oZ p).2.2]):=aB
   generalize upd H2 t (.tup [.int p.1,.int p.2.1,.int (p.2.2+1)])=H3 at S3 hl3 hq3 ht3
   refine Vr ?_
   dsimp only
   refine Sh (A:=Wy _ _ _) (M:=fun σ' H'=>∃ v7,σ'=[some (.ref d),some (.ref m),some (.ref l),some (.ref q),some (.int sv),some (.ref t),v7]/\SX l (upd (upd H l (.lst [])) d (.frz od (.dT (aI cl)))) H'/\H' l=some (.lst ((cR (cl.take i) sg ow++lW sg ow (p,sv)).map V.int))/\H' q=some (.tup [.int p.1,.int p.2.1,.int p.2.2])) ?_ (fun nxt=>?_)
   ·rintro σ' H4 ⟨v7,rfl,S4,hl4,hq4⟩
    refine ⟨_,rfl,q,p.1,p.2.1,p.2.2,rfl,hq4,fun u hu'=>?_⟩
    have SU:=aL.new (o:=.tup [.int p.1,.int p.2.1,.int (p.2.2 - 1)]) hu'
    have S5:SX l (upd (upd H l (.lst [])) d (.frz od (.dT (aI cl)))) (upd H4 u (.tup [.int p.1,.int p.2.1,.int (p.2.2 - 1)])):=fun b ob eb nb=>SU _ _ (S4 _ _ eb nb)
    have hl5:=SU _ _ hl4
    have hu5:upd H4 u (.tup [.int p.1,.int p.2.1,.int (p.2.2 - 1)]) u=some (.tup [.int (oN p).1,.int (oN p).2.1,.int (oN p).2.2]):=aB
    generalize upd H4 u (.tup [.int p.1,.int p.2.1,.int (p.2.2 - 1)])=H5 at S5 hl5 hu5
    have no2:oE sg ow (p,sv)=[]->H5 l=some (.lst ((cR (cl.take (i+1)) sg ow).map V.int)):=fun z=>by
     rw [oQ e1,z,List.append_nil]
     exact hl5
    refine ⟨_,rfl,sv,rfl,_,rfl,cE (fun ht1=>?_) (fun ht1=>tG ⟨_,_,_,_,rfl,S5,no2 (Ks (by cases z:dQ sv with|true=>exact rfl|false=>exact absurd (by rw [z];rfl) ht1))⟩)⟩
    have ht1:dQ sv=false:=by
     cases z:dQ sv with
     |false=>rfl
     |true=>rw [z] at ht1;cases ht1
    refine ⟨_,rfl,_,rfl,m,CM,dm,_,_,rfl,(S5 _ _ hmL nml),TM.cl,TM.n1,rfl,s,_,rfl,wM (p:=oN p) (S5 _ _ hsL nsl) hu5,_,rfl,cE (fun hin=>?_) (fun hin=>tG ⟨_,_,_,_,rfl,S5,no2 (Mi ?_)⟩)⟩
    ·rw [Option.isSome_map] at hin
     obtain ⟨sv2,es⟩:=Option.isSome_iff_exists.mp hin
     obtain ⟨ov,eo⟩:=Option.isSome_iff_exists.mp (sub _ hin)
     refine ⟨_,rfl,m,CM,dm,_,_,rfl,(S5 _ _ hmL nml),TM.cl,TM.n1,rfl,_,rfl,s,_,rfl,pG (p:=oN p) (S5 _ _ hsL nsl) hu5 es,sv2,rfl,_,rfl,cE (fun hs2=>?_) (fun hs2=>⟨_,_,_,_,rfl,S5,no2 (Kz es hs2)⟩)⟩
     refine ⟨_,rfl,.inl ⟨rfl,_,dE.of hl5⟩,_,rfl,m,CM,dm,_,_,rfl,(S5 _ _ hmL nml),TM.cl,TM.n2,rfl,_,rfl,o,_,rfl,pG (p:=oN p) (S5 _ _ hoL nol) hu5 eo,l,_,_,rfl,rfl,hl5,?_,?_⟩
     ·have:=Cc (sg:=sg) (ow:=ow) (c:=(p,sv))
      rw [List.length_map,List.length_append]
      omega
     ·refine ⟨_,_,_,_,rfl,fun b ob eb nb=>?_,?_⟩
      ·rw [aC nb]
       exact S5 _ _ eb nb
      ·rw [aB,oQ e1,Pr es ht1 hs2 eo]
       simp only [List.map_append,List.map_cons,List.map_nil]
    ·rw [Option.isSome_map] at hin
     cases z:aY sg (oN p) with
     |none=>rfl
     |some y=>rw [z] at hin;exact absurd rfl hin
   ·have no1:lW sg ow (p,sv)=[]->H3 l=some (.lst ((cR (cl.take i) sg ow++lW sg ow (p,sv)).map V.int)):=fun z=>by
     rw [z,List.append_nil]
     exact hl3
    refine ⟨_,rfl,sv,rfl,_,rfl,cE (fun hs1=>?_) (fun hs1=>tG (nxt _ _ ⟨_,rfl,S3,no1 (Mv hs1),hq3⟩))⟩
    refine ⟨_,rfl,_,rfl,m,CM,dm,_,_,rfl,(S3 _ _ hmL nml),TM.cl,TM.n1,rfl,s,_,rfl,wM (p:=oZ p) (S3 _ _ hsL nsl) ht3,_,rfl,cE (fun hin=>?_) (fun hin=>tG (nxt _ _ ⟨_,rfl,S3,no1 (My ?_),hq3⟩))⟩
    ·rw [Option.isSome_map] at hin
     obtain ⟨sv2,es⟩:=Option.isSome_iff_exists.mp hin
     obtain ⟨ov,eo⟩:=Option.isSome_iff_exists.mp (sub _ hin)
     refine ⟨_,rfl,m,CM,dm,_,_,rfl,(S3 _ _ hmL nml),TM.cl,TM.n1,rfl,_,rfl,s,_,rfl,pG (p:=oZ p) (S3 _ _ hsL nsl) ht3 es,sv2,rfl,_,rfl,cE (fun ht2=>?_) (fun ht2=>nxt _ _ ⟨_,rfl,S3,no1 (Kl es ?_),hq3⟩)⟩
     ·have ht2:dQ sv2=false:=by
       cases z:dQ sv2 with
       |false=>rfl
       |true=>rw [z] at ht2;cases ht2
      refine ⟨_,rfl,.inl ⟨rfl,_,dE.of hl3⟩,_,rfl,m,CM,dm,_,_,rfl,(S3 _ _ hmL nml),TM.cl,TM.n2,rfl,_,rfl,o,_,rfl,pG (p:=oZ p) (S3 _ _ hoL nol) ht3 eo,l,_,_,rfl,rfl,hl3,?_,nxt _ _ ?_⟩
      ·rw [List.length_map]
       omega
      ·refine ⟨_,rfl,fun b ob eb nb=>?_,?_,?_⟩
       ·rw [aC nb]
        exact S3 _ _ eb nb
       ·rw [aB,Ny es hs1 ht2 eo]
        simp only [List.map_append,List.map_cons,List.map_nil]
       ·rw [aC nql]
        exact hq3
     ·cases z:dQ sv2 with
      |true=>rfl
      |false=>exact absurd (by rw [z];rfl) ht2
    ·rw [Option.isSome_map] at hin
     cases z:aY sg (oZ p) with
     |none=>rfl
     |some y=>rw [z] at hin;exact absurd rfl hin
  ·rintro σ H1 ⟨v4,v5,v6,v7,rfl,S1,hl1⟩
   rw [hJ,List.take_length] at hl1
   refine ⟨S1 _ _ hdL ndl,?_⟩
   have S2:=Kh hd hl S1
   have hl2:upd H1 d (.dT (aI cl)) l=some (.lst ((cR cl sg ow).map V.int)):=by rw [aC (Ne.symm ndl)];exact hl1
   exact ⟨_,rfl,k _ l S2 hl hl2⟩
end
end Br1
namespace L2
open PySem PySem.Spec PyProof.Rows
theorem Ki {K:PySem.W.Frag} {a:Addr} {xs:List V} {g:TG} {tb:TS} {D:fZ} {σ:St} {H:Hp} (Pv:Nat->St->Hp->Prop) (h0:Pv 0 σ H) (hl:∀ i σ H,i<=xs.length->Pv i σ H->dE K H a xs)
  (hs:∀ i x σ H T,xs[i]?=some x->Pv i σ H->H T=none->g (.ref T) σ (upd H T (.tup [.int (i:Nat),x])) fun σ2 H2=>tb {D with nx:=Pv (i+1),ct:=Pv (i+1),bk:=D.nx} σ2 H2) (hd:∀ σ H,Pv xs.length σ H->D.nx σ H):
  ∃ W:Nat->Nat->St->Hp->Prop,(∃ m,W 0 m σ H)/\∀ i m σ H,W i m σ H->
   ((Zy K a).stop i H/\D.nx σ H)\/((Zy K a).go i H/\∃ N:St->Hp->Prop,(∀ σ' H',N σ' H'->∃ m',m'<m/\W (i+1) m' σ' H')/\∀ x H',(Zy K a).yld i H x H'->g x σ H' fun σ2 H2=>tb {D with nx:=N,ct:=N,bk:=D.nx} σ2 H2):=by
 refine ⟨fun i m σ H=>m=xs.length - i/\i<=xs.length/\Pv i σ H,⟨xs.length,by simp,Nat.zero_le _,h0⟩,?_⟩
 rintro i m σ H ⟨rfl,hi,p⟩
 have q:=hl i σ H hi p
 by_cases hlt:i<xs.length
 ·refine .inr ⟨⟨xs,xs[i],q,by simp [hlt]⟩,Pv (i+1),fun σ' H' p'=>⟨xs.length - (i+1),by omega,rfl,hlt,p'⟩,fun x H' y=>?_⟩
  obtain ⟨T,x',rfl,hT,rfl,y⟩:=y
  exact hs i x' σ H T (y xs q) p hT
 ·have e:i=xs.length:=by omega
  subst e
  exact .inl ⟨⟨xs,q,Nat.le_refl _⟩,hd σ H p⟩
end L2
namespace Br1
open PySem PySem.Spec PyProof.Rows L2
theorem Eg {ow cl:CL} {i:Nat} {c:Pl×Int} (e:cl[i]?=some c):fX ow (cl.take (i+1))=fX ow (cl.take i)++(aY ow c.1).toList:=by
 unfold fX
 rw [List.take_succ,e,List.filterMap_append]
 show _++List.filterMap _ [c]=_
 cases h:aY ow c.1<;>simp [h]
theorem Tc (ow cl:CL):(fX ow cl).length<=cl.length:=by
 unfold fX
 exact List.length_filterMap_le _ _
theorem Nk {ow cl:CL} (h:¬0<(fX ow cl).length):∀ c∈cl,aY ow c.1=none:=by
 intro c hc
 cases e:aY ow c.1 with
 |none=>rfl
 |some k=>
  have:k∈fX ow cl:=List.mem_filterMap.mpr ⟨c,hc,e⟩
  exact absurd (List.length_pos_of_mem this) h
def Cv (j:Nat) (cl:CL):CL:=cl.map fun c=>(c.1,(j:Int))
theorem Je {dct cl:CL} {i:Nat} {p:Pl} {s v:Int} (f:Pl×Int->Pl×Int) (hf:∀ c,(f c).1=c.1) (nd:(cl.map (·.1)).Nodup) (fr:∀ c∈cl,aY dct c.1=none) (e:cl[i]?=some (p,s)) (hv:(f (p,s)).2=v):
  lA (aI (dct++(cl.take i).map f)) (eJ p.1 p.2.1 p.2.2) (V.int v)=aI (dct++(cl.take (i+1)).map f):=by
 rw [Jk]
 ·rw [List.take_succ,e,List.map_append,List.append_assoc]
  show aI (dct++(_++[(p,v)]))=aI (dct++(_++[f (p,s)]))
  rw [<-hv]
  have:f (p,s)=(p,(f (p,s)).2):=Prod.ext (hf _) rfl
  rw [<-this]
 ·rw [uQ,fr _ (List.mem_of_getElem? e)]
  show aY _ _=none
  refine xH fun c hc z=>?_
  obtain ⟨c0,h0,rfl⟩:=List.mem_map.mp hc
  rw [hf] at z
  exact vB nd e c0 h0 z
def uK (cl sg ow:CL) (j:Int):List Int:=if 0<(fX ow cl).length then [2,j,rO (fX ow cl)] else if 0<(cR cl sg ow).length then [3,j,rO (cR cl sg ow)] else []
section
variable {P:Program} {w:World} {K:PySem.W.Frag} {mg:Str->Option Value} {base:Heap} {C CR CP CB CG CM:Addr}
def uF (CM:Addr):Sp:=fun vs H Q _=>∃ (d m dm wr s o:Addr) (cl sg ow:CL) (j:Int),vs=[.ref m,.ref d,.int j]/\H m=some (.ins CM dm (Fd s o wr))/\H d=some (.dT (aI cl))/\H s=some (.dT (aI sg))/\H o=some (.dT (aI ow))/\d≠s/\d≠o/\(∀ p,(aY sg p).isSome=true->(aY ow p).isSome=true)/\cl.length<20000/\
 ∀ (H':Hp) (l:Addr),aL H H'->H l=none->H' l=some (.lst ((uK cl sg ow j).map V.int))->Q (.ref l) H'
abbrev Ji:List Str:=["room","cells","j","hit","blocked","place"]
theorem nR:aO Ji ["room","cells","j"] (aG qI):=⟨rfl,rfl,rfl,by decide+kernel,rfl,by decide+kernel,by decide+kernel⟩
theorem Lz {f:Addr} {fd:FuncData} (F:fK K "wrong_with" "wrong_with" qI f fd) (TM:Yt K CM) (hlen:mg "len"=none) (hmin:mg "min"=none) (L1:dO P w K mg base "blocked_lines" bV 2 ["cells","room"] (rG CM)):bU P w K mg base bV 3 f fd ["room","cells","j"] (uF CM):=by
 obtain ⟨g1,gd1,G1,b1,k1,h1⟩:=L1.ex
 refine F.ok nR (fun vs H Q E h=>?_) (fun cdv A outer s H vs Q E hr h=>?_)
 ·obtain ⟨d,m,dm,wr,s,o,cl,sg,ow,j,rfl,_⟩:=h
  rfl
 ·obtain ⟨d,m,dm,wr,s,o,cl,sg,ow,j,rfl,hm,hd,hs,ho,nds,ndo,sub,ln,k⟩:=h
  have hr2:=hr.mono (j:=2) (by decide)
  have hu:=lR hr
  have hsz:=fJ
  refine ⟨_,aF (kH (De (i:=3) (tt:=tB (aAs (dI 5) (Pp K (dI 0) "owners"))) (te:=Vn (Pp K (dI 0) "owners") (dI 5)) (own:=[("place",5)]) rfl nR.nd rfl rfl rfl (Ih (pv 1)) (gN (N:=Ji) (sc:=aG qI) (by decide+kernel))
     (fun _ _ _ _ _=>bJ (i:=5) nR.nd rfl (Or.inl rfl)) (fun _ _ _ _ _=>Ud (eB (rD hu (pv 5) (aT (pv 0) rfl)))) (fun _ _ _ _ _=>pH hu (aT (pv 0) rfl) (pv 5) (fun _ _=>rfl))))
   (aF (eK (eB (sI (bS bW (by rfl) hlen PySem.boot_len (aA (pv 3) aE)) aK)) (aH (aV (eG (aA aK (aA (pv 2) (aA (bS (Pz rfl) (by rfl) hmin boot_min (aA (pv 3) aE)) aE)))))) cF)
   (aF (bI (i:=4) nR.nd rfl (Or.inl rfl) (aQ G1 hr2 (by rfl) h1 k1 b1 .nil aX (aA (pv 1) (aA (pv 0) aE))))
   (aF (eK (eB (sI (bS bW (by rfl) hlen PySem.boot_len (aA (pv 4) aE)) aK)) (aH (aV (eG (aA aK (aA (pv 2) (aA (bS (Pz rfl) (by rfl) hmin boot_min (aA (pv 4) aE)) aE)))))) cF)
   (aH (aV (eG aE)))))),?_⟩
  refine ⟨d,_,hd,trivial,fun od=>?_⟩
  have nmd:m≠d:=fun z=>by rw [z,hd] at hm;cases hm
  have hdL:upd H d (.frz od (.dT (aI cl))) d=some (.frz od (.dT (aI cl))):=aB
  have hoL:upd H d (.frz od (.dT (aI cl))) o=some (.dT (aI ow)):=by rw [aC (Ne.symm ndo)];exact ho
  have hmL:upd H d (.frz od (.dT (aI cl))) m=some (.ins CM dm (Fd s o wr)):=by rw [aC nmd];exact hm
  refine ⟨_,rfl,d,od,rfl,.inr ⟨aI cl,hdL,fun Dl hDl=>?_⟩⟩
  refine Em (fun i H'=>aL (upd H d (.frz od (.dT (aI cl)))) H'/\H' Dl=some (.lst ((fX ow (cl.take i)).map V.int))) ⟨aL.new hDl,aB⟩ (fun i H' _ p=>p.1 _ _ hdL) ?_ ?_
  ·rintro i kk vv q H5 e5 ⟨S5,hD5⟩ hq
   obtain ⟨p,sv,e6,rfl,rfl⟩:=iY e5
   have hi:i<cl.length:=(List.getElem?_eq_some_iff.mp e6).1
   refine ⟨rfl,_,rfl,_,rfl,m,CM,dm,_,_,rfl,S5 _ _ hmL,TM.cl,TM.n2,rfl,o,_,rfl,wM (p:=p) (S5 _ _ hoL) hq,_,rfl,cE (fun hin=>?_) (fun hin=>?_)⟩
   ·rw [Option.isSome_map] at hin
    obtain ⟨ov,eo⟩:=Option.isSome_iff_exists.mp hin
    refine ⟨_,rfl,m,CM,dm,_,_,rfl,S5 _ _ hmL,TM.cl,TM.n2,rfl,_,rfl,o,_,rfl,pG (p:=p) (S5 _ _ hoL) hq eo,_,hD5,?_,fun b2 ob eb2=>?_,?_⟩
    ·rw [List.length_map]
     have:=Tc ow (cl.take i)
     rw [List.length_take] at this
     omega
    ·rw [aC (aD eb2 hDl)]
     exact S5 _ _ eb2
    ·rw [aB,Eg e6]
     show some (HO.lst _)=some (HO.lst ((fX ow (cl.take i)++(aY ow p).toList).map V.int))
     rw [eo,List.map_append]
     rfl
   ·refine ⟨S5,?_⟩
    rw [Option.isSome_map] at hin
    rw [Eg e6]
    show _=some (HO.lst ((fX ow (cl.take i)++(aY ow p).toList).map V.int))
    cases z:aY ow p with
    |none=>show _=some (HO.lst ((fX ow (cl.take i)++[]).map V.int));rw [List.append_nil];exact hD5
    |some y=>rw [z] at hin;exact absurd rfl hin
  ·rintro H5 ⟨S5,hD5⟩
   rw [hJ,List.take_length] at hD5
   refine ⟨S5 _ _ hdL,?_⟩
   have S6:=iF hd S5
   have nDd:Dl≠d:=fun z=>by rw [z,hdL] at hDl;cases hDl
   have hDH:H Dl=none:=by rw [aC nDd] at hDl;exact hDl
   have hD6:upd H5 d (.dT (aI cl)) Dl=some (.lst ((fX ow cl).map V.int)):=by rw [aC nDd];exact hD5
   have hd6:upd H5 d (.dT (aI cl)) d=some (.dT (aI cl)):=aB
   generalize upd H5 d (.dT (aI cl))=H6 at S6 hD6 hd6
   unfold uK at k
   refine ⟨_,rfl,Dl,_,rfl,.inl (dE.of hD6),_,_,rfl,rfl,_,rfl,cE (fun hh=>?_) (fun hh=>?_)⟩
   ·have hh:(0:Int)<(((fX ow cl).map V.int).length:Int):=of_decide_eq_true hh
    rw [List.length_map] at hh
    have hh2:0<(fX ow cl).length:=by omega
    rw [if_pos hh2] at k
    refine ⟨_,rfl,_,rfl,Dl,_,rfl,dE.of hD6,hh2,fun mn hm1 hm2=>⟨by show 3<=sizeLine;decide,fun l hl=>?_⟩⟩
    refine k _ l (S6.trans (aL.new hl)) (S6.free hl) ?_
    rw [aB,<-Jy hm1 hm2]
    rfl
   ·have hh:¬(0:Int)<(((fX ow cl).map V.int).length:Int):=fun z=>hh (decide_eq_true z)
    rw [List.length_map] at hh
    have hh2:¬0<(fX ow cl).length:=by omega
    rw [if_neg hh2] at k
    refine ⟨_,rfl,_,rfl,d,m,dm,wr,s,o,cl,sg,ow,rfl,S6 _ _ hm,hd6,S6 _ _ hs,S6 _ _ ho,nds,ndo,sub,ln,fun H7 bl S7 hb6 hb7=>?_⟩
    have S67:=S6.trans S7
    refine ⟨_,rfl,bl,_,rfl,.inl (dE.of hb7),_,_,rfl,rfl,_,rfl,cE (fun hh=>?_) (fun hh=>?_)⟩
    ·have hh:(0:Int)<(((cR cl sg ow).map V.int).length:Int):=of_decide_eq_true hh
     rw [List.length_map] at hh
     have hh3:0<(cR cl sg ow).length:=by omega
     rw [if_pos hh3] at k
     refine ⟨_,rfl,_,rfl,bl,_,rfl,dE.of hb7,hh3,fun mn hm1 hm2=>⟨by show 3<=sizeLine;decide,fun l hl=>?_⟩⟩
     refine k _ l (S67.trans (aL.new hl)) (S67.free hl) ?_
     rw [aB,<-Jy hm1 hm2]
     rfl
    ·have hh:¬(0:Int)<(((cR cl sg ow).map V.int).length:Int):=fun z=>hh (decide_eq_true z)
     rw [List.length_map] at hh
     have hh3:¬0<(cR cl sg ow).length:=by omega
     rw [if_neg hh3] at k
     exact ⟨Nat.zero_le _,fun l hl=>k _ l (S67.trans (aL.new hl)) (S67.free hl) aB⟩
end
theorem Cp {prs:List aM} (ok:∀ pr∈prs,dU pr) {x:List Nat} (hx:vY prs.length x):fL prs (mY x)=lE (tF prs x) (dZ x 2) (dZ x 3) (dZ x 4):=by
 rw [<-Mc ok hx.2]
 obtain ⟨a0,a1,a2,a3,a4,a5,rfl⟩:=Tt hx.1
 show iA prs ((a0:Int).toNat) ((a5:Int).toNat) a2 a3 a4=iA prs a0 a5 a2 a3 a4
 rw [Int.toNat_natCast,Int.toNat_natCast]
theorem Vd {prs:List aM} {ls:List (List Nat)} {j:Nat} {x:List Nat} (e:ls[j]?=some x):vL prs (ls.take (j+1))=vL prs (ls.take j)++[(Br.Line.shape (prs.map cO) (gS x),cU prs x)]:=by
 unfold vL
 rw [List.take_succ,e,List.map_append]
 rfl
theorem Xo {prs:List aM} {ls:List (List Nat)}:(vL prs ls).length=ls.length:=List.length_map _
def Gv (CM:Addr) (H:Hp) (m:Addr) (prs:List aM) (ls:List (List Nat)):Prop:=∃ (dm s o wr:Addr) (sg ow:CL),H m=some (.ins CM dm (Fd s o wr))/\H wr=some (.lst ((cZ prs 0 [] [] ls).map V.int))/\H s=some (.dT (aI sg))/\H o=some (.dT (aI ow))/\s≠o/\
 (cZ prs 0 [] [] ls=[]->sg=Vl (vL prs ls)/\ow=Us (vL prs ls))/\sg.length<=5120000/\ow.length<=5120000
structure FW (CM:Addr) (H:Hp) (m dm s o:Addr) (prs:List aM) (ls:List (List Nat)) (j:Nat) (sg ow:CL) (H':Hp):Prop where
 sm:aL H H'
 hm:∃ wr,H' m=some (.ins CM dm (Fd s o wr))/\H' wr=some (.lst [])
 hs:H' s=some (.dT (aI sg))
 ho:H' o=some (.dT (aI ow))
 sub:∀ p,(aY sg p).isSome=true->(aY ow p).isSome=true
 l1:sg.length<=j * 20000
 l2:ow.length<=j * 20000
 er:cZ prs 0 [] [] ls=cZ prs j sg ow (ls.drop j)
 eg:sg=Vl (vL prs (ls.take j))
 eo:ow=Us (vL prs (ls.take j))
theorem FW.same {CM:Addr} {H:Hp} {m dm s o:Addr} {prs:List aM} {ls:List (List Nat)} {j:Nat} {sg ow:CL} {H1 H2:Hp} (f:FW CM H m dm s o prs ls j sg ow H1) (S:aL H1 H2):FW CM H m dm s o prs ls j sg ow H2:=by
 obtain ⟨wr,h1,h2⟩:=f.hm
 exact ⟨f.sm.trans S,⟨wr,S _ _ h1,S _ _ h2⟩,S _ _ f.hs,S _ _ f.ho,f.sub,f.l1,f.l2,f.er,f.eg,f.eo⟩
theorem Ub {K:PySem.W.Frag} {ta tv:TE} {f:Str} {B:TS} {D:fZ} {σ:List (Option V)} {H:Hp} (M:V->Hp->Prop) (h1:∀ Q:VK,(∀ y H',M y H'->Q y H')->tv σ H Q) (h2:∀ y H',M y H'->Za K ta (tC y) f {D with nx:=B D} σ H'):Ce (Za K ta tv f) B D σ H:=h1 _ h2
section
variable {P:Program} {w:World} {K:PySem.W.Frag} {mg:Str->Option Value} {base:Heap} {C CR CP CB CG CM:Addr}
def Gd (K:PySem.W.Frag) (CP CM:Addr):Sp:=fun vs H Q _=>∃ (pa la:Addr) (bs ts:List Addr) (prs:List aM) (ls:List (List Nat)),vs=[.ref pa,.ref la]/\H pa=some (.lst (bs.map V.ref))/\dS CP H bs prs/\H la=some (.lst (ts.map V.ref))/\jE H ts ls/\
 (∀ pr∈prs,dU pr)/\(∀ x∈ls,vY prs.length x/\dZ x 5<=3)/\ls.length<=256/\∀ (H':Hp) (m:Addr),aL H H'->H m=none->Gv CM H' m prs ls->Q (.ref m) H'
abbrev Zz:List Str:=["parts","lines","room","j","put","cells","place","sign"]
theorem lB:aO Zz ["parts","lines"] (aG Iz):=⟨rfl,rfl,rfl,by decide+kernel,rfl,by decide+kernel,by decide+kernel⟩
theorem Sb {f:Addr} {fd:FuncData} (F:fK K "fill_room" "fill_room" Iz f fd) (TM:Yt K CM) (RM:RmM P w K mg base CM) (hlen:mg "len"=none) (henum:mg "enumerate"=none) (L1:dO P w K mg base "cells_in_room" bV 5 ["parts","put"] (Gs K CP))
  (L2:dO P w K mg base "leaves_room" bV 2 ["parts","put"] (jO K CP)) (L3:dO P w K mg base "wrong_with" bV 3 ["room","cells","j"] (uF CM)):bU P w K mg base bV 6 f fd ["parts","lines"] (Gd K CP CM):=by
 obtain ⟨g1,gd1,G1,b1,k1,h1⟩:=L1.ex
 obtain ⟨g2,gd2,G2,b2,k2,h2⟩:=L2.ex
 obtain ⟨g3,gd3,G3,b3,k3,h3⟩:=L3.ex
 obtain ⟨fm,fmd,MM,GM,bM⟩:=RM.ex
 refine F.ok lB (fun vs H Q E h=>?_) (fun cdv A outer s H vs Q E hr h=>?_)
 ·obtain ⟨pa,la,bs,ts,prs,ls,rfl,_⟩:=h
  rfl
 ·obtain ⟨pa,la,bs,ts,prs,ls,rfl,hpa,hps,hla,hls,hok,hln,h256,k⟩:=h
  have hr2:=hr.mono (j:=2) (by decide)
  have hr3:=hr.mono (j:=3) (by decide)
  have hu:=lR hr
  have hsz:=fJ
  refine ⟨_,aF (bI (i:=2) lB.nd rfl (Or.inl rfl) (Pb MM GM hr2 (by rfl) RM.mg bM .nil aX))
   (aF (eU PassesOwn.never rfl (Sc (by rfl) henum (aA (pv 1) aE)) (lX rfl (dG (bJ (i:=3) lB.nd rfl (Or.inl rfl)) (dG (bJ (i:=4) lB.nd rfl (Or.inl rfl)) jB)))
    (aF (bI (i:=5) lB.nd rfl (Or.inl rfl) (aQ G1 hr (by rfl) h1 k1 b1 .nil aX (aA (pv 0) (aA (pv 4) aE))))
    (aF (dW (pv 2) (Oq (eE (aQ G2 hr2 (by rfl) h2 k2 b2 .nil aX (aA (pv 0) (aA (pv 4) aE)))) (eG (aA aK (aA (pv 3) (aA (pv 3) aE)))) (aQ G3 hr3 (by rfl) h3 k3 b3 .nil aX (aA (pv 2) (aA (pv 5) (aA (pv 3) aE))))) rfl)
    (aF (eK (eB (sI (bS bW (by rfl) hlen PySem.boot_len (aA (aT (pv 2) rfl) aE)) aK)) (aH (aV (pv 2))) cF)
    (aH (kH (eU PassesOwn.never rfl (jX (pv 5)) (lX rfl (dG (bJ (i:=6) lB.nd rfl (Or.inl rfl)) (dG (bJ (i:=7) lB.nd rfl (Or.inl rfl)) jB)))
     (aF (nQ hu (aT (pv 2) rfl) (pv 6) (pv 7) rfl) (aH (nQ hu (aT (pv 2) rfl) (pv 6) (pv 3) rfl))))))))))
   (aH (aV (pv 2)))),?_⟩
  intro m dm hmH hdmH hne
  refine ⟨m,dm,rfl,aB,fun H1 s0 o0 wr0 hm1 hs1 ho1 hw1 fs fo fw0 nso sx=>⟨rfl,?_⟩⟩
  have S1:aL H H1:=fun y o e=>sx y o (by rw [aC (aD e hmH),aC (aD e hdmH)];exact e) (aD e hmH)
  have nsm:s0≠m:=fun z=>by rw [z,aB] at fs;cases fs
  have nom:o0≠m:=fun z=>by rw [z,aB] at fo;cases fo
  have nsd:s0≠dm:=fun z=>by rw [z,aC hne,aB] at fs;cases fs
  have nod:o0≠dm:=fun z=>by rw [z,aC hne,aB] at fo;cases fo
  have hsH:H s0=none:=by rw [aC nsm,aC nsd] at fs;exact fs
  have hoH:H o0=none:=by rw [aC nom,aC nod] at fo;exact fo
  have hl2:ts.length=ls.length:=Paired.length hls
  refine ⟨_,rfl,la,_,rfl,dE.of (S1 _ _ hla),?_⟩
  refine Ki (xs:=ts.map V.ref) (fun j σ H'=>∃ sg ow v3 v4 v5 v6 v7,σ=[some (.ref pa),some (.ref la),some (.ref m),v3,v4,v5,v6,v7]/\FW CM H m dm s0 o0 prs ls j sg ow H')
   ⟨[],[],none,none,none,none,none,rfl,S1,⟨wr0,hm1,hw1⟩,hs1,ho1,fun p z=>(by cases z),(by simp),(by simp),rfl,rfl,rfl⟩ ?_ ?_ ?_
  ·rintro i σ H2 hi ⟨sg,ow,v3,v4,v5,v6,v7,rfl,fw⟩
   exact dE.of (fw.sm _ _ hla)
  ·rintro j xv σ H2 T ex ⟨sg,ow,v3,v4,v5,v6,v7,rfl,fw⟩ hT
   have hj:j<ls.length:=by
    have:=(List.getElem?_eq_some_iff.mp ex).1
    rwa [List.length_map,hl2] at this
   obtain ⟨x,elx⟩:∃ x,ls[j]?=some x:=⟨_,List.getElem?_eq_getElem hj⟩
   obtain ⟨t,et,ht,hx6⟩:=cG hls elx
   rw [List.getElem?_map,et] at ex
   cases ex
   obtain ⟨hx0,hx5⟩:=hln x (List.mem_of_getElem? elx)
   have edrop:ls.drop j=x::ls.drop (j+1):=by
    obtain ⟨h0,h1⟩:=List.getElem?_eq_some_iff.mp elx
    rw [List.drop_eq_getElem_cons h0,h1]
   have er:=fw.er
   rw [edrop,cZ] at er
   have ezs:=Vd (prs:=prs) elx
   have etk:(ls.take j).length=j:=by rw [List.length_take];omega
   obtain ⟨sr,_⟩:=pP hok hx0.2
   have clnd:=sr.nd
   have ST:=aL.new (o:=.tup [.int (j:Nat),.ref t]) hT
   refine ⟨T,_,rfl,cN.of aB,rfl,_,_,rfl,_,_,rfl,rfl,?_⟩
   have fw3:=fw.same ST
   generalize upd H2 T (.tup [.int (j:Nat),.ref t])=H3 at fw3
   have hps3:dS CP H3 bs prs:=Paired.mapP hps fun _ _ z=>⟨z.1.same fw3.sm,z.2⟩
   refine ⟨_,rfl,_,rfl,pa,t,bs,prs,x,rfl,dE.of (fw3.sm _ _ hpa),hps3,hok,fw3.sm _ _ ht,hx0,hx5,fun H4 d S4 hd3 hd4=>?_⟩
   have fw4:=fw3.same S4
   have nds:d≠s0:=fun z=>by rw [z,fw3.hs] at hd3;cases hd3
   have ndo:d≠o0:=fun z=>by rw [z,fw3.ho] at hd3;cases hd3
   have clln:(cU prs x).length<20000:=by
    obtain ⟨pr,epr⟩:∃ pr,prs[dZ x 0]?=some pr:=⟨_,List.getElem?_eq_getElem hx0.2⟩
    obtain ⟨b,eb,hbp,hbo⟩:=cG hps epr
    have tok:tI (vU pr):=⟨(Tm (hok pr (List.mem_of_getElem? epr))).nd,hbo.len⟩
    have etp:tF prs x=gI (vU pr) (dZ x 5):=by
     unfold tF
     rw [epr]
     rfl
    unfold cU Cd
    rw [List.length_map,etp]
    exact (tok.turns _).ln
   have hlv:=Cp hok hx0
   generalize cU prs x=cl at er hd4 clnd clln ezs
   have hps4:dS CP H4 bs prs:=Paired.mapP hps fun _ _ z=>⟨z.1.same fw4.sm,z.2⟩
   obtain ⟨wr,hm4,hwr4⟩:=fw4.hm
   have nmd:m≠d:=fun z=>by rw [z,hd4] at hm4;cases hm4
   refine Vr ?_
   dsimp only
   refine Ub (fun y H5=>∃ (l:Addr) (ws:List Int),y=.ref l/\aL H4 H5/\H4 l=none/\H5 l=some (.lst (ws.map V.int))/\(0<ws.length->cZ prs 0 [] [] ls=ws)/\(ws=[]->cZ prs 0 [] [] ls=cZ prs (j+1) (sg++cl) (ow++cl.map fun c=>(c.1,(j:Int))) (ls.drop (j+1))/\¬0<(fX ow cl).length)) (fun Q2 nxt=>?_) ?_
   ·have hput:Ol H4 t (mY x):=⟨by rw [<-Rg];exact fw4.sm _ _ ht,by unfold mY;rw [List.length_map];exact hx6⟩
    have hy0:iN (mY x) 0=(dZ x 0:Int):=by
     obtain ⟨a0,a1,a2,a3,a4,a5,rfl⟩:=Tt hx6
     rfl
    have hy5:iN (mY x) 5=(dZ x 5:Int):=by
     obtain ⟨a0,a1,a2,a3,a4,a5,rfl⟩:=Tt hx6
     rfl
    refine ⟨_,rfl,_,rfl,pa,t,bs,prs,mY x,rfl,dE.of (fw4.sm _ _ hpa),hps4,hput,by rw [hy0];omega,by rw [hy0,Int.toNat_natCast];exact hx0.2,by rw [hy5];omega,fun H5 S5=>⟨_,rfl,cE (fun hl=>?_) (fun hl=>?_)⟩⟩
    ·rw [hlv] at hl
     rw [if_pos hl] at er
     refine ⟨_,rfl,_,rfl,by show 3<=sizeLine;decide,fun l hl=>nxt _ _ ⟨l,[1,(j:Int),(j:Int)],rfl,S5.trans (aL.new hl),S5.free hl,aB,fun _=>er,fun z=>(by cases z)⟩⟩
    ·rw [hlv] at hl
     rw [if_neg hl] at er
     refine ⟨_,rfl,_,rfl,_,rfl,d,m,dm,wr,s0,o0,cl,sg,ow,(j:Int),rfl,S5 _ _ hm4,S5 _ _ hd4,S5 _ _ fw4.hs,S5 _ _ fw4.ho,nds,ndo,fw.sub,clln,fun H6 l S6 hlf hl6=>nxt _ _ ⟨l,uK cl sg ow (j:Int),rfl,S5.trans S6,S5.free hlf,hl6,fun hw=>?_,fun hw=>?_⟩⟩
     ·unfold uK at hw ⊢
      by_cases hh:0<(fX ow cl).length
      ·rw [if_pos hh] at er ⊢
       exact er
      ·rw [if_neg hh] at er hw ⊢
       by_cases hb:0<(cR cl sg ow).length
       ·rw [if_pos hb] at er ⊢
        exact er
       ·rw [if_neg hb] at hw
        cases hw
     ·unfold uK at hw
      by_cases hh:0<(fX ow cl).length
      ·rw [if_pos hh] at hw
       cases hw
      ·rw [if_neg hh] at er hw
       by_cases hb:0<(cR cl sg ow).length
       ·rw [if_pos hb] at hw
        cases hw
       ·rw [if_neg hb] at er
        exact ⟨er,hh⟩
   ·rintro y H5 ⟨l,ws,rfl,S5,hlf,hl5,ew1,ew2⟩
    have nlm:l≠m:=fun z=>by rw [z,hm4] at hlf;cases hlf
    refine ⟨_,rfl,m,CM,dm,_,rfl,S5 _ _ hm4,TM.cl,TM.n3,(by show 3<1000;decide),?_⟩
    have hm6:upd H5 m (.ins CM dm (Fd s0 o0 l)) m=some (.ins CM dm (Fd s0 o0 l)):=aB
    have hl6:upd H5 m (.ins CM dm (Fd s0 o0 l)) l=some (.lst (ws.map V.int)):=by rw [aC nlm];exact hl5
    have S6:∀ y o,H4 y=some o->y≠m->upd H5 m (.ins CM dm (Fd s0 o0 l)) y=some o:=fun y o e n=>by rw [aC n];exact S5 _ _ e
    have S6H:aL H (upd H5 m (.ins CM dm (Fd s0 o0 l))):=fun y o e=>S6 y o (fw4.sm _ _ e) (aD e hmH)
    have nsm':s0≠m:=nsm
    have hs6:=S6 _ _ fw4.hs nsm
    have ho6:=S6 _ _ fw4.ho nom
    have hd6:=S6 _ _ hd4 (Ne.symm nmd)
    show Ce _ _ _ _ (upd H5 m (.ins CM dm (Fd s0 o0 l)))
    generalize upd H5 m (.ins CM dm (Fd s0 o0 l))=H6 at hm6 hl6 S6H hs6 ho6 hd6
    refine ⟨_,rfl,m,CM,dm,_,_,rfl,hm6,TM.cl,TM.n3,rfl,l,_,rfl,.inl (dE.of hl6),_,_,rfl,rfl,_,rfl,cE (fun hh=>?_) (fun hh=>?_)⟩
    ·have hh:(0:Int)<((ws.map V.int).length:Int):=of_decide_eq_true hh
     rw [List.length_map] at hh
     have e1:=ew1 (by omega)
     refine ⟨_,rfl,k _ m S6H hmH ⟨dm,s0,o0,l,sg,ow,hm6,by rw [e1];exact hl6,hs6,ho6,nso,fun z=>?_,by have:=fw.l1;omega,by have:=fw.l2;omega⟩⟩
     rw [e1] at z
     rw [z] at hh
     cases hh
    ·have hh:¬(0:Int)<((ws.map V.int).length:Int):=fun z=>hh (decide_eq_true z)
     rw [List.length_map] at hh
     have ews:ws=[]:=List.eq_nil_of_length_eq_zero (by omega)
     obtain ⟨er2,hh2⟩:=ew2 ews
     subst ews
     have frO:=Nk hh2
     have frS:∀ c∈cl,aY sg c.1=none:=fun c hc=>by
      cases z:aY sg c.1 with
      |none=>rfl
      |some y=>
       have:=fw.sub c.1 (by rw [z];rfl)
       rw [frO c hc] at this
       cases this
     refine ⟨d,_,hd6,trivial,fun od2=>?_⟩
     have hdM:upd H6 d (.frz od2 (.dT (aI cl))) d=some (.frz od2 (.dT (aI cl))):=aB
     have hsM:upd H6 d (.frz od2 (.dT (aI cl))) s0=some (.dT (aI sg)):=by rw [aC (Ne.symm nds)];exact hs6
     have hoM:upd H6 d (.frz od2 (.dT (aI cl))) o0=some (.dT (aI ow)):=by rw [aC (Ne.symm ndo)];exact ho6
     have hmM:upd H6 d (.frz od2 (.dT (aI cl))) m=some (.ins CM dm (Fd s0 o0 l)):=by rw [aC nmd];exact hm6
     refine ⟨_,rfl,d,od2,_,rfl,hdM,?_⟩
     refine iC (fun i σ H'=>∃ v6 v7,σ=[some (.ref pa),some (.ref la),some (.ref m),some (.int (j:Nat)),some (.ref t),some (.ref d),v6,v7]/\(∀ y ob,upd H6 d (.frz od2 (.dT (aI cl))) y=some ob->y≠s0->y≠o0->H' y=some ob)/\H' s0=some (.dT (aI (sg++(cl.take i).map id)))/\H' o0=some (.dT (aI (ow++Cv j (cl.take i)))))
      ⟨_,_,rfl,fun y ob ey _ _=>ey,by simpa using hsM,by simpa [Cv] using hoM⟩ ?_ ?_ ?_
     ·rintro i σ H8 hi ⟨v6,v7,rfl,S8,_⟩
      exact S8 _ _ hdM nds ndo
     ·rintro i σ H8 T8 kk vv q e8 ⟨v6,v7,rfl,S8,hs8,ho8⟩ hT8 hq
      obtain ⟨p,sv,e9,rfl,rfl⟩:=iY e8
      have hi:i<cl.length:=(List.getElem?_eq_some_iff.mp e9).1
      have ST8:=aL.new (o:=.tup [.ref q,.int sv]) hT8
      refine ⟨T8,_,rfl,cN.of aB,rfl,_,_,rfl,_,_,rfl,rfl,?_⟩
      have hq9:=ST8 _ _ hq
      have hs9:=ST8 _ _ hs8
      have ho9:=ST8 _ _ ho8
      have hm9:=ST8 _ _ (S8 _ _ hmM (Ne.symm nsm) (Ne.symm nom))
      generalize upd H8 T8 (.tup [.ref q,.int sv])=H9 at ST8 hq9 hs9 ho9 hm9
      have nqs:q≠s0:=fun z=>by rw [z,hs9] at hq9;cases hq9
      have hj2:j<=256:=by omega
      have hl1:=fw.l1
      have hl2':=fw.l2
      refine ⟨_,rfl,_,rfl,m,CM,dm,_,_,rfl,hm9,TM.cl,TM.n1,rfl,_,rfl,s0,_,rfl,xD.t (k:=eJ p.1 p.2.1 p.2.2) hs9 hq9 (by rw [hJ,List.length_append,List.length_map,List.length_take];omega),?_⟩
      have ps:=Je (dct:=sg) id (fun _=>rfl) clnd frS e9 (v:=sv) rfl
      rw [ps]
      have ho10:upd H9 s0 (.dT (aI (sg++(cl.take (i+1)).map id))) o0=some (.dT (aI (ow++Cv j (cl.take i)))):=by rw [aC (Ne.symm nso)];exact ho9
      have hq10:upd H9 s0 (.dT (aI (sg++(cl.take (i+1)).map id))) q=some (.tup ((eJ p.1 p.2.1 p.2.2).map kV)):=by rw [aC nqs];exact hq9
      have hm10:upd H9 s0 (.dT (aI (sg++(cl.take (i+1)).map id))) m=some (.ins CM dm (Fd s0 o0 l)):=by rw [aC (Ne.symm nsm)];exact hm9
      refine ⟨_,rfl,_,rfl,m,CM,dm,_,_,rfl,hm10,TM.cl,TM.n2,rfl,_,rfl,o0,_,rfl,xD.t (k:=eJ p.1 p.2.1 p.2.2) ho10 hq10 (by unfold Cv;rw [hJ,List.length_append,List.length_map,List.length_take];omega),?_⟩
      have po:=Je (dct:=ow) (fun c=>(c.1,(j:Int))) (fun _=>rfl) clnd frO e9 (v:=(j:Int)) rfl
      have po:lA (aI (ow++Cv j (cl.take i))) (eJ p.1 p.2.1 p.2.2) (V.int (j:Int))=aI (ow++Cv j (cl.take (i+1))):=po
      refine ⟨_,_,rfl,fun y ob ey n1 n2=>?_,?_,?_⟩
      ·rw [aC n2,aC n1]
       exact ST8 _ _ (S8 _ _ ey n1 n2)
      ·rw [aC nso,aB]
      ·rw [aB]
       exact congrArg (fun z=>some (HO.dT z)) po
     ·rintro σ H8 ⟨v6,v7,rfl,S8,hs8,ho8⟩
      rw [hJ,List.take_length] at hs8 ho8
      rw [List.map_id] at hs8
      refine ⟨S8 _ _ hdM nds ndo,?_⟩
      have e9:((j+1) * 20000)=j * 20000+20000:=by omega
      have hl1:=fw.l1
      have hl2':=fw.l2
      have nls:l≠s0:=fun z=>by rw [z,fw4.hs] at hlf;cases hlf
      have nlo:l≠o0:=fun z=>by rw [z,fw4.ho] at hlf;cases hlf
      have nld:l≠d:=fun z=>by rw [z,hd4] at hlf;cases hlf
      refine ⟨sg++cl,ow++Cv j cl,_,_,_,_,_,rfl,fun y ob ey=>?_,⟨l,?_,?_⟩,?_,?_,fun p hp=>?_,?_,?_,?_,?_,?_⟩
      ·have n1:y≠s0:=aD ey hsH
       have n2:y≠o0:=aD ey hoH
       have h7:=S6H _ _ ey
       by_cases hy:y=d
       ·rw [hy] at h7 ⊢
        rw [aB,<-h7,hd6]
       ·rw [aC hy]
        exact S8 _ _ (by rw [aC hy];exact h7) n1 n2
      ·rw [aC nmd]
       exact S8 _ _ hmM (Ne.symm nsm) (Ne.symm nom)
      ·rw [aC nld]
       exact S8 _ _ (by rw [aC nld];exact hl6) nls nlo
      ·rw [aC (Ne.symm nds)]
       exact hs8
      ·rw [aC (Ne.symm ndo)]
       exact ho8
      ·rw [dJ] at hp ⊢
       obtain ⟨c,hc,e⟩:=hp
       rcases List.mem_append.mp hc with hc|hc
       ·obtain ⟨c2,hc2,e2⟩:=dJ.mp (fw.sub p (dJ.mpr ⟨c,hc,e⟩))
        exact ⟨c2,List.mem_append_left _ hc2,e2⟩
       ·exact ⟨(c.1,(j:Int)),List.mem_append_right _ (List.mem_map.mpr ⟨c,hc,rfl⟩),e⟩
      ·rw [List.length_append]
       omega
      ·unfold Cv
       rw [List.length_append,List.length_map]
       omega
      ·exact er2
      ·rw [ezs,vO,<-fw.eg]
      ·rw [ezs,uM,<-fw.eo,Xo,etk]
       rfl
  ·rintro σ H2 ⟨sg,ow,v3,v4,v5,v6,v7,rfl,fw⟩
   have er:=fw.er
   rw [List.length_map,hl2,List.drop_length] at er
   have er:cZ prs 0 [] [] ls=[]:=er
   have eg:=fw.eg
   have eo:=fw.eo
   rw [List.length_map,hl2,List.take_length] at eg eo
   have l1:=fw.l1
   have l2:=fw.l2
   rw [List.length_map,hl2] at l1 l2
   obtain ⟨wr,e1,e2⟩:=fw.hm
   exact ⟨_,rfl,k _ m fw.sm hmH ⟨dm,s0,o0,wr,sg,ow,e1,by rw [er];exact e2,fw.hs,fw.ho,nso,fun _=>⟨eg,eo⟩,by omega,by omega⟩⟩
end
theorem zR {l:List Int}:∀ {ms:List Nat} {p:Nat} {r:List Nat×Nat},cW l ms p=.ok r->∀ (i v m:Nat),r.1[i]?=some v->ms[i]?=some m->v<=m
 |[],p,r,h=>by
  intro i v m h1 h2
  simp at h2
 |m0::ms,p,r,h=>by
  rw [cW] at h
  obtain ⟨p1,_,h⟩:=aJ h
  obtain ⟨u,eu,h⟩:=aJ h
  obtain ⟨q,eq,rfl⟩:=eX h
  intro i v m h1 h2
  cases i with
  |zero=>
   cases h1
   cases h2
   exact (kI (lo:=0) eu).2
  |succ i=>exact zR eq i v m h1 h2
theorem Lk {nss:List (List Int)} {l:List Int} {p:Nat} {q:List Nat×Nat} (h:dY nss l p=.ok q):dZ q.1 5<=3:=by
 unfold dY at h
 obtain ⟨p1,_,h⟩:=aJ h
 obtain ⟨n,en,h⟩:=aJ h
 obtain ⟨r,er,h⟩:=aJ h
 obtain ⟨_,_,h⟩:=aJ h
 cases h
 have hl:=pW (r:=r) er
 have hl:r.1.length=5:=hl
 have e:r.1[4]?=some r.1[4]:=List.getElem?_eq_getElem (by omega)
 have:=zR er 4 r.1[4] 3 e rfl
 show (n.1::r.1).getD 5 0<=3
 rw [List.getD_eq_getElem?_getD]
 show (r.1[4]?).getD 0<=3
 rw [e]
 exact this
theorem vR {nss:List (List Int)} {l:List Int}:∀ {n p:Nat} {q:List (List Nat)×Nat},cC nss l n p=.ok q->∀ x∈q.1,dZ x 5<=3
 |0,p,q,h=>by cases h;intro x hx;cases hx
 |n+1,p,q,h=>by
  rw [cC] at h
  split at h
  ·cases h;intro x hx;cases hx
  ·obtain ⟨q1,e1,h⟩:=aJ h
   obtain ⟨q2,e2,rfl⟩:=eX h
   intro x hx
   rcases List.mem_cons.mp hx with rfl|hx
   ·exact Lk e1
   ·exact vR e2 x hx
theorem Bm {lc lb:List Int} {prs:List aM} {nm:List Int} {ls:List (List Nat)} (h:dA lc lb=.ok prs nm ls):gY lc=.ok prs/\dF (prs.map (·.name)) lb=.ok (nm,ls):=by
 unfold dA at h
 split at h
 ·cases h
 ·split at h
  ·cases h
  ·rename_i e1
   split at h
   ·split at h
    ·cases h
    ·rename_i e
     cases h
     exact ⟨e1,e⟩
   ·cases h
theorem wO {lc lb:List Int} {prs:List aM} {nm:List Int} {ls:List (List Nat)} (h:dA lc lb=.ok prs nm ls):∀ x∈ls,dZ x 5<=3:=by
 have h:=(Bm h).2
 unfold dF at h
 obtain ⟨_,_,h⟩:=aJ h
 obtain ⟨_,_,h⟩:=aJ h
 obtain ⟨_,_,h⟩:=aJ h
 obtain ⟨r,er,h⟩:=aJ h
 split at h
 ·cases h;exact vR er
 ·cases h
def Vx (CG CP CB CM:Addr) (H:Hp) (g:Addr):Tv->Prop
 |.no n=>∃ dx pa,H g=some (.ins CG dx (Bq n 0 pa .non .non))
 |.bad i=>∃ dx pa,H g=some (.ins CG dx (Bq (-5) i pa .non .non))
 |.ok prs nm ls=>∃ dx pa q m bs,H g=some (.ins CG dx (Bq (if cZ prs 0 [] [] ls=[] then 0 else -9) 0 pa (.ref q) (.ref m)))/\H pa=some (.lst (bs.map V.ref))/\dS CP H bs prs/\vQ CB H q nm ls/\Gv CM H m prs ls/\prs.length<=64
section
variable {P:Program} {w:World} {K:PySem.W.Frag} {mg:Str->Option Value} {base:Heap} {C CR CP CB CG CM:Addr}
def wX (K:PySem.W.Frag) (CG CP CB CM:Addr):Sp:=fun vs H Q _=>∃ (c b:Addr) (lc lb:List Int),vs=[.ref c,.ref b]/\dE K H c (lc.map V.int)/\dE K H b (lb.map V.int)/\∀ (H':Hp) (g:Addr),aL H H'->H g=none->Vx CG CP CB CM H' g (dA lc lb)->Q (.ref g) H'
theorem pI:aO ["c","b","given"] ["c","b"] (aG kR):=⟨rfl,rfl,rfl,by decide+kernel,rfl,by decide+kernel,by decide+kernel⟩
theorem Ag {f:Addr} {fd:FuncData} (F:fK K "read_right" "read_right" kR f fd) (TG:Zj K CG) (TB:Wj K CB) (TM:Yt K CM) (hlen:mg "len"=none) (L1:dO P w K mg base "read_given" bV 9 ["c","b"] (Ah K CG CP CB)) (L2:dO P w K mg base "fill_room" bV 6 ["parts","lines"] (Gd K CP CM)):bU P w K mg base bV 10 f fd ["c","b"] (wX K CG CP CB CM):=by
 obtain ⟨g1,gd1,G1,b1,k1,h1⟩:=L1.ex
 obtain ⟨g2,gd2,G2,b2,k2,h2⟩:=L2.ex
 refine F.ok pI (fun vs H Q E h=>?_) (fun cdv A outer s H vs Q E hr h=>?_)
 ·obtain ⟨c,b,lc,lb,rfl,_⟩:=h
  rfl
 ·obtain ⟨c,b,lc,lb,rfl,hc,hb,k⟩:=h
  have hr6:=hr.mono (j:=6) (by decide)
  refine ⟨_,aF (bI (i:=2) pI.nd rfl (Or.inl rfl) (aQ G1 hr (by rfl) h1 k1 b1 .nil aX (aA (pv 0) (aA (pv 1) aE))))
   (aF (eK (iB qG (aT (pv 2) rfl) aK (gU _))
    (aF (dW (pv 2) (aQ G2 hr6 (by rfl) h2 k2 b2 .nil aX (aA (aT (pv 2) rfl) (aA (aT (aT (pv 2) rfl) rfl) aE))) rfl)
    (aH (eK (eB (sI (bS bW (by rfl) hlen PySem.boot_len (aA (aT (aT (pv 2) rfl) rfl) aE)) aK)) (aH (dW (pv 2) (yI rK aK) rfl)) cF))) cF)
   (aH (aV (pv 2)))),?_⟩
  refine ⟨_,rfl,_,rfl,c,b,lc,lb,rfl,hc,hb,fun H1 g S1 hgH hg=>?_⟩
  cases eg:dA lc lb with
  |no n=>
   rw [eg] at k hg
   obtain ⟨dx,pa,hg⟩:=hg
   have hn:=Nz eg
   refine ⟨_,rfl,g,CG,dx,_,_,rfl,hg,TG.cl,TG.n1,rfl,rfl,_,rfl,cE (fun e=>?_) (fun e=>?_)⟩
   ·rw [gW] at e
    have:=of_decide_eq_true e
    omega
   ·exact ⟨_,rfl,k _ g S1 hgH ⟨dx,pa,hg⟩⟩
  |bad i=>
   rw [eg] at k hg
   obtain ⟨dx,pa,hg⟩:=hg
   refine ⟨_,rfl,g,CG,dx,_,_,rfl,hg,TG.cl,TG.n1,rfl,rfl,_,rfl,cE (fun e=>?_) (fun e=>?_)⟩
   ·rw [gW] at e
    exact absurd (of_decide_eq_true e) (by decide)
   ·exact ⟨_,rfl,k _ g S1 hgH ⟨dx,pa,hg⟩⟩
  |ok prs nm ls=>
   rw [eg] at k hg
   obtain ⟨dx,pa,q,bs,hg,hpa,hps,hbd,hp1,hp64⟩:=hg
   obtain ⟨dxb,na,la,ts,hq,hna,hla,hls,h256,hn16⟩:=id hbd
   have Tt:=Bl eg
   have trn:=wO eg
   refine ⟨_,rfl,g,CG,dx,_,_,rfl,hg,TG.cl,TG.n1,rfl,rfl,_,rfl,cE (fun e=>?_) (fun e=>absurd (by decide) e)⟩
   refine ⟨_,rfl,g,CG,dx,_,_,rfl,hg,TG.cl,TG.n3,rfl,_,rfl,g,CG,dx,_,_,rfl,hg,TG.cl,TG.n4,rfl,q,CB,dxb,_,_,rfl,hq,TB.cl,TB.n2,rfl,pa,la,bs,ts,prs,ls,rfl,hpa,hps,hla,hls,Oo (Bm eg).1,fun x hx=>⟨Tt x hx,trn x hx⟩,h256,fun H2 m S2 hm1 hrm=>?_⟩
   have S12:=S1.trans S2
   obtain ⟨dm,s0,o0,wr,sg,ow,r1,r2,r3,r4,r5⟩:=id hrm
   have ngm:m≠g:=fun z=>by rw [z,hg] at hm1;cases hm1
   have hg2:=S2 _ _ hg
   refine ⟨_,rfl,g,CG,dx,_,rfl,hg2,TG.cl,TG.n5,(by show 5<1000;decide),?_⟩
   have keep:∀ (rf:Int) (bv:V),(∀ y o,H y=some o->upd H2 g (.ins CG dx (Bq rf 0 pa (.ref q) bv)) y=some o):=fun rf bv y o e=>by
    rw [aC (aD e hgH)]
    exact S12 _ _ e
   have oth:∀ (rf:Int) {y:Addr} {o:HO},y≠g->H2 y=some o->upd H2 g (.ins CG dx (Bq rf 0 pa (.ref q) (.ref m))) y=some o:=fun rf y o n e=>by rw [aC n];exact e
   have fin:∀ (rf:Int) (H3:Hp),rf=(if cZ prs 0 [] [] ls=[] then 0 else -9)->H3=upd H2 g (.ins CG dx (Bq rf 0 pa (.ref q) (.ref m)))->Q (.ref g) H3:=fun rf H3 er e3=>by
    subst e3
    have n1:∀ {y:Addr} {o:HO},H2 y=some o->(∀ C dx fs,o≠.ins C dx fs)->upd H2 g (.ins CG dx (Bq rf 0 pa (.ref q) (.ref m))) y=some o:=fun {y o} e nn=>oth rf (fun z=>by
     rw [z,hg2] at e
     cases e
     exact nn _ _ _ rfl) e
    have nq:q≠g:=fun z=>by
     rw [z,hg] at hq
     injection hq with hq
     injection hq with _ _ hq
     cases hq
    have hps2:dS CP (upd H2 g (.ins CG dx (Bq rf 0 pa (.ref q) (.ref m)))) bs prs:=by
     refine Paired.mapP hps fun b' pr z=>⟨?_,z.2⟩
     obtain ⟨dxp,nmp,cc,f1,f2,f3⟩:=z.1
     have nb:b'≠g:=fun z=>by
      rw [z,hg] at f1
      injection f1 with f1
      injection f1 with _ _ f1
      cases f1
     exact ⟨dxp,nmp,cc,oth rf nb (S2 _ _ f1),n1 (S2 _ _ f2) (by intro _ _ _ z;cases z),n1 (S2 _ _ f3) (by intro _ _ _ z;cases z)⟩
    refine k _ g (keep rf _) hgH ⟨dx,pa,q,m,bs,by rw [aB,er],n1 (S2 _ _ hpa) (by intro _ _ _ z;cases z),hps2,⟨dxb,na,la,ts,oth rf nq (S2 _ _ hq),n1 (S2 _ _ hna) (by intro _ _ _ z;cases z),n1 (S2 _ _ hla) (by intro _ _ _ z;cases z),hls.keep fun y xs e=>n1 (S2 _ _ e) (by intro _ _ _ z;cases z),h256,hn16⟩,
     ⟨dm,s0,o0,wr,sg,ow,oth rf ngm r1,n1 r2 (by intro _ _ _ z;cases z),n1 r3 (by intro _ _ _ z;cases z),n1 r4 (by intro _ _ _ z;cases z),r5⟩,hp64⟩
   have hg3:upd H2 g (.ins CG dx (Bq 0 0 pa (.ref q) (.ref m))) g=some (.ins CG dx (Bq 0 0 pa (.ref q) (.ref m))):=aB
   have hm3:=oth 0 ngm r1
   have nwr:wr≠g:=fun z=>by rw [z,hg2] at r2;cases r2
   have hw3:=oth 0 nwr r2
   refine ⟨_,rfl,g,CG,dx,_,_,rfl,hg3,TG.cl,TG.n5,rfl,m,CM,dm,_,_,rfl,hm3,TM.cl,TM.n3,rfl,wr,_,rfl,.inl (dE.of hw3),_,_,rfl,rfl,_,rfl,cE (fun hh=>?_) (fun hh=>?_)⟩
   ·have hh:(0:Int)<(((cZ prs 0 [] [] ls).map V.int).length:Int):=of_decide_eq_true hh
    rw [List.length_map] at hh
    refine ⟨_,rfl,_,rfl,g,CG,dx,_,rfl,hg3,TG.cl,TG.n1,(by show 5<1000;decide),_,rfl,fin (-9) _ ?_ ?_⟩
    ·rw [if_neg]
     intro z
     rw [z] at hh
     cases hh
    ·funext y
     by_cases hy:y=g
     ·rw [hy,aB,aB]
      rfl
     ·rw [aC hy,aC hy,aC hy]
   ·have hh:¬(0:Int)<(((cZ prs 0 [] [] ls).map V.int).length:Int):=fun z=>hh (decide_eq_true z)
    rw [List.length_map] at hh
    have e0:cZ prs 0 [] [] ls=[]:=List.eq_nil_of_length_eq_zero (by omega)
    exact ⟨_,rfl,fin 0 _ (by rw [if_pos e0]) rfl⟩
end
structure aA4 (P:Program) (w:World) (K:PySem.W.Frag) (mg:Str->Option Value) (base:Heap) (CG CP CB CM:Addr):Prop where
 TM:Yt K CM
 nB:dO P w K mg base "turned_sizes" bV 1 ["part","turns"] (qJ CP)
 bey:dO P w K mg base "beyond_room" bV 1 ["x","y","z"] qF
 lea:dO P w K mg base "leaves_room" bV 2 ["parts","put"] (jO K CP)
 right:dO P w K mg base "read_right" bV 10 ["c","b"] (wX K CG CP CB CM)
section
variable {P:Program} {w:World} {K:PySem.W.Frag} {h:Heap} {mg:Str->Option Value} {base:Heap}
theorem aA2 (X:K.In h) (G:h.Ns mainGlobals mg) (L:Vq P w K mg base (dN K "Part") (dN K "Build") (dN K "Given")) (hK:∀ f∈ftR,f.P K):aA4 P w K mg base (dN K "Given") (dN K "Part") (dN K "Build") (dN K "Room"):=by
 have g:∀ (i:Nat) (f:Ft),ftR[i]?=some f->f.P K:=fun i f e=>Ft.nth hK i e
 have ci:∀ {x:Str} {n:Int},Qx K x n->CI mg x n:=fun hk=>hk.ci X G
 have nn:∀ {x:Str},PySem.W.nsIn K mainGlobals x=some none->mg x=none:=fun e=>PySem.W.mg_none_of X G e
 have TM:Yt K (dN K "Room"):=⟨Fi.cl (g 0 (.cl "Room") rfl),(g 1 (.at "Room" "signs") rfl),(g 2 (.at "Room" "owners") rfl),(g 3 (.at "Room" "wrong") rfl)⟩
 have RM:RmM P w K mg base (dN K "Room"):=⟨xW.mk (g 4 (.mt "Room" "__init__" "Room.__init__" Bn) rfl) (g 0 (.cl "Room") rfl) (fun f fd F=>Xc F TM) fun _ _ _ _ _ _ us hl=>(by obtain ⟨a,rfl⟩:=_root_.L2.tH hl;rfl),PySem.W.mg_of X G (Fi.ns (g 0 (.cl "Room") rfl))⟩
 have M1:dO P w K mg base "turned_once" bV 3 ["part"] (Hi (dN K "Part")):=iT.fn0 (g 5 (.fn "turned_once" Kb) rfl) X G (fun f fd F=>Sg F L.TP L.PM) fun _ _ _ _ _ _ us hl=>(by obtain ⟨a,rfl⟩:=_root_.L2.tH hl;rfl)
 have M2:dO P w K mg base "turned_part" bV 4 ["part","turns"] (wH (dN K "Part")):=iT.fn0 (g 6 (.fn "turned_part" tV) rfl) X G (fun f fd F=>Lp F (nn (g 7 (.no "range") rfl)) M1) fun _ _ _ _ _ _ us hl=>(by obtain ⟨a,b,rfl⟩:=_root_.L2.yE hl;rfl)
 have M3:dO P w K mg base "turned_sizes" bV 1 ["part","turns"] (qJ (dN K "Part")):=iT.fn0 (g 8 (.fn "turned_sizes" tM) rfl) X G (fun f fd F=>Kt F L.TP) fun _ _ _ _ _ _ us hl=>(by obtain ⟨a,b,rfl⟩:=_root_.L2.yE hl;rfl)
 have M4:dO P w K mg base "beyond_room" bV 1 ["x","y","z"] qF:=iT.fn0 (g 9 (.fn "beyond_room" uC) rfl) X G (fun f fd F=>Mb F (ci (g 10 (.int "ROOM_WIDTH" 64) rfl)) (ci (g 11 (.int "ROOM_DEPTH" 64) rfl)) (ci (g 12 (.int "ROOM_HEIGHT" 96) rfl))) fun _ _ _ _ _ _ us hl=>(by obtain ⟨a,b,c,rfl⟩:=_root_.L2.us3 hl;rfl)
 have M5:dO P w K mg base "leaves_room" bV 2 ["parts","put"] (jO K (dN K "Part")):=iT.fn0 (g 13 (.fn "leaves_room" tL) rfl) X G (fun f fd F=>Ll F M3 M4) fun _ _ _ _ _ _ us hl=>(by obtain ⟨a,b,rfl⟩:=_root_.L2.yE hl;rfl)
 have M6:dO P w K mg base "cells_in_room" bV 5 ["parts","put"] (Gs K (dN K "Part")):=iT.fn0 (g 14 (.fn "cells_in_room" Iw) rfl) X G (fun f fd F=>Uo F L.TP M2) fun _ _ _ _ _ _ us hl=>(by obtain ⟨a,b,rfl⟩:=_root_.L2.yE hl;rfl)
 have M7:dO P w K mg base "blocked_lines" bV 2 ["cells","room"] (rG (dN K "Room")):=iT.fn0 (g 15 (.fn "blocked_lines" qL) rfl) X G (fun f fd F=>Fm F TM L.up L.dn L.stud L.tube) fun _ _ _ _ _ _ us hl=>(by obtain ⟨a,b,rfl⟩:=_root_.L2.yE hl;rfl)
 have M8:dO P w K mg base "wrong_with" bV 3 ["room","cells","j"] (uF (dN K "Room")):=iT.fn0 (g 16 (.fn "wrong_with" qI) rfl) X G (fun f fd F=>Lz F TM (nn (g 17 (.no "len") rfl)) (nn (g 18 (.no "min") rfl)) M7) fun _ _ _ _ _ _ us hl=>(by obtain ⟨a,b,c,rfl⟩:=_root_.L2.us3 hl;rfl)
 have M9:dO P w K mg base "fill_room" bV 6 ["parts","lines"] (Gd K (dN K "Part") (dN K "Room")):=iT.fn0 (g 19 (.fn "fill_room" Iz) rfl) X G (fun f fd F=>Sb F TM RM (nn (g 17 (.no "len") rfl)) (nn (g 20 (.no "enumerate") rfl)) M6 M5 M8) fun _ _ _ _ _ _ us hl=>(by obtain ⟨a,b,rfl⟩:=_root_.L2.yE hl;rfl)
 exact ⟨TM,M3,M4,M5,iT.fn0 (g 21 (.fn "read_right" kR) rfl) X G (fun f fd F=>Ag F L.TG L.TB TM (nn (g 17 (.no "len") rfl)) L.given M9) fun _ _ _ _ _ _ us hl=>(by obtain ⟨a,b,rfl⟩:=_root_.L2.yE hl;rfl)⟩
end
def rB (r:List aM->List Int->List (List Nat)->List Int) (lc lb:List Int):List Int:=match dA lc lb with
 |.no n=>[n]
 |.bad _=>[-5]
 |.ok prs nm ls=>if cZ prs 0 [] [] ls=[] then r prs nm ls else [-9]
structure aB3 (lc lb:List Int) (prs:List aM) (nm:List Int) (ls:List (List Nat)) (d:Br.Build):Prop where
 eg:dA lc lb=.ok prs nm ls
 ok:∀ pr∈prs,dU pr
 ln:∀ x∈ls,vY prs.length x
 tr:∀ x∈ls,dZ x 5<=3
 dl:d.lines=ls.map gS
 dn:aW d.name=nm
 cw:¬(Br.wrong (prs.map cO)).isSome=true
 fr:cZ prs 0 [] [] ls=[]
 rm:Fk (vL prs ls)
theorem Gj {lc lb:List Int} (hc:Nc lc) (hb:Nc lb) {f:Br.Catalogue->Br.Build->BrB.Answer} {r:List aM->List Int->List (List Nat)->List Int} (hr:∀ prs nm ls d,aB3 lc lb prs nm ls d->BuildsNeutral.shown (f (prs.map cO) d)=r prs nm ls):
  BuildsNeutral.shown (BrB.ofRight (Fy lc) (Fy lb) f)=rB r lc lb:=by
 have h:=Cz hc hb
 have h6:= @Bl lc lb
 have h7:= @wO lc lb
 have he:∀ {prs nm ls},dA lc lb=.ok prs nm ls->dA lc lb=.ok prs nm ls:=fun e=>e
 unfold rB BrB.ofRight BrB.ofBuild BrB.ofCatalogue
 generalize hg:dA lc lb=g at h h6 h7
 cases g with
 |no n=>
  rcases h with ⟨rfl,h⟩|⟨rfl,h,e,h2⟩|⟨rfl,h,k,h2,h3⟩
  ·simp only [if_pos h];rfl
  ·simp only [if_neg h,h2];rfl
  ·simp only [if_neg h,h2,if_pos h3];rfl
 |bad i=>
  obtain ⟨h,k,h2,h3,h4⟩:=h
  simp only [if_neg h,h2,if_neg h3,h4];rfl
 |ok prs nm ls=>
  obtain ⟨h,ok,h2,h3,d,h4,h5,hn⟩:=h
  simp only [if_neg h,h2,if_neg h3,h4]
  have fm:=rN ok (fun x hx=>(h6 rfl x hx).2) h5
  by_cases e0:cZ prs 0 [] [] ls=[]
  ·rw [if_pos e0]
   rw [e0] at fm
   have hw:¬(d.wrong (prs.map cO)).isSome=true:=by
    cases e:d.wrong (prs.map cO) with
    |none=>decide
    |some w=>rw [e] at fm;cases fm
   rw [if_neg hw]
   exact hr prs nm ls d ⟨hg,ok,fun x hx=>h6 rfl x hx,fun x hx=>h7 rfl x hx,h5,hn,h3,e0,Hb ok (fun x hx=>(h6 rfl x hx).2) e0⟩
  ·rw [if_neg e0]
   have hw:(d.wrong (prs.map cO)).isSome=true:=by
    cases e:d.wrong (prs.map cO) with
    |none=>rw [e] at fm;exact absurd fm e0
    |some w=>rfl
   rw [if_pos hw]
   rfl
theorem Sd {CG CP CB CM:Addr} {H:Hp} {g:Addr} {lc lb:List Int} (h:Vx CG CP CB CM H g (dA lc lb)):∃ (dx pa:Addr) (bv rv:V) (rf ft:Int),H g=some (.ins CG dx (Bq rf ft pa bv rv))/\
  ((rf<0/\∀ r,rB r lc lb=[rf])\/(rf=0/\∃ (prs:List aM) (nm:List Int) (ls:List (List Nat)) (q m:Addr) (bs:List Addr),dA lc lb=.ok prs nm ls/\(∀ r,rB r lc lb=r prs nm ls)/\cZ prs 0 [] [] ls=[]/\bv=.ref q/\rv=.ref m/\H pa=some (.lst (bs.map V.ref))/\dS CP H bs prs/\vQ CB H q nm ls/\Gv CM H m prs ls/\prs.length<=64)):=by
 have hn:= @Nz lc lb
 unfold rB
 cases eg:dA lc lb with
 |no n=>
  rw [eg] at h
  obtain ⟨dx,pa,h⟩:=h
  have hn:=hn eg
  exact ⟨dx,pa,.non,.non,n,0,h,.inl ⟨by omega,fun _=>rfl⟩⟩
 |bad i=>
  rw [eg] at h
  obtain ⟨dx,pa,h⟩:=h
  exact ⟨dx,pa,.non,.non, -5,i,h,.inl ⟨by decide,fun _=>rfl⟩⟩
 |ok prs nm ls=>
  rw [eg] at h
  obtain ⟨dx,pa,q,m,bs,h1,h2,h3,h4,h5,h6⟩:=h
  refine ⟨dx,pa,.ref q,.ref m,_,0,h1,?_⟩
  by_cases e:cZ prs 0 [] [] ls=[]
  ·rw [if_pos e]
   exact .inr ⟨rfl,prs,nm,ls,q,m,bs,rfl,fun r=>(by show (if _=_ then _ else _)=_;rw [if_pos e]),e,rfl,rfl,h2,h3,h4,h5,h6⟩
  ·rw [if_neg e]
   exact .inl ⟨by decide,fun r=>(by show (if _=_ then _ else _)=_;rw [if_neg e])⟩
end Br1
namespace L2
open PySem PySem.Spec PyProof.Rows
theorem Yz {x:Str} {g:TG} {tt:TT} {te:TE} {vs:List Nat} {σ:St} {H1:Hp} {D:Addr} {Qd:Hp->Prop} (Pv:Nat->Hp->Prop) (h0:Pv 0 (upd H1 D (.lst [])))
  (hs:∀ i c H,x.cps[i]?=some c->Pv i H->g (.str ⟨#[c]⟩) (fQ σ vs) H fun σ2 H2=>fQ σ2 vs=fQ σ vs/\tt σ2 H2 fun b H3=>
   if b=true then te σ2 H3 fun y H4=>∃ acc,H4 D=some (.lst acc)/\acc.length<sizeLine/\Pv (i+1) (upd H4 D (.lst (acc++[y]))) else Pv (i+1) H3) (hd:∀ H,Pv x.cps.size H->Qd H):
  ∃ W:Nat->Nat->Hp->Prop,(∃ m,W 0 m (upd H1 D (.lst [])))/\∀ i m H,W i m H->
   ((Wf x).stop i H/\Qd H)\/((Wf x).go i H/\∃ Nx:Hp->Prop,(∀ H',Nx H'->∃ m',m'<m/\W (i+1) m' H')/\∀ v H',(Wf x).yld i H v H'->g v (fQ σ vs) H' fun σ2 H2=>fQ σ2 vs=fQ σ vs/\tt σ2 H2 fun b H3=>
    if b=true then te σ2 H3 fun y H4=>∃ acc,H4 D=some (.lst acc)/\acc.length<sizeLine/\Nx (upd H4 D (.lst (acc++[y]))) else Nx H3):=by
 refine ⟨fun i m H=>m=x.cps.size - i/\i<=x.cps.size/\Pv i H,⟨x.cps.size,by simp,Nat.zero_le _,h0⟩,?_⟩
 rintro i m H ⟨rfl,hi,p⟩
 by_cases hlt:i<x.cps.size
 ·refine .inr ⟨hlt,Pv (i+1),fun H' p'=>⟨x.cps.size - (i+1),by (clear hi;omega),rfl,hlt,p'⟩,fun v H' y=>?_⟩
  obtain ⟨e,c,e1,rfl⟩:=y
  subst e
  exact hs i c _ e1 p
 ·have e:i=x.cps.size:=by omega
  subst e
  exact .inl ⟨Nat.le_refl _,hd H p⟩
def tFs (x:Str) (te:TE):TE:=fun σ H Q=>te σ H fun v H1=>∃ i:Int,v=.int i/\i.natAbs.log2<1920/\x.length+(Str.ofString (toString i)).length<=sizeLine/\Q (.str (x++Str.ofString (toString i))) H1
theorem yR (x:Str):Str.empty++x=x:=by
 cases x with
 |mk c=>
  show Str.mk (#[]++c)=_
  rw [Array.empty_append]
theorem Tn {X:Cx} {x:Str} {e:Expr} {te:TE} {j:Nat} {p1 p2 pos:Pos} (he:PE X e te) (hx:x.length<=1000:=by decide+kernel):PE X (.JoinedStr [.Constant (.str x) j p1,.FormattedValue e (-1) none p2] pos) (tFs x te):=by
 intro pins s σ H Q I h
 have hb:1000<=sizeLine:=by rw [sizeLine_eq];decide
 refine wpAny_JoinedStr ?_
 show wpAny _ _ (eval (.Constant (.str x) j p1) X.env) _ _ _
 refine Calls.Constant_str ⟨x,_,rfl,by rw [yR];omega,?_⟩
 show wpAny _ _ (eval (.FormattedValue e (-1) none p2) X.env) _ _ _
 refine wpAny_FormattedValue_plain (cT (he pins _ σ H _ (I.tok _) h) fun v s2 ⟨y,H1,I1,r1,i,ei,hl,hz,q⟩=>?_)
 subst ei
 obtain ⟨t,rfl⟩:=r1
 refine wpAny_formatField_int hl ?_
 rw [yR]
 have hz2:(x++Str.ofString (toString i)).length<=sizeLine:=by rw [PySem.strLen_append];exact hz
 exact ⟨_,_,rfl,hz2,hz2,.str _,H1,(I1.tok _).tok _,⟨_,rfl⟩,q⟩
end L2
namespace Br1
open PySem PySem.Spec PyProof.Rows L2
def Bp (x:Str):List Int:=x.cps.toList.map fun (c:Nat)=>(c:Int)
theorem Hx (n:Nat):(Str.ofString (toString (n:Int))).cps.toList=xE n:=by
 rw [Str.ofString_eq_toList]
 show ((toString (n:Int)).toList.map Char.toNat).toArray.toList=_
 rw [List.toList_toArray]
 unfold xE
 have e:toString (n:Int)=String.ofList (Nat.toDigits 10 n):=rfl
 rw [e,String.toList_ofList]
theorem Aa:∀ {k n:Nat},n<10 ^ (k+1)->(xE n).length<=k+1
 |0,n,h=>by rw [zV (by omega)];exact Nat.le_refl _
 |k+1,n,h=>by
  by_cases hn:n<10
  ·rw [zV hn];exact Nat.le_add_left 1 (k+1)
  ·rw [zK (by omega),List.length_append]
   have:=Aa (k:=k) (n:=n / 10) (by rw [Nat.pow_succ] at h;omega)
   show _+1<=_
   omega
section
variable {P:Program} {w:World} {K:PySem.W.Frag} {mg:Str->Option Value} {base:Heap} {C CR CP CB CG CM:Addr}
def qX:Sp:=fun vs H Q _=>∃ x:Str,vs=[.str x]/\x.length<=1000/\∀ (H':Hp) (l:Addr),aL H H'->H l=none->H' l=some (.lst ((Bp x).map V.int))->Q (.ref l) H'
theorem pD:aO ["word","sign"] ["word"] (aG jN):=⟨rfl,rfl,rfl,by decide+kernel,rfl,by decide+kernel,by decide+kernel⟩
abbrev aAh:List V->Hp->VK->Prop:=fun xs H Q=>∃ x,xs=[.str x]/\x.length=1/\Q (.int (x.cps.getD 0 0:Nat)) H
theorem Gx {f:Addr} {fd:FuncData} (F:fK K "spelled" "spelled" jN f fd) (hord:mg "ord"=none):bU P w K mg base bV 2 f fd ["word"] qX:=by
 refine F.ok pD (fun vs H Q E h=>?_) (fun cdv A outer s H vs Q E hr h=>?_)
 ·obtain ⟨x,rfl,_⟩:=h
  rfl
 ·obtain ⟨x,rfl,hx,k⟩:=h
  refine ⟨_,aH (aV (zF (own:=[("sign",1)]) (te:=tCB aAh (dL (dI 1) gR)) rfl pD.nd (Of (pv 0)) (gN (N:=["word","sign"]) (sc:=aG jN) (by decide+kernel))
   (fun _ _ _ _ _=>bJ (i:=1) pD.nd rfl (Or.inl rfl)) (fun _ _ _ _ _=>lJ) (fun _ _ _ _ _=>bS (r:=aAh) wE (by rfl) hord boot_ord (aA (pv 1) aE)))),?_⟩
  have hsl:=bE
  have hx:x.cps.size<=1000:=hx
  refine ⟨_,rfl,x,rfl,fun Dl hDl=>?_⟩
  refine Yz (fun i H'=>aL H H'/\H' Dl=some (.lst (((Bp x).take i).map V.int))) ⟨aL.new hDl,aB⟩ ?_ ?_
  ·rintro i c H1 ec ⟨S1,hD1⟩
   have hi:i<x.cps.size:=(Array.getElem?_eq_some_iff.mp ec).1
   refine ⟨rfl,_,rfl,_,rfl,rfl,_,hD1,?_,?_,?_⟩
   ·rw [List.length_map,List.length_take]
    omega
   ·intro b' o e
    rw [aC (aD e hDl)]
    exact S1 _ _ e
   ·have e1:(Bp x)[i]?=some (c:Int):=by
     unfold Bp
     rw [List.getElem?_map,Array.getElem?_toList,ec]
     rfl
    rw [aB,List.take_succ,e1,List.map_append]
    rfl
  ·rintro H1 ⟨S1,hD1⟩
   have e:(Bp x).take x.cps.size=Bp x:=List.take_of_length_le (by unfold Bp;rw [List.length_map,Array.length_toList];exact Nat.le_refl _)
   rw [e] at hD1
   exact k H1 Dl S1 hDl hD1
end
theorem iH {α β:Type} {f:α->List β} {c:Nat}:∀ {l:List α},(∀ x∈l,(f x).length<=c)->(l.flatMap f).length<=c * l.length
 |[],_=>by simp
 |x::r,h=>by
  have ih:=iH (l:=r) fun y hy=>h y (List.mem_cons_of_mem _ hy)
  have h1:=h x List.mem_cons_self
  rw [List.flatMap_cons,List.length_append,List.length_cons,Nat.mul_succ]
  omega
theorem xR {α β:Type} {f:α->List β} {l:List α} {i:Nat} {x:α} (e:l[i]?=some x):(l.take (i+1)).flatMap f=(l.take i).flatMap f++f x:=by
 rw [List.take_succ,e,List.flatMap_append]
 show _++([x]:List α).flatMap f=_
 rw [List.flatMap_cons,List.flatMap_nil,List.append_nil]
structure YOk (prs:List aM) (y:List Int):Prop where
 l:y.length=6
 n:∀ k∈y,0<=k/\k<10000
 p:(iN y 0).toNat<prs.length
theorem tT {k:Int} (h:k<10000):(mG k).length<=4:=by
 unfold mG
 rw [List.length_map]
 exact Aa (k:=3) (by omega)
theorem Im {prs:List aM} {y:List Int} (h:YOk prs y) (hp:∀ pr∈prs,pr.name.length<=8):(Px (prs.map (·.name)) y).length<=100:=by
 unfold Px
 have h1:=iH (f:=fun n=>(32:Int)::mG n) (c:=5) (l:=y.drop 1) fun k hk=>by
  have:=tT (h.n k (List.mem_of_mem_drop hk)).2
  rw [List.length_cons]
  omega
 have h2:((prs.map (·.name)).getD (iN y 0).toNat []).length<=8:=by
  rw [List.getD_eq_getElem?_getD,List.getElem?_map,List.getElem?_eq_getElem h.p]
  exact hp _ (List.getElem_mem _)
 have h3:(y.drop 1).length=5:=by rw [List.length_drop,h.l]
 rw [h3] at h1
 simp only [List.length_append,List.length_cons,List.length_nil]
 omega
theorem Wq (x y:Str):Bp (x++y)=Bp x++Bp y:=by
 unfold Bp
 show (x.cps++y.cps).toList.map _=_
 rw [Array.toList_append,List.map_append]
theorem Yg {k:Int} (h:0<=k):Bp ((" ":Str)++Str.ofString (toString k))=32::mG k:=by
 obtain ⟨n,rfl⟩:=Int.eq_ofNat_of_zero_le h
 have e1:Bp (" ":Str)=[32]:=by decide+kernel
 have e2:Bp (Str.ofString (toString (n:Int)))=mG (n:Int):=by
  unfold Bp mG
  rw [Hx]
  rfl
 rw [Wq,e1,e2]
 rfl
theorem SX.seqTl {K:PySem.W.Frag} {r a:Addr} {H H':Hp} {xs ys:List V} (s:SX r H H') (hr:H r=some (.lst ys)) (h:cN K H a xs):cN K H' a xs:=by
 rcases h with (h|⟨o,h⟩)|h
 ·exact .inl (.inl (s _ _ h (by rintro rfl;rw [hr] at h;cases h)))
 ·exact .inl (.inr ⟨o,s _ _ h (by rintro rfl;rw [hr] at h;cases h)⟩)
 ·exact .inr h
theorem Qk {xs:List V}:uS xs (some 1) none=xs.drop 1:=by
 unfold uS
 have e1:HT.gQ xs.length 0 (some 1)=min 1 xs.length:=HT.Ib xs.length 0 1
 have e2:HT.gQ xs.length xs.length none=xs.length:=rfl
 rw [e1,e2]
 cases xs with
 |nil=>rfl
 |cons x r=>
  have:min 1 (x::r).length=1:=by rw [List.length_cons];omega
  rw [this,List.take_of_length_le (by rw [List.length_drop];exact Nat.le_refl _)]
section
variable {P:Program} {w:World} {K:PySem.W.Frag} {mg:Str->Option Value} {base:Heap} {C CR CP CB CG CM:Addr}
def aCd (CB:Addr) (H:Hp) (q:Addr) (nm:List Int) (ys:List (List Int)):Prop:=∃ (dx na la:Addr) (ts:List Addr),H q=some (.ins CB dx (BdF na la))/\H na=some (.tup (nm.map V.int))/\H la=some (.lst (ts.map V.ref))/\Paired (Ol H) ts ys
def Ay (K:PySem.W.Frag) (CB:Addr):Sp:=fun vs H Q _=>∃ (q D:Addr) (prs:List aM) (nm:List Int) (ys:List (List Int)),vs=[.ref q,.ref D]/\aCd CB H q nm ys/\Il H D prs/\(∀ y∈ys,YOk prs y)/\(∀ pr∈prs,pr.name.length<=8)/\nm.length<=16/\ys.length<=256/\
 ∀ (H':Hp) (l:Addr),aL H H'->H l=none->H' l=some (.lst ((Ey (prs.map (·.name)) nm ys).map V.int))->(Ey (prs.map (·.name)) nm ys).length<=100000->Q (.ref l) H'
abbrev Wi:List Str:=["build","names","text","put","number"]
theorem pZ:aO Wi ["build","names"] (aG iR):=⟨rfl,rfl,rfl,by decide+kernel,rfl,by decide+kernel,by decide+kernel⟩
theorem Rh {f:Addr} {fd:FuncData} (F:fK K "build_text" "build_text" iR f fd) (TB:Wj K CB) (hlist:mg "list"=none) (L1:dO P w K mg base "spelled" bV 2 ["word"] qX):bU P w K mg base bV 3 f fd ["build","names"] (Ay K CB):=by
 obtain ⟨g1,gd1,G1,b1,k1,h1⟩:=L1.ex
 refine F.ok pZ (fun vs H Q E h=>?_) (fun cdv A outer s H vs Q E hr h=>?_)
 ·obtain ⟨q,D,prs,nm,ys,rfl,_⟩:=h
  rfl
 ·obtain ⟨q,D,prs,nm,ys,rfl,⟨dx,na,la,ts,hq,hna,hla,hys⟩,⟨qs,hD,hqs⟩,yo,pn,nl,yl,k⟩:=h
  refine ⟨_,aF (bI (i:=2) pZ.nd rfl (Or.inl rfl) (cI Ak (cI Ak (aQ G1 hr (by rfl) h1 k1 b1 .nil aX (aA eS aE)) (jU pT (by rfl) hlist boot_list (aA (aT (pv 0) rfl) aE))) (aQ G1 hr (by rfl) h1 k1 b1 .nil aX (aA eS aE))))
   (aF (eU PassesOwn.never rfl (kY (aT (pv 0) rfl)) (bJ (i:=3) pZ.nd rfl (Or.inl rfl))
    (aF (cD (mD PySem.F.plainAttrs_list PySem.F.slot_list_extend PySem.F.type_list_extend sC (pv 2) (aA (cI Ak (aQ G1 hr (by rfl) h1 k1 b1 .nil aX (aA eS aE)) (jU pT (by rfl) hlist boot_list (aA (bY kK (pv 1) (bY bQ (pv 3) aK (fun _ _=>rfl)) (fun _ _=>rfl)) aE))) aE)))
    (aF (eU PassesOwn.never rfl (Nh (Ct Kd (pv 3) (Kc aK) Jm)) (bJ (i:=4) pZ.nd rfl (Or.inl rfl))
     (aH (cD (mD PySem.F.plainAttrs_list PySem.F.slot_list_extend PySem.F.type_list_extend sC (pv 2) (aA (aQ G1 hr (by rfl) h1 k1 b1 .nil aX (aA (Tn (pv 4)) aE)) aE)))))
    (aH (cD (mD PySem.F.plainAttrs_list PySem.F.slot_list_extend PySem.F.type_list_extend sC (pv 2) (aA (aQ G1 hr (by rfl) h1 k1 b1 .nil aX (aA eS aE)) aE)))))))
   (aH (aV (pv 2)))),?_⟩
  have hsl:=fJ
  have w1:Bp ("build ":Str)=[98,117,105,108,100,32]:=by decide+kernel
  have w2:Bp ("\n":Str)=[10]:=by decide+kernel
  have w3:Bp ("put ":Str)=[112,117,116,32]:=by decide+kernel
  refine ⟨("build ":Str),rfl,by decide+kernel,fun H1 l1 S1 f1 e1=>?_⟩
  refine ⟨_,rfl,q,CB,dx,_,_,rfl,S1 _ _ hq,TB.cl,TB.n1,rfl,na,_,rfl,.inr (cN.of (S1 _ _ hna)),fun l2 f2=>?_⟩
  rw [w1] at e1
  have S2:=aL.new (o:=.lst (nm.map V.int)) f2
  refine ⟨l1,l2,_,_,rfl,rfl,S2 _ _ e1,aB,(by simp only [List.length_map,List.length_cons,List.length_nil];omega),fun l3 f3=>?_⟩
  have S3:=aL.new (o:=.lst (([98,117,105,108,100,32]:List Int).map V.int++nm.map V.int)) f3
  refine ⟨("\n":Str),rfl,by decide+kernel,fun H4 l4 S4 f4 e4=>?_⟩
  rw [w2] at e4
  refine ⟨l3,l4,_,_,rfl,rfl,S4 _ _ aB,e4,(by simp only [List.length_append,List.length_map,List.length_cons,List.length_nil];omega),fun tx ftx=>?_⟩
  have S14:aL H H4:=((S1.trans S2).trans S3).trans S4
  have SA:=S14.trans (aL.new (o:=.lst ((([98,117,105,108,100,32]:List Int).map V.int++nm.map V.int)++([10]:List Int).map V.int)) ftx)
  have eA:upd H4 tx (.lst ((([98,117,105,108,100,32]:List Int).map V.int++nm.map V.int)++([10]:List Int).map V.int)) tx=some (.lst (([98,117,105,108,100,32]++nm++[10]:List Int).map V.int)):=by rw [aB,List.map_append,List.map_append]
  have ftH:H tx=none:=S14.free ftx
  generalize upd H4 tx (.lst ((([98,117,105,108,100,32]:List Int).map V.int++nm.map V.int)++([10]:List Int).map V.int))=HA at SA eA
  refine ⟨_,rfl,q,CB,dx,_,_,rfl,SA _ _ hq,TB.cl,TB.n2,rfl,la,rfl,⟨_,dE.of (SA _ _ hla)⟩,?_⟩
  have htl:ts.length=ys.length:=Paired.length hys
  refine Bv (K:=K) (xs:=ts.map V.ref) (fun i σ H'=>∃ v3 v4,σ=[some (.ref q),some (.ref D),some (.ref tx),v3,v4]/\aL H H'/\H' tx=some (.lst (([98,117,105,108,100,32]++nm++[10]++(ys.take i).flatMap (Px (prs.map (·.name))):List Int).map V.int)))
   ⟨none,none,rfl,SA,by rw [List.take_zero,List.flatMap_nil,List.append_nil];exact eA⟩ (fun i σ H' _ ⟨_,_,_,z,_⟩=>dE.of (z _ _ hla)) ?_ ?_
  ·rintro i x σ H5 ex ⟨v3,v4,rfl,S5,e5⟩
   have hi:i<ys.length:=by
    have:=(List.getElem?_eq_some_iff.mp ex).1
    rwa [List.length_map,htl] at this
   obtain ⟨y,ey⟩:∃ y,ys[i]?=some y:=⟨_,List.getElem?_eq_getElem hi⟩
   obtain ⟨t,et,ht,hy6⟩:=cG hys ey
   rw [List.getElem?_map,et] at ex
   cases ex
   have yk:=yo y (List.mem_of_getElem? ey)
   have y0:0<=iN y 0:=by
    unfold iN
    rw [List.getD_eq_getElem?_getD,List.getElem?_eq_getElem (by omega)]
    exact (yk.n _ (List.getElem_mem _)).1
   obtain ⟨pr,epr⟩:∃ pr,prs[(iN y 0).toNat]?=some pr:=⟨_,List.getElem?_eq_getElem yk.p⟩
   obtain ⟨qn,eqn,hqn⟩:=cG hqs epr
   have pl:=pn pr (List.mem_of_getElem? epr)
   have ename:(prs.map (·.name)).getD (iN y 0).toNat []=pr.name:=by
    rw [List.getD_eq_getElem?_getD,List.getElem?_map,epr]
    rfl
   have hat0:Qq (y.map V.int) 0=some (V.int (iN y 0)):=by
    have:(y.map V.int)[0]?=some (V.int (iN y 0)):=by
     unfold iN
     rw [List.getElem?_map,List.getD_eq_getElem?_getD,List.getElem?_eq_getElem (by omega)]
     rfl
    exact kJ (j:=0) this
   have hatn:Qq (qs.map V.ref) (iN y 0)=some (V.ref qn):=by
    have:=kJ (xs:=qs.map V.ref) (j:=(iN y 0).toNat) (v:=V.ref qn) (by rw [List.getElem?_map,eqn];rfl)
    rwa [Int.toNat_of_nonneg y0] at this
   have bT:=iH (f:=Px (prs.map (·.name))) (c:=100) (l:=ys.take i) fun y hy=>Im (yo y (List.mem_of_mem_take hy)) pn
   have bL:(ys.take i).length<=256:=by rw [List.length_take];omega
   generalize hP:([98,117,105,108,100,32]++nm++[10]++(ys.take i).flatMap (Px (prs.map (·.name))):List Int)=A at e5
   have bA:A.length<=30000:=by
    rw [<-hP]
    simp only [List.length_append,List.length_cons,List.length_nil]
    omega
   refine ⟨_,rfl,.inl ⟨rfl,_,dE.of e5⟩,("put ":Str),rfl,by decide+kernel,fun H6 l6 S6 f6 e6=>?_⟩
   rw [w3] at e6
   have S56:=S5.trans S6
   refine ⟨_,rfl,_,rfl,t,_,_,_,rfl,rfl,cN.of (S56 _ _ ht),hat0,D,_,_,.ref qn,rfl,rfl,dE.of (S56 _ _ hD),hatn,qn,_,rfl,.inr (cN.of (S56 _ _ hqn)),fun l7 f7=>?_⟩
   have S7:=aL.new (o:=.lst (pr.name.map V.int)) f7
   refine ⟨l6,l7,_,_,rfl,rfl,S7 _ _ e6,aB,(by simp only [List.length_map,List.length_cons,List.length_nil];omega),fun l8 f8=>?_⟩
   have S8:=aL.new (o:=.lst (([112,117,116,32]:List Int).map V.int++pr.name.map V.int)) f8
   have S68:=(S6.trans S7).trans S8
   refine ⟨tx,l8,_,_,rfl,rfl,S68 _ _ e5,aB,(by simp only [List.length_append,List.length_map,List.length_cons,List.length_nil];omega),?_⟩
   have S9:aL H (upd (upd (upd H6 l7 (.lst (pr.name.map V.int))) l8 (.lst (([112,117,116,32]:List Int).map V.int++pr.name.map V.int))) tx (.lst (A.map V.int++(([112,117,116,32]:List Int).map V.int++pr.name.map V.int)))):=fun b o e=>by
    rw [aC (aD e ftH)]
    exact S68 _ _ (S5 _ _ e)
   have e9:upd (upd (upd H6 l7 (.lst (pr.name.map V.int))) l8 (.lst (([112,117,116,32]:List Int).map V.int++pr.name.map V.int))) tx (.lst (A.map V.int++(([112,117,116,32]:List Int).map V.int++pr.name.map V.int))) tx=some (.lst ((A++([112,117,116,32]++pr.name)).map V.int)):=by rw [aB,List.map_append,List.map_append]
   generalize upd (upd (upd H6 l7 (.lst (pr.name.map V.int))) l8 (.lst (([112,117,116,32]:List Int).map V.int++pr.name.map V.int))) tx (.lst (A.map V.int++(([112,117,116,32]:List Int).map V.int++pr.name.map V.int)))=H9 at S9 e9
   refine ⟨_,rfl,_,rfl,t,_,rfl,cN.of (S9 _ _ ht),fun p H10 S10 hp10=>?_⟩
   rw [Qk,<-List.map_drop] at hp10
   have e10:=S10 _ _ e9
   refine ⟨p,rfl,⟨_,hp10⟩,?_⟩
   have yd:(y.drop 1).length=5:=by rw [List.length_drop,hy6]
   refine Jg (K:=K) (xs:=(y.drop 1).map V.int) (fun j σ H'=>∃ v4,σ=[some (.ref q),some (.ref D),some (.ref tx),some (.ref t),v4]/\aL H H'/\SX tx H10 H'/\H' tx=some (.lst ((A++([112,117,116,32]++pr.name)++((y.drop 1).take j).flatMap fun n=>32::mG n).map V.int)))
    ⟨_,rfl,S9.trans S10,SX.refl _ _,by rw [List.take_zero,List.flatMap_nil,List.append_nil];exact e10⟩ (fun j σ H' _ ⟨_,_,_,z,_⟩=>z.seqTl e10 hp10) ?_ ?_
   ·rintro j x σ H11 ex ⟨v4',rfl,S11,X11,e11⟩
    rw [List.getElem?_map] at ex
    cases en:(y.drop 1)[j]? with
    |none=>rw [en] at ex;cases ex
    |some n=>
     rw [en] at ex
     cases ex
     have nn:=yk.n n (List.mem_of_mem_drop (List.mem_of_getElem? en))
     have dl:=tT nn.2
     have sl:(Str.ofString (toString n)).length<=4:=by
      show (Str.ofString (toString n)).cps.size<=4
      rw [<-Array.length_toList]
      obtain ⟨k,rfl⟩:=Int.eq_ofNat_of_zero_le nn.1
      rw [Hx]
      exact Aa (k:=3) (by omega)
     have bF:=iH (f:=fun n=>(32:Int)::mG n) (c:=5) (l:=(y.drop 1).take j) fun k hk=>by
      have:=tT (yk.n k (List.mem_of_mem_drop (List.mem_of_mem_take hk))).2
      rw [List.length_cons]
      omega
     have bK:((y.drop 1).take j).length<=5:=by rw [List.length_take];omega
     have lg:n.natAbs.log2<1920:=by
      by_cases z:n.natAbs=0
      ·rw [z];decide
      ·exact Nat.lt_of_lt_of_le ((Nat.log2_lt z).mpr (by show n.natAbs<2 ^ 14;omega)) (by decide)
     refine ⟨_,rfl,.inl ⟨rfl,_,dE.of e11⟩,_,rfl,n,rfl,lg,(by show 1+_<=_;omega),_,rfl,?_,fun H12 l12 S12 f12 e12=>?_⟩
     ·rw [PySem.strLen_append]
      show 1+_<=1000
      omega
     ·rw [Yg nn.1] at e12
      refine ⟨tx,l12,_,_,rfl,rfl,S12 _ _ e11,e12,?_,?_⟩
      ·simp only [List.length_append,List.length_map,List.length_cons,List.length_nil]
       omega
      ·refine ⟨_,rfl,fun b o e=>?_,fun b o e nb=>?_,?_⟩
       ·rw [aC (aD e ftH)]
        exact S12 _ _ (S11 _ _ e)
       ·rw [aC nb]
        exact S12 _ _ (X11 _ _ e nb)
       ·rw [aB,xR en,<-List.map_append]
        simp only [List.append_assoc]
   ·rintro σ H11 ⟨v4',rfl,S11,X11,e11⟩
    rw [List.length_map,List.take_length] at e11
    have bF:=iH (f:=fun n=>(32:Int)::mG n) (c:=5) (l:=y.drop 1) fun k hk=>by
     have:=tT (yk.n k (List.mem_of_mem_drop hk)).2
     rw [List.length_cons]
     omega
    refine ⟨_,rfl,.inl ⟨rfl,_,dE.of e11⟩,("\n":Str),rfl,by decide+kernel,fun H12 l12 S12 f12 e12=>?_⟩
    rw [w2] at e12
    refine ⟨tx,l12,_,_,rfl,rfl,S12 _ _ e11,e12,?_,?_⟩
    ·simp only [List.length_append,List.length_map,List.length_cons,List.length_nil]
     omega
    ·refine ⟨_,_,rfl,fun b o e=>?_,?_⟩
     ·rw [aC (aD e ftH)]
      exact S12 _ _ (S11 _ _ e)
     ·have eL:Px (prs.map (·.name)) y=([112,117,116,32]++pr.name)++(y.drop 1).flatMap (fun n=>32::mG n)++[10]:=by
       unfold Px
       rw [ename]
      rw [aB,xR ey,<-List.map_append,<-hP,eL]
      simp only [List.append_assoc]
  ·rintro σ H5 ⟨v3,v4,rfl,S5,e5⟩
   rw [List.length_map,htl,List.take_length] at e5
   refine ⟨_,rfl,k H5 tx S5 ftH e5 ?_⟩
   have:=iH (f:=Px (prs.map (·.name))) (c:=100) (l:=ys) fun y hy=>Im (yo y hy) pn
   unfold Ey
   simp only [List.length_append,List.length_cons,List.length_nil]
   omega
end
def Fg (H:Hp) (la:Addr) (ys:List (List Int)):Prop:=∃ ts:List Addr,H la=some (.lst (ts.map V.ref))/\Paired (Ol H) ts ys
theorem Fg.same {H H':Hp} {la:Addr} {ys:List (List Int)} (h:Fg H la ys) (s:aL H H'):Fg H' la ys:=by
 obtain ⟨ts,h1,h2⟩:=h
 exact ⟨ts,s _ _ h1,Paired.mapP h2 fun t y z=>⟨s _ _ z.1,z.2⟩⟩
theorem aA6 {H:Hp} {la:Addr} {ts:List Addr} {ls:List (List Nat)} (h1:H la=some (.lst (ts.map V.ref))) (h2:jE H ts ls):Fg H la (ls.map mY):=by
 refine ⟨ts,h1,?_⟩
 clear h1
 unfold jE at h2
 induction h2 with
 |nil=>exact .nil
 |cons r t ih=>exact .cons ⟨by rw [<-Rg];exact r.1,by unfold mY;rw [List.length_map];exact r.2⟩ ih
section
variable {P:Program} {w:World} {K:PySem.W.Frag} {mg:Str->Option Value} {base:Heap} {C CR CP CB CG CM:Addr}
def Zn (prs:List aM) (nm:List Int) (ys:List (List Int)):List Int:=((Ey (prs.map (·.name)) nm ys).length:Int)::Ey (prs.map (·.name)) nm ys
def Bb (K:PySem.W.Frag) (CG CP CB:Addr):Sp:=fun vs H Q _=>∃ (g la pa q dx dxb na la0:Addr) (rv:V) (rf ft:Int) (bs:List Addr) (prs:List aM) (nm:List Int) (ys:List (List Int)),vs=[.ref g,.ref la]/\H g=some (.ins CG dx (Bq rf ft pa (.ref q) rv))/\H q=some (.ins CB dxb (BdF na la0))/\H na=some (.tup (nm.map V.int))/\
 H pa=some (.lst (bs.map V.ref))/\dS CP H bs prs/\prs.length<=64/\Fg H la ys/\(∀ y∈ys,YOk prs y)/\(∀ pr∈prs,pr.name.length<=8)/\nm.length<=16/\ys.length<=256/\∀ (H':Hp) (l:Addr),H' l=some (.lst ((Zn prs nm ys).map V.int))->Q (.ref l) H'
theorem By:aO ["given","lines","text"] ["given","lines"] (aG iJ):=⟨rfl,rfl,rfl,by decide+kernel,rfl,by decide+kernel,by decide+kernel⟩
theorem Rk {f:Addr} {fd:FuncData} (F:fK K "with_lines" "with_lines" iJ f fd) (T:Zj K CG) (TB:Wj K CB) (BM:BdM P w K mg base CB) (hlen:mg "len"=none) (L1:dO P w K mg base "names_of" bV 1 ["parts"] (nS K CP)) (L2:dO P w K mg base "build_text" bV 3 ["build","names"] (Ay K CB)):bU P w K mg base bV 4 f fd ["given","lines"] (Bb K CG CP CB):=by
 obtain ⟨g1,gd1,G1,b1,k1,h1⟩:=L1.ex
 obtain ⟨g2,gd2,G2,b2,k2,h2⟩:=L2.ex
 obtain ⟨fB,fdB,MB,GB,bB⟩:=BM.ex
 refine F.ok By (fun vs H Q E h=>?_) (fun cdv A outer s H vs Q E hr h=>?_)
 ·obtain ⟨g,la,pa,q,dx,dxb,na,la0,rv,rf,ft,bs,prs,nm,ys,rfl,_⟩:=h
  rfl
 ·obtain ⟨g,la,pa,q,dx,dxb,na,la0,rv,rf,ft,bs,prs,nm,ys,rfl,hg,hq,hna,hpa,hps,p64,hys,yo,pn,nl,yl,k⟩:=h
  have hr1:=hr.mono (j:=1) (by decide)
  have hr2:=hr.mono (j:=2) (by decide)
  refine ⟨_,aF (bI (i:=2) By.nd rfl (Or.inl rfl) (aQ G2 hr (by rfl) h2 k2 b2 .nil aX (aA (nF MB GB hr2 (by rfl) BM.mg bB .nil aX (aA (aT (aT (pv 0) rfl) rfl) (aA (pv 1) aE))) (aA (aQ G1 hr1 (by rfl) h1 k1 b1 .nil aX (aA (aT (pv 0) rfl) aE)) aE))))
   (aH (aV (cI Ak (eG (aA (bS bW (by rfl) hlen PySem.boot_len (aA (pv 2) aE)) aE)) (pv 2)))),?_⟩
  have hsl:=fJ
  refine ⟨_,rfl,g,CG,dx,_,_,rfl,hg,T.cl,T.n4,rfl,q,CB,dxb,_,_,rfl,hq,TB.cl,TB.n1,rfl,_,rfl,fun x db fx fd fne=>⟨x,db,na,la,rfl,aB,fun H1 e1 s1=>⟨rfl,?_⟩⟩⟩
  have S1:aL H H1:=fun y o e=>s1 y o (by rw [aC (aD e fx),aC (aD e fd)];exact e) (aD e fx)
  refine ⟨_,rfl,g,CG,dx,_,_,rfl,S1 _ _ hg,T.cl,T.n3,rfl,pa,bs,prs,rfl,dE.of (S1 _ _ hpa),?_,p64,fun H2 D S2 fD hD=>?_⟩
  ·exact Paired.mapP hps fun _ _ z=>⟨z.1.same S1,z.2⟩
  ·obtain ⟨ts,t1,t2⟩:=hys.same (S1.trans S2)
   refine ⟨x,D,prs,nm,ys,rfl,⟨db,na,la,ts,S2 _ _ e1,(S1.trans S2) _ _ hna,t1,t2⟩,hD,yo,pn,nl,yl,fun H3 l S3 fl el bl=>?_⟩
   refine ⟨_,rfl,l,_,rfl,.inl (dE.of el),by show 1<=sizeLine;omega,fun l4 f4=>?_⟩
   refine ⟨_,rfl,l4,l,_,_,rfl,rfl,aB,(aL.new f4) _ _ el,(by rw [List.length_map];show 1+_<=_;omega),fun l5 f5=>k _ l5 ?_⟩
   rw [aB,List.length_map]
   rfl
def wN (K:PySem.W.Frag):Sp:=fun vs H Q _=>∃ (la:Addr) (dx dy dz:Int) (ys:List (List Int)),vs=[.ref la,.int dx,.int dy,.int dz]/\Fg H la ys/\ys.length<=256/\
 ∀ (H':Hp) (l:Addr),aL H H'->H l=none->Fg H' l (ys.map (gB dx dy dz))->Q (.ref l) H'
abbrev Jx:List Str:=["lines","dx","dy","dz","put"]
theorem rV:aO Jx ["lines","dx","dy","dz"] (aG nX):=⟨rfl,rfl,rfl,by decide+kernel,rfl,by decide+kernel,by decide+kernel⟩
theorem Lg {f:Addr} {fd:FuncData} (F:fK K "moved_lines" "moved_lines" nX f fd):bU P w K mg base bV 1 f fd ["lines","dx","dy","dz"] (wN K):=by
 refine F.ok rV (fun vs H Q E h=>?_) (fun cdv A outer s H vs Q E hr h=>?_)
 ·obtain ⟨la,dx,dy,dz,ys,rfl,_⟩:=h
  rfl
 ·obtain ⟨la,dx,dy,dz,ys,rfl,⟨ts,hla,hys⟩,yl,k⟩:=h
  refine ⟨_,aH (aV (zF (own:=[("put",4)]) (te:=Wo (dL (Fa (pB K) (dI 4) (tC (.int 0))) (dL (Fa (pB K) (dI 4) (tC (.int 1))) (dL (Fa (Pw fun i j=>.int (i+j)) (Fa (pB K) (dI 4) (tC (.int 2))) (dI 1)) (dL (Fa (Pw fun i j=>.int (i+j)) (Fa (pB K) (dI 4) (tC (.int 3))) (dI 2)) (dL (Fa (Pw fun i j=>.int (i+j)) (Fa (pB K) (dI 4) (tC (.int 4))) (dI 3)) (dL (Fa (pB K) (dI 4) (tC (.int 5))) gR))))))) rfl rV.nd (kY (pv 0)) (gN (N:=Jx) (sc:=aG nX) (by decide+kernel))
   (fun _ _ _ _ _=>bJ (i:=4) rV.nd rfl (Or.inl rfl)) (fun _ _ _ _ _=>lJ)
   (fun _ _ _ _ _=>eN (aA (bY (r:=pB K) bQ (pv 4) aK (fun _ _=>rfl)) (aA (bY (r:=pB K) bQ (pv 4) aK (fun _ _=>rfl)) (aA (cI fY (bY (r:=pB K) bQ (pv 4) aK (fun _ _=>rfl)) (pv 1)) (aA (cI fY (bY (r:=pB K) bQ (pv 4) aK (fun _ _=>rfl)) (pv 2)) (aA (cI fY (bY (r:=pB K) bQ (pv 4) aK (fun _ _=>rfl)) (pv 3)) (aA (bY (r:=pB K) bQ (pv 4) aK (fun _ _=>rfl)) aE))))))))),?_⟩
  have hsl:=bE
  have htl:ts.length=ys.length:=Paired.length hys
  refine ⟨_,rfl,la,rfl,⟨_,dE.of hla⟩,fun Dl hDl=>?_⟩
  refine pV (K:=K) (xs:=ts.map V.ref) (fun i H'=>aL H H'/\∃ us:List Addr,H' Dl=some (.lst (us.map V.ref))/\Paired (Ol H') us ((ys.map (gB dx dy dz)).take i)) ⟨aL.new hDl,[],aB,.nil⟩ (fun i H' _ z=>dE.of (z.1 _ _ hla)) ?_ ?_
  ·rintro i x H1 ex ⟨S1,us,hD1,pu⟩
   have hi:i<ys.length:=by
    have:=(List.getElem?_eq_some_iff.mp ex).1
    rwa [List.length_map,htl] at this
   obtain ⟨y,ey⟩:∃ y,ys[i]?=some y:=⟨_,List.getElem?_eq_getElem hi⟩
   obtain ⟨t,et,ht,hy6⟩:=cG hys ey
   rw [List.getElem?_map,et] at ex
   cases ex
   obtain ⟨a0,a1,a2,a3,a4,a5,rfl⟩:=Yr hy6
   have ht1:=cN.of (K:=K) (S1 _ _ ht)
   have ul:us.length<=256:=by
    have:=Paired.length pu
    rw [List.length_take,List.length_map] at this
    omega
   refine ⟨rfl,_,rfl,t,_,_,_,rfl,rfl,ht1,rfl,_,rfl,t,_,_,_,rfl,rfl,ht1,rfl,_,rfl,t,_,_,_,rfl,rfl,ht1,rfl,_,rfl,_,_,rfl,rfl,_,rfl,t,_,_,_,rfl,rfl,ht1,rfl,_,rfl,_,_,rfl,rfl,_,rfl,t,_,_,_,rfl,rfl,ht1,rfl,_,rfl,_,_,rfl,rfl,_,rfl,t,_,_,_,rfl,rfl,ht1,rfl,(by show 6<=sizeLine;omega),fun p fp=>?_⟩
   have nDp:Dl≠p:=aD hD1 fp
   refine ⟨_,by rw [aC nDp];exact hD1,by rw [List.length_map];omega,fun b o e=>?_,us++[p],by rw [aB,List.map_append];rfl,?_⟩
   ·rw [aC (aD e hDl),aC (aD (S1 _ _ e) fp)]
    exact S1 _ _ e
   ·have e2:(ys.map (gB dx dy dz))[i]?=some (gB dx dy dz [a0,a1,a2,a3,a4,a5]):=by rw [List.getElem?_map,ey];rfl
    rw [List.take_succ,e2]
    refine Paired.snoc (Paired.mapP pu fun u v z=>⟨?_,z.2⟩) ⟨?_,rfl⟩
    ·rw [aC (fun e=>by have z1:=z.1;rw [e,hD1] at z1;cases z1),aC (aD z.1 fp)]
     exact z.1
    ·rw [aC (Ne.symm nDp),aB]
     rfl
  ·rintro H1 ⟨S1,us,hD1,pu⟩
   rw [List.length_map,htl,List.take_of_length_le (by rw [List.length_map];exact Nat.le_refl _)] at pu
   exact k H1 Dl S1 hDl ⟨us,hD1,pu⟩
end
theorem Ra {nss:List (List Int)} {l:List Int} {p:Nat} {q:List Nat×Nat} (h:dY nss l p=.ok q):dZ q.1 1<=255:=by
 unfold dY at h
 obtain ⟨p1,_,h⟩:=aJ h
 obtain ⟨n,en,h⟩:=aJ h
 obtain ⟨r,er,h⟩:=aJ h
 obtain ⟨_,_,h⟩:=aJ h
 cases h
 have hl:=pW (r:=r) er
 have hl:r.1.length=5:=hl
 have e:r.1[0]?=some r.1[0]:=List.getElem?_eq_getElem (by omega)
 have:=zR er 0 r.1[0] 255 e rfl
 show (n.1::r.1).getD 1 0<=255
 rw [List.getD_eq_getElem?_getD]
 show (r.1[0]?).getD 0<=255
 rw [e]
 exact this
theorem yF {nss:List (List Int)} {l:List Int}:∀ {n p:Nat} {q:List (List Nat)×Nat},cC nss l n p=.ok q->∀ x∈q.1,dZ x 1<=255
 |0,p,q,h=>by cases h;intro x hx;cases hx
 |n+1,p,q,h=>by
  rw [cC] at h
  split at h
  ·cases h;intro x hx;cases hx
  ·obtain ⟨q1,e1,h⟩:=aJ h
   obtain ⟨q2,e2,rfl⟩:=eX h
   intro x hx
   rcases List.mem_cons.mp hx with rfl|hx
   ·exact Ra e1
   ·exact yF e2 x hx
theorem Vf {lc lb:List Int} {prs:List aM} {nm:List Int} {ls:List (List Nat)} (h:dA lc lb=.ok prs nm ls):∀ x∈ls,dZ x 1<=255:=by
 have h:=(Bm h).2
 unfold dF at h
 obtain ⟨_,_,h⟩:=aJ h
 obtain ⟨_,_,h⟩:=aJ h
 obtain ⟨_,_,h⟩:=aJ h
 obtain ⟨r,er,h⟩:=aJ h
 split at h
 ·cases h;exact yF er
 ·cases h
theorem Xx {lc lb:List Int} (hc:Nc lc) (hb:Nc lb) {prs:List aM} {nm:List Int} {ls:List (List Nat)} (h:dA lc lb=.ok prs nm ls):(∀ pr∈prs,dU pr)/\¬(Br.wrong (prs.map cO)).isSome=true:=by
 have h1:=Cz hc hb
 rw [h] at h1
 exact ⟨h1.2.1,h1.2.2.2.1⟩
theorem Om {CP:Addr} {H:Hp} {bs:List Addr} {prs:List aM} (h:dS CP H bs prs):∀ pr∈prs,pr.name.length<=8:=fun pr hp=>by
 obtain ⟨i,e⟩:=List.mem_iff_getElem?.mp hp
 obtain ⟨b,_,_,po⟩:=cG h e
 exact po.nm
theorem Wl {prs:List aM} (ok:∀ pr∈prs,dU pr) (p64:prs.length<=64) {x:List Nat} (hx:vY prs.length x) (h5:dZ x 5<=3) (h1:dZ x 1<=255) {dx dy dz:Int} (hl:fL prs (gB dx dy dz (mY x))=false):YOk prs (gB dx dy dz (mY x)):=by
 obtain ⟨h6,h0⟩:=hx
 obtain ⟨a,b,c,d,e,f,rfl⟩:=Tt h6
 have h0:a<prs.length:=h0
 have h5:f<=3:=h5
 have h1:b<=255:=h1
 have hl:iA prs a f ((c:Int)+dx) ((d:Int)+dy) ((e:Int)+dz)=false:=hl
 have z:=(mI ok h0).mp hl
 have zp:=Js ok (r:=f) h0
 refine ⟨rfl,?_,h0⟩
 show ∀ k∈[(a:Int),(b:Int),(c:Int)+dx,(d:Int)+dy,(e:Int)+dz,(f:Int)],0<=k/\k<10000
 simp only [List.mem_cons,List.not_mem_nil,or_false,forall_eq_or_imp,forall_eq]
 omega
def Gc (dx dy dz:Int) (lc lb:List Int):List Int:=rB (fun prs nm ls=>if (ls.map fun x=>fL prs (gB dx dy dz (mY x))).any id=true then [-3] else Zn prs nm ((ls.map mY).map (gB dx dy dz))) lc lb
theorem Uv {ls:List (List Nat)} {f:List Nat->Bool} (h:¬(ls.map f).any id=true):∀ x∈ls,f x=false:=fun x hx=>by
 cases e:f x with
 |false=>rfl
 |true=>exact absurd (List.any_eq_true.mpr ⟨true,List.mem_map.mpr ⟨x,hx,e⟩,rfl⟩) h
theorem Dk {dx dy dz:Int} {lc lb:List Int} (hc:Nc lc) (hb:Nc lb):PyWqasbx.moved dx dy dz lc lb=Gc dx dy dz lc lb:=by
 show BuildsNeutral.shown (BrB.answer (.moved (Fy lc) (Fy lb) dx dy dz))=_
 unfold BrB.answer
 refine Gj hc hb fun prs nm ls d R=>?_
 have hm:=Fx R.ok R.ln dx dy dz
 show BuildsNeutral.shown (match d.moved (prs.map cO) dx dy dz with
  |some m=>.bytes (m.text (prs.map cO))
  |none=>BrB.no 3)=_
 unfold Br.Build.moved
 rw [R.dl,hm]
 by_cases e:(ls.map fun x=>fL prs (gB dx dy dz (mY x))).any id=true
 ·rw [if_pos e,if_pos e]
  rfl
 ·rw [if_neg e,if_neg e]
  show BuildsNeutral.shown (.bytes (Br.Build.text (prs.map cO) {d with lines:=ls.map fun x=>gS (Zg (gB dx dy dz (mY x)))}))=_
  rw [Hf]
  have e3:aW (Br.Build.text (prs.map cO) {d with lines:=ls.map fun x=>gS (Zg (gB dx dy dz (mY x)))})=Ey (prs.map (·.name)) nm ((ls.map mY).map (gB dx dy dz)):=by
   refine Fl R.ok (ys:=(ls.map mY).map (gB dx dy dz)) (fun y hy=>?_) ?_ R.dn
   ·obtain ⟨v,hv,rfl⟩:=List.mem_map.mp hy
    obtain ⟨x,hx,rfl⟩:=List.mem_map.mp hv
    obtain ⟨h6,h0⟩:=R.ln x hx
    obtain ⟨a,b,c,dd,ee,f,rfl⟩:=Tt h6
    exact ⟨rfl,h0⟩
   ·rw [List.map_map,List.map_map]
    rfl
  rw [e3]
  rfl
section
variable {P:Program} {w:World} {K:PySem.W.Frag} {mg:Str->Option Value} {base:Heap} {C CR CP CB CG CM:Addr}
def uR (K:PySem.W.Frag):Sp:=fun vs H Q _=>∃ (dx dy dz:Int) (c b:Addr) (lc lb:List Int),vs=[.int dx,.int dy,.int dz,.ref c,.ref b]/\Nc lc/\Nc lb/\dE K H c (lc.map V.int)/\dE K H b (lb.map V.int)/\∀ (H':Hp) (l:Addr),H' l=some (.lst ((Gc dx dy dz lc lb).map V.int))->Q (.ref l) H'
abbrev Ke:List Str:=["dx","dy","dz","c","b","given","lines","put"]
theorem jJ:aO Ke ["dx","dy","dz","c","b"] (aG gJ):=⟨rfl,rfl,rfl,by decide+kernel,rfl,by decide+kernel,by decide+kernel⟩
theorem Kq {f:Addr} {fd:FuncData} (F:fK K "moved" "moved" gJ f fd) (T:Zj K CG) (TB:Wj K CB) (hany:mg "any"=none) (L1:dO P w K mg base "read_right" bV 10 ["c","b"] (wX K CG CP CB CM)) (L2:dO P w K mg base "moved_lines" bV 1 ["lines","dx","dy","dz"] (wN K)) (L3:dO P w K mg base "leaves_room" bV 2 ["parts","put"] (jO K CP)) (L4:dO P w K mg base "with_lines" bV 4 ["given","lines"] (Bb K CG CP CB)):bU P w K mg base bV 11 f fd ["dx","dy","dz","c","b"] (uR K):=by
 obtain ⟨g1,gd1,G1,b1,k1,h1⟩:=L1.ex
 obtain ⟨g2,gd2,G2,b2,k2,h2⟩:=L2.ex
 obtain ⟨g3,gd3,G3,b3,k3,h3⟩:=L3.ex
 obtain ⟨g4,gd4,G4,b4,k4,h4⟩:=L4.ex
 refine F.ok jJ (fun vs H Q E h=>?_) (fun cdv A outer s H vs Q E hr h=>?_)
 ·obtain ⟨dx,dy,dz,c,b,lc,lb,rfl,_⟩:=h
  rfl
 ·obtain ⟨dx,dy,dz,c,b,lc,lb,rfl,bc,bb,hc,hb,k⟩:=h
  have hr1:=hr.mono (j:=1) (by decide)
  have hr2:=hr.mono (j:=2) (by decide)
  have hr4:=hr.mono (j:=4) (by decide)
  refine ⟨_,aF (bI (i:=5) jJ.nd rfl (by first|exact Or.inl rfl|exact Or.inr rfl) (aQ G1 hr (by rfl) h1 k1 b1 .nil aX (aA (pv 3) (aA (pv 4) aE))))
   (aF (eK (eB (Is (aT (pv 5) rfl) aK)) (aH (aV (eG (aA (aT (pv 5) rfl) aE)))) cF)
   (aF (bI (i:=6) jJ.nd rfl (Or.inl rfl) (aQ G2 hr1 (by rfl) h2 k2 b2 .nil aX (aA (aT (aT (pv 5) rfl) rfl) (aA (pv 0) (aA (pv 1) (aA (pv 2) aE))))))
   (aF (eK (eE (bS (Qh rfl) (by rfl) hany boot_any (aA (zF (own:=[("put",7)]) (te:=xP (jO K CP) [] E0 (dL (Pp K (dI 5) "parts") (dL (dI 7) gR))) rfl jJ.nd (kY (pv 6)) (gN (N:=Ke) (sc:=aG gJ) (by decide+kernel))
      (fun _ _ _ _ _=>bJ (i:=7) jJ.nd rfl (Or.inl rfl)) (fun _ _ _ _ _=>lJ) (fun _ _ _ _ _=>aQ G3 hr2 (by rfl) h3 k3 b3 .nil aX (aA (aT (pv 5) rfl) (aA (pv 7) aE)))) aE))) (aH (aV (eG (aA (yI rK aK) aE)))) cF)
   (aH (aV (aQ G4 hr4 (by rfl) h4 k4 b4 .nil aX (aA (pv 5) (aA (pv 6) aE)))))))),?_⟩
  refine ⟨_,rfl,_,rfl,c,b,lc,lb,rfl,hc,hb,fun H1 g S1 hgH hg=>?_⟩
  obtain ⟨dxg,pa,bv,rv,rf,ft,hg,alt⟩:=Sd hg
  unfold Gc at k
  refine ⟨_,rfl,g,CG,dxg,_,_,rfl,hg,T.cl,T.n1,rfl,_,_,rfl,rfl,_,rfl,cE (fun e=>?_) (fun e=>?_)⟩
  ·have e:rf<0:=of_decide_eq_true e
   rcases alt with ⟨_,hR⟩|⟨h0,_⟩
   ·rw [hR] at k
    exact ⟨_,rfl,g,CG,dxg,_,_,rfl,hg,T.cl,T.n1,rfl,by show 1<=sizeLine;decide,fun l hl=>k _ l aB⟩
   ·omega
  ·have e:¬rf<0:=fun z=>e (decide_eq_true z)
   rcases alt with ⟨hlt,_⟩|⟨h0,prs,nm,ls,q,m,bs,eg,hR,fr,rfl,rfl,hpa,hps,hbd,hrm,hp64⟩
   ·exact absurd hlt e
   ·rw [hR] at k
    obtain ⟨ok,_⟩:=Xx bc bb eg
    have g6:=Bl eg
    have g5:=wO eg
    have gc:=Vf eg
    obtain ⟨dxb,na,la,ts,hq,hna,hla,hls,l256,n16⟩:=hbd
    have hY:=aA6 hla hls
    have hsl:=bE
    refine ⟨_,rfl,g,CG,dxg,_,_,rfl,hg,T.cl,T.n4,rfl,q,CB,dxb,_,_,rfl,hq,TB.cl,TB.n2,rfl,_,rfl,_,rfl,_,rfl,la,dx,dy,dz,ls.map mY,rfl,hY,by rw [List.length_map];exact l256,fun H2 l2 S2 f2 hY2=>?_⟩
    obtain ⟨us,hl2,pus⟩:=id hY2
    have hul:us.length=ls.length:=by rw [Paired.length pus,List.length_map,List.length_map]
    refine ⟨_,rfl,l2,rfl,⟨_,dE.of hl2⟩,fun Dl hDl=>?_⟩
    refine pV (K:=K) (xs:=us.map V.ref) (fun i H'=>aL H2 H'/\H' Dl=some (.lst (((ls.map fun x=>fL prs (gB dx dy dz (mY x))).take i).map V.bl))) ⟨aL.new hDl,aB⟩ (fun i H' _ z=>dE.of (z.1 _ _ hl2)) ?_ ?_
    ·rintro i x H3 ex ⟨S3,hD3⟩
     have hi:i<ls.length:=by
      have:=(List.getElem?_eq_some_iff.mp ex).1
      rwa [List.length_map,hul] at this
     obtain ⟨v,ev⟩:∃ v,ls[i]?=some v:=⟨_,List.getElem?_eq_getElem hi⟩
     have ey:((ls.map mY).map (gB dx dy dz))[i]?=some (gB dx dy dz (mY v)):=by rw [List.getElem?_map,List.getElem?_map,ev];rfl
     obtain ⟨u,eu,hu1,hu2⟩:=cG pus ey
     rw [List.getElem?_map,eu] at ex
     cases ex
     obtain ⟨h6,h0'⟩:=g6 v (List.mem_of_getElem? ev)
     have S23:=S2.trans S3
     have y0:0<=iN (gB dx dy dz (mY v)) 0/\(iN (gB dx dy dz (mY v)) 0).toNat<prs.length/\0<=iN (gB dx dy dz (mY v)) 5:=by
      obtain ⟨a,b,c,d,e,f,rfl⟩:=Tt h6
      have h0':a<prs.length:=h0'
      show 0<=(a:Int)/\(a:Int).toNat<prs.length/\0<=(f:Int)
      omega
     refine ⟨rfl,_,rfl,g,CG,dxg,_,_,rfl,S23 _ _ hg,T.cl,T.n3,rfl,_,rfl,pa,u,bs,prs,_,rfl,dE.of (S23 _ _ hpa),Paired.mapP hps (fun _ _ z=>⟨z.1.same S23,z.2⟩),⟨S3 _ _ hu1,hu2⟩,y0.1,y0.2.1,y0.2.2,fun H4 S4=>⟨_,S4 _ _ hD3,?_,?_,?_⟩⟩
     ·rw [List.length_map,List.length_take,List.length_map]
      omega
     ·intro b' o e
      rw [aC (aD e hDl)]
      exact S4 _ _ (S3 _ _ e)
     ·have e3:(ls.map fun x=>fL prs (gB dx dy dz (mY x)))[i]?=some (fL prs (gB dx dy dz (mY v))):=by rw [List.getElem?_map,ev];rfl
      rw [aB,List.take_succ,e3,List.map_append]
      rfl
    ·rintro H3 ⟨S3,hD3⟩
     rw [List.length_map,hul,List.take_of_length_le (by rw [List.length_map];exact Nat.le_refl _)] at hD3
     refine ⟨Dl,_,rfl,dE.of hD3,_,rfl,cE (fun e4=>?_) (fun e4=>?_)⟩
     ·rw [if_pos e4] at k
      exact ⟨_,rfl,by show 1<=sizeLine;decide,fun l hl=>k _ l aB⟩
     ·rw [if_neg e4] at k
      have al:=Uv e4
      have S23:=S2.trans S3
      exact ⟨_,rfl,_,rfl,g,l2,pa,q,dxg,dxb,na,la,_,_,_,bs,prs,nm,(ls.map mY).map (gB dx dy dz),rfl,S23 _ _ hg,S23 _ _ hq,S23 _ _ hna,S23 _ _ hpa,Paired.mapP hps (fun _ _ z=>⟨z.1.same S23,z.2⟩),hp64,hY2.same S3,
       fun y hy=>(by
        obtain ⟨v,hv,rfl⟩:=List.mem_map.mp hy
        obtain ⟨x,hx,rfl⟩:=List.mem_map.mp hv
        exact Wl ok hp64 (g6 x hx) (g5 x hx) (gc x hx) (al x hx)),Om hps,n16,(by rw [List.length_map,List.length_map];exact l256),k⟩
end
theorem Ld {P:Program} {w:World} {K:PySem.W.Frag} {h:Heap} {mg:Str->Option Value} {fa:Addr} (X:K.In h) (G:h.Ns mainGlobals mg) (hfa:mg "moved"=some (.ref fa)) (k:∀ f∈ftC,f.P K) (k2:∀ f∈ftR,f.P K) (nl:PySem.W.nsIn K mainGlobals "len"=some none) (na:PySem.W.nsIn K mainGlobals "any"=some none) (nt:PySem.W.nsIn K mainGlobals "list"=some none) (no:PySem.W.nsIn K mainGlobals "ord"=some none) (ks:iT K "spelled" "spelled" jN) (kb:iT K "build_text" "build_text" iR) (kw:iT K "with_lines" "with_lines" iJ) (km:iT K "moved_lines" "moved_lines" nX) (kj:iT K "moved" "moved" gJ):
  ∃ fd:FuncData,(∀ (s:Shared) (us:List Value),us.length=(["dx","dy","dz","c","b"]:List Str).length->BindsTo s fd ⟨us,[]⟩ ((["dx","dy","dz","c","b"]:List Str).zip us))/\∀ base:Heap,K.In base->base.Ns mainGlobals mg->bU P w K mg base bV 11 fa fd ["dx","dy","dz","c","b"] (uR K):=by
 obtain ⟨f,oc,od,kV,doc,pm,an,cdv,ct,osl,a,l,c,kp⟩:=kj
 have e:=hfa.symm.trans (PySem.W.mg_of X G a)
 cases e
 have F:=rA (st:=gJ) l c kp
 refine ⟨PySem.W.fnOf "moved" "moved" (eQ gJ) (dR gJ) (aG gJ) .none kV doc pm an cdv ct,fun s us hu=>(by obtain ⟨a,b,c,d,e,rfl⟩:=_root_.L2.us5 hu;exact .of_eq rfl),fun base X2 G2=>?_⟩
 have L:=aCv (P:=P) (w:=w) (base:=base) X G k
 have R:=aA2 X G L k2
 have nn:∀ {x:Str},PySem.W.nsIn K mainGlobals x=some none->mg x=none:=fun z=>PySem.W.mg_none_of X G z
 have M1:dO P w K mg base "spelled" bV 2 ["word"] qX:=iT.fn0 ks X G (fun f fd F=>Gx F (nn no)) fun _ _ _ _ _ _ us hl=>(by obtain ⟨a,rfl⟩:=_root_.L2.tH hl;rfl)
 have M2:dO P w K mg base "build_text" bV 3 ["build","names"] (Ay K (dN K "Build")):=iT.fn0 kb X G (fun f fd F=>Rh F L.TB (nn nt) M1) fun _ _ _ _ _ _ us hl=>(by obtain ⟨a,b,rfl⟩:=_root_.L2.yE hl;rfl)
 have M3:dO P w K mg base "with_lines" bV 4 ["given","lines"] (Bb K (dN K "Given") (dN K "Part") (dN K "Build")):=iT.fn0 kw X G (fun f fd F=>Rk F L.TG L.TB L.BM (nn nl) L.names M2) fun _ _ _ _ _ _ us hl=>(by obtain ⟨a,b,rfl⟩:=_root_.L2.yE hl;rfl)
 have M4:dO P w K mg base "moved_lines" bV 1 ["lines","dx","dy","dz"] (wN K):=iT.fn0 km X G (fun f fd F=>Lg F) fun _ _ _ _ _ _ us hl=>(by obtain ⟨a,b,c,d,rfl⟩:=_root_.L2.us4 hl;rfl)
 exact Kq F L.TG L.TB (nn na) R.right M4 R.lea M3
end Br1
namespace Br1
open PySem PySem.W
end Br1
namespace Br1
open PySem PySem.Spec PyProof.Rows L2
def Zm:PySem.W.Hook:=Xl asC ftZ
theorem Pn {l:List Int} (h:l.all (PySem.W.Codec.inInt 0 255)=true):Nc l:=fun x hx=>PySem.W.Codec.inInt_iff.mp (List.all_eq_true.mp h x hx)
end Br1
open PySem PySem.W PyProof.Rows
set_option maxHeartbeats 0 in
theorem PySem.Challenge.cw_brickrooms_s08_moved_holds : PySem.Challenge.rw_brickrooms_s08_moved.Holds := by
 refine holds_os (q:=Br1.vwC) (loose:=Br1.Qw) (Xt:=fun _=>true) (XP:=fun _ _=>True) (Yf:=Br1.Zm.obs) (Ya:=Br1.Zm.val) (YP:=Br1.Zm.says) (N:=6146) Br1.aAb Br1.Zm.of Br1.Zm.keeps (fun _ _=>trivial) (fun _ _ _ _ _=>trivial) (by rfl) (by rfl) (by rfl) (fun s _=>recFacts_of (s:=s) (by rfl)) os_shapes (by decide+kernel) (by decide+kernel) ⟨rfl,rfl,rfl,rfl,rfl,by decide+kernel⟩ ⟨[.int 0,.int 0,.int 0,.list [],.list []],by decide+kernel,by decide+kernel⟩ ?_
 refine L2.Fp (r:=PySem.Challenge.rw_brickrooms_s08_moved) (k:=11) (CX:=L2.bV) (ps:=["dx","dy","dz","c","b"]) (sp:=Br1.uR) (Good:=fun K=>∀ f∈Br1.ftZ,f.P K) (by decide+kernel) rfl rfl ⟨rfl,by decide,by decide⟩ (fun w h Y=>Y) ?F ?S (fun _ _ _ _ z=>z)
 case F=>
  intro w K mg fa h g KX G hmg
  have k0:∀ f∈Br1.ftC,f.P K:=fun f hf=>g f (List.mem_append_left _ hf)
  have g0:=fun (f:Br1.Ft) (hf:f∈_)=>g f (List.mem_append_right _ hf)
  have k1:∀ f∈Br1.ftR,f.P K:=fun f hf=>g0 f (List.mem_append_left _ hf)
  have g1:=fun (f:Br1.Ft) (hf:f∈_)=>g0 f (List.mem_append_right _ hf)
  exact Br1.Ld KX G hmg k0 k1 (Br1.Ft.nth g1 0 (f:=.no "len") rfl) (Br1.Ft.nth g1 1 (f:=.no "any") rfl) (Br1.Ft.nth g1 2 (f:=.no "list") rfl) (Br1.Ft.nth g1 3 (f:=.no "ord") rfl) (Br1.Ft.nth g1 4 (f:=.fn "spelled" Br1.jN) rfl) (Br1.Ft.nth g1 5 (f:=.fn "build_text" Br1.iR) rfl) (Br1.Ft.nth g1 6 (f:=.fn "with_lines" Br1.iJ) rfl) (Br1.Ft.nth g1 7 (f:=.fn "moved_lines" Br1.nX) rfl) (Br1.Ft.nth g1 8 (f:=.fn "moved" Br1.gJ) rfl)
 case S=>
  intro K H xs a hO hwi hask hx
  cases hx with
  |cons h0 r0=>
   cases h0
   cases r0 with
   |cons h1 r1=>
    cases h1
    cases r1 with
    |cons h2 r2=>
     cases h2
     cases r2 with
     |cons hc rc=>
      cases rc with
      |cons hb rb=>
       cases rb
       cases hc with
       |lst hs1 ha1=>
        cases hb with
        |lst hs2 ha2=>
         have e1:=L2.Ap a.2.2.2.1 _ ha1
         subst e1
         have e2:=L2.Ap a.2.2.2.2.1 _ ha2
         subst e2
         have q:(Codec.inInt (-1000000000000000000000000000000) 1000000000000000000000000000000 a.1 && (Codec.inInt (-1000000000000000000000000000000) 1000000000000000000000000000000 a.2.1 && (Codec.inInt (-1000000000000000000000000000000) 1000000000000000000000000000000 a.2.2.1 && ((Codec.inLen 0 100000 a.2.2.2.1 && a.2.2.2.1.all (Codec.inInt 0 255)) && ((Codec.inLen 0 17000 a.2.2.2.2.1 && a.2.2.2.2.1.all (Codec.inInt 0 255)) && true)))))=true:=hwi
         simp only [Bool.and_eq_true] at q
         have b0:=(Codec.inInt_iff.mp q.1).1
         have b1:=(Codec.inInt_iff.mp q.2.1).1
         have b2:=(Codec.inInt_iff.mp q.2.2.1).1
         have bc:=Br1.Pn q.2.2.2.1.2
         have bb:=Br1.Pn q.2.2.2.2.1.2
         refine ⟨a.1,a.2.1,a.2.2.1,_,_,a.2.2.2.1,a.2.2.2.2.1,rfl,bc,bb,hs1,hs2,fun H' p hp=>?_⟩
         have m:=Br1.Dk (dx:=a.1) (dy:=a.2.1) (dz:=a.2.2.1) bc bb
         show L2.Dw K H' (.ref p) (.list ((PyWqasbx.moved a.1 a.2.1 a.2.2.1 a.2.2.2.1 a.2.2.2.2.1).map WData.int))
         rw [m]
         exact .lst (L2.dE.of hp) (L2.Jo _)
