import PyProof.Rows.All
import Wide.All
import OpenK.AllK
import Wide.FinOn
import PyProof.EqAt
import PyProof.EqKinds
import PyProof.TupleCall
import KE.BitLaws
import Open.SpecLaws
import KE.OsHead
import KE.OsGo
import KE.KDictList
import PyProof.FString
import KE.KEqDict
import KE.KSortTupG
import KE.KSortKey
import PyProof.Rows.CallKwBuiltin
import PyProof.SetScanFacts
import PyProof.Rows.SetFrom
import PyProof.SetRoads
import PyProof.CollectIter
import PyProof.Rows.SortShellAny
import Open.Line
import Open.Tree
import Open.Boot
import PySem.Challenge.RW_brickrooms_s10_plain
set_option Elab.async false
set_option linter.all false
set_option maxRecDepth 1000000
set_option maxHeartbeats 8000000
set_option compiler.extract_closed false
set_option bootstrap.genMatcherCode false
noncomputable section
open PySem (Addr Obj Shared Str Value boot_len)
open PySem.W (Frag Hook WRecords callWith_K callWith_K0 cellsFrom_some codeIn codeRec_of emptyDict findIn fnOf handedIn hasDictIn instObj isFn isNs_of_in keepIn lookIn makesIn methodObj mg_none_of mg_of nsIn nsOkIn ns_none_of plainGet plainGet_of plainOver takerIn)
open PySem.F (args_tuple_add_2 called_set entry_tuple_add plainAttrs_list slot_list_extend slot_tuple_add type_list_extend)
def ac:=@PySem.wpAny_bind
def ae:=@if_neg
def af:=@if_pos
def ag:=@PySem.wpAny_pure
def ai:=@List.length_map
def ao:=@List.mem_cons
def ap:=@Nat.le_refl
def ax:=@Ne.symm
def ay:=@List.getElem?_eq_getElem
def a7:=@List.mem_cons_of_mem
def a8:=@List.mem_map
def a9:=@List.getElem?_map
def bf:=@List.mem_cons_self
def bg:=@PySem.Heap.lt_size
def bh:=@List.length_cons
def bj:=@PySem.Heap.get?_push_of_some
def bp:=@List.map_cons
def bq:=@List.getElem?_eq_some_iff
def b6:=@List.length_append
def b7:=@List.map_append
def b8:=@List.getD_eq_getElem?_getD
def b9:=@Nat.ne_of_lt
def ca:=@Bool.false_ne_true
def cb:=@List.size_toArray
def cg:=@PySem.Heap.get?_push_size
def ck:=@decide_eq_true_iff
def cq:=@Bool.and_eq_true
def cx:=@Bool.not_eq_true'
def cz:=@beq_iff_eq
def c8:=@Nat.zero_le
def c9:=@decide_eq_true
def dh:=@List.map_map
def dk:=@List.not_mem_nil
def d4:=@Array.length_toList
def d6:=@Prod.ext
def d7:=@of_decide_eq_true
def d9:=@List.mem_of_getElem?
def fh:=@List.append_nil
def fj:=@List.length_take
def fq:=@Int.toNat_natCast
def gi:=@List.mem_append_right
def gu:=@Nat.le_trans
def ic:=@PySem.Heap.size_push
def ie:=@List.mem_singleton
def io:=@Bool.eq_iff_iff
def ip:=@PySem.wpAny_newObj_type
def iy:=@Nat.lt_of_lt_of_le
def i9:=@Bool.true_and
def i':=@or_false
def jg:=@PySem.wpAny_call_entry
def jh:=@List.take_succ
def ji:=@List.take_length
def jn:=@decide_eq_false
def jo:=@List.mem_filter
def jp:=@List.mem_append
def jq:=@PySem.wpAny_mono
def jy:=@if_false
def jz:=@PySem.Heap.SameBut.update
def j5:=@Nat.lt_irrefl
def j6:=@PySem.wpAny_field
def j7:=@PySem.wpAny_holding
def j8:=@List.all_eq_true
def j9:=@Option.isSome_map
def kc:=@PySem.Obj.data_mapFields
def ke:=@PySem.PassesOwn.never
def k8:=@Nat.lt_succ_self
def k9:=@List.getElem?_eq_none
def lf:=@List.find?_cons
def lh:=@List.length_nil
def lx:=@List.mem_append_left
def ly:=@Bool.false_and
def l0:=@PySem.wpAny_setField
def l9:=@decide_eq_false_iff_not
def ma:=@List.append_assoc
def mw:=@PySem.wpAny_callSpecial?_slot
def m6:=@Array.getElem?_toList
def m7:=@Nat.mul_comm
def m8:=@Nat.add_comm
def m9:=@List.any_eq_true
def oq:=@PySem.Heap.get?_update_self
def ot:=@Nat.succ_mul
def ou:=@Nat.zero_add
def ox:=@List.mem_iff_getElem?
def oy:=@Nat.mod_lt
def o3:=@List.getElem_mem
def pi:=@beq_eq_false_iff_ne
def px:=@Nat.ne_of_gt
def p8:=@PySem.sizeLine_eq
def qb:=@List.nodup_cons
def qc:=@Bool.false_eq_true
def qd:=@PySem.wpAny_dictEntries
def qe:=@List.mem_map_of_mem
def qf:=@Int.toNat_of_nonneg
def rk:=@Option.map_eq_some_iff
def rn:=@Bool.not_eq_true
def t8:=@PySem.codeAny_mono
def t9:=@List.all_cons
def ua:=@PySem.wpAny_attempt
def ub:=@PySem.Obj.isFreed_of_fields
def uc:=@Nat.mod_eq_of_lt
def ud:=@Nat.not_lt_zero
def ue:=@List.Pairwise.map
def ug:=@forall_eq_or_imp
def uh:=@forall_eq
def vi:=@Nat.le_of_eq
def vj:=@Option.isSome_iff_exists
def vk:=@if_true
def vm:=@List.map_nil
def vn:=@List.any_cons
def vo:=@PySem.Heap.get?_update_other
def vp:=@Bool.and_false
def vq:=@List.lookup_cons
def vt:=@Nat.lt_succ_of_lt
def vw:=@PySem.wpAny_dictEpoch
def v9:=@PySem.wpAny_fieldsOf
def wa:=@Array.getElem?_eq_some_iff
def wb:=@PySem.wpAny_loadPart_at
def wc:=@List.take_of_length_le
def we:=@List.map_congr_left
def yc:=@PySem.wpAny_execs_nil
def ye:=@Bool.or_eq_true
def yf:=@Bool.not_eq_false
def yg:=@Nat.add_mul_mod_self_right
def yh:=@Nat.add_mul_div_right
def yi:=@Nat.div_eq_of_lt
def yj:=@PySem.wpAny_rule
def ym:=@List.zip_cons_cons
def yn:=@List.eq_nil_of_length_eq_zero
def yq:=@List.pairwise_cons
def yr:=@PySem.wpAny_setState_of
def AA:=@List.filterMap_cons
def AB:=@PyProof.Rows.callWith_type1
def AC:=@List.mem_filterMap
def AD:=@PySem.wpAny_call
def AE:=@Nat.le_succ
def AF:=@List.length_drop
def AG:=@PyProof.Rows.slot_tuple_getitem
def AH:=@List.length_singleton
def AI:=@PySem.F.slot_dict_keyiterator_next
def AJ:=@PySem.wpAny_of_eq
def AK:=@PySem.wpAny_isInstance
def AL:=@Classical.not_not
def AM:=@Nat.mul_le_mul_right
def AN:=@PySem.wpAny_loadPart'
def AO:=@List.getElem?_range
def AQ:=@List.length_range
def AR:=@List.contains_iff_mem
def AS:=@PySem.codeAny_builtin
def AT:=@PySem.wpAny_askSetting
def B3:=@Nat.le_of_lt
def B4:=@List.of_mem_zip
def B5:=@PySem.wpAny_typeOf
def B6:=@List.any_map
def B7:=@not_or
def B8:=@PySem.wpAny_standAt
def B9:=@PySem.tupleKind_room_in1
def B':=@PySem.wpAny_pyIter_slot
def CA:=@PySem.Obj.cls_mapFields
def CC:=@PySem.wpAny_handled
def CD:=@PySem.wpAny_throw
def CF:=@PySem.size_of_entries
def CH:=@PySem.entry_at
def CJ:=@Nat.le_add_right
def CK:=@PySem.wpAny_typeLookup_exc
def CN:=@Nat.div_add_mod
def CO:=@Nat.sub_zero
def CQ:=@Nat.sub_self
def CT:=@PySem.F.slot_dict_itemiterator_next
def CU:=@Nat.lt_of_succ_lt
def CV:=@List.flatMap_append
def CW:=@Nat.mul_pos
def CY:=@List.flatMap_cons
def CZ:=@List.pairwise_iff_getElem
def C0:=@PySem.Around.under_plainId
def C1:=@PySem.wpAny_setEntries_of
def EH:=@List.mem_range
def EI:=@List.getElem?_set_self
def EJ:=@PySem.wpAny_pyIter_tuple
def EK:=@PySem.call_meets
def EL:=@List.all_map
def EM:=@PySem.pushCells_keeps
def EN:=@Nat.le_of_succ_le
def EO:=@Nat.lt_trans
def EQ:=@PySem.wpAny_typeNameOfWhole_keyiter
def ER:=@PySem.wpAny_typeNameOf_keyiter
def ES:=@Array.getElem?_eq_getElem
def ET:=@PySem.isSubtype_stop
def EU:=@PySem.wpAny_pyIter_enum
def EV:=@beq_self_eq_true
def EW:=@PySem.typeLookup_type
def EX:=@PySem.builtinLookup_eq_fast
def EY:=@PySem.F.excBase_Exception
def EZ:=@List.drop_eq_getElem_cons
def E1:=@Nat.mul_le_mul
def E2:=@PySem.wpAny_typeNameOfWhole_itemiter
def E3:=@PySem.wpAny_typeNameOf_itemiter
def E4:=@PySem.F.slot_dict_items
def E5:=@PySem.F.slot_tuple_iterator_next
def E6:=@PySem.wpAny_seqItems
def E7:=@Bool.eq_false_iff
def E8:=@List.filter_cons_of_neg
def E9:=@List.filter_cons_of_pos
def FA:=@List.length_eq_zero_iff
def FC:=@List.mem_of_mem_take
def FD:=@Nat.mul_assoc
def FE:=@List.ext_getElem?
def FF:=@Nat.div_div_eq_div_mul
def FG:=@List.getElem?_zip_eq_some
def FH:=@List.mem_of_mem_drop
def FI:=@PyProof.Rows.listUpdate_at
def FJ:=@List.getElem?_toArray
def FK:=@List.mem_iff_getElem
def FL:=@PySem.fits_of_scanBound
def FM:=@PySem.plainId_quiet
def JA:=@PySem.Value.isInt_shape
def JB:=@List.getElem?_set_ne
def JC:=@Bool.beq_eq_decide_eq
def JD:=@PySem.wpAny_pyIter_list
def JE:=@List.getElem?_append_right
def JF:=@List.getElem?_append_left
def JG:=@PySem.SeqAt.EqAt.int_int
def JH:=@PySem.concat_meets
def JI:=@PySem.noFill_tuple_add
def JJ:=@PySem.seq_tuple_add
def JK:=@List.forIn_nil
def JL:=@List.nodup_nil
def JM:=@Array.getElem?_eq_none
def JN:=@PySem.wpAny_notOrdered_dict
def JO:=@List.getElem?_cons_zero
def JP:=@PySem.Heap.get?_update_ne
def JQ:=@PySem.codeAny_call_builtin
def JR:=@PySem.wpAny_isOneOf_itemiter
def JS:=@decide_false
def JT:=@List.length_filter_le
def JU:=@UInt8.toNat_lt
def JV:=@Int.le_refl
def JW:=@UInt8.toNat_ofNat'
def JX:=@List.flatMap_singleton
def JY:=@List.range'_succ
def JZ:=@List.partition_eq_filter_filter
def J0:=@List.nodup_append
def J1:=@List.mem_flatMap
def J2:=@List.map_id
def J3:=@List.flatMap_nil
def J4:=@Int.eq_ofNat_of_zero_le
def J5:=@Nat.lt_or_ge
def J6:=@List.pairwise_map
def J7:=@PyProof.Rows.get?_update_seq
def J8:=@PySem.wpAny_newList
def J9:=@PyProof.Rows.F.plain_set_update_loop
def NT:=@Array.append_assoc
def NU:=@PySem.Calls.Name_function_global
def NV:=@Array.find?_toList
def NW:=@List.getElem?_replicate
def NX:=@List.take_sublist
def NY:=@PySem.codeAny_call_function
def NZ:=@PySem.wpAny_newFunctionEnv_cells
def N0:=@PyProof.Rows.callWith_builtin1
def N1:=@Nat.min_le_right
def N2:=@PySem.Calls.callWith_builtin
def N3:=@List.length_dropLast
def N4:=@List.range_succ_eq_map
def N5:=@List.forIn_cons
def N6:=@Option.isSome_some
def N7:=@decide_eq_true_eq
def N8:=@PySem.F.entry_dict_keyiterator_next
def N9:=@PySem.F.args_dict_keyiterator_next_1
def N':=@PySem.wpAny_isOneOf_keyiter
def OA:=@List.getElem?_cons_succ
def OB:=@PySem.F.slot_dict_keyiterator_iter
def OC:=@Nat.succ_ne_self
def OD:=@Bool.and_eq_true_iff
def OE:=@PySem.codeAny_handlers_test
def OF:=@PySem.wpAny_excMatches_sub_self
def OG:=@eq_false_of_ne_true
def OH:=@PySem.F.slot_dict_items_iter
def OI:=@PySem.F.entry_dict_itemiterator_next
def OJ:=@PySem.F.args_dict_itemiterator_next_1
def OK:=@PySem.Calls.call_function_entry
def OL:=@PySem.F.entry_tuple_iterator_next
def OM:=@PySem.F.args_tuple_iterator_next_1
def ON:=@decide_eq_decide
def OO:=@Option.map_some
def OP:=@List.all_append
def OQ:=@Nat.min_eq_left
def OR:=@Nat.min_eq_right
def OS:=@List.findIdx_lt_length_of_exists
def OT:=@UInt8.ofNat_toNat
def OU:=@List.range_succ
def OV:=@List.flatten_cons
def OW:=@Nat.div_lt_of_lt_mul
def OX:=@List.mem_erase_of_ne
def OY:=@List.length_pos_of_mem
def OZ:=@List.Sublist.map
def O1:=@List.filter_sublist
def O2:=@List.map_fst_zip
def O3:=@List.nodup_range
def O4:=@List.find?_some
def O5:=@List.mem_of_find?_eq_some
def O6:=@List.findIdx?_eq_none_iff
def O7:=@List.findIdx?_eq_some_iff_getElem
def O8:=@List.getElem_map
def O9:=@exists_eq_left'
def PB:=@Option.mem_toList
def PD:=@Bool.or_eq_false_iff
def PF:=@List.length_pos_iff
def PH:=@Nat.toDigits_of_lt_base
def PJ:=@List.Pairwise.of_map
def PK:=@Array.toList_zip
def PL:=@Array.Perm.refl
def PN:=@Array.toList_push
def PP:=@List.length_eraseIdx_of_lt
def PQ:=@Nat.div_add_mod'
def PR:=@Int.natCast_emod
variable{p t' i j k hi ep z:Nat}{w:PySem.World}{q a b it f r C dx d CR CP CB CG CM I S:Addr}{α β:Type}{us:List Value}{o:Obj}{u v:Value}{P prog:PySem.Program}{h h' base:PySem.Heap}{x aq:Str}{e tg:PySem.Expr}{U:List (Addr×Obj)}{s:Shared}{M:PySem.Model}{A:PySem.Around}{E Q:Value->Shared->Prop}{t:Br.Bytes}{pos i3:PySem.Pos}{op:PySem.CmpOp}{ys aj:List (List Int)}{es:Array (Int×Value)}{l ns lc lb:List Int}{env:PySem.Env}{mg:Str->Option Value}{fd:PySem.FuncData}{ps:List Str}{scope:PySem.Scope}{ls:List (List Nat)}
namespace L2
open PySem PySem.Spec PyProof.Rows
def eV(s:Stmt)(j:Nat):Stmt:=match s with
 |.ClassDef _ _ _ body _ _ _ _ _ _ _=>body.getD j (.Pass ⟨0,0,0,0⟩)
 |_=>.Pass ⟨0,0,0,0⟩
def eU(s:Stmt):Arguments:=match s with
 |.FunctionDef _ a _ _ _ _ _ _ _ _=>a
 |_=>{posonlyargs:=[],args:=[],vararg:=none,kwonlyargs:=[],kw_defaults:=[],kwarg:=none,defaults:=[]}
def dZ(s:Stmt):List Stmt:=match s with
 |.FunctionDef _ _ b _ _ _ _ _ _ _=>b
 |_=>[]
def aG(s:Stmt):Scope:=match s with
 |.FunctionDef _ _ _ _ _ _ sc _ _ _=>sc
 |_=>{kind:=.function,names:=[],isGenerator:=false,isCoroutine:=false}
abbrev Ed:List Value:=[.type "Exception",.type "BaseException",.type "object"]
end L2
namespace Br1
open PySem PySem.Spec PyProof.Rows L2
def gQ(i:Nat):Stmt:=PySem.Challenge.pw_brickrooms_s10_plain.main.body.getD i (.Pass ⟨0,0,0,0⟩)
abbrev oO:Stmt:=gQ 3
abbrev sL:Stmt:=gQ 4
abbrev qX:Stmt:=eV (gQ 2) 0
abbrev Yl:Stmt:=eV (gQ 6) 0
abbrev Cr:Stmt:=eV (gQ 6) 1
abbrev Os:Stmt:=eV (gQ 6) 2
abbrev Md:Stmt:=eV (gQ 6) 3
abbrev Eo:Stmt:=eV (gQ 6) 4
abbrev Nm:Stmt:=eV (gQ 6) 5
abbrev Ol:Stmt:=eV (gQ 6) 6
abbrev vS:Stmt:=eV (gQ 6) 7
abbrev Zi:Stmt:=eV (gQ 6) 8
abbrev Co:Stmt:=eV (gQ 19) 0
abbrev rT:Stmt:=gQ 20
abbrev rY:Stmt:=gQ 21
abbrev Ct:Stmt:=gQ 22
abbrev Ew:Stmt:=gQ 23
abbrev rX:Stmt:=gQ 24
abbrev pL:Stmt:=gQ 25
abbrev lY:Stmt:=gQ 26
noncomputable def cV:List Int:=[46,35,115,116,98]
abbrev kX:Stmt:=gQ 27
abbrev lU:Stmt:=gQ 28
abbrev En:Stmt:=gQ 29
abbrev Ex:Stmt:=gQ 30
abbrev wR:Stmt:=gQ 31
abbrev Dt:Stmt:=gQ 32
abbrev Eb:Stmt:=gQ 33
abbrev Nk:Stmt:=gQ 34
abbrev lR:Stmt:=gQ 49
abbrev oM:Stmt:=gQ 50
abbrev wA:Stmt:=gQ 51
abbrev rE:Stmt:=gQ 52
abbrev vQ:Stmt:=eV (gQ 47) 0
abbrev vZ:Stmt:=eV (gQ 68) 0
abbrev jI:Stmt:=gQ 69
abbrev nG:Stmt:=gQ 70
abbrev Df:=Arguments×List Stmt×Scope
noncomputable def Yn(st:Stmt):Df:=(eU st,dZ st,aG st)
noncomputable def fnD(K:Frag)(f:Addr)(x aq:Str):Option Df:=match K.lookup f with
 |some ⟨_,_,.func ⟨nm,q,pa,.stmts b,sc,gl,[],.none,_,_,_,_,cd,_,bl⟩,_⟩=>if (nm==x && (q==aq && (gl==mainGlobals && (bl==builtinsNs && (codeIn K cd aq && keepIn K (.ref f))))))=true then some (pa,b,sc) else none
 |_=>none
noncomputable def dW(K:Frag)(x:Str):Addr:=match nsIn K mainGlobals x with
 |some (some (.ref a))=>a
 |_=>0
inductive Ft
 |no (x:Str)
 |int (x:Str) (n:Int)
 |fn (x:Str) (st:Stmt)
 |cl (x:Str)
 |at (c f:Str)
 |mt (c m q:Str) (st:Stmt)
 |ints (x:Str) (l:List Int)
 |exc (x q:Str) (st:Stmt)
noncomputable def aB2:Value->Option Int
 |.int n _=>some n
 |_=>none
noncomputable def aDx(K:Frag)(C:Addr):Option Addr:=match K.lookup C with
 |some ⟨c,_,.cls ⟨_,_,mro,N,_,hd,_,_,_,_,hdel⟩,sl⟩=>(match sl.toList with
  |[_,_,_,_,some (.builtin b),_]=>if (c==.type "type" && (mro==.ref C::Ed && (hd && (!hdel && (b=="Exception.__new__" && (nsOkIn K N && (nsIn K N "fault"==some none && (nsIn K N "__setattr__"==some none && (nsIn K N "__getattribute__"==some none && (nsIn K N "__getattr__"==some none && keepIn K (.ref C)))))))))))=true then
    (match nsIn K N "__init__" with
    |some (some (.ref f))=>if isFn K (.ref f)=true then some f else none
    |_=>none) else none
  |_=>none)
 |_=>none
noncomputable def Ft.DD(K:Frag):Ft->Bool×Option Df
 |.no x=>(nsIn K mainGlobals x==some none,none)
 |.int x n=>(match nsIn K mainGlobals x with
  |some (some (.int m _))=>m==n
  |_=>false,none)
 |.fn x _=>match nsIn K mainGlobals x with
  |some (some (.ref f))=>(true,fnD K f x x)
  |_=>(false,none)
 |.cl x=>(nsIn K mainGlobals x==some (some (.ref (dW K x))) && (plainGet K (dW K x) Str.empty && (hasDictIn K (dW K x) && (plainOver K (dW K x) && (findIn K (.ref (dW K x)) "__setattr__"==some (some (.builtin "object.__setattr__")) &&
   (makesIn K (dW K x) && keepIn K (.ref (dW K x))))))),none)
 |.at c f=>(findIn K (.ref (dW K c)) f==some none,none)
 |.mt c m q _=>match findIn K (.ref (dW K c)) m with
  |some (some (.ref f))=>(isFn K (.ref f),fnD K f m q)
  |_=>(false,none)
 |.ints x l=>(match nsIn K mainGlobals x with
  |some (some (.ref a))=>(match K.lookup a with
   |some ⟨c,_,.seq its _,_⟩=>c==.type "tuple" && (its.toList.map aB2==l.map some && decide (l.length<=100))
   |_=>false)
  |_=>false,none)
 |.exc x q _=>match aDx K (dW K x) with
  |some f=>(nsIn K mainGlobals x==some (some (.ref (dW K x))),fnD K f "__init__" q)
  |none=>(false,none)
noncomputable def Ft.XX:Ft->Bool×Option Df
 |.fn _ st=>(true,some (Yn st))
 |.mt _ _ _ st=>(true,some (Yn st))
 |.exc _ _ st=>(true,some (Yn st))
 |_=>(true,none)
noncomputable def frH(as:List Addr)(h:Heap):Frag:=as.filterMap λa=>(h.get? a).map λo=>(a,o)
noncomputable def ftC:List Ft:=[.cl "Reader",.at "Reader" "text",.at "Reader" "position",.cl "Part",.at "Part" "name",.at "Part" "width",.at "Part" "depth",.at "Part" "height",.at "Part" "weight",.at "Part" "cells",.cl "Build",.at "Build" "name",.at "Build" "lines",.cl "Given",.at "Given" "refusal",.at "Given" "fault",.at "Given" "parts",.at "Given" "build",.at "Given" "room",.ints "SIGNS" cV,.exc "Stuck" "Stuck.__init__" qX,.fn "is_letter" oO,.no "ord",.fn "is_digit" sL,.mt "Reader" "__init__" "Reader.__init__" Yl,.mt "Reader" "ended" "Reader.ended" Cr,.no "len",.int "NO_BYTE" 256,.mt "Reader" "here" "Reader.here" Os,.mt "Reader" "take" "Reader.take" Md,.mt "Reader" "read_one_of" "Reader.read_one_of" Eo,.mt "Reader" "read_word" "Reader.read_word" Nm,.mt "Reader" "read_name" "Reader.read_name" Ol,.no "tuple",.mt "Reader" "read_number" "Reader.read_number" vS,.mt "Reader" "read_end" "Reader.read_end" Zi,.mt "Part" "__init__" "Part.__init__" Co,.mt "Build" "__init__" "Build.__init__" vQ,.mt "Given" "__init__" "Given.__init__" vZ,.fn "has_stud" rT,.int "STUD" 115,.int "BOTH" 98,.fn "has_tube" rY,.int "TUBE" 116,.fn "above" Ct,.fn "below" Ew,.fn "read_cells" lY,.no "range",.int "NO_CELL" 46,.fn "read_part" pL,.int "LONGEST_PART_NAME" 8,.int "MOST_WIDTH" 16,.int "MOST_DEPTH" 16,.int "MOST_HEIGHT" 18,.int "MOST_WEIGHT" 9999,.fn "read_catalogue" rX,.int "MOST_PARTS" 64,.fn "studs_clear" En,.fn "tubes_clear" Ex,.fn "fills_its_box" wR,.no "enumerate",.fn "neighbours" Eb,.fn "hangs_together" Dt,.no "list",.fn "names_grow" Nk,.fn "part_right" lU,.fn "catalogue_right" kX,.no "all",.fn "some_begins" rE,.no "any",.fn "read_part_number" wA,.fn "read_line" oM,.int "MOST_COLOUR" 255,.int "ROOM_WIDTH" 64,.int "ROOM_DEPTH" 64,.int "ROOM_HEIGHT" 96,.int "MOST_TURNS" 3,.fn "read_build" lR,.int "LONGEST_BUILD_NAME" 16,.int "MOST_LINES" 256,.fn "names_of" nG,.fn "read_given" jI,.int "MOST_CATALOGUE_BYTES" 1048576,.int "MOST_BUILD_BYTES" 16384]
abbrev wB:Stmt:=gQ 36
abbrev Nf:Stmt:=gQ 37
abbrev vV:Stmt:=gQ 35
abbrev wC:Stmt:=gQ 57
abbrev vN:Stmt:=gQ 56
abbrev Od:Stmt:=gQ 58
abbrev Eu:Stmt:=eV (gQ 48) 0
abbrev sD:Stmt:=gQ 59
abbrev rG:Stmt:=gQ 55
abbrev Mt:Stmt:=gQ 54
abbrev lZ:Stmt:=gQ 71
noncomputable def ftR:List Ft:=[.cl "Room",.at "Room" "signs",.at "Room" "owners",.at "Room" "wrong",.mt "Room" "__init__" "Room.__init__" Eu,.fn "turned_once" Nf,.fn "turned_part" wB,.no "range",.fn "turned_sizes" vV,.fn "beyond_room" wC,.int "ROOM_WIDTH" 64,.int "ROOM_DEPTH" 64,.int "ROOM_HEIGHT" 96,.fn "leaves_room" vN,.fn "cells_in_room" Od,.fn "blocked_lines" sD,.fn "wrong_with" rG,.no "len",.no "min",.fn "fill_room" Mt,.no "enumerate",.fn "read_right" lZ]
abbrev oU:Stmt:=gQ 61
abbrev kI:Stmt:=gQ 62
abbrev zE:Stmt:=gQ 38
abbrev sK:Stmt:=gQ 64
abbrev mC:Stmt:=gQ 63
abbrev lG:Stmt:=gQ 5
abbrev jL:Stmt:=gQ 53
abbrev jG:Stmt:=gQ 72
abbrev iP:Stmt:=gQ 73
end Br1
namespace Br1
open PySem PySem.W
def vM(tb:String->Option Builtin)(p:Program)(w:World)(yt:Nat)(yw:Option Value):Nat->SharedT->Thread->Option SharedT
 |0,_,_=>none
 |n+1,s,t=>match through t with
  |true=>some s
  |false=>match stepOk yt yw t with
   |false=>none
   |true=>match stepT (denote tb) p w s t with
    |some (s',t')=>vM tb p w yt yw n s' t'
    |none=>none
theorem uG{tb:String->Option Builtin}{p:Program}{yt:Nat}{yw:Option Value}:∀{n:Nat}{s s':SharedT}{t:Thread},vM tb p w yt yw n s t=some s'->topRun tb p w yt yw n s.abs t=some s'.abs
 |0,_,_,_,h=>by cases h
 |n+1,s,s',t,h=>by
  unfold vM at h
  unfold topRun
  cases he:through t with
  |true=>
   rw[he] at h
   cases h
   rfl
  |false=>
   rw[he] at h
   cases hk:stepOk yt yw t with
   |false=>
    rw[hk] at h
    cases h
   |true=>
    rw[hk] at h
    cases hs:stepT (denote tb) p w s t with
    |none=>
     rw[hs] at h
     cases h
    |some r=>
     obtain⟨gd,V'⟩:=r
     rw[hs] at h
     dsimp only
     rw[stepT_spec hs]
     exact uG h
def Ix:Nat->List Obj->BT->BT
 |_,[],t=>t
 |n,o::r,t=>Ix (n+1) r (t.ins n o)
noncomputable def aFd(P:Params):BT:=Ix 0 (boot_heap P).objs.toList .nil
noncomputable def aBr(P:Params)(os:OsState):SharedT:=⟨aFd P,11,(boot_heap P).life,Array.mk [],boot_drawn,boot_toks,os⟩
theorem Uz(P:Params)(os:OsState):(aBr P os).abs=⟨boot_heap P,Array.mk [],boot_drawn,boot_toks,os⟩:=by kernel_rfl
theorem Pp{p q:Program}{loose:List Str}{Xt:Shared->Bool}{Yf:Shared->α}{Ya:World->α}{N:Nat}{g0:Bool}(e:opening p=plainProg p.main.scope.names)(hN:Nat.ble 600 N=true)(f:∀s,fenceModules? p s=some s)
  (h1:∀w:World,((boot_heap w.params).isNs mainGlobals && (Array.mk ([]:List GenState)).size==0)=true)
  (h:∀(w:World)(os:OsState),(vM treeTable p w (boot_heap w.params).objs.size ((boot_heap w.params).nsMap mainGlobals "__annotations__") N (aBr w.params os) (topStub p)).map (λs=>
   (staticsOk (importedModules p.main.body) (boot_heap w.params) s.abs.heap && namesBound p s.abs.heap && gensDone s.abs && laidKept (boot_heap w.params) s.abs.heap,openSeen q loose (importedModules p.main.body) Xt g0 s.abs,Yf s.abs))=some (true,openGood q loose,Ya w)):LeftO p q loose Xt Yf Ya N g0:=λw=>by
 obtain⟨⟨h0,gs,d,k,os⟩,e0,e'⟩:=rk.mp (boot_open e hN f w)
 obtain⟨rfl,rfl,rfl,rfl⟩:h0=boot_heap w.params/\gs=Array.mk []/\d=boot_drawn/\k=boot_toks:=by simpa using e'
 obtain⟨s',e1,e2⟩:=rk.mp (h w os)
 have e3:=uG e1
 rw[Uz] at e3
 obtain⟨a1,a2⟩:=Prod.mk.inj e2
 unfold openEnds
 rw[e0]
 show (topFrom treeTable p w N _).map _=_
 have e4:topFrom treeTable p w N ⟨boot_heap w.params,Array.mk [],boot_drawn,boot_toks,os⟩=some s'.abs:=by
  unfold topFrom
  rw[show ((⟨boot_heap w.params,Array.mk [],boot_drawn,boot_toks,os⟩:Shared).heap.isNs mainGlobals && (⟨boot_heap w.params,Array.mk [],boot_drawn,boot_toks,os⟩:Shared).gens.size==0)=true from h1 w]
  dsimp only
  rw[e3]
  dsimp only[Option.bind]
  rw[a1]
 rw[e4]
 exact congrArg some a2
end Br1
namespace Br1
open PySem PySem.Spec PyProof.Rows L2
noncomputable def ftZ:List Ft:=ftC++(ftR++([.no "len",.no "min",.no "list",.no "ord",.no "sorted",.no "set",.fn "spelled" lG,.fn "build_text" jL,.fn "with_lines" jG,.fn "moved_lines" oU,.fn "moved_home" kI,.fn "turns_until_alike" zE,.fn "plain_order" sK,.fn "plain_lines" mC,.fn "plain" iP]))
noncomputable def asC:List Addr:=[3,31,30,28,27,41,40,48,47,53,52,126,125,67,66,74,73,81,80,88,87,95,94,102,101,109,108,116,115,123,122,131,148,147,145,144,159,158,166,165,173,172,180,179,187,186,194,193,201,200,206,205,213,212,220,219,227,226,232,231,239,238,246,245,253,252,260,259,267,266,274,273,281,280,298,297,295,294,319,318,316,315,330,329,337,336,344,343,349,348,356,355,363,362,368,367,375,374,382,381,389,388,396,395,401,400,406,405,411,410,418,417,435,434,432,431,446,445,451,450,458,457,465,464,472,471]
noncomputable def Sq:List Str:=[.ofString "NO_BYTE",.ofString "Stuck",.ofString "is_letter",.ofString "is_digit",.ofString "spelled",.ofString "Reader",.ofString "MOST_PARTS",.ofString "LONGEST_PART_NAME",.ofString "MOST_WIDTH",.ofString "MOST_DEPTH",.ofString "MOST_HEIGHT",.ofString "MOST_WEIGHT",.ofString "NO_CELL",.ofString "STUD",.ofString "TUBE",.ofString "BOTH",.ofString "SIGNS",.ofString "Part",.ofString "has_stud",.ofString "has_tube",.ofString "above",.ofString "below",.ofString "read_catalogue",.ofString "read_part",.ofString "read_cells",.ofString "catalogue_right",.ofString "part_right",.ofString "studs_clear",.ofString "tubes_clear",.ofString "fills_its_box",.ofString "hangs_together",.ofString "neighbours",.ofString "names_grow",.ofString "turned_sizes",.ofString "turned_part",.ofString "turned_once",.ofString "turns_until_alike",.ofString "ROOM_WIDTH",.ofString "ROOM_DEPTH",.ofString "ROOM_HEIGHT",.ofString "LONGEST_BUILD_NAME",.ofString "MOST_LINES",.ofString "MOST_COLOUR",.ofString "MOST_TURNS",.ofString "Build",.ofString "Room",.ofString "read_build",.ofString "read_line",.ofString "read_part_number",.ofString "some_begins",.ofString "build_text",.ofString "fill_room",.ofString "wrong_with",.ofString "leaves_room",.ofString "beyond_room",.ofString "cells_in_room",.ofString "blocked_lines",.ofString "moved_lines",.ofString "moved_home",.ofString "plain_lines",.ofString "plain_order",.ofString "MOST_CATALOGUE_BYTES",.ofString "MOST_BUILD_BYTES",.ofString "Given",.ofString "read_given",.ofString "names_of",.ofString "read_right",.ofString "with_lines"]
noncomputable def vwC:Program:=PySem.W.view PySem.Challenge.pw_brickrooms_s10_plain [73]
theorem aFl:PySem.W.LeftO PySem.Challenge.pw_brickrooms_s10_plain vwC Sq (λ_=>true) (λs=>ftZ.map (Ft.DD (frH asC s.heap))) (λ_=>ftZ.map Ft.XX) 6378:=by
 refine Pp ?a ?b ?c ?d ?e
 case a=>kernel_rfl
 case b=>decide
 case c=>intro s;kernel_rfl
 case d=>intro w;kernel_rfl
 case e=>intro w os;kernel_rfl
end Br1
namespace L2
open PySem PySem.Spec PyProof.Rows
abbrev dQ:=Sum Int Str
def uY:dQ->Value->Bool
 |.inl k,v=>Value.isInt k v
 |.inr x,v=>Value.isStrOf x v
def aHa(w:World):dQ->Int
 |.inl k=>hashInt k
 |.inr x=>hashStr w x
theorem dO:∀{k:dQ}{v:Value},uY k v=true->(∃i t,k=Sum.inl i/\v=Value.int i t)\/(∃x t,k=Sum.inr x/\v=Value.str x t)
 |.inl i,v,h=>by
  obtain⟨t,e⟩:=JA (k:=i) (v:=v) h
  exact .inl ⟨i,t,rfl,e⟩
 |.inr x,v,h=>by
  obtain⟨t,e⟩:=Value.isStrOf_shape (x:=x) (v:=v) h
  exact .inr ⟨x,t,rfl,e⟩
theorem Px(i:Int)(t:Tok):uY (.inl i) (.int i t)=true:=by simp[uY,Value.isInt]
theorem Rn(x:Str)(t:Tok):uY (.inr x) (.str x t)=true:=by simp[uY,Value.isStrOf]
theorem aCo(a b:Int):decide ((Sum.inl a:dQ)=Sum.inl b)=(a==b):=by
 by_cases e:a=b
 ·subst e;simp
 ·have h:¬(Sum.inl a:dQ)=Sum.inl b:=λq=>e (Sum.inl.inj q)
  rw[jn h]
  exact(pi.mpr e).symm
theorem aDn(a b:Str):decide ((Sum.inr a:dQ)=Sum.inr b)=decide (a=b):=by
 by_cases e:a=b
 ·subst e;simp
 ·have h:¬(Sum.inr a:dQ)=Sum.inr b:=λq=>e (Sum.inr.inj q)
  rw[jn h,jn e]
theorem aCj(a:Int)(b:Str):decide ((Sum.inl a:dQ)=Sum.inr b)=false:=jn (λq=>nomatch q)
theorem aDd(a:Str)(b:Int):decide ((Sum.inr a:dQ)=Sum.inl b)=false:=jn (λq=>nomatch q)
def dN(prog:Program)(w:World):PySem.KeyKind prog w dQ where
 is:=uY
 hash:=aHa w
 inj:=λv a b ha hb=>by
  rcases dO ha with ⟨i,t,rfl,rfl⟩|⟨x,t,rfl,rfl⟩
  ·rcases dO hb with ⟨j,u,rfl,e⟩|⟨y,u,rfl,e⟩
   ·injection e with e1 _;rw[e1]
   ·exact nomatch e
  ·rcases dO hb with ⟨j,u,rfl,e⟩|⟨y,u,rfl,e⟩
   ·exact nomatch e
   ·injection e with e1 _;rw[e1]
 byValue:=λk v h=>by
  rcases dO h with ⟨i,t,rfl,rfl⟩|⟨x,t,rfl,rfl⟩<;>rfl
 pyHash:=λhv h=>by
  rcases dO hv with ⟨i,t,rfl,rfl⟩|⟨x,t,rfl,rfl⟩
  ·exact wpAny_pyHash_int h
  ·exact wpAny_pyHash_str h
 eqBool:=λhu hv h=>by
  rcases dO hu with ⟨i,t,rfl,rfl⟩|⟨x,t,rfl,rfl⟩
  ·rcases dO hv with ⟨j,u,rfl,rfl⟩|⟨y,u,rfl,rfl⟩
   ·rw[aCo] at h;exact wpAny_eqBool_int h
   ·rw[aCj] at h;exact SeqAt.EqAt.int_str i t y u _ _ _ _ h
  ·rcases dO hv with ⟨j,u,rfl,rfl⟩|⟨y,u,rfl,rfl⟩
   ·rw[aDd] at h;exact SeqAt.EqAt.str_int x t j u _ _ _ _ h
   ·rw[aDn] at h;exact wpAny_eqBool_str h
 «strs»:=λk x t v h=>by
  rcases dO h with ⟨i,u,rfl,e⟩|⟨y,u,rfl,e⟩
  ·exact nomatch e
  ·injection e with e1 _
   subst e1
   cases v<;>rfl
theorem Ih(prog:Program)(w:World)(i:Int)(t:Tok):(dN prog w).is (.inl i) (.int i t)=true:=Px i t
theorem Fu(prog:Program)(w:World)(x:Str)(t:Tok):(dN prog w).is (.inr x) (.str x t)=true:=Rn x t
inductive V where
 |non|bl (b:Bool)|int (i:Int)|str (x:Str)|byt (b:Array UInt8)|flt (b:UInt64)|ref (a:Addr)|ty (n:String)
 deriving DecidableEq
def cB:V->Value->Prop
 |.non,u=>u=Value.none
 |.bl b,u=>u=Value.bool b
 |.int i,u=>∃t,u=Value.int i t
 |.str x,u=>∃t,u=Value.str x t
 |.byt b,u=>∃t,u=Value.bytes b t
 |.flt b,u=>∃t,u=Value.float b t
 |.ref a,u=>u=Value.ref a
 |.ty n,u=>u=Value.type n
abbrev bO:List V->List Value->Prop:=Paired cB
variable{xs:List V}
theorem bO.length(r:bO xs us):xs.length=us.length:=Paired.length r
theorem bO.get:∀{xs:List V}{us:List Value}{i:Nat}{x:V},bO xs us->xs[i]?=some x->∃u,us[i]?=some u/\cB x u
 |_,_,_,_,.nil,e=>by simp at e
 |_,_,0,_,.cons r _,e=>by simp at e;subst e;exact⟨_,rfl,r⟩
 |_,_,i+1,x,.cons _ t,e=>by
  obtain⟨u,h1,h2⟩:=bO.get (i:=i) (x:=x) t (by simpa using e)
  exact⟨u,by simpa using h1,h2⟩
theorem bO.append:∀{xs ys:List V}{us ws:List Value},bO xs us->bO ys ws->bO (xs++ys) (us++ws)
 |_,_,_,_,.nil,s=>s
 |_,_,_,_,.cons r t,s=>.cons r (bO.append t s)
theorem bO.take:∀{xs:List V}{us:List Value}(n:Nat),bO xs us->bO (xs.take n) (us.take n)
 |_,_,0,_=>.nil
 |_,_,_+1,.nil=>.nil
 |_,_,n+1,.cons r t=>.cons r (bO.take n t)
theorem bO.drop:∀{xs:List V}{us:List Value}(n:Nat),bO xs us->bO (xs.drop n) (us.drop n)
 |_,_,0,r=>r
 |_,_,_+1,.nil=>.nil
 |_,_,n+1,.cons _ t=>bO.drop n t
def mI:Option V->Option Value->Prop
 |some v,some u=>cB v u
 |none,none=>True
 |_,_=>False
def KV{κ:Type}:List (κ×V)->List (κ×Value)->Prop:=Paired λ(p:κ×V)(q:κ×Value)=>p.1=q.1/\cB p.2 q.2
def kV:dQ->V
 |.inl i=>.int i
 |.inr x=>.str x
inductive HO where
  |lst (xs:List V)
  |tup (xs:List V)
  |dK (aJ:List (dQ×V))|dT (aJ:List (List dQ×V))
  |set (S:Int->Bool) (n:Nat)
  |ins (C dx:Addr) (fs:List (Str×V))
  |own (x:Addr)
  |xd (fs:List (Str×V))
  |met (f x:Addr)
  |rng (lo hi:Int)
  |frz (o:Obj) (u:HO)
  |tbl (ps:Array Value)
  |ext (φ:Heap->Prop)
abbrev Hp:=Addr->Option HO
def upd(H:Hp)(a:Addr)(o:HO):Hp:=λb=>if b=a then some o else H b
variable{H:Hp}
theorem aB{o:HO}:upd H a o a=some o:=by unfold upd;rw[af rfl]
theorem aC{o:HO}(h:b≠a):upd H a o b=H b:=by unfold upd;rw[ae h]
theorem aBm{o u:HO}(h:H a=some o)(h':H b=some u)(d:o≠u):a≠b:=by
 intro e;subst e;rw[h] at h';exact d (Option.some.inj h')
theorem aD{o:HO}(h:H a=some o)(h':H b=none):a≠b:=by
 intro e;subst e;rw[h] at h';cases h'
section
variable(P:Program) (w:World)
def cJ(H:Hp)(h:Heap)(a:Addr):HO->Prop
 |.lst xs=>xs.length<=sizeLine/\∃(its:List Value)(n:Nat),bO xs its/\h.get? a=some {cls:=.type "list",data:=.seq its.toArray n}
 |.tup xs=>xs.length<=sizeLine/\∃its:List Value,bO xs its/\IsTup h a its.toArray
 |.dK aJ=>aJ.length<=sizeLine/\(a==sysModules)=false/\∃vs,KV aJ vs/\h.DictOf (dN P w) a vs
 |.dT aJ=>aJ.length<=sizeLine/\(a==sysModules)=false/\∃xs:List (List dQ×Addr×Value),
   Paired (λ(p:List dQ×V)(q:List dQ×Addr×Value)=>p.1=q.1/\H q.2.1=some (.tup (p.1.map kV))/\cB p.2 q.2.2) aJ xs/\
   ∃o es ep,h.get? a=some o/\o.ExactDict/\o.data=.dict es ep/\es.toList=xs.map (entryOfKey (tupleKind (dN P w)))/\(xs.map (·.1)).Nodup
 |.set S n=>h.SetOf (intKind P w) a S n
 |.ins C dx fs=>H dx=some (.own a)/\fs.length<=1000/\dx≠a/\h.get? a=some (instObj C dx)/\
   ∃mA,h.Ns1 dx mA/\(∀f,mI (fs.lookup f) (mA f))/\PySem.Within mA (fs.map (·.1))
 |.own _=>∃o,h.get? a=some o
 |.xd fs=>∃mA,h.Ns1 a mA/\∀f,mI (fs.lookup f) (mA f)
 |.rng lo hi=>∃t u v,h.get? a=some {cls:=.type "range",data:=.fields #[.int lo t,.int hi u,.int 1 v]}
 |.frz o u=>h.get? a=some o/\cJ H h a u
 |.tbl ps=>h.get? a=some {cls:=.none,data:=.fields ps}
 |.met f x=>h.get? a=some (methodObj (.ref f) (.ref x))
 |.ext φ=>φ h/\(∃o,h.get? a=some o)/\∀h1 h2:Heap,φ h1->(∀o,h1.get? a=some o->h2.get? a=some o)->φ h2
def lK(H:Hp)(h:Heap):Prop:=∀a o,H a=some o->cJ P w H h a o
end
section
variable{o:HO}{H':Hp}
theorem cJ.lt(x:cJ P w H h a o):a<h.objs.size:=by
 cases o with
 |lst xs=>obtain⟨_,_,_,_,e⟩:=x;exact bg e
 |tup xs=>obtain⟨_,_,_,p⟩:=x;exact p.lt
 |dK aJ=>obtain⟨_,_,_,_,o,_,_,e,_⟩:=x;exact bg e
 |dT aJ=>obtain⟨_,_,_,_,o,_,_,e,_⟩:=x;exact bg e
 |set S n=>obtain⟨o,_,_,_,e,_⟩:=x;exact bg e
 |ins C dx fs=>obtain⟨_,_,_,e,_⟩:=x;exact bg e
 |own y=>obtain⟨_,e⟩:=x;exact bg e
 |xd fs=>obtain⟨_,⟨_,_,_,e,_⟩,_⟩:=x;exact bg e
 |rng lo hi=>obtain⟨_,_,_,e⟩:=x;exact bg e
 |frz ob u=>obtain⟨e,_⟩:=x;exact bg e
 |tbl ps=>exact bg (show h.get? a=some _ from x)
 |met f y=>exact bg (show h.get? a=some _ from x)
 |ext φ=>obtain⟨_,⟨_,e⟩,_⟩:=x;exact bg e
theorem Paired.mapP{F G:α->β->Prop}:∀{wf:List α}{wg:List β},Paired F wf wg->(∀a b,F a b->G a b)->Paired G wf wg
 |_,_,.nil,_=>.nil
 |_,_,.cons r t,f=>.cons (f _ _ r) (Paired.mapP t f)
theorem cJ.stay(x:cJ P w H h a o)(k:∀b u,(b=a\/H b=some (.own a))->h.get? b=some u->h'.get? b=some u)
  (ho:∀b,H b=some (.own a)->H' b=some (.own a)) (ht:∀b xs,H b=some (.tup xs)->H' b=some (.tup xs)):cJ P w H' h' a o:=by
 induction o with
 |lst xs=>obtain⟨z,its,n,r,e⟩:=x;exact⟨z,its,n,r,k _ _ (.inl rfl) e⟩
 |tup xs=>obtain⟨z,its,r,ob,e,c⟩:=x;exact⟨z,its,r,ob,k _ _ (.inl rfl) e,c⟩
 |dK aJ=>obtain⟨z,y,vs,r,ob,es,ep,e,c⟩:=x;exact⟨z,y,vs,r,ob,es,ep,k _ _ (.inl rfl) e,c⟩
 |dT aJ=>
  obtain⟨z,y,xs,r,ob,es,ep,e,c⟩:=x
  exact⟨z,y,xs,Paired.mapP r λp q z=>⟨z.1,ht _ _ z.2.1,z.2.2⟩,ob,es,ep,k _ _ (.inl rfl) e,c⟩
 |set S n=>obtain⟨ob,es,ep,t,e,c⟩:=x;exact⟨ob,es,ep,t,k _ _ (.inl rfl) e,c⟩
 |ins C dx fs=>
  obtain⟨d,z,ne,e,mA,⟨od,es,ep,e2,c⟩,r⟩:=x
  exact⟨ho _ d,z,ne,k _ _ (.inl rfl) e,mA,⟨od,es,ep,k _ _ (.inr d) e2,c⟩,r⟩
 |own y=>obtain⟨ob,e⟩:=x;exact⟨ob,k _ _ (.inl rfl) e⟩
 |xd fs=>obtain⟨mA,⟨od,es,ep,e,c⟩,r⟩:=x;exact⟨mA,⟨od,es,ep,k _ _ (.inl rfl) e,c⟩,r⟩
 |rng lo hi=>obtain⟨t,u,v,e⟩:=x;exact⟨t,u,v,k _ _ (.inl rfl) e⟩
 |frz ob u ih=>obtain⟨e,q⟩:=x;exact⟨k _ _ (.inl rfl) e,ih q⟩
 |tbl ps=>
  have e:h.get? a=some {cls:=.none,data:=.fields ps}:=x
  show h'.get? a=some {cls:=.none,data:=.fields ps}
  exact k a _ (.inl rfl) e
 |met f y=>
  have e:h.get? a=some (methodObj (.ref f) (.ref y)):=x
  show h'.get? a=some (methodObj (.ref f) (.ref y))
  exact k a _ (.inl rfl) e
 |ext φ=>obtain⟨p,⟨o,e⟩,st⟩:=x;exact⟨st _ _ p λo q=>k _ _ (.inl rfl) q,⟨o,k _ _ (.inl rfl) e⟩,st⟩
theorem lK.lt(x:lK P w H h)(e:H a=some o):a<h.objs.size:=(x a o e).lt
theorem lK.fresh(x:lK P w H h)(e:h.objs.size<=a):H a=none:=by
 cases q:H a with
 |none=>rfl
 |some u=>exact absurd (iy (x.lt q) e) (j5 _)
theorem lK.kept(x:lK P w H h)(k:∀b u,h.get? b=some u->h'.get? b=some u):lK P w H h':=λa o e=>
 (x a o e).stay (λb u _ q=>k b u q) (λ_ q=>q) λ_ _ q=>q
theorem lK.laid(x:lK P w H h)(k:∀b u,h.get? b=some u->h'.get? b=some u)(hp:h.objs.size<=a)(new:cJ P w (upd H a o) h' a o):lK P w (upd H a o) h':=λb u e=>by
 have hn:=x.fresh hp
 by_cases hb:b=a
 ·subst hb;rw[aB] at e;cases e;exact new
 ·rw[aC hb] at e
  exact(x b u e).stay (λc v _ q=>k c v q) (λc q=>by rw[aC (aD q hn)];exact q) λc xs q=>by rw[aC (aD q hn)];exact q
end
def Rd(H:Hp)(a:Addr)(u:HO):Prop:=H a=some u\/∃o,H a=some (.frz o u)
theorem Rd.ok{u:HO}(r:Rd H a u)(x:lK P w H h):cJ P w H h a u:=by
 rcases r with r|⟨o,r⟩
 ·exact x a u r
 ·obtain⟨_,q⟩:=x a _ r
  exact q
def Mut:Option HO->Prop
 |some (.lst _)=>True
 |some (.dK _)=>True
 |some (.dT _)=>True
 |some (.set _ _)=>True
 |some (.ins _ _ _)=>True
 |some (.ext _)=>True
 |_=>False
section
variable{x e:Addr}{o':HO}
theorem lK.write(ok:lK P w H h)(mu:Mut (H x))(he:e=x\/H e=some (.own x))(k:∀b u,b≠e->h.get? b=some u->h'.get? b=some u)(yx:∃u,h'.get? e=some u)
  (new:cJ P w (upd H x o') h' x o'):lK P w (upd H x o') h':=λb u q=>by
 have J':∀c y,H c=some (.own y)->c≠x:=λc y r z=>by subst z;rw[r] at mu;exact mu
 have PU:∀c xs,H c=some (.tup xs)->c≠x:=λc xs r z=>by subst z;rw[r] at mu;exact mu
 by_cases hb:b=x
 ·subst hb;rw[aB] at q;cases q;exact new
 ·rw[aC hb] at q
  by_cases li:b=e
  ·have q':H b=some (.own x):=by
    rcases he with z|z
    ·exact absurd (li.trans z) hb
    ·rw[li];exact z
   rw[q] at q';cases q'
   obtain⟨v,hv⟩:=yx
   exact⟨v,by rw[li];exact hv⟩
  ·refine(ok b u q).stay (λc v hc r=>k c v ?_ r) (λc r=>by rw[aC (J' c b r)];exact r) λc xs r=>by rw[aC (PU c xs r)];exact r
   rcases hc with rfl|hc
   ·exact li
   ·rintro rfl
    rcases he with z|z
    ·exact J' c b hc z
    ·rw[hc] at z;cases z;exact hb rfl
end
structure Un(fs ex:List Addr)(H H':Hp)(h h':Heap):Prop where
 keep:∀b o,h.get? b=some o->H b=none->b∉fs->b∉ex->h'.get? b=some o
 slot:∀b o,h.get? b=some o->H b=none->b∈fs->b∉ex->∃sl,h'.get? b=some {o with slots:=sl}
 free:∀b o,h.get? b=some o->H b=none->b∉ex->H' b=none
 there:∀b o,h.get? b=some o->b∉ex->∃o',h'.get? b=some o'
 tups:∀b xs,H b=some (.tup xs)->H' b=some (.tup xs)
 frzs:∀b o u,H b=some (.frz o u)->H' b=some (.frz o u)
 tbls:∀b ps,H b=some (.tbl ps)->∃more,H' b=some (.tbl (ps++more))
section
variable{fs yy ex KA:List Addr}{H2:Hp}{h1 h2:Heap}{x e:Addr}{o:HO}{H1:Hp}
theorem Un.any(u:Un fs ex H H1 h h1){ob:Obj}(q:h.get? b=some ob)(n:H b=none)(hx:b∉ex):∃sl,h1.get? b=some {ob with slots:=sl}:=by
 by_cases hb:b∈fs
 ·exact u.slot b ob q n hb hx
 ·exact⟨ob.slots,u.keep b ob q n hb hx⟩
theorem Un.kept(k:∀b u,h.get? b=some u->h'.get? b=some u):Un fs ex H H h h':=
 ⟨λb ob q _ _ _=>k b ob q,λb ob q _ _ _=>⟨ob.slots,k b ob q⟩,λ_ _ _ n _=>n,λb ob q _=>⟨ob,k b ob q⟩,λ_ _ q=>q,λ_ _ _ q=>q,λ_ ps q=>⟨#[],by rw[q];simp⟩⟩
theorem Un.refl:Un fs ex H H h h:=Un.kept λ_ _ q=>q
theorem Un.laid(k:∀b u,h.get? b=some u->h'.get? b=some u)(hp:h.objs.size<=a)(hn:H a=none):Un fs ex H (upd H a o) h h' where
 keep:=λb u q _ _ _=>k b u q
 slot:=λb u q _ _ _=>⟨u.slots,k b u q⟩
 free:=λb u q n _=>by rw[aC (b9 (iy (bg q) hp))];exact n
 there:=λb u q _=>⟨u,k b u q⟩
 tups:=λb xs q=>by rw[aC (aD q hn)];exact q
 frzs:=λb u xs q=>by rw[aC (aD q hn)];exact q
 tbls:=λb ps q=>⟨#[],by rw[aC (aD q hn),q];simp⟩
theorem Un.write(mu:Mut (H x))(he:e=x\/H e=some (.own x))(k:∀b u,b≠e->h.get? b=some u->h'.get? b=some u)(yx:∃u,h'.get? e=some u):Un fs ex H (upd H x o) h h':=by
 have hx:∀b,H b=none->b≠x:=λb n z=>by subst z;rw[n] at mu;exact mu
 have hb:∀b,H b=none->b≠e:=λb n z=>by
  subst z
  rcases he with r|r
  ·exact hx b n r
  ·rw[n] at r;cases r
 have hm:∀b u,H b=some u->¬Mut (some u)->b≠x:=λb u q nm z=>by subst z;rw[q] at mu;exact nm mu
 refine⟨λb u q n _ _=>k b u (hb b n) q,λb u q n _ _=>⟨u.slots,k b u (hb b n) q⟩,λb u q n _=>by rw[aC (hx b n)];exact n,λb u q _=>?_,
  λb xs q=>by rw[aC (hm b _ q λz=>z)];exact q,λb u xs q=>by rw[aC (hm b _ q λz=>z)];exact q,λb ps q=>⟨#[],by rw[aC (hm b _ q λz=>z),q];simp⟩⟩
 by_cases li:b=e
 ·subst li;exact yx
 ·exact⟨u,k b u li q⟩
end
def trk(h:Heap)(H:Hp):List Addr:=(List.range h.objs.size).filter λa=>(H a).isSome
def Ei(h:Heap)(H:Hp):Heap:=PySem.W.hideAll h (trk h H)
theorem Qx(h:Heap)(H:Hp):(Ei h H).objs.size=h.objs.size:=PySem.W.hideAll_size _ _
theorem Tp(e:h.get? b=some o)(n:H b=none):(Ei h H).get? b=some o:=
 PySem.W.hideAll_get _ e λhm=>by
  have q:(H b).isSome=true:=(jo.mp hm).2
  rw[n] at q;simp at q
theorem aBa(e:(Ei h H).get? b=some o):h.get? b=some o/\H b=none:=by
 have e':h.get? b=some o:=PySem.W.of_hideAll (trk h H) e
 refine⟨e',?_⟩
 cases q:H b with
 |none=>rfl
 |some x=>
  have hm:b∈trk h H:=jo.mpr ⟨EH.mpr (bg e'),by simp[q]⟩
  have z:(Ei h H).get? b=none:=PySem.W.hideAll_none (trk h H) hm
  rw[z] at e;cases e
structure Mod(K:Frag)(mg:Str->Option Value)(base:Heap):Prop where
 kin:K.In base
 glob:base.Ns mainGlobals mg
 blt:∃mb,base.Ns builtinsNs mb/\∀x:Str,x≠"__name__"->mb x=bootBuiltins x
 nolimit:base.NoLimit
structure Cx where
 prog:Program
 w:World
 K:Frag
 mg:Str->Option Value
 base:Heap
 A:Around
 N:List Str
 s_0:Shared
 H_0:Hp
 env:Env
 outer:List Env
 stack:List Env
 ex:List Addr
 fn:Str->Bool
 calm:Bool
 pn:List (Addr×Obj)
 xe:Value->Shared->Prop
def Aj(l:List Env):List Addr:=l.filterMap (·.frame)
abbrev Cx.fs(X:Cx):List Addr:=Aj X.outer
def Vis(sc:Scope)(x:Str):Prop:=sc.names.lookup x=some .local\/sc.names.lookup x=some .cell\/sc.names.lookup x=some .free
def Loc(sc:Scope)(x:Str):Prop:=sc.names.lookup x=some .local\/sc.names.lookup x=some .cell
def aGm(env:Env)(h:Heap)(m:Str->Option Value)(x:Str)(u:Value):Prop:=
 (env.kindOf x=some .local/\m x=some u)\/((env.kindOf x=some .cell\/env.kindOf x=some .free)/\∃c,env.cells.lookup x=some c/\h.IsCell c (some u))
structure Cx.Ok(X:Cx):Prop where
 mod:Mod X.K X.mg X.base
 kind:X.env.scope.kind=.function
 glob:X.env.globals=mainGlobals
 blt:X.env.builtins=builtinsNs
 above:X.s_0.heap.objs.size<=X.env.locals
 inj:∀x y c,X.env.cells.lookup x=some c->X.env.cells.lookup y=some c->x=y
 has:∀x,(X.env.kindOf x=some .cell\/X.env.kindOf x=some .free)->∃c,X.env.cells.lookup x=some c
 cab:∀x c,X.fn x=true->X.env.cells.lookup x=some c->X.s_0.heap.objs.size<=c
 hd:X.calm=true->X.A.handled=none
 frames:X.A.frames=some X.stack
 stk:X.stack=X.outer\/(X.stack=X.env::X.outer/\X.env.frame=some X.env.locals)
 exf:∀b∈X.ex,b≠X.env.locals/\∀x c,X.env.cells.lookup x=some c->c≠b
 bs:∀b o,X.base.get? b=some o->X.s_0.heap.get? b=some o/\X.H_0 b=none
 bsz:X.base.objs.size<=X.s_0.heap.objs.size
 noex:∀b o,X.base.get? b=some o->b∉X.ex
 exfs:∀b∈X.ex,b∉X.fs
 funs:X.s_0.heap.FunFrames X.base X.outer
 frf:∀b∈X.fs,X.H_0 b=none
structure aQ(X:Cx)(U:List (Addr×Obj))(σ:List (Option V))(H:Hp)(s:Shared):Prop where
 ok:X.Ok
 os:s.os=X.s_0.os
 bare:AllBare s.gens
 base:Un X.fs X.ex X.H_0 H X.s_0.heap s.heap
 loc:∃m,s.heap.Ns X.env.locals m/\∀(i:Nat)(x:Str)(v:V),X.N[i]?=some x->σ[i]?=some (some v)->Vis X.env.scope x->∃u,cB v u/\aGm X.env s.heap m x u
 cell:∀x c,X.env.cells.lookup x=some c->∃v,s.heap.IsCell c v
 free:H X.env.locals=none
 freeC:∀x c,X.env.cells.lookup x=some c->H c=none
 pin:∀p∈X.pn++U,s.heap.get? p.1=some p.2/\H p.1=none/\p.1≠X.env.locals/\p.1∉X.fs/\∀v,p.2.data≠.cell v
 hok:lK X.prog X.w H s.heap
 len:σ.length=X.N.length
section
variable{σ:List (Option V)}{X:Cx}{H':Hp}
theorem Cx.Ok.nofr(ok:X.Ok)(e:X.base.get? b=some o):b∉X.fs:=λhb=>by
 have:=(ok.funs.mem hb).1
 rw[e] at this;cases this
theorem aQ.bs(I:aQ X U σ H s):∀b o,X.base.get? b=some o->s.heap.get? b=some o/\H b=none:=λb o e=>
 ⟨I.base.keep b o (I.ok.bs b o e).1 (I.ok.bs b o e).2 (I.ok.nofr e) (I.ok.noex b o e),I.base.free b o (I.ok.bs b o e).1 (I.ok.bs b o e).2 (I.ok.noex b o e)⟩
theorem aQ.bk(I:aQ X U σ H s):∀b o,X.base.get? b=some o->s.heap.get? b=some o:=λb o e=>(I.bs b o e).1
theorem aQ.mod(I:aQ X U σ H s):Mod X.K X.mg X.base:=I.ok.mod
theorem aQ.kIn(I:aQ X U σ H s):X.K.In s.heap:=I.ok.mod.kin.keeps I.bk
theorem aQ.lt(I:aQ X U σ H s):X.env.locals<s.heap.objs.size:=let ⟨_,hn,_⟩:=I.loc;hn.lt
theorem aQ.sz(I:aQ X U σ H s):X.s_0.heap.objs.size<=s.heap.objs.size:=gu I.ok.above (B3 I.lt)
theorem aQ.nofs(I:aQ X U σ H s)(h:s.heap.objs.size<=a):a∉X.fs:=λhb=>by
 obtain⟨_,o,ho,_⟩:=I.ok.funs.mem hb
 exact absurd (iy (bg ho) (gu I.sz h)) (j5 _)
theorem aQ.cne(I:aQ X U σ H s):∀x c,X.env.cells.lookup x=some c->c≠X.env.locals:=λx c e z=>by
 obtain⟨v,o,ho,hd⟩:=I.cell x c e
 obtain⟨m,⟨o',es,ep,lj,FN,_⟩,_⟩:=I.loc
 rw[z,lj] at ho;cases ho;rw[FN] at hd;cases hd
theorem aQ.funs(I:aQ X U σ H s):s.heap.FunFrames X.base X.outer:=by
 have all:∀(l:List Env),(∀b∈Aj l,b∈X.fs)->X.s_0.heap.FunFrames X.base l->s.heap.FunFrames X.base l:=by
  intro l
  induction l with
  |nil=>intro _ _;trivial
  |cons env r ih=>
   intro hs hl
   obtain⟨hk,⟨L,o,hf,hn,ho,hd⟩,hr⟩:=hl
   have hL:L∈X.fs:=hs L (by unfold Aj;rw[AA,hf];exact bf)
   obtain⟨sl,e⟩:=I.base.slot L o ho (I.ok.frf L hL) hL λz=>I.ok.exfs L z hL
   exact⟨hk,⟨L,_,hf,hn,e,hd⟩,ih (λb hb=>hs b (by unfold Aj;rw[AA,hf];exact a7 _ hb)) hr⟩
 exact all X.outer (λ_ hb=>hb) I.ok.funs
theorem aQ.stack(I:aQ X U σ H s):s.heap.FunFrames X.base X.stack:=by
 rcases I.ok.stk with e|⟨e,hf⟩
 ·rw[e];exact I.funs
 ·rw[e]
  obtain⟨m,hn,_⟩:=I.loc
  refine .cons (by rw[I.ok.kind];decide) hf hn ?_ I.funs
  exact Heap.get?_none_of_le (gu I.ok.bsz I.ok.above)
theorem aQ.stkSub(I:aQ X U σ H s):∀b∈Aj X.stack,b∈X.env.locals::X.fs:=λb hb=>by
 rcases I.ok.stk with e|⟨e,hf⟩
 ·rw[e] at hb;exact a7 _ hb
 ·rw[e] at hb
  unfold Aj at hb
  rw[AA,hf] at hb
  exact hb
theorem aQ.stkFree(I:aQ X U σ H s):∀b∈Aj X.stack,H b=none:=λb hb=>by
 rcases ao.mp (I.stkSub b hb) with e|hb
 ·rw[e];exact I.free
 ·obtain⟨_,o,ho,_⟩:=I.ok.funs.mem hb
  exact I.base.free b o ho (I.ok.frf b hb) λz=>I.ok.exfs b z hb
theorem aQ.step{g':Array GenState}{t':Nat}{d':Drawn}{ch:List Addr}(I:aQ X U σ H s)
  (ja:∀b∈ch,(b∈X.ex\/X.s_0.heap.objs.size<=b)/\b≠X.env.locals/\(∀x c,X.env.cells.lookup x=some c->c≠b)/\∀p∈X.pn++U,p.1≠b)
  (keep:∀b o,b≠X.env.locals->b∉X.fs->b∉ch->s.heap.get? b=some o->H b=none->h'.get? b=some o)
  (slot:∀b o,b≠X.env.locals->b∈X.fs->b∉ch->s.heap.get? b=some o->H b=none->∃sl,h'.get? b=some {o with slots:=sl}) (free:∀b o,b∉ch->s.heap.get? b=some o->H b=none->H' b=none)
  (there:∀b o,b∉ch->s.heap.get? b=some o->∃o',h'.get? b=some o')
  (tups:∀b xs,H b=some (.tup xs)->H' b=some (.tup xs)) (frzs:∀b o u,H b=some (.frz o u)->H' b=some (.frz o u)) (tbls:∀b ps,H b=some (.tbl ps)->∃more,H' b=some (.tbl (ps++more)))
  (ns:∀m,s.heap.Ns X.env.locals m->h'.Ns X.env.locals m) (hok:lK X.prog X.w H' h') (hg:AllBare g'):
  aQ X U σ H' {s with heap:=h',gens:=g',drawn:=d',toks:=t'}:=by
 have AU:∀b o,X.s_0.heap.get? b=some o->b≠X.env.locals:=λb o e=>b9 (iy (bg e) I.ok.above)
 have ro:∀b o,X.s_0.heap.get? b=some o->b∉X.ex->b∉ch:=λb o e hx hb=>by
  rcases(ja b hb).1 with z|z
  ·exact hx z
  ·exact absurd (iy (bg e) z) (j5 _)
 have cellK:∀x c,X.env.cells.lookup x=some c->∀v,s.heap.IsCell c v->h'.IsCell c v:=λx c e v ⟨o,ho,hd⟩=>by
  have o4:c∉ch:=λz=>(ja c z).2.2.1 x c e rfl
  by_cases hc:c∈X.fs
  ·obtain⟨sl,q⟩:=slot c o (I.cne x c e) hc o4 ho (I.freeC x c e)
   exact⟨_,q,hd⟩
  ·exact⟨o,keep c o (I.cne x c e) hc o4 ho (I.freeC x c e),hd⟩
 refine⟨I.ok,I.os,hg,⟨λb o e n hb hx=>?_,λb o e n hb hx=>?_,λb o e n hx=>?_,λb o e hx=>?_,λb xs e=>tups b xs (I.base.tups b xs e),λb o xs e=>frzs b o xs (I.base.frzs b o xs e),λb ps e=>?_⟩,?_,λx c e=>?_,?_,λx c e=>?_,λp hp=>?_,hok,I.len⟩
 ·exact keep b o (AU b o e) hb (ro b o e hx) (I.base.keep b o e n hb hx) (I.base.free b o e n hx)
 ·obtain⟨sl,e1⟩:=I.base.slot b o e n hb hx
  obtain⟨FO,e2⟩:=slot b _ (AU b o e) hb (ro b o e hx) e1 (I.base.free b o e n hx)
  exact⟨FO,e2⟩
 ·obtain⟨o',e1⟩:=I.base.there b o e hx
  exact free b o' (ro b o e hx) e1 (I.base.free b o e n hx)
 ·obtain⟨o',e1⟩:=I.base.there b o e hx
  exact there b o' (ro b o e hx) e1
 ·obtain⟨m1,e1⟩:=I.base.tbls b ps e
  obtain⟨m2,e2⟩:=tbls b _ e1
  exact⟨m1++m2,by rw[e2,NT]⟩
 ·obtain⟨m,hn,hl⟩:=I.loc
  refine⟨m,ns m hn,λi x v e1 e2 e3=>?_⟩
  obtain⟨u,r,l⟩:=hl i x v e1 e2 e3
  refine⟨u,r,?_⟩
  rcases l with l|⟨k,c,e,z⟩
  ·exact .inl l
  ·exact .inr ⟨k,c,e,cellK x c e _ z⟩
 ·obtain⟨v,z⟩:=I.cell x c e
  exact⟨v,cellK x c e v z⟩
 ·obtain⟨m,⟨o,_,_,ho,_⟩,_⟩:=I.loc
  exact free _ o (λz=>(ja _ z).2.1 rfl) ho I.free
 ·obtain⟨v,o,ho,hd⟩:=I.cell x c e
  exact free c o (λz=>(ja c z).2.2.1 x c e rfl) ho (I.freeC x c e)
 ·obtain⟨e,n,ne,nf,d⟩:=I.pin p hp
  have o4:p.1∉ch:=λz=>(ja p.1 z).2.2.2 p hp rfl
  exact⟨keep p.1 p.2 ne nf o4 e n,free p.1 p.2 o4 e n,ne,nf,d⟩
theorem aQ.un(I:aQ X U σ H s)(u:Un X.fs [] H H' s.heap h')(hok:lK X.prog X.w H' h'):aQ X U σ H' {s with heap:=h',toks:=t'}:=by
 obtain⟨m,⟨o,es,ep,ho,r⟩,_⟩:=id I.loc
 obtain⟨sl,hL⟩:=u.any ho I.free (by simp)
 exact I.step (g':=s.gens) (d':=s.drawn) (ch:=[]) (λ_ z=>nomatch z) (λb o _ hb _ e n=>u.keep b o e n hb (by simp)) (λb o _ hb _ e n=>u.slot b o e n hb (by simp)) (λb o _ e n=>u.free b o e n (by simp)) (λb o _ e=>u.there b o e (by simp)) u.tups u.frzs u.tbls (λm' hm=>by
  obtain⟨o',ge,md,lj,r'⟩:=hm
  rw[ho] at lj;cases lj
  exact⟨_,ge,md,hL,r'⟩) hok I.bare
theorem aQ.call{g':Array GenState}{d':Drawn}{ch:List Addr}(I:aQ X U σ H s)(u:Un (Aj X.stack) ch H H' s.heap h')(hok:lK X.prog X.w H' h')(hg:AllBare g')
  (ja:∀b∈ch,(b∈X.ex\/X.s_0.heap.objs.size<=b)/\b≠X.env.locals/\(∀x c,X.env.cells.lookup x=some c->c≠b)/\∀p∈X.pn++U,p.1≠b):
  aQ X U σ H' {s with heap:=h',gens:=g',drawn:=d',toks:=t'}:=by
 obtain⟨m,⟨o,es,ep,ho,r⟩,_⟩:=id I.loc
 obtain⟨sl,hL⟩:=u.any ho I.free λz=>(ja _ z).2.1 rfl
 exact I.step (ch:=ch) ja (λb o hL hb hc e n=>u.keep b o e n (λz=>(ao.mp (I.stkSub b z)).elim hL hb) hc) (λb o _ _ hc e n=>u.any e n hc) (λb o hc e n=>u.free b o e n hc) (λb o hc e=>u.there b o e hc) u.tups u.frzs u.tbls (λm' hm=>by
  obtain⟨o',ge,md,lj,r'⟩:=hm
  rw[ho] at lj;cases lj
  exact⟨_,ge,md,hL,r'⟩) hok hg
theorem aQ.turned(I:aQ X U σ H s)(k:∀b o,b≠it->s.heap.get? b=some o->h'.get? b=some o)(hn:H it=none)(hL:it≠X.env.locals)
  (h1:it∈X.ex\/X.s_0.heap.objs.size<=it) (h2:∀x c,X.env.cells.lookup x=some c->c≠it) (h3:∀p∈X.pn++U,p.1≠it):aQ X U σ H {s with heap:=h',toks:=t'}:=by
 have ui:∀b u,H b=some u->b≠it:=λb u e z=>by rw[z,hn] at e;cases e
 refine I.step (g':=s.gens) (d':=s.drawn) (ch:=[it]) (λb hb=>?_) (λb o _ _ hc e _=>k b o (λz=>hc (by simp[z])) e) (λb o _ _ hc e _=>⟨o.slots,k b o (λz=>hc (by simp[z])) e⟩) (λ_ _ _ _ n=>n)
  (λb o hc e=>⟨o,k b o (λz=>hc (by simp[z])) e⟩) (λ_ _ e=>e) (λ_ _ _ e=>e) (λb ps e=>⟨#[],by rw[e];simp⟩) (λm hm=>?_) (λb u e=>?_) I.bare
 ·have e:b=it:=by simpa using hb
  subst e
  exact⟨h1,hL,h2,h3⟩
 ·obtain⟨o,es,ep,ho,r⟩:=hm
  exact⟨o,es,ep,k _ o (ax hL) ho,r⟩
 ·refine(I.hok b u e).stay (λc v hc q=>k c v ?_ q) (λ_ q=>q) λ_ _ q=>q
  rcases hc with z|z
  ·rw[z];exact ui b u e
  ·exact ui c _ z
theorem aQ.tok(I:aQ X U σ H s)(t:Nat):aQ X U σ H {s with toks:=t}:=I.un (h':=s.heap) (t':=t) Un.refl I.hok
theorem aQ.kept(I:aQ X U σ H s)(k:∀b u,s.heap.get? b=some u->h'.get? b=some u):aQ X U σ H {s with heap:=h',toks:=t'}:=I.un (Un.kept k) (I.hok.kept k)
theorem aQ.laid{o:HO}(I:aQ X U σ H s)(k:∀b u,s.heap.get? b=some u->h'.get? b=some u)(hp:s.heap.objs.size<=a)(new:cJ X.prog X.w (upd H a o) h' a o):
  aQ X U σ (upd H a o) {s with heap:=h',toks:=t'}:=I.un (Un.laid k hp (I.hok.fresh hp)) (I.hok.laid k hp new)
theorem aQ.write{x e:Addr}{o:HO}(I:aQ X U σ H s)(mu:Mut (H x))(he:e=x\/H e=some (.own x))(k:∀b u,b≠e->s.heap.get? b=some u->h'.get? b=some u)(yx:∃u,h'.get? e=some u)
  (new:cJ X.prog X.w (upd H x o) h' x o):aQ X U σ (upd H x o) {s with heap:=h',toks:=t'}:=I.un (Un.write mu he k yx) (I.hok.write mu he k yx new)
theorem aQ.weak{ah:List (Option V)}(I:aQ X U σ H s)(hl:ah.length=σ.length)(w:∀(i:Nat) v,ah[i]?=some (some v)->σ[i]?=some (some v)):aQ X U ah H s:=
 ⟨I.ok,I.os,I.bare,I.base,let ⟨m,hn,qg⟩:=I.loc;⟨m,hn,λi x v e1 e2 e3=>qg i x v e1 (w i v e2) e3⟩,I.cell,I.free,I.freeC,I.pin,I.hok,hl.trans I.len⟩
theorem aQ.pins_of{wj:List (Addr×Obj)}(I:aQ X U σ H s)(h:∀p∈wj,s.heap.get? p.1=some p.2/\H p.1=none/\p.1≠X.env.locals/\p.1∉X.fs/\∀v,p.2.data≠.cell v):aQ X wj σ H s:=
 ⟨I.ok,I.os,I.bare,I.base,I.loc,I.cell,I.free,I.freeC,λp hp=>(jp.mp hp).elim (λz=>I.pin p (lx _ z)) (h p),I.hok,I.len⟩
theorem xH{N:List Str}(hN:N.Nodup)(a:N[i]?=some x)(b:N[j]?=some x):i=j:=by
 obtain⟨h1,e1⟩:=bq.mp a
 obtain⟨h2,e2⟩:=bq.mp b
 exact(List.getElem_inj hN).mp (e1.trans e2.symm)
theorem As{v:V}{Q:Unit->Shared->Prop}(I:aQ X U σ H s)(hN:X.N.Nodup)(hi:X.N[i]?=some x)(hx:Loc X.env.scope x)(r:cB v u)
  (h:∀s',aQ X U (σ.set i (some v)) H s'->(∃a,Heap.SameBut a s.heap s'.heap/\(a=X.env.locals\/X.env.cells.lookup x=some a))->Q () s') (hf:X.fn x=true\/X.env.scope.names.lookup x=some .local:=by first|exact .inl rfl|exact .inr rfl|assumption):wpAny M A (storeName X.env x u) Q E s:=by
 obtain⟨m,hn,hl⟩:=id I.loc
 have PV:(X.env.scope.kind==.class||(X.env.scope.kind==.module && X.env.locals !=X.env.globals))=false:=by rw[I.ok.kind];rfl
 have KB:i<σ.length:=by rw[I.len];exact(bq.mp hi).1
 have cne:=I.cne
 have tracked:∀{a:Addr}{h':Heap},(∃o,s.heap.get? a=some o/\H a=none)->Heap.SameBut a s.heap h'->lK X.prog X.w H h':=λ{a h'} ha hs b ob e=>by
  obtain⟨_,_,yz⟩:=ha
  refine(I.hok b ob e).stay (λc w' hc q=>(hs.2 c ?_).trans q) (λ_ q=>q) λ_ _ q=>q
  rintro rfl
  rcases hc with rfl|hc
  ·rw[yz] at e;cases e
  ·rw[yz] at hc;cases hc
 rcases hx with hk|hk
 ·refine wpAny_storeName_local hk hn (λh' y4 hs=>?_) PV
  obtain⟨oL,_,_,wk,_⟩:=id hn
  refine h _ ⟨I.ok,I.os,I.bare,⟨λb o e n hb hx=>?_,λb o e n hb hx=>?_,I.base.free,λb o e hx=>?_,I.base.tups,I.base.frzs,I.base.tbls⟩,⟨_,y4,λj y v' e1 e2 e3=>?_⟩,λy c e=>?_,I.free,I.freeC,λp hp=>?_,tracked ⟨oL,wk,I.free⟩ hs,by simpa using I.len⟩ ⟨_,hs,.inl rfl⟩
  ·exact(hs.2 b (b9 (iy (bg e) I.ok.above))).trans (I.base.keep b o e n hb hx)
  ·obtain⟨sl,e1⟩:=I.base.slot b o e n hb hx
   exact⟨sl,(hs.2 b (b9 (iy (bg e) I.ok.above))).trans e1⟩
  ·obtain⟨o',e1⟩:=I.base.there b o e hx
   exact⟨o',(hs.2 b (b9 (iy (bg e) I.ok.above))).trans e1⟩
  ·by_cases hj:j=i
   ·subst hj
    rw[hi] at e1;cases e1
    rw[EI KB] at e2
    cases e2
    exact⟨u,r,.inl ⟨hk,by simp⟩⟩
   ·rw[JB (ax hj)] at e2
    obtain⟨u',r',q⟩:=hl j y v' e1 e2 e3
    refine⟨u',r',?_⟩
    rcases q with ⟨k,e⟩|⟨k,c,e,z⟩
    ·refine .inl ⟨k,?_⟩
     have:y≠x:=λe=>hj (xH hN e1 (e▸hi))
     simp[this,e]
    ·exact .inr ⟨k,c,e,z.sameBut hs (cne y c e)⟩
  ·obtain⟨w',z⟩:=I.cell y c e
   exact⟨w',z.sameBut hs (cne y c e)⟩
  ·obtain⟨e,n,ne,nf,d⟩:=I.pin p hp
   exact⟨(hs.2 p.1 ne).trans e,n,ne,nf,d⟩
 ·have AV:X.fn x=true:=by
   rcases hf with z|z
   ·exact z
   ·rw[z] at hk;cases hk
  obtain⟨c,hc⟩:=I.ok.has x (.inl hk)
  obtain⟨w',z⟩:=I.cell x c hc
  refine wpAny_storeName_cell I.ok.kind hk hc z (λh' qh hs=>?_)
  obtain⟨oc,KC,PX⟩:=id z
  refine h {s with heap:=h'} ⟨I.ok,I.os,I.bare,⟨λb o e n hb hx=>?_,λb o e n hb hx=>?_,I.base.free,λb o e hx=>?_,I.base.tups,I.base.frzs,I.base.tbls⟩,⟨m,hn.sameBut hs (ax (cne x c hc)),λj y v' e1 e2 e3=>?_⟩,λy c' e=>?_,I.free,I.freeC,λp hp=>?_,tracked ⟨oc,KC,I.freeC x c hc⟩ hs,by simpa using I.len⟩ ⟨c,hs,.inr hc⟩
  ·exact(hs.2 b (b9 (iy (bg e) (I.ok.cab x c AV hc)))).trans (I.base.keep b o e n hb hx)
  ·obtain⟨sl,e1⟩:=I.base.slot b o e n hb hx
   exact⟨sl,(hs.2 b (b9 (iy (bg e) (I.ok.cab x c AV hc)))).trans e1⟩
  ·obtain⟨o',e1⟩:=I.base.there b o e hx
   exact⟨o',(hs.2 b (b9 (iy (bg e) (I.ok.cab x c AV hc)))).trans e1⟩
  ·by_cases hj:j=i
   ·subst hj
    rw[hi] at e1;cases e1
    rw[EI KB] at e2
    cases e2
    exact⟨u,r,.inr ⟨.inl hk,c,hc,qh⟩⟩
   ·rw[JB (ax hj)] at e2
    obtain⟨u',r',q⟩:=hl j y v' e1 e2 e3
    refine⟨u',r',?_⟩
    rcases q with q|⟨k,c',e,z'⟩
    ·exact .inl q
    ·refine .inr ⟨k,c',e,z'.sameBut hs ?_⟩
     rintro rfl
     exact hj (xH hN e1 (I.ok.inj _ _ _ e hc▸hi))
  ·by_cases C2:c'=c
   ·subst C2;exact⟨_,qh⟩
   ·obtain⟨w2,z2⟩:=I.cell y c' e
    exact⟨w2,z2.sameBut hs C2⟩
  ·obtain⟨e,n,ne,nf,d⟩:=I.pin p hp
   refine⟨(hs.2 p.1 ?_).trans e,n,ne,nf,d⟩
   intro q
   rw[q,KC] at e
   have q':oc=p.2:=Option.some.inj e
   exact d w' (by rw[<-q'];exact PX)
theorem xO{v:V}{Q:Unit->Shared->Prop}(I:aQ X U σ H s)(hN:X.N.Nodup)(hi:X.N[i]?=some x)(hx:Loc X.env.scope x)(r:cB v u)
  (h:∀s',aQ X U (σ.set i (some v)) H s'->Q () s') (hf:X.fn x=true\/X.env.scope.names.lookup x=some .local:=by first|exact .inl rfl|exact .inr rfl|assumption):wpAny M A (storeName X.env x u) Q E s:=
 As I hN hi hx r (λs' I' _=>h s' I') hf
theorem aQ.call'{s':Shared}{ch:List Addr}(I:aQ X U σ H s)(ho:s'.os=s.os)(u:Un (Aj X.stack) ch H H' s.heap s'.heap)(hok:lK X.prog X.w H' s'.heap)(hg:AllBare s'.gens)
  (ja:∀b∈ch,(b∈X.ex\/X.s_0.heap.objs.size<=b)/\b≠X.env.locals/\(∀x c,X.env.cells.lookup x=some c->c≠b)/\∀p∈X.pn++U,p.1≠b):aQ X U σ H' s':=by
 obtain⟨h',g',d',t',o'⟩:=s'
 have e:o'=s.os:=ho
 subst e
 exact I.call (g':=g') (t':=t') (d':=d') u hok hg ja
end
abbrev XK:=Value->Option Addr->Hp->Prop
abbrev St:=List (Option V)
abbrev VK:=V->Hp->Prop
abbrev TE:=St->Hp->VK->Prop
abbrev TT:=St->Hp->(Bool->Hp->Prop)->Prop
abbrev TA:=St->Hp->(List V->Hp->Prop)->Prop
structure gH where
 nx:St->Hp->Prop
 rt:VK
 bk:St->Hp->Prop:=λ_ _=>False
 ct:St->Hp->Prop:=λ_ _=>False
abbrev TS:=gH->St->Hp->Prop
def EP(X:Cx)(U:List (Addr×Obj))(σ:St)(Q:VK)(u:Value)(s':Shared):Prop:=∃v H',aQ X U σ H' s'/\cB v u/\Q v H'
def TP(X:Cx)(U:List (Addr×Obj))(σ:St)(Q:Bool->Hp->Prop)(b:Bool)(s':Shared):Prop:=∃H',aQ X U σ H' s'/\Q b H'
def AP(X:Cx)(U:List (Addr×Obj))(σ:St)(Q:List V->Hp->Prop)(us:List Value)(s':Shared):Prop:=∃vs H',aQ X U σ H' s'/\bO vs us/\Q vs H'
def SP(X:Cx)(U:List (Addr×Obj))(D:gH)(f:Flow)(s':Shared):Prop:=
 match f with
 |.next=>∃ah H',aQ X U ah H' s'/\D.nx ah H'
 |.brk=>∃ah H',aQ X U ah H' s'/\D.bk ah H'
 |.cont=>∃ah H',aQ X U ah H' s'/\D.ct ah H'
 |.ret u=>∃v ah H',aQ X U ah H' s'/\cB v u/\D.rt v H'
def PE(X:Cx)(e:Expr)(t:TE):Prop:=
 ∀(U:List (Addr×Obj)) (s:Shared) (σ:St) (H:Hp) (Q:VK),aQ X U σ H s->t σ H Q->wpAny (model X.prog X.w) X.A (eval e X.env) (EP X U σ Q) X.xe s
def PT(X:Cx)(e:Expr)(t:TT):Prop:=
 ∀(U:List (Addr×Obj)) (s:Shared) (σ:St) (H:Hp) (Q:Bool->Hp->Prop),aQ X U σ H s->t σ H Q->wpAny (model X.prog X.w) X.A (isTrue e X.env (eval e X.env)) (TP X U σ Q) X.xe s
def PW(X:Cx)(e:Expr)(t:TT):Prop:=
 ∀(whole:Sem Value) (U:List (Addr×Obj)) (s:Shared) (σ:St) (H:Hp) (Q:Bool->Hp->Prop),aQ X U σ H s->t σ H Q->wpAny (model X.prog X.w) X.A (isTrue e X.env whole) (TP X U σ Q) X.xe s
variable{X:Cx}
theorem PW.pt{t:TT}(h:PW X e t):PT X e t:=h _
def PA(X:Cx)(es:List Expr)(t:TA):Prop:=
 ∀(pos:Pos) (U:List (Addr×Obj)) (s:Shared) (σ:St) (H:Hp) (Q:List V->Hp->Prop),aQ X U σ H s->t σ H Q->wpAny (model X.prog X.w) X.A (spliced (backTo pos (starEach es X.env))) (AP X U σ Q) X.xe s
def PS(X:Cx)(st:Stmt)(t:TS):Prop:=
 ∀(U:List (Addr×Obj)) (s:Shared) (σ:St) (H:Hp) (D:gH),aQ X U σ H s->t D σ H->wpAny (model X.prog X.w) X.A (exec st X.env) (SP X U D) X.xe s
def Ce(X:Cx)(st:List Stmt)(t:TS):Prop:=
 ∀(U:List (Addr×Obj)) (s:Shared) (σ:St) (H:Hp) (D:gH),aQ X U σ H s->t D σ H->wpAny (model X.prog X.w) X.A (execs st X.env) (SP X U D) X.xe s
theorem cX{t:Sem α}{Q Q':α->Shared->Prop}(h:wpAny M A t Q E s)(hQ:∀a s,Q a s->Q' a s):wpAny M A t Q' E s:=jq h hQ λ_ _ x=>x
section
variable{ta:TE}{σ:St}
theorem bin{a b:Expr}{tb:TE}(ha:PE X a ta)(hb:PE X b tb){R:V->V->Hp->Prop}(I:aQ X U σ H s)(h:ta σ H λx H1=>tb σ H1 λy H2=>R x y H2)
  {α:Type} {Q:α->Shared->Prop} {f:Value->Value->Sem α}
  (hf:∀v u s2 x y H2,aQ X U σ H2 s2->cB x v->cB y u->R x y H2->wpAny (model X.prog X.w) X.A (f v u) Q X.xe s2):
  wpAny (model X.prog X.w) X.A (eval a X.env) (λv az=>wpAny (model X.prog X.w) X.A (eval b X.env) (λu gd=>wpAny (model X.prog X.w) X.A (f v u) Q X.xe gd) X.xe az) X.xe s:=by
 refine cX (ha U s σ H _ I h) λv s1 ⟨x,H1,I1,r1,q1⟩=>?_
 refine cX (hb U s1 σ H1 _ I1 q1) λu s2 ⟨y,H2,I2,r2,q2⟩=>?_
 exact hf v u s2 x y H2 I2 r1 r2 q2
def cY(i:Nat):TE:=fun σ H Q=>∃v,σ[i]?=some (some v)/\Q v H
def tC(v:V):TE:=λ_ H Q=>Q v H
theorem aC1(hN:X.N[i]?=some x)(hv:Vis X.env.scope x)(hd:(x==("__debug__":Str))=false:=by decide)(jb:(x==("__classdict__":Str))=false:=by decide):PE X (.Name x pos) (cY i):=by
 intro U s σ H Q I h
 obtain⟨v,e,h⟩:=h
 obtain⟨m,hn,hl⟩:=I.loc
 obtain⟨u,r,l⟩:=hl i x v hN e hv
 have fin:EP X U σ Q u s:=⟨v,H,I,r,h⟩
 rcases l with ⟨hk,hm⟩|⟨hk,c,hc,r6⟩
 ·exact wpAny_Name (wpAny_loadName_local I.ok.kind hk hn hm fin) hd
 ·rcases hk with hk|hk
  ·exact wpAny_Name (wpAny_loadName_cell I.ok.kind hk hc r6 fin) hd
  ·exact wpAny_Name (wpAny_loadName_free I.ok.kind hk hc r6 fin jb) hd
theorem aI{i j pos}:PE X (.Constant (.int i) j pos) (tC (.int i)):=λ_ _ _ H _ I h=>wpAny_Constant_int ⟨.int i,H,I.tok _,⟨_,rfl⟩,h⟩
theorem nW{b j pos}:PE X (.Constant (.bool b) j pos) (tC (.bl b)):=λ_ _ _ H _ I h=>Constant_bool ⟨.bl b,H,I,rfl,h⟩
theorem zG{j pos}:PE X (.Constant .none j pos) (tC .non):=λ_ _ _ H _ I h=>Constant_none ⟨.non,H,I,rfl,h⟩
theorem eW{x j pos}:PE X (.Constant (.str x) j pos) (tC (.str x)):=λ_ _ _ H _ I h=>Calls.Constant_str ⟨.str x,H,I.tok _,⟨_,rfl⟩,h⟩
def Gl(X:Cx)(x:Str):Prop:=X.env.kindOf x=some .globalImplicit
theorem iT(I:aQ X U σ H s)(hg:Gl X x)(hm:X.mg x=some u)(h:Q u s)
  (hd:(x==("__debug__":Str))=false:=by decide):wpAny (model X.prog X.w) X.A (eval (.Name x pos) X.env) Q E s:=
 NU I.ok.kind hg (Calls.loadGlobal_global (by rw[I.ok.glob];exact I.mod.glob.keeps I.bk) hm h) hd
theorem lV(I:aQ X U σ H s)(hg:Gl X x)(hm:X.mg x=none)(hv:bootBuiltins x=some u)(h:Q u s)
  (hn:x≠"__name__":=by decide) (hd:(x==("__debug__":Str))=false:=by decide):wpAny (model X.prog X.w) X.A (eval (.Name x pos) X.env) Q E s:=by
 obtain⟨mb,h1,h2⟩:=I.mod.blt
 exact NU I.ok.kind hg (Calls.loadGlobal_builtin (by rw[I.ok.glob];exact I.mod.glob.keeps I.bk) hm (by rw[I.ok.blt];exact h1.keeps I.bk) ((h2 x hn).trans hv) h) hd
theorem Dr{v:V}(hg:Gl X x)(hm:X.mg x=some u)(r:cB v u)(hd:(x==("__debug__":Str))=false:=by decide):PE X (.Name x pos) (tC v):=
 λ_ _ _ H _ I h=>iT I hg hm ⟨v,H,I,r,h⟩ hd
def t2I(ta tb:TE)(k:Int->Int->Hp->Prop):St->Hp->Prop:=fun σ H=>ta σ H λx H1=>tb σ H1 λy H2=>∃i j,x=.int i/\y=.int j/\k i j H2
variable{a b:Expr}{tb:TE}
def PC(X:Cx)(op:CmpOp)(a b:Expr)(t:TE):Prop:=
 ∀(U:List (Addr×Obj)) (s:Shared) (σ:St) (H:Hp) (Q:VK),aQ X U σ H s->t σ H Q->
  wpAny (model X.prog X.w) X.A (eval a X.env) (λv az=>wpAny (model X.prog X.w) X.A (eval b X.env) (λu gd=>wpAny (model X.prog X.w) X.A (compareOp op v u) (EP X U σ Q) X.xe gd) X.xe az) X.xe s
theorem Ie(b:Expr)(h:op≠.In)(h2:op≠.NotIn):behindInMarks op b=false:=by
 have e1:(op==CmpOp.In)=false:=by cases op<;>first|rfl|exact absurd rfl h
 have e2:(op==CmpOp.NotIn)=false:=by cases op<;>first|rfl|exact absurd rfl h2
 cases b<;>simp[behindInMarks,e1,e2]
def Wx(p:Int->Int->Bool)(ta tb:TE):TE:=fun σ H Q=>t2I ta tb (λi j H2=>Q (.bl (p i j)) H2) σ H
abbrev tLt:TE->TE->TE:=Wx λi j=>decide (i<j)
abbrev tLe:TE->TE->TE:=Wx λi j=>decide (i<=j)
abbrev tGt:TE->TE->TE:=Wx λi j=>decide (j<i)
abbrev aGz:TE->TE->TE:=Wx λi j=>decide (i=j)
theorem Dx{p:Int->Int->Bool}(ha:PE X a ta)(hb:PE X b tb)
  (rule:∀(i j:Int)(t u:Tok)(Q:Value->Shared->Prop)(s:Shared),Q (.bool (p i j)) s->wpAny (model X.prog X.w) X.A (compareOp op (.int i t) (.int j u)) Q X.xe s):PC X op a b (Wx p ta tb):=by
 intro U s σ H Q I h
 refine bin ha hb I h λv u s2 x y H2 I2 rx ry q=>?_
 obtain⟨i,j,rfl,rfl,q⟩:=q
 obtain⟨t,rfl⟩:=rx
 obtain⟨t',rfl⟩:=ry
 exact rule i j t t' _ s2 ⟨.bl _,H2,I2,rfl,q⟩
theorem Mm(ha:PE X a ta)(hb:PE X b tb):PC X .Lt a b (tLt ta tb):=Dx ha hb λ_ _ _ _ _ _ h=>lt_int h
theorem aF9(ha:PE X a ta)(hb:PE X b tb):PC X .LtE a b (tLe ta tb):=Dx ha hb λ_ _ _ _ _ _ h=>le_int h
theorem uN(ha:PE X a ta)(hb:PE X b tb):PC X .Gt a b (tGt ta tb):=Dx ha hb λ_ _ _ _ _ _ h=>gt_int h
theorem aD6(ha:PE X a ta)(hb:PE X b tb):PC X .Eq a b (aGz ta tb):=Dx ha hb λ_ _ _ _ _ _ h=>eq_int (by rw[JC];exact h)
def tB(t:TE):TT:=fun σ H Q=>t σ H λx H1=>∃c,x=.bl c/\Q c H1
theorem eB{t:TE}(h:PC X op a b t)(h1:behindInMarks op b=false:=by first|exact Ie _ (by decide) (by decide)|rfl):PT X (.Compare a [op] [b] pos) (tB t):=by
 intro U s σ H Q I hw
 refine wpAny_isTrue_Compare1 (cX (h U s σ H _ I hw) λv s1 h1=>cX h1 λu s2 h2=>cX h2 λc s3 ⟨x,H1,I1,r1,q1⟩=>?_) h1
 obtain⟨d,rfl,q⟩:=q1
 cases r1
 exact wpAny_truthy_bool ⟨H1,I1,q⟩
theorem eS{t:TE}(h:PE X e t)(he:∀whole,isTrue e X.env whole=(do let v <-whole;standAt e.pos;holding [v] (truthy v)):=by intro _;rfl):PT X e (tB t):=by
 intro U s σ H Q I hw
 refine isTrue_plain (cX (h U s σ H _ I hw) λv s1 ⟨x,H1,I1,r1,q1⟩=>?_) (he _)
 obtain⟨d,rfl,q⟩:=q1
 cases r1
 exact wpAny_truthy_bool ⟨H1,I1,q⟩
variable{tA C3:TT}{rest:List Expr}
def aHe(t u:TT):TT:=fun σ H Q=>t σ H λc H1=>if c=true then u σ H1 Q else Q false H1
def tOr(t u:TT):TT:=fun σ H Q=>t σ H λc H1=>if c=true then Q true H1 else u σ H1 Q
def aGw(t:TT):TT:=fun σ H Q=>t σ H λc H1=>Q (!c) H1
theorem iK(ha:PT X a tA):PW X (.BoolOp .And [a] pos) tA:=by
 intro wh U s σ H Q I h
 refine isTrue_and (cX (ha U s σ H Q I h) λc s1 e=>?_)
 cases c with
 |true=>exact isTrue_and_nil e
 |false=>exact e
theorem Db(ha:PT X a tA):PW X (.BoolOp .Or [a] pos) tA:=by
 intro wh U s σ H Q I h
 refine isTrue_or (cX (ha U s σ H Q I h) λc s1 e=>?_)
 cases c with
 |false=>exact isTrue_or_nil e
 |true=>exact e
theorem iH(ha:PT X a tA)(hb:PW X (.BoolOp .And (b::rest) pos) C3):PW X (.BoolOp .And (a::b::rest) pos) (aHe tA C3):=by
 intro wh U s σ H Q I h
 refine isTrue_and (cX (ha U s σ H _ I h) λc s1 ⟨H1,I1,q1⟩=>?_)
 cases c with
 |true=>exact hb wh U s1 σ H1 Q I1 q1
 |false=>exact⟨H1,I1,q1⟩
theorem Pa(ha:PT X a tA)(hb:PW X (.BoolOp .Or (b::rest) pos) C3):PW X (.BoolOp .Or (a::b::rest) pos) (tOr tA C3):=by
 intro wh U s σ H Q I h
 refine isTrue_or (cX (ha U s σ H _ I h) λc s1 ⟨H1,I1,q1⟩=>?_)
 cases c with
 |true=>exact⟨H1,I1,q1⟩
 |false=>exact hb wh U s1 σ H1 Q I1 q1
theorem mE(ha:PT X a tA):PT X (.UnaryOp .Not a pos) (aGw tA):=by
 intro U s σ H Q I h
 exact isTrue_not (ha U s σ H (λc H1=>Q (!c) H1) I h)
def aE8(ta tb:TE):TE:=fun σ H Q=>ta σ H λx H1=>∃c,x=.bl c/\if c=true then tb σ H1 Q else Q (.bl false) H1
def aG4(ta tb:TE):TE:=fun σ H Q=>ta σ H λx H1=>∃c,x=.bl c/\if c=true then Q (.bl true) H1 else tb σ H1 Q
def aFv(ta:TE):TE:=fun σ H Q=>ta σ H λx H1=>∃c,x=.bl c/\Q (.bl (!c)) H1
theorem uE{op}{t:TE}(h:PE X a t):PE X (.BoolOp op [a] pos) t:=λU s σ H Q I hw=>BoolOp_one (h U s σ H Q I hw)
theorem tH(ha:PE X a ta)(hb:PE X (.BoolOp .And (b::rest) pos) tb):PE X (.BoolOp .And (a::b::rest) pos) (aE8 ta tb):=by
 intro U s σ H Q I h
 refine BoolOp_and (cX (ha U s σ H _ I h) λv s1 ⟨x,H1,I1,r1,q1⟩=>?_)
 obtain⟨c,rfl,q1⟩:=q1
 cases r1
 refine wpAny_truthy_bool ?_
 cases c with
 |true=>exact hb U s1 σ H1 Q I1 q1
 |false=>exact⟨.bl false,H1,I1,rfl,q1⟩
theorem Tb(ha:PE X a ta)(hb:PE X (.BoolOp .Or (b::rest) pos) tb):PE X (.BoolOp .Or (a::b::rest) pos) (aG4 ta tb):=by
 intro U s σ H Q I h
 refine BoolOp_or (cX (ha U s σ H _ I h) λv s1 ⟨x,H1,I1,r1,q1⟩=>?_)
 obtain⟨c,rfl,q1⟩:=q1
 cases r1
 refine wpAny_truthy_bool ?_
 cases c with
 |false=>exact hb U s1 σ H1 Q I1 q1
 |true=>exact⟨.bl true,H1,I1,rfl,q1⟩
theorem aCe(ha:PE X a ta):PE X (.UnaryOp .Not a pos) (aFv ta):=by
 intro U s σ H Q I h
 refine UnaryOp_ (cX (ha U s σ H _ I h) λv s1 ⟨x,H1,I1,r1,q1⟩=>?_)
 obtain⟨c,rfl,q1⟩:=q1
 cases r1
 exact not_of (wpAny_truthy_bool ⟨.bl (!c),H1,I1,rfl,q1⟩)
def tIf(t:TT)(ta tb:TE):TE:=fun σ H Q=>t σ H λc H1=>if c=true then ta σ H1 Q else tb σ H1 Q
theorem Ti{c:Expr}(hc:PT X c tA)(ha:PE X a ta)(hb:PE X b tb):PE X (.IfExp c a b pos) (tIf tA ta tb):=by
 intro U s σ H Q I h
 refine wpAny_IfExp (cX (hc U s σ H _ I h) λd s1 ⟨H1,I1,q1⟩=>?_)
 cases d with
 |true=>exact ha U s1 σ H1 Q I1 q1
 |false=>exact hb U s1 σ H1 Q I1 q1
end
def cR(K:Frag)(H:Hp)(a:Addr)(xs:List V):Prop:=
 Rd H a (.lst xs)\/
  ∃(o:Obj)(its:Array Value)(n:Nat),K.lookup a=some o/\o.cls=.type "list"/\o.dict=none/\o.data=.seq its n/\its.size<=sizeLine/\bO xs its.toList
def cM(K:Frag)(H:Hp)(a:Addr)(xs:List V):Prop:=
 Rd H a (.tup xs)\/
  ∃(o:Obj)(its:Array Value)(n:Nat),K.lookup a=some o/\o.cls=.type "tuple"/\o.data=.seq its n/\its.size<=sizeLine/\bO xs its.toList
def aGo:Value->Option V
 |.none=>some .non
 |.bool b=>some (.bl b)
 |.int i _=>some (.int i)
 |.str x _=>some (.str x)
 |.bytes b _=>some (.byt b)
 |.float b _=>some (.flt b)
 |.ref a=>some (.ref a)
 |.type n=>some (.ty n)
 |_=>none
theorem cB.abs{x:V}(r:cB x u):aGo u=some x:=by
 cases x with
 |non=>cases r;rfl
 |bl _=>cases r;rfl
 |int _=>obtain⟨t,rfl⟩:=r;rfl
 |str _=>obtain⟨t,rfl⟩:=r;rfl
 |byt _=>obtain⟨t,rfl⟩:=r;rfl
 |flt _=>obtain⟨t,rfl⟩:=r;rfl
 |ref _=>cases r;rfl
 |ty _=>cases r;rfl
variable{y:V}
theorem cB.inj{x:V}(r:cB x u)(q:cB y u):x=y:=Option.some.inj (r.abs.symm.trans q.abs)
theorem bO.inj:∀{xs ys:List V}{us:List Value},bO xs us->bO ys us->xs=ys
 |_,_,_,.nil,.nil=>rfl
 |_,_,_,.cons r t,.cons r' t'=>by rw[r.inj r',bO.inj t t']
section
variable{ys:List V}{σ:St}
variable{K:Frag}
theorem cR.of(h:H a=some (.lst xs)):cR K H a xs:=.inl (.inl h)
theorem cM.of(h:H a=some (.tup xs)):cM K H a xs:=.inl (.inl h)
theorem aQ.list(I:aQ X U σ H s)(h:cR X.K H a xs):∃its:List Value,bO xs its/\PlainL s.heap a its.toArray/\xs.length<=sizeLine:=by
 rcases h with h|⟨o,its,n,hk,hc,hd,hs,hz,r⟩
 ·obtain⟨z,its,n,r,e⟩:=h.ok I.hok
  exact⟨its,r,⟨_,n,e,rfl,rfl,rfl⟩,z⟩
 ·refine⟨its.toList,r,⟨o,n,I.kIn a o hk,hc,hd,by simpa using hs⟩,?_⟩
  have e:=r.length
  simp only[d4] at e
  omega
theorem aQ.tuple(I:aQ X U σ H s)(h:cM X.K H a xs):∃its:List Value,bO xs its/\IsTup s.heap a its.toArray/\xs.length<=sizeLine:=by
 rcases h with h|⟨o,its,n,hk,hc,hs,hz,r⟩
 ·obtain⟨z,its,r,p⟩:=h.ok I.hok
  exact⟨its,r,p,z⟩
 ·refine⟨its.toList,r,⟨o,I.kIn a o hk,hc,n,by simpa using hs⟩,?_⟩
  have e:=r.length
  simp only[d4] at e
  omega
theorem aQ.list_inj(I:aQ X U σ H s)(h:cR X.K H a xs)(h':cR X.K H a ys):xs=ys:=by
 obtain⟨its,r,⟨o,n,e,_,_,d⟩,_⟩:=I.list h
 obtain⟨its',r',⟨o',n',e',_,_,d'⟩,_⟩:=I.list h'
 rw[e] at e';cases e'
 rw[d] at d'
 injection d' with d1 _
 have:its=its':=by simpa using congrArg Array.toList d1
 subst this
 exact r.inj r'
theorem aQ.tuple_inj(I:aQ X U σ H s)(h:cM X.K H a xs)(h':cM X.K H a ys):xs=ys:=by
 obtain⟨its,r,⟨o,e,_,n,d⟩,_⟩:=I.tuple h
 obtain⟨its',r',⟨o',e',_,n',d'⟩,_⟩:=I.tuple h'
 rw[e] at e';cases e'
 rw[d] at d'
 injection d' with d1 _
 have:its=its':=by simpa using congrArg Array.toList d1
 subst this
 exact r.inj r'
end
abbrev Cx.wish(X:Cx)(E:Value->Shared->Prop):Cx:={X with xe:=E}
abbrev Cx.nox(X:Cx):Cx:=X.wish λ_ _=>False
theorem Cx.Ok.wish(ok:X.Ok)(E:Value->Shared->Prop):(X.wish E).Ok:=
 ⟨ok.mod,ok.kind,ok.glob,ok.blt,ok.above,ok.inj,ok.has,ok.cab,ok.hd,ok.frames,ok.stk,ok.exf,ok.bs,ok.bsz,ok.noex,ok.exfs,ok.funs,ok.frf⟩
theorem Cx.Ok.unwish(ok:(X.wish E).Ok):X.Ok:=
 ⟨ok.mod,ok.kind,ok.glob,ok.blt,ok.above,ok.inj,ok.has,ok.cab,ok.hd,ok.frames,ok.stk,ok.exf,ok.bs,ok.bsz,ok.noex,ok.exfs,ok.funs,ok.frf⟩
variable{σ:St}
theorem aQ.wish(I:aQ X U σ H s)(E:Value->Shared->Prop):aQ (X.wish E) U σ H s:=⟨I.ok.wish E,I.os,I.bare,I.base,I.loc,I.cell,I.free,I.freeC,I.pin,I.hok,I.len⟩
theorem aQ.unwish(I:aQ (X.wish E) U σ H s):aQ X U σ H s:=⟨I.ok.unwish,I.os,I.bare,I.base,I.loc,I.cell,I.free,I.freeC,I.pin,I.hok,I.len⟩
variable{D:gH}
theorem SP.unwish{f:Flow}{s':Shared}(h:SP (X.wish E) U D f s'):SP X U D f s':=by
 cases f with
 |next=>obtain⟨ah,H',I,q⟩:=h;exact⟨ah,H',I.unwish,q⟩
 |brk=>obtain⟨ah,H',I,q⟩:=h;exact⟨ah,H',I.unwish,q⟩
 |cont=>obtain⟨ah,H',I,q⟩:=h;exact⟨ah,H',I.unwish,q⟩
 |ret u=>obtain⟨v,ah,H',I,r,q⟩:=h;exact⟨v,ah,H',I.unwish,r,q⟩
theorem Ce.nox{st:List Stmt}{t:TS}(h:Ce X.nox st t):Ce X st t:=λU s σ H D I hw=>
 jq (h U s σ H D (I.wish _) hw) (λ_ _ q=>q.unwish) λ_ _ z=>False.elim z
section
variable{st:Stmt}{rest:List Stmt}{t u:TS}{te:TE}
def aBw:TS:=λD σ H=>D.nx σ H
def Ha(t u:TS):TS:=λD σ H=>t {D with nx:=u D} σ H
theorem cD:Ce X [] aBw:=λ_ _ σ H _ I h=>yc ⟨σ,H,I,h⟩
theorem aF(h1:PS X st t)(h2:Ce X rest u):Ce X (st::rest) (Ha t u):=by
 intro U s σ H D I h
 refine wpAny_execs_cons (cX (h1 U s σ H {D with nx:=u D} I h) λf s1 q=>?_)
 cases f with
 |next=>
  obtain⟨ah,H',I',q⟩:=q
  exact h2 U s1 ah H' D I' q
 |ret v=>exact q
 |brk=>exact q
 |cont=>exact q
theorem aH(h1:PS X st t):Ce X [st] t:=by
 intro U s σ H D I h
 refine wpAny_execs_cons (cX (h1 U s σ H D I h) λf s1 q=>?_)
 cases f with
 |next=>exact yc q
 |ret v=>exact q
 |brk=>exact q
 |cont=>exact q
theorem aQ.quiet(I:aQ X U σ H s):interactive X.env=false:=by simp[interactive,I.ok.kind]
def Af(te:TE):TS:=λD σ H=>te σ H λ_ H1=>D.nx σ H1
theorem cH(he:PE X e te)(hs:swapsWith e none pos.line X.env=pure false:=by rfl):PS X (.Expr e pos) (Af te):=by
 intro U s σ H D I h
 exact wpAny_Expr_any (cX (he U s σ H _ I h) λv s1 ⟨x,H1,I1,r1,q1⟩=>⟨σ,H1,I1,q1⟩) I.quiet hs
def aCf(te:TE):TS:=λD σ H=>te σ H D.rt
theorem aU(he:PE X e te):PS X (.Return (some e) pos) (aCf te):=by
 intro U s σ H D I h
 exact wpAny_Return_some (cX (he U s σ H _ I h) λv s1 ⟨x,H1,I1,r1,q1⟩=>⟨x,σ,H1,I1,r1,q1⟩)
def aC0(c:TT)(t u:TS):TS:=λD σ H=>c σ H λb H1=>if b=true then t D σ H1 else u D σ H1
theorem eK{c:Expr}{a b:List Stmt}{tc:TT}(hc:PT X c tc)(ha:Ce X a t)(hb:Ce X b u):PS X (.If c a b pos) (aC0 tc t u):=by
 intro U s σ H D I h
 refine wpAny_If (cX (hc U s σ H _ I h) λd s1 ⟨H1,I1,q1⟩=>?_)
 cases d with
 |true=>exact ha U s1 σ H1 D I1 q1
 |false=>exact hb U s1 σ H1 D I1 q1
end
abbrev TG:=V->St->Hp->(St->Hp->Prop)->Prop
abbrev TGs:=List V->St->Hp->(St->Hp->Prop)->Prop
def PG(X:Cx)(target:Expr)(t:TG):Prop:=
 ∀(U:List (Addr×Obj)) (s:Shared) (σ:St) (H:Hp) (v:V) (u:Value) (Q:St->Hp->Prop),aQ X U σ H s->cB v u->t v σ H Q->
  wpAny (model X.prog X.w) X.A (assign target X.env u) (λ_ s'=>∃ah H',aQ X U ah H' s'/\Q ah H') X.xe s
def PGs(X:Cx)(ts:List Expr)(t:TGs):Prop:=
 ∀(U:List (Addr×Obj)) (s:Shared) (σ:St) (H:Hp) (vs:List V) (us:List Value) (Q:St->Hp->Prop),aQ X U σ H s->bO vs us->t vs σ H Q->
  wpAny (model X.prog X.w) X.A (assignInOrder ((assignEach ts X.env).map (·.2)) us) (λ_ s'=>∃ah H',aQ X U ah H' s'/\Q ah H') X.xe s
def mP(i:Nat):TG:=λv σ H Q=>Q (σ.set i (some v)) H
theorem bH(hN:X.N.Nodup)(hi:X.N[i]?=some x)(hx:Loc X.env.scope x)(hf:X.fn x=true\/X.env.scope.names.lookup x=some .local:=by first|exact .inl rfl|exact .inr rfl|assumption):PG X (.Name x pos) (mP i):=by
 intro U s σ H v u Q I r h
 exact wpAny_assign_Name (xO I hN hi hx r (λs' I'=>⟨_,H,I',h⟩) hf)
def aHq:TGs:=λvs σ H Q=>vs=[]/\Q σ H
def aFy(t:TG)(u:TGs):TGs:=λvs σ H Q=>∃v r,vs=v::r/\t v σ H λah H'=>u r ah H' Q
theorem jU:PGs X [] aHq:=by
 intro U s σ H vs us Q I r h
 obtain⟨e,h⟩:=h
 subst e
 cases r
 exact assignInOrder_nil ⟨σ,H,I,h⟩
theorem dM{es:List Expr}{t:TG}{u:TGs}(h1:PG X e t)(h2:PGs X es u)
  (hs:(assignEach (e::es) X.env).map (·.2)=assign e X.env::(assignEach es X.env).map (·.2):=by rfl):PGs X (e::es) (aFy t u):=by
 intro U s σ H vs us Q I r h
 obtain⟨v,vr,e1,h⟩:=h
 subst e1
 cases r with
 |cons r rr=>
  rw[hs]
  refine assignInOrder_cons (cX (h1 U s σ H _ _ _ I r h) λ_ s1 ⟨y6,H1,I1,q1⟩=>?_)
  exact h2 U s1 y6 H1 _ _ Q I1 rr q1
def aG6(K:Frag)(n:Nat)(t:TGs):TG:=λv σ H Q=>∃a xs,v=.ref a/\cM K H a xs/\xs.length=n/\t xs σ H Q
theorem nE{es:List Expr}{t:TGs}{n:Nat}(hc:X.calm=true)(h:PGs X es t)
  (hn:(assignEach es X.env).length=n:=by rfl) (fc:(assignEach es X.env).findIdx? (·.1)=none:=by rfl):PG X (.Tuple es k pos) (aG6 X.K n t):=by
 intro U s σ H v u Q I r hw
 obtain⟨a,xs,e1,hq,hl,hw⟩:=hw
 subst e1
 cases r
 obtain⟨its,rv,ht,hz⟩:=I.tuple hq
 refine assign_Tuple_tuple (I.ok.hd hc) ht (by simp[hn,<-hl,rv.length]) fc λh' hx=>?_
 have I1:aQ X U σ H {s with heap:=h'}:=I.kept (t':=s.toks) λb o e=>hx b o (b9 (bg e)) e
 exact h U _ σ H xs _ Q I1 (by simpa using rv) hw
def Jc(te:TE)(g:TG):TS:=λD σ H=>te σ H λx H1=>g x σ H1 D.nx
variable{te:TE}
theorem bI{mf:Pos}(hN:X.N.Nodup)(hi:X.N[i]?=some x)(hx:Loc X.env.scope x)(he:PE X e te)(hs:swapsWith e (some (.Name x mf)) pos.line X.env=pure false:=by rfl)(hf:X.fn x=true\/X.env.scope.names.lookup x=some .local:=by first|exact .inl rfl|exact .inr rfl|assumption):
  PS X (.Assign [.Name x mf] e pos) (Jc te (mP i)):=by
 intro U s σ H D I h
 refine wpAny_Assign_Name (cX (he U s σ H _ I h) λv s1 ⟨y,H1,I1,r1,q1⟩=>?_) hs
 exact xO I1 hN hi hx r1 (λs2 I2=>⟨_,H1,I2,q1⟩) hf
def aEc(c:TT)(tb:TS):TS:=λD σ H=>∃W:Nat->St->Hp->Prop,(∃m,W m σ H)/\∀m σ H,W m σ H->
 c σ H λb H1=>if b=true then ∃N:St->Hp->Prop,(∀ah H',N ah H'->∃m',m'<m/\W m' ah H')/\tb {D with nx:=N,ct:=N,bk:=D.nx} σ H1 else D.nx σ H1
variable{tb:TS}
theorem lJ{c:Expr}{body:List Stmt}{tc:TT}(hp:PassesOwn (model X.prog X.w) X.A X.env X.xe)(hc:PT X c tc)(hb:Ce X body tb):PS X (.While c body [] pos) (aEc tc tb):=by
 intro U s σ H D I h
 obtain⟨W,⟨m0,w0⟩,turn⟩:=h
 refine wpAny_While (codeAny_whileLoop (λn s'=>∃ah H',aQ X U ah H' s'/\W n ah H') ?_ m0 ⟨σ,H,I,w0⟩)
 rintro n s1 ⟨y6,H1,I1,w1⟩
 refine wpAny_passesOwn hp (cX (hc U s1 y6 H1 _ I1 (turn n y6 H1 w1)) λb s2 ⟨H2,I2,q2⟩=>?_)
 cases b with
 |true=>
  obtain⟨N,hN,q2⟩:=q2
  rw[af rfl]
  refine wpAny_passesOwn hp (cX (hb U s2 y6 H2 _ I2 q2) λf s3 q3=>?_)
  cases f with
  |next=>
   obtain⟨jr,H3,I3,n3⟩:=q3
   obtain⟨m',hm,w3⟩:=hN jr H3 n3
   exact⟨m',hm,jr,H3,I3,w3⟩
  |cont=>
   obtain⟨jr,H3,I3,n3⟩:=q3
   obtain⟨m',hm,w3⟩:=hN jr H3 n3
   exact⟨m',hm,jr,H3,I3,w3⟩
  |brk=>exact q3
  |ret v=>exact q3
 |false=>
  rw[ae ca]
  exact yc ⟨y6,H2,I2,q2⟩
structure It where
 go:Nat->Hp->Prop
 yld:Nat->Hp->V->Hp->Prop
 stop:Nat->Hp->Prop
def jF(X:Cx)(U:List (Addr×Obj))(H:Hp)(b:Addr):Prop:=
 H b=none/\b≠X.env.locals/\b∉X.fs/\(b∈X.ex\/X.s_0.heap.objs.size<=b)/\(∀x c,X.env.cells.lookup x=some c->c≠b)/\∀p∈X.pn++U,p.1≠b
variable{H':Hp}
theorem aQ.fpOk(I:aQ X U σ H s)(hb:s.heap.objs.size<=b)(hn:H' b=none):jF X U H' b:=by
 refine⟨hn,px (iy I.lt hb),I.nofs hb,.inr (gu I.sz hb),λx c e z=>?_,λp hp z=>?_⟩
 ·obtain⟨v,q⟩:=I.cell x c e
  exact absurd (iy q.lt (by rw[z];exact hb)) (j5 _)
 ·exact absurd (iy (bg (I.pin p hp).1) (by rw[z];exact hb)) (j5 _)
structure xU(P:Program)(w:World)(K:Frag)(tg:Expr)(J:It)(fp:List Addr)(it:Addr)(tn:Nat->Heap->Prop):Prop where
 mem:it∈fp
 obj:∀i h,tn i h->∀b∈fp,∃o,h.get? b=some o/\∀v,o.data≠.cell v
 keep:∀i h h',tn i h->(∀b∈fp,∀o,h.get? b=some o->h'.get? b=some o)->tn i h'
 item:∀(X:Cx),X.prog=P->X.w=w->X.K=K->X.calm=true->∀(i:Nat) (U:List (Addr×Obj)) (s:Shared) (σ:St) (H:Hp) (E:Value->Shared->Prop),aQ X U σ H s->(∀b∈fp,jF X U H b)->tn i s.heap->J.go i H->
  wpAny (model P w) X.A (pyNext (.ref it)) (λr s1=>∃u,r=some u/\
   wpAny (model P w) X.A (letOwnedTupleGo tg (.ref it) u) (λ_ s2=>∃x H',aQ X U σ H' s2/\cB x u/\J.yld i H x H'/\tn (i+1) s2.heap/\∀b∈fp,H' b=none) E s1) E s
 done:∀(X:Cx),X.prog=P->X.w=w->X.K=K->X.calm=true->∀(i:Nat) (U:List (Addr×Obj)) (s:Shared) (σ:St) (H:Hp) (E:Value->Shared->Prop),aQ X U σ H s->(∀b∈fp,jF X U H b)->tn i s.heap->J.stop i H->
  wpAny (model P w) X.A (pyNext (.ref it)) (λr s1=>r=none/\aQ X U σ H s1) E s
 self:∀(A:Around)(i:Nat)(s:Shared)(Q:Value->Shared->Prop)(E:Value->Shared->Prop),tn i s.heap->Q (.ref it) s->wpAny (model P w) A (pyIter (.ref it)) Q E s
abbrev TI:=St->Hp->(It->Hp->Prop)->Prop
def PIE(X:Cx)(U:List (Addr×Obj))(σ:St)(tg:Expr)(R:It->Hp->Prop)(C4:Value)(s2:Shared):Prop:=
 ∃(it:Addr)(fp:List Addr)(tn:Nat->Heap->Prop)(J:It)(H':Hp),C4=.ref it/\aQ X U σ H' s2/\xU X.prog X.w X.K tg J fp it tn/\tn 0 s2.heap/\(∀b∈fp,jF X U H' b)/\R J H'
def PI(X:Cx)(tg iter:Expr)(wi:TI):Prop:=
 ∀(U:List (Addr×Obj)) (s:Shared) (σ:St) (H:Hp) (R:It->Hp->Prop),aQ X U σ H s->wi σ H R->
  wpAny (model X.prog X.w) X.A (eval iter X.env) (λv s1=>wpAny (model X.prog X.w) X.A (pyIter v) (PIE X U σ tg R) X.xe s1) X.xe s
theorem Ca{n:String}{vs:Array Value}{Q:Unit->Shared->Prop}(ho:s.heap.get? it=some o)(hc:o.cls=.type n)(hd:o.data=.fields vs)
  (hn:["enumerate","zip","dict_itemiterator","dict_reverseitemiterator","odict_iterator","itertools.zip_longest","itertools.pairwise"].contains n=false) (hQ:Q () s):wpAny M A (letOwnedTupleGo tg (.ref it) u) Q E s:=by
 unfold letOwnedTupleGo
 cases tg<;>first
  |exact ag hQ
  |(cases u<;>first
    |exact ag hQ
    |(refine ac (wpAny_load ho ?_)
      rw[hc,hd]
      show wpAny M A (if (["enumerate","zip","dict_itemiterator","dict_reverseitemiterator","odict_iterator","itertools.zip_longest","itertools.pairwise"].contains n && vs[0]?==some (rawInt _))=true then _ else _) Q E s
      rw[ae (by intro h;rw[hn,ly] at h;cases h)]
      exact ag hQ))
def Wc(K:Frag)(a:Addr):It:=
 ⟨λi H=>∃xs x,cR K H a xs/\xs[i]?=some x,λi H x H'=>H'=H/\∀xs,cR K H a xs->xs[i]?=some x,λi H=>∃xs,cR K H a xs/\xs.length<=i⟩
def Itt(K:Frag)(a:Addr):It:=
 ⟨λi H=>∃xs x,cM K H a xs/\xs[i]?=some x,λi H x H'=>H'=H/\∀xs,cM K H a xs->xs[i]?=some x,λi H=>∃xs,cM K H a xs/\xs.length<=i⟩
def Xx(lo:Int)(n:Nat):It:=⟨λi _=>i<n,λi H x H'=>H'=H/\x=.int (lo+i),λi _=>n<=i⟩
variable{K:Frag}
theorem Pi(a it:Addr):xU P w K tg (Wc K a) [it] it (λi h=>h.IsListIter it a i) where
 mem:=by simp
 obj:=λi h st b hb=>by
  have e:b=it:=by simpa using hb
  subst e
  obtain⟨o,e,c,d⟩:=st
  exact⟨o,e,λv z=>by rw[d] at z;cases z⟩
 keep:=λi h h' st k=>st.at λo e=>k it (by simp) o e
 item:=by
  intro X hP hw hK hc i U s σ H E I hf st hg
  subst hP hw hK
  obtain⟨xs,x,hq,hx⟩:=hg
  obtain⟨its,rv,p,hz⟩:=I.list hq
  obtain⟨u,hu,ru⟩:=rv.get hx
  obtain⟨f0,f1,f2,f3,f4,f5⟩:=hf it (by simp)
  refine wpAny_pyNext_list_item st p.isList (x:=u) (by simpa using hu) λh' ff sb=>?_
  have I1:aQ X U σ H {s with heap:=h'}:=I.turned (t':=s.toks) (λb o hb e=>(sb.2 b hb).trans e) f0 f1 f3 f4 f5
  obtain⟨o,e,c,d⟩:=id ff
  exact⟨u,rfl,Ca (s:={s with heap:=h'}) e c d (by decide) ⟨x,H,I1,ru,⟨rfl,λys hy=>by rw[I.list_inj hy hq];exact hx⟩,ff,λb hb=>(hf b hb).1⟩⟩
 done:=by
  intro X hP hw hK hc i U s σ H E I hf st hg
  subst hP hw hK
  obtain⟨xs,hq,hx⟩:=hg
  obtain⟨its,rv,p,hz⟩:=I.list hq
  obtain⟨f0,f1,f2,f3,f4,f5⟩:=hf it (by simp)
  have hl:=rv.length
  exact wpAny_pyNext_list_end (I.ok.hd hc) st p.isList (by simp;omega) λh' eb=>⟨rfl,I.turned (t':=s.toks) (λb o hb e=>eb b o hb e) f0 f1 f3 f4 f5⟩
 self:=λ_ _ _ _ _ st h=>wpAny_pyIter_listiter st h
theorem Lj(a it:Addr):xU P w K tg (Itt K a) [it] it (λi h=>h.IsTupleIter it a i) where
 mem:=by simp
 obj:=λi h st b hb=>by
  have e:b=it:=by simpa using hb
  subst e
  obtain⟨o,e,c,d⟩:=st
  exact⟨o,e,λv z=>by rw[d] at z;cases z⟩
 keep:=λi h h' st k=>st.at λo e=>k it (by simp) o e
 item:=by
  intro X hP hw hK hc i U s σ H E I hf st hg
  subst hP hw hK
  obtain⟨xs,x,hq,hx⟩:=hg
  obtain⟨its,rv,p,hz⟩:=I.tuple hq
  obtain⟨u,hu,ru⟩:=rv.get hx
  obtain⟨f0,f1,f2,f3,f4,f5⟩:=hf it (by simp)
  refine wpAny_pyNext_tuple_item st (show s.heap.IsTuple a its.toArray from p) (x:=u) (by simpa using hu) λh' ff sb=>?_
  have I1:aQ X U σ H {s with heap:=h'}:=I.turned (t':=s.toks) (λb o hb e=>(sb.2 b hb).trans e) f0 f1 f3 f4 f5
  obtain⟨o,e,c,d⟩:=id ff
  exact⟨u,rfl,Ca (s:={s with heap:=h'}) e c d (by decide) ⟨x,H,I1,ru,⟨rfl,λys hy=>by rw[I.tuple_inj hy hq];exact hx⟩,ff,λb hb=>(hf b hb).1⟩⟩
 done:=by
  intro X hP hw hK hc i U s σ H E I hf st hg
  subst hP hw hK
  obtain⟨xs,hq,hx⟩:=hg
  obtain⟨its,rv,p,hz⟩:=I.tuple hq
  obtain⟨f0,f1,f2,f3,f4,f5⟩:=hf it (by simp)
  have hl:=rv.length
  exact wpAny_pyNext_tuple_end (I.ok.hd hc) st (show s.heap.IsTuple a its.toArray from p) (by simp;omega) λh' eb=>⟨rfl,I.turned (t':=s.toks) (λb o hb e=>eb b o hb e) f0 f1 f3 f4 f5⟩
 self:=λ_ _ _ _ _ st h=>wpAny_pyIter_tupleiter st h
theorem Lq(it:Addr)(lo:Int)(n:Nat):xU P w K tg (Xx lo n) [it] it (λi h=>IsRangeIter h it (lo+(i:Nat) * 1) ((n:Int) - (i:Nat)) 1) where
 mem:=by simp
 obj:=λi h st b hb=>by
  have e:b=it:=by simpa using hb
  subst e
  exact⟨_,st,λv z=>by
   have z':Data.fields _=Data.cell v:=z
   cases z'⟩
 keep:=λi h h' st k=>k it (by simp) _ st
 item:=by
  intro X hP hw hK hc i U s σ H E I hf st hg
  subst hP hw hK
  obtain⟨f0,f1,f2,f3,f4,f5⟩:=hf it (by simp)
  have W:=Walks.range (prog:=X.prog) (w:=X.w) (I.ok.hd hc) it lo 1 n
  refine W.item i s _ _ hg st λv h' tk hv ff kk=>?_
  obtain⟨t,rfl⟩:=hv
  have I1:aQ X U σ H {s with heap:=h',toks:=tk}:=I.turned (λb o hb e=>kk b o (by simpa using hb) e) f0 f1 f3 f4 f5
  refine⟨_,rfl,Ca (s:={s with heap:=h',toks:=tk}) (n:="range_iterator") ff rfl rfl (by decide) ⟨.int (lo+i),H,I1,⟨t,?_⟩,⟨rfl,rfl⟩,ff,λb hb=>(hf b hb).1⟩⟩
  rw[Int.mul_one]
 done:=by
  intro X hP hw hK hc i U s σ H E I hf st hg
  subst hP hw hK
  obtain⟨f0,f1,f2,f3,f4,f5⟩:=hf it (by simp)
  exact wpAny_pyNext_range_end (I.ok.hd hc) st (by have:n<=i:=hg;omega) λh' eb=>⟨rfl,I.turned (t':=s.toks) (λb o hb e=>eb b o hb e) f0 f1 f3 f4 f5⟩
 self:=λ_ _ _ _ _ st h=>wpAny_pyIter_rangeiter st h
def aE7(K:Frag)(tl:TE):TI:=fun σ H R=>tl σ H λx H1=>∃a,x=.ref a/\(∃xs,cR K H1 a xs)/\R (Wc K a) H1
def aG9(K:Frag)(tl:TE):TI:=fun σ H R=>tl σ H λx H1=>∃a,x=.ref a/\(∃xs,cM K H1 a xs)/\R (Itt K a) H1
theorem fV{l:Expr}{tl:TE}(hl:PE X l tl):PI X tg l (aE7 X.K tl):=by
 intro U s σ H R I h
 refine cX (hl U s σ H _ I h) λv s1 ⟨x,H1,I1,r1,q1⟩=>?_
 obtain⟨a,e,⟨xs,hq⟩,q⟩:=q1
 subst e
 cases r1
 obtain⟨its,rv,p,hz⟩:=I1.list hq
 refine JD p.isList ?_
 refine⟨s1.heap.objs.size,[s1.heap.objs.size],_,_,H1,rfl,I1.kept (t':=s1.toks) λb o e=>bj _ e,Pi a _,⟨_,cg _ rfl,rfl,rfl⟩,λb hb=>?_,q⟩
 have e:b=s1.heap.objs.size:=by simpa using hb
 subst e
 exact I1.fpOk (ap _) (I1.hok.fresh (ap _))
theorem Jl{l:Expr}{tl:TE}(hl:PE X l tl):PI X tg l (aG9 X.K tl):=by
 intro U s σ H R I h
 refine cX (hl U s σ H _ I h) λv s1 ⟨x,H1,I1,r1,q1⟩=>?_
 obtain⟨a,e,⟨xs,hq⟩,q⟩:=q1
 subst e
 cases r1
 obtain⟨its,rv,p,hz⟩:=I1.tuple hq
 refine EJ (show s1.heap.IsTuple a its.toArray from p) ?_
 refine⟨s1.heap.objs.size,[s1.heap.objs.size],_,_,H1,rfl,I1.kept (t':=s1.toks) λb o e=>bj _ e,Lj a _,⟨_,cg _ rfl,rfl,rfl⟩,λb hb=>?_,q⟩
 have e:b=s1.heap.objs.size:=by simpa using hb
 subst e
 exact I1.fpOk (ap _) (I1.hok.fresh (ap _))
theorem Jf{R:It->Hp->Prop}{lo hi:Int}{t u v:Tok}{tk:Nat}(I:aQ X U σ H s)(h1: -(2 ^ 62)<=lo)(h2:lo<2 ^ 62)(h3: -(2 ^ 62)<=hi)(h4:hi<2 ^ 62)
  (q:R (Xx lo (hi - lo).toNat) H):wpAny (model X.prog X.w) X.A (pyIter (.ref s.heap.objs.size)) (PIE X U σ tg R) E {s with heap:=s.heap.push {cls:=.type "range",data:=.fields #[.int lo t,.int hi u,.int 1 v]},toks:=tk}:=by
 refine wpAny_pyIter_range (IsRange.new ..) (small_one h1 h2 h3 h4) ?_
 have I1:aQ X U σ H {s with heap:=s.heap.push {cls:=.type "range",data:=.fields #[.int lo t,.int hi u,.int 1 v]},toks:=tk}:=I.kept λb o e=>bj _ e
 refine⟨(s.heap.push {cls:=.type "range",data:=.fields #[.int lo t,.int hi u,.int 1 v]}).objs.size,[(s.heap.push {cls:=.type "range",data:=.fields #[.int lo t,.int hi u,.int 1 v]}).objs.size],_,_,H,rfl,
  I1.kept (t':=tk) λb o e=>bj _ e,Lq _ lo (hi - lo).toNat,?_,λb hb=>?_,q⟩
 ·have e1:lo+((0:Nat):Int) * 1=lo:=by simp
  have e2:(((hi - lo).toNat:Nat):Int) - ((0:Nat):Int)=Builtin.Range.rangeSize lo hi 1:=by rw[rangeSize_one];split<;>omega
  show IsRangeIter _ _ (lo+((0:Nat):Int) * 1) ((((hi - lo).toNat:Nat):Int) - ((0:Nat):Int)) 1
  rw[e1,e2]
  exact cg _ rfl
 ·have e:b=(s.heap.push {cls:=.type "range",data:=.fields #[.int lo t,.int hi u,.int 1 v]}).objs.size:=by simpa using hb
  subst e
  exact I1.fpOk (ap _) (I1.hok.fresh (ap _))
def aFg(ta:TA):TI:=fun σ H R=>ta σ H λvs H1=>∃j:Int,vs=[.int j]/\ -(2 ^ 62)<=j/\j<2 ^ 62/\R (Xx 0 j.toNat) H1
def aF7(ta:TA):TI:=fun σ H R=>ta σ H λvs H1=>∃i j:Int,vs=[.int i,.int j]/\(-(2 ^ 62)<=i/\i<2 ^ 62/\ -(2 ^ 62)<=j/\j<2 ^ 62)/\R (Xx i (j - i).toNat) H1
theorem oP{a:Expr}{ta:TA}{p:Pos}(hg:Gl X "range")(hm:X.mg "range"=none)(ha:PA X [a] ta)(hs:starEach [a] X.env=[(false,eval a X.env)]:=by rfl):PI X tg (.Call (.Name "range" p) [a] [] pos) (aFg ta):=by
 intro U s σ H R I h
 refine Call_ (lV I hg hm boot_range (AB (cX (ha pos U s σ H _ I h) λus s1 ⟨vs,H1,I1,r1,q1⟩=>?_) hs rfl))
 obtain⟨j,e,q1,q2,q⟩:=q1
 subst e
 cases r1 with
 |cons r rr=>
  cases rr
  obtain⟨t,rfl⟩:=r
  exact call_range_1 (Jf I1 (by omega) (by omega) q1 q2 (by simpa using q))
theorem Qe{a b:Expr}{ta:TA}{p:Pos}(hg:Gl X "range")(hm:X.mg "range"=none)(ha:PA X [a,b] ta)(hs:starEach [a,b] X.env=[(false,eval a X.env),(false,eval b X.env)]:=by rfl)(lm:starEach [b] X.env=[(false,eval b X.env)]:=by rfl):
  PI X tg (.Call (.Name "range" p) [a,b] [] pos) (aF7 ta):=by
 intro U s σ H R I h
 refine Call_ (lV I hg hm boot_range (AB (cX (ha pos U s σ H _ I h) λus s1 ⟨vs,H1,I1,r1,q1⟩=>?_) (by rw[hs,lm]) (by rw[lm];rfl)))
 obtain⟨i,j,e,⟨q1,q2,q3,q4⟩,q⟩:=q1
 subst e
 cases r1 with
 |cons r rr=>
  cases rr with
  |cons r' rr=>
   cases rr
   obtain⟨t,rfl⟩:=r
   obtain⟨t',rfl⟩:=r'
   exact call_range_2 (Jf I1 q1 q2 q3 q4 q)
def aHj(wi:TI)(g:TG)(tb:TS):TS:=λD σ H=>wi σ H λJ H1=>∃W:Nat->Nat->St->Hp->Prop,(∃m,W 0 m σ H1)/\∀i m σ H,W i m σ H->
 (J.stop i H/\D.nx σ H)\/(J.go i H/\∃N:St->Hp->Prop,(∀ah H',N ah H'->∃m',m'<m/\W (i+1) m' ah H')/\∀x H',J.yld i H x H'->g x σ H' λau H2=>tb {D with nx:=N,ct:=N,bk:=D.nx} au H2)
def tG(fp:List Addr)(h:Heap):List (Addr×Obj):=fp.filterMap λb=>(h.get? b).map λo=>(b,o)
theorem jE{fp:List Addr}(hb:b∈fp)(e:h.get? b=some o):(b,o)∈tG fp h:=AC.mpr ⟨b,hb,by rw[e];rfl⟩
theorem Ru{fp:List Addr}{p:Addr×Obj}(hp:p∈tG fp h):p.1∈fp/\h.get? p.1=some p.2:=by
 obtain⟨b,hb,e⟩:=AC.mp hp
 cases q:h.get? b with
 |none=>rw[q] at e;cases e
 |some o=>
  rw[q] at e
  have e':(b,o)=p:=Option.some.inj e
  subst e'
  exact⟨hb,q⟩
theorem aQ.pinned{fp:List Addr}(I:aQ X U σ H s)(hf:∀b∈fp,jF X U H b)(ho:∀b∈fp,∃o,s.heap.get? b=some o/\∀v,o.data≠.cell v):aQ X (U++tG fp s.heap) σ H s:=
 I.pins_of λp hp=>(jp.mp hp).elim (λz=>I.pin p (gi _ z)) λz=>by
  obtain⟨hb,e⟩:=Ru z
  obtain⟨f0,f1,f2,_⟩:=hf p.1 hb
  obtain⟨o,e',d⟩:=ho p.1 hb
  rw[e] at e';cases e'
  exact⟨e,f0,f1,f2,d⟩
theorem aQ.unpinned{pl:List (Addr×Obj)}(I:aQ X (U++pl) σ H s):aQ X U σ H s:=I.pins_of λp hp=>I.pin p (gi _ (lx _ hp))
variable{g:TG}
theorem eM{iter:Expr}{body:List Stmt}{wi:TI}(hp:PassesOwn (model X.prog X.w) X.A X.env X.xe)(hc:X.calm=true)(hi:PI X tg iter wi)(hg:PG X tg g)(hb:Ce X body tb)
  (hs:∀x,foldedSetIterable iter X.env x=pure x:=by intro _;rfl):PS X (.For tg iter body [] pos) (aHj wi g tb):=by
 intro U s σ H D I h
 refine wpAny_For (cX (hi U s σ H _ I h) λv s1 h1=>cX h1 λC4 s2 h2=>?_) hs
 obtain⟨it,fp,tn,J,H2,e,I2,T,y8,f2,W,⟨m0,w0⟩,turn⟩:=h2
 subst e
 have stat:∀{H':Hp},(∀b∈fp,H' b=none)->∀b∈fp,jF X U H' b:=λhn b hb=>⟨hn b hb,(f2 b hb).2⟩
 refine codeAny_forLoop_any (λn s'=>∃i ah H',aQ X U ah H' s'/\tn i s'.heap/\(∀b∈fp,H' b=none)/\W i n ah H') ?_ m0 ⟨0,σ,H2,I2,y8,λb hb=>(f2 b hb).1,w0⟩
 rintro n s3 ⟨i,jr,H3,I3,wm,AW,w3⟩
 rcases turn i n jr H3 w3 with ⟨stop,qn⟩|⟨go,N,hN,step⟩
 ·refine wpAny_passesOwn hp (cX (T.done X rfl rfl rfl hc i U s3 jr H3 X.xe I3 (stat AW) wm stop) λr s4 ⟨hr,I4⟩=>?_)
  subst hr
  exact yc ⟨jr,H3,I4,qn⟩
 ·refine wpAny_passesOwn hp (cX (T.item X rfl rfl rfl hc i U s3 jr H3 X.xe I3 (stat AW) wm go) λr s4 ⟨u,hr,h4⟩=>?_)
  subst hr
  refine wpAny_passesOwn hp (cX h4 λ_ s5 ⟨x,H5,I5,r5,y5,qi,FP⟩=>?_)
  have FQ:=I5.pinned (stat FP) (T.obj _ _ qi)
  refine wpAny_passesOwn hp (cX (hg _ s5 jr H5 x u _ FQ r5 (step x H5 y5)) λ_ s6 ⟨C5,H6,I6,q6⟩=>?_)
  refine wpAny_passesOwn hp (cX (hb _ s6 C5 H6 _ I6 q6) λf s7 q7=>?_)
  have again:∀{gj:St}{H7:Hp},aQ X (U++tG fp s5.heap) gj H7 s7->N gj H7->∃m,m<n/\∃i ah H',aQ X U ah H' s7/\tn i s7.heap/\(∀b∈fp,H' b=none)/\W i m ah H':=λ{gj H7} I7 n7=>by
   obtain⟨m',hm,w7⟩:=hN gj H7 n7
   refine⟨m',hm,i+1,gj,H7,I7.unpinned,T.keep _ _ _ qi λb hb o e=>(I7.pin (b,o) (gi _ (gi _ (jE hb e)))).1,λb hb=>?_,w7⟩
   obtain⟨o,e,d⟩:=T.obj _ _ qi b hb
   exact(I7.pin (b,o) (gi _ (gi _ (jE hb e)))).2.1
  cases f with
  |next=>obtain⟨gj,H7,I7,n7⟩:=q7;exact again I7 n7
  |cont=>obtain⟨gj,H7,I7,n7⟩:=q7;exact again I7 n7
  |brk=>obtain⟨gj,H7,I7,q7⟩:=q7;exact⟨gj,H7,I7.unpinned,q7⟩
  |ret v=>obtain⟨x7,gj,H7,I7,r7,q7⟩:=q7;exact⟨x7,gj,H7,I7.unpinned,r7,q7⟩
theorem wM(Pv:Nat->St->Hp->Prop)(h0:Pv 0 σ H)(hl:∀i σ H,i<=xs.length->Pv i σ H->cR K H a xs)
  (hs:∀i x σ H,xs[i]?=some x->Pv i σ H->g x σ H λau H2=>tb {D with nx:=Pv (i+1),ct:=Pv (i+1),bk:=D.nx} au H2) (hd:∀ σ H,Pv xs.length σ H->D.nx σ H):
  ∃W:Nat->Nat->St->Hp->Prop,(∃m,W 0 m σ H)/\∀i m σ H,W i m σ H->
   ((Wc K a).stop i H/\D.nx σ H)\/((Wc K a).go i H/\∃N:St->Hp->Prop,(∀ah H',N ah H'->∃m',m'<m/\W (i+1) m' ah H')/\∀x H',(Wc K a).yld i H x H'->g x σ H' λau H2=>tb {D with nx:=N,ct:=N,bk:=D.nx} au H2):=by
 refine⟨λi m σ H=>m=xs.length - i/\i<=xs.length/\Pv i σ H,⟨xs.length,by simp,c8 _,h0⟩,?_⟩
 rintro i m σ H ⟨rfl,hi,p⟩
 have q:=hl i σ H hi p
 by_cases am:i<xs.length
 ·refine .inr ⟨⟨xs,xs[i],q,by simp[am]⟩,Pv (i+1),λah H' p'=>⟨xs.length - (i+1),by omega,rfl,am,p'⟩,λx H' y=>?_⟩
  obtain⟨e,y⟩:=y
  subst e
  exact hs i x σ _ (y xs q) p
 ·have e:i=xs.length:=by omega
  subst e
  exact .inl ⟨⟨xs,q,ap _⟩,hd σ H p⟩
theorem Ek(Pv:Nat->St->Hp->Prop)(h0:Pv 0 σ H)(hl:∀i σ H,i<=xs.length->Pv i σ H->cM K H a xs)
  (hs:∀i x σ H,xs[i]?=some x->Pv i σ H->g x σ H λau H2=>tb {D with nx:=Pv (i+1),ct:=Pv (i+1),bk:=D.nx} au H2) (hd:∀ σ H,Pv xs.length σ H->D.nx σ H):
  ∃W:Nat->Nat->St->Hp->Prop,(∃m,W 0 m σ H)/\∀i m σ H,W i m σ H->
   ((Itt K a).stop i H/\D.nx σ H)\/((Itt K a).go i H/\∃N:St->Hp->Prop,(∀ah H',N ah H'->∃m',m'<m/\W (i+1) m' ah H')/\∀x H',(Itt K a).yld i H x H'->g x σ H' λau H2=>tb {D with nx:=N,ct:=N,bk:=D.nx} au H2):=by
 refine⟨λi m σ H=>m=xs.length - i/\i<=xs.length/\Pv i σ H,⟨xs.length,by simp,c8 _,h0⟩,?_⟩
 rintro i m σ H ⟨rfl,hi,p⟩
 have q:=hl i σ H hi p
 by_cases am:i<xs.length
 ·refine .inr ⟨⟨xs,xs[i],q,by simp[am]⟩,Pv (i+1),λah H' p'=>⟨xs.length - (i+1),by omega,rfl,am,p'⟩,λx H' y=>?_⟩
  obtain⟨e,y⟩:=y
  subst e
  exact hs i x σ _ (y xs q) p
 ·have e:i=xs.length:=by omega
  subst e
  exact .inl ⟨⟨xs,q,ap _⟩,hd σ H p⟩
theorem By{lo:Int}{n:Nat}(Pv:Nat->St->Hp->Prop)(h0:Pv 0 σ H)
  (hs:∀i σ H,i<n->Pv i σ H->g (.int (lo+i)) σ H λau H2=>tb {D with nx:=Pv (i+1),ct:=Pv (i+1),bk:=D.nx} au H2) (hd:∀ σ H,Pv n σ H->D.nx σ H):
  ∃W:Nat->Nat->St->Hp->Prop,(∃m,W 0 m σ H)/\∀i m σ H,W i m σ H->
   ((Xx lo n).stop i H/\D.nx σ H)\/((Xx lo n).go i H/\∃N:St->Hp->Prop,(∀ah H',N ah H'->∃m',m'<m/\W (i+1) m' ah H')/\∀x H',(Xx lo n).yld i H x H'->g x σ H' λau H2=>tb {D with nx:=N,ct:=N,bk:=D.nx} au H2):=by
 refine⟨λi m σ H=>m=n - i/\i<=n/\Pv i σ H,⟨n,by simp,c8 _,h0⟩,?_⟩
 rintro i m σ H ⟨rfl,hi,p⟩
 by_cases am:i<n
 ·refine .inr ⟨am,Pv (i+1),λah H' p'=>⟨n - (i+1),by omega,rfl,am,p'⟩,λx H' y=>?_⟩
  obtain⟨e,y⟩:=y
  subst e y
  exact hs i σ _ am p
 ·have e:i=n:=by omega
  subst e
  exact .inl ⟨ap _,hd σ H p⟩
abbrev R2:=V->V->Hp->VK->Prop
def uU(X:Cx)(f:Value->Value->Sem Value)(r:R2):Prop:=
 ∀(U:List (Addr×Obj)) (s:Shared) (σ:St) (H:Hp) (x y:V) (v u:Value) (Q:VK),aQ X U σ H s->cB x v->cB y u->r x y H Q->
  wpAny (model X.prog X.w) X.A (f v u) (EP X U σ Q) X.xe s
def UnR(X:Cx)(f:Value->Sem Value)(r:V->Hp->VK->Prop):Prop:=
 ∀(U:List (Addr×Obj)) (s:Shared) (σ:St) (H:Hp) (x:V) (v:Value) (Q:VK),aQ X U σ H s->cB x v->r x H Q->
  wpAny (model X.prog X.w) X.A (f v) (EP X U σ Q) X.xe s
def nM(X:Cx)(f:Value)(r:List V->Hp->VK->Prop):Prop:=
 ∀(U:List (Addr×Obj)) (s:Shared) (σ:St) (H:Hp) (xs:List V) (us:List Value) (Q:VK),aQ X U σ H s->bO xs us->r xs H Q->
  wpAny (model X.prog X.w) X.A (call f us) (EP X U σ Q) X.xe s
def vF(r:R2)(ta tb:TE):TE:=fun σ H Q=>ta σ H λx H1=>tb σ H1 λy H2=>r x y H2 Q
def tUn(r:V->Hp->VK->Prop)(ta:TE):TE:=fun σ H Q=>ta σ H λx H1=>r x H1 Q
def rI(C:Int->Int->Prop)(g:Int->Int->V):R2:=λx y H Q=>∃i j,x=.int i/\y=.int j/\C i j/\Q (g i j) H
def Vs(g:Int->Int->V):R2:=λx y H Q=>∃i j,x=.int i/\y=.int j/\Q (g i j) H
def rU(g:Int->V):V->Hp->VK->Prop:=λx H Q=>∃i,x=.int i/\Q (g i) H
section
variable{a b c:Expr}{tb tc:TE}{ta:TE}
theorem aDj(ha:PE X a ta)(hb:PE X b tb){R:V->V->Hp->Prop}(I:aQ X U σ H s)
  (h:ta σ H λx H1=>tb σ H1 λy H2=>R x y H2) {Q:Value->Shared->Prop} {f:Value->Value->Sem Value}
  (hf:∀v u s2 x y H2,aQ X U σ H2 s2->cB x v->cB y u->R x y H2->wpAny (model X.prog X.w) X.A (f v u) Q X.xe s2):
  wpAny (model X.prog X.w) X.A (eval a X.env) (λv az=>wpAny (model X.prog X.w) X.A (eval b X.env) (λu gd=>wpAny (model X.prog X.w) X.A (f v u) Q X.xe gd) X.xe az) X.xe s:=by
 refine cX (ha U s σ H _ I h) λv s1 ⟨x,H1,I1,r1,q1⟩=>?_
 refine cX (hb U s1 σ H1 _ I1 q1) λu s2 ⟨y,H2,I2,r2,q2⟩=>?_
 exact hf v u s2 x y H2 I2 r1 r2 q2
theorem cI{op:Operator}{r:R2}(ho:uU X (binaryOp op) r)(ha:PE X a ta)(hb:PE X b tb):PE X (.BinOp a op b pos) (vF r ta tb):=by
 intro U s σ H Q I h
 exact wpAny_BinOp (aDj ha hb I h λv u s2 x y H2 I2 rx ry q=>ho U s2 σ H2 x y v u Q I2 rx ry q)
theorem vC{op:UnaryOp}{r:V->Hp->VK->Prop}(ho:UnR X (unaryOp op) r)(ha:PE X a ta):PE X (.UnaryOp op a pos) (tUn r ta):=by
 intro U s σ H Q I h
 exact UnaryOp_ (cX (ha U s σ H _ I h) λv s1 ⟨x,H1,I1,r1,q1⟩=>ho U s1 σ H1 x v Q I1 r1 q1)
theorem opI{f:Value->Value->Sem Value}{C:Int->Int->Prop}{g:Int->Int->Int}
  (rule:∀(i j:Int)(t u:Tok)(s:Shared)(Q:Value->Shared->Prop)(E:Value->Shared->Prop),C i j->Q (.int (g i j) s.toks) {s with toks:=s.toks+1}->wpAny (model X.prog X.w) X.A (f (.int i t) (.int j u)) Q E s):
  uU X f (rI C λi j=>.int (g i j)):=by
 intro U s σ H x y v u Q I rx ry h
 obtain⟨i,j,rfl,rfl,hc,q⟩:=h
 obtain⟨t,rfl⟩:=rx
 obtain⟨t',rfl⟩:=ry
 exact rule i j t t' s _ _ hc ⟨.int (g i j),H,I.tok _,⟨_,rfl⟩,q⟩
theorem aF3{f:Value->Value->Sem Value}{g:Int->Int->Int}
  (rule:∀(i j:Int)(t u:Tok)(s:Shared)(Q:Value->Shared->Prop)(E:Value->Shared->Prop),Q (.int (g i j) s.toks) {s with toks:=s.toks+1}->wpAny (model X.prog X.w) X.A (f (.int i t) (.int j u)) Q E s):
  uU X f (Vs λi j=>.int (g i j)):=by
 intro U s σ H x y v u Q I rx ry h
 obtain⟨i,j,rfl,rfl,q⟩:=h
 obtain⟨t,rfl⟩:=rx
 obtain⟨t',rfl⟩:=ry
 exact rule i j t t' s _ _ ⟨.int (g i j),H,I.tok _,⟨_,rfl⟩,q⟩
theorem aFb{f:Value->Value->Sem Value}{g:Int->Int->Bool}
  (rule:∀(i j:Int)(t u:Tok)(s:Shared)(Q:Value->Shared->Prop)(E:Value->Shared->Prop),Q (.bool (g i j)) s->wpAny (model X.prog X.w) X.A (f (.int i t) (.int j u)) Q E s):
  uU X f (Vs λi j=>.bl (g i j)):=by
 intro U s σ H x y v u Q I rx ry h
 obtain⟨i,j,rfl,rfl,q⟩:=h
 obtain⟨t,rfl⟩:=rx
 obtain⟨t',rfl⟩:=ry
 exact rule i j t t' s _ _ ⟨.bl (g i j),H,I,rfl,q⟩
def aD0(i j:Int):Prop:=(-(2 ^ 64)<i/\i<2 ^ 64)\/(-(2 ^ 64)<j/\j<2 ^ 64)
theorem aD0.ok{i j:Int}(h:aD0 i j):IntMulOk i j:=by
 rcases h with ⟨h1,h2⟩|⟨h1,h2⟩
 ·exact .of_left (intBits_le_64 h1 h2)
 ·exact .of_right (intBits_le_64 h1 h2)
theorem gE:uU X (binaryOp .Add) (Vs λi j=>.int (i+j)):=aF3 λ_ _ _ _ _ _ _ q=>add_int q
theorem eY:uU X (binaryOp .Sub) (Vs λi j=>.int (i - j)):=aF3 λ_ _ _ _ _ _ _ q=>sub_int q
theorem Xv:uU X (binaryOp .Mult) (rI aD0 λi j=>.int (i * j)):=opI λ_ _ _ _ _ _ _ hc q=>mul_int q hc.ok
theorem Vn:uU X (binaryOp .Mod) (rI (λ_ j=>0<j) λi j=>.int (i % j)):=opI λi j _ _ _ _ _ hc q=>by
 have h1:(0:Int)<j:=hc
 exact mod_int' (by omega) (by rw[Int.fmod_eq_emod_of_nonneg i (by omega)];exact q)
theorem unI{f:Value->Sem Value}{g:Int->Int}
  (rule:∀(i:Int)(t:Tok)(s:Shared)(Q:Value->Shared->Prop)(E:Value->Shared->Prop),Q (.int (g i) s.toks) {s with toks:=s.toks+1}->wpAny (model X.prog X.w) X.A (f (.int i t)) Q E s):
  UnR X f (rU λi=>.int (g i)):=by
 intro U s σ H x v Q I rx h
 obtain⟨i,rfl,q⟩:=h
 obtain⟨t,rfl⟩:=rx
 exact rule i t s _ _ ⟨.int (g i),H,I.tok _,⟨_,rfl⟩,q⟩
theorem nY:UnR X (unaryOp .USub) (rU λi=>.int (-i)):=unI λ_ _ _ _ _ q=>neg_int q
end
def aF5:V->V->Bool
 |.non,.non=>true|.non,.int _=>true|.int _,.non=>true|.non,.bl _=>true|.bl _,.non=>true|.non,.str _=>true|.str _,.non=>true
 |.int _,.int _=>true|.bl _,.bl _=>true|.str _,.str _=>true|.byt _,.byt _=>true
 |.int _,.str _=>true|.str _,.int _=>true|.bl _,.str _=>true|.str _,.bl _=>true
 |_,_=>false
def rEq:R2:=λx y H Q=>aF5 x y=true/\Q (.bl (decide (x=y))) H
def rNe:R2:=λx y H Q=>aF5 x y=true/\Q (.bl (!decide (x=y))) H
theorem vX{i j:Int}:decide (V.int i=V.int j)=(i==j):=by
 rw[io]
 simp
theorem Tr{i j:Bool}:decide (V.bl i=V.bl j)=(i==j):=by
 rw[io]
 simp
theorem Ox{i j:Str}:decide (V.str i=V.str j)=(i==j):=by
 rw[io]
 simp
theorem Om{i j:Array UInt8}:decide (V.byt i=V.byt j)=(i.toList==j.toList):=by
 rw[io]
 cases i
 cases j
 simp
section
variable{a b c:Expr}{tb tc:TE}{ta:TE}
theorem cK{Q:VK}{k k':Bool}(I:aQ X U σ H s)(q:Q (.bl k) H)(e:k=k'):EP X U σ Q (.bool k') s:=by
 subst e
 exact⟨.bl k,H,I,rfl,q⟩
theorem rO:uU X (compareOp .Eq) rEq:=by
 intro U s σ H x y v u Q I rx ry h
 obtain⟨hs,q⟩:=h
 cases x with
 |non=>
  cases rx
  cases y with
  |non=>cases ry;exact PySem.EqNone.eq_none_none (cK I q (by simp))
  |bl j=>cases ry;exact PySem.EqNone.eq_none_bool (cK I q (by simp))
  |int j=>obtain⟨t',rfl⟩:=ry;exact PySem.EqNone.eq_none_int (cK I q (by simp))
  |str j=>obtain⟨t',rfl⟩:=ry;exact PySem.EqNone.eq_none_str (cK I q (by simp))
  |_=>exact absurd (show false=true from hs) ca
 |bl i=>
  cases rx
  cases y with
  |non=>cases ry;exact PySem.EqNone.eq_bool_none (cK I q (by simp))
  |bl j=>cases ry;exact eq_bool (cK I q Tr)
  |str j=>obtain⟨t',rfl⟩:=ry;exact PySem.EqMixed.eq_bool_str (cK I q (by simp))
  |_=>exact absurd (show false=true from hs) ca
 |int i=>
  obtain⟨t,rfl⟩:=rx
  cases y with
  |non=>cases ry;exact PySem.EqNone.eq_int_none (cK I q (by simp))
  |int j=>obtain⟨t',rfl⟩:=ry;exact eq_int (cK I q vX)
  |str j=>obtain⟨t',rfl⟩:=ry;exact PySem.EqMixed.eq_int_str (cK I q (by simp))
  |_=>exact absurd (show false=true from hs) ca
 |str i=>
  obtain⟨t,rfl⟩:=rx
  cases y with
  |non=>cases ry;exact PySem.EqNone.eq_str_none (cK I q (by simp))
  |bl j=>cases ry;exact PySem.EqMixed.eq_str_bool (cK I q (by simp))
  |int j=>obtain⟨t',rfl⟩:=ry;exact PySem.EqMixed.eq_str_int (cK I q (by simp))
  |str j=>obtain⟨t',rfl⟩:=ry;exact eq_str (cK I q Ox)
  |_=>exact absurd (show false=true from hs) ca
 |byt i=>
  obtain⟨t,rfl⟩:=rx
  cases y with
  |byt j=>obtain⟨t',rfl⟩:=ry;exact PySem.W.eq_bytes (cK I q Om)
  |_=>exact absurd (show false=true from hs) ca
 |_=>cases y<;>exact absurd (show false=true from hs) ca
theorem aEo:uU X (compareOp .NotEq) rNe:=by
 intro U s σ H x y v u Q I rx ry h
 obtain⟨hs,q⟩:=h
 cases x with
 |non=>
  cases rx
  cases y with
  |non=>cases ry;exact PySem.EqNone.ne_none_none (cK I q (by simp))
  |bl j=>cases ry;exact PySem.EqNone.ne_none_bool (cK I q (by simp))
  |int j=>obtain⟨t',rfl⟩:=ry;exact PySem.EqNone.ne_none_int (cK I q (by simp))
  |str j=>obtain⟨t',rfl⟩:=ry;exact PySem.EqNone.ne_none_str (cK I q (by simp))
  |_=>exact absurd (show false=true from hs) ca
 |bl i=>
  cases rx
  cases y with
  |non=>cases ry;exact PySem.EqNone.ne_bool_none (cK I q (by simp))
  |bl j=>cases ry;exact ne_bool (cK I q (congrArg not Tr))
  |str j=>obtain⟨t',rfl⟩:=ry;exact PySem.EqMixed.ne_bool_str (cK I q (by simp))
  |_=>exact absurd (show false=true from hs) ca
 |int i=>
  obtain⟨t,rfl⟩:=rx
  cases y with
  |non=>cases ry;exact PySem.EqNone.ne_int_none (cK I q (by simp))
  |int j=>obtain⟨t',rfl⟩:=ry;exact ne_int (cK I q (congrArg not vX))
  |str j=>obtain⟨t',rfl⟩:=ry;exact PySem.EqMixed.ne_int_str (cK I q (by simp))
  |_=>exact absurd (show false=true from hs) ca
 |str i=>
  obtain⟨t,rfl⟩:=rx
  cases y with
  |non=>cases ry;exact PySem.EqNone.ne_str_none (cK I q (by simp))
  |bl j=>cases ry;exact PySem.EqMixed.ne_str_bool (cK I q (by simp))
  |int j=>obtain⟨t',rfl⟩:=ry;exact PySem.EqMixed.ne_str_int (cK I q (by simp))
  |str j=>obtain⟨t',rfl⟩:=ry;exact ne_str (cK I q (congrArg not Ox))
  |_=>exact absurd (show false=true from hs) ca
 |byt i=>
  obtain⟨t,rfl⟩:=rx
  cases y with
  |byt j=>obtain⟨t',rfl⟩:=ry;exact PySem.W.ne_bytes (cK I q (congrArg not Om))
  |_=>exact absurd (show false=true from hs) ca
 |_=>cases y<;>exact absurd (show false=true from hs) ca
theorem Vo:uU X (compareOp .Lt) (Vs λi j=>.bl (decide (i<j))):=aFb λ_ _ _ _ _ _ _ q=>lt_int q
theorem qS:uU X (compareOp .LtE) (Vs λi j=>.bl (decide (i<=j))):=aFb λ_ _ _ _ _ _ _ q=>le_int q
theorem iE(b:Expr)(h:op≠.In:=by decide)(h2:op≠.NotIn:=by decide):behindInMarks op b=false:=by
 have e1:(op==CmpOp.In)=false:=by cases op<;>first|rfl|exact absurd rfl h
 have e2:(op==CmpOp.NotIn)=false:=by cases op<;>first|rfl|exact absurd rfl h2
 cases b<;>simp[behindInMarks,e1,e2]
theorem lM{r:R2}(ho:uU X (compareOp op) r)(ha:PE X a ta)(hb:PE X b tb)(hm:behindInMarks op b=false):PE X (.Compare a [op] [b] pos) (vF r ta tb):=by
 intro U s σ H Q I h
 exact wpAny_Compare1 (aDj ha hb I h λv u s2 x y H2 I2 rx ry q=>ho U s2 σ H2 x y v u Q I2 rx ry q) hm
def Wk(t:TE):TT:=fun σ H Q=>t σ H λx H'=>∃k,x=.bl k/\Q k H'
theorem gX{r:R2}(ho:uU X (compareOp op) r)(ha:PE X a ta)(hb:PE X b tb)(hm:behindInMarks op b=false):PT X (.Compare a [op] [b] pos) (Wk (vF r ta tb)):=by
 intro U s σ H Q I h
 refine wpAny_isTrue_Compare1 (cX (ha U s σ H _ I h) λv s1 ⟨x,H1,I1,r1,q1⟩=>cX (hb U s1 σ H1 _ I1 q1) λu s2 ⟨y,H2,I2,r2,q2⟩=>
  cX (ho U s2 σ H2 x y v u _ I2 r1 r2 q2) λc s3 ⟨z,H3,I3,r3,k,e,q3⟩=>?_) hm
 subst e
 cases r3
 exact wpAny_truthy_bool ⟨H3,I3,q3⟩
def Km(r r':R2)(ta tb tc:TE):TE:=fun σ H Q=>ta σ H λx H1=>tb σ H1 λy H2=>r x y H2 λz H3=>∃k,z=.bl k/\
 (if k=true then tc σ H3 λw' H4=>r' y w' H4 Q else Q (.bl false) H3)
theorem nS{wn:CmpOp}{r r':R2}(ho:uU X (compareOp op) r)(lj:uU X (compareOp wn) r')(ha:PE X a ta)(hb:PE X b tb)(hc:PE X c tc)
  (hm:lastMarks [op,wn] [b,c]=false:=by with_unfolding_all rfl):PE X (.Compare a [op,wn] [b,c] pos) (Km r r' ta tb tc):=by
 intro U s σ H Q I h
 refine Compare_chain (cX (ha U s σ H _ I h) λv s1 ⟨x,H1,I1,r1,q1⟩=>chain_link (cX (hb U s1 σ H1 _ I1 q1) λu s2 ⟨y,H2,I2,r2,q2⟩=>
  cX (ho U s2 σ H2 x y v u _ I2 r1 r2 q2) λd s3 ⟨z,H3,I3,r3,k,e,q3⟩=>?_)) hm
 subst e
 cases r3
 refine wpAny_truthy_bool ?_
 cases k with
 |false=>exact ite_ff ⟨.bl false,H3,I3,rfl,q3⟩
 |true=>exact ite_tt (chain_last (cX (hc U s3 σ H3 _ I3 q3) λw' s4 ⟨z',H4,I4,r4,q4⟩=>lj U s4 σ H4 y z' u w' Q I4 r2 r4 q4))
theorem Xa{wn:CmpOp}{r r':R2}(ho:uU X (compareOp op) r)(lj:uU X (compareOp wn) r')(ha:PE X a ta)(hb:PE X b tb)(hc:PE X c tc)
  (hm:lastMarks [op,wn] [b,c]=false:=by with_unfolding_all rfl):PT X (.Compare a [op,wn] [b,c] pos) (Wk (Km r r' ta tb tc)):=by
 intro U s σ H Q I h
 refine isTrue_chain (cX (ha U s σ H _ I h) λv s1 ⟨x,H1,I1,r1,q1⟩=>test_link (cX (hb U s1 σ H1 _ I1 q1) λu s2 ⟨y,H2,I2,r2,q2⟩=>
  cX (ho U s2 σ H2 x y v u _ I2 r1 r2 q2) λd s3 ⟨z,H3,I3,r3,k,e,q3⟩=>?_)) hm
 subst e
 cases r3
 refine wpAny_truthy_bool ?_
 cases k with
 |false=>
  obtain⟨k',e',q'⟩:=q3
  cases e'
  exact ite_ff ⟨H3,I3,q'⟩
 |true=>
  refine ite_tt (test_last (cX (hc U s3 σ H3 _ I3 q3) λw' s4 ⟨z',H4,I4,r4,q4⟩=>cX (lj U s4 σ H4 y z' u w' _ I4 r2 r4 q4) λd' s5 ⟨z2,H5,I5,r5,k2,e2,q5⟩=>?_))
  subst e2
  cases r5
  exact wpAny_truthy_bool ⟨H5,I5,q5⟩
theorem Lc:(sizeLine:Nat)<2 ^ 63:=by rw[p8];decide
theorem zL{x:V}(r:bO [x] us):∃u,us=[u]/\cB x u:=by
 cases r with
 |cons r1 r2=>cases r2;exact⟨_,rfl,r1⟩
theorem yU:nM X (.builtin "ord") (λxs H Q=>∃x,xs=[.str x]/\x.length=1/\Q (.int (x.cps.getD 0 0:Nat)) H):=by
 intro U s σ H xs us Q I r h
 obtain⟨x,rfl,hz,q⟩:=h
 obtain⟨u,rfl,t,rfl⟩:=zL r
 exact ord_of_one hz ⟨.int _,H,I.tok _,⟨_,rfl⟩,q⟩
end
structure Lw(h:Heap)(x dx C:Addr)(mA:Str->Option Value):Prop where
 obj:h.get? x=some (instObj C dx)
 ns:h.Ns1 dx mA
 ne:dx≠x
theorem Rf{mA:Str->Option Value}(n:h.Ns1 dx mA):∃od,h.get? dx=some od/\∀name,lookIn name od=some (mA name):=by
 obtain⟨o,es,ep,ho,hd,hk,_,hm⟩:=n
 refine⟨o,ho,λname=>?_⟩
 have e:=hm name
 unfold nsFind findBy at e
 rw[<-NV] at e
 unfold lookIn
 rw[hd]
 dsimp only
 split
 ·rename_i y q
  rw[q] at e
  exact congrArg some e
 ·rename_i q
  rw[q] at e
  have a:es.toList.any (·.refKey)=false:=by
   rw[List.any_eq_false]
   intro y hy
   obtain⟨z,t,wo⟩:=hk y (Array.mem_toList_iff.mp hy)
   simp[DictEntry.refKey,wo]
  have a':¬es.toList.any (·.refKey)=true:=by rw[a];exact ca
  rw[ae a']
  exact congrArg some e
theorem Lw.look{x:Addr}{mA:Str->Option Value}(I:Lw h x dx C mA):∃od,PySem.W.InstAt h x (instObj C dx) C (some od)/\∀name,lookIn name od=some (mA name):=
 let ⟨od,ho,hl⟩:=Rf I.ns
 ⟨od,⟨I.obj,rfl,rfl,ho⟩,hl⟩
section
variable{x:Addr}{mA:Str->Option Value}{name:Str}
theorem aAr{expr:Bool}(X:K.In s.heap)(I:Lw s.heap x dx C mA)(hg:plainGet K C name=true)(hh:hasDictIn K C=true)
  (ha:findIn K (.ref C) name=some none) (hv:mA name=some v) (C6:handedIn v=true) (h:Q v {s with toks:=s.toks+1}):
  wpAny (model prog w) A (getAttr (.ref x) name expr) Q E s:=by
 obtain⟨od,J,hl⟩:=I.look
 exact PySem.W.get_value X J (plainGet_of hg).1 (PySem.W.findObj_own hh ha rfl (by rw[hl,hv])) C6 h
theorem So{pl:Sem Bool}{Q:Value×List Value->Shared->Prop}(X:K.In s.heap)(I:Lw s.heap x dx C mA)(hg:plainGet K C name=true)
  (hf:findIn K (.ref C) name=some (some (.ref f))) (ht:isFn K (.ref f)=true) (hv:mA name=none) (h:Q (.ref f,[.ref x]) s):
  wpAny (model prog w) A (getMethod (.ref x) name pl) Q E s:=by
 obtain⟨od,J,hl⟩:=I.look
 exact PySem.W.method_fn X J (plainGet_of hg).1 (plainGet_of hg).2 hf (cz.mp ht) (by show (lookIn name od).map (·.isSome)=some false;rw[hl,hv];rfl) h
theorem aAz{ns:List Str}{Q:Unit->Shared->Prop}(X:K.In s.heap)(I:Lw s.heap x dx C mA)
  (hs:findIn K (.ref C) "__setattr__"=some (some (.builtin "object.__setattr__"))) (hp:plainOver K C=true) (ht:takerIn K C name=some none) (hh:hasDictIn K C=true)
  (hw:PySem.Within mA ns) (hsz:ns.length<=sizeLine)
  (h:∀h',Lw h' x dx C (λy=>if y=name then some v else mA y)->Heap.SameBut dx s.heap h'->Q () {s with heap:=h',toks:=s.toks+2}):
  wpAny (model prog w) A (setAttr (.ref x) name v) Q E s:=by
 obtain⟨od,J,hl⟩:=I.look
 refine PySem.W.set_plain X J hs (PySem.W.osa_open (s:={s with toks:=s.toks+1}) (r:=none) X J hp ht λb=>?_)
 obtain⟨cd,hc,FN⟩:=PySem.W.any_some hh
 have hx:s.heap.get? x=some ⟨.ref C,some dx,.plain,#[]⟩:=I.obj
 refine ac (ag (ac (ac (wpAny_loadPart hx (ac (PySem.W.Looks.here (s:={s with toks:=s.toks+1}) (PySem.W.looks_clsIn X hc) ?_))))))
 rw[FN]
 refine ag (a:=some dx) (ac (ag (ac ?_)))
 refine wpAny_nsSet1 (s:={s with toks:=s.toks+1}) I.ns λh' nj lm=>?_
 obtain⟨oD,PY,PZ,FR,FT,C7⟩:=nj.count (PySem.Within.cons name v hw)
 refine ac (wpAny_lookBehind FR (by rw[FT];exact pastItsLine_dict (gu C7 (by rw[bh];omega))) ?_)
 exact ag (h _ ⟨(lm.2 _ (ax I.ne)).trans I.obj,nj,I.ne⟩ lm)
theorem Hw{R:Result->Shared->Prop}{vs:List Value}{kw:List (Str×Value)}(X:K.In s.heap)(hm:makesIn K C=true)
  (hi:findIn K (.ref C) "__init__"=some (some (.ref f))) (hf:PySem.W.typeIn K (.ref f)=some (.type "function"))
  (h:codeAny (model prog w) (A.under (.builtin "type.__call__" ⟨.ref C::vs,kw⟩)) (.call (.ref f) ⟨.ref (s.heap.objs.size+1)::vs,kw⟩) (PySem.W.InitBack (s.heap.objs.size+1) R)
   {s with heap:=(s.heap.push emptyDict).push (instObj C s.heap.objs.size)}):
  codeAny (model prog w) A (.call (.ref C) ⟨vs,kw⟩) R s:=by
 obtain⟨hh,g,d,t,os⟩:=s
 exact PySem.W.make_core (PySem.W.makes_of X hm) (PySem.W.looks_findIn X hi) (λself=>PySem.W.bind_fn X self hf) (.inl rfl) h
end
def mU(f:Str)(v:V):List (Str×V)->List (Str×V)
 |[]=>[(f,v)]
 |(g,x)::r=>if g=f then (g,v)::r else (g,x)::mU f v r
theorem oE(f g:Str)(v:V):∀fs:List (Str×V),(mU f v fs).lookup g=if g=f then some v else fs.lookup g
 |[]=>by
  show List.lookup g [(f,v)]=_
  by_cases h:g=f
  ·have hb:(g==f)=true:=cz.mpr h
   simp only[List.lookup,hb,af h]
  ·have hb:(g==f)=false:=pi.mpr h
   simp only[List.lookup,hb,ae h]
 |(k,x)::r=>by
  have ih:=oE f g v r
  rw[show mU f v ((k,x)::r)=(if k=f then (k,v)::r else (k,x)::mU f v r) from rfl]
  by_cases hk:k=f
  ·rw[af hk]
   by_cases h:g=k
   ·have hb:(g==k)=true:=cz.mpr h
    simp only[List.lookup,hb,af (h.trans hk)]
   ·have hb:(g==k)=false:=pi.mpr h
    simp only[List.lookup,hb,ae (λe:g=f=>h (e.trans hk.symm))]
  ·rw[ae hk]
   by_cases h:g=k
   ·have hb:(g==k)=true:=cz.mpr h
    simp only[List.lookup,hb,ae (λe:g=f=>hk (h.symm.trans e))]
   ·have hb:(g==k)=false:=pi.mpr h
    simp only[List.lookup,hb]
    exact ih
theorem tF(f:Str)(v:V):∀fs:List (Str×V),f∈(mU f v fs).map (·.1)/\∀g,g∈fs.map (·.1)->g∈(mU f v fs).map (·.1)
 |[]=>⟨by simp[mU],λg h=>by simp at h⟩
 |(k,x)::r=>by
  obtain⟨i1,i2⟩:=tF f v r
  rw[show mU f v ((k,x)::r)=(if k=f then (k,v)::r else (k,x)::mU f v r) from rfl]
  by_cases hk:k=f
  ·rw[af hk]
   subst hk
   exact⟨by simp,λg h=>by simpa using h⟩
  ·rw[ae hk]
   refine⟨?_,λg h=>?_⟩
   ·rw[bp]
    exact a7 _ i1
   ·rw[bp] at h ⊢
    rcases ao.mp h with e|e
    ·exact ao.mpr (.inl e)
    ·exact a7 _ (i2 g e)
theorem uT(f:Str)(v:V):∀fs:List (Str×V),(mU f v fs).length<=fs.length+1
 |[]=>by simp[mU]
 |(k,x)::r=>by
  have ih:=uT f v r
  rw[show mU f v ((k,x)::r)=(if k=f then (k,v)::r else (k,x)::mU f v r) from rfl]
  by_cases hk:k=f
  ·rw[af hk,bh,bh];omega
  ·rw[ae hk,bh,bh];omega
theorem mI.some_of{v:V}{o:Option Value}(r:mI (some v) o):∃u,o=some u/\cB v u:=by
 cases o with
 |none=>exact(show False from r).elim
 |some u=>exact⟨u,rfl,r⟩
theorem mI.none_of{o:Option Value}(r:mI none o):o=none:=by
 cases o with
 |none=>rfl
 |some u=>exact(show False from r).elim
theorem Py{v:V}(r:cB v u):handedIn u=true:=by
 cases v with
 |non=>cases (show u=Value.none from r);rfl
 |bl b=>cases (show u=Value.bool b from r);rfl
 |int i=>obtain⟨t,e⟩:=(show ∃t,u=Value.int i t from r);cases e;rfl
 |str x=>obtain⟨t,e⟩:=(show ∃t,u=Value.str x t from r);cases e;rfl
 |byt b=>obtain⟨t,e⟩:=(show ∃t,u=Value.bytes b t from r);cases e;rfl
 |flt b=>obtain⟨t,e⟩:=(show ∃t,u=Value.float b t from r);cases e;rfl
 |ref a=>cases (show u=Value.ref a from r);rfl
 |ty n=>cases (show u=Value.type n from r);rfl
section
variable{fs yy:List (Str×V)}
theorem Fa(hok:lK P w H h)(e:H a=some (.ins C dx fs)):∃mA,Lw h a dx C mA/\(∀f,mI (fs.lookup f) (mA f))/\PySem.Within mA (fs.map (·.1))/\fs.length<=1000/\H dx=some (.own a):=by
 obtain⟨d,z,ne,ob,mA,n,r,q⟩:=(show cJ P w H h a (.ins C dx fs) from hok a _ e)
 exact⟨mA,⟨ob,n,ne⟩,r,q,z,d⟩
end
structure Jh(K:Frag)(C:Addr):Prop where
 pg:plainGet K C Str.empty=true
 hd:hasDictIn K C=true
 po:plainOver K C=true
 sa:findIn K (.ref C) "__setattr__"=some (some (.builtin "object.__setattr__"))
theorem Jh.get(c:Jh K C)(f:Str):plainGet K C f=true:=c.pg
def dH(K:Frag)(C:Addr)(f:Str):Prop:=findIn K (.ref C) f=some none
theorem dH.taker{f:Str}(n:dH K C f):takerIn K C f=some none:=by
 unfold takerIn
 rw[show findIn K (.ref C) f=some none from n]
 rfl
structure aA9(K:Frag)(C:Addr)(m:Str)(f:Addr):Prop where
 at_:findIn K (.ref C) m=some (some (.ref f))
 fn:isFn K (.ref f)=true
 kp:keepIn K (.ref f)=true
section
variable{fs:List (Str×V)}{f:Str}{v:V}
theorem yA{b:Bool}(I:aQ X U σ H s)(e:H a=some (.ins C dx fs))(c:Jh X.K C)(n:dH X.K C f)(l:fs.lookup f=some v)
  (h:∀u s',aQ X U σ H s'->cB v u->Q u s'):wpAny (model X.prog X.w) A (getAttr (.ref a) f b) Q E s:=by
 obtain⟨mA,O,r,_,_,_⟩:=Fa I.hok e
 obtain⟨u,hu,ru⟩:=mI.some_of (v:=v) (o:=mA f) (by rw[<-l];exact r f)
 exact aAr I.kIn O (c.get f) c.hd n hu (Py ru) (h u _ (I.tok _) ru)
theorem zM{m:Str}{g:Addr}{pl:Sem Bool}{Q:Value×List Value->Shared->Prop}(I:aQ X U σ H s)(e:H a=some (.ins C dx fs))(c:Jh X.K C)(k:aA9 X.K C m g)(l:fs.lookup m=none)
  (h:Q (.ref g,[.ref a]) s):wpAny (model X.prog X.w) A (getMethod (.ref a) m pl) Q E s:=by
 obtain⟨mA,O,r,_,_,_⟩:=Fa I.hok e
 have hn:mA m=none:=mI.none_of (by rw[<-l];exact r m)
 exact So I.kIn O (c.get m) k.at_ k.fn hn h
theorem xV{Q:Unit->Shared->Prop}(I:aQ X U σ H s)(e:H a=some (.ins C dx fs))(c:Jh X.K C)(n:dH X.K C f)(hl:fs.length<1000)(ry:cB y u)
  (h:∀s',aQ X U σ (upd H a (.ins C dx (mU f y fs))) s'->Q () s'):wpAny (model X.prog X.w) A (setAttr (.ref a) f u) Q E s:=by
 obtain⟨mA,O,r,wi,_,ho⟩:=Fa I.hok e
 have hz:(fs.map (·.1)).length<=sizeLine:=by rw[ai,p8];omega
 refine aAz I.kIn O c.sa c.po n.taker c.hd wi hz λh' O' sb=>h _ ?_
 have hd:∃o,h'.get? dx=some o:=let ⟨o,_,_,e',_⟩:=O'.ns;⟨o,e'⟩
 refine I.write (x:=a) (e:=dx) (by rw[e];exact True.intro) (.inr ho) (λb q hb z=>(sb.2 b hb).trans z) hd ?_
 refine⟨by rw[aC O.ne];exact ho,?_,O.ne,O'.obj,_,O'.ns,λg=>?_,λg hg=>?_⟩
 ·have:=uT f y fs;omega
 ·show mI ((mU f y fs).lookup g) (if g=f then some u else mA g)
  rw[oE]
  by_cases q:g=f
  ·rw[af q,af q];exact ry
  ·rw[ae q,ae q];exact r g
 ·by_cases q:g=f
  ·rw[q];exact(tF f y fs).1
  ·refine(tF f y fs).2 g (wi g λz=>hg ?_)
   show (if g=f then some u else mA g)=none
   rw[ae q];exact z
theorem aQ.made(I:aQ X U σ H s):aQ X U σ (upd (upd H s.heap.objs.size (.own (s.heap.objs.size+1))) (s.heap.objs.size+1) (.ins C s.heap.objs.size []))
  {s with heap:=(s.heap.push emptyDict).push (instObj C s.heap.objs.size)}:=by
 have e1:(s.heap.push emptyDict).get? s.heap.objs.size=some emptyDict:=cg s.heap rfl
 have e2:((s.heap.push emptyDict).push (instObj C s.heap.objs.size)).get? (s.heap.objs.size+1)=some (instObj C s.heap.objs.size):=by
  have:=cg (s.heap.push emptyDict) (o:=instObj C s.heap.objs.size) rfl
  rwa [ic] at this
 have e3:(s.heap.push emptyDict).Ns s.heap.objs.size (λ_=>none):=⟨emptyDict,#[],_,e1,rfl,(λe he=>absurd he (by simp)),λ_=>rfl⟩
 have I1:=I.laid (a:=s.heap.objs.size) (o:=.own (s.heap.objs.size+1)) (h':=s.heap.push emptyDict) (t':=s.toks) (λb u q=>bj _ q) (ap _) ⟨_,e1⟩
 refine I1.laid (a:=s.heap.objs.size+1) (o:=.ins C s.heap.objs.size []) (t':=s.toks) (λb u q=>bj _ q) (vi (ic _ _)) ?_
 have ne:s.heap.objs.size≠s.heap.objs.size+1:=b9 (k8 _)
 refine⟨by rw[aC ne,aB],c8 _,ne,e2,λ_=>none,(Heap.Ns1.of_empty e3).at λo q=>bj _ q,λ_=>True.intro,λy hy=>absurd rfl hy⟩
theorem Mp{f:Str}(hb:attributeBase e f env (eval e env)=eval e env)
  (h:wpAny (model prog w) A (eval e env) (λo az=>wpAny (model prog w) A (getAttr o f true) Q E az) E s):wpAny (model prog w) A (eval (.Attribute e f pos) env) Q E s:=
 Attribute_any_ h (by rw[arm_eval_Attribute,hb])
end
def Zc(K:Frag)(ta:TE)(f:Str):TE:=fun σ H Q=>ta σ H λx H1=>∃a C dx fs v,x=.ref a/\H1 a=some (.ins C dx fs)/\Jh K C/\dH K C f/\fs.lookup f=some v/\Q v H1
def aD1(K:Frag)(ta tv:TE)(f:Str):TS:=λD σ H=>tv σ H λy H1=>ta σ H1 λx H2=>∃a C dx fs,x=.ref a/\H2 a=some (.ins C dx fs)/\Jh K C/\dH K C f/\fs.length<1000/\
 D.nx σ (upd H2 a (.ins C dx (mU f y fs)))
def aFt(X:Cx)(op:Operator)(rd:V->V->Hp->VK->Prop):Prop:=
 ∀(U:List (Addr×Obj)) (s:Shared) (σ:St) (H:Hp) (x y:V) (u v:Value) (Q:VK),aQ X U σ H s->cB x u->cB y v->rd x y H Q->wpAny (model X.prog X.w) X.A (inplaceOp op u v) (EP X U σ Q) X.xe s
def Zy(K:Frag)(ta tv:TE)(rd:V->V->Hp->VK->Prop)(f:Str):TS:=λD σ H=>ta σ H λx H1=>∃a C dx fs v,x=.ref a/\H1 a=some (.ins C dx fs)/\Jh K C/\dH K C f/\fs.lookup f=some v/\
 tv σ H1 λy H2=>rd v y H2 λz H3=>∃FU yy,H3 a=some (.ins C FU yy)/\yy.length<1000/\D.nx σ (upd H3 a (.ins C FU (mU f z yy)))
section
variable{o value:Expr}{f:Str}{mf:Pos}{tv:TE}{ta:TE}
theorem aT(he:PE X e ta)(hb:attributeBase e f X.env (eval e X.env)=eval e X.env):PE X (.Attribute e f pos) (Zc X.K ta f):=by
 intro U s σ H Q I h
 refine Mp hb (cX (he U s σ H _ I h) λu s1 ⟨x,H1,I1,rx,a,C,dx,fs,v,ex,ea,c,n,l,q⟩=>?_)
 subst ex
 obtain rfl:u=Value.ref a:=rx
 exact yA I1 ea c n l λu' s2 I2 ru=>⟨v,H1,I2,ru,q⟩
theorem eE(ha:PE X o ta)(hv:PE X value tv)(hs:swapsWith value (some (.Attribute o f mf)) pos.line X.env=pure false):PS X (.Assign [.Attribute o f mf] value pos) (aD1 X.K ta tv f):=by
 intro U s σ H D I h
 refine plainObj_wpAny_Assign_Attribute (cX (hv U s σ H _ I h) λu s1 ⟨y,H1,I1,ry,q⟩=>cX (ha U s1 σ H1 _ I1 q) λov s2 ⟨x,H2,I2,rx,a,C,dx,fs,ex,ea,c,n,l,q2⟩=>?_) hs
 subst ex
 obtain rfl:ov=Value.ref a:=rx
 exact xV I2 ea c n l ry λs3 I3=>⟨σ,_,I3,q2⟩
theorem Qh{op:Operator}{rd:V->V->Hp->VK->Prop}(ha:PE X o ta)(hv:PE X value tv)(P0:aFt X op rd):PS X (.AugAssign (.Attribute o f i3) op value pos) (Zy X.K ta tv rd f):=by
 intro U s σ H D I h
 refine wpAny_AugAssign_AttributeAny (cX (ha U s σ H _ I h) λov s1 ⟨x,H1,I1,rx,a,C,dx,fs,v,ex,ea,c,n,l,q⟩=>?_)
 subst ex
 obtain rfl:ov=Value.ref a:=rx
 refine yA I1 ea c n l λu s2 I2 ru=>cX (hv U s2 σ H1 _ I2 q) λw3 s3 ⟨y,H2,I3,ry,q3⟩=>cX (P0 U s3 σ H2 v y u w3 _ I3 ru ry q3) λw4 s4 ⟨z,H3,I4,rz,FU,yy,P1,l',q4⟩=>?_
 exact xV I4 P1 c n l' rz λs5 I5=>⟨σ,_,I5,q4⟩
def aGy:V->V->Hp->VK->Prop:=λx y H Q=>∃i j,x=.int i/\y=.int j/\Q (.int (i+j)) H
theorem aD3:aFt X .Add aGy:=by
 rintro U s σ H x y u v Q I rx ry ⟨i,j,rfl,rfl,q⟩
 obtain⟨t,rfl⟩:=(show ∃t,u=Value.int i t from rx)
 obtain⟨t',rfl⟩:=(show ∃t',v=Value.int j t' from ry)
 exact PyProof.Rows.iadd_int ⟨.int (i+j),H,I.tok _,⟨_,rfl⟩,q⟩
end
section
variable{c:Value}{b:Bool}
end
structure eX(k:Nat)(A:Around):Prop where
 hd:A.handled=none
 dp:A.depth+3 * k+5<recursionLimit
 un:A.units+16 * k+200<cLine
theorem eX.mono(r:eX k A)(h:j<=k):eX j A:=⟨r.hd,by have:=r.dp;omega,by have:=r.un;omega⟩
theorem eX.deeper(r:eX (k+1) A)(env:Env):eX k (A.deeper env):=
 ⟨r.hd,by have:=r.dp;show A.depth+1+3 * k+5<_;omega,by have:=r.un;show A.units+3+16 * k+200<_;omega⟩
theorem eX.in1(r:eX (k+1) A):eX k A.in1:=
 ⟨r.hd,by have:=r.dp;show A.depth+3 * k+5<_;omega,by have:=r.un;show A.units+1+16 * k+200<_;omega⟩
theorem xB{kw:List (Str×Value)}:(A.under (.builtin "type.__call__" ⟨.ref C::us,kw⟩)).depth=A.depth+1:=by
 first|rfl|simp[Around.under,Code.weight,Code.isCreation,Code.isGuard,Code.isCaller,Code.frames,Code.isFrame,guardIds]
theorem xZ{kw:List (Str×Value)}:(A.under (.builtin "type.__call__" ⟨.ref C::us,kw⟩)).units=A.units+1:=by
 first|rfl|simp[Around.under,Code.cUnits,Code.frames,Code.isFrame]
theorem eX.make(r:eX (k+1) A)(C:Addr)(us:List Value)(kw:List (Str×Value)):eX k (A.under (.builtin "type.__call__" ⟨.ref C::us,kw⟩)):=
 ⟨r.hd,by have:=r.dp;rw[xB];omega,by have:=r.un;rw[xZ];omega⟩
theorem eX.depth(r:eX k A):A.depth<recursionLimit:=by have:=r.dp;omega
theorem eX.units(r:eX k A):A.units+64<cLine:=by have:=r.un;omega
def gM:TA:=λ_ H Q=>Q [] H
def dP(ta:TE)(tr:TA):TA:=fun σ H Q=>ta σ H λx H1=>tr σ H1 λxs H2=>Q (x::xs) H2
section
variable{es:List Expr}{t:TA}
theorem aE:PA X [] gM:=λ_ _ _ _ H Q I h=>Calls.spliced_nil ⟨[],H,I,.nil,h⟩
theorem aA(ha:PE X e te)(hr:PA X es t)(hs:starEach (e::es) X.env=(false,eval e X.env)::starEach es X.env:=by rfl):PA X (e::es) (dP te t):=by
 intro pos U s σ H Q I h
 rw[hs]
 show wpAny _ _ (spliced ((false,eval e X.env)::backTo pos (starEach es X.env))) _ _ s
 refine Calls.spliced_cons (cX (ha U s σ H _ I h) λu s1 ⟨x,H1,I1,r1,q1⟩=>?_)
 exact cX (hr pos U s1 σ H1 _ I1 q1) λus s2 ⟨xs,H2,I2,r2,q2⟩=>⟨x::xs,H2,I2,.cons r1 r2,q2⟩
def aBb(t:TA):TE:=fun σ H Q=>t σ H λxs H1=>xs.length<=sizeLine/\∀p,H1 p=none->Q (.ref p) (upd H1 p (.tup xs))
def aGv(t:TA):TE:=fun σ H Q=>t σ H λxs H1=>xs.length<=sizeLine/\∀p,H1 p=none->Q (.ref p) (upd H1 p (.lst xs))
theorem eD{x1}(h:PA X es t):PE X (.Tuple es x1 pos) (aBb t):=by
 intro U s σ H Q I hq
 refine wpAny_Tuple_spliced (cX (h pos U s σ H _ I hq) λus s1 ⟨xs,H1,I1,r,z,q⟩=>⟨by rw[<-r.length];exact z,?_⟩)
 have hf:H1 s1.heap.objs.size=none:=I1.hok.fresh (ap _)
 refine⟨.ref s1.heap.objs.size,upd H1 s1.heap.objs.size (.tup xs),I1.laid (t':=s1.toks) (λb u e=>bj _ e) (ap _) ?_,rfl,q _ hf⟩
 exact⟨z,us,r,⟨_,cg _ rfl,rfl,_,rfl⟩⟩
theorem eN(h:PA X es t):PE X (.List es pos) (aGv t):=by
 intro U s σ H Q I hq
 refine wpAny_List_spliced (cX (h pos U s σ H _ I hq) λus s1 ⟨xs,H1,I1,r,z,q⟩=>⟨by rw[<-r.length];exact z,?_⟩)
 have hf:H1 s1.heap.objs.size=none:=I1.hok.fresh (ap _)
 refine⟨.ref s1.heap.objs.size,upd H1 s1.heap.objs.size (.lst xs),I1.laid (t':=s1.toks) (λb u e=>bj _ e) (ap _) ?_,rfl,q _ hf⟩
 exact⟨z,us,0,r,cg _ rfl⟩
end
abbrev Sp:=List V->Hp->VK->XK->Prop
abbrev Ji:=List Env->Hp->Shared->XK->Value->Shared->Prop
structure yY(P:Program)(w:World)(K:Frag)(mg:Str->Option Value)(base:Heap)(A:Around)(outer:List Env)(s:Shared)(H:Hp):Prop where
 frames:A.frames=some outer
 mod:Mod K mg base
 bs:∀b o,base.get? b=some o->s.heap.get? b=some o/\H b=none
 bsz:base.objs.size<=s.heap.objs.size
 funs:s.heap.FunFrames base outer
 frf:∀b∈Aj outer,H b=none
 hok:lK P w H s.heap
 bare:AllBare s.gens
def CE(outer:List Env)(P:Program)(w:World)(H:Hp)(s:Shared)(Q:VK)(u:Value)(s':Shared):Prop:=
 ∃v H',s'.os=s.os/\AllBare s'.gens/\Un (Aj outer) [] H H' s.heap s'.heap/\lK P w H' s'.heap/\cB v u/\Q v H'
def Cr9(CX:Ji)(outer:List Env)(P:Program)(w:World)(H:Hp)(s:Shared)(Q:VK)(E:XK)(r:Result)(s':Shared):Prop:=
 match r with
 |.ok (.ret u)=>CE outer P w H s Q u s'
 |.ok _=>False
 |.error e=>CX outer H s E e s'
structure bV(P:Program)(w:World)(K:Frag)(mg:Str->Option Value)(base:Heap)(CX:Ji)(k:Nat)(f:Addr)(fd:FuncData)(ps:List Str)(sp:Sp):Prop where
 len:∀vs H Q E,sp vs H Q E->vs.length=ps.length
 run:∀(A:Around)(outer:List Env)(s:Shared)(H:Hp)(args:Args)(us:List Value)(vs:List V)(Q:VK)(E:XK),eX k A->yY P w K mg base A outer s H->BindsTo s fd args (ps.zip us)->bO vs us->sp vs H Q E->
  codeAny (model P w) A (.call (.ref f) args) (Cr9 CX outer P w H s Q E) s
theorem yY.make{outer:List Env}(e:yY P w K mg base A outer s H)(C:Addr)(us:List Value)(kw:List (Str×Value)):
  yY P w K mg base (A.under (.builtin "type.__call__" ⟨.ref C::us,kw⟩)) outer s H:=⟨by first|exact e.frames|(simpa[Around.under,Code.envs,Code.isFrame,pushEnvs] using e.frames),e.mod,e.bs,e.bsz,e.funs,e.frf,e.hok,e.bare⟩
theorem yY.in1{outer:List Env}(e:yY P w K mg base A outer s H):
  yY P w K mg base A.in1 outer s H:=⟨e.frames,e.mod,e.bs,e.bsz,e.funs,e.frf,e.hok,e.bare⟩
section
variable{s':Shared}
theorem aQ.env0(I:aQ X U σ H s):yY X.prog X.w X.K X.mg X.base X.A X.stack s H:=
 ⟨I.ok.frames,I.ok.mod,I.bs,gu I.ok.bsz I.sz,I.stack,I.stkFree,I.hok,I.bare⟩
theorem aQ.after{Q:VK}(I:aQ X U σ H s)(h:CE X.stack X.prog X.w H s Q u s'):EP X U σ Q u s':=by
 obtain⟨v,H',os,bare,un,hok,r,q⟩:=h
 obtain⟨hh,g,d,t,AX⟩:=s'
 obtain rfl:AX=s.os:=os
 exact⟨v,H',I.call (h':=hh) (g':=g) (d':=d) (t':=t) (ch:=[]) un hok bare (λb z=>absurd z (by simp)),r,q⟩
end
def Hc(sp:Sp)(gm:List V)(E:XK)(t:TA):TE:=fun σ H Q=>t σ H λvs H1=>sp (vs++gm) H1 Q E
def oF(C:Addr)(m:Str)(sp:Sp)(gm:List V)(E:XK)(ta:TE)(t:TA):TE:=fun σ H Q=>ta σ H λx H1=>∃a dx fs,x=.ref a/\H1 a=some (.ins C dx fs)/\fs.lookup m=none/\
 t σ H1 λvs H2=>sp (x::(vs++gm)) H2 Q E
def Na(C:Addr)(sp:Sp)(gm:List V)(E:XK)(t:TA):TE:=fun σ H Q=>t σ H λvs H1=>∀x dx,H1 x=none->H1 dx=none->dx≠x->
 sp (.ref x::(vs++gm)) (upd (upd H1 dx (.own x)) x (.ins C dx [])) (λv H2=>v=.non/\Q (.ref x) H2) E
def eT(K:Frag)(fd:FuncData)(ps:List Str)(ds:List Value):Prop:=
 ∀(s:Shared)(us:List Value),K.In s.heap->(us++ds).length=ps.length->BindsTo s fd ⟨us,[]⟩ (ps.zip (us++ds))
theorem eT.all(h:∀us:List Value,us.length=ps.length->bindArgs fd ⟨us,[]⟩=pure (ps.zip us)):eT K fd ps []:=λs us _ hl=>by
 rw[fh] at hl ⊢
 exact .of_eq (h us hl)
def jC(CX:Ji)(X:Cx)(E:XK):Prop:=∀(U:List (Addr×Obj)) (σ:St) (H:Hp) (s:Shared) (e:Value) (s':Shared),aQ X U σ H s->CX X.stack H s E e s'->X.xe e s'
section
variable{CX:Ji}{gm:List V}{ds:List Value}{E:XK}{m:Str}{p ig:Pos}{o:Expr}{es:List Expr}{t:TA}{sp:Sp}{ta:TE}
theorem Ki{Q:VK}{vs:List V}(F:bV X.prog X.w X.K X.mg X.base CX k f fd ps sp)(hr:eX k X.A)(hb:eT X.K fd ps ds)(hd:bO gm ds)(hx:jC CX X E)
  (I:aQ X U σ H s) (r:bO vs us) (h:sp (vs++gm) H Q E):wpAny (model X.prog X.w) X.A (call (.ref f) us) (EP X U σ Q) X.xe s:=by
 have r2:bO (vs++gm) (us++ds):=r.append hd
 have hl:(us++ds).length=ps.length:=by rw[<-r2.length];exact F.len _ _ _ _ h
 refine AD (t8 (F.run X.A X.stack s H ⟨us,[]⟩ (us++ds) (vs++gm) Q E hr I.env0 (hb s us I.kIn hl) r2 h) λr s' hq=>?_)
 cases r with
 |error e=>exact hx U σ H s e s' I hq
 |ok fl=>
  cases fl with
  |ret u=>exact I.after hq
  |next=>exact False.elim hq
  |brk=>exact False.elim hq
  |cont=>exact False.elim hq
theorem aP(F:bV X.prog X.w X.K X.mg X.base CX k f fd ps sp)(hr:eX k X.A)(hg:Gl X x)(hm:X.mg x=some (.ref f))(hk:keepIn X.K (.ref f)=true)(hb:eT X.K fd ps ds)(hd:bO gm ds)(hx:jC CX X E)
  (ha:PA X (e::es) t) (gn:(x==("__debug__":Str))=false:=by decide) (he:starEach (e::es) X.env=(false,eval e X.env)::starEach es X.env:=by rfl) (fv:(backTo pos (starEach es X.env)).any (·.1)=false:=by rfl):
  PE X (.Call (.Name x p) (e::es) [] pos) (Hc sp gm E t):=by
 intro U s σ H Q I h
 refine wpAny_Call_Name_kw (iT I hg hm ?_ gn)
 refine callWith_K (h₀:=X.base) I.ok.mod.kin hk (cX (ha pos U s σ H _ I h) λus s1 ⟨vs,H1,I1,r,q⟩=>⟨I1.kIn,?_⟩) he fv
 exact Ki F hr hb hd hx I1 r q
theorem dC{pl:Sem Bool}(he:PE X o ta)(c:Jh X.K C)(hm:aA9 X.K C m f)(F:bV X.prog X.w X.K X.mg X.base CX k f fd ps sp)(hr:eX k X.A)(hb:eT X.K fd ps ds)(hd:bO gm ds)(hx:jC CX X E)(ha:PA X (e::es) t)
  (fc:starEach (e::es) X.env=(false,eval e X.env)::starEach es X.env:=by rfl) (fv:(backTo pos (starEach es X.env)).any (·.1)=false:=by rfl)
  (ht:eval (.Call (.Attribute o m ig) (e::es) [] pos) X.env=(do
   let ov <-eval o X.env
   standAt ig.atName
   let (f,first) <-holding [ov] (getMethod ov m pl)
   callWith pos f first (backTo pos (starEach (e::es) X.env)) (backToKw pos (keywordEach [] X.env))):=by rfl):
  PE X (.Call (.Attribute o m ig) (e::es) [] pos) (oF C m sp gm E ta t):=by
 intro U s σ H Q I h
 refine PySem.W.methodCall_KW (pl:=pl) (cX (he U s σ H _ I h) λu s1 ⟨x,H1,I1,rx,a,dx,fs,ex,ea,l,q⟩=>?_) ht
 subst ex
 obtain rfl:u=Value.ref a:=rx
 refine zM I1 ea c hm l ?_
 refine callWith_K (first:=[.ref a]) (h₀:=X.base) I.ok.mod.kin hm.kp (cX (ha pos U s1 σ H1 _ I1 q) λus s2 ⟨vs,H2,I2,r,q2⟩=>⟨I2.kIn,?_⟩) fc fv
 exact Ki (us:=.ref a::us) (vs:=.ref a::vs) F hr hb hd hx I2 (.cons rfl r) q2
theorem cF{pl:Sem Bool}(he:PE X o ta)(c:Jh X.K C)(hm:aA9 X.K C m f)(F:bV X.prog X.w X.K X.mg X.base CX k f fd ps sp)(hr:eX k X.A)(hb:eT X.K fd ps ds)(hd:bO gm ds)(hx:jC CX X E)
  (ht:eval (.Call (.Attribute o m ig) [] [] pos) X.env=(do
   let ov <-eval o X.env
   standAt ig.atName
   let (f,first) <-holding [ov] (getMethod ov m pl)
   callWith pos f first (backTo pos (starEach [] X.env)) (backToKw pos (keywordEach [] X.env))):=by rfl):
  PE X (.Call (.Attribute o m ig) [] [] pos) (oF C m sp gm E ta gM):=by
 intro U s σ H Q I h
 refine PySem.W.methodCall_KW (pl:=pl) (cX (he U s σ H _ I h) λu s1 ⟨x,H1,I1,rx,a,dx,fs,ex,ea,l,q⟩=>?_) ht
 subst ex
 obtain rfl:u=Value.ref a:=rx
 refine zM I1 ea c hm l ?_
 exact callWith_K0 (first:=[.ref a]) I1.kIn hm.kp (Ki (us:=[.ref a]) (vs:=[.ref a]) F hr hb hd hx I1 (.cons rfl .nil) q)
structure Mk(K:Frag)(C f:Addr):Prop where
 makes:makesIn K C=true
 init:findIn K (.ref C) "__init__"=some (some (.ref f))
 fn:isFn K (.ref f)=true
 kp:keepIn K (.ref C)=true
theorem Ig{Q:VK}{vs:List V}(M:Mk X.K C f)(F:bV X.prog X.w X.K X.mg X.base CX k f fd ps sp)(hr:eX (k+1) X.A)(hb:eT X.K fd ps ds)(hd:bO gm ds)
  (hx:jC CX X E) (I:aQ X U σ H s) (r:bO vs us)
  (h:∀x dx,H x=none->H dx=none->dx≠x->sp (.ref x::(vs++gm)) (upd (upd H dx (.own x)) x (.ins C dx [])) (λv H2=>v=.non/\Q (.ref x) H2) E):
  wpAny (model X.prog X.w) X.A (call (.ref C) us) (EP X U σ Q) X.xe s:=by
 have hq:=h (s.heap.objs.size+1) s.heap.objs.size (I.hok.fresh (AE _)) (I.hok.fresh (ap _)) (b9 (k8 _))
 have I2:=aQ.made (C:=C) I
 have r2:bO (V.ref (s.heap.objs.size+1)::(vs++gm)) (Value.ref (s.heap.objs.size+1)::(us++ds)):=.cons rfl (r.append hd)
 have hl:(Value.ref (s.heap.objs.size+1)::us++ds).length=ps.length:=by
  have e:=r2.length
  rw[F.len _ _ _ _ hq] at e
  exact e.symm
 refine AD (Hw (f:=f) I.kIn M.makes M.init (cz.mp M.fn) (t8 (F.run _ X.stack _ _ ⟨Value.ref (s.heap.objs.size+1)::us,[]⟩ (Value.ref (s.heap.objs.size+1)::(us++ds)) _ _ E (hr.make C us [])
  (I2.env0.make C us []) (hb _ (Value.ref (s.heap.objs.size+1)::us) I2.kIn hl) r2 hq) λr s' i4=>?_))
 cases r with
 |error e=>exact hx U σ _ _ e s' I2 i4
 |ok fl=>
  cases fl with
  |ret u=>
   obtain⟨v,H',I3,rv,ev,q3⟩:=I2.after i4
   subst ev
   exact⟨rv,⟨V.ref (s.heap.objs.size+1),H',I3,rfl,q3⟩⟩
  |next=>exact False.elim i4
  |brk=>exact False.elim i4
  |cont=>exact False.elim i4
theorem oV(M:Mk X.K C f)(F:bV X.prog X.w X.K X.mg X.base CX k f fd ps sp)(hr:eX (k+1) X.A)(hg:Gl X x)(hm:X.mg x=some (.ref C))(hb:eT X.K fd ps ds)(hd:bO gm ds)(hx:jC CX X E)
  (ha:PA X (e::es) t) (gn:(x==("__debug__":Str))=false:=by decide) (he:starEach (e::es) X.env=(false,eval e X.env)::starEach es X.env:=by rfl) (fv:(backTo pos (starEach es X.env)).any (·.1)=false:=by rfl):
  PE X (.Call (.Name x p) (e::es) [] pos) (Na C sp gm E t):=by
 intro U s σ H Q I h
 refine wpAny_Call_Name_kw (iT I hg hm ?_ gn)
 refine callWith_K (h₀:=X.base) I.ok.mod.kin M.kp (cX (ha pos U s σ H _ I h) λus s1 ⟨vs,H1,I1,r,q⟩=>⟨I1.kIn,?_⟩) he fv
 exact Ig M F hr hb hd hx I1 r q
theorem Uu(M:Mk X.K C f)(F:bV X.prog X.w X.K X.mg X.base CX k f fd ps sp)(hr:eX (k+1) X.A)(hg:Gl X x)(hm:X.mg x=some (.ref C))(hb:eT X.K fd ps ds)(hd:bO gm ds)(hx:jC CX X E)
  (gn:(x==("__debug__":Str))=false:=by decide):PE X (.Call (.Name x p) [] [] pos) (Na C sp gm E gM):=by
 intro U s σ H Q I h
 refine wpAny_Call_Name_kw (iT I hg hm ?_ gn)
 exact callWith_K0 I.kIn M.kp (Ig (us:=[]) M F hr hb hd hx I .nil h)
end
section
variable{CX:Ji}{ks:List Str}{E:XK}{m:Str}{p ig WA:Pos}{o:Expr}{es:List Expr}{WB:List Keyword}{t tk:TA}{nm:Option Str}{sp:Sp}{ta:TE}
variable{g:List Value->List Value->List Value}{gV:List V->List V->List V}
end
structure aN(N P:List Str)(sc:Scope):Prop where
 kind:sc.kind=.function
 co:sc.isCoroutine=false
 gen:sc.isGenerator=false
 nd:N.Nodup
 pre:N.take P.length=P
 par:∀x∈P,sc.names.lookup x=some .local\/sc.names.lookup x=some .cell
 nofree:∀y∈sc.names,y.2≠.free
theorem Bp{kindOf:Str->Option NameKind}:∀{binds:List (Str×Value)} {m:Str->Option Value},(∀v,(x,v)∉binds)->bindL kindOf binds m x=m x
 |[],_,_=>rfl
 |(n,v)::r,m,h=>by
  unfold bindL
  rw[Bp λw hw=>h w (a7 _ hw)]
  split
  ·have:x≠n:=by rintro rfl;exact h v bf
   simp[this]
  ·rfl
theorem Bu{kindOf:Str->Option NameKind}:∀{binds:List (Str×Value)} {m:Str->Option Value},(∀v,(x,v)∉binds)->bindC kindOf binds m x=m x
 |[],_,_=>rfl
 |(n,v)::r,m,h=>by
  unfold bindC
  rw[Bu λw hw=>h w (a7 _ hw)]
  split
  ·rfl
  ·have:x≠n:=by rintro rfl;exact h v bf
   simp[this]
theorem Av{kindOf:Str->Option NameKind}:∀{P:List Str}{vs:List Value}{i:Nat}{m:Str->Option Value},P.Nodup->P[i]?=some x->vs[i]?=some v->kindOf x=some .local->
  bindL kindOf (P.zip vs) m x=some v
 |[],_,_,_,_,h,_,_=>by simp at h
 |_::_,[],_,_,_,_,h,_=>by simp at h
 |p::P,w::vs,0,m,nd,h1,h2,hk=>by
  simp at h1 h2;subst h1;subst h2
  show bindL kindOf ((p,w)::P.zip vs) m p=_
  unfold bindL
  rw[Bp λv hv=>(qb.mp nd).1 (B4 hv).1,af hk]
  simp
 |p::P,w::vs,i+1,m,nd,h1,h2,hk=>by
  show bindL kindOf ((p,w)::P.zip vs) m x=_
  unfold bindL
  exact Av (i:=i) (qb.mp nd).2 (by simpa using h1) (by simpa using h2) hk
theorem Bo{kindOf:Str->Option NameKind}:∀{P:List Str}{vs:List Value}{i:Nat}{m:Str->Option Value},P.Nodup->P[i]?=some x->vs[i]?=some v->kindOf x≠some .local->
  bindC kindOf (P.zip vs) m x=some v
 |[],_,_,_,_,h,_,_=>by simp at h
 |_::_,[],_,_,_,_,h,_=>by simp at h
 |p::P,w::vs,0,m,nd,h1,h2,hk=>by
  simp at h1 h2;subst h1;subst h2
  show bindC kindOf ((p,w)::P.zip vs) m p=_
  unfold bindC
  rw[Bu λv hv=>(qb.mp nd).1 (B4 hv).1,ae hk]
  simp
 |p::P,w::vs,i+1,m,nd,h1,h2,hk=>by
  show bindC kindOf ((p,w)::P.zip vs) m x=_
  unfold bindC
  exact Bo (i:=i) (qb.mp nd).2 (by simpa using h1) (by simpa using h2) hk
def mS(N:List Str)(vs:List V):St:=vs.map some++List.replicate (N.length - vs.length) none
def Eh(CX:Ji)(P:Program)(w:World)(K:Frag)(mg:Str->Option Value)(base:Heap)(N:List Str)(aq:Str)(scope:Scope)(f:Addr)(cd:Value)(A:Around)(outer:List Env)(s:Shared)(H:Hp)(E:XK):Cx where
 prog:=P
 w:=w
 K:=K
 mg:=mg
 base:=base
 A:=A.deeper (envOfC aq scope s.heap.objs.size f cd)
 N:=N
 s_0:=s
 H_0:=H
 env:=envOfC aq scope s.heap.objs.size f cd
 outer:=outer
 stack:=envOfC aq scope s.heap.objs.size f cd::outer
 ex:=[]
 calm:=true
 fn:=λ_=>true
 pn:=[]
 xe:=λe s'=>wpAny (model P w) (A.deeper (envOfC aq scope s.heap.objs.size f cd)) (leaving (envOfC aq scope s.heap.objs.size f cd) e) (λ_ AY=>CX outer H s E e AY) (λe' AY=>CX outer H s E e' AY) s'
theorem Gk{sc:Scope}{n:Nat}(h:sc.names.lookup x=some .cell):∃c,(cellsFrom n sc.names []).lookup x=some c:=by
 have q:=cellsFrom_some sc.names n [] (.inl h)
 exact vj.mp q
theorem Ah{CX:Ji}{N:List Str}{cd:Value}{outer:List Env}{s1:Shared}{E:XK}{vs:List V}
  (S:aN N ps scope) (hd:A.handled=none) (e0:yY P w K mg base A outer s H) (hl:vs.length=ps.length) (r:bO vs us)
  (x:InCallC s s.heap.objs.size (bindL (envOfC aq scope s.heap.objs.size f cd).kindOf (ps.zip us) λ_=>none) (cellsFrom (s.heap.objs.size+1) scope.names []) (bindC (envOfC aq scope s.heap.objs.size f cd).kindOf (ps.zip us) λ_=>none) s1):
  aQ (Eh CX P w K mg base N aq scope f cd A outer s H E) [] (mS N vs) H s1:=by
 have fv:ps.length<=N.length:=by have:=congrArg List.length S.pre;rw[fj] at this;omega
 obtain⟨h1,tk,rfl,hk⟩:=x.done
 have y9:∀b:Addr,b∉(Eh CX P w K mg base N aq scope f cd A outer s H E).ex:=λb z=>absurd (show b∈([]:List Addr) from z) (by simp)
 refine⟨⟨e0.mod,S.kind,rfl,rfl,ap _,λy z c h1 h2=>?_,λy hy=>?_,λy c _ h=>?_,λ_=>hd,Around.frames_deeper e0.frames,.inr ⟨rfl,rfl⟩,λb z=>absurd z (y9 b),e0.bs,e0.bsz,λb _ _=>y9 b,λb z=>absurd z (y9 b),e0.funs,e0.frf⟩,
  rfl,e0.bare,Un.kept hk,⟨_,x.toInCall.ns,λi y v h1 h2 h3=>?_⟩,λy c h=>⟨_,x.cell y c h⟩,e0.hok.fresh (ap _),λy c h=>?_,λp hp=>absurd (show p∈([]:List (Addr×Obj)) from hp) (by simp),e0.hok.kept hk,?_⟩
 ·exact name_of_addr x.apart (PySem.mem_of_lookup h1) (PySem.mem_of_lookup h2)
 ·have hy:scope.names.lookup y=some .cell\/scope.names.lookup y=some .free:=hy
  rcases hy with hy|hy
  ·exact Gk hy
  ·exact absurd rfl (S.nofree _ (PySem.mem_of_lookup hy))
 ·exact B3 (x.above y c (PySem.mem_of_lookup h))
 ·have hi:i<vs.length:=by
   unfold mS at h2
   by_cases hi:i<vs.length
   ·exact hi
   ·rw[JE (by simpa using hi)] at h2
    rw[NW] at h2
    split at h2<;>cases h2
  have ha:vs[i]?=some v:=by
   unfold mS at h2
   rw[JF (by simpa using hi),a9] at h2
   cases e:vs[i]? with
   |none=>rw[e] at h2;cases h2
   |some a=>rw[e] at h2;cases h2;rfl
  obtain⟨u,hu,rv⟩:=r.get ha
  have hp:ps[i]?=some y:=by
   rw[<-S.pre,List.getElem?_take_of_lt (by omega)];exact h1
  have KD:ps.Nodup:=by rw[<-S.pre];exact S.nd.sublist (NX _ _)
  refine⟨u,rv,?_⟩
  rcases S.par y (d9 hp) with k|k
  ·exact .inl ⟨k,Av KD hp hu k⟩
  ·obtain⟨c,e⟩:=Gk (n:=s.heap.objs.size+1) k
   refine .inr ⟨.inl k,c,e,?_⟩
   have q:=x.cell y c e
   rw[Bo KD hp hu (by show scope.names.lookup y≠_;rw[k];decide)] at q
   exact q
 ·exact e0.hok.fresh (B3 (x.above y c (PySem.mem_of_lookup h)))
 ·unfold mS
  show _=N.length
  rw[b6,ai,List.length_replicate]
  omega
theorem aBu{CX:Ji}{name:Str}{params:Arguments}{body:List Stmt}{dV kV br pm ak ct oc:Value}{an od:Option Addr}
  {de:Array (Option Value)} {N ps:List Str} {sp:Sp} (lk:K.lookup f=some ⟨oc,od,.func (fnOf name aq params body scope dV kV br pm an ak ct),de⟩) (jb:codeIn K ak aq=true) (S:aN N ps scope)
  (len:∀vs H Q E,sp vs H Q E->vs.length=ps.length)
  (wp:∀(A:Around)(outer:List Env)(s:Shared)(H:Hp)(vs:List V)(Q:VK)(E:XK),eX k (A.deeper (envOfC aq scope s.heap.objs.size f ak))->sp vs H Q E->
   ∃t,Ce (Eh CX P w K mg base N aq scope f ak A outer s H E) body t/\t {nx:=λ_ H'=>Q .non H',rt:=Q} (mS N vs) H):
  bV P w K mg base CX (k+1) f (fnOf name aq params body scope dV kV br pm an ak ct) ps sp:=by
 refine⟨len,λA outer s H args us vs Q E hr e0 hb r kf=>?_⟩
 have hl:=len _ _ _ _ kf
 have KX:K.In s.heap:=e0.mod.kin.keeps λb o e=>(e0.bs b o e).1
 have lim:s.heap.NoLimit:=e0.mod.nolimit.keeps λb o e=>(e0.bs b o e).1
 have FV:∀y∈ps.zip us,scope.names.lookup y.1=some .local\/(scope.names.lookup y.1=some .cell/\((cellsFrom (s.heap.objs.size+1) scope.names []).lookup y.1).isSome=true):=λ⟨n,v⟩ hy=>by
  rcases S.par n (B4 hy).1 with q|q
  ·exact .inl q
  ·exact .inr ⟨q,cellsFrom_some _ _ _ (.inl q)⟩
 refine NY hr.depth (KX _ _ lk) rfl S.co S.gen rfl (codeRec_of KX jb) (hb _ _ _ _ ?_)
 refine NZ S.kind FV λenv he s1 x=>?_
 subst he
 refine⟨lim.keeps x.toInCall.keep,codeAny_func ?_⟩
 obtain⟨t,ht,hq⟩:=wp A outer s H vs Q E (hr.deeper _) kf
 have I:aQ (Eh CX P w K mg base N aq scope f ak A outer s H E) [] (mS N vs) H s1:=Ah S hr.hd e0 hl r x
 refine jq (ht [] s1 (mS N vs) H _ I hq) (λfl s' hs=>?_) λe s' hs=>hs
 have fin:∀{ah:St}{H':Hp}{v:V}{u:Value},aQ (Eh CX P w K mg base N aq scope f ak A outer s H E) [] ah H' s'->cB v u->Q v H'->CE outer P w H s Q u s':=
  λ{ah H' v u} J rv q=>⟨v,H',J.os,J.bare,J.base,J.hok,rv,q⟩
 cases fl with
 |ret u=>
  obtain⟨v,ah,H',J,rv,q⟩:=hs
  exact fin J rv q
 |next=>
  obtain⟨ah,H',J,q⟩:=hs
  exact fin (v:=V.non) (u:=Value.none) J rfl q
 |brk=>
  obtain⟨_,_,_,q⟩:=hs
  exact False.elim q
 |cont=>
  obtain⟨_,_,_,q⟩:=hs
  exact False.elim q
section
variable{p:Pos}{es:List Expr}{t:TA}{id T:String}{r:List V->Hp->VK->Prop}
def tCB(r:List V->Hp->VK->Prop)(t:TA):TE:=fun σ H Q=>t σ H λvs H1=>r vs H1 Q
theorem bS(hc:nM X (.builtin id) r)(hg:Gl X x)(hm:X.mg x=none)(hv:bootBuiltins x=some (.builtin id))(ha:PA X (e::es) t)(hn:x≠"__name__":=by decide)(gn:(x==("__debug__":Str))=false:=by decide)
  (he:starEach (e::es) X.env=(false,eval e X.env)::starEach es X.env:=by rfl) (fv:(backTo pos (starEach es X.env)).any (·.1)=false:=by rfl):PE X (.Call (.Name x p) (e::es) [] pos) (tCB r t):=by
 intro U s σ H Q I h
 refine wpAny_Call_Name_kw (lV I hg hm hv ?_ hn gn)
 exact N0 (cX (ha pos U s σ H _ I h) λus s1 ⟨vs,H1,I1,r1,q1⟩=>hc U s1 σ H1 vs us Q I1 r1 q1) he fv
theorem kT(hc:nM X (.type T) r)(hg:Gl X x)(hm:X.mg x=none)(hv:bootBuiltins x=some (.type T))(ha:PA X (e::es) t)(hn:x≠"__name__":=by decide)(gn:(x==("__debug__":Str))=false:=by decide)
  (he:starEach (e::es) X.env=(false,eval e X.env)::starEach es X.env:=by rfl) (fv:(backTo pos (starEach es X.env)).any (·.1)=false:=by rfl):PE X (.Call (.Name x p) (e::es) [] pos) (tCB r t):=by
 intro U s σ H Q I h
 refine wpAny_Call_Name_kw (lV I hg hm hv ?_ hn gn)
 exact AB (cX (ha pos U s σ H _ I h) λus s1 ⟨vs,H1,I1,r1,q1⟩=>hc U s1 σ H1 vs us Q I1 r1 q1) he fv
end
end L2
variable{tb:L2.TS}{xs:List L2.V}{H H' H1:L2.Hp}{X:L2.Cx}{σ:L2.St}{ta te:L2.TE}{y:L2.V}{D:L2.gH}{g:L2.TG}{sp:L2.Sp}
namespace HT
open PySem PyProof.Rows
theorem Xk(A:Around)(s:Shared)(a:Int)(t:Tok)(c:Int)(u:Tok):∃e,SeqAt.EqAt A s (.int a t) (.int c u) e/\(e=true↔a=c):=
 ⟨(a==c),JG a t c u,by simp⟩
section
open PySem.SeqAt
open PySem.AutoSeq1 (wpAny_loadPart')
open PySem.MeetsSeq PySem.MeetsSeq2 PySem.MeetsSeq3
end
theorem Zv{t:Addr}{vs ws:List Value}(ht:IsTup s.heap t vs.toArray)(hb:IsTup s.heap b ws.toArray)(hv:vs≠[])
  (h1:ws=[]->Q (.ref t) s) (h2:ws≠[]->Q (.ref s.heap.objs.size) {s with heap:=s.heap.push {cls:=.type "tuple",data:=.seq (vs++ws).toArray}})
  (hsz:vs.length+ws.length<=sizeLine):wpAny (model prog w) A (binaryOp .Add (.ref t) (.ref b)) Q E s:=by
 obtain⟨⟨cls,dd,data,sl⟩,ho,hc,n,hd⟩:=id ht
 obtain⟨⟨KE,uj,data2,uk⟩,qj,dq,n2,jc⟩:=id hb
 simp only at hc hd dq jc
 subst hc hd dq jc
 have e:vs.toArray++ws.toArray=(vs++ws).toArray:=by simp
 by_cases hw:ws=[]
 ·exact JH ⟨_,ho,rfl⟩ ⟨_,qj,rfl⟩ JI JJ slot_tuple_add entry_tuple_add (args_tuple_add_2 _ _)
   (tuple_addW1 t b vs.toArray ws.toArray n n2 dd uj sl uk (by simpa using hv) (by simp[hw])) ⟨ho,qj,h1 hw⟩
 ·refine JH ⟨_,ho,rfl⟩ ⟨_,qj,rfl⟩ JI JJ slot_tuple_add entry_tuple_add (args_tuple_add_2 _ _)
   (tuple_addW2 t b vs.toArray ws.toArray n n2 dd uj sl uk (by simpa using hv) (by simpa using hw) (by rw[cb,cb];exact hsz)) ⟨ho,qj,?_⟩
  rw[e]
  exact h2 hw
def iB(n d:Nat):Option Int->Nat
 |none=>d
 |some v=>if v<0 then (v+(n:Int)).toNat else min v.toNat n
theorem Uj(n d:Nat):iB n d none=d:=rfl
theorem Mu(n d k:Nat):iB n d (some (k:Int))=min k n:=by
 show (if (k:Int)<0 then ((k:Int)+(n:Int)).toNat else min (k:Int).toNat n)=min k n
 rw[ae (by omega),fq]
theorem aDu(n d:Nat)(hd:d<=n)(o:Option Int):iB n d o<=n:=by
 cases o with
 |none=>exact hd
 |some v=>
  show (if v<0 then (v+(n:Int)).toNat else min v.toNat n)<=n
  by_cases hv:v<0
  ·rw[af hv];omega
  ·rw[ae hv];exact N1 _ _
theorem Ng(v:Int)(n d:Nat):(if v<0 then max (v+(n:Int)) 0 else min v (n:Int))=((iB n d (some v):Nat):Int):=by
 show (if v<0 then max (v+(n:Int)) 0 else min v (n:Int))=(((if v<0 then (v+(n:Int)).toNat else min v.toNat n):Nat):Int)
 by_cases hv:v<0
 ·simp only[af hv];omega
 ·simp only[ae hv];omega
theorem Ma(lo hi:Option Int)(n:Nat):Builtin.Slice.sliceAdjust lo hi 1 (n:Int)=(((iB n 0 lo:Nat):Int),((iB n n hi:Nat):Int)):=by
 have h1:¬((1:Int)<0):=by omega
 unfold Builtin.Slice.sliceAdjust
 simp only[h1,jy]
 refine d6 ?_ ?_
 ·cases lo with
  |none=>rfl
  |some v=>exact Ng v n 0
 ·cases hi with
  |none=>rfl
  |some v=>exact Ng v n n
theorem Le(i j:Nat):Builtin.Slice.slicePlaces (i:Int) (j:Int) 1=j - i:=by
 unfold Builtin.Slice.slicePlaces
 have h1:(1:Int)>0:=by omega
 simp only[h1,vk,Int.ediv_one]
 split<;>omega
theorem yQ{o:Option Int}{Q:Option Int->Shared->Prop}(p:IsPart v o)(h:Q o s):wpAny (model prog w) A (Builtin.Slice.slicePartIndex v) Q E s:=by
 cases p with
 |none=>exact slicePart_none h
 |int i t=>exact slicePart_int h
theorem lC{sl:Addr}{vl vu:Value}{lo hi:Option Int}{n:Nat}{Q:Int×Int×Nat->Shared->Prop}(hs:s.heap.IsSliceOf sl vl vu .none)(pl:IsPart vl lo)(pu:IsPart vu hi)
  (h:Q (((iB n 0 lo:Nat):Int),1,iB n n hi - iB n 0 lo) s):wpAny (model prog w) A (Builtin.Slice.sliceApplied (.ref sl) (pure (n:Int))) Q E s:=by
 obtain⟨os,f9,qk,r8⟩:=id hs
 unfold Builtin.Slice.sliceApplied Builtin.Slice.sliceFields
 refine ac (ac (j6 f9 r8 (x:=vl) rfl (ac (j6 f9 r8 (x:=vu) rfl (ac (j6 f9 r8 (x:=.none) rfl (ag ?_)))))))
 refine ac (slicePart_none ?_)
 show wpAny _ _ (if ((1:Int)==0)=true then _ else _) _ _ s
 rw[ae (by decide)]
 refine ac (yQ pl (ac (yQ pu (ac (ag ?_)))))
 show wpAny _ _ (match Builtin.Slice.sliceAdjust lo hi 1 (n:Int) with|(lo,hi)=>pure (lo,(1:Int),Builtin.Slice.slicePlaces lo hi 1)) _ _ s
 rw[Ma lo hi n]
 show wpAny _ _ (pure (((iB n 0 lo:Nat):Int),(1:Int),Builtin.Slice.slicePlaces ((iB n 0 lo:Nat):Int) ((iB n n hi:Nat):Int) 1)) _ _ s
 rw[Le]
 exact ag h
theorem Vd(xs:Array Value)(i k:Nat):((List.range k).filterMap λ(m:Nat)=>xs[((i:Int)+(m:Int) * 1).toNat]?).toArray=((xs.toList.drop i).take k).toArray:=by
 have e:(λ(m:Nat)=>xs[((i:Int)+(m:Int) * 1).toNat]?)=λm=>xs[i+m]?:=by
  funext m
  have:((i:Int)+(m:Int) * 1).toNat=i+m:=by omega
  rw[this]
 rw[e]
 have:=pick_run xs i k
 rw[List.filterMap_map] at this
 have e2:((λx=>xs[x]?)∘λx=>i+x)=λm=>xs[i+m]?:=rfl
 rw[e2] at this
 rw[this]
theorem sE{t sl:Addr}{items:Array Value}{vl vu:Value}{lo hi:Option Int}(ht:IsTup s.heap t items)(hs:s.heap.IsSliceOf sl vl vu .none)(pl:IsPart vl lo)(pu:IsPart vu hi)
  (hw:¬(iB items.size 0 lo=0/\iB items.size items.size hi=items.size))
  (h:Q (.ref s.heap.objs.size) {s with heap:=s.heap.push {cls:=.type "tuple",data:=.seq ((items.toList.drop (iB items.size 0 lo)).take (iB items.size items.size hi - iB items.size 0 lo)).toArray}})
  (hsz:items.size<=sizeLine):wpAny (model prog w) A (getItem (.ref t) (.ref sl)) Q E s:=by
 have C8:sizeOk (.seq ((items.toList.drop (iB items.size 0 lo)).take (iB items.size items.size hi - iB items.size 0 lo)).toArray):=by
  show ((items.toList.drop (iB items.size 0 lo)).take (iB items.size items.size hi - iB items.size 0 lo)).toArray.size<=sizeLine
  rw[cb,fj,AF,d4]
  omega
 have hj:iB items.size items.size hi<=items.size:=aDu _ _ (ap _) hi
 obtain⟨os,f9,qk,r8⟩:=id hs
 have AZ:s.TypeIs (.ref sl) "slice":=⟨os,f9,qk⟩
 unfold getItem
 try with_reducible refine j7 ?_
 first|refine ac (ag ?_)|skip
 refine ac (wpAny_sequenceKey ht.typeIs (by decide) ?_)
 refine ac (mw (name:=Str.ofString "__getitem__") ht.typeIs AG
  (jg AG ht.typeIs entry_tuple_getitem ?_ (args_tuple_getitem _ _)))
 show wpAny _ _ (Builtin.Tuple.tupleItemsOf (.ref t)>>=_) _ _ s
 refine ac (tupleItemsOf_ ht ?_)
 refine ac (B5 AZ ?_)
 rw[af (by decide)]
 refine ac (lC hs pl pu ?_)
 have cp:¬((((iB items.size 0 lo:Nat):Int)==0 && (1:Int)==1 && (iB items.size items.size hi - iB items.size 0 lo)==items.size)=true):=by
  intro q
  rw[cq,cq] at q
  have q1:((iB items.size 0 lo:Nat):Int)=0:=eq_of_beq q.1.1
  have q2:iB items.size items.size hi - iB items.size 0 lo=items.size:=eq_of_beq q.2
  exact hw ⟨by omega,by omega⟩
 show wpAny _ _ (if (((iB items.size 0 lo:Nat):Int)==0 && (1:Int)==1 && (iB items.size items.size hi - iB items.size 0 lo)==items.size)=true then _ else _) _ _ s
 rw[ae cp,Vd]
 first
  |exact ac (m:=Builtin.Tuple.tupleExact _) (ip (ag ⟨_,rfl,ag h⟩) C8)
  |exact ac (m:=Builtin.Tuple.tupleExact _) (ip (ac (ag (ag ⟨_,rfl,ag h⟩))) C8)
  |exact ac (ac (m:=Builtin.Tuple.tupleExact _) (ip (ag (ag ⟨_,rfl,ag h⟩)) C8))
  |exact ac (ac (m:=Builtin.Tuple.tupleExact _) (ip (ag ⟨_,rfl,ag h⟩) C8))
end HT
namespace L2
open PySem PySem.Spec PyProof.Rows
abbrev TO:=St->Hp->(Option Int->Hp->Prop)->Prop
def PO(X:Cx)(e:Option Expr)(t:TO):Prop:=
 ∀(U:List (Addr×Obj)) (s:Shared) (σ:St) (H:Hp) (Q:Option Int->Hp->Prop),aQ X U σ H s->t σ H Q->
  wpAny (model X.prog X.w) X.A (evalPart e X.env) (λu s'=>∃o H',aQ X U σ H' s'/\IsPart u o/\Q o H') X.xe s
def Ds:TO:=λ_ H Q=>Q none H
def Xs(t:TE):TO:=fun σ H Q=>t σ H λx H1=>∃i,x=.int i/\Q (some i) H1
theorem fY:∀{us:List Value},bO (ns.map V.int) us->IntsAre us ns:=by
 induction ns with
 |nil=>intro us r;rw[vm] at r;cases r;exact .nil
 |cons n ns ih=>
  intro us r
  rw[bp] at r
  cases r with
  |cons r1 r2=>
   obtain⟨t,e⟩:=r1
   subst e
   exact .cons n t (ih r2)
section
variable{lo hi:Option Expr}{tl th:TO}{p2:Pos}
theorem Dh:PO X none Ds:=by
 intro U s σ H Q I h
 rw[evalPart_none]
 exact ag ⟨none,H,I,.none,h⟩
theorem Fh(h:PE X e te):PO X (some e) (Xs te):=by
 intro U s σ H Q I hw
 rw[evalPart_some]
 refine cX (h U s σ H _ I hw) λu s1 ⟨x,H1,I1,r1,q1⟩=>?_
 obtain⟨i,rfl,q⟩:=q1
 obtain⟨t,rfl⟩:=r1
 exact⟨some i,H1,I1,.int i t,q⟩
def SlR(X:Cx)(r:V->Option Int->Option Int->Hp->VK->Prop):Prop:=
 ∀(U:List (Addr×Obj)) (s:Shared) (σ:St) (H:Hp) (x:V) (v vl vu:Value) (lo hi:Option Int) (sl:Addr) (Q:VK),aQ X U σ H s->cB x v->s.heap.IsSliceOf sl vl vu .none->IsPart vl lo->IsPart vu hi->r x lo hi H Q->
  ∃T id,typeLookup (.type T) "__getitem__"=pure (some (.builtin id))/\s.TypeIs v T/\wpAny (model X.prog X.w) X.A (getItem v (.ref sl)) (EP X U σ Q) X.xe s
def tSl(r:V->Option Int->Option Int->Hp->VK->Prop)(te:TE)(tl th:TO):TE:=fun σ H Q=>te σ H λx H1=>tl σ H1 λl H2=>th σ H2 λu H3=>r x l u H3 Q
theorem yC{r:V->Option Int->Option Int->Hp->VK->Prop}(hr:SlR X r)(he:PE X e te)(hl:PO X lo tl)(hu:PO X hi th):PE X (.Subscript e (.Slice lo hi none p2) pos) (tSl r te tl th):=by
 intro U s σ H Q I h
 refine Subscript_ (cX (he U s σ H _ I h) λv s1 ⟨x,H1,I1,r1,q1⟩=>?_)
 refine wpAny_Slice (cX (hl U s1 σ H1 _ I1 q1) λvl s2 ⟨l,H2,I2,pl,q2⟩=>cX (hu U s2 σ H2 _ I2 q2) λvu s3 ⟨u,H3,I3,pu,q3⟩=>?_)
 rw[evalPart_none]
 refine ag ?_
 have I4:aQ X U σ H3 {s3 with heap:=s3.heap.push {cls:=.type "slice",data:=.fields #[vl,vu,.none]}}:=I3.kept (t':=s3.toks) λb ob q=>bj _ q
 obtain⟨T,id,hT,ht,hg⟩:=hr U {s3 with heap:=s3.heap.push {cls:=.type "slice",data:=.fields #[vl,vu,.none]}} σ H3 x v vl vu l u s3.heap.objs.size Q I4 r1 (Heap.IsSliceOf.new ..) pl pu q3
 show wpAny (model X.prog X.w) X.A (subscriptTail e (.Slice lo hi none p2) v (.ref s3.heap.objs.size)) (EP X U σ Q) X.xe {s3 with heap:=s3.heap.push {cls:=.type "slice",data:=.fields #[vl,vu,.none]}}
 exact tail_any (ops:=[.ref s3.heap.objs.size,v]) ht hT hg (by with_unfolding_all rfl)
def vJ(xs:List V)(lo hi:Option Int):List V:=(xs.drop (HT.iB xs.length 0 lo)).take (HT.iB xs.length xs.length hi - HT.iB xs.length 0 lo)
theorem Iy(xs:List V)(lo hi:Option Int):(vJ xs lo hi).length<=xs.length:=by
 unfold vJ
 rw[fj,AF]
 omega
def aHh(K:Frag):V->Option Int->Option Int->Hp->VK->Prop:=λx lo hi H Q=>∃a xs,x=.ref a/\cM K H a xs/\
 ¬(HT.iB xs.length 0 lo=0/\HT.iB xs.length xs.length hi=xs.length)/\∀p,H p=none->Q (.ref p) (upd H p (.tup (vJ xs lo hi)))
theorem aDf:SlR X (aHh X.K):=by
 intro U s σ H x v vl vu lo hi sl Q I rx hs pl pu h
 obtain⟨a,xs,rfl,hx,hw,q⟩:=h
 cases rx
 obtain⟨its,r,ht,hz⟩:=I.tuple hx
 have bi:its.toArray.size=xs.length:=by rw[cb];exact r.length.symm
 refine⟨"tuple",_,AG.lookup,ht.typeIs,?_⟩
 refine HT.sE ht hs pl pu (by rw[bi];exact hw) ?_ (by rw[bi];exact hz)
 rw[bi]
 refine⟨.ref s.heap.objs.size,_,I.laid (t':=s.toks) (o:=.tup (vJ xs lo hi)) (λb ob q=>bj _ q) (ap _) ?_,rfl,q _ (I.hok.fresh (ap _))⟩
 exact⟨gu (Iy xs lo hi) hz,_,(r.drop (HT.iB xs.length 0 lo)).take (HT.iB xs.length xs.length hi - HT.iB xs.length 0 lo),IsTup.new _ _⟩
def aB6(K:Frag):R2:=λx y H Q=>∃a b xs ys,x=.ref a/\y=.ref b/\cM K H a xs/\cM K H b ys/\xs≠[]/\xs.length+ys.length<=sizeLine/\
 (ys=[]->Q (.ref a) H)/\(ys≠[]->∀p,H p=none->Q (.ref p) (upd H p (.tup (xs++ys))))
theorem bO.nil_iff(r:bO xs us):us=[]↔xs=[]:=by
 cases r with
 |nil=>simp
 |cons _ _=>simp
theorem Mq:uU X (binaryOp .Add) (aB6 X.K):=by
 intro U s σ H x y v u Q I rx ry h
 obtain⟨a,b,xs,ys,rfl,rfl,ha,hb,hx,hz,q1,q2⟩:=h
 cases rx
 cases ry
 obtain⟨its,r1,p1,_⟩:=I.tuple ha
 obtain⟨nk,r2,p2,_⟩:=I.tuple hb
 refine HT.Zv p1 p2 (λz=>hx (r1.nil_iff.mp z)) (λz=>⟨.ref a,H,I,rfl,q1 (r2.nil_iff.mp z)⟩) (λz=>?_) (by rw[<-r1.length,<-r2.length];exact hz)
 refine⟨.ref s.heap.objs.size,_,I.laid (t':=s.toks) (o:=.tup (xs++ys)) (λb ob q=>bj _ q) (ap _) ?_,rfl,q2 (λw=>z (r2.nil_iff.mpr w)) _ (I.hok.fresh (ap _))⟩
 exact⟨by rw[b6];exact hz,_,r1.append r2,IsTup.new _ _⟩
end
def ixN(n:Nat)(i:Int):Option Nat:=if 0<=i then (if i<n then some i.toNat else none) else if -(n:Int)<=i then some (i+n).toNat else none
def Nw(xs:List α)(i:Int):Option α:=(ixN xs.length i).bind λj=>xs[j]?
theorem Zx{n:Nat}{i:Int}(h:ixN n i=some j):seqIndex? i n=some j/\j<n/\ -(n:Int)<=i/\i<n:=by
 unfold ixN at h
 by_cases h0:0<=i
 ·rw[af h0] at h
  by_cases h1:i<n
  ·rw[af h1] at h
   have e:i.toNat=j:=Option.some.inj h
   exact⟨by rw[seqIndex_of h0 h1,e],by omega,by omega,h1⟩
  ·rw[ae h1] at h;cases h
 ·rw[ae h0] at h
  by_cases h1: -(n:Int)<=i
  ·rw[af h1] at h
   have e:(i+n).toNat=j:=Option.some.inj h
   exact⟨by rw[seqIndex_neg (by omega) h1,e],by omega,h1,by omega⟩
  ·rw[ae h1] at h;cases h
theorem Mz{xs:List α}{i:Int}{v:α}(h:Nw xs i=some v):∃j,seqIndex? i xs.length=some j/\xs[j]?=some v/\j<xs.length/\ -(xs.length:Int)<=i/\i<xs.length:=by
 unfold Nw at h
 cases e:ixN xs.length i with
 |none=>rw[e] at h;cases h
 |some j=>
  rw[e] at h
  obtain⟨h1,h2,h3,h4⟩:=Zx e
  exact⟨j,h1,h,h2,h3,h4⟩
theorem iO{xs:List α}{v:α}(h:xs[j]?=some v):Nw xs (j:Int)=some v:=by
 have hj:j<xs.length:=(bq.mp h).1
 have e:ixN xs.length (j:Int)=some j:=by
  unfold ixN
  rw[af (by omega),af (by omega)];simp
 unfold Nw;rw[e];exact h
def aAd(b:Expr):Prop:=∀o i,subscripted b false o i=operate [o,i] (getItem o i)
def IxR(X:Cx)(r:R2):Prop:=
 ∀(value slice:Expr) (U:List (Addr×Obj)) (s:Shared) (σ:St) (H:Hp) (x y:V) (v u:Value) (Q:VK),aQ X U σ H s->cB x v->cB y u->r x y H Q->
  subscripted slice false v u=operate [v,u] (getItem v u)->wpAny (model X.prog X.w) X.A (subscriptTail value slice v u) (EP X U σ Q) X.xe s
def MtR(X:Cx)(id:String)(r:V->List V->Hp->VK->Prop):Prop:=
 ∀(U:List (Addr×Obj)) (s:Shared) (σ:St) (H:Hp) (x:V) (xs:List V) (v:Value) (us:List Value) (Q:VK),aQ X U σ H s->cB x v->bO xs us->r x xs H Q->
  wpAny (model X.prog X.w) X.A (call (.builtin id) (v::us)) (EP X U σ Q) X.xe s
section
variable{a b:Expr}{tb:TE}
theorem bQ{r:R2}(hr:IxR X r)(ha:PE X a ta)(hb:PE X b tb)(hs:aAd b):PE X (.Subscript a b pos) (vF r ta tb):=by
 intro U s σ H Q I h
 exact Subscript_ (aDj ha hb I h λv u s2 x y H2 I2 rx ry q=>hr a b U s2 σ H2 x y v u Q I2 rx ry q (hs _ _))
def aHl(K:Frag):R2:=λx y H Q=>∃p xs i v,x=.ref p/\y=.int i/\cR K H p xs/\Nw xs i=some v/\Q v H
def gK(K:Frag):R2:=λx y H Q=>∃p xs i v,x=.ref p/\y=.int i/\cM K H p xs/\Nw xs i=some v/\Q v H
theorem jR:IxR X (aHl X.K):=by
 intro value slice U s σ H x y v u Q I rx ry h hs
 obtain⟨p,xs,i,z,rfl,rfl,hq,he,q⟩:=h
 cases rx
 obtain⟨t,rfl⟩:=ry
 obtain⟨its,r,pl,hz⟩:=I.list hq
 obtain⟨j,h1,h2,h3,h4,h5⟩:=Mz he
 obtain⟨w,ew,r9⟩:=r.get h2
 have hl:=r.length
 have hn:=Lc
 have fin:EP X U σ Q w s:=⟨z,H,I,r9,q⟩
 by_cases h0:0<=i
 ·have hj:i.toNat=j:=by
   rw[seqIndex_of h0 h5] at h1
   exact Option.some.inj h1
  exact item_listR pl.isList h0 (by omega) (by rw[hj];simpa using ew) fin hs
 ·have hj:(i+(its.toArray.size:Int)).toNat=j:=by
   rw[seqIndex_neg (by omega) h4] at h1
   rw[cb,<-hl]
   exact Option.some.inj h1
  exact subscriptTail_builtinR (x:=w) pl.isList.typeIs slot_list_getitem.lookup
   (wpAny_getItem_list_neg (Q:=λr s'=>r=w/\EP X U σ Q r s') pl.isList (by omega) (by rw[cb]<;>omega) (by omega) (by rw[hj];simpa using ew) ⟨rfl,fin⟩) hs
theorem bE:IxR X (gK X.K):=by
 intro value slice U s σ H x y v u Q I rx ry h hs
 obtain⟨p,xs,i,z,rfl,rfl,hq,he,q⟩:=h
 cases rx
 obtain⟨t,rfl⟩:=ry
 obtain⟨its,r,pl,hz⟩:=I.tuple hq
 obtain⟨j,h1,h2,h3,h4,h5⟩:=Mz he
 obtain⟨w,ew,r9⟩:=r.get h2
 have hl:=r.length
 have hn:=Lc
 have fin:EP X U σ Q w s:=⟨z,H,I,r9,q⟩
 exact subscriptTail_builtinR (x:=w) pl.typeIs slot_tuple_getitem.lookup
  (getItem_tuple (j:=j) (Q:=λr s'=>r=w/\EP X U σ Q r s') pl (by omega) (by omega) (by rw[cb,<-hl];exact h1) (by simpa using ew) ⟨rfl,fin⟩) hs
def pT:V->Bool
 |.non=>true
 |.bl _=>true
 |.int _=>true
 |.str _=>true
 |_=>false
def eqV:V->V->Bool
 |.non,.non=>true
 |.bl a,.bl b=>a==b
 |.bl a,.int b=>(if a then 1 else 0)==b
 |.int a,.bl b=>a==(if b then 1 else 0)
 |.int a,.int b=>a==b
 |.str a,.str b=>a==b
 |_,_=>false
theorem aDv{x:V}(ry:cB y u)(rx:cB x v)(fy:pT y=true)(fx:pT x=true):SeqAt.EqAt A s u v (eqV y x):=by
 cases y with
 |non=>
  cases ry
  cases x with
  |non=>cases rx;exact SeqAt.EqAt.same _
  |bl b=>cases rx;exact SeqAt.EqAt.none_bool b
  |int b=>obtain⟨t,rfl⟩:=rx;exact SeqAt.EqAt.none_int b t
  |str b=>obtain⟨t,rfl⟩:=rx;exact SeqAt.EqAt.none_str b t
  |_=>exact absurd (show false=true from fx) ca
 |bl a=>
  cases ry
  cases x with
  |non=>cases rx;exact SeqAt.EqAt.bool_none a
  |bl b=>cases rx;exact SeqAt.EqAt.bool_bool a b
  |int b=>obtain⟨t,rfl⟩:=rx;exact SeqAt.EqAt.bool_int a b t
  |str b=>obtain⟨t,rfl⟩:=rx;exact SeqAt.EqAt.bool_str a b t
  |_=>exact absurd (show false=true from fx) ca
 |int a=>
  obtain⟨t',rfl⟩:=ry
  cases x with
  |non=>cases rx;exact SeqAt.EqAt.int_none a t'
  |bl b=>cases rx;exact SeqAt.EqAt.int_bool a t' b
  |int b=>obtain⟨t,rfl⟩:=rx;exact JG a t' b t
  |str b=>obtain⟨t,rfl⟩:=rx;exact SeqAt.EqAt.int_str a t' b t
  |_=>exact absurd (show false=true from fx) ca
 |str a=>
  obtain⟨t',rfl⟩:=ry
  cases x with
  |non=>cases rx;exact SeqAt.EqAt.str_none a t'
  |bl b=>cases rx;exact SeqAt.EqAt.str_bool a t' b
  |int b=>obtain⟨t,rfl⟩:=rx;exact SeqAt.EqAt.str_int a t' b t
  |str b=>obtain⟨t,rfl⟩:=rx;exact SeqAt.EqAt.str_str a t' b t
  |_=>exact absurd (show false=true from fx) ca
 |_=>exact absurd (show false=true from fy) ca
def Yr(x:V)(u:Value):Bool:=match u with
 |.none=>eqV .non x
 |.bool b=>eqV (.bl b) x
 |.int i _=>eqV (.int i) x
 |.str z _=>eqV (.str z) x
 |_=>false
theorem Sl{x:V}(r:cB y u)(f:pT y=true):Yr x u=eqV y x:=by
 cases y with
 |non=>cases r;rfl
 |bl b=>cases r;rfl
 |int i=>obtain⟨t,rfl⟩:=r;rfl
 |str z=>obtain⟨t,rfl⟩:=r;rfl
 |_=>exact absurd (show false=true from f) ca
theorem Dd{x:V}:∀{xs:List V}{us:List Value},bO xs us->xs.all pT=true->us.any (Yr x)=xs.any λy=>eqV y x
 |_,_,.nil,_=>rfl
 |y::xs,u::us,.cons r t,f=>by
  rw[t9,cq] at f
  rw[vn,vn,Sl r f.1,Dd t f.2]
theorem xN{x:V}(rx:cB x v)(fx:pT x=true):∀{xs:List V}{us:List Value},bO xs us->xs.all pT=true->∀u∈us,SeqAt.EqAt A s u v (Yr x u)
 |_,_,.nil,_=>λu hu=>by cases hu
 |y::xs,u::us,.cons r t,f=>λu' hu=>by
  rw[t9,cq] at f
  rcases ao.mp hu with rfl|hu
  ·rw[Sl r f.1];exact aDv r rx f.1 fx
  ·exact xN rx fx t f.2 u' hu
def Xh(x:V)(xs:List V):Bool:=xs.any λy=>eqV y x
def rIn(K:Frag)(neg:Bool):R2:=λx y H Q=>∃p xs,y=.ref p/\(cR K H p xs\/cM K H p xs)/\pT x=true/\xs.all pT=true/\Q (.bl (if neg then !Xh x xs else Xh x xs)) H
theorem lT:uU X (compareOp .NotIn) (rIn X.K true):=by
 intro U s σ H x y v u Q I rx ry h
 obtain⟨p,xs,rfl,hq,fx,fs,q⟩:=h
 cases ry
 rcases hq with hq|hq
 ·obtain⟨its,r,pl,hz⟩:=I.list hq
  refine SeqAt.notIn_listAt (Yr x) pl.isList (λw hw=>xN rx fx r fs w (by simpa using hw)) ⟨.bl _,H,I,rfl,?_⟩
  rw[show its.toArray.any (Yr x)=its.any (Yr x) by simp,Dd r fs]
  exact q
 ·obtain⟨its,r,pl,hz⟩:=I.tuple hq
  refine SeqAt.notIn_tupleAt (Yr x) pl (λw hw=>xN rx fx r fs w (by simpa using hw)) ⟨.bl _,H,I,rfl,?_⟩
  rw[show its.toArray.any (Yr x)=its.any (Yr x) by simp,Dd r fs]
  exact q
theorem bW:nM X (.builtin "len") (λxs H Q=>∃p ys,xs=[.ref p]/\(cR X.K H p ys\/cM X.K H p ys)/\Q (.int ys.length) H):=by
 intro U s σ H xs us Q I r h
 obtain⟨p,ys,rfl,hq,q⟩:=h
 obtain⟨u,rfl,rx⟩:=zL r
 cases rx
 have hn:=Lc
 rcases hq with hq|hq
 ·obtain⟨its,r',pl,hz⟩:=I.list hq
  have bi:=r'.length
  exact Calls.call_len_list pl.isList (by simp only[cb]<;>omega) ⟨.int ys.length,H,I.tok _,⟨s.toks+1,by rw[cb,bi]⟩,q⟩
 ·obtain⟨its,r',pl,hz⟩:=I.tuple hq
  have bi:=r'.length
  exact len_tuple pl (by simp only[cb]<;>omega) ⟨.int ys.length,H,I.tok _,⟨s.toks+1,by rw[cb,bi]⟩,q⟩
theorem qT:nM X (.type "list") (λxs H Q=>∃p ys,xs=[.ref p]/\(cR X.K H p ys\/cM X.K H p ys)/\∀l,H l=none->Q (.ref l) (upd H l (.lst ys))):=by
 intro U s σ H xs us Q I r h
 obtain⟨p,ys,rfl,hq,q⟩:=h
 obtain⟨u,rfl,rx⟩:=zL r
 cases rx
 have fin:∀(its:List Value),bO ys its->ys.length<=sizeLine->∀(h':Heap)(c':Nat),(∀b o',s.heap.get? b=some o'->h'.get? b=some o')->
   h'.get? s.heap.objs.size=some {cls:=.type "list",dict:=none,data:=.seq its.toArray c',slots:=#[]}->EP X U σ Q (.ref s.heap.objs.size) {s with heap:=h'}:=λits r' hz h' c' kp e=>
  ⟨.ref s.heap.objs.size,_,I.laid (t':=s.toks) kp (ap _) (show cJ X.prog X.w _ h' _ (.lst ys) from ⟨hz,its,c',r',e⟩),rfl,q _ (I.hok.fresh (ap _))⟩
 rcases hq with hq|hq
 ·obtain⟨its,r',pl,hz⟩:=I.list hq
  have bi:=r'.length
  obtain⟨o,ho,hc,n,hd⟩:=pl.isList
  exact call_list_seq p (.inl rfl) ho hc hd (λh' c' kp e=>fin its r' hz h' c' kp e) (by simp only[cb]<;>omega)
 ·obtain⟨its,r',pl,hz⟩:=I.tuple hq
  have bi:=r'.length
  obtain⟨o,ho,hc,n,hd⟩:=pl
  exact call_list_seq p (.inr rfl) ho hc hd (λh' c' kp e=>fin its r' hz h' c' kp e) (by simp only[cb]<;>omega)
theorem pS:nM X (.type "tuple") (λxs H Q=>∃p ys,xs=[.ref p]/\((cR X.K H p ys/\∀l,H l=none->Q (.ref l) (upd H l (.tup ys)))\/(cM X.K H p ys/\Q (.ref p) H))):=by
 intro U s σ H xs us Q I r h
 obtain⟨p,ys,rfl,h⟩:=h
 obtain⟨u,rfl,rx⟩:=zL r
 cases rx
 rcases h with ⟨hq,q⟩|⟨hq,q⟩
 ·obtain⟨its,r',pl,hz⟩:=I.list hq
  have bi:=r'.length
  refine call_tuple_list pl.isList (λh' kp=>?_) (by simp only[cb]<;>omega)
  have I1:aQ X U σ H {s with heap:=h'}:=I.kept (t':=s.toks) kp
  have I2:aQ X U σ (upd H h'.objs.size (.tup ys)) {s with heap:=h'.push {cls:=.type "tuple",data:=.seq its.toArray}}:=
   I1.laid (t':=s.toks) (λb o e=>bj _ e) (ap _) (show cJ X.prog X.w _ _ _ (.tup ys) from ⟨hz,its,r',IsTup.new _ _⟩)
  exact⟨.ref h'.objs.size,_,I2,rfl,q _ (I1.hok.fresh (ap _))⟩
 ·obtain⟨its,r',pl,hz⟩:=I.tuple hq
  exact call_tuple_same pl ⟨.ref p,H,I,rfl,q⟩
def tyV(K:Frag)(T:String)(x:V)(H:Hp):Prop:=match x with
 |.str _=>T="str"
 |.int _=>T="int"
 |.ref p=>(T="list"/\∃xs,cR K H p xs)\/(T="tuple"/\∃o,K.lookup p=some o/\o.cls=.type "tuple"/\o.dict=none)\/
   (T="dict"/\((∃aJ,H p=some (.dK aJ))\/∃aJ,H p=some (.dT aJ)))\/(T="set"/\∃S n,H p=some (.set S n))
 |_=>False
theorem Vr{T:String}{x:V}(I:aQ X U σ H s)(r:cB x v)(ty:tyV X.K T x H):
  s.TypeIs v T/\∀a,v=.ref a->∃ob,s.heap.get? a=some ob/\ob.dict=none:=by
 cases x with
 |str z=>
  obtain⟨t,rfl⟩:=r
  cases (show T="str" from ty)
  exact⟨typeIs_str s z t,λ_ e=>nomatch e⟩
 |int i=>
  obtain⟨t,rfl⟩:=r
  cases (show T="int" from ty)
  exact⟨typeIs_int s i t,λ_ e=>nomatch e⟩
 |ref p=>
  cases r
  rcases ty with ⟨rfl,xs,hq⟩|⟨rfl,o,hk,hc,hd⟩|⟨rfl,hk⟩|⟨rfl,S,n,hk⟩
  ·obtain⟨its,_,pl,_⟩:=I.list hq
   refine⟨pl.isList.typeIs,λa e=>?_⟩
   cases e
   obtain⟨o,n,e,c,hd,_⟩:=pl
   exact⟨o,e,hd⟩
  ·refine⟨⟨o,I.kIn p o hk,hc⟩,λa e=>?_⟩
   cases e
   exact⟨o,I.kIn _ o hk,hd⟩
  ·have z:∃o,s.heap.get? p=some o/\o.ExactDict:=by
    rcases hk with ⟨aJ,hk⟩|⟨aJ,hk⟩
    ·obtain⟨_,_,_,_,o,_,_,e,ex,_⟩:=I.hok p _ hk
     exact⟨o,e,ex⟩
    ·obtain⟨_,_,_,_,o,_,_,e,ex,_⟩:=I.hok p _ hk
     exact⟨o,e,ex⟩
   obtain⟨o,e,ex⟩:=z
   refine⟨⟨o,e,ex.1⟩,λa e2=>?_⟩
   cases e2
   exact⟨o,e,ex.2.1⟩
  ·obtain⟨o,_,_,_,e,ex,_⟩:=I.hok p _ hk
   refine⟨⟨o,e,ex.1⟩,λa e2=>?_⟩
   cases e2
   exact⟨o,e,ex.2.1⟩
 |_=>exact False.elim ty
def aHv(K:Frag)(T:String)(r:V->List V->Hp->VK->Prop)(to:TE):TE:=fun σ H Q=>to σ H λx H1=>tyV K T x H1/\r x [] H1 Q
def tBM(K:Frag)(T:String)(r:V->List V->Hp->VK->Prop)(to:TE)(t:TA):TE:=fun σ H Q=>to σ H λx H1=>tyV K T x H1/\t σ H1 λxs H2=>r x xs H2 Q
variable{o:Expr}{es:List Expr}{to:TE}{t:TA}{name:Str}{ig gf:Pos}{T id:String}{r:V->List V->Hp->VK->Prop}
theorem aB9(pa:PlainAttrs T)(slot:Slot T name id)(j0:typeOf (.builtin id)=pure (.type "method_descriptor"))(hm:MtR X id r)(ho:PE X o to)
  (sd:attributeBase o name X.env (eval o X.env)=eval o X.env:=by rfl) (wq:(ig.endLine==gf.line)=true:=by rfl):PE X (.Call (.Attribute o name ig) [] [] gf) (aHv X.K T r to):=by
 intro U s σ H Q I h
 refine wpAny_Call_method0_late sd wq (cX (ho U s σ H _ I h) λv s1 ⟨x,H1,I1,r1,ty,q1⟩=>?_)
 obtain⟨h1,h2⟩:=Vr I1 r1 ty
 exact⟨T,id,pa,slot,j0,h1,h2,N2 rfl (PySem.evalArgs_none (hm U s1 σ H1 x [] v [] Q I1 r1 .nil q1))⟩
theorem nQ(pa:PlainAttrs T)(slot:Slot T name id)(j0:typeOf (.builtin id)=pure (.type "method_descriptor"))(hm:MtR X id r)(ho:PE X o to)(ha:PA X (e::es) t)
  (sd:attributeBase o name X.env (eval o X.env)=eval o X.env:=by rfl)
  (P2:((backTo gf (starEach (e::es) X.env)).all (λx=> !x.1) && (backToKw gf (keywordEach [] X.env)).all (λx=>x.1.isSome)
   && decide ((e::es).length+([]:List Keyword).length+(if ([]:List Keyword).isEmpty then 0 else 1)<30))=true:=by rfl)
  (wq:(ig.endLine==gf.line)=true:=by rfl) (hs:starEach (e::es) X.env=(false,eval e X.env)::starEach es X.env:=by rfl) (P3:(backTo gf (starEach es X.env)).any (·.1)=false:=by rfl):
  PE X (.Call (.Attribute o name ig) (e::es) [] gf) (tBM X.K T r to t):=by
 intro U s σ H Q I h
 refine wpAny_Call_method_late sd P2 wq rfl (cX (ho U s σ H _ I h) λv s1 ⟨x,H1,I1,r1,ty,q1⟩=>?_)
 obtain⟨h1,h2⟩:=Vr I1 r1 ty
 refine⟨T,id,pa,slot,j0,h1,h2,?_⟩
 have hA:=ha gf U s1 σ H1 _ I1 q1
 rw[hs] at hA ⊢
 refine N2 (by show (false||(backTo gf (starEach es X.env)).any (·.1))=false;rw[P3]<;>rfl) (Calls.evalArgs_plain ?_)
 exact cX hA λus s2 ⟨vs,H2,I2,r2,q2⟩=>hm U s2 σ H2 x vs v us Q I2 r1 r2 q2
end
def MtM(X:Cx)(id:String)(r:V->List V->Hp->VK->Prop):Prop:=
 ∀(U:List (Addr×Obj)) (s:Shared) (σ:St) (H:Hp) (x:V) (xs:List V) (v:Value) (us:List Value) (Q:VK),aQ X U σ H s->cB x v->bO xs us->r x xs H Q->
  wpAny (model X.prog X.w) X.A (call (.builtin id) (v::us)) (EP X U σ Q) X.xe s
theorem bO.one:∀{x:V}{us:List Value},bO [x] us->∃u,us=[u]/\cB x u
 |_,_,.cons r .nil=>⟨_,rfl,r⟩
theorem bO.zero:∀{us:List Value},bO [] us->us=[]
 |_,.nil=>rfl
theorem bO.dropLast(h:bO xs us):bO xs.dropLast us.dropLast:=by
 induction h with
 |nil=>exact .nil
 |cons r t ih=>
  cases t with
  |nil=>exact .nil
  |cons q t'=>exact .cons r ih
theorem Lr(l:List α):l.eraseIdx (l.length - 1)=l.dropLast:=by
 induction l with
 |nil=>rfl
 |cons a r ih=>
  cases r with
  |nil=>rfl
  |cons b r=>
   have e:(a::b::r).length - 1=((b::r).length - 1)+1:=by
    have h1:(a::b::r).length=r.length+2:=rfl
    have h2:(b::r).length=r.length+1:=rfl
    omega
   rw[e,List.eraseIdx_cons_succ,ih]
   all_goals rfl
section
variable{l:Addr}{ys zs:List V}
theorem aQ.lset{its its':List Value}{n:Nat}{f:Array Value->Array Value}(I:aQ X U σ H s)(hH:H l=some (.lst xs))
  (e:s.heap.get? l=some {cls:=.type "list",data:=.seq its.toArray n}) (hf:f its.toArray=its'.toArray) (hv:bO ys its') (hz:ys.length<=sizeLine):
  aQ X U σ (upd H l (.lst ys)) {s with heap:=s.heap.update l (Obj.mapSeq f),toks:=t'}:=by
 have q:=PySem.IsL.update e f
 rw[hf] at q
 refine I.write (x:=l) (e:=l) (by rw[hH];exact trivial) (.inl rfl) (λb' u hb hu=>(vo s.heap (Obj.mapSeq f) (ax hb)).trans hu) ⟨_,q⟩ ?_
 exact⟨hz,its',_,hv,q⟩
theorem aQ.lnew{its:List Value}(I:aQ X U σ H s)(hv:bO ys its)(hz:ys.length<=sizeLine):
  aQ X U σ (upd H s.heap.objs.size (.lst ys)) {s with heap:=s.heap.push {cls:=.type "list",data:=.seq its.toArray},toks:=t'}:=
 I.laid (λ_ _ q=>bj _ q) (ap _) ⟨hz,its,0,hv,cg _ rfl⟩
theorem aQ.fresh(I:aQ X U σ H s):H s.heap.objs.size=none:=I.hok.fresh (ap _)
theorem aQ.lstM(I:aQ X U σ H s)(hH:H l=some (.lst xs)):xs.length<=sizeLine/\∃(its:List Value)(n:Nat),bO xs its/\xs.length=its.length/\s.heap.get? l=some {cls:=.type "list",data:=.seq its.toArray n}:=by
 obtain⟨z,its,n,r,e⟩:=I.hok l _ hH
 exact⟨z,its,n,r,r.length,e⟩
theorem Uy{n:Nat}(h:n<=sizeLine):Builtin.List.listTooLong n=false:=by
 unfold Builtin.List.listTooLong
 exact jn (by omega)
end
def Nz:V->List V->Hp->VK->Prop:=λx vs H Q=>∃l xs y,x=.ref l/\vs=[y]/\H l=some (.lst xs)/\xs.length<sizeLine/\Q .non (upd H l (.lst (xs++[y])))
theorem gU:MtM X "list.append" Nz:=by
 intro U s σ H x vs v us Q I rx rv h
 obtain⟨l,xs,y,rfl,rfl,hH,hz,q⟩:=h
 cases rx
 obtain⟨u,rfl,ru⟩:=rv.one
 obtain⟨z,its,n,r,hl,e⟩:=I.lstM hH
 refine EK F.slot_list_append ⟨_,e,rfl⟩ F.entry_list_append (F.args_list_append_2 _ _) (PySem.list_append l its.toArray n u (by rw[cb];omega)) ⟨e,?_⟩
 refine⟨.non,_,I.lset (its':=its++[u]) hH e (by simp) (r.append (.cons ru .nil)) ?_,rfl,q⟩
 rw[b6,AH]
 omega
def aA6:V->List V->Hp->VK->Prop:=λx vs H Q=>∃l b xs zs,x=.ref l/\vs=[.ref b]/\H l=some (.lst xs)/\H b=some (.lst zs)/\xs.length+zs.length<=sizeLine/\Q .non (upd H l (.lst (xs++zs)))
theorem tW:MtM X "list.extend" aA6:=by
 intro U s σ H x vs v us Q I rx rv h
 obtain⟨l,b,xs,zs,rfl,rfl,hH,hB,hz,q⟩:=h
 cases rx
 obtain⟨u,rfl,ru⟩:=rv.one
 cases ru
 obtain⟨z,its,n,r,hl,e⟩:=I.lstM hH
 obtain⟨z2,nk,n2,r2,ii,e2⟩:=I.lstM hB
 have hsz:its.toArray.size+nk.toArray.size<=sizeLine:=by rw[cb,cb];omega
 have P4:¬(!its.toArray.isEmpty && Builtin.List.listTooLong (its.toArray.size+nk.toArray.size))=true:=by
  rw[Uy hsz,vp]
  exact ca
 refine EK F.slot_list_extend ⟨_,e,rfl⟩ F.entry_list_extend (F.args_list_extend_2 _ _)
  (AutoSeq1.list_extend_list_list_0 l its.toArray n b nk.toArray n2 P4 (by rw[cb];omega) (by omega)) ⟨e,e2,?_⟩
 refine⟨.non,_,I.lset (its':=its++nk) hH e (by simp) (r.append r2) ?_,rfl,q⟩
 rw[b6]
 omega
def aHx:V->List V->Hp->VK->Prop:=λx vs H Q=>∃l xs y,x=.ref l/\vs=[]/\H l=some (.lst xs)/\xs[xs.length - 1]?=some y/\Q y (upd H l (.lst xs.dropLast))
theorem aEe:MtM X "list.pop" aHx:=by
 intro U s σ H x vs v us Q I rx rv h
 obtain⟨l,xs,y,rfl,rfl,hH,hy,q⟩:=h
 cases rx
 have P5:=rv.zero
 subst P5
 obtain⟨z,its,n,r,hl,e⟩:=I.lstM hH
 obtain⟨u,hu,ru⟩:=r.get hy
 have P6:its.toArray[its.toArray.size - 1]?=some u:=by
  show its.toArray[its.length - 1]?=some u
  rw[<-m6,<-hl]
  exact hu
 refine EK F.slot_list_pop ⟨_,e,rfl⟩ F.entry_list_pop (F.args_list_pop_1 _) (MeetsSeq.list_pop_last l its.toArray n u P6 (by rw[cb];omega)) ⟨e,?_⟩
 refine⟨y,_,I.lset (its':=its.dropLast) hH e ?_ r.dropLast ?_,ru,q⟩
 ·show its.toArray.eraseIdxIfInBounds (its.toArray.size - 1)=its.dropLast.toArray
  rw[cb,List.eraseIdxIfInBounds_toArray,Lr]
 ·rw[N3]
  omega
def aHo:R2:=λx y H Q=>∃l b xs zs,x=.ref l/\y=.ref b/\H l=some (.lst xs)/\H b=some (.lst zs)/\xs.length+zs.length<=sizeLine/\∀p,H p=none->Q (.ref p) (upd H p (.lst (xs++zs)))
theorem Cy:uU X (binaryOp .Add) aHo:=by
 intro U s σ H x y v u Q I rx ry h
 obtain⟨l,b,xs,zs,rfl,rfl,hH,hB,hz,q⟩:=h
 cases rx
 cases ry
 obtain⟨z,its,n,r,hl,e⟩:=I.lstM hH
 obtain⟨z2,nk,n2,r2,ii,e2⟩:=I.lstM hB
 refine PySem.P.add_list e e2 ?_ (by rw[cb,cb];omega)
 have ea:its.toArray++nk.toArray=(its++nk).toArray:=by simp
 rw[ea]
 exact⟨.ref _,_,I.lnew (t':=s.toks) (r.append r2) (by rw[b6];omega),rfl,q _ I.fresh⟩
theorem bO.ints:∀{ns:List Int}{us:List Value},bO (ns.map V.int) us->IntsAre us ns
 |[],us,h=>by
  rw[vm] at h
  cases h
  exact IntsAre.nil
 |n::ns,us,h=>by
  rw[bp] at h
  cases h with
  |cons r t=>
   obtain⟨k,rfl⟩:=r
   exact IntsAre.cons n k (bO.ints t)
theorem rD:∀{us:List Value}{ns:List Int},IntsAre us ns->bO (ns.map V.int) us
 |_,_,.nil=>by rw[vm];exact Paired.nil
 |_,_,.cons n t h=>by rw[bp];exact Paired.cons (show cB (V.int n) (Value.int n t) from ⟨t,rfl⟩) (rD h)
theorem bO.bls:∀{bs:List Bool}{us:List Value},bO (bs.map V.bl) us->us=bs.map Value.bool
 |[],us,h=>by
  rw[vm] at h
  cases h
  rfl
 |b::bs,us,h=>by
  rw[bp] at h
  cases h with
  |cons r t=>
   cases r
   rw[bO.bls t,bp]
theorem bO.ref1(r:bO [V.ref a] us):us=[Value.ref a]:=by
 cases r with
 |cons r t=>
  cases t
  cases r
  rfl
section
variable{l:Addr}{its:List Value}
theorem Zj(hh:A.handled=none)(hl:s.heap.IsList l its.toArray)(hi:IntsAre its ns)(aw:0<ns.length)
  (h:∀h' tk M t',(∀b o,s.heap.get? b=some o->h'.get? b=some o)->M∈ns->(∀a,a∈ns->M<=a)->Q (.int M t') {s with heap:=h',toks:=tk}):wpAny (model prog w) A (call (.builtin "min") [.ref l]) Q E s:=by
 obtain⟨xs,e⟩:=hi.allInts.items
 have hn:numsOf (intItems xs).toList=ns:=by rw[<-e];exact hi.numsOf
 rw[nums_intItems] at hn
 subst hn
 rw[e] at hl
 have hsz:0<xs.size:=by simpa using aw
 refine PySem.min_intList hh hl hsz λv h' tk hv hk=>?_
 obtain⟨t,rfl⟩:=intItems_at hv
 obtain⟨h1,h2⟩:=argBest_lt (numAt xs) (xs.size - 1)
 refine h h' tk _ t hk ?_ λa ha=>?_
 ·rw[numAt_eq];exact PySem.getD_mem (by rw[ai,d4];omega)
 ·obtain⟨j,hj,rfl⟩:=mem_getD ha
  rw[ai,d4] at hj
  rw[<-numAt_eq];exact h2 j (by omega)
end
def aHu(K:Frag):List V->Hp->VK->Prop:=λvs H Q=>∃(a:Addr)(ns:List Int),vs=[V.ref a]/\cR K H a (ns.map V.int)/\0<ns.length/\∀m,m∈ns->(∀y,y∈ns->m<=y)->Q (.int m) H
theorem zH(hc:X.calm=true):nM X (.builtin "min") (aHu X.K):=by
 intro U s σ H vs us Q I r h
 obtain⟨a,ns,rfl,hs,aw,q⟩:=h
 obtain⟨its,rv,hl,_⟩:=I.list hs
 rw[bO.ref1 r]
 exact Zj (I.ok.hd hc) hl.isList rv.ints aw λh' tk m t' hk h1 h2=>⟨.int _,H,I.kept hk,⟨_,rfl⟩,q m h1 h2⟩
theorem Gp{l:Addr}{items:Array Value}(hl:s.heap.IsList l items)
  (h:∀gd:Shared,gd={s with heap:=s.heap.push {cls:=.type "list_iterator",data:=.fields #[.ref l,.int 0 0]}}->
   (gd.heap.IsListIter s.heap.objs.size l 0/\gd.heap.IsList l items)->l≠s.heap.objs.size->Q (.ref s.heap.objs.size) gd):wpAny (model prog w) A (pyIter (.ref l)) Q E s:=by
 have am:l<s.heap.objs.size:=by obtain⟨_,e,_⟩:=hl;exact bg e
 exact JD hl (h _ rfl ⟨⟨_,cg _ rfl,rfl,rfl⟩,hl.push _⟩ (b9 am))
theorem uZ{bs:List Bool}{its:List Value}(e:its=bs.map Value.bool):
  TruthOf prog w A (λi v=>its.toArray[i]?=some v) (λi=>bs.getD i false):=λi v s Q E hv hq=>by
 have C6:its[i]?=some v:=by simpa using hv
 rw[e,a9] at C6
 obtain⟨b,hb,rfl⟩:=rk.mp C6
 have hg:bs.getD i false=b:=by rw[b8,hb]<;>rfl
 have i4:Q (bs.getD i false) s:=hq
 rw[hg] at i4
 exact wpAny_truthy_bool i4
theorem Cf:∀bs:List Bool,(List.range bs.length).any (λi=>bs.getD i false)=bs.any id
 |[]=>rfl
 |b::bs=>by
  rw[bh,N4,vn,B6,vn,<-Cf bs]
  all_goals rfl
theorem Au:∀bs:List Bool,(List.range bs.length).all (λi=>bs.getD i false)=bs.all id
 |[]=>rfl
 |b::bs=>by
  rw[bh,N4,t9,EL,t9,<-Au bs]
  all_goals rfl
def aGu(K:Frag):List V->Hp->VK->Prop:=λvs H Q=>∃(a:Addr)(bs:List Bool),vs=[V.ref a]/\cR K H a (bs.map V.bl)/\Q (.bl (bs.any id)) H
def aGk(K:Frag):List V->Hp->VK->Prop:=λvs H Q=>∃(a:Addr)(bs:List Bool),vs=[V.ref a]/\cR K H a (bs.map V.bl)/\Q (.bl (bs.all id)) H
theorem aD8(hc:X.calm=true):nM X (.builtin "any") (aGu X.K):=by
 intro U s σ H vs us Q I r h
 obtain⟨a,bs,rfl,hs,q⟩:=h
 obtain⟨its,rv,hl,_⟩:=I.list hs
 rw[bO.ref1 r]
 have hb:=rv.bls
 refine call_any_walk (Gp hl.isList λgd e2 st aw=>?_)
 subst e2
 refine⟨_,_,_,_,_,_,_,rfl,Walks.list (A:=X.A.in1) (I.ok.hd hc) _ a aw its.toArray,st,uZ hb,λh' tk hk=>?_⟩
 refine⟨.bl _,H,I.kept λb o eo=>hk b o (λwt=>?_) (bj _ eo),?_,q⟩
 ·rcases ao.mp wt with e1|wt
  ·exact absurd (e1▸bg eo) (j5 _)
  ·cases wt
 ·show Value.bool _=Value.bool _
  rw[<-Cf,hb,cb,ai]
theorem aD5(hc:X.calm=true):nM X (.builtin "all") (aGk X.K):=by
 intro U s σ H vs us Q I r h
 obtain⟨a,bs,rfl,hs,q⟩:=h
 obtain⟨its,rv,hl,_⟩:=I.list hs
 rw[bO.ref1 r]
 have hb:=rv.bls
 refine call_all_walk (Gp hl.isList λgd e2 st aw=>?_)
 subst e2
 refine⟨_,_,_,_,_,_,_,rfl,Walks.list (A:=X.A.in1) (I.ok.hd hc) _ a aw its.toArray,st,uZ hb,λh' tk hk=>?_⟩
 refine⟨.bl _,H,I.kept λb o eo=>hk b o (λwt=>?_) (bj _ eo),?_,q⟩
 ·rcases ao.mp wt with e1|wt
  ·exact absurd (e1▸bg eo) (j5 _)
  ·cases wt
 ·show Value.bool _=Value.bool _
  rw[<-Au,hb,cb,ai]
mutual
inductive Dp(K:Frag)(H:Hp):V->PyData->Prop
 |non:Dp K H .non .none
 |bl (b:Bool):Dp K H (.bl b) (.bool b)
 |int (i:Int):Dp K H (.int i) (.int i)
 |str (x:Str):Dp K H (.str x) (.str x)
 |lst {a:Addr} {xs:List V} {ds:List PyData}:cR K H a xs->Ck K H xs ds->Dp K H (.ref a) (.list ds)
 |tup {a:Addr} {xs:List V} {ds:List PyData}:cM K H a xs->Ck K H xs ds->Dp K H (.ref a) (.tuple ds)
inductive Ck(K:Frag)(H:Hp):List V->List PyData->Prop
 |nil:Ck K H [] []
 |cons {v:V} {vs:List V} {d:PyData} {ds:List PyData}:Dp K H v d->Ck K H vs ds->Ck K H (v::vs) (d::ds)
end
mutual
theorem Dp.reads(I:aQ X U σ H s):∀(d:PyData)(v:V)(u:Value),Dp X.K H v d->cB v u->∃as,Reads s.heap u d as
 |.none,_,_,h,r=>by
  cases h
  cases r
  exact⟨_,Reads.none⟩
 |.bool b,_,_,h,r=>by
  cases h
  cases r
  exact⟨_,Reads.bool b⟩
 |.int i,_,_,h,r=>by
  cases h
  obtain⟨t,rfl⟩:=r
  exact⟨_,Reads.int i t⟩
 |.str x,_,_,h,r=>by
  cases h
  obtain⟨t,rfl⟩:=r
  exact⟨_,Reads.str x t⟩
 |.list ds,_,_,h,r=>by
  cases h with
  |lst hs ha=>
   cases r
   obtain⟨its,rv,⟨o,n,ho,hc,_,hd⟩,_⟩:=I.list hs
   obtain⟨as,hr⟩:=Dp.readsAll I ds _ its ha rv
   exact⟨_,Reads.list ho hc hd hr⟩
 |.tuple ds,_,_,h,r=>by
  cases h with
  |tup hs ha=>
   cases r
   obtain⟨its,rv,⟨o,ho,hc,n,hd⟩,_⟩:=I.tuple hs
   obtain⟨as,hr⟩:=Dp.readsAll I ds _ its ha rv
   exact⟨_,Reads.tuple ho hc hd hr⟩
 |.dict _,_,_,h,_=>by cases h
theorem Dp.readsAll(I:aQ X U σ H s):∀(ds:List PyData)(vs:List V)(us:List Value),Ck X.K H vs ds->bO vs us->∃as,ReadsAll s.heap us ds as
 |[],_,_,h,r=>by
  cases h
  cases r
  exact⟨_,ReadsAll.nil⟩
 |d::ds,_,_,h,r=>by
  cases h with
  |cons h1 h2=>
   cases r with
   |cons r1 r2=>
    obtain⟨as,q1⟩:=Dp.reads I d _ _ h1 r1
    obtain⟨bs,q2⟩:=Dp.readsAll I ds _ _ h2 r2
    exact⟨_,ReadsAll.cons q1 q2⟩
end
abbrev Vi(h:Heap)(c:Addr)(v:Option Value):Prop:=h.IsCell c v
def aG1(scope sc:Scope):Scope:=
 {scope with names:=scope.names.map λ(n,k)=>if (k==.free && sc.kind==.function && sc.names.lookup n==some .cell) then (n,.cell) else (n,k)}
def dA(cells:List (Str×Addr)):List (Str×NameKind)->List (Str×Addr)->List (Str×Addr)
 |[],acc=>acc
 |(n,k)::r,acc=>if k==.free then dA cells r ((n,(cells.lookup n).getD 0)::acc) else dA cells r acc
theorem sM(env:Env)(f:Str×NameKind->List (Str×Addr)->Sem (ForInStep (List (Str×Addr))))
  (hf:∀n k c,f (n,k) c=if k==.free then (do let a <-cellOf env n;pure (.yield ((n,a)::c))) else pure (.yield c)):
  ∀(names:List (Str×NameKind)) (acc:List (Str×Addr)),(∀y∈names,y.2=.free->∃c,env.cells.lookup y.1=some c)->forIn names acc f=pure (dA env.cells names acc)
 |[],acc,_=>by rw[JK];rfl
 |(n,k)::r,acc,h=>by
  rw[N5,hf]
  have ih:=λacc=>sM env f hf r acc λy hy=>h y (a7 _ hy)
  unfold dA
  by_cases hk:(k==NameKind.free)=true
  ·rw[af hk,af hk]
   obtain⟨c,hc⟩:=h (n,k) bf (by simpa using hk)
   have e:cellOf env n=pure c:=by unfold cellOf;rw[hc]
   rw[e]
   have e2:(env.cells.lookup n).getD 0=c:=by rw[hc];rfl
   rw[e2]
   exact ih _
  ·rw[ae hk,ae hk]
   exact ih _
theorem Kx(h:∀y∈scope.names,y.2=.free->∃c,env.cells.lookup y.1=some c):closureFor scope env=pure (dA env.cells scope.names []):=by
 simp only[closureFor]
 rw[sM env _ (λn k c=>rfl) scope.names [] h]
 rfl
theorem qM:∀{l:List (Str×α)} {n:Str} {c:α},(n,c)∈l->∃c',l.lookup n=some c'
 |(k,v)::r,n,c,h=>by
  rw[vq]
  cases hb:n==k with
  |true=>exact⟨_,rfl⟩
  |false=>
   rcases ao.mp h with e|h
   ·cases e;simp at hb
   ·exact qM h
theorem jQ{cells:List (Str×Addr)}:∀{names:List (Str×NameKind)} {acc:List (Str×Addr)} {n:Str} {c:Addr},(n,c)∈dA cells names acc->(n,c)∈acc\/((n,.free)∈names/\c=(cells.lookup n).getD 0)
 |[],_,_,_,h=>.inl h
 |(m,k)::r,acc,n,c,h=>by
  unfold dA at h
  split at h
  ·rename_i hk
   have hk:k=.free:=by simpa using hk
   rcases jQ h with h|⟨h1,h2⟩
   ·rcases ao.mp h with e|h
    ·cases e;exact .inr ⟨hk▸bf,rfl⟩
    ·exact .inl h
   ·exact .inr ⟨a7 _ h1,h2⟩
  ·rcases jQ h with h|⟨h1,h2⟩
   ·exact .inl h
   ·exact .inr ⟨a7 _ h1,h2⟩
theorem nN{cells:List (Str×Addr)}:∀{names:List (Str×NameKind)} {acc:List (Str×Addr)} {p:Str×Addr},p∈acc->p∈dA cells names acc
 |[],_,_,h=>h
 |(m,k)::r,acc,p,h=>by
  unfold dA
  split
  ·exact nN (a7 _ h)
  ·exact nN h
theorem mZ{cells:List (Str×Addr)}:∀{names:List (Str×NameKind)} {acc:List (Str×Addr)} {n:Str},(n,.free)∈names->(n,(cells.lookup n).getD 0)∈dA cells names acc
 |(m,k)::r,acc,n,h=>by
  unfold dA
  rcases ao.mp h with e|h
  ·cases e
   exact nN bf
  ·split
   ·exact mZ h
   ·exact mZ h
theorem kW:∀{names:List (Str×NameKind)} {h:Heap} {acc:List (Str×Addr)} {x:Str} {c:Addr},(x,c)∈cellsFrom h.objs.size names acc->
  (x,c)∈acc\/((x,.cell)∈names/\h.objs.size<=c/\Vi (pushCells h names) c none)
 |[],_,_,_,_,h=>.inl h
 |(n,k)::r,h,acc,x,c,hm=>by
  unfold cellsFrom at hm
  unfold pushCells
  split at hm
  ·rename_i hk
   rw[af hk]
   have hk:k=.cell:=by simpa using hk
   rw[<-ic h {cls:=.type "cell",data:=.cell none}] at hm
   rcases kW hm with hm|⟨h1,h2,h3⟩
   ·rcases ao.mp hm with e|hm
    ·cases e
     exact .inr ⟨hk▸bf,ap _,_,EM r _ _ _ (cg _ rfl),rfl⟩
    ·exact .inl hm
   ·rw[ic] at h2
    exact .inr ⟨a7 _ h1,EN h2,h3⟩
  ·rename_i hk
   rw[ae hk]
   rcases kW hm with hm|⟨h1,h2,h3⟩
   ·exact .inl hm
   ·exact .inr ⟨a7 _ h1,h2,h3⟩
theorem pE:∀{names:List (Str×NameKind)} {n:Nat} {acc:List (Str×Addr)} {p:Str×Addr},p∈acc->p∈cellsFrom n names acc
 |[],_,_,_,h=>h
 |(m,k)::r,n,acc,p,h=>by
  unfold cellsFrom
  split
  ·exact pE (a7 _ h)
  ·exact pE h
theorem tO:∀{names:List (Str×NameKind)} {n:Nat} {acc:List (Str×Addr)} {x:Str},(x,.cell)∈names->∃c,(x,c)∈cellsFrom n names acc
 |(m,k)::r,n,acc,x,h=>by
  unfold cellsFrom
  rcases ao.mp h with e|h
  ·cases e
   exact⟨n,pE bf⟩
  ·split
   ·exact tO h
   ·exact tO h
theorem uD:∀{names:List (Str×NameKind)} {h:Heap} {acc:List (Str×Addr)} {x y:Str} {c:Addr},(∀p∈acc,p.2<h.objs.size)->(∀x y c,(x,c)∈acc->(y,c)∈acc->x=y)->
  (x,c)∈cellsFrom h.objs.size names acc->(y,c)∈cellsFrom h.objs.size names acc->x=y
 |[],_,_,_,_,_,_,hi,h1,h2=>hi _ _ _ h1 h2
 |(n,k)::r,h,acc,x,y,c,hl,hi,h1,h2=>by
  unfold cellsFrom at h1 h2
  split at h1
  ·rename_i hk
   rw[af hk] at h2
   rw[<-ic h {cls:=.type "cell",data:=.cell none}] at h1 h2
   refine uD (h:=h.push _) (λp hp=>?_) (λx y c a b=>?_) h1 h2
   ·rw[ic]
    rcases ao.mp hp with rfl|hp
    ·exact k8 _
    ·exact vt (hl p hp)
   ·rcases ao.mp a with e|a<;>rcases ao.mp b with e'|b
    ·cases e;cases e';rfl
    ·cases e;exact absurd (hl _ b) (j5 _)
    ·cases e';exact absurd (hl _ a) (j5 _)
    ·exact hi _ _ _ a b
  ·rename_i hk
   rw[ae hk] at h2
   exact uD hl hi h1 h2
theorem Hx{globals:Addr}{closure:List (Str×Addr)}{func:Option Addr}{code:Value}{around:Env}{builtins:Addr}{Q:Env->Shared->Prop}
  (h:Q (newEnv scope s.heap.objs.size globals (cellsFrom (s.heap.objs.size+1) scope.names closure) aq func code (some around) builtins)
   {s with heap:=pushCells (s.heap.push {cls:=.type "dict",data:=.dict #[]}) scope.names}):
  wpAny M A (newFunctionEnv scope globals closure [] aq func code (some around) builtins) Q E s:=by
 simp only[newFunctionEnv,N6,vk]
 refine ac (wpAny_alloc ?_)
 refine ac (wpAny_layCells _ (λn k c=>rfl) scope.names closure _ _ ?_)
 rw[show ({s with heap:=s.heap.push {cls:=.type "dict",data:=.dict #[]}}:Shared).heap.objs.size=s.heap.objs.size+1 from ic ..]
 rw[JK]
 exact ac (ag (ag h))
theorem nF{sc:Scope}:∀{names:List (Str×NameKind)} {x:Str} {k:NameKind},
  (names.map λ(n,k)=>if (k==NameKind.free && sc.kind==.function && sc.names.lookup n==some .cell) then (n,NameKind.cell) else (n,k)).lookup x=some k->
  ∃k',names.lookup x=some k'/\(k=k'\/(k'=.free/\k=.cell))
 |[],_,_,h=>by simp at h
 |(n,k₀)::r,x,k,h=>by
  have ih:= @nF sc r x k
  have h':List.lookup x ((if (k₀==NameKind.free && sc.kind==.function && sc.names.lookup n==some .cell)=true then (n,NameKind.cell) else (n,k₀))::(r.map _))=some k:=h
  cases hx:x==n with
  |true=>
   simp only[vq,hx]
   by_cases hc:(k₀==NameKind.free && sc.kind==.function && sc.names.lookup n==some .cell)=true
   ·rw[af hc] at h'
    simp only[vq,hx] at h'
    cases h'
    simp only[cq,cz] at hc
    exact⟨k₀,rfl,.inr ⟨hc.1.1,rfl⟩⟩
   ·rw[ae hc] at h'
    simp only[vq,hx] at h'
    cases h'
    exact⟨_,rfl,.inl rfl⟩
  |false=>
   simp only[vq,hx]
   by_cases hc:(k₀==NameKind.free && sc.kind==.function && sc.names.lookup n==some .cell)=true
   ·rw[af hc] at h'
    simp only[vq,hx] at h'
    exact ih h'
   ·rw[ae hc] at h'
    simp only[vq,hx] at h'
    exact ih h'
structure Fm(N:List Str)(sc scope:Scope)(own:List (Str×Nat)):Prop where
 kind:scope.kind=.function
 uniq:∀y∈scope.names,scope.names.lookup y.1=some y.2
 ix:∀p∈own,N[p.2]?=some p.1
 free:∀y∈scope.names,y.2=.free->sc.names.lookup y.1=some .cell\/sc.names.lookup y.1=some .free
 own:∀y∈scope.names,y.2=.local\/y.2=.cell->y.1∈own.map (·.1)\/y.1∉N
def fF(σ:St):List Nat->St
 |[]=>σ
 |v::vs=>(fF σ vs).set v none
theorem oJ(σ:St):∀vs:List Nat,(fF σ vs).length=σ.length
 |[]=>rfl
 |v::vs=>by unfold fF;rw[List.length_set,oJ σ vs]
theorem sY{x:V}:∀{vs:List Nat},(fF σ vs)[i]?=some (some x)->σ[i]?=some (some x)/\i∉vs
 |[],h=>⟨h,by simp⟩
 |v::vs,h=>by
  unfold fF at h
  by_cases hi:v=i
  ·subst hi
   by_cases hv:v<(fF σ vs).length
   ·rw[EI hv] at h;cases h
   ·rw[k9 (by simpa using hv)] at h;cases h
  ·rw[JB hi] at h
   obtain⟨h1,h2⟩:=sY h
   exact⟨h1,by simp only[ao,B7];exact⟨λe=>hi e.symm,h2⟩⟩
abbrev Cx.blk(X:Cx)(s:Shared)(H:Hp)(scope:Scope)(dw:Env)(fp:List Addr):Cx:={X with s_0:=s,H_0:=H,env:=dw,outer:=X.stack,ex:=fp,fn:=λx=>scope.names.lookup x==some .cell,pn:=[],xe:=λ_ _=>False}
theorem Ik{own:List (Str×Nat)}{fp:List Addr}(I:aQ X U σ H s)(ok:Fm X.N X.env.scope scope own)(hN:X.N.Nodup)(um:∀b∈fp,jF X U H b/\b<s.heap.objs.size):
  aQ (X.blk s H scope (compEnvC scope (cellsFrom (s.heap.objs.size+1) scope.names (dA X.env.cells scope.names [])) s.heap.objs.size X.env) fp) [] (fF σ (own.map (·.2))) H {s with heap:=pushCells (s.heap.push {cls:=.type "dict",data:=.dict #[]}) scope.names}:=by
 have yz:∀y∈scope.names,y.2=.free->∃c,X.env.cells.lookup y.1=some c:=λy hy e=>by
  rcases ok.free y hy e with k|k
  ·exact I.ok.has _ (.inl k)
  ·exact I.ok.has _ (.inr k)
 generalize hcenv:compEnvC scope (cellsFrom (s.heap.objs.size+1) scope.names (dA X.env.cells scope.names [])) s.heap.objs.size X.env=dw
 have kp:∀b o,s.heap.get? b=some o->(pushCells (s.heap.push {cls:=.type "dict",data:=.dict #[]}) scope.names).get? b=some o:=λb o e=>EM _ _ _ _ (bj _ e)
 have hL:dw.locals=s.heap.objs.size:=by rw[<-hcenv];rfl
 have js:dw.cells=cellsFrom (s.heap.objs.size+1) scope.names (dA X.env.cells scope.names []):=by rw[<-hcenv];rfl
 have C9:dw.scope=aG1 scope X.env.scope:=by rw[<-hcenv];rfl
 rw[<-ic s.heap {cls:=.type "dict",data:=.dict #[]}] at js
 have cm:∀{y c},(y,c)∈dA X.env.cells scope.names []->X.env.cells.lookup y=some c/\c<s.heap.objs.size:=λ{y c} hm=>by
  rcases jQ hm with hm|⟨h1,rfl⟩
  ·cases hm
  ·obtain⟨c,hc⟩:=yz _ h1 rfl
   rw[hc]
   obtain⟨w,z⟩:=I.cell _ _ hc
   exact⟨rfl,z.lt⟩
 have mem:∀{y c},dw.cells.lookup y=some c->(X.env.cells.lookup y=some c/\c<s.heap.objs.size)\/(s.heap.objs.size+1<=c/\Vi (pushCells (s.heap.push {cls:=.type "dict",data:=.dict #[]}) scope.names) c none):=λ{y c} e=>by
  rw[js] at e
  rcases kW (PySem.mem_of_lookup e) with hm|⟨_,h2,h3⟩
  ·exact .inl (cm hm)
  ·rw[ic] at h2;exact .inr ⟨h2,h3⟩
 have look:∀{y},scope.names.lookup y=some .free->∃c,dw.cells.lookup y=some c/\X.env.cells.lookup y=some c:=λ{y} hl=>by
  have hy:(y,NameKind.free)∈scope.names:=PySem.mem_of_lookup hl
  obtain⟨c',e'⟩:=qM (pE (names:=scope.names) (n:=(s.heap.push {cls:=.type "dict",data:=.dict #[]}).objs.size) (mZ (cells:=X.env.cells) (acc:=[]) hy))
  rw[<-js] at e'
  refine⟨c',e',?_⟩
  rw[js] at e'
  rcases kW (PySem.mem_of_lookup e') with hm|⟨h1,_,_⟩
  ·exact(cm hm).1
  ·have:=ok.uniq _ h1
   rw[hl] at this;cases this
 have Xi:(X.blk s H scope dw fp).Ok:=by
  refine⟨I.ok.mod,by show dw.scope.kind=_;rw[C9];exact ok.kind,by show dw.globals=_;rw[<-hcenv];exact I.ok.glob,by show dw.builtins=_;rw[<-hcenv];exact I.ok.blt,by show s.heap.objs.size<=dw.locals;rw[hL];exact ap _,
   λy z c e1 e2=>?_,λy hy=>?_,λy c z e=>?_,I.ok.hd,I.ok.frames,.inl rfl,λb hb=>⟨?_,λy c e z=>?_⟩,I.bs,gu I.ok.bsz I.sz,λb o e hb=>?_,λb hb z=>?_,I.stack,I.stkFree⟩
  ·have e1:dw.cells.lookup y=some c:=e1
   have e2:dw.cells.lookup z=some c:=e2
   rw[js] at e1 e2
   refine uD (λp hp=>?_) (λy z c a b=>I.ok.inj y z c (cm a).1 (cm b).1) (PySem.mem_of_lookup e1) (PySem.mem_of_lookup e2)
   rw[ic]
   exact vt (cm (y:=p.1) (c:=p.2) hp).2
  ·show ∃c,dw.cells.lookup y=some c
   have key:∀k,dw.kindOf y=some k->(k=.cell\/k=.free)->∃c,dw.cells.lookup y=some c:=λk hk qm=>by
    unfold Env.kindOf at hk
    rw[C9] at hk
    obtain⟨k',e,r⟩:=nF hk
    have:k'=.cell\/k'=.free:=by
     rcases r with rfl|⟨rfl,_⟩
     ·exact qm
     ·exact .inr rfl
    rcases this with rfl|rfl
    ·obtain⟨c,hm⟩:=tO (n:=(s.heap.push {cls:=.type "dict",data:=.dict #[]}).objs.size) (acc:=dA X.env.cells scope.names []) (PySem.mem_of_lookup e)
     obtain⟨c',e'⟩:=qM hm
     exact⟨c',by rw[js];exact e'⟩
    ·obtain⟨c,h1,_⟩:=look e
     exact⟨c,h1⟩
   rcases hy with hy|hy
   ·exact key _ hy (.inl rfl)
   ·exact key _ hy (.inr rfl)
  ·have z:(scope.names.lookup y==some NameKind.cell)=true:=z
   have z:scope.names.lookup y=some .cell:=by simpa using z
   have e:dw.cells.lookup y=some c:=e
   rw[js] at e
   rcases kW (PySem.mem_of_lookup e) with hm|⟨_,h2,_⟩
   ·rcases jQ hm with hm|⟨h1,_⟩
    ·cases hm
    ·have q:=ok.uniq _ h1
     rw[z] at q;cases q
   ·rw[ic] at h2
    exact EN h2
  ·show b≠dw.locals
   rw[hL];exact b9 (um b hb).2
  ·have e:dw.cells.lookup y=some c:=e
   rcases mem e with ⟨h1,_⟩|⟨h1,_⟩
   ·exact(um b hb).1.2.2.2.2.1 y c h1 z
   ·have h2:s.heap.objs.size+1<=b:=by rw[<-z];exact h1
    exact absurd (iy (um b hb).2 (EN h2)) (j5 _)
  ·rcases(um b hb).1.2.2.2.1 with z|z
   ·exact I.ok.noex b o e z
   ·exact absurd (iy (bg e) (gu I.ok.bsz z)) (j5 _)
  ·rcases ao.mp (I.stkSub b z) with z|z
   ·exact(um b hb).1.2.1 z
   ·exact(um b hb).1.2.2.1 z
 refine⟨Xi,rfl,I.bare,Un.kept kp,⟨λ_=>none,?_,λi y av e1 e2 e3=>?_⟩,λy c e=>?_,?_,λy c e=>?_,λp hp=>?_,I.hok.kept kp,by rw[oJ];exact I.len⟩
 ·show Heap.Ns _ dw.locals _
  rw[hL]
  exact Heap.Ns.keeps (Heap.Ns.new ..) λb o e=>EM _ _ _ _ e
 ·obtain⟨e2,aw⟩:=sY e2
  have jj:scope.names.lookup y=some .free/\(dw.kindOf y=some .cell\/dw.kindOf y=some .free):=by
   have key:∀k,dw.scope.names.lookup y=some k->k=.local\/k=.cell\/k=.free->scope.names.lookup y=some .free/\(dw.kindOf y=some .cell\/dw.kindOf y=some .free):=λk hk qm=>by
    have KF:=hk
    rw[C9] at hk
    obtain⟨k',e,r⟩:=nF hk
    have no:¬(k'=.local\/k'=.cell):=λhh=>by
     rcases ok.own _ (PySem.mem_of_lookup e) hh with e'|e'
     ·obtain⟨p,hp,P7⟩:=a8.mp e'
      have e3:=ok.ix p hp
      have:p.1=y:=P7
      rw[this] at e3
      exact aw (a8.mpr ⟨p,hp,xH hN e3 e1⟩)
     ·exact e' (d9 e1)
    rcases r with rfl|⟨rfl,rfl⟩
    ·rcases qm with rfl|rfl|rfl
     ·exact absurd (.inl rfl) no
     ·exact absurd (.inr rfl) no
     ·exact⟨e,.inr KF⟩
    ·exact⟨e,.inl KF⟩
   have e3:Vis dw.scope y:=e3
   rcases e3 with e3|e3|e3
   ·exact key _ e3 (.inl rfl)
   ·exact key _ e3 (.inr (.inl rfl))
   ·exact key _ e3 (.inr (.inr rfl))
  obtain⟨m,hn,hl⟩:=I.loc
  have P8:Vis X.env.scope y:=(ok.free _ (PySem.mem_of_lookup jj.1) rfl).elim (λk=>.inr (.inl k)) (λk=>.inr (.inr k))
  obtain⟨w,r,q⟩:=hl i y av e1 e2 P8
  refine⟨w,r,.inr ⟨jj.2,?_⟩⟩
  obtain⟨c,h1,h2⟩:=look jj.1
  rcases q with ⟨k,_⟩|⟨_,c',e',z⟩
  ·have k:X.env.scope.names.lookup y=some .local:=k
   rcases ok.free _ (PySem.mem_of_lookup jj.1) rfl with k'|k'<;>rw[show X.env.scope.names.lookup y=_ from k'] at k<;>cases k
  ·rw[h2] at e';cases e'
   exact⟨c,h1,z.keeps kp⟩
 ·have e:dw.cells.lookup y=some c:=e
  rcases mem e with ⟨h1,_⟩|⟨_,z⟩
  ·obtain⟨w,z⟩:=I.cell y c h1
   exact⟨w,z.keeps kp⟩
  ·exact⟨_,z⟩
 ·show H dw.locals=none
  rw[hL];exact I.hok.fresh (ap _)
 ·have e:dw.cells.lookup y=some c:=e
  rcases mem e with ⟨h1,_⟩|⟨h1,_⟩
  ·exact I.freeC y c h1
  ·exact I.hok.fresh (EN h1)
 ·exact absurd (show p∈([]:List (Addr×Obj))++[] from hp) (by simp)
theorem aEd{D:Addr}(I:aQ X U σ H s)(hD:H D=some (.lst xs))(hz:xs.length<sizeLine)(r:cB y v)
  (h:∀s',aQ X U σ (upd H D (.lst (xs++[y]))) s'->Q .none s'):wpAny (model X.prog X.w) X.A (call (.builtin "list.append") [.ref D,v]) Q E s:=by
 obtain⟨WC,its,n,ri,e⟩:=I.hok D _ hD
 have hl:=ri.length
 refine append_at (hsz:=by rw[cb];omega) e λh' sb lj=>?_
 refine h {s with heap:=h'} (I.write (t':=s.toks) (by rw[hD];trivial) (.inl rfl) (λb u hb q=>(sb.2 b hb).trans q) ⟨_,lj⟩ ⟨by rw[b6];exact hz,its++[v],n+1,ri.append (.cons r .nil),?_⟩)
 rw[lj]
 simp
def PTs(X:Cx)(ifs:List Expr)(t:TT):Prop:=
 ∀(U:List (Addr×Obj)) (s:Shared) (σ:St) (H:Hp) (Q:Bool->Hp->Prop),aQ X U σ H s->t σ H Q->
  wpAny (model X.prog X.w) X.A (forIn ifs true λc r=>if r=true then do let ok <-isTrue c X.env (eval c X.env);pure (ForInStep.yield ok) else pure (ForInStep.yield r)) (TP X U σ Q) X.xe s
def aFc:TT:=λ_ H Q=>Q true H
theorem gF:PTs X [] aFc:=λ_ _ _ H _ I h=>wpAny_tests_nil ⟨H,I,h⟩
theorem aA1{c:Expr}{t:TT}(h:PT X c t):PTs X [c] t:=λU s σ H Q I hw=>wpAny_tests_one (h U s σ H Q I hw)
theorem Sd{t:Sem α}{Q Q':α->Shared->Prop}(h:wpAny M A t Q (λ_ _=>False) s)(hQ:∀a s,Q a s->Q' a s):wpAny M A t Q' E s:=jq h hQ λ_ _ z=>False.elim z
theorem Dq{R:Result->Shared->Prop}{jt target iter:Expr}{ifs:List Expr}{it acc:Value}(I:Nat->Shared->Prop)
  (turn:∀n s,I n s->wpAny (model prog w) A (pyNext it) (λr az=>match r with
   |none=>R (.ok .next) az
   |some v=>wpAny (model prog w) A (letOwnedTupleGo target it v) (λ_ KG=>wpAny (model prog w) A (assign target env v) (λ_ gd=>
     wpAny (model prog w) A (forIn ifs true λc r=>if r=true then do let ok <-isTrue c env (eval c env);pure (ForInStep.yield ok) else pure (ForInStep.yield r)) (λok y'=>
      if ok=true then wpAny (model prog w) A (eval jt env) (λx KH=>
       wpAny (model prog w) A (call (.builtin "list.append") [acc,x]) (λ_ KI=>∃m,m<n/\I m KI) (notedBy (model prog w) A env λe s'=>R (.error e) s') KH) (notedBy (model prog w) A env λe s'=>R (.error e) s') y'
      else ∃m,m<n/\I m y') (notedBy (model prog w) A env λe s'=>R (.error e) s') gd) (notedBy (model prog w) A env λe s'=>R (.error e) s') KG) (notedBy (model prog w) A env λe s'=>R (.error e) s') az) (notedBy (model prog w) A env λe s'=>R (.error e) s') s)
  (n:Nat) (h:I n s):
  codeAny (model prog w) A (.compLoop (.ListComp jt [⟨target,iter,ifs,0⟩] scope pos) 0 it acc env) R s:=by
 refine codeAny_loop rfl I (λn s hI=>?_) n h
 show wpAny _ A ((compTurn (.ListComp jt [⟨target,iter,ifs,0⟩] scope pos) 0 it acc env).onRaise (λx=>do noteFrame x env;theTreesLotGoes x)) _ _ s
 refine wpAny_noted ?_
 rw[compTurn_list]
 refine ac (B8 (ac (jq (turn n s hI) (λr az c6=>?_) λ_ _ h'=>h')))
 cases r with
 |none=>exact ag c6
 |some v=>
  refine ac (jq c6 (λ_ KG P9=>?_) λ_ _ h'=>h')
  refine ac (jq P9 (λ_ gd A0=>ac (jq A0 (λok y' DA=>?_) λ_ _ h'=>h')) λ_ _ h'=>h')
  cases ok with
  |false=>exact ag ⟨rfl,DA⟩
  |true=>
   exact ac (ac (jq DA (λx KH P'=>ac (jq P' (λ_ KI QA=>ag (ag ⟨rfl,QA⟩)) λ_ _ h'=>h')) λ_ _ h'=>h'))
def tLc(wi:TI)(g:TG)(tt:TT)(te:TE)(vs:List Nat):TE:=fun σ H Q=>wi σ H λJ H1=>∀D,H1 D=none->∃W:Nat->Nat->Hp->Prop,(∃m,W 0 m (upd H1 D (.lst [])))/\∀i m H,W i m H->
 (J.stop i H/\Q (.ref D) H)\/(J.go i H/\∃Nx:Hp->Prop,(∀H',Nx H'->∃m',m'<m/\W (i+1) m' H')/\∀x H',J.yld i H x H'->g x (fF σ vs) H' λau H2=>fF au vs=fF σ vs/\tt au H2 λb H3=>
  if b=true then te au H3 λy H4=>∃acc,H4 D=some (.lst acc)/\acc.length<sizeLine/\Nx (upd H4 D (.lst (acc++[y]))) else Nx H3)
theorem Op{Q:VK}{jt iter:Expr}{ifs:List Expr}{own:List (Str×Nat)}{mf:Pos}{wi:TI}{tt:TT}{use:Option (Value->Sem Unit)}{Qf:Value->Shared->Prop}
  (hc:X.calm=true) (hN:X.N.Nodup) (I:aQ X U σ H s) (hi:PI X tg iter wi) (ok:Fm X.N X.env.scope scope own)
  (hg:∀(s:Shared)(H:Hp)(C:Addr) (cl:List (Str×Addr)) (fp:List Addr),PG (X.blk s H scope (compEnvC scope cl C X.env) fp) tg g) (ht:∀(s:Shared)(H:Hp)(C:Addr) (cl:List (Str×Addr)) (fp:List Addr),PTs (X.blk s H scope (compEnvC scope cl C X.env) fp) ifs tt)
  (he:∀(s:Shared)(H:Hp)(C:Addr) (cl:List (Str×Addr)) (fp:List Addr),PE (X.blk s H scope (compEnvC scope cl C X.env) fp) jt te) (hs:∀x,foldedSetIterable iter X.env x=pure x)
  (h:tLc wi g tt te (own.map (·.2)) σ H Q)
  (QB:∀D C s' m H',aQ X U σ H' s'->Q (.ref D) H'->s'.heap.Ns C m->jF X U H' C->compPost (model X.prog X.w) X.A X.xe use Qf (.ref D) C (.ok .next) s'):
  wpAny (model X.prog X.w) X.A (comprehension (.ListComp jt [⟨tg,iter,ifs,0⟩] scope pos) scope X.env mf (newList []) false (eval iter X.env) use) Qf X.xe s:=by
 have yz:∀y∈scope.names,y.2=.free->∃c,X.env.cells.lookup y.1=some c:=λy hy e=>by
  rcases ok.free y hy e with k|k
  ·exact I.ok.has _ (.inl k)
  ·exact I.ok.has _ (.inr k)
 refine wpAny_comprehension_free (use:=use) rfl hs (Kx yz) ok.kind (λy hy e=>by rw[ok.uniq y hy,e])
  (cX (hi U s σ H _ I h) λxv s1 hx=>cX hx λC4 s2 h2=>?_)
 obtain⟨it,fp,tn,J,H2,e,I2,T,y8,f2,q⟩:=h2
 subst e
 refine ip (Hx ?_) (by show 0<=sizeLine;decide)
 generalize hD:s2.heap.objs.size=D
 have QC:H2 D=none:=I2.hok.fresh (vi hD)
 obtain⟨W,⟨m0,w0⟩,turn⟩:=q D QC
 generalize o6:({s2 with heap:=s2.heap.push {cls:=.type "list",data:=.seq ([]:List Value).toArray}}:Shared)=s3
 have I3:aQ X U σ (upd H2 D (.lst [])) s3:=by
  rw[<-o6]
  refine I2.laid (t':=s2.toks) (λb o e=>bj _ e) (vi hD) ⟨c8 _,[],0,.nil,?_⟩
  rw[<-hD]
  exact cg _ rfl
 have h3:s3.heap=s2.heap.push {cls:=.type "list",data:=.seq ([]:List Value).toArray}:=by rw[<-o6]
 have sz:∀b∈fp,b<s2.heap.objs.size:=λb hb=>by
  obtain⟨o,e,_⟩:=T.obj _ _ y8 b hb
  exact bg e
 have f3:∀b∈fp,jF X U (upd H2 D (.lst [])) b/\b<s3.heap.objs.size:=λb hb=>by
  have am:=sz b hb
  refine⟨⟨?_,(f2 b hb).2⟩,by rw[h3,ic];exact vt am⟩
  rw[aC (by rw[<-hD];exact b9 am)]
  exact(f2 b hb).1
 have wm:tn 0 s3.heap:=T.keep _ _ _ y8 λb _ o e=>by rw[h3];exact bj _ e
 have I4:=Ik I3 ok hN f3
 have pg:=hg s3 (upd H2 D (.lst [])) s3.heap.objs.size (cellsFrom (s3.heap.objs.size+1) scope.names (dA X.env.cells scope.names [])) fp
 have pt:=ht s3 (upd H2 D (.lst [])) s3.heap.objs.size (cellsFrom (s3.heap.objs.size+1) scope.names (dA X.env.cells scope.names [])) fp
 have pe:=he s3 (upd H2 D (.lst [])) s3.heap.objs.size (cellsFrom (s3.heap.objs.size+1) scope.names (dA X.env.cells scope.names [])) fp
 show codeAny _ _ (.compStart (.ListComp jt [⟨tg,iter,ifs,0⟩] scope pos) 0 (.ref it) (.ref D) (compEnvC scope (cellsFrom (s3.heap.objs.size+1) scope.names (dA X.env.cells scope.names [])) s3.heap.objs.size X.env)) (compPost (model X.prog X.w) X.A X.xe use Qf (.ref D) s3.heap.objs.size) {s3 with heap:=pushCells (s3.heap.push {cls:=.type "dict",data:=.dict #[]}) scope.names}
 have KJ:∀b∈fp,(upd H2 D (.lst [])) b=none:=λb hb=>(f3 b hb).1.1
 generalize hce:compEnvC scope (cellsFrom (s3.heap.objs.size+1) scope.names (dA X.env.cells scope.names [])) s3.heap.objs.size X.env=ce at I4 pg pt pe ⊢
 have cL:ce.locals=s3.heap.objs.size:=by subst hce;rfl
 generalize hH3:upd H2 D (.lst [])=H3 at I3 I4 pg pt pe w0 KJ f3
 generalize wu:({s3 with heap:=pushCells (s3.heap.push {cls:=.type "dict",data:=.dict #[]}) scope.names}:Shared)=s4 at I4 ⊢
 have KL:tn 0 s4.heap:=T.keep _ _ _ wm λb _ o e=>by rw[<-wu];exact EM _ _ _ _ (bj _ e)
 have stat:∀{ah:St}{H':Hp}{s':Shared},aQ (X.blk s3 H3 scope ce fp) [] ah H' s'->(∀b∈fp,H' b=none)->∀b∈fp,jF (X.blk s3 H3 scope ce fp) [] H' b:=λ{ah H' s'} I' hn b hb=>
  ⟨hn b hb,(I'.ok.exf b hb).1,I'.ok.exfs b hb,.inl hb,λx c e=>(I'.ok.exf b hb).2 x c e,λp hp=>absurd (show p∈([]:List (Addr×Obj))++[] from hp) (by simp)⟩
 have loop:codeAny (model X.prog X.w) X.A (.compLoop (.ListComp jt [⟨tg,iter,ifs,0⟩] scope pos) 0 (.ref it) (.ref D) ce) (compPost (model X.prog X.w) X.A X.xe use Qf (.ref D) s3.heap.objs.size) s4:=by
  refine Dq (λn s'=>∃i H',aQ (X.blk s3 H3 scope ce fp) [] (fF σ (own.map (·.2))) H' s'/\tn i s'.heap/\(∀b∈fp,H' b=none)/\W i n H') ?_ m0 ⟨0,H3,I4,KL,KJ,w0⟩
  rintro n s5 ⟨i,H5,I5,qi,n5,w5⟩
  rcases turn i n H5 w5 with ⟨stop,qq⟩|⟨go,Nx,QD,step⟩
  ·have td:=T.done (X.blk s3 H3 scope ce fp) rfl rfl rfl hc i [] s5 _ H5 (λ_ _=>False) I5 (stat I5 n5) qi stop
   refine Sd td λr s6 ⟨hr,I6⟩=>?_
   subst hr
   have I7:aQ X U σ H5 s6:=I3.call' (ch:=fp) I6.os I6.base I6.hok I6.bare λb hb=>⟨(f3 b hb).1.2.2.2.1,(f3 b hb).1.2.1,(f3 b hb).1.2.2.2.2.1,(f3 b hb).1.2.2.2.2.2⟩
   have nC:H5 s3.heap.objs.size=none:=by
    have z:H5 ce.locals=none:=I6.free
    rw[cL] at z
    exact z
   obtain⟨m,hn,_⟩:=I6.loc
   have hn:s6.heap.Ns ce.locals m:=hn
   rw[cL] at hn
   exact QB D s3.heap.objs.size s6 m H5 I7 qq hn (I3.fpOk (ap _) nC)
  ·have ti:=T.item (X.blk s3 H3 scope ce fp) rfl rfl rfl hc i [] s5 _ H5 (λ_ _=>False) I5 (stat I5 n5) qi go
   refine Sd ti λr s6 ⟨u,hr,h6⟩=>?_
   subst hr
   refine Sd h6 λ_ s7 ⟨x,H7,I7,r7,y7,FX,n7⟩=>?_
   have QE:=I7.pinned (stat I7 n7) (T.obj _ _ FX)
   refine Sd (pg _ s7 _ H7 x u _ QE r7 (step x H7 y7)) λ_ s8 ⟨DB,H8,I8,KM,q8⟩=>?_
   refine Sd (pt _ s8 DB H8 _ I8 q8) λb s9 ⟨H9,I9,q9⟩=>?_
   have fin:∀{s':Shared}{H':Hp},aQ (X.blk s3 H3 scope ce fp) ([]++tG fp s7.heap) DB H' s'->Nx H'->∃m,m<n/\∃i H',aQ (X.blk s3 H3 scope ce fp) [] (fF σ (own.map (·.2))) H' s'/\tn i s'.heap/\(∀b∈fp,H' b=none)/\W i m H':=λ{s' H'} I' nx=>by
    obtain⟨m',hm,w'⟩:=QD H' nx
    have KN:∀b∈fp,∀o,s7.heap.get? b=some o->s'.heap.get? b=some o/\H' b=none:=λb hb o e=>
     let z:=I'.pin (b,o) (gi _ (gi _ (jE hb e)))
     ⟨z.1,z.2.1⟩
    have hl:(fF σ (own.map (·.2))).length=DB.length:=by rw[<-KM,oJ]
    refine⟨m',hm,i+1,H',(I'.unpinned (U:=[])).weak hl (λj v e=>?_),T.keep _ _ _ FX λb hb o e=>(KN b hb o e).1,λb hb=>?_,w'⟩
    ·rw[<-KM] at e
     exact(sY e).1
    ·obtain⟨o,e,_⟩:=T.obj _ _ FX b hb
     exact(KN b hb o e).2
   cases b with
   |false=>
    simp only[qc,jy] at q9 ⊢
    exact fin I9 q9
   |true=>
    simp only[vk] at q9 ⊢
    refine Sd (pe _ s9 DB H9 _ I9 q9) λz zc ⟨yv,FY,QF,QG,acc,QH,QI,nx⟩=>?_
    exact aEd (X:=X.blk s3 H3 scope ce fp) QF QH QI QG λuo QJ=>fin QJ nx
 exact codeAny_compStart_list loop (T.self X.A 0 _ _ _ KL loop)
theorem rK{jt iter:Expr}{ifs:List Expr}{own:List (Str×Nat)}{wi:TI}{tt:TT}(hc:X.calm=true)(hN:X.N.Nodup)(hi:PI X tg iter wi)(ok:Fm X.N X.env.scope scope own)
  (hg:∀(s:Shared)(H:Hp)(C:Addr) (cl:List (Str×Addr)) (fp:List Addr),PG (X.blk s H scope (compEnvC scope cl C X.env) fp) tg g) (ht:∀(s:Shared)(H:Hp)(C:Addr) (cl:List (Str×Addr)) (fp:List Addr),PTs (X.blk s H scope (compEnvC scope cl C X.env) fp) ifs tt)
  (he:∀(s:Shared)(H:Hp)(C:Addr) (cl:List (Str×Addr)) (fp:List Addr),PE (X.blk s H scope (compEnvC scope cl C X.env) fp) jt te) (hs:∀x,foldedSetIterable iter X.env x=pure x:=by intro _;rfl):
  PE X (.ListComp jt [⟨tg,iter,ifs,0⟩] scope pos) (tLc wi g tt te (own.map (·.2))):=by
 intro U s σ H Q I h
 rw[eval_ListComp]
 refine Op hc hN I hi ok hg ht he hs h λD C s' m H' I' q hn f=>⟨m,hn,λnz sb=>?_⟩
 obtain⟨f0,f1,f2,f3,f4,f5⟩:=f
 exact⟨.ref D,H',I'.turned (t':=s'.toks) (λb o hb e=>(sb.2 b hb).trans e) f0 f1 f3 f4 f5,rfl,q⟩
theorem yN{y:Str}{py:Pos}{jt iter:Expr}{ifs:List Expr}{own:List (Str×Nat)}{spos:Pos}{wi:TI}{tt:TT}(hc:X.calm=true)(hN:X.N.Nodup)(hy:X.N[i]?=some y)(KO:X.env.scope.names.lookup y=some .local)
  (QK:swapsWith (.ListComp jt [⟨tg,iter,ifs,0⟩] scope pos) (some (.Name y py)) spos.line X.env=pure true) (hi:PI X tg iter wi) (ok:Fm X.N X.env.scope scope own)
  (hg:∀(s:Shared)(H:Hp)(C:Addr) (cl:List (Str×Addr)) (fp:List Addr),PG (X.blk s H scope (compEnvC scope cl C X.env) fp) tg g) (ht:∀(s:Shared)(H:Hp)(C:Addr) (cl:List (Str×Addr)) (fp:List Addr),PTs (X.blk s H scope (compEnvC scope cl C X.env) fp) ifs tt)
  (he:∀(s:Shared)(H:Hp)(C:Addr) (cl:List (Str×Addr)) (fp:List Addr),PE (X.blk s H scope (compEnvC scope cl C X.env) fp) jt te) (hs:∀x,foldedSetIterable iter X.env x=pure x:=by intro _;rfl):
  PS X (.Assign [.Name y py] (.ListComp jt [⟨tg,iter,ifs,0⟩] scope pos) spos) (Jc (tLc wi g tt te (own.map (·.2))) (mP i)):=by
 intro U s σ H D I h
 rw[exec_Assign_Name_used _ _ _ _ QK]
 refine ac (B8 (ac ?_))
 show wpAny _ X.A (do let _ <-comprehension (.ListComp jt [⟨tg,iter,ifs,0⟩] scope pos) scope X.env (firstIterPos [⟨tg,iter,ifs,0⟩] pos) (newList []) false (eval iter X.env) (some (assign (.Name y py) X.env))) _ _ s
 have h:tLc wi g tt te (own.map (·.2)) σ H (λx H1=>mP i x σ H1 D.nx):=h
 refine ac (cX (Op (Qf:=λ_ s'=>SP X U D .next s') hc hN I hi ok hg ht he hs h λL C s' m H' I' q hn f=>?_) λ_ s' hq=>ag (ag hq))
 show wpAny _ _ (assign (.Name y py) X.env (.ref L)) _ _ _
 refine wpAny_assign_Name (As (v:=V.ref L) I' hN hy (.inl KO) rfl (λs2 I2 ⟨a,sb,ha⟩=>?_) (.inr KO))
 obtain⟨f0,f1,f2,f3,f4,f5⟩:=f
 have QL:C≠a:=by
  rcases ha with z|z
  ·rw[z];exact f1
  ·exact λe=>f4 y a z e.symm
 refine⟨m,hn.sameBut sb QL,λh3 QM=>?_⟩
 exact⟨_,H',I2.turned (t':=s2.toks) (λb o hb e=>(QM.2 b hb).trans e) f0 f1 f3 f4 f5,q⟩
variable{K:Frag}
theorem lN{tt:TT}{vs:List Nat}{D:Addr}{Qd:Hp->Prop}(Pv:Nat->Hp->Prop)(h0:Pv 0 (upd H1 D (.lst [])))(hl:∀i H,i<=xs.length->Pv i H->cR K H a xs)
  (hs:∀i x H,xs[i]?=some x->Pv i H->g x (fF σ vs) H λau H2=>fF au vs=fF σ vs/\tt au H2 λb H3=>
   if b=true then te au H3 λy H4=>∃acc,H4 D=some (.lst acc)/\acc.length<sizeLine/\Pv (i+1) (upd H4 D (.lst (acc++[y]))) else Pv (i+1) H3) (hd:∀H,Pv xs.length H->Qd H):
  ∃W:Nat->Nat->Hp->Prop,(∃m,W 0 m (upd H1 D (.lst [])))/\∀i m H,W i m H->
   ((Wc K a).stop i H/\Qd H)\/((Wc K a).go i H/\∃Nx:Hp->Prop,(∀H',Nx H'->∃m',m'<m/\W (i+1) m' H')/\∀x H',(Wc K a).yld i H x H'->g x (fF σ vs) H' λau H2=>fF au vs=fF σ vs/\tt au H2 λb H3=>
    if b=true then te au H3 λy H4=>∃acc,H4 D=some (.lst acc)/\acc.length<sizeLine/\Nx (upd H4 D (.lst (acc++[y]))) else Nx H3):=by
 refine⟨λi m H=>m=xs.length - i/\i<=xs.length/\Pv i H,⟨xs.length,by simp,c8 _,h0⟩,?_⟩
 rintro i m H ⟨rfl,hi,p⟩
 have q:=hl i H hi p
 by_cases am:i<xs.length
 ·refine .inr ⟨⟨xs,xs[i],q,by simp[am]⟩,Pv (i+1),λH' p'=>⟨xs.length - (i+1),by omega,rfl,am,p'⟩,λx H' y=>?_⟩
  obtain⟨e,y⟩:=y
  subst e
  exact hs i x _ (y xs q) p
 ·have e:i=xs.length:=by omega
  subst e
  exact .inl ⟨⟨xs,q,ap _⟩,hd H p⟩
def aFs(N:List Str)(sc scope:Scope)(own:List (Str×Nat)):Bool:=
 (match scope.kind with|.function=>true|_=>false) && (scope.names.all λy=>decide (scope.names.lookup y.1=some y.2)) && (own.all λp=>decide (N[p.2]?=some p.1)) &&
  (scope.names.all λy=>match y.2 with
   |.free=>(match sc.names.lookup y.1 with|some .cell=>true|some .free=>true|_=>false)
   |.local=>decide (y.1∈own.map (·.1))||decide (y.1∉N)
   |.cell=>decide (y.1∈own.map (·.1))||decide (y.1∉N)
   |_=>true)
theorem eP{N:List Str}{sc:Scope}{own:List (Str×Nat)}(h:aFs N sc scope own=true):Fm N sc scope own:=by
 unfold aFs at h
 simp only[cq,j8,N7] at h
 obtain⟨⟨⟨h1,h2⟩,h3⟩,h4⟩:=h
 refine⟨?_,h2,h3,λy hy e=>?_,λy hy e=>?_⟩
 ·split at h1
  ·assumption
  ·cases h1
 ·have q:=h4 y hy
  simp only[e] at q
  split at q<;>first|exact .inl (by assumption)|exact .inr (by assumption)|cases q
 ·have q:=h4 y hy
  rcases e with e|e<;>(simp only[e,ye,N7] at q;exact q)
section
variable{R:Result->Shared->Prop}{jt t0 i0 t1 i1:Expr}{WD WE:List Expr}{it acc:Value}
end
section
variable{κ:Type}[DecidableEq κ]
def gL(aJ:List (κ×V))(k:κ):Option V:=(aJ.find? λkv=>decide (kv.1=k)).map (·.2)
def kJ(aJ:List (κ×V))(k:κ)(v:V):List (κ×V):=
 if (aJ.any λkv=>decide (kv.1=k))=true then aJ.map (λkv=>if kv.1=k then (kv.1,v) else kv) else aJ++[(k,v)]
theorem rM{p:κ×V}{r:List (κ×V)}{k:κ}(e:p.1=k):gL (p::r) k=some p.2:=by simp[gL,lf,e]
theorem nR{p:κ×V}{r:List (κ×V)}{k:κ}(e:¬p.1=k):gL (p::r) k=gL r k:=by simp[gL,lf,e]
theorem wJ(k:κ):∀aJ:List (κ×V),(aJ.any λkv=>decide (kv.1=k))=(gL aJ k).isSome
 |[]=>rfl
 |p::r=>by
  rw[vn]
  by_cases e:p.1=k
  ·simp only[rM e,c9 e,Bool.true_or,N6]
  ·rw[nR e,jn e,Bool.false_or];exact wJ k r
theorem uH(aJ:List (κ×V))(k:κ)(v:V):(kJ aJ k v).length<=aJ.length+1:=by
 unfold kJ
 split
 ·rw[ai];omega
 ·rw[b6,bh,lh];omega
theorem sJ{aJ:List (κ×V)}{k:κ}(v:V)(h:gL aJ k=none):kJ aJ k v=aJ++[(k,v)]:=by
 unfold kJ
 rw[wJ,h]
 exact ae (by decide)
theorem mI.isSome_eq{o:Option V}{u:Option Value}(r:mI o u):o.isSome=u.isSome:=by
 cases o with
 |none=>cases u with
  |none=>rfl
  |some _=>exact(show False from r).elim
 |some _=>cases u with
  |none=>exact(show False from r).elim
  |some _=>rfl
theorem KV.val{aJ:List (κ×V)}{vs:List (κ×Value)}(r:KV aJ vs)(k:κ):mI (gL aJ k) (valueAt vs k):=by
 unfold KV at r
 induction r with
 |nil=>exact True.intro
 | @cons p q ps qs h t ih=>
  obtain⟨h1,h2⟩:=h
  by_cases e:p.1=k
  ·have e':q.1=k:=h1.symm.trans e
   have b:valueAt (q::qs) k=some q.2:=by simp[valueAt,lf,e']
   rw[rM e,b];exact h2
  ·have e':¬q.1=k:=λz=>e (h1.trans z)
   have b:valueAt (q::qs) k=valueAt qs k:=by simp[valueAt,lf,e']
   rw[nR e,b];exact ih
theorem KV.any{aJ:List (κ×V)}{vs:List (κ×Value)}(r:KV aJ vs)(k:κ):(aJ.any λkv=>decide (kv.1=k))=vs.any λkv=>decide (kv.1=k):=by
 unfold KV at r
 induction r with
 |nil=>rfl
 |cons h t ih=>rw[vn,vn,ih,h.1]
theorem KV.repl{aJ:List (κ×V)}{vs:List (κ×Value)}(r:KV aJ vs)(k:κ)(ry:cB y u):
  KV (aJ.map λkv=>if kv.1=k then (kv.1,y) else kv) (vs.map λkv=>if kv.1=k then (kv.1,u) else kv):=by
 unfold KV at r ⊢
 induction r with
 |nil=>exact .nil
 | @cons p q ps qs h t ih=>
  rw[bp,bp]
  refine .cons ?_ ih
  obtain⟨h1,h2⟩:=h
  by_cases e:p.1=k
  ·rw[af e,af (h1.symm.trans e)];exact⟨h1,ry⟩
  ·rw[ae e,ae (λz=>e (h1.trans z))];exact⟨h1,h2⟩
theorem KV.put{aJ:List (κ×V)}{vs:List (κ×Value)}(r:KV aJ vs)(k:κ)(ry:cB y u):KV (kJ aJ k y) (stored vs k u):=by
 unfold kJ stored
 rw[r.any k]
 by_cases e:(vs.any λkv=>decide (kv.1=k))=true
 ·rw[af e,af e];exact r.repl k ry
 ·rw[ae e,ae e];exact Paired.snoc r ⟨rfl,ry⟩
theorem KV.length{aJ:List (κ×V)}{vs:List (κ×Value)}(r:KV aJ vs):aJ.length=vs.length:=Paired.length r
end
theorem Hk{k:dQ}(r:cB (kV k) u):(dN P w).is k u=true:=by
 cases k with
 |inl i=>obtain⟨t,e⟩:=(show ∃t,u=Value.int i t from r);subst e;exact Ih P w i t
 |inr x=>obtain⟨t,e⟩:=(show ∃t,u=Value.str x t from r);subst e;exact Fu P w x t
theorem Ag:∀{ks:List dQ}{us:List Value},bO (ks.map kV) us->ItemsAre (dN P w) ks us
 |[],_,r=>by rw[vm] at r;cases r;exact .nil
 |k::ks,_,r=>by
  rw[bp] at r
  cases r with
  |cons h t=>exact .cons (Hk h) (Ag t)
abbrev KT(H:Hp):List (List dQ×V)->List (List dQ×Addr×Value)->Prop:=Paired λp q=>p.1=q.1/\H q.2.1=some (.tup (p.1.map kV))/\cB p.2 q.2.2
theorem KT.val{aJ:List (List dQ×V)}{xs:List (List dQ×Addr×Value)}(r:KT H aJ xs)(k:List dQ):mI (gL aJ k) ((atKey xs k).map (·.2)):=by
 induction r with
 |nil=>exact True.intro
 | @cons p q ps qs h t ih=>
  obtain⟨h1,_,h2⟩:=h
  by_cases e:p.1=k
  ·have e':q.1=k:=h1.symm.trans e
   have b:atKey (q::qs) k=some q.2:=by simp[atKey,lf,e']
   rw[rM e,b];exact h2
  ·have e':¬q.1=k:=λz=>e (h1.trans z)
   have b:atKey (q::qs) k=atKey qs k:=by simp[atKey,lf,e']
   rw[nR e,b];exact ih
theorem KT.repl{aJ:List (List dQ×V)}{xs:List (List dQ×Addr×Value)}(r:KT H aJ xs)(k:List dQ)(ry:cB y u):
  KT H (aJ.map λkv=>if kv.1=k then (kv.1,y) else kv) (xs.map (putAt k u)):=by
 induction r with
 |nil=>exact .nil
 | @cons p q ps qs h t ih=>
  rw[bp,bp]
  refine .cons ?_ ih
  obtain⟨h1,h2,h3⟩:=h
  unfold putAt
  by_cases e:p.1=k
  ·rw[af e,af (h1.symm.trans e)];exact⟨h1,h2,ry⟩
  ·rw[ae e,ae (λz=>e (h1.trans z))];exact⟨h1,h2,h3⟩
theorem KT.put{aJ:List (List dQ×V)}{xs:List (List dQ×Addr×Value)}(r:KT H aJ xs)(k:List dQ)(hb:H b=some (.tup (k.map kV)))(ry:cB y u):
  KT H (kJ aJ k y) (storedH xs k b u):=by
 have e:(aJ.any λkv=>decide (kv.1=k))=(atKey xs k).isSome:=by
  rw[wJ,(r.val k).isSome_eq,j9]
 unfold kJ storedH
 rw[e]
 by_cases q:(atKey xs k).isSome=true
 ·rw[af q,af q];exact r.repl k ry
 ·rw[ae q,ae q];exact Paired.snoc r ⟨rfl,hb,ry⟩
theorem KT.keeps{aJ:List (List dQ×V)}{xs:List (List dQ×Addr×Value)}(r:KT H aJ xs)(ht:∀b ys,H b=some (.tup ys)->H' b=some (.tup ys)):KT H' aJ xs:=
 Paired.mapP r λ_ _ z=>⟨z.1,ht _ _ z.2.1,z.2.2⟩
theorem Ty{u:HO}(ok:lK P w H h)(e:Rd H a u):cJ P w H h a u:=e.ok ok
theorem Is{aJ:List (dQ×V)}(ok:lK P w H h)(e:Rd H a (.dK aJ)):aJ.length<=sizeLine/\(a==sysModules)=false/\∃vs,KV aJ vs/\h.DictOf (dN P w) a vs:=
 show cJ P w H h a (.dK aJ) from Ty ok e
theorem aEm{aJ:List (dQ×V)}(ok:lK P w H h)(e:H a=some (.dK aJ)):aJ.length<=sizeLine/\(a==sysModules)=false/\∃vs,KV aJ vs/\h.DictOf (dN P w) a vs:=Is ok (.inl e)
theorem tY{ks:List dQ}(ok:lK P w H h)(e:H a=some (.tup (ks.map kV))):(tupleKind (dN P w)).is h ks a:=by
 obtain⟨_,its,r,o,h1,h2,n,h3⟩:=(show cJ P w H h a (.tup (ks.map kV)) from ok a _ e)
 exact⟨o,its.toArray,n,h1,h2,h3,by simpa using Ag r⟩
theorem Gf{aJ:List (List dQ×V)}(ok:lK P w H h)(e:Rd H a (.dT aJ)):aJ.length<=sizeLine/\(a==sysModules)=false/\
  ∃xs,KT H aJ xs/\h.DictOfH (tupleKind (dN P w)) a xs:=by
 obtain⟨z,y,xs,r,o,es,ep,h1,h2,h3,h4,h5⟩:=(show cJ P w H h a (.dT aJ) from Ty ok e)
 refine⟨z,y,xs,r,o,es,ep,h1,h2,h3,h4,λx hx=>?_,h5⟩
 have all:∀{l:List (List dQ×V)} {m:List (List dQ×Addr×Value)},KT H l m->∀x∈m,(tupleKind (dN P w)).is h x.1 x.2.1:=by
  intro l m q
  induction q with
  |nil=>intro x hx;exact nomatch hx
  | @cons p q ps qs hq t ih=>
   intro x hx
   rcases ao.mp hx with e|hx
   ·subst e
    exact tY ok (by rw[<-hq.1];exact hq.2.1)
   ·exact ih x hx
 exact all r x hx
theorem Nq{aJ:List (List dQ×V)}(ok:lK P w H h)(e:H a=some (.dT aJ)):aJ.length<=sizeLine/\(a==sysModules)=false/\
  ∃xs,KT H aJ xs/\h.DictOfH (tupleKind (dN P w)) a xs:=Gf ok (.inl e)
def mW(H:Hp)(a:Addr)(y:V)(r:Option V):Prop:=
 (∃aJ k,Rd H a (.dK aJ)/\y=kV k/\r=gL aJ k)\/∃aJ k b,Rd H a (.dT aJ)/\y=.ref b/\H b=some (.tup (k.map kV))/\r=gL aJ k
def tK(H:Hp)(a:Addr)(y v:V)(H':Hp):Prop:=
 (∃aJ k,H a=some (.dK aJ)/\y=kV k/\aJ.length<sizeLine/\H'=upd H a (.dK (kJ aJ k v)))\/
 ∃aJ k b,H a=some (.dT aJ)/\y=.ref b/\H b=some (.tup (k.map kV))/\aJ.length<sizeLine/\H'=upd H a (.dT (kJ aJ k v))
theorem mW.kk{aJ:List (dQ×V)}{k:dQ}(e:H a=some (.dK aJ)):mW H a (kV k) (gL aJ k):=.inl ⟨aJ,k,.inl e,rfl,rfl⟩
theorem mW.tt{aJ:List (List dQ×V)}{k:List dQ}(e:H a=some (.dT aJ))(eb:H b=some (.tup (k.map kV))):mW H a (.ref b) (gL aJ k):=.inr ⟨aJ,k,b,.inl e,rfl,eb,rfl⟩
theorem tK.kk{aJ:List (dQ×V)}{k:dQ}{v:V}(e:H a=some (.dK aJ))(hl:aJ.length<sizeLine):tK H a (kV k) v (upd H a (.dK (kJ aJ k v))):=.inl ⟨aJ,k,e,rfl,hl,rfl⟩
theorem tK.tt{aJ:List (List dQ×V)}{k:List dQ}{v:V}(e:H a=some (.dT aJ))(eb:H b=some (.tup (k.map kV)))(hl:aJ.length<sizeLine):
  tK H a (.ref b) v (upd H a (.dT (kJ aJ k v))):=.inr ⟨aJ,k,b,e,rfl,eb,hl,rfl⟩
section
variable{v:V}{r:Value}{o:Option V}
theorem aQ.big(I:aQ X U σ H s):sysModules<s.heap.objs.size:=by
 have h:mainGlobals<s.heap.objs.size:=(I.mod.glob.keeps I.bk).lt
 exact EO (by decide) h
theorem Rk(hu:A.units+1<cLine)(I:aQ X U σ H s)(g:mW H a y (some v))(ry:cB y u)(h:∀w' s',aQ X U σ H s'->cB v w'->Q w' s'):
  wpAny (model X.prog X.w) A (getItem (.ref a) u) Q E s:=by
 rcases g with ⟨aJ,k,e,ey,l⟩|⟨aJ,k,b,e,ey,eb,l⟩
 ·subst ey
  obtain⟨z,hd,vs,rel,dd⟩:=Is I.hok e
  obtain⟨w',hw,r9⟩:=mI.some_of (v:=v) (o:=valueAt vs k) (by rw[l];exact rel.val k)
  exact wpAny_getItem_of (Hk ry) dd.mapOf hw (h w' _ (I.tok _) r9)
 ·subst ey
  cases (show u=Value.ref b from ry)
  obtain⟨z,hd,xs,rel,dd⟩:=Gf I.hok e
  obtain⟨w',hw,r9⟩:=mI.some_of (v:=v) (o:=(atKey xs k).map (·.2)) (by rw[l];exact rel.val k)
  obtain⟨p,hp,uq⟩:=rk.mp hw
  refine wpAny_getItem_heap (B9 hu) (tY I.hok eb) dd hp ?_
  rw[uq]
  exact h w' _ (I.tok _) r9
theorem aGq(hu:A.units+1<cLine)(I:aQ X U σ H s)(g:mW H a y o)(ry:cB y u)(h:∀s',aQ X U σ H s'->Q (.bool o.isSome) s'):
  wpAny (model X.prog X.w) A (compareOp .In u (.ref a)) Q E s:=by
 rcases g with ⟨aJ,k,e,ey,l⟩|⟨aJ,k,b,e,ey,eb,l⟩
 ·subst ey
  obtain⟨z,hd,vs,rel,dd⟩:=Is I.hok e
  refine wpAny_in_of (Hk ry) hd dd.mapOf ?_
  rw[<-(rel.val k).isSome_eq,<-l]
  exact h _ (I.tok _)
 ·subst ey
  cases (show u=Value.ref b from ry)
  obtain⟨z,hd,xs,rel,dd⟩:=Gf I.hok e
  refine wpAny_in_heap (B9 hu) (tY I.hok eb) hd dd ?_
  have q:=(rel.val k).isSome_eq
  rw[j9] at q
  rw[<-q,<-l]
  exact h _ (I.tok _)
theorem Yw(hu:A.units+1<cLine)(I:aQ X U σ H s)(g:mW H a y o)(ry:cB y u)(h:∀s',aQ X U σ H s'->Q (.bool (!o.isSome)) s'):
  wpAny (model X.prog X.w) A (compareOp .NotIn u (.ref a)) Q E s:=by
 rcases g with ⟨aJ,k,e,ey,l⟩|⟨aJ,k,b,e,ey,eb,l⟩
 ·subst ey
  obtain⟨z,hd,vs,rel,dd⟩:=Is I.hok e
  refine wpAny_notIn_of (Hk ry) hd dd.mapOf ?_
  rw[<-(rel.val k).isSome_eq,<-l]
  exact h _ (I.tok _)
 ·subst ey
  cases (show u=Value.ref b from ry)
  obtain⟨z,hd,xs,rel,dd⟩:=Gf I.hok e
  refine wpAny_notIn_heap (B9 hu) (tY I.hok eb) hd dd ?_
  have q:=(rel.val k).isSome_eq
  rw[j9] at q
  rw[<-q,<-l]
  exact h _ (I.tok _)
theorem Da{ob:HO}(I:aQ X U σ H s)(mu:Mut (H a))(hs:Heap.SameBut a s.heap h')(he:∃q,h'.get? a=some q)(new:cJ X.prog X.w (upd H a ob) h' a ob):
  aQ X U σ (upd H a ob) {s with heap:=h',toks:=t'}:=
 I.write (x:=a) (e:=a) mu (.inl rfl) (λb q hb z=>(hs.2 b hb).trans z) he new
theorem aCd{aJ:List (dQ×V)}{vs:List (dQ×Value)}(z:aJ.length<=sizeLine)(hd:(a==sysModules)=false)(rel:KV aJ vs)(dd:h'.DictOf (dN P w) a vs):
  cJ P w H' h' a (.dK aJ):=⟨z,hd,vs,rel,dd⟩
theorem Pk{Q:Unit->Shared->Prop}(hu:A.units+1<cLine)(I:aQ X U σ H s)(g:tK H a y v H')(ry:cB y u)(rv:cB v r)(h:∀s',aQ X U σ H' s'->Q () s'):
  wpAny (model X.prog X.w) A (setItem (.ref a) u r) Q E s:=by
 rcases g with ⟨aJ,k,e,ey,l,eH⟩|⟨aJ,k,b,e,ey,eb,l,eH⟩
 ·subst ey eH
  obtain⟨z,hd,vs,rel,dd⟩:=aEm I.hok e
  have hz:vs.length<=sizeLine:=by rw[<-rel.length];exact z
  have hl:(kJ aJ k v).length<=sizeLine:=by have:=uH aJ k v;omega
  refine wpAny_setItem_pairs (hsz:=hz) (Hk ry) dd λh' zd hs=>h _ ?_
  have he:∃q,h'.get? a=some q:=let ⟨q,_,_,hq,_⟩:=zd;⟨q,hq⟩
  exact Da I (by rw[e];exact True.intro) hs he (aCd hl hd (rel.put k rv) zd)
 ·subst ey eH
  cases (show u=Value.ref b from ry)
  obtain⟨z,hd,xs,rel,dd⟩:=Nq I.hok e
  have hz:xs.length<=sizeLine:=by rw[<-Paired.length rel];exact z
  have hl:(kJ aJ k v).length<=sizeLine:=by have:=uH aJ k v;omega
  refine wpAny_setItem_heap (hsz:=hz) (B9 hu) (tY I.hok eb) dd λh' zd hs=>h _ ?_
  obtain⟨q,es,ep,hq,h2,h3,h4,_,h5⟩:=zd
  refine Da I (by rw[e];exact True.intro) hs ⟨q,hq⟩ ⟨hl,hd,_,(rel.put k eb rv).keeps λc ys ec=>?_,q,es,ep,hq,h2,h3,h4,h5⟩
  rw[aC (aBm ec e (λz=>nomatch z))]
  exact ec
end
section
variable{aJ:List (dQ×V)}{k:dQ}
end
def aF0(i:Expr):Prop:=∀ov iv,subscripted i false ov iv=operate [ov,iv] (getItem ov iv)
theorem aAf{value slice:Expr}{T id:String}
  (hl:typeLookup (.type T) "__getitem__"=pure (some (.builtin id))) (hs:aF0 slice)
  (h:wpAny (model prog w) A (eval value env) (λo az=>wpAny (model prog w) A (eval slice env) (λi gd=>gd.TypeIs o T/\wpAny (model prog w) A (getItem o i) Q E gd) E az) E s):
  wpAny (model prog w) A (eval (.Subscript value slice pos) env) Q E s:=by
 refine Subscript_ (jq h (λo az c6=>jq c6 (λi gd A0=>?_) λ_ _ x=>x) λ_ _ x=>x)
 obtain⟨hT,A0⟩:=A0
 unfold subscriptTail
 refine ac ?_
 rw[getitemInPython_of_ne hT.not_modules]
 refine ac (wpAny_specialOf hT hl ?_)
 have fin:wpAny (model prog w) A (subscripted slice false o i) (λr y'=>wpAny (model prog w) A (letTemporaryGo value o r>>=λ_=>pure r) Q E y') E gd:=by
  rw[hs o i]
  exact wpAny_operating (jq A0 (λr y' DA=>ac (wpAny_letTemporaryGo (ag DA))) λ_ _ x=>x)
 first
  |exact ag (ac fin)
  |exact ac (ag (ac fin))
  |exact ac fin
theorem Im{o:Option V}(I:aQ X U σ H s)(g:mW H a y o):s.TypeIs (.ref a) "dict":=by
 rcases g with ⟨aJ,k,e,_,_⟩|⟨aJ,k,b,e,_,_,_⟩
 ·obtain⟨_,_,vs,_,dd⟩:=Is I.hok e
  exact dd.typeIs
 ·obtain⟨_,_,xs,_,dd⟩:=Gf I.hok e
  exact dd.typeIs
def Vq(td ty:TE):TE:=fun σ H Q=>td σ H λx H1=>ty σ H1 λy H2=>∃a v,x=.ref a/\mW H2 a y (some v)/\Q v H2
def aF6(ty td:TE):TE:=fun σ H Q=>ty σ H λy H1=>td σ H1 λx H2=>∃a o,x=.ref a/\mW H2 a y o/\Q (.bl o.isSome) H2
def aBg(ty td:TE):TE:=fun σ H Q=>ty σ H λy H1=>td σ H1 λx H2=>∃a o,x=.ref a/\mW H2 a y o/\Q (.bl (!o.isSome)) H2
def aBl(td ty tv:TE):TS:=λD σ H=>tv σ H λv H1=>td σ H1 λx H2=>ty σ H2 λy H3=>∃a H4,x=.ref a/\tK H3 a y v H4/\D.nx σ H4
section
variable{o i value:Expr}{mf:Pos}{td ty tv:TE}
theorem oX(hu:X.A.units+1<cLine)(ho:PE X o td)(hi:PE X i ty)(hs:aF0 i):PE X (.Subscript o i pos) (Vq td ty):=by
 intro U s σ H Q I h
 refine aAf PySem.F.slot_dict_getitem.lookup hs (cX (ho U s σ H _ I h) λu s1 ⟨x,H1,I1,rx,q1⟩=>cX (hi U s1 σ H1 _ I1 q1) λiv s2 ⟨y,H2,I2,ry,a,v,ex,g,q2⟩=>?_)
 subst ex
 obtain rfl:u=Value.ref a:=rx
 exact⟨Im I2 g,Rk hu I2 g ry λw' s3 I3 r9=>⟨v,H2,I3,r9,q2⟩⟩
theorem sR(hu:X.A.units+1<cLine)(hi:PE X i ty)(ho:PE X o td):PC X .In i o (aF6 ty td):=by
 intro U s σ H Q I h
 refine cX (hi U s σ H _ I h) λiv s1 ⟨y,H1,I1,ry,q1⟩=>cX (ho U s1 σ H1 _ I1 q1) λu s2 ⟨x,H2,I2,rx,a,ov,ex,g,q2⟩=>?_
 subst ex
 obtain rfl:u=Value.ref a:=rx
 exact aGq hu I2 g ry λs3 I3=>⟨.bl ov.isSome,H2,I3,rfl,q2⟩
theorem Qa(hu:X.A.units+1<cLine)(hi:PE X i ty)(ho:PE X o td):PC X .NotIn i o (aBg ty td):=by
 intro U s σ H Q I h
 refine cX (hi U s σ H _ I h) λiv s1 ⟨y,H1,I1,ry,q1⟩=>cX (ho U s1 σ H1 _ I1 q1) λu s2 ⟨x,H2,I2,rx,a,ov,ex,g,q2⟩=>?_
 subst ex
 obtain rfl:u=Value.ref a:=rx
 exact Yw hu I2 g ry λs3 I3=>⟨.bl (!ov.isSome),H2,I3,rfl,q2⟩
theorem lP(hu:X.A.units+1<cLine)(ho:PE X o td)(hi:PE X i ty)(hv:PE X value tv)(hs:swapsWith value (some (.Subscript o i mf)) pos.line X.env=pure false):
  PS X (.Assign [.Subscript o i mf] value pos) (aBl td ty tv):=by
 intro U s σ H D I h
 refine wpAny_Assign_Subscript (cX (hv U s σ H _ I h) λr s1 ⟨v,H1,I1,rv,q1⟩=>cX (ho U s1 σ H1 _ I1 q1) λu s2 ⟨x,H2,I2,rx,q2⟩=>cX (hi U s2 σ H2 _ I2 q2) λiv s3 ⟨y,H3,I3,ry,a,H4,ex,g,q3⟩=>?_) hs
 subst ex
 obtain rfl:u=Value.ref a:=rx
 exact Pk hu I3 g ry rv λs4 I4=>⟨σ,H4,I4,q3⟩
end
theorem Tm(h:Heap)(hb:sysModules<h.objs.size):cJ P w H (h.push {cls:=.type "dict",data:=.dict #[]}) h.objs.size (.dK []):=
 ⟨c8 _,pi.mpr (ax (b9 hb)),[],.nil,Heap.DictOf.new h⟩
theorem Hg(h:Heap)(hb:sysModules<h.objs.size):cJ P w H (h.push {cls:=.type "dict",data:=.dict #[]}) h.objs.size (.dT []):=
 ⟨c8 _,pi.mpr (ax (b9 hb)),[],.nil,_,#[],0,cg _ rfl,⟨rfl,rfl,rfl⟩,rfl,rfl,JL⟩
def aDc:TE:=λ_ H Q=>∀p,H p=none->Q (.ref p) (upd H p (.dK []))
def aCs:TE:=λ_ H Q=>∀p,H p=none->Q (.ref p) (upd H p (.dT []))
theorem Wp:PE X (.Dict [] [] pos) aDc:=λU s σ H Q I h=>
 wpAny_Dict_empty ⟨.ref s.heap.objs.size,_,I.laid (a:=s.heap.objs.size) (o:=.dK []) (t':=s.toks) (λ_ _ q=>bj _ q) (ap _) (Tm s.heap I.big),rfl,h _ (I.hok.fresh (ap _))⟩
theorem nB:PE X (.Dict [] [] pos) aCs:=λU s σ H Q I h=>
 wpAny_Dict_empty ⟨.ref s.heap.objs.size,_,I.laid (a:=s.heap.objs.size) (o:=.dT []) (t':=s.toks) (λ_ _ q=>bj _ q) (ap _) (Hg s.heap I.big),rfl,h _ (I.hok.fresh (ap _))⟩
section
variable{d:V}{r:Value}{o:Option V}
end
section
variable{o f:Expr}{ig gf:Pos}{td ty tx:TE}
end
section
variable{aJ:List (dQ×V)}
end
theorem aQ.turnedL{ch:List Addr}(I:aQ X U σ H s)(k:∀b o,b∉ch->s.heap.get? b=some o->h'.get? b=some o)(hf:∀b∈ch,jF X U H b):aQ X U σ H {s with heap:=h',toks:=t'}:=by
 have ui:∀b u,H b=some u->b∉ch:=λb u e z=>by
  have q:=(hf b z).1
  rw[q] at e;cases e
 refine I.step (g':=s.gens) (d':=s.drawn) (ch:=ch) (λb hb=>⟨(hf b hb).2.2.2.1,(hf b hb).2.1,(hf b hb).2.2.2.2.1,(hf b hb).2.2.2.2.2⟩) (λb o _ _ hc e _=>k b o hc e) (λb o _ _ hc e _=>⟨o.slots,k b o hc e⟩)
  (λ_ _ _ _ n=>n) (λb o hc e=>⟨o,k b o hc e⟩) (λ_ _ e=>e) (λ_ _ _ e=>e) (λb ps e=>⟨#[],by rw[e];simp⟩) (λm hm=>?_) (λb u e=>?_) I.bare
 ·obtain⟨o,es,ep,ho,r⟩:=hm
  exact⟨o,es,ep,k _ o (λz=>(hf _ z).2.1 rfl) ho,r⟩
 ·refine(I.hok b u e).stay (λc v hc q=>k c v ?_ q) (λ_ q=>q) λ_ _ q=>q
  rcases hc with z|z
  ·rw[z];exact ui b u e
  ·exact ui c _ z
theorem aQ.turnedNew{ch:List Addr}{T:Addr}{ob:HO}(I:aQ X U σ H s)(k:∀b o,b∉ch->s.heap.get? b=some o->h'.get? b=some o)(hf:∀b∈ch,jF X U H b)(hT:s.heap.objs.size<=T)
  (new:cJ X.prog X.w (upd H T ob) h' T ob):aQ X U σ (upd H T ob) {s with heap:=h',toks:=t'}:=by
 have hn:H T=none:=I.hok.fresh hT
 have ui:∀b u,H b=some u->b∉ch:=λb u e z=>by
  have q:=(hf b z).1
  rw[q] at e;cases e
 refine I.step (g':=s.gens) (d':=s.drawn) (ch:=ch) (λb hb=>⟨(hf b hb).2.2.2.1,(hf b hb).2.1,(hf b hb).2.2.2.2.1,(hf b hb).2.2.2.2.2⟩) (λb o _ _ hc e _=>k b o hc e) (λb o _ _ hc e _=>⟨o.slots,k b o hc e⟩)
  (λb o _ e n=>?_) (λb o hc e=>⟨o,k b o hc e⟩) (λb xs e=>?_) (λb o u e=>?_) (λb ps e=>⟨#[],?_⟩) (λm hm=>?_) (λb u e=>?_) I.bare
 ·rw[aC (b9 (iy (bg e) hT))];exact n
 ·rw[aC (aD e hn)];exact e
 ·rw[aC (aD e hn)];exact e
 ·rw[aC (aD e hn),e];simp
 ·obtain⟨o,es,ep,ho,r⟩:=hm
  exact⟨o,es,ep,k _ o (λz=>(hf _ z).2.1 rfl) ho,r⟩
 ·by_cases hb:b=T
  ·subst hb
   rw[aB] at e
   cases e
   exact new
  ·rw[aC hb] at e
   refine(I.hok b u e).stay (λc v hc q=>k c v ?_ q) (λc q=>by rw[aC (aD q hn)];exact q) λc xs q=>by rw[aC (aD q hn)];exact q
   rcases hc with z|z
   ·rw[z];exact ui b u e
   ·exact ui c _ z
theorem aQ.lock{u:HO}(I:aQ X U σ H s)(h:H d=some u)(mu:Mut (some u)):∃od,aQ X U σ (upd H d (.frz od u)) s:=by
 have x:=I.hok d u h
 have ex:∃od,s.heap.get? d=some od:=by
  cases u with
  |lst xs=>obtain⟨_,_,_,_,e⟩:=x;exact⟨_,e⟩
  |dK aJ=>obtain⟨_,_,_,_,o,_,_,e,_⟩:=x;exact⟨o,e⟩
  |dT aJ=>obtain⟨_,_,_,_,o,_,_,e,_⟩:=x;exact⟨o,e⟩
  |set S n=>obtain⟨o,_,_,_,e,_⟩:=x;exact⟨o,e⟩
  |ins C dx fs=>obtain⟨_,_,_,e,_⟩:=x;exact⟨_,e⟩
  |ext φ=>obtain⟨_,⟨_,e⟩,_⟩:=x;exact⟨_,e⟩
  |_=>exact False.elim mu
 obtain⟨od,e⟩:=ex
 have new:cJ X.prog X.w (upd H d (.frz od u)) s.heap d (.frz od u):=by
  refine⟨e,x.stay (λb v _ q=>q) (λb q=>?_) λb xs q=>?_⟩
  ·rw[aC (λz=>by rw[z,h] at q;cases q;exact mu)];exact q
  ·rw[aC (λz=>by rw[z,h] at q;cases q;exact mu)];exact q
 exact⟨od,I.write (x:=d) (e:=d) (t':=s.toks) (h':=s.heap) (by rw[h];exact mu) (.inl rfl) (λb v _ q=>q) ⟨od,e⟩ new⟩
theorem aQ.nofrz{u:HO}(I:aQ X U σ H s)(h:H d=some u)(mu:Mut (some u)):∀o' u',X.H_0 d≠some (.frz o' u'):=λo' u' e=>by
 have q:=I.base.frzs d o' u' e
 rw[h] at q
 cases q
 exact mu
theorem aQ.unlock{od:Obj}{u:HO}(I:aQ X U σ H s)(h:H d=some (.frz od u))(hn:∀o' u',X.H_0 d≠some (.frz o' u')):aQ X U σ (upd H d u) s:=by
 have ze:∀b o,H b=some o->(∀o' u',o≠.frz o' u')->b≠d:=λb o e aw z=>by
  rw[z,h] at e
  cases e
  exact aw _ _ rfl
 have neN:∀b,H b=none->b≠d:=λb e z=>by rw[z,h] at e;cases e
 refine⟨I.ok,I.os,I.bare,⟨I.base.keep,I.base.slot,λb o e n hx=>?_,I.base.there,λb xs e=>?_,λb o x e=>?_,λb ps e=>?_⟩,I.loc,I.cell,?_,λx c e=>?_,λp hp=>?_,λb o e=>?_,I.len⟩
 ·rw[aC (neN b (I.base.free b o e n hx))];exact I.base.free b o e n hx
 ·have q:=I.base.tups b xs e
  rw[aC (ze b _ q (λ_ _ z=>nomatch z))];exact q
 ·have q:=I.base.frzs b o x e
  rw[aC (λz=>by rw[z] at e;exact hn _ _ e)];exact q
 ·obtain⟨m,q⟩:=I.base.tbls b ps e
  exact⟨m,by rw[aC (ze b _ q (λ_ _ z=>nomatch z))];exact q⟩
 ·rw[aC (neN _ I.free)];exact I.free
 ·rw[aC (neN c (I.freeC x c e))];exact I.freeC x c e
 ·obtain⟨e,n,r⟩:=I.pin p hp
  exact⟨e,by rw[aC (neN _ n)];exact n,r⟩
 ·by_cases hb:b=d
  ·rw[hb,aB] at e
   cases e
   rw[hb]
   obtain⟨_,x⟩:=I.hok d _ h
   exact x.stay (λc v _ q=>q) (λc q=>by rw[aC (ze c _ q (λ_ _ z=>nomatch z))];exact q) λc xs q=>by rw[aC (ze c _ q (λ_ _ z=>nomatch z))];exact q
  ·rw[aC hb] at e
   exact(I.hok b o e).stay (λc v _ q=>q) (λc q=>by rw[aC (ze c _ q (λ_ _ z=>nomatch z))];exact q) λc xs q=>by rw[aC (ze c _ q (λ_ _ z=>nomatch z))];exact q
def aFj(t:TS):TS:=λD σ H=>∃d u,H d=some u/\Mut (some u)/\∀od,t ⟨λah H'=>H' d=some (.frz od u)/\D.nx ah (upd H' d u),λv H'=>H' d=some (.frz od u)/\D.rt v (upd H' d u),λah H'=>H' d=some (.frz od u)/\D.bk ah (upd H' d u),λah H'=>H' d=some (.frz od u)/\D.ct ah (upd H' d u)⟩ σ (upd H d (.frz od u))
theorem mJ{st:Stmt}{t:TS}(h:PS X st t):PS X st (aFj t):=by
 intro U s σ H D I hw
 obtain⟨d,u,hd,mu,hw⟩:=hw
 obtain⟨od,I1⟩:=I.lock hd mu
 refine cX (h U s σ _ _ I1 (hw od)) λf s1 q=>?_
 cases f with
 |next=>obtain⟨ah,H',I2,e,q⟩:=q;exact⟨ah,_,I2.unlock e (I.nofrz hd mu),q⟩
 |brk=>obtain⟨ah,H',I2,e,q⟩:=q;exact⟨ah,_,I2.unlock e (I.nofrz hd mu),q⟩
 |cont=>obtain⟨ah,H',I2,e,q⟩:=q;exact⟨ah,_,I2.unlock e (I.nofrz hd mu),q⟩
 |ret v=>obtain⟨x,ah,H',I2,r,e,q⟩:=q;exact⟨x,ah,_,I2.unlock e (I.nofrz hd mu),r,q⟩
theorem tT{R:It->Hp->Prop}{J:It}{tn:Nat->Heap->Prop}{tk:Nat}(I:aQ X U σ H s)(o:Obj)
  (T:xU X.prog X.w X.K tg J [s.heap.objs.size] s.heap.objs.size tn) (st:tn 0 (s.heap.push o)) (q:R J H):PIE X U σ tg R (.ref s.heap.objs.size) {s with heap:=s.heap.push o,toks:=tk}:=by
 refine⟨s.heap.objs.size,[s.heap.objs.size],tn,J,H,rfl,I.kept λb ob e=>bj _ e,T,st,λb hb=>?_,q⟩
 have e:b=s.heap.objs.size:=by simpa using hb
 subst e
 exact I.fpOk (ap _) (I.hok.fresh (ap _))
def Its(x:Str):It:=⟨λi _=>i<x.cps.size,λi H v H'=>H'=H/\∃c,x.cps[i]?=some c/\v=.str ⟨#[c]⟩,λi _=>x.cps.size<=i⟩
theorem Gd(it:Addr)(x:Str)(t:Tok)(ty:String)(j0:ty="str_ascii_iterator"\/ty="str_iterator"):
  xU P w K tg (Its x) [it] it (λi h=>h.IsStrIter it ty x t i) where
 mem:=by simp
 obj:=λi h st b hb=>by
  have e:b=it:=by simpa using hb
  subst e
  obtain⟨o,e,c,d⟩:=st
  exact⟨o,e,λv z=>by rw[d] at z;cases z⟩
 keep:=λi h h' st k=>let ⟨o,ho,r⟩:=st;⟨o,k it (by simp) o ho,r⟩
 item:=by
  intro X hP hw hK hc i U s σ H E I hf st hg
  subst hP hw hK
  obtain⟨f0,f1,f2,f3,f4,f5⟩:=hf it (by simp)
  have W:Walks X.prog X.w X.A it [it] [it] x.cps.size (SignAt x) (λi h=>h.IsStrIter it ty x t i):=by
   rcases j0 with e|e
   ·rw[e];exact Walks.strAscii (I.ok.hd hc) it x t
   ·rw[e];exact Walks.strWide (I.ok.hd hc) it x t
  have cp:["enumerate","zip","dict_itemiterator","dict_reverseitemiterator","odict_iterator","itertools.zip_longest","itertools.pairwise"].contains ty=false:=by
   rcases j0 with e|e
   ·rw[e];decide
   ·rw[e];decide
  refine W.item i s _ _ hg st λv h' tk hv ff kk=>?_
  obtain⟨c,u,QN,rfl⟩:=hv
  have I1:aQ X U σ H {s with heap:=h',toks:=tk}:=I.turned (λb o hb e=>kk b o (by simpa using hb) e) f0 f1 f3 f4 f5
  obtain⟨oi,e,cc,dd⟩:=id ff
  exact⟨_,rfl,Ca (s:={s with heap:=h',toks:=tk}) e cc dd cp ⟨.str ⟨#[c]⟩,H,I1,⟨u,rfl⟩,⟨rfl,c,QN,rfl⟩,ff,λb hb=>(hf b hb).1⟩⟩
 done:=by
  intro X hP hw hK hc i U s σ H E I hf st hg
  subst hP hw hK
  obtain⟨f0,f1,f2,f3,f4,f5⟩:=hf it (by simp)
  have hx:x.cps[i]?=none:=JM hg
  rcases j0 with e|e
  ·rw[e] at st
   exact wpAny_pyNext_ascii_end (I.ok.hd hc) st hx λh' eb=>⟨rfl,I.turned (t':=s.toks) (λb o hb e=>eb b o hb e) f0 f1 f3 f4 f5⟩
  ·rw[e] at st
   exact wpAny_pyNext_wide_end (I.ok.hd hc) st hx λh' eb=>⟨rfl,I.turned (t':=s.toks) (λb o hb e=>eb b o hb e) f0 f1 f3 f4 f5⟩
 self:=λA i s Q E st h=>by
  rcases j0 with e|e
  ·rw[e] at st;exact wpAny_pyIter_striter_ascii st h
  ·rw[e] at st;exact wpAny_pyIter_striter_wide st h
def aHt(te:TE):TI:=fun σ H R=>te σ H λv H1=>∃x,v=.str x/\R (Its x) H1
theorem Uo(he:PE X e te):PI X tg e (aHt te):=by
 intro U s σ H R I h
 refine cX (he U s σ H _ I h) λv s1 ⟨y,H1,I1,r1,x,ex,q⟩=>?_
 subst ex
 obtain⟨t,rfl⟩:=r1
 cases ha:x.cps.all (· <128)
 ·exact wpAny_pyIter_wide ha (tT (tk:=s1.toks) I1 _ (Gd _ x t "str_iterator" (.inr rfl)) ⟨_,cg _ rfl,rfl,rfl⟩ q)
 ·exact wpAny_pyIter_ascii ha (tT (tk:=s1.toks) I1 _ (Gd _ x t "str_ascii_iterator" (.inl rfl)) ⟨_,cg _ rfl,rfl,rfl⟩ q)
theorem tE{es:Array DictEntry}(hd:(d==sysModules)=false)(ho:s.heap.get? d=some o)(hc:o.ExactDict)(kg:o.data=.dict es ep)
  (hQ:Q (.ref s.heap.objs.size) {s with heap:=s.heap.push {cls:=.type "dict_keyiterator",data:=.fields #[.ref d,.int 0 0,.int es.size 0,.int ep 0]}}):
  wpAny (model prog w) A (pyIter (.ref d)) Q E s:=by
 have hT:s.TypeIs (.ref d) "dict":=⟨o,ho,hc.1⟩
 refine B' hT F.slot_dict_iter (jg F.slot_dict_iter hT F.entry_dict_iter ?_ (F.args_dict_iter_1 _))
 unfold Builtin.«dict.__iter__»
 refine ac ?_
 unfold Builtin.Dict.dictSlotNone
 refine ac (JN hT ?_)
 show wpAny _ _ (pure (Value.ref d)) _ _ s
 refine ag ?_
 show wpAny _ _ (Builtin.Dict.showsAll d>>=_) _ _ s
 unfold Builtin.Dict.showsAll
 rw[ae (by rw[hd];exact ca)]
 refine ac (ag ?_)
 refine ac (qd ho kg ?_)
 refine ac (vw ho kg ?_)
 refine ac (ip (ag ⟨_,rfl,"dict_keyiterator",_,⟨_,cg _ rfl,rfl⟩,AI.lookup,?_⟩))
 simpa[rawInt] using hQ
theorem pV{n:Nat}{od:Obj}{es:Array DictEntry}{en:DictEntry}{Q:Option Value->Shared->Prop}(bu:s.heap.IsKeyIter it d i n ep)(i5:s.heap.get? d=some od)(o7:od.data=.dict es ep)
  (hsz:es.size=n) (hx:es[i]?=some en) (hQ:∀h',h'.IsKeyIter it d (i+1) n ep->Heap.SameBut it s.heap h'->Q (some en.key) {s with heap:=h'}):wpAny (model prog w) A (pyNext (.ref it)) Q E s:=by
 obtain⟨o,ho,hc,hd⟩:=id bu
 unfold pyNext
 refine ac (ua (mw (name:=Str.ofString "__next__") bu.typeIs AI
  (jg AI bu.typeIs N8 ?_ (N9 _))))
 refine ac (ag ?_)
 refine ac ?_
 refine ac ?_
 first|refine ac (EQ bu.typeIs (ag ?_))|refine ac (ER bu.typeIs (ag ?_))
 refine ac (v9 ho hd ?_)
 have se:Builtin.Dict_items.ownsTuple "dict_keyiterator"=false:=by decide
 simp only[se,qc,jy]
 show wpAny _ _ (if (Value.ref d==Value.none)=true then _ else _) _ _ s
 rw[ae (show ¬((Value.ref d==Value.none)=true) from ca)]
 refine ac (ag ?_)
 refine ac (qd i5 o7 ?_)
 rw[ae (by rw[hsz];simp)]
 refine ac (ag ?_)
 refine ac (vw i5 o7 ?_)
 rw[ae (by simp)]
 refine ag ?_
 obtain⟨QO,ur⟩:=wa.mp hx
 simp only[show ¬((i:Int)<0) from by omega,jy,fq,ES QO]
 refine ac ?_
 first|refine ac (EQ bu.typeIs (ag ?_))|refine ac (ER bu.typeIs (ag ?_))
 refine ac (N' bu.typeIs ?_)
 show wpAny _ _ (setField (.ref it) 1 (rawInt ((i:Int)+1))>>=_) _ _ s
 refine ac (l0 ho hd (by simp) ?_)
 have ut:(s.heap.update it (Obj.mapFields (·.setIfInBounds 1 (rawInt ((i:Int)+1))))).IsKeyIter it d (i+1) n ep:=
  ⟨_,oq _ ho (ub (kc hd _)),(CA ..).trans hc,by rw[kc hd];simp[rawInt]⟩
 refine ac (j7 ?_)
 refine ac (N' (s:={s with heap:=s.heap.update it (Obj.mapFields (·.setIfInBounds 1 (rawInt ((i:Int)+1))))}) ut.typeIs ?_)
 show wpAny _ _ (pure es[i].key) _ _ _
 rw[ur]
 exact ag (ag ⟨_,rfl,ag (hQ _ ut (jz ..))⟩)
theorem mH{n:Nat}{od:Obj}{es:Array DictEntry}{Q:Option Value->Shared->Prop}(hh:A.handled=none)(bu:s.heap.IsKeyIter it d i n ep)(i5:s.heap.get? d=some od)(o7:od.data=.dict es ep)
  (hsz:es.size=n) (DC:n<=i) (hQ:∀h',Heap.ExtBut it s.heap h'->Q none {s with heap:=h'}):wpAny (model prog w) A (pyNext (.ref it)) Q E s:=by
 obtain⟨o,ho,hc,hd⟩:=id bu
 unfold pyNext
 refine ac (ua (mw (name:=Str.ofString "__next__") bu.typeIs AI
  (jg AI bu.typeIs N8 ?_ (N9 _))))
 refine ac (ag ?_)
 refine ac ?_
 refine ac ?_
 first|refine ac (EQ bu.typeIs (ag ?_))|refine ac (ER bu.typeIs (ag ?_))
 refine ac (v9 ho hd ?_)
 have se:Builtin.Dict_items.ownsTuple "dict_keyiterator"=false:=by decide
 simp only[se,qc,jy]
 show wpAny _ _ (if (Value.ref d==Value.none)=true then _ else _) _ _ s
 rw[ae (show ¬((Value.ref d==Value.none)=true) from ca)]
 refine ac (ag ?_)
 refine ac (qd i5 o7 ?_)
 rw[ae (by rw[hsz];simp)]
 refine ac (ag ?_)
 refine ac (vw i5 o7 ?_)
 rw[ae (by simp)]
 refine ag ?_
 have QP:es.size<=i:=by rw[hsz];exact DC
 simp only[show ¬((i:Int)<0) from by omega,jy,fq,JM QP]
 refine ac ?_
 first|refine ac (EQ bu.typeIs (ag ?_))|refine ac (ER bu.typeIs (ag ?_))
 show wpAny _ _ (setField (.ref it) 0 .none>>=_) _ _ s
 refine ac (l0 ho hd (by simp) ?_)
 show wpAny _ _ (newExc (.type "StopIteration") []>>=_) _ _ _
 refine ac ?_
 simp only[newExc,newTuple]
 refine ac (ip ?_ (by size_fits))
 refine ac (m:=firstArgMember _ _) (AJ (a:=Value.none) (by first|rfl|(simp only[firstArgMember];rfl)) ?_)
 refine ip ?_ (by size_fits)
 simp only[raiseNew]
 refine ac (CC ?_)
 rw[show A.in1.handled=none from hh]
 refine ac (ag (CD ?_))
 refine ac (AK (T:="StopIteration") (b:=true) ⟨_,cg _ rfl,rfl⟩ ET ?_)
 exact ag (hQ _ (((jz ..).extBut.push _).push _))
theorem aDa{κ:Type}{aJ:List (κ×V)}{vs:List (κ×Value)}(h:KV aJ vs):∀{i:Nat}{k:κ}{v:V},aJ[i]?=some (k,v)->∃u,vs[i]?=some (k,u)/\cB v u:=by
 unfold KV at h
 induction h with
 |nil=>intro i k v e;simp at e
 | @cons a b wf wg r t ih=>
  intro i k v e
  cases i with
  |zero=>
   simp only[JO,Option.some.injEq] at e
   subst e
   refine⟨b.2,?_,r.2⟩
   simp only[JO]
   exact congrArg some (d6 r.1.symm rfl)
  |succ j=>
   simp only[OA] at e ⊢
   exact ih e
theorem jK{G:α->β->Prop}{wf:List α}{wg:List β}(h:Paired G wf wg):∀{i:Nat}{a:α},wf[i]?=some a->∃b,wg[i]?=some b/\G a b:=by
 induction h with
 |nil=>intro i a e;simp at e
 | @cons a b wf wg r t ih=>
  intro i a' e
  cases i with
  |zero=>
   simp only[JO,Option.some.injEq] at e
   subst e
   exact⟨b,rfl,r⟩
  |succ j=>
   simp only[OA] at e ⊢
   exact ih e
theorem Vb{k:dQ}(h:uY k u=true):cB (kV k) u:=by
 rcases dO h with ⟨i,t,rfl,rfl⟩|⟨x,t,rfl,rfl⟩
 ·exact⟨t,rfl⟩
 ·exact⟨t,rfl⟩
theorem aQ.frzK{aJ:List (dQ×V)}(I:aQ X U σ H s)(h:H d=some (.frz o (.dK aJ))):
  (d==sysModules)=false/\s.heap.get? d=some o/\o.ExactDict/\∃(es:Array DictEntry)(ep:Nat) (vs:List (dQ×Value)),o.data=.dict es ep/\es.size=aJ.length/\KV aJ vs/\s.heap.DictAt (dN X.prog X.w) d vs ep:=by
 obtain⟨hd,z,hs,vs,kv,o',es,ep,ho,hx,cf,r⟩:=I.hok d _ h
 rw[hd] at ho
 cases ho
 refine⟨hs,hd,hx,es,ep,vs,cf,?_,kv,o,es,hd,hx,cf,r⟩
 have l1:=r.2.1.length
 have l2:aJ.length=vs.length:=Paired.length kv
 rw[d4] at l1
 omega
theorem aQ.frzT{aJ:List (List dQ×V)}(I:aQ X U σ H s)(h:H d=some (.frz o (.dT aJ))):
  (d==sysModules)=false/\s.heap.get? d=some o/\o.ExactDict/\∃(es:Array DictEntry)(ep:Nat),o.data=.dict es ep/\es.size=aJ.length/\
   ∀(i:Nat)(k:List dQ)(v:V),aJ[i]?=some (k,v)->∃(en:DictEntry)(q:Addr),es[i]?=some en/\en.key=.ref q/\H q=some (.tup (k.map kV)):=by
 obtain⟨hd,z,hs,xs,pr,o',es,ep,ho,hx,cf,he,_⟩:=I.hok d _ h
 rw[hd] at ho
 cases ho
 refine⟨hs,hd,hx,es,ep,cf,?_,λi k v e=>?_⟩
 ·have l1:es.size=xs.length:=CF he
  have l2:aJ.length=xs.length:=Paired.length pr
  omega
 ·obtain⟨b,hb,e1,e2,_⟩:=jK pr e
  have q:=CH he i
  rw[hb] at q
  exact⟨_,b.2.1,q,rfl,e2⟩
def Itk(d:Addr)(o:Obj)(aJ:List (dQ×V)):It:=
 ⟨λi H=>H d=some (.frz o (.dK aJ))/\i<aJ.length,λi H x H'=>H'=H/\∃k v,aJ[i]?=some (k,v)/\x=kV k,λi H=>H d=some (.frz o (.dK aJ))/\aJ.length<=i⟩
def Uw(d:Addr)(o:Obj)(aJ:List (List dQ×V)):It:=
 ⟨λi H=>H d=some (.frz o (.dT aJ))/\i<aJ.length,λi H x H'=>H'=H/\∃(k:List dQ)(v:V)(q:Addr),aJ[i]?=some (k,v)/\x=.ref q/\H q=some (.tup (k.map kV)),λi H=>H d=some (.frz o (.dT aJ))/\aJ.length<=i⟩
theorem oY{es ge:Array DictEntry}{md:Nat}(h:o.data=.dict es ep)(h':o.data=.dict ge md):ge=es/\md=ep:=by
 rw[h] at h'
 cases h'
 exact⟨rfl,rfl⟩
section
variable{es:Array DictEntry}
theorem Qt{aJ:List (dQ×V)}(it:Addr)(i5:o.data=.dict es ep):xU P w K tg (Itk d o aJ) [it] it (λi h=>h.IsKeyIter it d i aJ.length ep) where
 mem:=by simp
 obj:=λi h st b hb=>by
  have e:b=it:=by simpa using hb
  subst e
  obtain⟨oi,e,c,dd⟩:=st
  exact⟨oi,e,λv z=>by rw[dd] at z;cases z⟩
 keep:=λi h h' st k=>st.at λoi e=>k it (by simp) oi e
 item:=by
  intro X hP hw hK hc i U s σ H E I hf st hg
  subst hP hw hK
  obtain⟨hd,hi⟩:=hg
  obtain⟨f0,f1,f2,f3,f4,f5⟩:=hf it (by simp)
  obtain⟨hs,gg,hx,ge,md,vs,cf,hsz,kv,hm⟩:=I.frzK hd
  obtain⟨rfl,rfl⟩:=oY i5 cf
  obtain⟨⟨k,v⟩,n0⟩:∃p,aJ[i]?=some p:=⟨aJ[i],ay hi⟩
  obtain⟨u,hu,ru⟩:=aDa kv n0
  have hl:aJ.length=vs.length:=Paired.length kv
  rw[hl] at st
  refine wpAny_pyNext_dict_item st hm hu λkey h' wo ff sb=>?_
  have I1:aQ X U σ H {s with heap:=h'}:=I.turned (t':=s.toks) (λb ob hb e=>(sb.2 b hb).trans e) f0 f1 f3 f4 f5
  obtain⟨oi,e,c,dd⟩:=id ff
  refine⟨key,rfl,Ca (s:={s with heap:=h'}) e c dd (by decide) ⟨kV k,H,I1,Vb (show uY k key=true from wo),⟨rfl,k,v,n0,rfl⟩,?_,λb hb=>(hf b hb).1⟩⟩
  show h'.IsKeyIter it d (i+1) aJ.length _
  rw[hl]
  exact ff
 done:=by
  intro X hP hw hK hc i U s σ H E I hf st hg
  subst hP hw hK
  obtain⟨hd,hi⟩:=hg
  obtain⟨f0,f1,f2,f3,f4,f5⟩:=hf it (by simp)
  obtain⟨hs,gg,hx,ge,md,vs,cf,hsz,kv,hm⟩:=I.frzK hd
  obtain⟨rfl,rfl⟩:=oY i5 cf
  exact mH (I.ok.hd hc) st gg cf hsz hi λh' eb=>⟨rfl,I.turned (t':=s.toks) (λb ob hb e=>eb b ob hb e) f0 f1 f3 f4 f5⟩
 self:=λA i s Q E st h=>wpAny_pyIter_keyiter st h
theorem Jx{aJ:List (List dQ×V)}(it:Addr)(i5:o.data=.dict es ep):xU P w K tg (Uw d o aJ) [it] it (λi h=>h.IsKeyIter it d i aJ.length ep) where
 mem:=by simp
 obj:=λi h st b hb=>by
  have e:b=it:=by simpa using hb
  subst e
  obtain⟨oi,e,c,dd⟩:=st
  exact⟨oi,e,λv z=>by rw[dd] at z;cases z⟩
 keep:=λi h h' st k=>st.at λoi e=>k it (by simp) oi e
 item:=by
  intro X hP hw hK hc i U s σ H E I hf st hg
  subst hP hw hK
  obtain⟨hd,hi⟩:=hg
  obtain⟨f0,f1,f2,f3,f4,f5⟩:=hf it (by simp)
  obtain⟨hs,gg,hx,ge,md,cf,hsz,qo⟩:=I.frzT hd
  obtain⟨rfl,rfl⟩:=oY i5 cf
  obtain⟨⟨k,v⟩,n0⟩:∃p,aJ[i]?=some p:=⟨aJ[i],ay hi⟩
  obtain⟨en,q,ur,wo,hq⟩:=qo i k v n0
  refine pV st gg cf hsz ur λh' ff sb=>?_
  have I1:aQ X U σ H {s with heap:=h'}:=I.turned (t':=s.toks) (λb ob hb e=>(sb.2 b hb).trans e) f0 f1 f3 f4 f5
  obtain⟨oi,e,c,dd⟩:=id ff
  exact⟨en.key,rfl,Ca (s:={s with heap:=h'}) e c dd (by decide) ⟨.ref q,H,I1,wo,⟨rfl,k,v,q,n0,rfl,hq⟩,ff,λb hb=>(hf b hb).1⟩⟩
 done:=by
  intro X hP hw hK hc i U s σ H E I hf st hg
  subst hP hw hK
  obtain⟨hd,hi⟩:=hg
  obtain⟨f0,f1,f2,f3,f4,f5⟩:=hf it (by simp)
  obtain⟨hs,gg,hx,ge,md,cf,hsz,qo⟩:=I.frzT hd
  obtain⟨rfl,rfl⟩:=oY i5 cf
  exact mH (I.ok.hd hc) st gg cf hsz hi λh' eb=>⟨rfl,I.turned (t':=s.toks) (λb ob hb e=>eb b ob hb e) f0 f1 f3 f4 f5⟩
 self:=λA i s Q E st h=>by
  refine B' st.typeIs OB (jg OB st.typeIs F.entry_dict_keyiterator_iter ?_ (F.args_dict_keyiterator_iter_1 _))
  show wpAny _ _ (ret (.ref it)) _ _ s
  exact ag ⟨_,rfl,"dict_keyiterator",_,st.typeIs,AI.lookup,h⟩
end
def aFn(td:TE):TI:=fun σ H R=>td σ H λx H1=>∃d o,x=.ref d/\((∃aJ,H1 d=some (.frz o (.dK aJ))/\R (Itk d o aJ) H1)\/∃aJ,H1 d=some (.frz o (.dT aJ))/\R (Uw d o aJ) H1)
section
variable{td:TE}{ig gf:Pos}
theorem Og(he:PE X e td):PI X tg e (aFn td):=by
 intro U s σ H R I h
 refine cX (he U s σ H _ I h) λu s1 ⟨x,H1,I1,rx,d,o,ex,q⟩=>?_
 subst ex
 obtain rfl:u=Value.ref d:=rx
 rcases q with ⟨aJ,hd,q⟩|⟨aJ,hd,q⟩
 ·obtain⟨hs,gg,hx,es,ep,vs,cf,hsz,kv,hm⟩:=I1.frzK hd
  refine tE hs gg hx cf (tT (tk:=s1.toks) I1 _ (Qt _ cf) ⟨_,cg _ rfl,rfl,?_⟩ q)
  rw[hsz]<;>rfl
 ·obtain⟨hs,gg,hx,es,ep,cf,hsz,qo⟩:=I1.frzT hd
  refine tE hs gg hx cf (tT (tk:=s1.toks) I1 _ (Jx _ cf) ⟨_,cg _ rfl,rfl,?_⟩ q)
  rw[hsz]<;>rfl
end
def Ite(K:Frag)(a:Addr):It:=
 ⟨λi H=>∃(xs:List V)(x:V),cR K H a xs/\xs[i]?=some x,λi H v H'=>∃T x,v=.ref T/\H T=none/\H'=upd H T (.tup [.int (i:Nat),x])/\∀xs,cR K H a xs->xs[i]?=some x,λi H=>∃xs:List V,cR K H a xs/\xs.length<=i⟩
theorem Ps{ju:List Expr}{kk:Nat}(a e it:Addr):
  xU P w K (.Tuple ju kk i3) (Ite K a) [e,it] e (λi h=>(∃old,IsEnum h e it ((i:Nat):Int) old)/\h.IsListIter it a i/\e≠it) where
 mem:=by simp
 obj:=λi h st b hb=>by
  obtain⟨⟨old,he⟩,⟨o,ho,hc,hd⟩,_⟩:=st
  have e':b=e\/b=it:=by simpa using hb
  rcases e' with z|z
  ·rw[z];exact⟨_,he,λv q=>nomatch q⟩
  ·rw[z];exact⟨o,ho,λv q=>by rw[hd] at q;cases q⟩
 keep:=λi h h' st k=>let ⟨⟨old,he⟩,hi,aw⟩:=st;⟨⟨old,k e (by simp) _ he⟩,hi.at λo q=>k it (by simp) o q,aw⟩
 item:=by
  intro X hP hw hK hc i U s σ H E I hf st hg
  subst hP hw hK
  obtain⟨⟨old,he⟩,bu,aw⟩:=st
  obtain⟨xs,x,hq,hx⟩:=hg
  obtain⟨its,rv,p,hz⟩:=I.list hq
  obtain⟨u,hu,ru⟩:=rv.get hx
  have mh:e<s.heap.objs.size:=bg he
  have zf:it<s.heap.objs.size:=by obtain⟨_,q,_⟩:=bu;exact bg q
  refine wpAny_pyNext_enum_item he bu p.isList (x:=u) (by simpa using hu) aw λh' ho ut hT hsz hk=>?_
  refine⟨_,rfl,wpAny_letOwnedTupleGo_enum (s:={s with heap:=h',toks:=s.toks+1}) ho λnz wv sb=>?_⟩
  have A1:nz.get? s.heap.objs.size=some {cls:=.type "tuple",data:=.seq #[.int i s.toks,u]}:=(sb.2 _ (px mh)).trans hT
  have new:cJ X.prog X.w (upd H s.heap.objs.size (.tup [.int (i:Nat),x])) nz s.heap.objs.size (.tup [.int (i:Nat),x]):=
   ⟨by show 2<=sizeLine;decide,[.int i s.toks,u],.cons ⟨_,rfl⟩ (.cons ru .nil),⟨_,A1,rfl,_,rfl⟩⟩
  have I1:aQ X U σ (upd H s.heap.objs.size (.tup [.int (i:Nat),x])) {s with heap:=nz,toks:=s.toks+1}:=
   I.turnedNew (ch:=[e,it]) (λb ob hb q=>(sb.2 b (λz=>hb (by simp[z]))).trans (hk b ob (λz=>hb (by simp[z])) (λz=>hb (by simp[z])) q)) hf (ap _) new
  refine⟨.ref s.heap.objs.size,_,I1,rfl,⟨_,x,rfl,I.hok.fresh (ap _),rfl,λys hy=>by rw[I.list_inj hy hq];exact hx⟩,⟨⟨u,?_⟩,ut.at λo q=>(sb.2 it (ax aw)).trans q,aw⟩,λb hb=>?_⟩
  ·have e1:((i+1:Nat):Int)=(i:Int)+1:=by omega
   rw[e1];exact wv
  ·have mi:b<s.heap.objs.size:=by
    have e':b=e\/b=it:=by simpa using hb
    rcases e' with z|z
    ·rw[z];exact mh
    ·rw[z];exact zf
   rw[aC (b9 mi)]
   exact(hf b hb).1
 done:=by
  intro X hP hw hK hc i U s σ H E I hf st hg
  subst hP hw hK
  obtain⟨⟨old,he⟩,bu,aw⟩:=st
  obtain⟨xs,hq,hx⟩:=hg
  obtain⟨its,rv,p,hz⟩:=I.list hq
  obtain⟨f0,f1,f2,f3,f4,f5⟩:=hf it (by simp)
  have hl:=rv.length
  exact wpAny_pyNext_enum_end (I.ok.hd hc) he bu p.isList (by simp;omega) λh' eb=>⟨rfl,I.turned (t':=s.toks) (λb o hb q=>eb b o hb q) f0 f1 f3 f4 f5⟩
 self:=λA i s Q E st h=>let ⟨⟨_,he⟩,_⟩:=st;EU he h
def aE9(K:Frag)(ta:TA):TI:=fun σ H R=>ta σ H λvs H1=>∃a xs,vs=[.ref a]/\cR K H1 a xs/\R (Ite K a) H1
theorem aA7{ta:TA}{p:Pos}{ju:List Expr}{kk:Nat}(hg:Gl X "enumerate")(hm:X.mg "enumerate"=none)(ha:PA X [e] ta)(hs:starEach [e] X.env=[(false,eval e X.env)]:=by rfl):
  PI X (.Tuple ju kk i3) (.Call (.Name "enumerate" p) [e] [] pos) (aE9 X.K ta):=by
 intro U s σ H R I h
 refine Call_ (lV I hg hm boot_enumerate (AB (cX (ha pos U s σ H _ I h) λus s1 ⟨vs,H1,I1,r1,q1⟩=>?_) hs rfl))
 obtain⟨a,xs,ex,hq,q⟩:=q1
 subst ex
 cases r1 with
 |cons r rr=>
  cases rr
  cases r
  obtain⟨its,rv,p',hz⟩:=I1.list hq
  refine call_enumerate_list p'.isList λh' he bu hsz hk=>EU he ?_
  have I2:aQ X U σ H1 {s1 with heap:=h'}:=I1.kept (t':=s1.toks) hk
  refine⟨s1.heap.objs.size+1,[s1.heap.objs.size+1,s1.heap.objs.size],_,_,H1,rfl,I2,Ps a (s1.heap.objs.size+1) s1.heap.objs.size,⟨⟨.none,he⟩,bu,OC _⟩,λb hb=>?_,q⟩
  have e':b=s1.heap.objs.size+1\/b=s1.heap.objs.size:=by simpa using hb
  have gq:s1.heap.objs.size<=b:=by
   rcases e' with z|z
   ·rw[z];exact CJ _ _
   ·rw[z];exact ap _
  exact I1.fpOk gq (I1.hok.fresh gq)
end L2
namespace Bits
open PySem PyProof.Rows
end Bits
namespace TL
open PySem PySem.Builtin PySem.Builtin.Str PySem.StrLaws
end TL
namespace L2
open PySem PySem.Spec PyProof.Rows
section
variable{Q:VK}
end
section
variable{o:Expr}{to:TE}
end
end L2
namespace Att
open PySem PySem.W PySem.Calls PyProof.Rows
section
variable{K:Frag}
end
end Att
namespace L2
open PySem PySem.Spec PyProof.Rows
abbrev bU:Ji:=λ_ _ _ _ _ _=>False
abbrev E0:XK:=λ_ _ _=>False
theorem aX:jC bU X E0:=λ_ _ _ _ _ _ _ h=>h.elim
structure fH(K:Frag)(x aq:Str)(st:Stmt)(f:Addr)(fd:FuncData):Prop where
 ex:∃(oc:Value)(od:Option Addr)(kV br pm:Value)(an:Option Addr)(ak ct:Value) (de:Array (Option Value)),
  fd=fnOf x aq (eU st) (dZ st) (aG st) .none kV br pm an ak ct/\K.lookup f=some ⟨oc,od,.func fd,de⟩/\codeIn K ak aq=true
 kp:keepIn K (.ref f)=true
variable{K:Frag}
theorem fH.ok{st:Stmt}{N:List Str}(F:fH K x aq st f fd)(S:aN N ps (aG st))(len:∀vs H Q E,sp vs H Q E->vs.length=ps.length)
  (wp:∀(ak:Value)(A:Around)(outer:List Env)(s:Shared)(H:Hp)(vs:List V)(Q:VK)(E:XK),eX k (A.deeper (envOfC aq (aG st) s.heap.objs.size f ak))->sp vs H Q E->
   ∃t,Ce (Eh bU P w K mg base N aq (aG st) f ak A outer s H E).nox (dZ st) t/\t {nx:=λ_ H'=>Q .non H',rt:=Q} (mS N vs) H):bV P w K mg base bU (k+1) f fd ps sp:=by
 obtain⟨oc,od,kV,br,pm,an,ak,ct,de,rfl,lk,jb⟩:=F.ex
 refine aBu lk jb S len λA outer s H vs Q E hr kf=>?_
 obtain⟨t,h,q⟩:=wp ak A outer s H vs Q E hr kf
 exact⟨t,h.nox,q⟩
theorem fH.binds{st:Stmt}(F:fH K x aq st f fd)
  (h:∀(kV br pm:Value)(an:Option Addr)(ak ct:Value)(us:List Value),us.length=ps.length->bindArgs (fnOf x aq (eU st) (dZ st) (aG st) .none kV br pm an ak ct) ⟨us,[]⟩=pure (ps.zip us)):eT K fd ps []:=by
 obtain⟨oc,od,kV,br,pm,an,ak,ct,de,rfl,lk,jb⟩:=F.ex
 exact .all (h kV br pm an ak ct)
theorem uB{st:Stmt}{oc:Value}{od an:Option Addr}{de:Array (Option Value)}{kV br pm ak ct:Value}(l:K.lookup f=some ⟨oc,od,.func (fnOf x aq (eU st) (dZ st) (aG st) .none kV br pm an ak ct),de⟩)
  (c:codeIn K ak aq=true) (k:keepIn K (.ref f)=true):fH K x aq st f (fnOf x aq (eU st) (dZ st) (aG st) .none kV br pm an ak ct):=⟨⟨oc,od,kV,br,pm,an,ak,ct,de,rfl,l,c⟩,k⟩
theorem kH(hr:eX k A):A.units+1<cLine:=Nat.lt_of_le_of_lt (Nat.add_le_add_left (by decide:1<=64) _) hr.units
theorem pv(i:Nat)(hN:X.N[i]?=some x:=by rfl)(hv:Vis X.env.scope x:=by first|exact Or.inl rfl|exact Or.inr (Or.inl rfl)|exact Or.inr (Or.inr rfl))(hd:(x==("__debug__":Str))=false:=by decide)
  (jb:(x==("__classdict__":Str))=false:=by decide):PE X (.Name x pos) (cY i):=aC1 hN hv hd jb
theorem vD{A B:Prop}(h:B):if false=true then A else B:=by
 rw[ae ca]
 exact h
theorem To{A B:Prop}(h:A):if true=true then A else B:=by
 rw[af rfl]
 exact h
theorem cE{c A B:Prop}[Decidable c](h1:c->A)(h2:¬c->B):if c then A else B:=by
 by_cases h:c
 ·rw[af h]
  exact h1 h
 ·rw[ae h]
  exact h2 h
def aK(H H':Hp):Prop:=∀b o,H b=some o->H' b=some o
theorem aK.trans{H H1 H2:Hp}(a:aK H H1)(b:aK H1 H2):aK H H2:=λc o h=>b c o (a c o h)
theorem aK.free(e:aK H H'){l:Addr}(h:H' l=Option.none):H l=Option.none:=by
 cases q:H l with
 |none=>rfl
 |some o=>
  rw[e l o q] at h
  cases h
theorem aK.seq(e:aK H H')(h:cR K H a xs):cR K H' a xs:=by
 rcases h with (h|⟨o,h⟩)|h
 ·exact .inl (.inl (e _ _ h))
 ·exact .inl (.inr ⟨o,e _ _ h⟩)
 ·exact .inr h
section
variable{κ:Type}[DecidableEq κ]
end
end L2
namespace L2
open PySem PySem.Spec PyProof.Rows
open PySem.W (WData Codec OpenSpec Well WellAll ReadsW ReadsAllW)
mutual
inductive Dw(K:Frag)(H:Hp):V->WData->Prop
 |non:Dw K H .non .none
 |bl (b:Bool):Dw K H (.bl b) (.bool b)
 |int (i:Int):Dw K H (.int i) (.int i)
 |str (x:Str):Dw K H (.str x) (.str x)
 |byt (b:Array UInt8):Dw K H (.byt b) (.bytes b.toList)
 |lst {a:Addr} {xs:List V} {ds:List WData}:cR K H a xs->nV K H xs ds->Dw K H (.ref a) (.list ds)
 |tup {a:Addr} {xs:List V} {ds:List WData}:cM K H a xs->nV K H xs ds->Dw K H (.ref a) (.tuple ds)
inductive nV(K:Frag)(H:Hp):List V->List WData->Prop
 |nil:nV K H [] []
 |cons {v:V} {vs:List V} {d:WData} {ds:List WData}:Dw K H v d->nV K H vs ds->nV K H (v::vs) (d::ds)
end
variable{K:Frag}
theorem Pb:∀ns:List Int,nV K H (ns.map V.int) (ns.map WData.int)
 |[]=>.nil
 |n::r=>.cons (.int n) (Pb r)
theorem Cv:∀(ns:List Int)(xs:List V),nV K H xs (ns.map WData.int)->xs=ns.map V.int
 |[],xs,h=>by
  cases h
  rfl
 |n::r,xs,h=>by
  cases h with
  |cons h1 h2=>
   cases h1
   rw[Cv r _ h2]<;>rfl
section
variable{R:WRecords}{cl:Str->Option Addr}
theorem aDs(hok:lK P w H h)(KX:K.In h)(q:cR K H a xs):∃(its:List Value)(o:Obj)(n:Nat),bO xs its/\h.get? a=some o/\o.cls=.type "list"/\o.data=.seq its.toArray n:=by
 rcases q with q|⟨o,its,n,e,hc,_,hd,_,hv⟩
 ·obtain⟨_,its,n,hv,e⟩:=(show cJ P w H h a (.lst xs) from q.ok hok)
  exact⟨its,_,n,hv,e,rfl,rfl⟩
 ·exact⟨its.toList,o,n,hv,KX _ _ e,hc,by simp[hd]⟩
theorem aC2(hok:lK P w H h)(KX:K.In h)(q:cM K H a xs):∃(its:List Value)(o:Obj)(n:Nat),bO xs its/\h.get? a=some o/\o.cls=.type "tuple"/\o.data=.seq its.toArray n:=by
 rcases q with q|⟨o,its,n,e,hc,hd,_,hv⟩
 ·obtain⟨_,its,hv,o,e,hc,n,hd⟩:=(show cJ P w H h a (.tup xs) from q.ok hok)
  exact⟨its,o,n,hv,e,hc,hd⟩
 ·exact⟨its.toList,o,n,hv,KX _ _ e,hc,by simp[hd]⟩
mutual
theorem Dw.reads(hok:lK P w H h)(KX:K.In h):∀(d:WData)(v:V)(u:Value),Dw K H v d->cB v u->∃as,ReadsW R cl h u d as
 |.none,_,_,x,r=>by
  cases x
  cases r
  exact⟨_,ReadsW.none⟩
 |.bool b,_,_,x,r=>by
  cases x
  cases r
  exact⟨_,ReadsW.bool b⟩
 |.int i,_,_,x,r=>by
  cases x
  obtain⟨t,rfl⟩:=r
  exact⟨_,ReadsW.int i t⟩
 |.str s,_,_,x,r=>by
  cases x
  obtain⟨t,rfl⟩:=r
  exact⟨_,ReadsW.str s t⟩
 |.bytes b,_,_,x,r=>by
  cases x
  obtain⟨t,rfl⟩:=r
  exact⟨_,ReadsW.bytes _ t⟩
 |.list ds,_,_,x,r=>by
  cases x with
  |lst hs ha=>
   cases r
   obtain⟨its,o,n,rv,ho,hc,hd⟩:=aDs hok KX hs
   obtain⟨as,hr⟩:=Dw.readsAll hok KX ds _ its ha rv
   exact⟨_,ReadsW.list ho hc hd hr⟩
 |.tuple ds,_,_,x,r=>by
  cases x with
  |tup hs ha=>
   cases r
   obtain⟨its,o,n,rv,ho,hc,hd⟩:=aC2 hok KX hs
   obtain⟨as,hr⟩:=Dw.readsAll hok KX ds _ its ha rv
   exact⟨_,ReadsW.tuple ho hc hd hr⟩
 |.float _,_,_,x,_=>by cases x
 |.dict _,_,_,x,_=>by cases x
 |.bytearray _,_,_,x,_=>by cases x
 |.set _,_,_,x,_=>by cases x
 |.frozenset _,_,_,x,_=>by cases x
 |.obj _ _,_,_,x,_=>by cases x
theorem Dw.readsAll(hok:lK P w H h)(KX:K.In h):∀(ds:List WData)(vs:List V)(us:List Value),nV K H vs ds->bO vs us->∃as,ReadsAllW R cl h us ds as
 |[],_,_,x,r=>by
  cases x
  cases r
  exact⟨_,ReadsAllW.nil⟩
 |d::ds,_,_,x,r=>by
  cases x with
  |cons h1 h2=>
   cases r with
   |cons r1 r2=>
    obtain⟨as,q1⟩:=Dw.reads hok KX d _ _ h1 r1
    obtain⟨bs,q2⟩:=Dw.readsAll hok KX ds _ _ h2 r2
    exact⟨_,ReadsAllW.cons q1 q2⟩
end
end
mutual
def Nb:WData->Bool
 |.none=>true
 |.bool _=>true
 |.int _=>true
 |.str _=>true
 |.bytes _=>true
 |.list xs=>vE xs
 |.tuple xs=>vE xs
 |_=>false
def vE:List WData->Bool
 |[]=>true
 |x::r=>Nb x && vE r
end
theorem Gc{f:α->WData}(h:∀a,Nb (f a)=true):∀l:List α,vE (l.map f)=true
 |[]=>rfl
 |x::r=>by
  show (Nb (f x) && vE (r.map f))=true
  rw[h x,Gc h r]<;>rfl
theorem oA:∀(c:Codec)(a:c.denote),Nb (c.enc a)=true
 |.unit,_=>rfl
 |.bool,_=>rfl
 |.int _ _,_=>rfl
 |.nat _ _,_=>rfl
 |.u8,_=>rfl
 |.bytes _ _,_=>rfl
 |.text _ _ _ _,_=>rfl
 |.list _ _ c,a=>Gc (λx=>oA c x) a
 |.pair c d,a=>by
  show (Nb (c.enc a.1) && (Nb (d.enc a.2) && true))=true
  rw[oA c a.1,oA d a.2]<;>rfl
 |.triple c d e,a=>by
  show (Nb (c.enc a.1) && (Nb (d.enc a.2.1) && (Nb (e.enc a.2.2) && true)))=true
  rw[oA c a.1,oA d a.2.1,oA e a.2.2]<;>rfl
 |.option c,none=>rfl
 |.option c,some x=>oA c x
theorem Az:∀(cs:List Codec)(a:Codec.denoteAll cs),vE (Codec.encAll cs a)=true
 |[],_=>rfl
 |c::cs,a=>by
  show (Nb (c.enc a.1) && vE (Codec.encAll cs a.2))=true
  rw[oA c a.1,Az cs a.2]<;>rfl
theorem qE:∀{xs:List WData}{d:WData},d∈xs->d.weight<=WData.weightAll xs
 |[],d,h=>absurd h (by simp)
 |x::r,d,h=>by
  show d.weight<=x.weight+1+WData.weightAll r
  rcases ao.mp h with e|m
  ·rw[e]
   omega
  ·have z:=qE m
   omega
def Fn:Value->V
 |.none=>.non
 |.bool b=>.bl b
 |.int i _=>.int i
 |.str x _=>.str x
 |.bytes b _=>.byt b
 |.ref a=>.ref a
 |_=>.non
def Rw(A:List Addr):Value->Prop
 |.none=>True
 |.bool _=>True
 |.int _ _=>True
 |.str _ _=>True
 |.bytes _ _=>True
 |.ref a=>a∈A
 |_=>False
theorem Rw.mono{A B:List Addr}(h:∀a∈A,a∈B):∀{u:Value},Rw A u->Rw B u:=λ{u} x=>by
 cases u with
 |ref a=>exact h a x
 |none=>trivial
 |bool b=>trivial
 |int i t=>trivial
 |str s t=>trivial
 |bytes b t=>trivial
 |_=>exact False.elim x
theorem Vy{A:List Addr}(x:Rw A u):cB (Fn u) u:=by
 cases u with
 |ref a=>rfl
 |none=>rfl
 |bool b=>rfl
 |int i t=>exact⟨t,rfl⟩
 |str s t=>exact⟨t,rfl⟩
 |bytes b t=>exact⟨t,rfl⟩
 |_=>exact False.elim x
theorem lD{A:List Addr}:∀{vs:List Value},(∀u∈vs,Rw A u)->bO (vs.map Fn) vs
 |[],_=>.nil
 |u::r,h=>.cons (Vy (h u (bf ..))) (lD λx hx=>h x (a7 _ hx))
def mQ(h:Heap)(A:List Addr)(a:Addr):Prop:=∃vs:List Value,vs.length<=sizeLine/\(∀u∈vs,Rw A u)/\
 (h.get? a=some {cls:=.type "list",data:=.seq vs.toArray}\/h.get? a=some {cls:=.type "tuple",data:=.seq vs.toArray})
theorem mQ.mono{A B:List Addr}(k:∀a∈A,a∈B)(x:mQ h A a):mQ h B a:=by
 obtain⟨vs,h1,h2,h3⟩:=x
 exact⟨vs,h1,λu hu=>(h2 u hu).mono k,h3⟩
theorem jS{P:Params}:∀{vs:List Value}{ds:List WData},WellAll P h vs ds->vs.length=ds.length
 |_,_,.nil=>rfl
 |_,_,.cons _ b=>by
  show _+1=_+1
  rw[jS b]
theorem Ai{P:Params}{ds:List WData}(x:Well P h v (.list ds)):∃(a:Addr)(vs:List Value),v=.ref a/\h.get? a=some {cls:=.type "list",data:=.seq vs.toArray}/\WellAll P h vs ds:=by
 cases x with
 |list ho ki=>exact⟨_,_,rfl,ho,ki⟩
theorem wO{P:Params}{ds:List WData}(x:Well P h v (.tuple ds)):∃(a:Addr)(vs:List Value),v=.ref a/\h.get? a=some {cls:=.type "tuple",data:=.seq vs.toArray}/\WellAll P h vs ds:=by
 cases x with
 |tuple ho ki=>exact⟨_,_,rfl,ho,ki⟩
theorem Ab{P:Params}{d:WData}{ds:List WData}(x:WellAll P h us (d::ds)):∃(v:Value)(vs:List Value),us=v::vs/\Well P h v d/\WellAll P h vs ds:=by
 cases x with
 |cons a b=>exact⟨_,_,rfl,a,b⟩
theorem Mj{n:Nat}(h:n<=1048576):n<=sizeLine:=gu h (by decide)
section
variable{P:Params}
mutual
theorem Uh:∀(d:WData)(v:Value),Well P h v d->Nb d=true->d.weight<=1048576->∃A:List Addr,Rw A v/\∀a∈A,mQ h A a
 |.none,_,x,_,_=>by
  cases x
  exact⟨[],trivial,λa m=>absurd m (by simp)⟩
 |.bool b,_,x,_,_=>by
  cases x
  exact⟨[],trivial,λa m=>absurd m (by simp)⟩
 |.int i,_,x,_,_=>by
  cases x
  exact⟨[],trivial,λa m=>absurd m (by simp)⟩
 |.str s,_,x,_,_=>by
  cases x
  exact⟨[],trivial,λa m=>absurd m (by simp)⟩
 |.bytes b,_,x,_,_=>by
  cases x
  exact⟨[],trivial,λa m=>absurd m (by simp)⟩
 |.list ds,_,x,p,z=>by
  obtain⟨a,vs,rfl,ho,ki⟩:=Ai x
  have z2:WData.weightAll ds<=1048576:=z
  obtain⟨A,h1,h2⟩:=rN ds _ ki p λd hd=>gu (qE hd) z2
  have k:∀b∈A,b∈a::A:=λb hb=>a7 _ hb
  refine⟨a::A,bf ..,λb hb=>?_⟩
  rcases ao.mp hb with e|m
  ·rw[e]
   exact⟨vs,Mj (by rw[jS ki];exact gu (PySem.W.length_le_weightAllW ds) z2),λu hu=>(h1 u hu).mono k,.inl ho⟩
  ·exact(h2 b m).mono k
 |.tuple ds,_,x,p,z=>by
  obtain⟨a,vs,rfl,ho,ki⟩:=wO x
  have z2:WData.weightAll ds<=1048576:=z
  obtain⟨A,h1,h2⟩:=rN ds _ ki p λd hd=>gu (qE hd) z2
  have k:∀b∈A,b∈a::A:=λb hb=>a7 _ hb
  refine⟨a::A,bf ..,λb hb=>?_⟩
  rcases ao.mp hb with e|m
  ·rw[e]
   exact⟨vs,Mj (by rw[jS ki];exact gu (PySem.W.length_le_weightAllW ds) z2),λu hu=>(h1 u hu).mono k,.inr ho⟩
  ·exact(h2 b m).mono k
 |.float _,_,_,p,_=>Bool.noConfusion (show false=true from p)
 |.dict _,_,_,p,_=>Bool.noConfusion (show false=true from p)
 |.bytearray _,_,_,p,_=>Bool.noConfusion (show false=true from p)
 |.set _,_,_,p,_=>Bool.noConfusion (show false=true from p)
 |.frozenset _,_,_,p,_=>Bool.noConfusion (show false=true from p)
 |.obj _ _,_,_,p,_=>Bool.noConfusion (show false=true from p)
theorem rN:∀(ds:List WData)(vs:List Value),WellAll P h vs ds->vE ds=true->(∀d∈ds,d.weight<=1048576)->∃A:List Addr,(∀u∈vs,Rw A u)/\∀a∈A,mQ h A a
 |[],_,x,_,_=>by
  cases x
  exact⟨[],λu m=>absurd m (by simp),λa m=>absurd m (by simp)⟩
 |d::ds,_,x,p,z=>by
  obtain⟨v,vs,rfl,x1,x2⟩:=Ab x
  have q:Nb d=true/\vE ds=true:=OD.mp p
  obtain⟨A,a1,a2⟩:=Uh d v x1 q.1 (z d (bf ..))
  obtain⟨B,b1,b2⟩:=rN ds vs x2 q.2 λe he=>z e (a7 _ he)
  have kA:∀b∈A,b∈A++B:=λb hb=>jp.mpr (.inl hb)
  have kB:∀b∈B,b∈A++B:=λb hb=>jp.mpr (.inr hb)
  refine⟨A++B,λu hu=>?_,λb hb=>?_⟩
  ·rcases ao.mp hu with e|m
   ·rw[e]
    exact a1.mono kA
   ·exact(b1 u m).mono kB
  ·rcases jp.mp hb with m|m
   ·exact(a2 b m).mono kA
   ·exact(b2 b m).mono kB
end
end
def Yp(o:Obj):Option HO:=match o.data with
 |.seq vs _=>if (o.cls==Value.type "list")=true then some (.frz o (.lst (vs.toList.map Fn))) else some (.frz o (.tup (vs.toList.map Fn)))
 |_=>none
def mL(K:Frag)(h:Heap)(A:List Addr):Hp:=λb=>if b∈A then (if (K.lookup b).isNone=true then (h.get? b).bind Yp else none) else none
def Me(H:Hp):Prop:=∀b,H b=none\/∃o u,H b=some (.frz o u)
theorem Gv(vs:List Value):Yp {cls:=.type "list",data:=.seq vs.toArray}=some (.frz {cls:=.type "list",data:=.seq vs.toArray} (.lst (vs.map Fn))):=by
 show (if (Value.type "list"==Value.type "list")=true then some (HO.frz {cls:=.type "list",data:=.seq vs.toArray} (.lst (vs.toArray.toList.map Fn))) else some (HO.frz {cls:=.type "list",data:=.seq vs.toArray} (.tup (vs.toArray.toList.map Fn))))=_
 rw[af (EV _)]
theorem Il(vs:List Value):Yp {cls:=.type "tuple",data:=.seq vs.toArray}=some (.frz {cls:=.type "tuple",data:=.seq vs.toArray} (.tup (vs.map Fn))):=by
 show (if (Value.type "tuple"==Value.type "list")=true then some (HO.frz {cls:=.type "tuple",data:=.seq vs.toArray} (.lst (vs.toArray.toList.map Fn))) else some (HO.frz {cls:=.type "tuple",data:=.seq vs.toArray} (.tup (vs.toArray.toList.map Fn))))=_
 rw[ae (by decide)]
section
variable{A:List Addr}
theorem vY(hb:b∈A)(hk:K.lookup b=none)(e:h.get? b=some o):mL K h A b=Yp o:=by
 unfold mL
 rw[af hb,hk,af (show (none:Option Obj).isNone=true from rfl),e]<;>rfl
theorem Yy{u:HO}(q:mL K h A b=some u):b∈A/\K.lookup b=none:=by
 unfold mL at q
 by_cases hb:b∈A
 ·rw[af hb] at q
  cases hk:K.lookup b with
  |none=>exact⟨hb,rfl⟩
  |some o=>
   rw[hk,ae (by simp)] at q
   cases q
 ·rw[ae hb] at q
  cases q
theorem vP(ar:∀a∈A,mQ h A a){u:HO}(q:mL K h A b=some u):K.lookup b=none/\∃vs:List Value,vs.length<=sizeLine/\(∀u∈vs,Rw A u)/\
  ((h.get? b=some {cls:=.type "list",data:=.seq vs.toArray}/\u=.frz {cls:=.type "list",data:=.seq vs.toArray} (.lst (vs.map Fn)))\/
   (h.get? b=some {cls:=.type "tuple",data:=.seq vs.toArray}/\u=.frz {cls:=.type "tuple",data:=.seq vs.toArray} (.tup (vs.map Fn)))):=by
 obtain⟨hb,hk⟩:=Yy q
 obtain⟨vs,h1,h2,h3⟩:=ar b hb
 refine⟨hk,vs,h1,h2,?_⟩
 rcases h3 with e|e
 ·rw[vY hb hk e,Gv] at q
  exact .inl ⟨e,(Option.some.inj q).symm⟩
 ·rw[vY hb hk e,Il] at q
  exact .inr ⟨e,(Option.some.inj q).symm⟩
theorem Pd(ar:∀a∈A,mQ h A a):Me (mL K h A):=λb=>by
 cases q:mL K h A b with
 |none=>exact .inl rfl
 |some u=>
  obtain⟨_,vs,_,_,⟨_,e⟩|⟨_,e⟩⟩:=vP ar q
  ·exact .inr ⟨_,_,by rw[e]⟩
  ·exact .inr ⟨_,_,by rw[e]⟩
theorem Yq(ar:∀a∈A,mQ h A a):lK P w (mL K h A) h:=λb u q=>by
 obtain⟨_,vs,h1,h2,⟨e,rfl⟩|⟨e,rfl⟩⟩:=vP ar q
 ·exact⟨e,by rw[ai];exact h1,vs,_,lD h2,e⟩
 ·exact⟨e,by rw[ai];exact h1,vs,lD h2,_,e,rfl,_,rfl⟩
theorem vW{c c':Value}{vs:List Value}(e:(some {cls:=c,data:=.seq vs.toArray}:Option Obj)=some {cls:=c',data:=.seq us.toArray}):c=c'/\vs=us:=by
 have e1:=Option.some.inj e
 have e2:c=c':=congrArg Obj.cls e1
 have e3:Data.seq vs.toArray=Data.seq us.toArray:=congrArg Obj.data e1
 injection e3 with e4
 refine⟨e2,?_⟩
 have e5:=congrArg Array.toList e4
 simpa using e5
theorem aGx(KX:K.In h)(ar:∀a∈A,mQ h A a){vs:List Value}(ha:a∈A)(e:h.get? a=some {cls:=.type "list",data:=.seq vs.toArray}):(∀u∈vs,Rw A u)/\cR K (mL K h A) a (vs.map Fn):=by
 obtain⟨us,h1,h2,h3⟩:=ar a ha
 have hu:us=vs:=by
  rcases h3 with q|q
  ·rw[e] at q
   exact(vW q).2.symm
  ·rw[e] at q
   exact absurd (Value.type.inj (vW q).1) (by decide)
 subst hu
 refine⟨h2,?_⟩
 cases hk:K.lookup a with
 |none=>exact .inl (.inr ⟨_,by rw[vY ha hk e,Gv]⟩)
 |some o=>
  have e2:=KX a o hk
  rw[e] at e2
  obtain rfl:=Option.some.inj e2
  exact .inr ⟨_,us.toArray,_,hk,rfl,rfl,rfl,by rw[cb];exact h1,by simpa using lD h2⟩
theorem aG7(KX:K.In h)(ar:∀a∈A,mQ h A a){vs:List Value}(ha:a∈A)(e:h.get? a=some {cls:=.type "tuple",data:=.seq vs.toArray}):(∀u∈vs,Rw A u)/\cM K (mL K h A) a (vs.map Fn):=by
 obtain⟨us,h1,h2,h3⟩:=ar a ha
 have hu:us=vs:=by
  rcases h3 with q|q
  ·rw[e] at q
   exact absurd (Value.type.inj (vW q).1) (by decide)
  ·rw[e] at q
   exact(vW q).2.symm
 subst hu
 refine⟨h2,?_⟩
 cases hk:K.lookup a with
 |none=>exact .inl (.inr ⟨_,by rw[vY ha hk e,Il]⟩)
 |some o=>
  have e2:=KX a o hk
  rw[e] at e2
  obtain rfl:=Option.some.inj e2
  exact .inr ⟨_,us.toArray,_,hk,rfl,rfl,by rw[cb];exact h1,by simpa using lD h2⟩
mutual
theorem aCc{Pm:Params}(KX:K.In h)(ar:∀a∈A,mQ h A a):∀(d:WData)(v:Value),Well Pm h v d->Nb d=true->Rw A v->Dw K (mL K h A) (Fn v) d
 |.none,_,x,_,_=>by
  cases x
  exact .non
 |.bool b,_,x,_,_=>by
  cases x
  exact .bl b
 |.int i,_,x,_,_=>by
  cases x
  exact .int i
 |.str s,_,x,_,_=>by
  cases x
  exact .str s
 |.bytes b,_,x,_,_=>by
  cases x
  have z:=Dw.byt (K:=K) (H:=mL K h A) b.toArray
  exact z
 |.list ds,_,x,p,hu=>by
  obtain⟨a,vs,rfl,ho,ki⟩:=Ai x
  obtain⟨h2,hs⟩:=aGx KX ar hu ho
  exact .lst hs (De KX ar ds _ ki p h2)
 |.tuple ds,_,x,p,hu=>by
  obtain⟨a,vs,rfl,ho,ki⟩:=wO x
  obtain⟨h2,hs⟩:=aG7 KX ar hu ho
  exact .tup hs (De KX ar ds _ ki p h2)
 |.float _,_,_,p,_=>Bool.noConfusion (show false=true from p)
 |.dict _,_,_,p,_=>Bool.noConfusion (show false=true from p)
 |.bytearray _,_,_,p,_=>Bool.noConfusion (show false=true from p)
 |.set _,_,_,p,_=>Bool.noConfusion (show false=true from p)
 |.frozenset _,_,_,p,_=>Bool.noConfusion (show false=true from p)
 |.obj _ _,_,_,p,_=>Bool.noConfusion (show false=true from p)
theorem De{Pm:Params}(KX:K.In h)(ar:∀a∈A,mQ h A a):∀(ds:List WData)(vs:List Value),WellAll Pm h vs ds->vE ds=true->(∀u∈vs,Rw A u)->nV K (mL K h A) (vs.map Fn) ds
 |[],_,x,_,_=>by
  cases x
  exact .nil
 |d::ds,_,x,p,hu=>by
  obtain⟨v,vs,rfl,x1,x2⟩:=Ab x
  have q:Nb d=true/\vE ds=true:=OD.mp p
  exact .cons (aCc KX ar d v x1 q.1 (hu _ (bf ..))) (De KX ar ds vs x2 q.2 λu m=>hu u (a7 _ m))
end
end
theorem Pg{mb:Str->Option Value}{CX:Ji}{fa:Addr}{az:Shared}{qr:List Value}{ds:List WData}{R:WRecords}{cl:Str->Option Addr}{d0:WData}
  (KX:K.In az.heap) (zg:az.heap.Ns mainGlobals mg) (hb:az.heap.Ns builtinsNs mb) (QQ:∀x:Str,x≠"__name__"->mb x=bootBuiltins x) (QR:az.heap.NoLimit) (hg:az.gens=#[])
  (A2:WellAll w.params az.heap qr ds) (fv:vE ds=true) (QS:∀d∈ds,d.weight<=1048576) (hr:eX k callerA)
  (F:∀base:Heap,K.In base->base.Ns mainGlobals mg->bV P w K mg base CX k fa fd ps sp) (QT:∀(s:Shared)(us:List Value),us.length=ps.length->BindsTo s fd ⟨us,[]⟩ (ps.zip us)) (bi:ds.length=ps.length)
  (kf:∀(H:Hp)(xs:List V),Me H->nV K H xs ds->sp xs H (λv H'=>Dw K H' v d0) λ_ _ _=>False)
  (FZ:∀H e s',CX [] H az (λ_ _ _=>False) e s'->False):
  codeAny (model P w) callerA (.call (.ref fa) ⟨qr,[]⟩) (λr s'=>∃u as,r=.ok (.ret u)/\ReadsW R cl s'.heap u d0 as/\OldK az.heap s'.heap/\s'.os=az.os/\AllBare s'.gens) az:=by
 obtain⟨A,ho,ar⟩:=rN ds qr A2 fv QS
 have hO:Me (mL K az.heap A):=Pd ar
 have hok:lK P w (mL K az.heap A) az.heap:=Yq ar
 have hS:=De KX ar ds qr A2 fv ho
 have hV:=lD ho
 have hK:∀b u,mL K az.heap A b=some u->K.lookup b=none:=λb u q=>(vP ar q).1
 have y9:∀{b:Addr}{o:Obj}{es:Array DictEntry}{ep:Nat},az.heap.get? b=some o->o.data=.dict es ep->mL K az.heap A b=none:=λ{b o es ep} e d=>by
  cases q:mL K az.heap A b with
  |none=>rfl
  |some u=>
   obtain⟨_,vs,_,_,⟨e2,_⟩|⟨e2,_⟩⟩:=vP ar q
   ·rw[e2] at e
    cases e
    have d':Data.seq vs.toArray _=Data.dict es ep:=d
    cases d'
   ·rw[e2] at e
    cases e
    have d':Data.seq vs.toArray _=Data.dict es ep:=d
    cases d'
 generalize mL K az.heap A=H at hO hok hS hK y9
 have base_of:∀{b:Addr}{o:Obj},az.heap.get? b=some o->H b=none->(Ei az.heap H).get? b=some o:=λe n=>Tp e n
 have nsK:∀{b:Addr}{m:Str->Option Value},az.heap.Ns b m->(Ei az.heap H).Ns b m:=λ{b m} ⟨o,es,ep,e,d,r⟩=>⟨o,es,ep,base_of e (y9 e d),d,r⟩
 have nK:∀b o,K.lookup b=some o->H b=none:=λb o e=>by
  cases q:H b with
  |none=>rfl
  |some u=>
   rw[hK b u q] at e
   cases e
 have KP:K.In (Ei az.heap H):=λb o e=>base_of (KX b o e) (nK b o e)
 have hM:Mod K mg (Ei az.heap H):=⟨KP,nsK zg,⟨mb,nsK hb,QQ⟩,let ⟨mc,h1,h2⟩:=QR;⟨mc,nsK h1,h2⟩⟩
 have e0:yY P w K mg (Ei az.heap H) callerA [] az H:=⟨rfl,hM,λb o e=>aBa e,vi (Qx _ _),trivial,λb hb=>absurd (show b∈([]:List Addr) from hb) (by simp),hok,.of_eq hg⟩
 have hl:qr.length=ps.length:=by rw[jS A2];exact bi
 refine t8 ((F _ KP (nsK zg)).run callerA [] az H ⟨qr,[]⟩ qr (qr.map Fn) _ _ hr e0 (QT az qr hl) hV (kf H _ hO hS)) λr s' x=>?_
 cases r with
 |error e=>exact(FZ H e s' x).elim
 |ok fl=>
  cases fl with
  |next=>exact False.elim x
  |brk=>exact False.elim x
  |cont=>exact False.elim x
  |ret u=>
   obtain⟨v,H',os,bare,un,KQ,r',q⟩:=x
   have kept:∀b o,az.heap.get? b=some o->s'.heap.get? b=some o:=λb o e=>by
    cases q2:H b with
    |none=>exact un.keep b o e q2 (by intro z;exact absurd (show b∈([]:List Addr) from z) (by simp)) (by simp)
    |some u2=>
     rcases hO b with z|⟨ob,u3,z⟩
     ·rw[q2] at z
      cases z
     ·have z2:=un.frzs b ob _ z
      obtain⟨e1,_⟩:=hok b _ z
      obtain⟨e2,_⟩:=KQ b _ z2
      rw[e] at e1
      cases e1
      exact e2
   have QU:K.In s'.heap:=λb o e=>kept b o (KX b o e)
   obtain⟨as,KR⟩:=Dw.reads (R:=R) (cl:=cl) KQ QU d0 v u q r'
   exact⟨u,as,rfl,KR,OldK.of_keep kept,os,bare⟩
theorem xA{ds:List WData}(h:WData.layableAll ds=true):∀d∈ds,d.weight<=1048576:=λd hd=>
 (PySem.W.layableW_iff.mp (j8.mp h d hd)).2.2
theorem zN:∀(cs:List Codec)(a:Codec.denoteAll cs),(Codec.encAll cs a).length=cs.length
 |[],_=>rfl
 |c::cs,a=>by
  show (Codec.encAll cs a.2).length+1=cs.length+1
  rw[zN cs a.2]
end L2
namespace L2
open PySem PySem.Spec PyProof.Rows
structure Iv(fr:List Addr)(e T0 T:Addr)(h h':Heap):Prop where
 keep:∀b o,b∉fr->b≠e->b≠T0->h.get? b=some o->h'.get? b=some o
 slot:∀b o,b∈fr->h.get? b=some o->∃sl,h'.get? b=some {o with slots:=sl}
 big:h.objs.size<=T
 self:∀oe vs,h.get? e=some oe->oe.data=.fields vs->1<vs.size->∃sf uu,h'.get? e=some sf/\sf.cls=oe.cls/\sf.dict=oe.dict/\sf.data=.fields uu/\uu.size=vs.size/\uu[1]?=some (.ref T)
 head:∃oT ts,h'.get? T=some oT/\oT.data=.fields ts/\ts[3]?=some .none
 old:∀o,h.get? T0=some o->∃o',h'.get? T0=some o'
theorem mR(o:Obj)(f:Array Value->Array Value):(o.mapFields f).cls=o.cls/\(o.mapFields f).dict=o.dict:=by
 obtain⟨c,d,dt,sl⟩:=o
 cases dt<;>exact⟨rfl,rfl⟩
theorem wF{outer:List Env}{L e:Addr}{oe:Obj}{vs:Array Value}{head:Value}{QV:Bool}{Q:Unit->Shared->Prop}
  (jj:A.frames=some (env::outer)) (hl:s.heap.FunFrames base (env::outer)) (hf:env.frame=some L)
  (he:s.heap.get? e=some oe) (hd:oe.data=.fields vs) (hsz:1<vs.size)
  (h:∀h' T,Iv ((env::outer).filterMap (·.frame)) e e T s.heap h'->Q () {s with heap:=h'}):
  wpAny M A (do let a <-frameOf env;let pl <-entryPlaceOf L QV;let b <-EntryCells.newEntry head a .none (rawInt L) .none pl;setField (.ref e) 1 b) (λ_ s'=>wpAny M A (setFlight (.ref e) none) Q E s') E s:=by
 have F0:e∉(env::outer).filterMap (·.frame):=λhm=>by
  obtain⟨_,o,ho,ww⟩:=hl.mem hm
  rw[he] at ho;injection ho with ho;subst ho;exact ww vs hd
 refine ac (wpAny_frameOf_fun jj hl hf λc6 DD=>?_)
 refine ac (wpAny_entryPlaceOf λpl fv=>?_)
 unfold EntryCells.newEntry newFields
 refine ac (ip ?_ (fv.sizeOk5 _ _ _ _ _))
 have KS:c6.get? e=some oe:=(DD.2.1 e F0).trans he
 have KU:=bj (h:=c6) {cls:=.type "traceback",dict:=none,data:=.fields ([head,.ref L,.none,rawInt L,.none]++(if pl.isEmpty then List.replicate 6 Value.none else pl)).toArray} KS
 refine l0 KU hd hsz ?_
 have mj:c6.objs.size≠e:=px (bg KS)
 have F1:=kc hd (·.setIfInBounds 1 (Value.ref c6.objs.size))
 have KW:=oq (Obj.mapFields (·.setIfInBounds 1 (Value.ref c6.objs.size))) KU (ub F1)
 have KY:=(vo (c6.push {cls:=.type "traceback",dict:=none,data:=.fields ([head,.ref L,.none,rawInt L,.none]++(if pl.isEmpty then List.replicate 6 Value.none else pl)).toArray})
  (Obj.mapFields (·.setIfInBounds 1 (Value.ref c6.objs.size))) (ax mj)).trans (cg c6 rfl)
 unfold setFlight
 refine ac (j6 KW F1 (x:=.ref c6.objs.size) (by simp[hsz]) ?_)
 rw[af (show (Value.ref c6.objs.size !=Value.none)=true from by simp)]
 refine l0 KY rfl (by simp only[cb,b6,bh,lh]<;>(clear mj F0 hsz;omega)) (h _ c6.objs.size ?_)
 have keep:∀b o,b≠e->c6.get? b=some o->
   (((c6.push {cls:=.type "traceback",dict:=none,data:=.fields ([head,.ref L,.none,rawInt L,.none]++(if pl.isEmpty then List.replicate 6 Value.none else pl)).toArray}).update e (Obj.mapFields (·.setIfInBounds 1 (Value.ref c6.objs.size)))).update c6.objs.size
    (Obj.mapFields (·.setIfInBounds 3 ((none:Option Addr).elim Value.none λf=>rawInt f)))).get? b=some o:=λb o li hb=>by
  have F2:c6.objs.size≠b:=px (bg hb)
  rw[vo _ _ F2,vo _ _ (ax li)]
  exact bj _ hb
 have KZ:=(vo ((c6.push {cls:=.type "traceback",dict:=none,data:=.fields ([head,.ref L,.none,rawInt L,.none]++(if pl.isEmpty then List.replicate 6 Value.none else pl)).toArray}).update e (Obj.mapFields (·.setIfInBounds 1 (Value.ref c6.objs.size))))
  (Obj.mapFields (·.setIfInBounds 3 ((none:Option Addr).elim Value.none λf=>rawInt f))) mj).trans KW
 refine⟨λb o hb li _ mm=>keep b o li ((DD.2.1 b hb).trans mm),λb o hb mm=>?_,vi DD.1.symm,λsf uu h1 h2 _=>?_,?_,λo ho=>⟨_,KZ⟩⟩
 ·obtain⟨sl,hs⟩:=DD.2.2 b o mm
  exact⟨sl,keep b _ (λq=>F0 (q▸hb)) hs⟩
 ·rw[he] at h1;cases h1
  rw[hd] at h2;cases h2
  exact⟨_,_,KZ,(mR _ _).1,(mR _ _).2,F1,by simp,by simp[hsz]⟩
 ·exact⟨_,_,oq _ KY (ub (kc rfl _)),kc rfl _,by first|(simp;done)|(rcases fv with rfl|⟨_,_,_,_,_,_,_,rfl⟩<;>simp)⟩
theorem Kw{outer:List Env}{L e:Addr}{oe:Obj}{vs:Array Value}{Q:Unit->Shared->Prop}
  (jj:A.frames=some (env::outer)) (hl:s.heap.FunFrames base (env::outer)) (hf:env.frame=some L)
  (he:s.heap.get? e=some oe) (hd:oe.data=.fields vs) (h1:vs[1]?=some .none)
  (h:∀h' T,Iv ((env::outer).filterMap (·.frame)) e e T s.heap h'->Q () {s with heap:=h'}):
  wpAny M A (noteFrame (.ref e) env) (λ_ s'=>wpAny M A (setFlight (.ref e) none) Q E s') E s:=by
 unfold noteFrame
 simp only[hf]
 refine ac (j6 he hd h1 ?_)
 rw[ae (by decide)]
 exact wF jj hl hf he hd (wa.mp h1).1 h
theorem Bh{outer:List Env}{L e T oeT:Addr}{oe oT:Obj}{vs ts:Array Value}{Q:Unit->Shared->Prop}
  (jj:A.frames=some (env::outer)) (hl:s.heap.FunFrames base (env::outer)) (hf:env.frame=some L)
  (he:s.heap.get? e=some oe) (hd:oe.data=.fields vs) (h1:vs[1]?=some (.ref T)) (mj:T≠e) (hT:s.heap.get? T=some oT) (DE:oT.data=.fields ts) (h3:ts[3]?=some .none)
  (h:∀h' T',Iv ((env::outer).filterMap (·.frame)) e T T' s.heap h'->Q () {s with heap:=h'}):
  wpAny M A (noteFrame (.ref e) env) (λ_ s'=>wpAny M A (setFlight (.ref e) none) Q E s') E s:=by
 unfold noteFrame
 simp only[hf]
 refine ac (j6 he hd h1 ?_)
 rw[af (show (Value.ref T !=Value.none)=true from by simp)]
 refine ac (j6 hT DE h3 ?_)
 rw[ae (show ¬((Value.none==rawInt L)=true) from by simp[rawInt])]
 refine ac (l0 hT DE (wa.mp h3).1 ?_)
 have other:∀b,b≠T->(s.heap.update T (Obj.mapFields (·.setIfInBounds 3 Value.none))).get? b=s.heap.get? b:=λb hb=>vo _ _ (ax hb)
 have noRecord:∀b o,s.heap.get? b=some o->(∀vs,o.data≠.fields vs)->b≠T:=λb o hb ww q=>by
  rw[q,hT] at hb;injection hb with hb;subst hb;exact ww ts DE
 have K0:∀b∈(env::outer).filterMap (·.frame),b≠T:=λb hb=>by
  obtain⟨_,o,ho,ww⟩:=hl.mem hb
  exact noRecord b o ho ww
 have QW:=oq (Obj.mapFields (·.setIfInBounds 3 Value.none)) hT (ub (kc DE _))
 refine wF (base:=base) jj (hl.of_keeps λb o hb ww=>⟨o,(other b (noRecord b o hb ww)).trans hb,rfl⟩) hf ((other e (ax mj)).trans he) hd (wa.mp h1).1 λh' T' N=>h h' T' ?_
 refine⟨λb o hb li F2 mm=>N.keep b o hb li li ((other b F2).trans mm),λb o hb mm=>N.slot b o hb ((other b (K0 b hb)).trans mm),?_,λsf uu q1 q2 q3=>N.self sf uu ((other e (ax mj)).trans q1) q2 q3,N.head,λo _=>?_⟩
 ·have:=N.big
  rwa [Heap.size_after_update] at this
 ·by_cases hb:T∈(env::outer).filterMap (·.frame)
  ·exact absurd rfl (K0 T hb)
  ·exact⟨_,N.keep T _ hb mj mj QW⟩
section
variable{σ:List (Option V)}
theorem aQ.step2{g':Array GenState}{d':Drawn}{ch:List Addr}(I:aQ X U σ H s)
  (ja:∀b∈ch,(b∈X.ex\/X.s_0.heap.get? b=none)/\b≠X.env.locals/\(∀x c,X.env.cells.lookup x=some c->c≠b)/\∀p∈X.pn++U,p.1≠b)
  (keep:∀b o,b≠X.env.locals->b∉X.fs->b∉ch->s.heap.get? b=some o->H b=none->h'.get? b=some o)
  (slot:∀b o,b≠X.env.locals->b∈X.fs->b∉ch->s.heap.get? b=some o->H b=none->∃sl,h'.get? b=some {o with slots:=sl}) (free:∀b o,b∉ch->s.heap.get? b=some o->H b=none->H' b=none)
  (there:∀b o,b∉ch->s.heap.get? b=some o->∃o',h'.get? b=some o')
  (tups:∀b xs,H b=some (.tup xs)->H' b=some (.tup xs)) (frzs:∀b o u,H b=some (.frz o u)->H' b=some (.frz o u)) (tbls:∀b ps,H b=some (.tbl ps)->∃more,H' b=some (.tbl (ps++more)))
  (ns:∀m,s.heap.Ns X.env.locals m->h'.Ns X.env.locals m) (hok:lK X.prog X.w H' h') (hg:AllBare g'):
  aQ X U σ H' {s with heap:=h',gens:=g',drawn:=d',toks:=t'}:=by
 have AU:∀b o,X.s_0.heap.get? b=some o->b≠X.env.locals:=λb o e=>b9 (iy (bg e) I.ok.above)
 have ro:∀b o,X.s_0.heap.get? b=some o->b∉X.ex->b∉ch:=λb o e hx hb=>by
  rcases(ja b hb).1 with z|z
  ·exact hx z
  ·rw[e] at z;cases z
 have cellK:∀x c,X.env.cells.lookup x=some c->∀v,s.heap.IsCell c v->h'.IsCell c v:=λx c e v ⟨o,ho,hd⟩=>by
  have o4:c∉ch:=λz=>(ja c z).2.2.1 x c e rfl
  by_cases hc:c∈X.fs
  ·obtain⟨sl,q⟩:=slot c o (I.cne x c e) hc o4 ho (I.freeC x c e)
   exact⟨_,q,hd⟩
  ·exact⟨o,keep c o (I.cne x c e) hc o4 ho (I.freeC x c e),hd⟩
 refine⟨I.ok,I.os,hg,⟨λb o e n hb hx=>?_,λb o e n hb hx=>?_,λb o e n hx=>?_,λb o e hx=>?_,λb xs e=>tups b xs (I.base.tups b xs e),λb o xs e=>frzs b o xs (I.base.frzs b o xs e),λb ps e=>?_⟩,?_,λx c e=>?_,?_,λx c e=>?_,λp hp=>?_,hok,I.len⟩
 ·exact keep b o (AU b o e) hb (ro b o e hx) (I.base.keep b o e n hb hx) (I.base.free b o e n hx)
 ·obtain⟨sl,e1⟩:=I.base.slot b o e n hb hx
  obtain⟨FO,e2⟩:=slot b _ (AU b o e) hb (ro b o e hx) e1 (I.base.free b o e n hx)
  exact⟨FO,e2⟩
 ·obtain⟨o',e1⟩:=I.base.there b o e hx
  exact free b o' (ro b o e hx) e1 (I.base.free b o e n hx)
 ·obtain⟨o',e1⟩:=I.base.there b o e hx
  exact there b o' (ro b o e hx) e1
 ·obtain⟨m1,e1⟩:=I.base.tbls b ps e
  obtain⟨m2,e2⟩:=tbls b _ e1
  exact⟨m1++m2,by rw[e2,NT]⟩
 ·obtain⟨m,hn,hl⟩:=I.loc
  refine⟨m,ns m hn,λi x v e1 e2 e3=>?_⟩
  obtain⟨u,r,l⟩:=hl i x v e1 e2 e3
  refine⟨u,r,?_⟩
  rcases l with l|⟨k,c,e,z⟩
  ·exact .inl l
  ·exact .inr ⟨k,c,e,cellK x c e _ z⟩
 ·obtain⟨v,z⟩:=I.cell x c e
  exact⟨v,cellK x c e v z⟩
 ·obtain⟨m,⟨o,_,_,ho,_⟩,_⟩:=I.loc
  exact free _ o (λz=>(ja _ z).2.1 rfl) ho I.free
 ·obtain⟨v,o,ho,hd⟩:=I.cell x c e
  exact free c o (λz=>(ja c z).2.2.1 x c e rfl) ho (I.freeC x c e)
 ·obtain⟨e,n,ne,nf,d⟩:=I.pin p hp
  have o4:p.1∉ch:=λz=>(ja p.1 z).2.2.2 p hp rfl
  exact⟨keep p.1 p.2 ne nf o4 e n,free p.1 p.2 o4 e n,ne,nf,d⟩
end
structure Xn(C:Addr)(H:Hp)(h h0:Heap)(e:Addr)(n:Int)(tb:Value):Prop where
 at_:∃oe vs d mA,h.get? e=some oe/\oe.cls=.ref C/\oe.dict=some d/\oe.data=.fields vs/\vs[1]?=some tb/\h.Ns1 d mA/\(∀f,mI (([("fault",V.int n)]:List (Str×V)).lookup f) (mA f))/\H d=none/\h0.get? d=none/\d≠e
 he:H e=none
 lo:h0.get? e=none
def uV(C:Addr)(H:Hp)(h h0:Heap)(e:Addr)(n:Int):Prop:=
 ∃T,Xn C H h h0 e n (.ref T)/\T≠e/\h0.get? T=none/\H T=none/\∃oT ts,h.get? T=some oT/\oT.data=.fields ts/\ts[3]?=some .none
def Sub(h0 h1:Heap):Prop:=∀b o,h0.get? b=some o->∃o',h1.get? b=some o'
theorem Sub.no{h0 h1:Heap}(x:Sub h0 h1)(e:h1.get? b=none):h0.get? b=none:=by
 cases q:h0.get? b with
 |none=>rfl
 |some o=>
  obtain⟨o',z⟩:=x b o q
  rw[e] at z;cases z
theorem Xn.mono{h0 h1:Heap}{e:Addr}{n:Int}{tb:Value}(x:Xn C H h h1 e n tb)(hl:Sub h0 h1):Xn C H h h0 e n tb:=by
 obtain⟨oe,vs,d,mA,g1,g2,g3,g4,g5,g6,g7,g8,g9,QX⟩:=x.at_
 exact⟨⟨oe,vs,d,mA,g1,g2,g3,g4,g5,g6,g7,g8,hl.no g9,QX⟩,x.he,hl.no x.lo⟩
theorem uV.mono{h0 h1:Heap}{e:Addr}{n:Int}(x:uV C H h h1 e n)(hl:Sub h0 h1):uV C H h h0 e n:=by
 obtain⟨T,x,g1,g2,g3⟩:=x
 exact⟨T,x.mono hl,g1,hl.no g2,g3⟩
def jN(C:Addr)(P:Program)(w:World):Ji:=λouter H s E e s'=>
 ∃(ea:Addr)(n:Int)(H':Hp),e=.ref ea/\s'.os=s.os/\AllBare s'.gens/\Un (Aj outer) [] H H' s.heap s'.heap/\lK P w H' s'.heap/\uV C H' s'.heap s.heap ea n/\E (.int n 0) none H'
section
variable{h0:Heap}{e T0 T:Addr}
structure Gb(X:Cx)(U:List (Addr×Obj))(h0:Heap):Prop where
 s0:∀b o,X.s_0.heap.get? b=some o->b∉X.ex->∃o',h0.get? b=some o'
 loc:∃o,h0.get? X.env.locals=some o
 cell:∀x c,X.env.cells.lookup x=some c->∃o,h0.get? c=some o
 pin:∀p∈X.pn++U,∃o,h0.get? p.1=some o
 fr:∀b∈Aj X.stack,∃o,h0.get? b=some o
theorem eR{h0:Heap}(x:∃o,h0.get? a=some o)(e:h0.get? b=none):a≠b:=by
 rintro rfl
 obtain⟨o,q⟩:=x
 rw[e] at q;cases q
theorem aQ.below(I:aQ X U σ H s):Gb X U s.heap where
 s0:=I.base.there
 loc:=let ⟨_,⟨o,_,_,ho,_⟩,_⟩:=I.loc;⟨o,ho⟩
 cell:=λx c e=>let ⟨_,o,z,_⟩:=I.cell x c e;⟨o,z⟩
 pin:=λp hp=>⟨_,(I.pin p hp).1⟩
 fr:=λb hb=>let ⟨_,o,ho,_⟩:=I.stack.mem hb;⟨o,ho⟩
theorem aQ.noted(I:aQ X U σ H s)(N:Iv (Aj X.stack) e T0 T s.heap h')(B:Gb X U h0)(he:h0.get? e=none)(ht:h0.get? T0=none)(ne:H e=none)(nt:H T0=none):aQ X U σ H {s with heap:=h'}:=by
 have ja:∀b∈[e,T0],h0.get? b=none:=λb hb=>by
  rcases ao.mp hb with rfl|hb
  ·exact he
  ·rw[ie.mp hb];exact ht
 have keep:∀b o,b∉Aj X.stack->b∉[e,T0]->s.heap.get? b=some o->h'.get? b=some o:=λb o h1 h2 h3=>N.keep b o h1 (λz=>h2 (by simp[z])) (λz=>h2 (by simp[z])) h3
 have any:∀b o,b∉[e,T0]->s.heap.get? b=some o->∃sl,h'.get? b=some {o with slots:=sl}:=λb o h2 h3=>by
  by_cases hb:b∈Aj X.stack
  ·exact N.slot b o hb h3
  ·exact⟨o.slots,keep b o hb h2 h3⟩
 refine I.step2 (g':=s.gens) (d':=s.drawn) (t':=s.toks) (ch:=[e,T0]) (λb hb=>?_) (λb o h1 h2 h3 h4 _=>?_) (λb o _ _ h3 h4 _=>any b o h3 h4) (λ_ _ _ _ n=>n) (λb o h3 h4=>?_) (λ_ _ q=>q) (λ_ _ _ q=>q) (λb ps q=>⟨#[],by rw[q];simp⟩) (λm hm=>?_) (λb u q=>?_) I.bare
 ·have hb:=ja b hb
  refine⟨?_,ax (eR B.loc hb),λx c q=>eR (B.cell x c q) hb,λp hp=>eR (B.pin p hp) hb⟩
  by_cases hx:b∈X.ex
  ·exact .inl hx
  ·refine .inr ?_
   cases q:X.s_0.heap.get? b with
   |none=>rfl
   |some o=>exact absurd rfl (eR (B.s0 b o q hx) hb)
 ·refine keep b o (λz=>?_) h3 h4
  rcases ao.mp (I.stkSub b z) with z|z
  ·exact h1 z
  ·exact h2 z
 ·obtain⟨sl,q⟩:=any b o h3 h4
  exact⟨_,q⟩
 ·obtain⟨o,es,ep,ho,hd,r⟩:=hm
  obtain⟨sl,q⟩:=any X.env.locals o (λz=>absurd rfl (eR B.loc (ja _ z))) ho
  exact⟨_,es,ep,q,hd,r⟩
 ·have tr:∀c v,H c=some v->c∉Aj X.stack/\c∉[e,T0]:=λc v q=>by
   refine⟨λz=>?_,λz=>?_⟩
   ·rw[I.stkFree c z] at q;cases q
   ·rcases ao.mp z with rfl|z
    ·rw[ne] at q;cases q
    ·rw[ie.mp z,nt] at q;cases q
  refine(I.hok b u q).stay (λc v hc r=>?_) (λ_ z=>z) λ_ _ z=>z
  rcases hc with rfl|hc
  ·exact keep c v (tr c u q).1 (tr c u q).2 r
  ·exact keep c v (tr c _ hc).1 (tr c _ hc).2 r
theorem Xn.noted{n:Int}{tb:Value}(I:aQ X U σ H s)(N:Iv (Aj X.stack) e T0 T s.heap h')(B:Gb X U h0)(hs:Sub h0 s.heap)(x:Xn C H s.heap h0 e n tb)(hk:∀o es ep,s.heap.get? T0=some o->o.data≠.dict es ep):uV C H h' h0 e n:=by
 obtain⟨oe,vs,d,mA,h1,h2,h3,h4,h5,h6,h7,h8,h9,di⟩:=x.at_
 obtain⟨sf,uu,g1,g2,g3,g4,g5,g6⟩:=N.self oe vs h1 h4 (wa.mp h5).1
 have AZ:e<s.heap.objs.size:=bg h1
 refine⟨T,⟨⟨sf,uu,d,mA,g1,g2.trans h2,g3.trans h3,g4,g6,h6.at λo q=>N.keep d o (λz=>absurd rfl (eR (B.fr d z) h9)) di (λz=>?_) q,h7,h8,h9,di⟩,x.he,x.lo⟩,λz=>?_,hs.no (Heap.get?_none_of_le N.big),I.hok.fresh N.big,N.head⟩
 ·obtain⟨o',es,ep,q1,q2,_⟩:=h6
  rw[z] at q1
  exact hk o' es ep q1 q2
 ·exact absurd (iy AZ N.big) (by rw[z];exact j5 _)
end
structure Tv(C:Addr)(X:Cx)(E:XK):Prop where
 pass:jC (jN C X.prog X.w) X E
 new:∀(U:List (Addr×Obj)) (σ:St) (H:Hp) (s:Shared) (ea:Addr) (n:Int) (h0:Heap),aQ X U σ H s->Gb X U h0->Sub h0 s.heap->Xn C H s.heap h0 ea n .none->E (.int n 0) none H->X.xe (.ref ea) s
 own:PassesOwn (model X.prog X.w) X.A X.env X.xe
variable{K:Frag}
theorem aO{N:List Str}{cd:Value}{outer:List Env}{E:XK}:
  Tv C (Eh (jN C P w) P w K mg base N aq scope f cd A outer s H E) E where
 pass:=by
  intro U σ H1 s1 e s' I ⟨ea,n,H',he,f9,hb,un,hok,fl,hE⟩
  subst he
  have I':=I.call' (ch:=[]) f9 un hok hb (λ_ z=>nomatch z)
  have B:=I.below
  obtain⟨T,x,mj,DF,DG,oT,ts,t1,t2,t3⟩:=fl
  obtain⟨oe,vs,d,mA,h1,h2,h3,h4,h5,h6,h7,h8,h9,di⟩:=id x.at_
  show wpAny _ _ (leaving _ _) _ _ _
  unfold leaving
  refine ac (Bh (oeT:=0) I'.ok.frames I'.stack rfl h1 h4 h5 mj t1 t2 t3 λh' T' Nt=>?_)
  have I2:=I'.noted Nt B x.lo DF x.he DG
  have A3:=Xn.noted (C:=C) I' Nt B (λb o q=>un.there b o q (by simp)) x (λo es ep q z=>by rw[t1] at q;cases q;rw[t2] at z;cases z)
  exact⟨ea,n,H',rfl,I2.os,I2.bare,I2.base,I2.hok,(A3.mono λb o q=>B.s0 b o q (λz=>nomatch (show b∈([]:List Addr) from z))),hE⟩
 new:=by
  intro U σ H1 s1 ea n h0 I B hs x hE
  obtain⟨oe,vs,d,mA,h1,h2,h3,h4,h5,h6,h7,h8,h9,di⟩:=id x.at_
  show wpAny _ _ (leaving _ _) _ _ _
  unfold leaving
  refine ac (Kw I.ok.frames I.stack rfl h1 h4 h5 λh' T' Nt=>?_)
  have I2:=I.noted Nt B x.lo x.lo x.he x.he
  have A3:=Xn.noted (C:=C) I Nt B hs x (λo es ep q z=>by rw[h1] at q;cases q;rw[h4] at z;cases z)
  exact⟨ea,n,H1,rfl,I2.os,I2.bare,I2.base,I2.hok,(A3.mono λb o q=>B.s0 b o q (λz=>nomatch (show b∈([]:List Addr) from z))),hE⟩
 own:=PassesOwn.leaving
section
open Builtin Builtin.ObjectAttr
variable{g:Array GenState}{d:Drawn}{t:Nat}{os:OsState}
variable{nm q:Str}{N x:Addr}{bs bm:List Value}{sn:List Str}{sub:List Value}{ab:Bool}{col:Option Bool}{dd:Option Addr}{k0 k1 k2 k3 k5:Option Value}{B newId sa owner:String}
 {mN:Str->Option Value} {name:Str} {v:Value} {o:Obj}
structure Cb(h h':Heap)(x:Addr)(o:Obj)(name:Str)(v:Value):Prop where
 obj:h'.get? x=some {o with dict:=some h.objs.size}
 ns:h'.Ns1 h.objs.size (λy=>if y=name then some v else none)
 keep:∀b ob,b≠x->h.get? b=some ob->h'.get? b=some ob
theorem Fq{tk:Tok}{Q:Fin->Shared->Prop}(SF:StoreFacts B bm sa owner)
  (hC:h.get? C=some (excClassObj nm q C N bs bm true sn sub ab col dd k0 k1 k2 k3 k5 newId)) (hn:h.Ns N mN) (jv:mN name=none)
  (hB:typeLookup (.type B) name=pure none) (hx:h.get? x=some o) (hc:o.cls=.ref C) (si:∀c,o.data≠.cls c) (o8:o.dict=none)
  (hq:∀h' n8,Cb h h' x o name v->Q (.done (.ret .none)) ⟨h',g,d,n8,os⟩):
  wpAny (model prog w) A (Builtin.«object.__setattr__» ⟨[.ref x,.str name tk,v],[]⟩) Q E ⟨h,g,d,t,os⟩:=by
 have QY:=SF.passes (.ref x)
 unfold Builtin.«object.__setattr__»
 repeat (first|rw[refuse_eq]|(rw[refuseLoop_ref,QY])|(with_reducible refine wb hx ?_;rw[hc])|with_reducible refine wpAny_mroOf_exc hC ?_|(with_reducible refine CK hC hn SF.mro hB ?_;rw[jv])|wp_step)
 rw[o8,ae (by simp[typeHasDict])]
 split
 ·rename_i jb
  cases jb
 split
 ·rename_i c jb
  exact absurd jb (si c)
 ·have F3:(h.push {cls:=.type "dict",data:=.dict #[]}).get? x=some o:=bj _ hx
  have K1:x≠h.objs.size:=b9 (bg hx)
  refine ac (wpAny_alloc' (ac (wpAny_update' F3 (ag ?_))))
  have gg:((h.push {cls:=.type "dict",data:=.dict #[]}).update x λo=>{cls:=o.cls,dict:=some h.objs.size,data:=o.data,slots:=o.slots}).get? h.objs.size
    =some {cls:=.type "dict",data:=.dict #[]}:=(JP _ _ _ _ K1.symm).trans (Heap.get?_push_at rfl rfl)
  have QZ:((h.push {cls:=.type "dict",data:=.dict #[]}).update x λo=>{cls:=o.cls,dict:=some h.objs.size,data:=o.data,slots:=o.slots}).Ns h.objs.size (λ_=>none):=
   ⟨_,#[],_,gg,rfl,λe he=>absurd he (by simp),λ_=>rfl⟩
  show wpAny _ _ (storeInDict h.objs.size (.str name tk) name v) _ _ _
  unfold storeInDict newKeyGuard
  refine ac (ag (ac (wpAny_nsSet1 (Heap.Ns1.of_empty QZ) λh' y4 hs=>?_)))
  obtain⟨oD,PY,PZ,FR,FT,C7⟩:=y4.count (Within.cons name v Within.nil)
  refine ac (wpAny_lookBehind FR (by rw[FT];exact pastItsLine_dict (gu C7 (by rw[bh,lh,p8];(clear C7;omega)))) ?_)
  wp_walk
  refine hq h' _ ⟨?_,y4,λb ob Q0 hb=>(hs.2 b (b9 (bg hb))).trans ((JP _ _ _ _ Q0).trans (bj _ hb))⟩
  refine(hs.2 x K1).trans (oq _ F3 ?_)
  have jj:=(Heap.get?_some_iff.mp hx).2
  obtain⟨oc,od,odt,de⟩:=o
  cases odt<;>first|rfl|exact jj
theorem Jz{Q:Unit->Shared->Prop}(SF:StoreFacts B bm sa owner)
  (hC:h.get? C=some (excClassObj nm q C N bs bm true sn sub ab col dd k0 k1 k2 k3 k5 newId)) (hn:h.Ns N mN) (zg:mN "__setattr__"=none) (jv:mN name=none)
  (hB:typeLookup (.type B) name=pure none) (hx:h.get? x=some o) (hc:o.cls=.ref C) (si:∀c,o.data≠.cls c) (o8:o.dict=none)
  (hq:∀h' n8,Cb h h' x o name v->Q () ⟨h',g,d,n8,os⟩):
  wpAny (model prog w) A (setAttr (.ref x) name v) Q E ⟨h,g,d,t,os⟩:=by
 have f3:=SF.slot.bind (.ref x)
 unfold setAttr callSpecial? specialOf
 repeat (any_goals (first|assumption|(with_reducible refine wb hx ?_;rw[hc])|(with_reducible refine CK hC hn SF.mro SF.slot.lookup ?_;rw[zg])|wp_step))
 refine JQ SF.slot.plain SF.entry (wpAny_check_sa SF hC hx hc (Fq SF hC hn jv hB hx hc si o8 λh' n8 I'=>?_))
 repeat (any_goals (first|assumption|wp_step))
 exact hq h' n8 I'
end
section
open Builtin Builtin.ObjectAttr
variable{g:Array GenState}{d:Drawn}{t:Nat}{os:OsState}
variable{nm q:Str}{N x:Addr}{bs bm:List Value}{sn:List Str}{sub:List Value}{ab:Bool}{col:Option Bool}{dd:Option Addr}{k0 k1 k2 k3 k5:Option Value}{B newId:String}
 {mN mA:Str->Option Value} {name:Str} {v:Value} {o:Obj}
theorem Qk{tk:Tok}{Q:Fin->Shared->Prop}(FB:ExcAttrBase B bm)
  (hC:h.get? C=some (excClassObj nm q C N bs bm true sn sub ab col dd k0 k1 k2 k3 k5 newId)) (hn:h.Ns N mN) (jv:mN name=none)
  (hB:typeLookup (.type B) name=pure none) (hx:h.get? x=some o) (hc:o.cls=.ref C) (si:∀c,o.data≠.cls c) (sj:o.dict=some dx) (hA:h.Ns1 dx mA) (hv:mA name=some v) (hq:Q (.done (.ret v)) ⟨h,g,d,t,os⟩):
  wpAny (model prog w) A (Builtin.«object.__getattribute__» ⟨[.ref x,.str name tk],[]⟩) Q E ⟨h,g,d,t,os⟩:=by
 unfold Builtin.«object.__getattribute__»
 repeat (first|(with_reducible refine wb hx ?_;rw[hc])|(with_reducible refine CK hC hn FB.mro hB ?_;rw[jv])|wp_step)
 split
 ·rename_i c jb
  exact absurd jb (si c)
 unfold instanceDict
 repeat (first|(with_reducible refine wb hx ?_;rw[hc])|with_reducible refine wb hC ?_|wp_step)
 rw[sj]
 repeat (first|(with_reducible refine wpAny_nsGet hA.ns ?_;rw[hv])|wp_step)
 exact hq
theorem aCn{tk:Tok}{fill expr:Bool}(FB:ExcAttrBase B bm)
  (hC:h.get? C=some (excClassObj nm q C N bs bm true sn sub ab col dd k0 k1 k2 k3 k5 newId)) (hn:h.Ns N mN) (F4:mN "__getattribute__"=none) (F5:mN "__getattr__"=none) (jv:mN name=none)
  (hB:typeLookup (.type B) name=pure none) (hx:h.get? x=some o) (hc:o.cls=.ref C) (si:∀c,o.data≠.cls c) (sj:o.dict=some dx) (hA:h.Ns1 dx mA) (hv:mA name=some v) (hh:handedOut v=pure v) (hq:Q v ⟨h,g,d,t,os⟩):
  wpAny (model prog w) A (getAttrBy (.ref x) (.str name tk) fill expr) Q E ⟨h,g,d,t,os⟩:=by
 have f3:=FB.ga.bind (.ref x)
 have uv:(expr && onTheHeap (Value.builtin "BaseException.__getattribute__"))=false:=by cases expr<;>rfl
 have Q1:(Value.builtin "BaseException.__getattribute__"==Value.builtin "object.__getattribute__")=false:=by decide+kernel
 have F3:(onTheHeap (Value.ref C) && Value.builtin "BaseException.__getattribute__"==Value.builtin "object.__getattribute__")=false:=by rw[Q1];rfl
 repeat (any_goals (first|assumption|(with_reducible refine wb hx ?_;rw[hc])|(with_reducible refine CK hC hn FB.mro FB.ga.lookup ?_;rw[F4])|(with_reducible refine CK hC hn FB.mro FB.noGetattr ?_;rw[F5])|wp_step))
 refine JQ FB.ga.plain F.entry_bexc_ga (wpAny_check_ga_own FB hC .base hx hc (Qk FB hC hn jv hB hx hc si sj hA hv ?_))
 repeat (any_goals (first|assumption|wp_step))
theorem Tn{expr:Bool}(FB:ExcAttrBase B bm)
  (hC:h.get? C=some (excClassObj nm q C N bs bm true sn sub ab col dd k0 k1 k2 k3 k5 newId)) (hn:h.Ns N mN) (F4:mN "__getattribute__"=none) (F5:mN "__getattr__"=none) (jv:mN name=none)
  (hB:typeLookup (.type B) name=pure none) (hx:h.get? x=some o) (hc:o.cls=.ref C) (si:∀c,o.data≠.cls c) (sj:o.dict=some dx) (hA:h.Ns1 dx mA) (hv:mA name=some v) (hh:handedOut v=pure v) (hq:Q v ⟨h,g,d,t+1,os⟩):
  wpAny (model prog w) A (getAttr (.ref x) name expr) Q E ⟨h,g,d,t,os⟩:=by
 unfold getAttr
 repeat (any_goals (first|assumption|with_reducible apply aCn FB hC hn F4 F5 jv hB hx hc si sj hA hv hh|wp_step))
end
structure Er(K:Frag)(C fI:Addr):Prop where
 cls:∃nm q N bs sn sub ab col dd k0 k1 k2 k3 k5,K.lookup C=some (excClassObj nm q C N bs Ed true sn sub ab col dd k0 k1 k2 k3 k5 "Exception.__new__")/\nsOkIn K N=true/\nsIn K N "__init__"=some (some (.ref fI))/\
  nsIn K N "fault"=some none/\nsIn K N "__setattr__"=some none/\nsIn K N "__getattribute__"=some none/\nsIn K N "__getattr__"=some none
 fn:isFn K (.ref fI)=true
 kp:keepIn K (.ref C)=true
theorem aAv{N:Addr}{m:Str->Option Value}(X:K.In h)(G:h.Ns N m)(e:nsIn K N x=some (some v)):m x=some v:=by
 obtain⟨o,es,ep,ho,hd,_,hf⟩:=G
 unfold nsIn at e
 split at e
 ·rename_i q
  have z:=X _ _ q
  rw[ho] at z
  cases z
  cases hd
  split at e
  ·rename_i en he
   cases e
   rw[<-hf]
   unfold nsFind findBy
   rw[<-NV,he]
   rfl
  ·split at e<;>cases e
 ·cases e
theorem yZ:typeLookup (.type "Exception") "fault"=pure none:=by rw[EW,EX];kernel_rfl
theorem aCr(h:isFn K (.ref f)=true):∃o,K.lookup f=some o/\o.cls=.type "function":=by
 have h:((K.lookup f).map (·.cls)==some (.type "function"))=true:=h
 cases q:K.lookup f with
 |none=>rw[q] at h;cases h
 |some o=>
  rw[q] at h
  exact⟨o,rfl,Option.some.inj (cz.mp h)⟩
theorem cJ.there{o:HO}(x:cJ P w H h a o):∃ob,h.get? a=some ob:=by
 cases o with
 |lst xs=>obtain⟨_,_,_,_,e⟩:=x;exact⟨_,e⟩
 |tup xs=>obtain⟨_,_,_,o,e,_⟩:=x;exact⟨_,e⟩
 |dK aJ=>obtain⟨_,_,_,_,o,_,_,e,_⟩:=x;exact⟨_,e⟩
 |dT aJ=>obtain⟨_,_,_,_,o,_,_,e,_⟩:=x;exact⟨_,e⟩
 |set S n=>obtain⟨o,_,_,_,e,_⟩:=x;exact⟨_,e⟩
 |ins C dx fs=>obtain⟨_,_,_,e,_⟩:=x;exact⟨_,e⟩
 |own y=>exact x
 |xd fs=>obtain⟨_,⟨_,_,_,e,_⟩,_⟩:=x;exact⟨_,e⟩
 |rng lo hi=>obtain⟨_,_,_,e⟩:=x;exact⟨_,e⟩
 |frz ob u=>obtain⟨e,_⟩:=x;exact⟨_,e⟩
 |tbl ps=>exact⟨_,(show h.get? a=some _ from x)⟩
 |met f y=>exact⟨_,(show h.get? a=some _ from x)⟩
 |ext φ=>obtain⟨_,e,_⟩:=x;exact e
theorem lK.none_of(x:lK P w H h)(e:h.get? a=none):H a=none:=by
 cases q:H a with
 |none=>rfl
 |some o=>
  obtain⟨ob,z⟩:=(x a o q).there
  rw[e] at z;cases z
section
variable{o:HO}
theorem aQ.laidN(I:aQ X U σ H s)(k:∀b u,s.heap.get? b=some u->h'.get? b=some u)(hp:s.heap.get? a=none)(new:cJ X.prog X.w (upd H a o) h' a o):
  aQ X U σ (upd H a o) {s with heap:=h',toks:=t'}:=by
 have hn:=I.hok.none_of hp
 have ne:∀b u,s.heap.get? b=some u->b≠a:=λb u q z=>by rw[z,hp] at q;cases q
 refine I.un ⟨λb u q _ _ _=>k b u q,λb u q _ _ _=>⟨u.slots,k b u q⟩,λb u q n _=>by rw[aC (ne b u q)];exact n,λb u q _=>⟨u,k b u q⟩,
  λb xs q=>by rw[aC (aD q hn)];exact q,λb u xs q=>by rw[aC (aD q hn)];exact q,λb ps q=>⟨#[],by rw[aC (aD q hn),q];simp⟩⟩ λb u q=>?_
 by_cases hb:b=a
 ·subst hb;rw[aB] at q;cases q;exact new
 ·rw[aC hb] at q
  exact(I.hok b u q).stay (λc v _ z=>k c v z) (λc z=>by rw[aC (aD z hn)];exact z) λc xs z=>by rw[aC (aD z hn)];exact z
theorem aQ.untrack{Q3:List (Addr×Obj)}{Q4:St}{s0:Shared}(I:aQ X U σ H' s)(I0:aQ X Q3 Q4 H s0)(sub:∀b o,H b=some o->H' b=some o)
  (own:∀b a,H' b=some (.own a)->H b=some (.own a)) (tup:∀b xs,H' b=some (.tup xs)->H b=some (.tup xs)):aQ X U σ H s:=by
 have no:∀b,H' b=none->H b=none:=λb e=>by
  cases q:H b with
  |none=>rfl
  |some o=>rw[sub b o q] at e;cases e
 refine⟨I.ok,I.os,I.bare,⟨I.base.keep,I.base.slot,λb o e n hx=>no b (I.base.free b o e n hx),I.base.there,I0.base.tups,I0.base.frzs,I0.base.tbls⟩,I.loc,I.cell,no _ I.free,λx c e=>no c (I.freeC x c e),λp hp=>?_,λb o e=>?_,I.len⟩
 ·obtain⟨h1,h2,h3⟩:=I.pin p hp
  exact⟨h1,no _ h2,h3⟩
 ·exact(I.hok b o (sub b o e)).stay (λ_ _ _ q=>q) (λc q=>own c b q) λc xs q=>tup c xs q
end
def XO(C t e:Addr)(od:Option Addr):HO:=.ext λh=>h.get? e=some {cls:=.ref C,dict:=od,data:=.fields #[.ref t,.none,.none,.none,.bool false,.none]}
theorem XO.ok{t e:Addr}{od:Option Addr}(q:h.get? e=some {cls:=.ref C,dict:=od,data:=.fields #[.ref t,.none,.none,.none,.bool false,.none]}):cJ P w H h e (XO C t e od):=
 ⟨q,⟨_,q⟩,λ_ _ z k=>k _ z⟩
def aDo(C:Addr):Sp:=λvs H Q _=>∃e t n,vs=[.ref e,.int n]/\H e=some (XO C t e none)/\∀d,H d=none->d≠e->Q .non (upd (upd H d (.xd [("fault",.int n)])) e (XO C t e (some d)))
def sXF(C:Addr)(ta tv:TE):TS:=λD σ H=>tv σ H λy H1=>ta σ H1 λx H2=>∃e t n,y=.int n/\x=.ref e/\H2 e=some (XO C t e none)/\∀d,H2 d=none->d≠e->D.nx σ (upd (upd H2 d (.xd [("fault",.int n)])) e (XO C t e (some d)))
theorem Yc{o value:Expr}{mf:Pos}{tv:TE}{fI:Addr}(T:Er X.K C fI)(ha:PE X o ta)(hv:PE X value tv)(hs:swapsWith value (some (.Attribute o "fault" mf)) pos.line X.env=pure false):
  PS X (.Assign [.Attribute o "fault" mf] value pos) (sXF C ta tv):=by
 intro U s σ H D I h
 refine plainObj_wpAny_Assign_Attribute (cX (hv U s σ H _ I h) λu s1 ⟨y,H1,I1,ry,q⟩=>cX (ha U s1 σ H1 _ I1 q) λov s2 ⟨x,H2,I2,rx,e,t,n,ey,ex,ee,q2⟩=>?_) hs
 subst ex ey
 obtain rfl:ov=Value.ref e:=rx
 obtain⟨tk,rfl⟩:=(show ∃t,u=Value.int n t from ry)
 obtain⟨nm,qn,N,bs,sn,sub,ab,col,dd,k0,k1,k2,k3,k5,lk,wx,ni,nf,ns,ng,nh⟩:=T.cls
 have hC:=I2.kIn _ _ lk
 have hN:s2.heap.Ns N (s2.heap.nsMap N):=.of_isNs (isNs_of_in I2.kIn wx)
 obtain⟨obj,_,_⟩:=(show cJ X.prog X.w H2 s2.heap e (XO C t e none) from I2.hok e _ ee)
 obtain⟨hp,g,dr,wy,os⟩:=s2
 refine Jz F.store_Exception hC hN (ns_none_of I2.kIn hN ns) (ns_none_of I2.kIn hN nf) yZ obj rfl (λc z=>nomatch z) rfl λh' n8 A=>?_
 have uw:hp.objs.size≠e:=px (bg obj)
 have o8:H2 hp.objs.size=none:=I2.hok.fresh (ap _)
 refine⟨σ,_,?_,q2 hp.objs.size o8 uw⟩
 have nb:∀b (u:Obj),H2 b=none->b≠e:=λb u z y=>by rw[y,ee] at z;cases z
 have nd:∀b u,hp.get? b=some u->b≠hp.objs.size:=λb u z=>b9 (bg z)
 have other:∀b u,H2 b=some u->b≠e->upd (upd H2 hp.objs.size (.xd [("fault",.int n)])) e (XO C t e (some hp.objs.size)) b=some u:=λb u z y=>by
  rw[aC y,aC (aD z o8)];exact z
 refine I2.un (t':=n8) ⟨λb u z y _ _=>A.keep b u (nb b u y) z,λb u z y _ _=>⟨u.slots,A.keep b u (nb b u y) z⟩,λb u z y _=>by rw[aC (nb b u y),aC (nd b u z)];exact y,λb u z _=>?_,λb xs z=>other b _ z ?_,λb u xs z=>other b _ z ?_,λb ps z=>⟨#[],by rw[other b _ z (by rintro rfl;rw[ee] at z;cases z)];simp⟩⟩ λb u z=>?_
 ·by_cases y:b=e
  ·exact⟨_,by rw[y];exact A.obj⟩
  ·exact⟨u,A.keep b u y z⟩
 ·rintro rfl;rw[ee] at z;cases z
 ·rintro rfl;rw[ee] at z;cases z
 ·by_cases y:b=e
  ·subst y
   rw[aB] at z
   cases z
   exact XO.ok A.obj
  ·rw[aC y] at z
   by_cases y2:b=hp.objs.size
   ·subst y2
    rw[aB] at z
    cases z
    refine⟨_,A.ns,λf=>?_⟩
    show mI ((mU "fault" (V.int n) []).lookup f) (if f="fault" then some (Value.int n tk) else none)
    rw[oE]
    by_cases y3:f="fault"
    ·rw[af y3,af y3];exact⟨tk,rfl⟩
    ·rw[ae y3,ae y3];exact True.intro
   ·rw[aC y2] at z
    refine(I2.hok b u z).stay (λc v hc q=>A.keep c v ?_ q) (λc q=>other c _ q ?_) λc xs q=>other c _ q ?_
    ·rcases hc with rfl|hc
     ·exact y
     ·rintro rfl;rw[ee] at hc;cases hc
    ·rintro rfl;rw[ee] at q;cases q
    ·rintro rfl;rw[ee] at q;cases q
section
variable{nm q:Str}{N:Addr}{bs bm:List Value}{hdct:Bool}{sn:List Str}{sub:List Value}{ab:Bool}{col:Option Bool}{dd:Option Addr}{k0 k1 k2 k3 k5:Option Value}{newId:String}
theorem Ku{x:Sem Value}{Q:Flow->Shared->Prop}(sd:bm.contains (.type "BaseException")=true)(hh:A.handled=none)
  (h:wpAny M A x (λv s1=>∃e oe vs,v=.ref e/\s1.heap.get? C=some (excClassObj nm q C N bs bm hdct sn sub ab col dd k0 k1 k2 k3 k5 newId)/\s1.heap.get? e=some oe/\oe.cls=.ref C/\oe.data=.fields vs/\vs[1]?=some .none/\E (.ref e) s1) E s):
  wpAny M A (raiseStmt env (some x) none) Q E s:=by
 have Q6:(Value.ref C::bm).contains (.type "BaseException")=true:=by rw[List.contains_cons,sd,Bool.or_true]
 unfold raiseStmt
 refine ac (jq h (λv s1 h1=>?_) λ_ _ x=>x)
 obtain⟨e,oe,vs,rfl,hC,he,js,hd,h1,hE⟩:=h1
 obtain⟨hp,g,d,tk,os⟩:=s1
 repeat (first|(with_reducible refine wb he ?_;rw[js])|with_reducible refine wb hC ?_|(with_reducible refine wpAny_isSubtype_exc hC ?_;rw[Q6])|with_reducible refine j6 he hd h1 ?_|wp_step)
 exact wpAny_raiseNew_none hh hE
end
def aC3(E:XK):List V->Hp->Prop:=λvs H=>match vs with
 |[x]=>∃n,x=.int n/\E (.int n 0) none H
 |_=>False
def aC4(E:XK)(te:TE):TS:=λ_ σ H=>te σ H λv H1=>∃n,v=.int n/\E (.int n 0) none H1
theorem nO{fI:Addr}{E:XK}{np gf:Pos}(L:Tv C X E)(hc:X.calm=true)(T:Er X.K C fI)
  (G:bV X.prog X.w X.K X.mg X.base bU k fI fd ["self","fault"] (aDo C)) (hr:eX (k+1) X.A) (hg:Gl X x) (hm:X.mg x=some (.ref C)) (hb:eT X.K fd ["self","fault"] []) (he:PE X e te)
  (gn:(x==("__debug__":Str))=false:=by decide) (fc:starEach [e] X.env=(false,eval e X.env)::starEach [] X.env:=by rfl):
  PS X (.Raise (some (.Call (.Name x np) [e] [] gf)) none pos) (aC4 E te):=by
 intro U s σ H D I h
 have ha:PA X [e] (dP te gM):=aA he aE fc
 have h':dP te gM σ H (aC3 E):=h
 obtain⟨nm,qn,N,bs,sn,sub,ab,col,dd,k0,k1,k2,k3,k5,lk,wx,ni,nf,ns,ng,nh⟩:=id T.cls
 rw[arm_exec_Raise]
 refine ac (B8 (Ku (C:=C) (nm:=nm) (q:=qn) (N:=N) (bs:=bs) (bm:=Ed) (hdct:=true) (sn:=sn) (sub:=sub) (ab:=ab) (col:=col) (dd:=dd) (k0:=k0) (k1:=k1) (k2:=k2) (k3:=k3) (k5:=k5) (newId:="Exception.__new__")
  EY.hasBase (I.ok.hd hc) (ac (cX (Q:=λv s3=>∃ea oe vs,v=.ref ea/\s3.heap.get? C=some (excClassObj nm qn C N bs Ed true sn sub ab col dd k0 k1 k2 k3 k5 "Exception.__new__")/\s3.heap.get? ea=some oe/\oe.cls=.ref C/\oe.data=.fields vs/\vs[1]?=some .none/\X.xe (.ref ea) s3) ?_ λv s3 h3=>ac (B8 (ag h3))))))
 refine wpAny_Call_Name_kw (iT I hg hm ?_ gn)
 refine callWith_K (h₀:=X.base) I.ok.mod.kin T.kp (cX (ha gf U s σ H _ I h') λus s1 ⟨vs,H1,I1,r,q⟩=>⟨I1.kIn,?_⟩) fc rfl
 match vs,r,q with
 |[x1],.cons (b:=u) r1 .nil,q=>
  obtain⟨n,rfl,hE⟩:=q
  obtain⟨tk,rfl⟩:=(show ∃t,u=Value.int n t from r1)
  obtain⟨oI,Q7,Q8⟩:=aCr T.fn
  have hC:=I1.kIn _ _ lk
  have hN:s1.heap.Ns N (s1.heap.nsMap N):=.of_isNs (isNs_of_in I1.kIn wx)
  have B:=I1.below
  obtain⟨hp,g,dr,wy,os⟩:=s1
  refine wpAny_call_exc_init EY hC hN (aAv I1.kIn hN ni) (I1.kIn _ _ Q7) Q8 (λh1 ea hm=>?_)
  obtain⟨t,ht,WF,K2⟩:=hm.there
  have I2:aQ X U σ (upd H1 ea (XO C t ea none)) ⟨h1,g,dr,wy,os⟩:=I1.laidN (t':=wy) hm.keeps hm.new (XO.ok ht)
  refine AD (t8 (G.run (X.A.under (.builtin "type.__call__" ⟨.ref C::[.int n tk],[]⟩)) X.stack ⟨h1,g,dr,wy,os⟩ (upd H1 ea (XO C t ea none)) ⟨.ref ea::[.int n tk],[]⟩ [.ref ea,.int n tk] [.ref ea,.int n]
   (λv H2=>v=.non/\∃d,d≠ea/\H1 d=none/\H2=upd (upd (upd H1 ea (XO C t ea none)) d (.xd [("fault",.int n)])) ea (XO C t ea (some d))) E0 (hr.make C [.int n tk] []) (I2.env0.make C [.int n tk] [])
   (hb _ [.ref ea,.int n tk] I2.kIn rfl) (.cons rfl (.cons ⟨tk,rfl⟩ .nil)) ⟨ea,t,n,rfl,aB,λd hd uw=>⟨rfl,d,uw,by rw[aC uw] at hd;exact hd,rfl⟩⟩) λr s' i4=>?_)
  cases r with
  |error e=>exact False.elim i4
  |ok fl=>
   cases fl with
   |ret u=>
    obtain⟨v,H',f9,A4,un,hok,rv,ev,d,uw,o8,hH⟩:=i4
    subst ev
    have I3:aQ X U σ H' s':=I2.call' (ch:=[]) f9 un hok A4 (λ_ z=>nomatch z)
    have K3:=(show cJ X.prog X.w H' s'.heap ea (XO C t ea (some d)) from I3.hok ea _ (by rw[hH];exact aB)).1
    refine⟨rv,ea,_,_,rfl,I3.kIn _ _ lk,K3,rfl,rfl,rfl,?_⟩
    have K4:H1 ea=none:=I1.hok.none_of hm.new
    have DI:H' d=some (.xd [("fault",.int n)]):=by rw[hH,aC uw,aB]
    have K5:H' ea=some (XO C t ea (some d)):=by rw[hH];exact aB
    have mq:∀b,b≠ea->b≠d->H' b=H1 b:=λb z1 z2=>by rw[hH,aC z1,aC z2,aC z1]
    have K6:h1.get? d=none:=by
     cases z:h1.get? d with
     |none=>rfl
     |some ob=>
      have y:=un.free d ob z (by rw[aC uw];exact o8) (by simp)
      rw[DI] at y;cases y
    have qt:hp.get? d=none:=by
     cases z:hp.get? d with
     |none=>rfl
     |some ob=>rw[hm.keeps d ob z] at K6;cases K6
    have I4:aQ X U σ H1 s':=I3.untrack I1 (λb o z=>by rw[mq b (aD z K4) (aD z o8)];exact z)
     (λb a z=>by rw[<-mq b (by rintro rfl;rw[K5] at z;cases z) (by rintro rfl;rw[DI] at z;cases z)];exact z)
     (λb a z=>by rw[<-mq b (by rintro rfl;rw[K5] at z;cases z) (by rintro rfl;rw[DI] at z;cases z)];exact z)
    obtain⟨mA,A5,rel⟩:=(show cJ X.prog X.w H' s'.heap d (.xd [("fault",.int n)]) from I3.hok d _ DI)
    exact L.new U σ H1 s' ea n hp I4 B (λb o z=>un.there b o (hm.keeps b o z) (by simp)) ⟨⟨_,_,d,mA,K3,rfl,rfl,rfl,rfl,A5,rel,o8,qt,uw⟩,K4,hm.new⟩ hE
   |next=>exact False.elim i4
   |brk=>exact False.elim i4
   |cont=>exact False.elim i4
abbrev Cx.tryIn(X:Cx)(xe:Value->Shared->Prop)(pn:List (Addr×Obj)):Cx:={X with xe:=xe,pn:=pn}
abbrev Cx.inH(X:Cx)(ea:Addr):Cx:={X with A:=X.A.mark (some (.ref ea)),calm:=false,xe:=λ_ _=>False}
section
variable{wj:List (Addr×Obj)}{xe:Value->Shared->Prop}{ea:Addr}
theorem Cx.Ok.tryIn(ok:X.Ok)(xe:Value->Shared->Prop)(pn:List (Addr×Obj)):(X.tryIn xe pn).Ok:=
 ⟨ok.mod,ok.kind,ok.glob,ok.blt,ok.above,ok.inj,ok.has,ok.cab,ok.hd,ok.frames,ok.stk,ok.exf,ok.bs,ok.bsz,ok.noex,ok.exfs,ok.funs,ok.frf⟩
theorem Cx.Ok.inH(ok:X.Ok)(ea:Addr):(X.inH ea).Ok:=
 ⟨ok.mod,ok.kind,ok.glob,ok.blt,ok.above,ok.inj,ok.has,ok.cab,(λz=>nomatch (show false=true from z)),ok.frames,ok.stk,ok.exf,ok.bs,ok.bsz,ok.noex,ok.exfs,ok.funs,ok.frf⟩
theorem aQ.tryIn(I:aQ X U σ H s)(xe:Value->Shared->Prop):aQ (X.tryIn xe (X.pn++U)) [] σ H s:=
 ⟨I.ok.tryIn _ _,I.os,I.bare,I.base,I.loc,I.cell,I.free,I.freeC,λp hp=>I.pin p (by rw[fh] at hp;exact hp),I.hok,I.len⟩
theorem aQ.untry(ok:X.Ok)(I:aQ (X.tryIn xe (X.pn++U)) wj σ H s):aQ X U σ H s:=
 ⟨ok,I.os,I.bare,I.base,I.loc,I.cell,I.free,I.freeC,λp hp=>I.pin p (lx _ hp),I.hok,I.len⟩
theorem aQ.inH(I:aQ X U σ H s)(ea:Addr):aQ (X.inH ea) U σ H s:=⟨I.ok.inH ea,I.os,I.bare,I.base,I.loc,I.cell,I.free,I.freeC,I.pin,I.hok,I.len⟩
theorem aQ.outH(ok:X.Ok)(I:aQ (X.inH ea) U σ H s):aQ X U σ H s:=⟨ok,I.os,I.bare,I.base,I.loc,I.cell,I.free,I.freeC,I.pin,I.hok,I.len⟩
theorem SP.untry{f:Flow}(ok:X.Ok)(h:SP (X.tryIn xe (X.pn++U)) wj D f s):SP X U D f s:=by
 cases f with
 |next=>obtain⟨ah,H',I,q⟩:=h;exact⟨ah,H',I.untry ok,q⟩
 |brk=>obtain⟨ah,H',I,q⟩:=h;exact⟨ah,H',I.untry ok,q⟩
 |cont=>obtain⟨ah,H',I,q⟩:=h;exact⟨ah,H',I.untry ok,q⟩
 |ret u=>obtain⟨v,ah,H',I,r,q⟩:=h;exact⟨v,ah,H',I.untry ok,r,q⟩
theorem SP.outH{f:Flow}(ok:X.Ok)(h:SP (X.inH ea) U D f s):SP X U D f s:=by
 cases f with
 |next=>obtain⟨ah,H',I,q⟩:=h;exact⟨ah,H',I.outH ok,q⟩
 |brk=>obtain⟨ah,H',I,q⟩:=h;exact⟨ah,H',I.outH ok,q⟩
 |cont=>obtain⟨ah,H',I,q⟩:=h;exact⟨ah,H',I.outH ok,q⟩
 |ret u=>obtain⟨v,ah,H',I,r,q⟩:=h;exact⟨v,ah,H',I.outH ok,r,q⟩
theorem vA{Q:Shared->Prop}{s':Shared}{n:Int}(fc:X.stack=X.env::X.outer)(jj:X.env.frame=some X.env.locals)(I:aQ X U σ H s)(f9:s'.os=s.os)(hb:AllBare s'.gens)
  (un:Un (Aj X.stack) [] H H' s.heap s'.heap) (hok:lK X.prog X.w H' s'.heap) (fl:uV C H' s'.heap s.heap ea n)
  (h:∀s3,aQ X U σ H' s3->uV C H' s3.heap s.heap ea n->Q s3):
  wpAny (model X.prog X.w) X.A (noteFrame (.ref ea) X.env) (λ_ s2=>wpAny (model X.prog X.w) X.A (setFlight (.ref ea) none) (λ_ s3=>Q s3) E s2) E s':=by
 have I':=I.call' (ch:=[]) f9 un hok hb (λ_ z=>nomatch z)
 have B:=I.below
 obtain⟨T,x,mj,DF,DG,oT,ts,t1,t2,t3⟩:=fl
 obtain⟨oe,vs,d,mA,h1,h2,h3,h4,h5,h6,h7,h8,h9,di⟩:=id x.at_
 have fe:Aj X.stack=(X.env::X.outer).filterMap (·.frame):=by rw[fc];rfl
 refine Bh (outer:=X.outer) (base:=X.base) (oeT:=0) (by rw[I'.ok.frames,fc]) (by rw[<-fc];exact I'.stack) jj h1 h4 h5 mj t1 t2 t3 λh' T' Nt=>?_
 rw[<-fe] at Nt
 have I2:=I'.noted Nt B x.lo DF x.he DG
 have A3:=Xn.noted (C:=C) I' Nt B (λb o q=>un.there b o q (by simp)) x (λo es ep q z=>by rw[t1] at q;cases q;rw[t2] at z;cases z)
 exact h _ I2 A3
theorem uJ{h0:Heap}{n:Int}{Q:Unit->Shared->Prop}(fl:uV C H s.heap h0 ea n)(h:Q () s):wpAny M A (setFlight (.ref ea) none) Q E s:=by
 obtain⟨T,x,mj,DF,DG,oT,ts,t1,t2,t3⟩:=fl
 obtain⟨oe,vs,d,mA,h1,h2,h3,h4,h5,h6,h7,h8,h9,di⟩:=id x.at_
 refine wpAny_setFlight_none h1 h4 h5 t1 t2 (wa.mp t3).1 ?_
 rw[Heap.update_setField_same s.heap T oT ts 3 .none t1 t2 t3]
 exact h
end
def aHr(n:Nat)(tb:XK->TS)(ts:TS):TS:=λD σ H=>tb (λ_ _ H'=>∀ah:St,ah.length=n->ts D ah H') D σ H
theorem aDb{fI:Addr}{np F6:Pos}{body:List Stmt}{b0:Stmt}{suite:List Stmt}{tb:XK->TS}{ts:TS}(T:Er X.K C fI)(fc:X.stack=X.env::X.outer)(jj:X.env.frame=some X.env.locals)(hg:Gl X x)(hm:X.mg x=some (.ref C))
  (hb:∀xe pn E',jC (jN C X.prog X.w) (X.tryIn xe pn) E'->Ce (X.tryIn xe pn) body (tb E')) (hs:∀ea,Ce (X.inH ea) (b0::suite) ts) (gn:(x==("__debug__":Str))=false:=by decide):
  PS X (.Try body [.ExceptHandler (some (.Name x np)) none (b0::suite) F6] [] [] pos) (aHr X.N.length tb ts):=by
 intro U s σ H D I h
 have ok:=I.ok
 refine wpAny_Try_except (cX (hb _ (X.pn++U) _ ?_ [] s σ H D (I.tryIn _) h) λf s1 q=>?_)
 ·intro wj ah H1 s1 e s' I1 ⟨ea,n,H',he,f9,A4,un,hok,fl,hE⟩
  subst he
  refine vA fc jj (I1.untry ok) f9 A4 un hok fl λs3 I3 A6=>?_
  obtain⟨nm,qn,N,bs,sn,sub,ab,col,dd,k0,k1,k2,k3,k5,lk,wx,ni,nf,ns,ng,nh⟩:=id T.cls
  refine wpAny_handleBy_cons (OE (iT (X:=X.inH ea) (I3.inH ea) hg hm ?_ gn)) (λz=>nomatch z)
  obtain⟨oe,vs,d,mA,h1,h2,h3,h4,h5,h6⟩:=A6.choose_spec.1.at_
  have hC:=I3.kIn _ _ lk
  obtain⟨hp,g,dr,wy,os⟩:=s3
  refine OF hC h1 h2 EY.hasBase ?_
  refine codeAny_handlers_suite (uJ A6 ?_)
  exact jq (hs ea U _ ah H' D (I3.inH ea) (hE ah I3.len)) (λf s4 q=>q.outH ok) λ_ _ z=>False.elim z
 ·have q':=q.untry ok
  cases f with
  |next=>exact yc q'
  |brk=>exact q'
  |cont=>exact q'
  |ret u=>exact q'
section
variable{h0:Heap}{o:HO}
theorem aQ.track(I:aQ X U σ H s)(B:Gb X U h0)(hn:h0.get? a=none)(hH:H a=none)(ok:cJ X.prog X.w (upd H a o) s.heap a o):aQ X U σ (upd H a o) s:=by
 refine⟨I.ok,I.os,I.bare,⟨I.base.keep,I.base.slot,λb ob e n hx=>?_,I.base.there,λb xs e=>?_,λb ob xs e=>?_,λb ps e=>?_⟩,I.loc,I.cell,?_,λx c e=>?_,λp hp=>?_,λb u e=>?_,I.len⟩
 ·rw[aC (eR (B.s0 b ob e hx) hn)]
  exact I.base.free b ob e n hx
 ·have e:=I.base.tups b xs e
  rw[aC (aD e hH)];exact e
 ·have e:=I.base.frzs b ob xs e
  rw[aC (aD e hH)];exact e
 ·obtain⟨m,e⟩:=I.base.tbls b ps e
  exact⟨m,by rw[aC (aD e hH)];exact e⟩
 ·rw[aC (eR B.loc hn)];exact I.free
 ·rw[aC (eR (B.cell x c e) hn)];exact I.freeC x c e
 ·obtain⟨h1,h2,h3⟩:=I.pin p hp
  exact⟨h1,by rw[aC (eR (B.pin p hp) hn)];exact h2,h3⟩
 ·by_cases hb:b=a
  ·subst hb;rw[aB] at e;cases e;exact ok
  ·rw[aC hb] at e
   exact(I.hok b u e).stay (λ_ _ _ q=>q) (λc q=>by rw[aC (aD q hH)];exact q) λc xs q=>by rw[aC (aD q hH)];exact q
theorem aQ.forget{m':Str->Option Value}(I:aQ X U σ H s)(hn:h'.Ns X.env.locals m')(hs:Heap.SameBut X.env.locals s.heap h'):aQ X U (List.replicate X.N.length none) H {s with heap:=h',toks:=t'}:=by
 have old:∀b ob,X.s_0.heap.get? b=some ob->b≠X.env.locals:=λb ob e=>b9 (iy (bg e) I.ok.above)
 refine⟨I.ok,I.os,I.bare,⟨λb ob e n hb hx=>(hs.2 b (old b ob e)).trans (I.base.keep b ob e n hb hx),λb ob e n hb hx=>?_,I.base.free,λb ob e hx=>?_,I.base.tups,I.base.frzs,I.base.tbls⟩,⟨_,hn,λj y v e1 e2 e3=>?_⟩,λy c e=>?_,I.free,I.freeC,λp hp=>?_,λb ob e=>?_,by simp⟩
 ·obtain⟨sl,e1⟩:=I.base.slot b ob e n hb hx
  exact⟨sl,(hs.2 b (old b ob e)).trans e1⟩
 ·obtain⟨o',e1⟩:=I.base.there b ob e hx
  exact⟨o',(hs.2 b (old b ob e)).trans e1⟩
 ·rw[NW] at e2
  split at e2<;>cases e2
 ·obtain⟨w',z⟩:=I.cell y c e
  exact⟨w',z.sameBut hs (I.cne y c e)⟩
 ·obtain⟨e,n,ne,nf,d⟩:=I.pin p hp
  exact⟨(hs.2 p.1 ne).trans e,n,ne,nf,d⟩
 ·refine(I.hok b ob e).stay (λc w' hc q=>(hs.2 c ?_).trans q) (λ_ q=>q) λ_ _ q=>q
  rintro rfl
  rcases hc with rfl|hc
  ·rw[I.free] at e;cases e
  ·rw[I.free] at hc;cases hc
end
def XR(C d e:Addr):HO:=.ext λh=>∃oe vs,h.get? e=some oe/\oe.cls=.ref C/\oe.dict=some d/\oe.data=.fields vs
theorem XR.ok{e:Addr}{oe:Obj}{vs:Array Value}(h1:h.get? e=some oe)(h2:oe.cls=.ref C)(h3:oe.dict=some d)(h4:oe.data=.fields vs):cJ P w H h e (XR C d e):=
 ⟨⟨oe,vs,h1,h2,h3,h4⟩,⟨_,h1⟩,λ_ _ ⟨oe,vs,z,r⟩ k=>⟨oe,vs,k _ z,r⟩⟩
def aFp(C:Addr)(ta:TE):TE:=fun σ H Q=>ta σ H λx H1=>∃e d n,x=.ref e/\H1 e=some (XR C d e)/\H1 d=some (.xd [("fault",.int n)])/\Q (.int n) H1
theorem Zu{fI:Addr}(T:Er X.K C fI)(he:PE X e ta)(hb:attributeBase e "fault" X.env (eval e X.env)=eval e X.env):PE X (.Attribute e "fault" pos) (aFp C ta):=by
 intro U s σ H Q I h
 refine Mp hb (cX (he U s σ H _ I h) λu s1 ⟨x,H1,I1,rx,ea,d,n,ex,h1,h2,q⟩=>?_)
 subst ex
 obtain rfl:u=Value.ref ea:=rx
 obtain⟨nm,qn,N,bs,sn,sub,ab,col,dd,k0,k1,k2,k3,k5,lk,wx,ni,nf,ns,ng,nh⟩:=id T.cls
 have hC:=I1.kIn _ _ lk
 have hN:s1.heap.Ns N (s1.heap.nsMap N):=.of_isNs (isNs_of_in I1.kIn wx)
 obtain⟨⟨oe,vs,g1,g2,g3,g4⟩,_,_⟩:=(show cJ X.prog X.w H1 s1.heap ea (XR C d ea) from I1.hok ea _ h1)
 obtain⟨mA,A5,rel⟩:=(show cJ X.prog X.w H1 s1.heap d (.xd [("fault",.int n)]) from I1.hok d _ h2)
 obtain⟨uf,hf,n8,rfl⟩:=mI.some_of (v:=V.int n) (o:=mA "fault") (rel "fault")
 have I2:=I1.tok (s1.toks+1)
 obtain⟨hp,g,dr,wy,os⟩:=s1
 exact Tn F.attrBase_Exception hC hN (ns_none_of I1.kIn hN ng) (ns_none_of I1.kIn hN nh) (ns_none_of I1.kIn hN nf) yZ g1 g2 (λc z=>by rw[g4] at z;cases z) g3 A5 hf rfl ⟨.int n,H1,I2,⟨_,rfl⟩,q⟩
def aEa(C:Addr)(i n:Nat)(tb:XK->TS)(ts:TS):TS:=λD σ H=>tb (λv _ H'=>∃f,v=.int f 0/\∀(ah:St)(e d:Addr),ah.length=n->H' e=none->H' d=none->d≠e->
 ts {nx:=λ_ _=>False,rt:=D.rt} (ah.set i (some (.ref e))) (upd (upd H' d (.xd [("fault",.int f)])) e (XR C d e))) D σ H
theorem Ur{fI:Addr}{y:Str}{np F6:Pos}{body:List Stmt}{b0:Stmt}{suite:List Stmt}{tb:XK->TS}{ts:TS}(T:Er X.K C fI)(fc:X.stack=X.env::X.outer)(jj:X.env.frame=some X.env.locals)(hg:Gl X x)(hm:X.mg x=some (.ref C))
  (hN:X.N.Nodup) (hi:X.N[i]?=some y) (hy:X.env.kindOf y=some .local)
  (hb:∀xe pn E',jC (jN C X.prog X.w) (X.tryIn xe pn) E'->Ce (X.tryIn xe pn) body (tb E')) (hs:∀ea,Ce (X.inH ea) (b0::suite) ts) (gn:(x==("__debug__":Str))=false:=by decide):
  PS X (.Try body [.ExceptHandler (some (.Name x np)) (some y) (b0::suite) F6] [] [] pos) (aEa C i X.N.length tb ts):=by
 intro U s σ H D I h
 have ok:=I.ok
 refine wpAny_Try_except (cX (hb _ (X.pn++U) _ ?_ [] s σ H D (I.tryIn _) h) λf s1 q=>?_)
 ·intro wj ah H1 s1 e s' I1 ⟨ea,n,H',he,f9,A4,un,hok,fl,fn,AV,hE⟩
  subst he
  obtain rfl:n=fn:=by cases AV;rfl
  have B:=(I1.untry ok).below
  refine vA fc jj (I1.untry ok) f9 A4 un hok fl λs3 I3 A6=>?_
  obtain⟨nm,qn,N,bs,sn,sub,ab,col,dd,k0,k1,k2,k3,k5,lk,wx,ni,nf,ns,ng,nh⟩:=id T.cls
  refine wpAny_handleBy_cons (OE (iT (X:=X.inH ea) (I3.inH ea) hg hm ?_ gn)) (λz=>nomatch z)
  have Q9:=A6
  obtain⟨TT,xn,_⟩:=Q9
  obtain⟨oe,vs,d,mA,h1,h2,h3,h4,h5,h6,h7,h8,h9,di⟩:=id xn.at_
  have hC:=I3.kIn _ _ lk
  have It:aQ X U ah (upd (upd H' d (.xd [("fault",.int n)])) ea (XR C d ea)) s3:=by
   have J:=I3.track (a:=d) (o:=.xd [("fault",.int n)]) B h9 h8 ?_
   ·exact J.track (a:=ea) (o:=XR C d ea) B xn.lo (by rw[aC (ax di)];exact xn.he) (XR.ok h1 h2 h3 h4)
   ·exact⟨mA,h6,h7⟩
  obtain⟨hp,g,dr,wy,os⟩:=s3
  refine OF hC h1 h2 EY.hasBase ?_
  refine codeAny_handlers_suite_as (uJ A6 ?_)
  refine xO (X:=X.inH ea) (v:=.ref ea) (It.inH ea) hN hi (.inl hy) rfl (λs4 I4=>?_) (.inr hy)
  refine jq (hs ea U _ _ _ _ I4 (hE ah ea d I3.len xn.he h8 di)) (λf s5 q=>?_) λ_ _ z=>False.elim z
  cases f with
  |next=>obtain⟨_,_,_,z⟩:=q;exact False.elim z
  |brk=>obtain⟨_,_,_,z⟩:=q;exact False.elim z
  |cont=>obtain⟨_,_,_,z⟩:=q;exact False.elim z
  |ret u=>
   obtain⟨v,C5,H6,I6,r,q⟩:=q
   have I6:=I6.outH ok
   obtain⟨m,zg,_⟩:=id I6.loc
   refine wpAny_nameGoes hy zg (by rw[ok.kind];rfl) λh' m' y4 wz=>?_
   exact⟨v,_,H6,I6.forget y4 wz,r,q⟩
 ·have q':=q.untry ok
  cases f with
  |next=>exact yc q'
  |brk=>exact q'
  |cont=>exact q'
  |ret u=>exact q'
structure iI(k:Nat)(A:Around):Prop where
 dp:A.depth+3 * k+5<recursionLimit
 un:A.units+16 * k+200<cLine
theorem eX.n(r:eX k A):iI k A:=⟨r.dp,r.un⟩
theorem iI.mark(r:iI k A)(h:Option Value):iI k (A.mark h):=⟨r.dp,r.un⟩
theorem iI.make(r:iI (k+1) A)(C:Addr)(us:List Value)(kw:List (Str×Value)):iI k (A.under (.builtin "type.__call__" ⟨.ref C::us,kw⟩)):=
 ⟨by have:=r.dp;rw[xB];omega,by have:=r.un;rw[xZ];omega⟩
theorem iI.deeper(r:iI (k+1) A)(env:Env):iI k (A.deeper env):=
 ⟨by have:=r.dp;show A.depth+1+3 * k+5<_;omega,by have:=r.un;show A.units+3+16 * k+200<_;omega⟩
theorem iI.depth(r:iI k A):A.depth<recursionLimit:=by have:=r.dp;omega
structure Bt(P:Program)(w:World)(K:Frag)(mg:Str->Option Value)(base:Heap)(CX:Ji)(k:Nat)(f:Addr)(fd:FuncData)(ps:List Str)(sp:Sp):Prop where
 len:∀vs H Q E,sp vs H Q E->vs.length=ps.length
 run:∀(A:Around)(outer:List Env)(s:Shared)(H:Hp)(args:Args)(us:List Value)(vs:List V)(Q:VK)(E:XK),iI k A->yY P w K mg base A outer s H->BindsTo s fd args (ps.zip us)->bO vs us->sp vs H Q E->
  codeAny (model P w) A (.call (.ref f) args) (Cr9 CX outer P w H s Q E) s
abbrev cxN(P:Program)(w:World)(K:Frag)(mg:Str->Option Value)(base:Heap)(N:List Str)(aq:Str)(scope:Scope)(f:Addr)(cd:Value)(A:Around)(outer:List Env)(s:Shared)(H:Hp)(E:XK):Cx:=
 {Eh bU P w K mg base N aq scope f cd A outer s H E with calm:=false}
theorem fH.okN{st:Stmt}{N:List Str}(F:fH K x aq st f fd)(S:aN N ps (aG st))
  (len:∀vs H Q E,sp vs H Q E->vs.length=ps.length)
  (wp:∀(ak:Value)(A:Around)(outer:List Env)(s:Shared)(H:Hp)(vs:List V)(Q:VK)(E:XK),iI k (A.deeper (envOfC aq (aG st) s.heap.objs.size f ak))->sp vs H Q E->
   ∃t,Ce (cxN P w K mg base N aq (aG st) f ak A outer s H E).nox (dZ st) t/\t {nx:=λ_ H'=>Q .non H',rt:=Q} (mS N vs) H):Bt P w K mg base bU (k+1) f fd ps sp:=by
 obtain⟨oc,od,kV,br,pm,an,ak,ct,de,rfl,lk,jb⟩:=F.ex
 refine⟨len,λA outer s H args us vs Q E hr e0 hb r kf=>?_⟩
 have hl:=len _ _ _ _ kf
 have KX:K.In s.heap:=e0.mod.kin.keeps λb o e=>(e0.bs b o e).1
 have lim:s.heap.NoLimit:=e0.mod.nolimit.keeps λb o e=>(e0.bs b o e).1
 have FV:∀y∈ps.zip us,(aG st).names.lookup y.1=some .local\/((aG st).names.lookup y.1=some .cell/\((cellsFrom (s.heap.objs.size+1) (aG st).names []).lookup y.1).isSome=true):=λ⟨n,v⟩ hy=>by
  rcases S.par n (B4 hy).1 with q|q
  ·exact .inl q
  ·exact .inr ⟨q,cellsFrom_some _ _ _ (.inl q)⟩
 refine NY hr.depth (KX _ _ lk) rfl S.co S.gen rfl (codeRec_of KX jb) (hb _ _ _ _ ?_)
 refine NZ S.kind FV λenv he s1 x=>?_
 subst he
 refine⟨lim.keeps x.toInCall.keep,codeAny_func ?_⟩
 obtain⟨t,ht,hq⟩:=wp ak A outer s H vs Q E (hr.deeper _) kf
 have I0:=Ah (CX:=bU) (P:=P) (w:=w) (K:=K) (mg:=mg) (base:=base) (N:=N) (aq:=aq) (f:=f) (cd:=ak) (A:={A with handled:=none}) (outer:=outer) (H:=H) (E:=E) S rfl ⟨e0.frames,e0.mod,e0.bs,e0.bsz,e0.funs,e0.frf,e0.hok,e0.bare⟩ hl r x
 have ok:=I0.ok
 have I:aQ (cxN P w K mg base N aq (aG st) f ak A outer s H E).nox [] (mS N vs) H s1:=
  ⟨⟨ok.mod,ok.kind,ok.glob,ok.blt,ok.above,ok.inj,ok.has,ok.cab,(λz=>nomatch (show false=true from z)),ok.frames,ok.stk,ok.exf,ok.bs,ok.bsz,ok.noex,ok.exfs,ok.funs,ok.frf⟩,I0.os,I0.bare,I0.base,I0.loc,I0.cell,I0.free,I0.freeC,I0.pin,I0.hok,I0.len⟩
 refine jq (ht [] s1 (mS N vs) H _ I hq) (λfl s' hs=>?_) λe s' hs=>False.elim hs
 have fin:∀{ah:St}{H':Hp}{v:V}{u:Value},aQ (cxN P w K mg base N aq (aG st) f ak A outer s H E).nox [] ah H' s'->cB v u->Q v H'->CE outer P w H s Q u s':=
  λ{ah H' v u} J rv q=>⟨v,H',J.os,J.bare,J.base,J.hok,rv,q⟩
 cases fl with
 |ret u=>
  obtain⟨v,ah,H',J,rv,q⟩:=hs
  exact fin J rv q
 |next=>
  obtain⟨ah,H',J,q⟩:=hs
  exact fin (v:=V.non) (u:=Value.none) J rfl q
 |brk=>
  obtain⟨_,_,_,q⟩:=hs
  exact False.elim q
 |cont=>
  obtain⟨_,_,_,q⟩:=hs
  exact False.elim q
section
variable{p:Pos}{es:List Expr}{t:TA}
theorem nJ(M:Mk X.K C f)(F:Bt X.prog X.w X.K X.mg X.base bU k f fd ps sp)(hr:iI (k+1) X.A)(hg:Gl X x)(hm:X.mg x=some (.ref C))(hb:eT X.K fd ps [])
  (ha:PA X (e::es) t) (gn:(x==("__debug__":Str))=false:=by decide) (he:starEach (e::es) X.env=(false,eval e X.env)::starEach es X.env:=by rfl) (fv:(backTo pos (starEach es X.env)).any (·.1)=false:=by rfl):
  PE X (.Call (.Name x p) (e::es) [] pos) (Na C sp [] E0 t):=by
 intro U s σ H Q I h
 refine wpAny_Call_Name_kw (iT I hg hm ?_ gn)
 refine callWith_K (h₀:=X.base) I.ok.mod.kin M.kp (cX (ha pos U s σ H _ I h) λus s1 ⟨vs,H1,I1,r,q⟩=>⟨I1.kIn,?_⟩) he fv
 have hq:=q (s1.heap.objs.size+1) s1.heap.objs.size (I1.hok.fresh (AE _)) (I1.hok.fresh (ap _)) (b9 (k8 _))
 rw[fh] at hq
 have I2:=aQ.made (C:=C) I1
 have r2:bO (V.ref (s1.heap.objs.size+1)::vs) (Value.ref (s1.heap.objs.size+1)::us):=.cons rfl r
 have hl:(Value.ref (s1.heap.objs.size+1)::us++[]).length=ps.length:=by
  have e:=r2.length
  rw[F.len _ _ _ _ hq] at e
  rw[fh]
  exact e.symm
 have j1:=hb _ (Value.ref (s1.heap.objs.size+1)::us) I2.kIn hl
 rw[fh] at j1
 refine AD (Hw (f:=f) I1.kIn M.makes M.init (cz.mp M.fn) (t8 (F.run _ X.stack _ _ ⟨Value.ref (s1.heap.objs.size+1)::us,[]⟩ (Value.ref (s1.heap.objs.size+1)::us) _ _ E0 (hr.make C us [])
  (I2.env0.make C us []) j1 r2 hq) λr s' i4=>?_))
 cases r with
 |error e=>exact False.elim i4
 |ok fl=>
  cases fl with
  |ret u=>
   obtain⟨v,H',I3,rv,ev,q3⟩:=I2.after i4
   subst ev
   exact⟨rv,⟨V.ref (s1.heap.objs.size+1),H',I3,rfl,q3⟩⟩
  |next=>exact False.elim i4
  |brk=>exact False.elim i4
  |cont=>exact False.elim i4
end
theorem fH.okX{st:Stmt}{N:List Str}(F:fH K x aq st f fd)(S:aN N ps (aG st))
  (len:∀vs H Q E,sp vs H Q E->vs.length=ps.length)
  (wp:∀(ak:Value)(A:Around)(outer:List Env)(s:Shared)(H:Hp)(vs:List V)(Q:VK)(E:XK),eX k (A.deeper (envOfC aq (aG st) s.heap.objs.size f ak))->sp vs H Q E->
   ∃t,Ce (Eh (jN C P w) P w K mg base N aq (aG st) f ak A outer s H E) (dZ st) t/\t {nx:=λ_ H'=>Q .non H',rt:=Q} (mS N vs) H):bV P w K mg base (jN C P w) (k+1) f fd ps sp:=by
 obtain⟨oc,od,kV,br,pm,an,ak,ct,de,rfl,lk,jb⟩:=F.ex
 exact aBu lk jb S len λA outer s H vs Q E hr kf=>wp ak A outer s H vs Q E hr kf
theorem jT(n:Int){p pp:Pos}(hm:X.mg "ord"=none)(hg:Gl X "ord":=by rfl)(hl:x.length=1:=by decide+kernel)(hn:((x.cps.getD 0 0:Nat):Int)=n:=by decide+kernel)
  (he:starEach [.Constant (.str x) j pp] X.env=(false,eval (.Constant (.str x) j pp) X.env)::starEach [] X.env:=by rfl):PE X (.Call (.Name "ord" p) [.Constant (.str x) j pp] [] pos) (tC (.int n)):=by
 intro U s σ H Q I h
 refine bS (r:=λxs H Q=>∃x,xs=[.str x]/\x.length=1/\Q (.int (x.cps.getD 0 0:Nat)) H) yU hg hm boot_ord (aA eW aE he) (by decide) (by decide) he rfl U s σ H Q I ?_
 refine⟨x,rfl,hl,?_⟩
 rw[hn]
 exact h
end L2
namespace Br1
open PySem PySem.Spec PyProof.Rows L2
variable{K:Frag}
def kM(b:Int):Bool:=decide (97<=b) && decide (b<=122)
def kG(b:Int):Bool:=decide (48<=b) && decide (b<=57)
def pY:Sp:=λvs H Q _=>∃b:Int,vs=[.int b]/\Q (.bl (kM b)) H
def oQ:Sp:=λvs H Q _=>∃b:Int,vs=[.int b]/\Q (.bl (kG b)) H
theorem Fw:aN ["byte"] ["byte"] (aG oO):=⟨rfl,rfl,rfl,by decide+kernel,rfl,by decide+kernel,by decide+kernel⟩
theorem Fp(F:fH K "is_letter" "is_letter" oO f fd)(lq:mg "ord"=none):bV P w K mg base bU 1 f fd ["byte"] pY:=by
 refine F.ok Fw (λvs H Q E h=>?_) (λak A outer s H vs Q E hr h=>?_)
 ·obtain⟨b,rfl,_⟩:=h
  rfl
 ·obtain⟨b,rfl,k⟩:=h
  refine⟨_,aH (aU (nS qS qS (jT 97 lq) (pv 0) (jT 122 lq))),?_⟩
  refine⟨_,rfl,_,_,rfl,rfl,_,rfl,cE (λh1=>⟨_,_,rfl,rfl,?_⟩) (λh1=>?_)⟩
  ·have e:kM b=decide (b<=122):=by unfold kM;rw[h1,i9]
   rw[e] at k
   exact k
  ·have e:kM b=false:=by unfold kM;rw[OG h1,ly]
   rw[e] at k
   exact k
theorem La:aN ["byte"] ["byte"] (aG sL):=⟨rfl,rfl,rfl,by decide+kernel,rfl,by decide+kernel,by decide+kernel⟩
theorem Kt(F:fH K "is_digit" "is_digit" sL f fd)(lq:mg "ord"=none):bV P w K mg base bU 1 f fd ["byte"] oQ:=by
 refine F.ok La (λvs H Q E h=>?_) (λak A outer s H vs Q E hr h=>?_)
 ·obtain⟨b,rfl,_⟩:=h
  rfl
 ·obtain⟨b,rfl,k⟩:=h
  refine⟨_,aH (aU (nS qS qS (jT 48 lq) (pv 0) (jT 57 lq))),?_⟩
  refine⟨_,rfl,_,_,rfl,rfl,_,rfl,cE (λh1=>⟨_,_,rfl,rfl,?_⟩) (λh1=>?_)⟩
  ·have e:kG b=decide (b<=57):=by unfold kG;rw[h1,i9]
   rw[e] at k
   exact k
  ·have e:kG b=false:=by unfold kG;rw[OG h1,ly]
   rw[e] at k
   exact k
def RdF(a:Addr)(p:Int):List (Str×V):=[("text",.ref a),("position",.int p)]
theorem Iw(a:Addr)(p:Int):(RdF a p).lookup ("text":Str)=some (V.ref a):=rfl
theorem gZ(a:Addr)(p:Int):(RdF a p).lookup ("position":Str)=some (V.int p):=rfl
def iL(CR:Addr)(H:Hp)(r a:Addr)(p:Nat):Prop:=∃dx,H r=some (.ins CR dx (RdF a p))
def SX(r:Addr)(H H':Hp):Prop:=∀b o,H b=some o->b≠r->H' b=some o
theorem SX.refl(r:Addr)(H:Hp):SX r H H:=λ_ _ e _=>e
theorem SX.trans{r:Addr}{H H1 H2:Hp}(a:SX r H H1)(b:SX r H1 H2):SX r H H2:=λc o e n=>b c o (a c o e n) n
theorem SX.upd(o:HO):SX r H (upd H r o):=λb u e n=>by rw[aC n];exact e
theorem aK.sx(s:aK H H'):SX r H H':=λb o e _=>s b o e
theorem SX.seq{fs:List (Str×V)}(s:SX r H H')(hr:H r=some (.ins C dx fs))(h:cR K H a xs):cR K H' a xs:=by
 rcases h with (h|⟨o,h⟩)|h
 ·exact .inl (.inl (s _ _ h (by rintro rfl;rw[hr] at h;cases h)))
 ·exact .inl (.inr ⟨o,s _ _ h (by rintro rfl;rw[hr] at h;cases h)⟩)
 ·exact .inr h
theorem SX.seqT{fs:List (Str×V)}(s:SX r H H')(hr:H r=some (.ins C dx fs))(h:cM K H a xs):cM K H' a xs:=by
 rcases h with (h|⟨o,h⟩)|h
 ·exact .inl (.inl (s _ _ h (by rintro rfl;rw[hr] at h;cases h)))
 ·exact .inl (.inr ⟨o,s _ _ h (by rintro rfl;rw[hr] at h;cases h)⟩)
 ·exact .inr h
structure Jj(K:Frag)(CR:Addr):Prop where
 cl:Jh K CR
 nT:dH K CR "text"
 nP:dH K CR "position"
def aR(l:List Int)(p:Nat):Int:=(l[p]?).getD 256
structure kK(K:Frag)(CR:Addr)(H:Hp)(r a:Addr)(l:List Int)(p:Nat):Prop where
 rd:iL CR H r a p
 tx:cR K H a (l.map V.int)
 le:p<=l.length
theorem kK.same{q:Nat}(x:kK K CR H r a l p)(s:SX r H H')(hr:iL CR H' r a q)(hq:q<=l.length):kK K CR H' r a l q:=
 let ⟨_,e⟩:=x.rd
 ⟨hr,s.seq e x.tx,hq⟩
theorem Rc:aN ["self","fault"] ["self","fault"] (aG qX):=⟨rfl,rfl,rfl,by decide+kernel,rfl,by decide+kernel,by decide+kernel⟩
theorem Rh(F:fH K "__init__" "Stuck.__init__" qX f fd)(T:Er K C f):bV P w K mg base bU 1 f fd ["self","fault"] (aDo C):=by
 refine F.ok Rc (λvs H Q E h=>?_) (λak A outer s H vs Q E hr h=>?_)
 ·obtain⟨e,t,n,rfl,_⟩:=h
  rfl
 ·obtain⟨e,t,n,rfl,he,k⟩:=h
  refine⟨_,aH (Yc T (pv 0) (pv 1) rfl),?_⟩
  exact⟨_,rfl,_,rfl,e,t,n,rfl,rfl,he,k⟩
def aFx(CR:Addr):Sp:=λvs H Q _=>∃r dx a:Addr,vs=[.ref r,.ref a]/\H r=some (.ins CR dx [])/\∀H':Hp,iL CR H' r a 0->SX r H H'->Q .non H'
theorem aCz:aN ["self","text"] ["self","text"] (aG Yl):=⟨rfl,rfl,rfl,by decide+kernel,rfl,by decide+kernel,by decide+kernel⟩
theorem aC9(F:fH K "__init__" "Reader.__init__" Yl f fd)(T:Jj K CR):bV P w K mg base bU 1 f fd ["self","text"] (aFx CR):=by
 refine F.ok aCz (λvs H Q E h=>?_) (λak A outer s H vs Q E hr h=>?_)
 ·obtain⟨r,dx,a,rfl,_⟩:=h
  rfl
 ·obtain⟨r,dx,a,rfl,hp,k⟩:=h
  refine⟨_,aF (eE (pv 0) (pv 1) rfl) (aH (eE (pv 0) aI rfl)),?_⟩
  refine⟨_,rfl,_,rfl,r,CR,dx,[],rfl,hp,T.cl,T.nT,(by show 0<1000;decide),?_⟩
  refine⟨_,rfl,r,CR,dx,_,rfl,aB,T.cl,T.nP,(by show 1<1000;decide),?_⟩
  exact k _ ⟨dx,aB⟩ λb o e hb=>by rw[aC hb,aC hb];exact e
def oW(K:Frag)(CR:Addr):Sp:=λvs H Q _=>∃(r a:Addr)(l:List Int)(p:Nat),vs=[.ref r]/\kK K CR H r a l p/\Q (.bl (decide (p=l.length))) H
theorem Wl:aN ["self"] ["self"] (aG Cr):=⟨rfl,rfl,rfl,by decide+kernel,rfl,by decide+kernel,by decide+kernel⟩
theorem Xp(F:fH K "ended" "Reader.ended" Cr f fd)(T:Jj K CR)(bi:mg "len"=none):bV P w K mg base bU 1 f fd ["self"] (oW K CR):=by
 refine F.ok Wl (λvs H Q E h=>?_) (λak A outer s H vs Q E hr h=>?_)
 ·obtain⟨r,a,l,p,rfl,_⟩:=h
  rfl
 ·obtain⟨r,a,l,p,rfl,⟨⟨dx,h1⟩,tx,le⟩,k⟩:=h
  refine⟨_,aH (aU (lM rO (aT (pv 0) rfl) (bS bW (by rfl) bi boot_len (aA (aT (pv 0) rfl) aE)) (iE _))),?_⟩
  refine⟨_,rfl,r,CR,dx,_,_,rfl,h1,T.cl,T.nP,gZ _ _,_,rfl,r,CR,dx,_,_,rfl,h1,T.cl,T.nT,Iw _ _,a,_,rfl,.inl tx,rfl,?_⟩
  have e:decide (V.int (p:Int)=V.int ((l.map V.int).length:Int))=decide (p=l.length):=by
   rw[ai,vX,io,cz,ck]
   (clear le;omega)
  show Q (.bl (decide (V.int (p:Int)=V.int ((l.map V.int).length:Int)))) H
  rw[e]
  exact k
structure pB(P:Program)(w:World)(K:Frag)(mg:Str->Option Value)(base:Heap)(CR:Addr)(m:Str)(CX:Ji)(k:Nat)(ps:List Str)(sp:Sp):Prop where
 ex:∃f fd,aA9 K CR m f/\bV P w K mg base CX k f fd ps sp/\eT K fd ps []
def qP(K:Frag)(CR:Addr):Sp:=λvs H Q _=>∃(r a:Addr)(l:List Int)(p:Nat),vs=[.ref r]/\kK K CR H r a l p/\Q (.int (aR l p)) H
theorem aAx:aN ["self"] ["self"] (aG Os):=⟨rfl,rfl,rfl,by decide+kernel,rfl,by decide+kernel,by decide+kernel⟩
theorem aA0{tk:Tok}(F:fH K "here" "Reader.here" Os f fd)(T:Jj K CR)(cp:mg "NO_BYTE"=some (.int 256 tk))(M:pB P w K mg base CR "ended" bU 1 ["self"] (oW K CR)):bV P w K mg base bU 2 f fd ["self"] (qP K CR):=by
 obtain⟨fe,fde,me,Ge,be⟩:=M.ex
 refine F.ok aAx (λvs H Q E h=>?_) (λak A outer s H vs Q E hr h=>?_)
 ·obtain⟨r,a,l,p,rfl,_⟩:=h
  rfl
 ·obtain⟨r,a,l,p,rfl,x,k⟩:=h
  obtain⟨⟨dx,h1⟩,tx,le⟩:=id x
  refine⟨_,aF (eK (eS (cF (pv 0) T.cl me Ge hr be .nil aX)) (aH (aU (Dr (v:=.int 256) (by rfl) cp ⟨tk,rfl⟩))) cD) (aH (aU (bQ jR (aT (pv 0) rfl) (aT (pv 0) rfl) (λ_ _=>rfl)))),?_⟩
  refine⟨_,rfl,r,dx,_,rfl,h1,rfl,r,a,l,p,rfl,x,_,rfl,cE (λhc=>?_) (λhc=>?_)⟩
  ·have e:p=l.length:=d7 hc
   have e2:aR l p=256:=by unfold aR;rw[k9 (vi e.symm)];rfl
   rw[e2] at k
   exact k
  ·have e:p<l.length:=Nat.lt_of_le_of_ne le λz=>hc (c9 z)
   refine⟨_,rfl,r,CR,dx,_,_,rfl,h1,T.cl,T.nT,Iw _ _,_,rfl,r,CR,dx,_,_,rfl,h1,T.cl,T.nP,gZ _ _,a,_,_,_,rfl,rfl,tx,iO (j:=p) (v:=V.int (aR l p)) ?_,k⟩
   unfold aR
   rw[a9,ay e]
   rfl
def qD(K:Frag)(CR:Addr):Sp:=λvs H Q _=>∃(r a:Addr)(l:List Int)(p:Nat),vs=[.ref r]/\kK K CR H r a l p/\∀H':Hp,iL CR H' r a (p+1)->SX r H H'->Q (.int (aR l p)) H'
theorem Nr:aN ["self","byte"] ["self"] (aG Md):=⟨rfl,rfl,rfl,by decide+kernel,rfl,by decide+kernel,by decide+kernel⟩
theorem Zs(F:fH K "take" "Reader.take" Md f fd)(T:Jj K CR)(M:pB P w K mg base CR "here" bU 2 ["self"] (qP K CR)):bV P w K mg base bU 3 f fd ["self"] (qD K CR):=by
 obtain⟨fe,fde,me,Ge,be⟩:=M.ex
 refine F.ok Nr (λvs H Q E h=>?_) (λak A outer s H vs Q E hr h=>?_)
 ·obtain⟨r,a,l,p,rfl,_⟩:=h
  rfl
 ·obtain⟨r,a,l,p,rfl,x,k⟩:=h
  obtain⟨⟨dx,h1⟩,tx,le⟩:=id x
  refine⟨_,aF (bI (i:=1) Nr.nd rfl (Or.inl rfl) (cF (pv 0) T.cl me Ge hr be .nil aX)) (aF (Qh (pv 0) aI aD3) (aH (aU (pv 1)))),?_⟩
  refine⟨_,rfl,r,dx,_,rfl,h1,rfl,r,a,l,p,rfl,x,?_⟩
  refine⟨_,rfl,r,CR,dx,_,_,rfl,h1,T.cl,T.nP,gZ _ _,_,_,rfl,rfl,dx,_,h1,(by show 2<1000;decide),?_⟩
  refine⟨_,rfl,k _ ⟨dx,?_⟩ (SX.upd _)⟩
  rw[aB]
  rfl
structure StT(P:Program)(w:World)(K:Frag)(mg:Str->Option Value)(base:Heap)(C:Addr):Prop where
 ex:∃f fd,Er K C f/\bV P w K mg base bU 1 f fd ["self","fault"] (aDo C)/\eT K fd ["self","fault"] []
 mg:mg "Stuck"=some (.ref C)
theorem gG(h:aR l p≠256):p<l.length:=by
 by_cases z:p<l.length
 ·exact z
 ·refine absurd ?_ h
  unfold aR
  rw[k9 (Nat.le_of_not_lt z)]
  rfl
theorem jD(x:Int):∀l:List Int,Xh (.int x) (l.map V.int)=decide (x∈l)
 |[]=>by simp[Xh]
 |y::r=>by
  have ih:=jD x r
  unfold Xh at ih ⊢
  rw[bp,vn,ih,io]
  show ((y==x)||decide (x∈r))=true↔_
  rw[ye,cz,ck,ck,ao]
  constructor
  ·rintro(h|h)
   ·exact .inl h.symm
   ·exact .inr h
  ·rintro(h|h)
   ·exact .inl h.symm
   ·exact .inr h
theorem Aa:∀l:List Int,(l.map V.int).all pT=true
 |[]=>rfl
 |_::r=>by rw[bp,t9,Aa r];rfl
def rR(K:Frag)(CR:Addr):Sp:=λvs H Q E=>∃(r a g:Addr)(l sl:List Int)(p:Nat),vs=[.ref r,.ref g]/\kK K CR H r a l p/\cM K H g (sl.map V.int)/\256∉sl/\
 (aR l p∈sl->∀H':Hp,iL CR H' r a (p+1)->SX r H H'->Q (.int (aR l p)) H')/\(aR l p∉sl->E (.int p 0) none H)
theorem Xc:aN ["self","signs"] ["self","signs"] (aG Eo):=⟨rfl,rfl,rfl,by decide+kernel,rfl,by decide+kernel,by decide+kernel⟩
theorem Us(F:fH K "read_one_of" "Reader.read_one_of" Eo f fd)(T:Jj K CR)(S:StT P w K mg base C)(M1:pB P w K mg base CR "here" bU 2 ["self"] (qP K CR))(M2:pB P w K mg base CR "take" bU 3 ["self"] (qD K CR)):
  bV P w K mg base (jN C P w) 4 f fd ["self","signs"] (rR K CR):=by
 obtain⟨f1,qu,m1,G1,b1⟩:=M1.ex
 obtain⟨f2,w6,m2,G2,b2⟩:=M2.ex
 obtain⟨fx,A7,XT,GX,bx⟩:=S.ex
 refine F.okX Xc (λvs H Q E h=>?_) (λak A outer s H vs Q E hr h=>?_)
 ·obtain⟨r,a,g,l,sl,p,rfl,_⟩:=h
  rfl
 ·obtain⟨r,a,g,l,sl,p,rfl,x,hg,kr,k1,k2⟩:=h
  obtain⟨⟨dx,h1⟩,tx,le⟩:=id x
  have ba:=hr.mono (j:=2) (by decide)
  refine⟨_,aF (eK (gX lT (cF (pv 0) T.cl m1 G1 ba b1 .nil aX) (pv 1) (by with_unfolding_all rfl)) (aH (nO aO rfl XT GX ba (by rfl) S.mg bx (aT (pv 0) rfl))) cD)
   (aH (aU (cF (pv 0) T.cl m2 G2 hr b2 .nil aX))),?_⟩
  refine⟨_,rfl,r,dx,_,rfl,h1,rfl,r,a,l,p,rfl,x,_,rfl,g,_,rfl,.inr hg,rfl,Aa sl,_,rfl,cE (λhc=>?_) (λhc=>?_)⟩
  ·have hc:(!Xh (.int (aR l p)) (sl.map V.int))=true:=hc
   rw[jD,cx,l9] at hc
   exact⟨_,rfl,r,CR,dx,_,_,rfl,h1,T.cl,T.nP,gZ _ _,_,rfl,k2 hc⟩
  ·have hc:¬(!Xh (.int (aR l p)) (sl.map V.int))=true:=hc
   rw[jD,cx,l9,AL] at hc
   exact⟨_,rfl,r,dx,_,rfl,h1,rfl,r,a,l,p,rfl,x,k1 hc⟩
end Br1
namespace L2
open PySem PySem.Spec PyProof.Rows
theorem aBh(Pv:Nat->St->Hp->Prop)(h0:Pv 0 σ H)
  (hs:∀i c σ H,x.cps[i]?=some c->Pv i σ H->g (.str ⟨#[c]⟩) σ H λau H2=>tb {D with nx:=Pv (i+1),ct:=Pv (i+1),bk:=D.nx} au H2) (hd:∀ σ H,Pv x.cps.size σ H->D.nx σ H):
  ∃W:Nat->Nat->St->Hp->Prop,(∃m,W 0 m σ H)/\∀i m σ H,W i m σ H->
   ((Its x).stop i H/\D.nx σ H)\/((Its x).go i H/\∃N:St->Hp->Prop,(∀ah H',N ah H'->∃m',m'<m/\W (i+1) m' ah H')/\∀v H',(Its x).yld i H v H'->g v σ H' λau H2=>tb {D with nx:=N,ct:=N,bk:=D.nx} au H2):=by
 refine⟨λi m σ H=>m=x.cps.size - i/\i<=x.cps.size/\Pv i σ H,⟨x.cps.size,by simp,c8 _,h0⟩,?_⟩
 rintro i m σ H ⟨rfl,hi,p⟩
 by_cases am:i<x.cps.size
 ·refine .inr ⟨am,Pv (i+1),λah H' p'=>⟨x.cps.size - (i+1),by (clear hi;omega),rfl,am,p'⟩,λv H' y=>?_⟩
  obtain⟨e,c,hc,rfl⟩:=y
  subst e
  exact hs i c σ _ hc p
 ·have e:i=x.cps.size:=by omega
  subst e
  exact .inl ⟨ap _,hd σ H p⟩
end L2
namespace Br1
open PySem PySem.Spec PyProof.Rows L2
def aV(l:List Int):Nat->List Nat->Except Nat Nat
 |p,[]=>.ok p
 |p,c::r=>if aR l p=c then aV l (p+1) r else .error p
def hX(b:Int):Bool:=kM b||kG b
def bJ(l:List Int):Nat->Nat->List Int
 |_,0=>[]
 |p,n+1=>if hX (aR l p)=true then aR l p::bJ l (p+1) n else []
def dG(l:List Int)(hi:Int):Nat->Nat->Int->Int×Nat
 |0,p,v=>(v,p)
 |n+1,p,v=>if 0<v/\kG (aR l p)=true/\v * 10+aR l p - 48<=hi then dG l hi n (p+1) (v * 10+aR l p - 48) else (v,p)
def jY(l:List Int)(p:Nat)(lo hi:Int):Prop:=kG (aR l p)=true/\lo<=aR l p - 48/\aR l p - 48<=hi
def eO(l:List Int)(p:Nat)(hi:Int):Int×Nat:=dG l hi (l.length - (p+1)) (p+1) (aR l p - 48)
theorem Wt(h:hX (aR l p)=true):p<l.length:=gG λz=>by rw[z] at h;revert h;decide
theorem Vv(h:kG (aR l p)=true):p<l.length:=gG λz=>by rw[z] at h;revert h;decide
theorem jB{b:Int}(h:kG b=true):48<=b/\b<=57:=by
 unfold kG at h
 rw[cq,ck,ck] at h
 exact h
variable{K:Frag}
def lX(K:Frag)(CR:Addr):Sp:=λvs H Q E=>∃(r a:Addr)(l:List Int)(p:Nat)(x:Str),vs=[.ref r,.str x]/\kK K CR H r a l p/\(∀c∈x.cps.toList,c<256)/\
 match aV l p x.cps.toList with
 |.ok p'=>∀H':Hp,iL CR H' r a p'->p'<=l.length->SX r H H'->Q .non H'
 |.error i=>∀H':Hp,SX r H H'->E (.int i 0) none H'
theorem Nl:aN ["self","word","sign"] ["self","word"] (aG Nm):=⟨rfl,rfl,rfl,by decide+kernel,rfl,by decide+kernel,by decide+kernel⟩
theorem Yd(F:fH K "read_word" "Reader.read_word" Nm f fd)(T:Jj K CR)(lq:mg "ord"=none)(M1:pB P w K mg base CR "read_one_of" (jN C P w) 4 ["self","signs"] (rR K CR)):
  bV P w K mg base (jN C P w) 5 f fd ["self","word"] (lX K CR):=by
 obtain⟨f1,qu,m1,G1,b1⟩:=M1.ex
 refine F.okX Nl (λvs H Q E h=>?_) (λak A outer s H vs Q E hr h=>?_)
 ·obtain⟨r,a,l,p,x,rfl,_⟩:=h
  rfl
 ·obtain⟨r,a,l,p,x,rfl,tx,hx,k⟩:=h
  refine⟨_,aH (eM aO.own rfl (Uo (pv 1)) (bH (i:=2) Nl.nd rfl (Or.inl rfl))
   (aH (cH (dC (pv 0) T.cl m1 G1 hr b1 .nil aO.pass (aA (eD (aA (bS yU (by rfl) lq boot_ord (aA (pv 2) aE)) aE)) aE))))),?_⟩
  refine⟨_,rfl,x,rfl,aBh (λi σ H'=>∃v2:Option V,σ=[some (.ref r),some (.str x),v2]/\SX r H H'/\kK K CR H' r a l (p+i)/\aV l p x.cps.toList=aV l (p+i) (x.cps.toList.drop i))
   ⟨none,rfl,SX.refl r H,tx,rfl⟩ ?_ ?_⟩
  ·rintro i c σ H1 hc ⟨v2,rfl,s1,x1,e1⟩
   have js:x.cps.toList[i]?=some c:=by rw[m6];exact hc
   have ir:x.cps.toList.drop i=c::x.cps.toList.drop (i+1):=by
    obtain⟨am,e⟩:=bq.mp js
    rw[<-e]
    exact EZ am
   rw[ir] at e1
   have WG:c<256:=hx c (d9 js)
   obtain⟨⟨dx,h1⟩,_,_⟩:=id x1
   refine⟨_,rfl,r,dx,_,rfl,h1,rfl,⟨_,rfl,⟨#[c]⟩,rfl,rfl,(by show 1<=sizeLine;decide),λg hg=>?_⟩⟩
   have sg:aK H1 (upd H1 g (.tup [.int c])):=λb o e=>by rw[aC (aD e hg)];exact e
   have x2:kK K CR (upd H1 g (.tup [.int c])) r a l (p+i):=x1.same (aK.sx sg) ⟨dx,sg _ _ h1⟩ x1.le
   refine⟨r,a,g,l,[(c:Int)],p+i,rfl,x2,.inl (.inl aB),by simp;omega,λa6 H2 ba s2=>?_,λa6=>?_⟩
   ·have a6:aR l (p+i)=c:=by simpa using a6
    have lt:p+i<l.length:=gG (by rw[a6];(clear a6;omega))
    refine⟨_,rfl,(s1.trans (aK.sx sg)).trans s2,x2.same s2 ba lt,?_⟩
    rw[e1]
    show (if aR l (p+i)=c then _ else _)=_
    rw[af a6]
    rfl
   ·have a6:¬aR l (p+i)=c:=by simpa using a6
    have e2:aV l p x.cps.toList=.error (p+i):=by
     rw[e1]
     show (if aR l (p+i)=c then _ else _)=_
     rw[ae a6]
    rw[e2] at k
    exact k _ (s1.trans (aK.sx sg))
  ·rintro σ H1 ⟨v2,rfl,s1,x1,e1⟩
   have e2:aV l p x.cps.toList=.ok (p+x.cps.size):=by
    rw[e1,List.drop_eq_nil_of_le (by simp)]
    rfl
   rw[e2] at k
   exact k H1 x1.rd x1.le s1
def Cc(K:Frag)(CR:Addr):Sp:=λvs H Q E=>∃(r a:Addr)(l:List Int)(p:Nat),vs=[.ref r]/\kK K CR H r a l p/\(p=l.length->Q .non H)/\(p≠l.length->E (.int p 0) none H)
theorem aC7:aN ["self"] ["self"] (aG Zi):=⟨rfl,rfl,rfl,by decide+kernel,rfl,by decide+kernel,by decide+kernel⟩
theorem aDy(F:fH K "read_end" "Reader.read_end" Zi f fd)(T:Jj K CR)(S:StT P w K mg base C)(M1:pB P w K mg base CR "ended" bU 1 ["self"] (oW K CR)):
  bV P w K mg base (jN C P w) 3 f fd ["self"] (Cc K CR):=by
 obtain⟨f1,qu,m1,G1,b1⟩:=M1.ex
 obtain⟨fx,A7,XT,GX,bx⟩:=S.ex
 refine F.okX aC7 (λvs H Q E h=>?_) (λak A outer s H vs Q E hr h=>?_)
 ·obtain⟨r,a,l,p,rfl,_⟩:=h
  rfl
 ·obtain⟨r,a,l,p,rfl,x,k1,k2⟩:=h
  obtain⟨⟨dx,h1⟩,tx,le⟩:=id x
  refine⟨_,aH (eK (mE (eS (cF (pv 0) T.cl m1 G1 (hr.mono (by decide)) b1 .nil aX))) (aH (nO aO rfl XT GX hr (by rfl) S.mg bx (aT (pv 0) rfl))) cD),?_⟩
  refine⟨_,rfl,r,dx,_,rfl,h1,rfl,r,a,l,p,rfl,x,_,rfl,cE (λhc=>?_) (λhc=>?_)⟩
  ·rw[cx,l9] at hc
   exact⟨_,rfl,r,CR,dx,_,_,rfl,h1,T.cl,T.nP,gZ _ _,_,rfl,k2 hc⟩
  ·rw[cx,l9,AL] at hc
   exact k1 hc
theorem aY:20000<sizeLine:=by rw[p8];decide
theorem cQ{b:Bool}(h:¬b=true):b=false:=by cases b<;>simp_all
structure dL(P:Program)(w:World)(K:Frag)(mg:Str->Option Value)(base:Heap)(x:Str)(CX:Ji)(k:Nat)(ps:List Str)(sp:Sp):Prop where
 ex:∃f fd,bV P w K mg base CX k f fd ps sp/\eT K fd ps []/\keepIn K (.ref f)=true/\mg x=some (.ref f)
theorem Fb{n:Nat}{xs:List Int}(e:bJ l p (i+(n+1))=xs++bJ l (p+i) (n+1))(h:hX (aR l (p+i))=true):bJ l p (i+(n+1))=(xs++[aR l (p+i)])++bJ l (p+(i+1)) n:=by
 rw[e,ma]
 congr 1
 show (if hX (aR l (p+i))=true then _ else _)=_
 rw[af h]
 rfl
def Oj(CR:Addr)(H:Hp)(r a q:Addr)(l:List Int)(p L:Nat)(m:Nat)(σ:List (Option V))(H':Hp):Prop:=
 ∃i,m+i=L/\∃xs:List Int,σ=[some (.ref r),some (.int L),some (.ref q)]/\xs.length=i/\SX r H H'/\iL CR H' r a (p+i)/\p+i<=l.length/\H' q=some (.lst (xs.map V.int))/\bJ l p L=xs++bJ l (p+i) m
theorem Bg{n:Nat}{xs:List Int}(x:kK K CR H r a l p)(hq:H q=none)(o9:r≠q)(pb:xs.length=i)(hL:i+(n+1)<=1000)(s1:SX r H H1)(bn:iL CR H1 r a (p+i))(ij:p+i<=l.length)
  (qv:H1 q=some (.lst (xs.map V.int))) (e1:bJ l p (i+(n+1))=xs++bJ l (p+i) (n+1)) (ha:hX (aR l (p+i))=true) (hD:∀ σ H',Oj CR H r a q l p (i+(n+1)) n σ H'->D.nx σ H'):
  Af (tBM K "list" Nz (cY 2) (dP (oF CR "take" (qD K CR) [] E0 (cY 0) gM) gM)) D [some (.ref r),some (.int ((i+(n+1):Nat):Int)),some (.ref q)] H1:=by
 have lt:=Wt ha
 obtain⟨kt,g1⟩:=id bn
 refine⟨_,rfl,.inl ⟨rfl,_,cR.of qv⟩,_,rfl,r,kt,_,rfl,g1,rfl,r,a,l,p+i,rfl,x.same s1 bn ij,λH2 ba s2=>?_⟩
 have ik:H2 q=some (.lst (xs.map V.int)):=s2 _ _ qv (ax o9)
 refine⟨q,_,_,rfl,rfl,ik,?_,?_⟩
 ·rw[ai]
  have:=aY
  (clear lt ij;omega)
 ·obtain⟨mr,g2⟩:=ba
  have s3:SX r H (upd H2 q (.lst (xs.map V.int++[V.int (aR l (p+i))]))):=λb o e hb=>by
   rw[aC (aD e hq)]
   exact s2 b o (s1 b o e hb) hb
  refine hD _ _ ⟨i+1,by (clear lt ij hL pb;omega),xs++[aR l (p+i)],rfl,by simp[pb],s3,⟨mr,by rw[aC o9];exact g2⟩,lt,?_,Fb e1 ha⟩
  rw[aB,b7]
  rfl
def pZ(K:Frag)(CR:Addr):Sp:=λvs H Q E=>∃(r a:Addr)(l:List Int)(p L:Nat),vs=[.ref r,.int L]/\kK K CR H r a l p/\L<=1000/\
 (kM (aR l p)=true->∀(H':Hp)(q:Addr),iL CR H' r a (p+(bJ l p L).length)->p+(bJ l p L).length<=l.length->SX r H H'->H' q=some (.tup ((bJ l p L).map V.int))->Q (.ref q) H')/\
 (kM (aR l p)=false->E (.int p 0) none H)
theorem Ou:aN ["self","longest","name"] ["self","longest"] (aG Ol):=⟨rfl,rfl,rfl,by decide+kernel,rfl,by decide+kernel,by decide+kernel⟩
theorem Zo(F:fH K "read_name" "Reader.read_name" Ol f fd)(T:Jj K CR)(S:StT P w K mg base C)(bi:mg "len"=none)(A8:mg "tuple"=none)
  (M1:pB P w K mg base CR "here" bU 2 ["self"] (qP K CR)) (M2:pB P w K mg base CR "take" bU 3 ["self"] (qD K CR)) (L1:dL P w K mg base "is_letter" bU 1 ["byte"] pY) (L2:dL P w K mg base "is_digit" bU 1 ["byte"] oQ):
  bV P w K mg base (jN C P w) 4 f fd ["self","longest"] (pZ K CR):=by
 obtain⟨f1,qu,m1,G1,b1⟩:=M1.ex
 obtain⟨f2,w6,m2,G2,b2⟩:=M2.ex
 obtain⟨g1,gr,GL,bL,kL,hL⟩:=L1.ex
 obtain⟨g2,lr,GD,bD,kD,hD⟩:=L2.ex
 obtain⟨fx,A7,XT,GX,bx⟩:=S.ex
 refine F.okX Ou (λvs H Q E h=>?_) (λak A outer s H vs Q E hr h=>?_)
 ·obtain⟨r,a,l,p,L,rfl,_⟩:=h
  rfl
 ·obtain⟨r,a,l,p,L,rfl,x,A9,k1,k2⟩:=h
  obtain⟨⟨dx,h1⟩,tx,le⟩:=id x
  have ba:=hr.mono (j:=2) (by decide)
  have bn:=hr.mono (j:=1) (by decide)
  refine⟨_,aF (eK (mE (eS (aP GL bn (by rfl) hL kL bL .nil aX (aA (cF (pv 0) T.cl m1 G1 ba b1 .nil aX) aE)))) (aH (nO aO rfl XT GX ba (by rfl) S.mg bx (aT (pv 0) rfl))) cD)
   (aF (bI (i:=2) Ou.nd rfl (Or.inl rfl) (eN aE))
   (aF (lJ aO.own (iH (eB (Mm (bS bW (by rfl) bi boot_len (aA (pv 2) aE)) (pv 1)))
     (iK (Pa (eS (aP GL bn (by rfl) hL kL bL .nil aX (aA (cF (pv 0) T.cl m1 G1 ba b1 .nil aX) aE))) (Db (eS (aP GD bn (by rfl) hD kD bD .nil aX (aA (cF (pv 0) T.cl m1 G1 ba b1 .nil aX) aE))))).pt)).pt
    (aH (cH (nQ plainAttrs_list PySem.F.slot_list_append PySem.F.type_list_append gU (pv 2) (aA (cF (pv 0) T.cl m2 G2 hr b2 .nil aX) aE)))))
   (aH (aU (kT pS (by rfl) A8 boot_tuple (aA (pv 2) aE)))))),?_⟩
  refine⟨_,rfl,r,dx,_,rfl,h1,rfl,r,a,l,p,rfl,x,_,rfl,_,rfl,cE (λhc=>?_) (λhc=>?_)⟩
  ·rw[cx] at hc
   exact⟨_,rfl,r,CR,dx,_,_,rfl,h1,T.cl,T.nP,gZ _ _,_,rfl,k2 hc⟩
  ·rw[cx,yf] at hc
   refine⟨c8 _,λq hq=>?_⟩
   have sq:aK H (upd H q (.lst [])):=λb o e=>by rw[aC (aD e hq)];exact e
   have o9:r≠q:=aD h1 hq
   refine⟨Oj CR H r a q l p L,⟨L,0,rfl,[],rfl,rfl,aK.sx sq,⟨dx,sq _ _ h1⟩,le,aB,rfl⟩,?_⟩
   rintro m σ H1 ⟨i,WH,xs,rfl,pb,s1,bn,ij,qv,e1⟩
   have x1:=x.same s1 bn ij
   obtain⟨kt,g1⟩:=id bn
   have fin:bJ l p L=xs->∀t,H1 t=none->Q (.ref t) (upd H1 t (.tup (xs.map V.int))):=by
    intro e2 t ht
    have st:aK H1 (upd H1 t (.tup (xs.map V.int))):=λb o e=>by rw[aC (aD e ht)];exact e
    refine k1 hc _ t ⟨kt,?_⟩ ?_ (s1.trans (aK.sx st)) ?_
    ·rw[e2,pb];exact st _ _ g1
    ·rw[e2,pb];exact ij
    ·rw[e2];exact aB
   refine⟨_,rfl,q,_,rfl,.inl (cR.of qv),_,rfl,_,_,rfl,rfl,_,rfl,cE (λam=>?_) (λam=>?_)⟩
   ·have am:((xs.map V.int).length:Int)<(L:Int):=d7 am
    rw[ai] at am
    obtain⟨n,rfl⟩:∃n,m=n+1:=⟨m - 1,by (clear ij le A9;omega)⟩
    obtain rfl:L=i+(n+1):=by (clear am ij pb le A9;omega)
    refine⟨_,rfl,r,kt,_,rfl,g1,rfl,r,a,l,p+i,rfl,x1,_,rfl,_,rfl,cE (λhl=>To ?_) (λhl=>?_)⟩
    ·exact⟨Oj CR H r a q l p (i+(n+1)) n,λ_ _ z=>⟨n,k8 n,z⟩,Bg x hq o9 pb A9 s1 bn ij qv e1 (by unfold hX;rw[hl];rfl) λ_ _ z=>z⟩
    ·refine⟨_,rfl,r,kt,_,rfl,g1,rfl,r,a,l,p+i,rfl,x1,_,rfl,_,rfl,cE (λhd=>?_) (λhd=>?_)⟩
     ·exact⟨Oj CR H r a q l p (i+(n+1)) n,λ_ _ z=>⟨n,k8 n,z⟩,Bg x hq o9 pb A9 s1 bn ij qv e1 (by unfold hX;rw[hd,Bool.or_true]) λ_ _ z=>z⟩
     ·refine⟨_,rfl,q,_,rfl,.inl ⟨cR.of qv,fin ?_⟩⟩
      rw[e1]
      show xs++(if hX (aR l (p+i))=true then _ else _)=xs
      rw[ae (by unfold hX;rw[cQ hl,cQ hd];decide),fh]
   ·have am:¬((xs.map V.int).length:Int)<(L:Int):=λz=>am (c9 z)
    rw[ai] at am
    refine vD ⟨_,rfl,q,_,rfl,.inl ⟨cR.of qv,fin ?_⟩⟩
    rw[e1,show m=0 by (clear ij le A9;omega)]
    exact fh _
def aE4(CR:Addr)(H:Hp)(r a:Addr)(l:List Int)(p:Nat)(lo hi:Int)(m:Nat)(σ:List (Option V))(H':Hp):Prop:=
 ∃(q:Nat)(v:Int),m+q=l.length/\σ=[some (.ref r),some (.int lo),some (.int hi),some (.int v)]/\SX r H H'/\iL CR H' r a q/\0<=v/\v<=hi/\eO l p hi=dG l hi m q v
def lA(K:Frag)(CR:Addr):Sp:=λvs H Q E=>∃(r a:Addr)(l:List Int)(p:Nat)(lo hi:Int),vs=[.ref r,.int lo,.int hi]/\kK K CR H r a l p/\0<=lo/\hi<=100000/\
 (jY l p lo hi->∀H':Hp,iL CR H' r a (eO l p hi).2->(eO l p hi).2<=l.length->0<=(eO l p hi).1->(eO l p hi).1<=hi->SX r H H'->Q (.int (eO l p hi).1) H')/\(¬jY l p lo hi->E (.int p 0) none H)
theorem tR:aN ["self","least","most","value"] ["self","least","most"] (aG vS):=⟨rfl,rfl,rfl,by decide+kernel,rfl,by decide+kernel,by decide+kernel⟩
theorem Qb(F:fH K "read_number" "Reader.read_number" vS f fd)(T:Jj K CR)(S:StT P w K mg base C)(lq:mg "ord"=none)
  (M1:pB P w K mg base CR "here" bU 2 ["self"] (qP K CR)) (M2:pB P w K mg base CR "take" bU 3 ["self"] (qD K CR)) (L2:dL P w K mg base "is_digit" bU 1 ["byte"] oQ):
  bV P w K mg base (jN C P w) 4 f fd ["self","least","most"] (lA K CR):=by
 obtain⟨f1,qu,m1,G1,b1⟩:=M1.ex
 obtain⟨f2,w6,m2,G2,b2⟩:=M2.ex
 obtain⟨g2,lr,GD,bD,kD,hD⟩:=L2.ex
 obtain⟨fx,A7,XT,GX,bx⟩:=S.ex
 refine F.okX tR (λvs H Q E h=>?_) (λak A outer s H vs Q E hr h=>?_)
 ·obtain⟨r,a,l,p,lo,hi,rfl,_⟩:=h
  rfl
 ·obtain⟨r,a,l,p,lo,hi,rfl,x,bo,d5,k1,k2⟩:=h
  obtain⟨⟨dx,h1⟩,tx,le⟩:=id x
  have ba:=hr.mono (j:=2) (by decide)
  have bn:=hr.mono (j:=1) (by decide)
  refine⟨_,aF (eK (Pa (mE (eS (aP GD bn (by rfl) hD kD bD .nil aX (aA (cF (pv 0) T.cl m1 G1 ba b1 .nil aX) aE))))
     (Db (mE (Xa qS qS (pv 1) (cI eY (cF (pv 0) T.cl m1 G1 ba b1 .nil aX) (jT 48 lq)) (pv 2))))).pt (aH (nO aO rfl XT GX ba (by rfl) S.mg bx (aT (pv 0) rfl))) cD)
   (aF (bI (i:=3) tR.nd rfl (Or.inl rfl) (cI eY (cF (pv 0) T.cl m2 G2 hr b2 .nil aX) (jT 48 lq)))
   (aF (lJ aO.own (iH (eB (uN (pv 3) aI)) (iH (eS (aP GD bn (by rfl) hD kD bD .nil aX (aA (cF (pv 0) T.cl m1 G1 ba b1 .nil aX) aE)))
     (iK (eB (aF9 (cI eY (cI gE (cI Xv (pv 3) aI) (cF (pv 0) T.cl m1 G1 ba b1 .nil aX)) (jT 48 lq)) (pv 2)))))).pt
    (aH (bI (i:=3) tR.nd rfl (Or.inl rfl) (cI eY (cI gE (cI Xv (pv 3) aI) (cF (pv 0) T.cl m2 G2 hr b2 .nil aX)) (jT 48 lq)))))
   (aH (aU (pv 3))))),?_⟩
  refine⟨_,rfl,r,dx,_,rfl,h1,rfl,r,a,l,p,rfl,x,_,rfl,_,rfl,cE (λhc=>To ?_) (λhc=>?_)⟩
  ·rw[cx] at hc
   exact⟨_,rfl,r,CR,dx,_,_,rfl,h1,T.cl,T.nP,gZ _ _,_,rfl,k2 λz=>by rw[z.1] at hc;cases hc⟩
  ·rw[cx,yf] at hc
   refine⟨_,rfl,_,rfl,r,dx,_,rfl,h1,rfl,r,a,l,p,rfl,x,_,_,rfl,rfl,_,_,rfl,rfl,_,rfl,cE (λh3=>⟨_,rfl,_,_,rfl,rfl,_,rfl,cE (λh4=>?_) (λh4=>?_)⟩) (λh3=>⟨_,rfl,To ?_⟩)⟩
   ·rw[cx,l9] at h4
    exact⟨_,rfl,r,CR,dx,_,_,rfl,h1,T.cl,T.nP,gZ _ _,_,rfl,k2 λz=>h4 z.2.2⟩
   ·rw[cx,l9,AL] at h4
    have h3:=d7 h3
    have hn:jY l p lo hi:=⟨hc,h3,h4⟩
    have lt:=Vv hc
    have dr:=jB hc
    refine⟨_,rfl,r,dx,_,rfl,h1,rfl,r,a,l,p,rfl,x,λH1 bn s1=>⟨_,_,rfl,rfl,?_⟩⟩
    refine⟨aE4 CR H r a l p lo hi,⟨l.length - (p+1),p+1,aR l p - 48,by (clear dr h3 h4 le d5 bo;omega),rfl,s1,bn,by (clear dr lt h4 le d5;omega),h4,rfl⟩,?_⟩
    rintro m σ H2 ⟨q,v,BA,rfl,s2,ba,v0,vh,e2⟩
    have x2:=x.same s2 ba (by (clear vh v0 dr lt h3 h4 le d5 bo;omega))
    obtain⟨mr,g2⟩:=id ba
    have fin:eO l p hi=(v,q)->Q (.int v) H2:=λe3=>by
     have z:=k1 hn H2
     rw[e3] at z
     exact z ba (by show q<=l.length;(clear vh v0 dr lt h3 h4 le d5 bo;omega)) v0 vh s2
    refine⟨_,rfl,_,_,rfl,rfl,_,rfl,cE (λh5=>?_) (λh5=>vD ⟨_,rfl,fin ?_⟩)⟩
    ·have h5:=d7 h5
     refine⟨_,rfl,r,mr,_,rfl,g2,rfl,r,a,l,q,rfl,x2,_,rfl,_,rfl,cE (λh6=>?_) (λh6=>vD ⟨_,rfl,fin ?_⟩)⟩
     ·have zh:=Vv h6
      have zi:=jB h6
      obtain⟨n,rfl⟩:∃n,m=n+1:=⟨m - 1,by (clear zi h5 vh v0 dr lt h3 h4 le d5 bo;omega)⟩
      refine⟨_,rfl,_,_,rfl,rfl,.inl ⟨by (clear BA zi zh h5 vh dr lt h3 h4 le d5 bo;omega),by (clear BA zi zh h5 v0 dr lt h3 h4 le bo;omega)⟩,_,rfl,r,mr,_,rfl,g2,rfl,r,a,l,q,rfl,x2,_,_,rfl,rfl,_,_,rfl,rfl,_,rfl,_,_,rfl,rfl,_,rfl,cE (λh7=>?_) (λh7=>⟨_,rfl,fin ?_⟩)⟩
      ·have h7:=d7 h7
       refine⟨aE4 CR H r a l p lo hi n,λ_ _ z=>⟨n,k8 n,z⟩,?_⟩
       refine⟨_,rfl,_,_,rfl,rfl,.inl ⟨by (clear h7 BA zi zh h5 vh dr lt h3 h4 le d5 bo;omega),by (clear h7 BA zi zh h5 v0 dr lt h3 h4 le bo;omega)⟩,_,rfl,r,mr,_,rfl,g2,rfl,r,a,l,q,rfl,x2,λH3 i6 s3=>⟨_,_,rfl,rfl,_,_,rfl,rfl,?_⟩⟩
       refine⟨q+1,v * 10+aR l q - 48,by (clear h7 zi zh h5 vh v0 dr lt h3 h4 le d5 bo;omega),rfl,s2.trans s3,i6,by (clear h7 BA zh h5 vh dr lt h3 h4 le d5 bo;omega),h7,?_⟩
       rw[e2]
       show (if _ then _ else _)=_
       rw[af ⟨h5,h6,h7⟩]
      ·rw[e2]
       show (if _ then _ else _)=_
       rw[ae λz=>h7 (c9 z.2.2)]
     ·rw[e2]
      cases m with
      |zero=>rfl
      |succ n=>
       show (if _ then _ else _)=_
       rw[ae λz=>h6 z.2.1]
    ·rw[e2]
     cases m with
     |zero=>rfl
     |succ n=>
      show (if _ then _ else _)=_
      rw[ae λz=>h5 (c9 z.1)]
   ·exact⟨_,rfl,r,CR,dx,_,_,rfl,h1,T.cl,T.nP,gZ _ _,_,rfl,k2 λz=>h3 (c9 z.2.1)⟩
noncomputable def gN(x:α):Except Nat (List α×Nat)->Except Nat (List α×Nat)
 |.ok r=>.ok (x::r.1,r.2)
 |.error i=>.error i
noncomputable def bZ(l:List Int):Nat->Nat->Except Nat (List Int×Nat)
 |0,p=>.ok ([],p)
 |n+1,p=>if aR l p∈cV then gN (aR l p) (bZ l n (p+1)) else .error p
noncomputable def fO(l:List Int)(w p:Nat):Except Nat (List Int×Nat):=match bZ l w p with
 |.ok r=>if aR l r.2=10 then .ok (r.1,r.2+1) else .error r.2
 |.error i=>.error i
noncomputable def bX(l:List Int)(w:Nat):Nat->Nat->Except Nat (List (List Int)×Nat)
 |0,p=>.ok ([],p)
 |n+1,p=>match fO l w p with
  |.ok r=>gN r.1 (bX l w n r.2)
  |.error i=>.error i
noncomputable def gC(xs:List α):Except Nat (List α×Nat)->Except Nat (List α×Nat)
 |.ok r=>.ok (xs++r.1,r.2)
 |.error i=>.error i
theorem kU(r:Except Nat (List α×Nat)):gC [] r=r:=by cases r<;>rfl
theorem jJ(xs:List α)(x:α)(r:Except Nat (List α×Nat)):gC xs (gN x r)=gC (xs++[x]) r:=by
 cases r with
 |error i=>rfl
 |ok r=>unfold gC gN;simp
abbrev eJ(x y z:Int):List dQ:=[Sum.inl x,Sum.inl y,Sum.inl z]
noncomputable def fN(y z:Nat):Nat->List Int->List (List dQ×V)
 |_,[]=>[]
 |x,s::r=>(if s=46 then [] else [(eJ x y z,V.int s)])++fN y z (x+1) r
noncomputable def eC(d:Nat):Nat->List (List Int)->List (List dQ×V)
 |_,[]=>[]
 |j,r::rs=>fN (j % d) (j / d) 0 r++eC d (j+1) rs
theorem yP(y z:Nat)(s:Int):∀(xs:List Int)(x:Nat),fN y z x (xs++[s])=fN y z x xs++(if s=46 then [] else [(eJ ((x+xs.length:Nat):Int) y z,V.int s)])
 |[],x=>by simp[fN]
 |a::r,x=>by
  show _++fN y z (x+1) (r++[s])=(_++fN y z (x+1) r)++_
  rw[yP y z s r (x+1),<-ma,bh,show x+1+r.length=x+(r.length+1) by omega]
theorem uW(d:Nat)(r:List Int):∀(rs:List (List Int)) (j:Nat),eC d j (rs++[r])=eC d j rs++fN ((j+rs.length) % d) ((j+rs.length) / d) 0 r
 |[],j=>by simp[eC]
 |a::rs,j=>by
  show _++eC d (j+1) (rs++[r])=(_++eC d (j+1) rs)++_
  rw[uW d r rs (j+1),<-ma,bh,show j+1+rs.length=j+(rs.length+1) by omega]
theorem tN{y:Nat}{kv:List dQ×V}:∀{xs:List Int}{x:Nat},kv∈fN y z x xs->∃x':Nat,kv.1=eJ x' y z/\x<=x'/\x'<x+xs.length
 |[],x,h=>by simp[fN] at h
 |a::r,x,h=>by
  have h:kv∈(if a=46 then [] else [(eJ x y z,V.int a)])++fN y z (x+1) r:=h
  rcases jp.mp h with h|h
  ·split at h
   ·cases h
   ·rw[ie.mp h]
    exact⟨x,rfl,ap _,by simp⟩
  ·obtain⟨x',e,h1,h2⟩:=tN h
   exact⟨x',e,by (clear h2;omega),by rw[bh];(clear h1;omega)⟩
theorem yD{d:Nat}{kv:List dQ×V}:∀{rs:List (List Int)} {j:Nat},kv∈eC d j rs->∃x' j':Nat,kv.1=eJ x' ((j' % d:Nat):Int) ((j' / d:Nat):Int)/\j<=j'/\j'<j+rs.length
 |[],j,h=>by simp[eC] at h
 |a::rs,j,h=>by
  have h:kv∈fN (j % d) (j / d) 0 a++eC d (j+1) rs:=h
  rcases jp.mp h with h|h
  ·obtain⟨x',e,_⟩:=tN h
   exact⟨x',j,e,ap _,by simp⟩
  ·obtain⟨x',j',e,h1,h2⟩:=yD h
   exact⟨x',j',e,by (clear h2;omega),by rw[bh];(clear h1;omega)⟩
theorem sS(y z:Nat):∀(xs:List Int)(x:Nat),(fN y z x xs).length<=xs.length
 |[],x=>by simp[fN]
 |a::r,x=>by
  show (_++fN y z (x+1) r).length<=_
  rw[b6,bh]
  have:=sS y z r (x+1)
  split<;>simp<;>omega
theorem qG(d w:Nat):∀(rs:List (List Int)) (j:Nat),(∀r∈rs,r.length=w)->(eC d j rs).length<=rs.length * w
 |[],j,_=>by simp[eC]
 |a::rs,j,h=>by
  show (fN (j % d) (j / d) 0 a++eC d (j+1) rs).length<=_
  have h1:=sS (j % d) (j / d) a 0
  have h2:=qG d w rs (j+1) λr hr=>h r (a7 _ hr)
  have h3:=h a bf
  rw[b6,bh,ot]
  omega
theorem Qw{κ:Type}[DecidableEq κ]{aJ:List (κ×V)}{k:κ}(h:∀kv∈aJ,kv.1≠k):gL aJ k=none:=by
 unfold gL
 rw[List.find?_eq_none.mpr λkv n0=>by simpa using h kv n0]
 rfl
theorem aAw{d:Nat}{rs:List (List Int)}{xs:List Int}(hd:0<d):gL (eC d 0 rs++fN (rs.length % d) (rs.length / d) 0 xs) (eJ (xs.length:Int) ((rs.length % d:Nat):Int) ((rs.length / d:Nat):Int))=none:=by
 refine Qw λkv n0 e=>?_
 rcases jp.mp n0 with h|h
 ·obtain⟨x',j',e',h1,h2⟩:=yD h
  rw[e'] at e
  simp only[eJ,List.cons.injEq,Sum.inl.injEq,and_true] at e
  obtain⟨_,e1,e2⟩:=e
  have q1:=CN j' d
  have q2:=CN rs.length d
  have F7:j' % d=rs.length % d:=by (clear q2 q1 e2 h2 h1 hd;omega)
  have K7:j' / d=rs.length / d:=by (clear F7 q2 q1 e1 h2 h1 hd;omega)
  rw[F7,K7] at q1
  (clear K7 F7 e2 e1 h1 hd;omega)
 ·obtain⟨x',e',h1,h2⟩:=tN h
  rw[e'] at e
  simp only[eJ,List.cons.injEq,Sum.inl.injEq,and_true] at e
  obtain⟨e1,_⟩:=e
  (clear h1 hd;omega)
def CI(mg:Str->Option Value)(x:Str)(n:Int):Prop:=∃tk,mg x=some (.int n tk)
theorem fA{n:Int}(h:CI X.mg x n)(hg:Gl X x:=by rfl)(hd:(x==("__debug__":Str))=false:=by decide):PE X (.Name x pos) (tC (.int n)):=by
 obtain⟨tk,h⟩:=h
 exact Dr hg h ⟨tk,rfl⟩ hd
def fL(s:Int):Bool:=decide (s=115)||decide (s=98)
def dY(s:Int):Bool:=decide (s=116)||decide (s=98)
def yW:Sp:=λvs H Q _=>∃s:Int,vs=[.int s]/\Q (.bl (fL s)) H
def wX:Sp:=λvs H Q _=>∃s:Int,vs=[.int s]/\Q (.bl (dY s)) H
theorem iG(i j:Int):decide (V.int i=V.int j)=decide (i=j):=by rw[vX,JC]
theorem Zm:aN ["sign"] ["sign"] (aG rT):=⟨rfl,rfl,rfl,by decide+kernel,rfl,by decide+kernel,by decide+kernel⟩
theorem aAo(F:fH K "has_stud" "has_stud" rT f fd)(h1:CI mg "STUD" 115)(h2:CI mg "BOTH" 98):bV P w K mg base bU 1 f fd ["sign"] yW:=by
 refine F.ok Zm (λvs H Q E h=>?_) (λak A outer s H vs Q E hr h=>?_)
 ·obtain⟨b,rfl,_⟩:=h
  rfl
 ·obtain⟨b,rfl,k⟩:=h
  refine⟨_,aH (aU (Tb (lM rO (pv 0) (fA h1) (iE _)) (uE (lM rO (pv 0) (fA h2) (iE _))))),?_⟩
  unfold fL at k
  rw[<-iG,<-iG] at k
  refine⟨_,rfl,rfl,_,rfl,cE (λh=>?_) (λh=>⟨_,rfl,rfl,?_⟩)⟩
  ·rw[h] at k;exact k
  ·rw[cQ h] at k;exact k
theorem Zd:aN ["sign"] ["sign"] (aG rY):=⟨rfl,rfl,rfl,by decide+kernel,rfl,by decide+kernel,by decide+kernel⟩
theorem aAs(F:fH K "has_tube" "has_tube" rY f fd)(h1:CI mg "TUBE" 116)(h2:CI mg "BOTH" 98):bV P w K mg base bU 1 f fd ["sign"] wX:=by
 refine F.ok Zd (λvs H Q E h=>?_) (λak A outer s H vs Q E hr h=>?_)
 ·obtain⟨b,rfl,_⟩:=h
  rfl
 ·obtain⟨b,rfl,k⟩:=h
  refine⟨_,aH (aU (Tb (lM rO (pv 0) (fA h1) (iE _)) (uE (lM rO (pv 0) (fA h2) (iE _))))),?_⟩
  unfold dY at k
  rw[<-iG,<-iG] at k
  refine⟨_,rfl,rfl,_,rfl,cE (λh=>?_) (λh=>⟨_,rfl,rfl,?_⟩)⟩
  ·rw[h] at k;exact k
  ·rw[cQ h] at k;exact k
def pF:Sp:=λvs H Q _=>∃(g:Addr)(x y z:Int),vs=[.ref g]/\H g=some (.tup [.int x,.int y,.int z])/\∀q,H q=none->Q (.ref q) (upd H q (.tup [.int x,.int y,.int (z+1)]))
def oZ:Sp:=λvs H Q _=>∃(g:Addr)(x y z:Int),vs=[.ref g]/\H g=some (.tup [.int x,.int y,.int z])/\∀q,H q=none->Q (.ref q) (upd H q (.tup [.int x,.int y,.int (z - 1)]))
theorem Vk:aN ["place"] ["place"] (aG Ct):=⟨rfl,rfl,rfl,by decide+kernel,rfl,by decide+kernel,by decide+kernel⟩
theorem Vu(F:fH K "above" "above" Ct f fd):bV P w K mg base bU 1 f fd ["place"] pF:=by
 refine F.ok Vk (λvs H Q E h=>?_) (λak A outer s H vs Q E hr h=>?_)
 ·obtain⟨g,x,y,z,rfl,_⟩:=h
  rfl
 ·obtain⟨g,x,y,z,rfl,hg,k⟩:=h
  refine⟨_,aH (aU (eD (aA (bQ bE (pv 0) aI (λ_ _=>rfl)) (aA (bQ bE (pv 0) aI (λ_ _=>rfl)) (aA (cI gE (bQ bE (pv 0) aI (λ_ _=>rfl)) aI) aE))))),?_⟩
  refine⟨_,rfl,g,_,_,_,rfl,rfl,cM.of hg,rfl,_,rfl,g,_,_,_,rfl,rfl,cM.of hg,rfl,_,rfl,g,_,_,_,rfl,rfl,cM.of hg,rfl,_,_,rfl,rfl,(by show 3<=sizeLine;decide),k⟩
theorem Um:aN ["place"] ["place"] (aG Ew):=⟨rfl,rfl,rfl,by decide+kernel,rfl,by decide+kernel,by decide+kernel⟩
theorem Uq(F:fH K "below" "below" Ew f fd):bV P w K mg base bU 1 f fd ["place"] oZ:=by
 refine F.ok Um (λvs H Q E h=>?_) (λak A outer s H vs Q E hr h=>?_)
 ·obtain⟨g,x,y,z,rfl,_⟩:=h
  rfl
 ·obtain⟨g,x,y,z,rfl,hg,k⟩:=h
  refine⟨_,aH (aU (eD (aA (bQ bE (pv 0) aI (λ_ _=>rfl)) (aA (bQ bE (pv 0) aI (λ_ _=>rfl)) (aA (cI eY (bQ bE (pv 0) aI (λ_ _=>rfl)) aI) aE))))),?_⟩
  refine⟨_,rfl,g,_,_,_,rfl,rfl,cM.of hg,rfl,_,rfl,g,_,_,_,rfl,rfl,cM.of hg,rfl,_,rfl,g,_,_,_,rfl,rfl,cM.of hg,rfl,_,_,rfl,rfl,(by show 3<=sizeLine;decide),k⟩
def Sj(nm:Addr)(W D Hh g:Int)(cells:Addr):List (Str×V):=[("name",.ref nm),("width",.int W),("depth",.int D),("height",.int Hh),("weight",.int g),("cells",.ref cells)]
structure Po(K:Frag)(CP:Addr):Prop where
 cl:Jh K CP
 n1:dH K CP "name"
 n2:dH K CP "width"
 n3:dH K CP "depth"
 n4:dH K CP "height"
 n5:dH K CP "weight"
 n6:dH K CP "cells"
def Np(CP:Addr):Sp:=λvs H Q _=>∃(r dx nm cells:Addr)(W D Hh g:Int),vs=[.ref r,.ref nm,.int W,.int D,.int Hh,.int g,.ref cells]/\H r=some (.ins CP dx [])/\∀H':Hp,H' r=some (.ins CP dx (Sj nm W D Hh g cells))->SX r H H'->Q .non H'
theorem Xm:aN ["self","name","width","depth","height","weight","cells"] ["self","name","width","depth","height","weight","cells"] (aG Co):=⟨rfl,rfl,rfl,by decide+kernel,rfl,by decide+kernel,by decide+kernel⟩
theorem Tj(F:fH K "__init__" "Part.__init__" Co f fd)(T:Po K CP):bV P w K mg base bU 1 f fd ["self","name","width","depth","height","weight","cells"] (Np CP):=by
 refine F.ok Xm (λvs H Q E h=>?_) (λak A outer s H vs Q E hr h=>?_)
 ·obtain⟨r,dx,nm,cells,W,D,Hh,g,rfl,_⟩:=h
  rfl
 ·obtain⟨r,dx,nm,cells,W,D,Hh,g,rfl,hp,k⟩:=h
  refine⟨_,aF (eE (pv 0) (pv 1) rfl) (aF (eE (pv 0) (pv 2) rfl) (aF (eE (pv 0) (pv 3) rfl) (aF (eE (pv 0) (pv 4) rfl) (aF (eE (pv 0) (pv 5) rfl) (aH (eE (pv 0) (pv 6) rfl)))))),?_⟩
  refine⟨_,rfl,_,rfl,r,CP,dx,_,rfl,hp,T.cl,T.n1,(by show 0<1000;decide),?_⟩
  refine⟨_,rfl,_,rfl,r,CP,dx,_,rfl,aB,T.cl,T.n2,(by show 1<1000;decide),?_⟩
  refine⟨_,rfl,_,rfl,r,CP,dx,_,rfl,aB,T.cl,T.n3,(by show 2<1000;decide),?_⟩
  refine⟨_,rfl,_,rfl,r,CP,dx,_,rfl,aB,T.cl,T.n4,(by show 3<1000;decide),?_⟩
  refine⟨_,rfl,_,rfl,r,CP,dx,_,rfl,aB,T.cl,T.n5,(by show 4<1000;decide),?_⟩
  refine⟨_,rfl,_,rfl,r,CP,dx,_,rfl,aB,T.cl,T.n6,(by show 5<1000;decide),?_⟩
  exact k _ aB λb o e hb=>by rw[aC hb,aC hb,aC hb,aC hb,aC hb,aC hb];exact e
end Br1
namespace L2
open PySem PySem.Spec PyProof.Rows
theorem mK{n:Nat}(Pv:Nat->St->Hp->Prop)(h0:Pv 0 σ H)
  (hs:∀i σ H,i<n->Pv i σ H->g (.int (i:Int)) σ H λau H2=>tb {D with nx:=Pv (i+1),ct:=Pv (i+1),bk:=D.nx} au H2) (hd:∀ σ H,Pv n σ H->D.nx σ H):
  ∃W:Nat->Nat->St->Hp->Prop,(∃m,W 0 m σ H)/\∀i m σ H,W i m σ H->
   ((Xx 0 ((n:Int)).toNat).stop i H/\D.nx σ H)\/((Xx 0 ((n:Int)).toNat).go i H/\∃N:St->Hp->Prop,(∀ah H',N ah H'->∃m',m'<m/\W (i+1) m' ah H')/\∀x H',(Xx 0 ((n:Int)).toNat).yld i H x H'->g x σ H' λau H2=>tb {D with nx:=N,ct:=N,bk:=D.nx} au H2):=by
 rw[fq]
 refine By (lo:=0) (n:=n) Pv h0 (λi σ H hi p=>?_) hd
 rw[Int.zero_add]
 exact hs i σ H hi p
end L2
namespace Br1
open PySem PySem.Spec PyProof.Rows L2
theorem Rb{w n pr:Nat}{rs:List (List Int)}(h:bZ l w pr=.error i):gC rs (bX l w (n+1) pr)=.error i:=by
 have e:fO l w pr=.error i:=by
  unfold fO
  rw[h]
 unfold bX
 rw[e]
 rfl
theorem Yv{w n pr q:Nat}{rs:List (List Int)}{xs:List Int}(h:bZ l w pr=.ok (xs,q))(h2:¬aR l q=10):gC rs (bX l w (n+1) pr)=.error q:=by
 have e:fO l w pr=.error q:=by
  unfold fO
  rw[h]
  exact ae h2
 unfold bX
 rw[e]
 rfl
theorem aCq{w n pr q:Nat}{rs:List (List Int)}{xs:List Int}(h:bZ l w pr=.ok (xs,q))(h2:aR l q=10):gC rs (bX l w (n+1) pr)=gC (rs++[xs]) (bX l w n (q+1)):=by
 have e:fO l w pr=.ok (xs,q+1):=by
  unfold fO
  rw[h]
  exact af h2
 rw[<-jJ]
 show gC rs (bX l w (n+1) pr)=_
 rw[bX,e]
theorem rF:("\n":Str).cps.toList=[10]:=by decide+kernel
variable{K:Frag}
def Cm(K:Frag)(CR:Addr):Sp:=λvs H Q E=>∃(r a:Addr)(l:List Int)(p W D Hh:Nat),vs=[.ref r,.int W,.int D,.int Hh]/\kK K CR H r a l p/\W<=16/\D<=16/\Hh<=18/\0<D/\
 match bX l W (D * Hh) p with
 |.ok q=>∀(H':Hp)(c:Addr),iL CR H' r a q.2->q.2<=l.length->SX r H H'->H c=none->H' c=some (.dT (eC D 0 q.1))->(∀x∈q.1,x.length=W)->Q (.ref c) H'
 |.error i=>∀H':Hp,SX r H H'->E (.int i 0) none H'
structure CS(CR:Addr)(H:Hp)(r a c:Addr)(l:List Int)(d:Nat)(rs:List (List Int))(xs:List Int)(p':Nat)(H':Hp):Prop where
 sx:SX r H H'
 rd:iL CR H' r a p'
 le:p'<=l.length
 dc:H' c=some (.dT (eC d 0 rs++fN (rs.length % d) (rs.length / d) 0 xs))
def SgC(r c:Addr)(W D Hh z y:Nat)(v7 v8:Option V):List (Option V):=[some (.ref r),some (.int W),some (.int D),some (.int Hh),some (.ref c),some (.int z),some (.int y),v7,v8]
abbrev aEg(K:Frag)(CR aS:Addr)(E:XK):TS:=Ha (Jc (oF CR "read_one_of" (rR K CR) [] E (cY 0) (dP (tC (.ref aS)) gM)) (mP 8)) (aC0 (Wk (vF rNe (cY 8) (tC (.int 46)))) (aBl (cY 4) (aBb (dP (cY 7) (dP (cY 6) (dP (cY 5) gM)))) (cY 8)) aBw)
theorem Kq{c aS:Addr}{W D Hh y pr p':Nat}{rs:List (List Int)}{xs:List Int}{v8:Option V}{E:XK}{Dn:gH}(x:kK K CR H r a l p)(hc:H c=none)(BB:r≠c)(hS:∀H,cM K H aS (cV.map V.int))(hW:W<=16)
  (DJ:rs.length<=300) (n9:∀q∈rs,q.length=W) (hD:0<D) (hz:z=rs.length / D) (hy:y=rs.length % D) (hi:i<W) (hx:xs.length=i) (cs:CS CR H r a c l D rs xs p' H1) (e1:bZ l W pr=gC xs (bZ l (W - i) p'))
  (kE:∀q,bZ l W pr=.error q->∀H',SX r H H'->E (.int q 0) none H')
  (kN:∀(v8:Option V)(H':Hp)(BC:List Int)(q:Nat),BC.length=i+1->CS CR H r a c l D rs BC q H'->bZ l W pr=gC BC (bZ l (W - (i+1)) q)->Dn.nx (SgC r c W D Hh z y (some (.int i)) v8) H'):
  aEg K CR aS E Dn (SgC r c W D Hh z y (some (.int i)) v8) H1:=by
 subst hz hy
 obtain⟨dx,h1⟩:=id cs.rd
 have x1:=x.same cs.sx cs.rd cs.le
 obtain⟨n,hn⟩:∃n,W - i=n+1:=⟨W - i - 1,by (clear hx hD DJ hW;omega)⟩
 have nj:W - (i+1)=n:=by (clear hx hi hD DJ hW;omega)
 rw[hn] at e1
 refine⟨_,rfl,r,dx,_,rfl,h1,rfl,⟨r,a,aS,l,cV,p',rfl,x1,hS H1,by decide,λa6 H2 ba s2=>?_,λa6=>?_⟩⟩
 ·have lt:p'<l.length:=gG λq=>by rw[q] at a6;revert a6;decide
  have e2:bZ l W pr=gC (xs++[aR l p']) (bZ l n (p'+1)):=by
   rw[e1,<-jJ]
   show gC xs (if aR l p'∈cV then _ else _)=_
   rw[af a6]
  have c2:H2 c=some (.dT (eC D 0 rs++fN (rs.length % D) (rs.length / D) 0 xs)):=s2 _ _ cs.dc (ax BB)
  have ls:(xs++[aR l p']).length=i+1:=by simp[hx]
  have ek:=yP (rs.length % D) (rs.length / D) (aR l p') xs 0
  rw[ou] at ek
  refine⟨_,rfl,rfl,_,rfl,cE (λaw=>?_) (λaw=>?_)⟩
  ·have aw:¬aR l p'=46:=by
    intro q
    rw[q] at aw
    revert aw
    decide
   rw[ae aw,hx] at ek
   refine⟨_,rfl,_,rfl,_,rfl,_,rfl,_,rfl,(by show 3<=sizeLine;decide),λg hg=>?_⟩
   have sg:aK H2 (upd H2 g (.tup [.int i,.int ((rs.length % D:Nat):Int),.int ((rs.length / D:Nat):Int)])):=λb o e=>by rw[aC (aD e hg)];exact e
   refine⟨c,_,rfl,tK.tt (k:=eJ i ((rs.length % D:Nat):Int) ((rs.length / D:Nat):Int)) (sg _ _ c2) aB ?_,?_⟩
   ·have h1:=qG D W rs 0 n9
    have h2:=sS (rs.length % D) (rs.length / D) xs 0
    have h3:rs.length * W<=300 * 16:=E1 DJ hW
    have:=aY
    rw[b6]
    (clear aw ls lt nj hn hD DJ;omega)
   ·have kn:=aAw (d:=D) (rs:=rs) (xs:=xs) hD
    rw[hx] at kn
    have kp:=sJ (V.int (aR l p')) kn
    refine kN _ _ (xs++[aR l p']) (p'+1) ls ⟨λb o e hb=>?_,?_,lt,?_⟩ (by rw[nj];exact e2)
    ·rw[aC (aD e hc)]
     exact sg b o (s2 b o (cs.sx b o e hb) hb)
    ·obtain⟨mr,g2⟩:=ba
     exact⟨mr,by rw[aC BB];exact sg _ _ g2⟩
    ·rw[aB,kp,ma,ek]
  ·have aw:aR l p'=46:=by
    refine Classical.byContradiction λq=>aw ?_
    show (!decide (V.int (aR l p')=V.int 46))=true
    rw[iG,jn q]
    rfl
   rw[af aw,fh] at ek
   refine kN _ _ (xs++[aR l p']) (p'+1) ls ⟨cs.sx.trans s2,ba,lt,?_⟩ (by rw[nj];exact e2)
   rw[ek]
   exact c2
 ·refine kE p' ?_ _ cs.sx
  rw[e1]
  show gC xs (if aR l p'∈cV then _ else _)=_
  rw[ae a6]
  rfl
theorem zZ:∀{n p:Nat}{r:List Int×Nat},bZ l n p=.ok r->r.1.length=n
 |0,p,r,h=>by cases h;rfl
 |n+1,p,r,h=>by
  rw[bZ] at h
  split at h
  ·cases e:bZ l n (p+1) with
   |error i=>rw[e] at h;cases h
   |ok q=>
    rw[e] at h
    cases h
    show (_::q.1).length=n+1
    rw[bh,zZ e]
  ·cases h
theorem lI:aN ["reader","width","depth","height","cells","z","y","x","sign"] ["reader","width","depth","height"] (aG lY):=⟨rfl,rfl,rfl,by decide+kernel,rfl,by decide+kernel,by decide+kernel⟩
theorem Te{aS:Addr}(F:fH K "read_cells" "read_cells" lY f fd)(T:Jj K CR)(w8:mg "range"=none)(hS:∀H,cM K H aS (cV.map V.int))(RA:mg "SIGNS"=some (.ref aS))(RB:CI mg "NO_CELL" 46)
  (M1:pB P w K mg base CR "read_one_of" (jN C P w) 4 ["self","signs"] (rR K CR)) (M2:pB P w K mg base CR "read_word" (jN C P w) 5 ["self","word"] (lX K CR)):
  bV P w K mg base (jN C P w) 6 f fd ["reader","width","depth","height"] (Cm K CR):=by
 obtain⟨f1,qu,m1,G1,b1⟩:=M1.ex
 obtain⟨f2,w6,m2,G2,b2⟩:=M2.ex
 refine F.okX lI (λvs H Q E h=>?_) (λak A outer s H vs Q E hr h=>?_)
 ·obtain⟨r,a,l,p,W,D,Hh,rfl,_⟩:=h
  rfl
 ·obtain⟨r,a,l,p,W,D,Hh,rfl,x,hW,hD,hH,kx,k⟩:=h
  obtain⟨⟨dx,h1⟩,tx,le⟩:=id x
  have jd:=hr.mono (j:=4) (by decide)
  have hu:=kH hr
  refine⟨_,aF (bI (i:=4) lI.nd rfl (Or.inl rfl) nB)
   (aF (eM aO.own rfl (oP rfl w8 (aA (pv 3) aE)) (bH (i:=5) lI.nd rfl (Or.inl rfl))
    (aH (eM aO.own rfl (oP rfl w8 (aA (pv 2) aE)) (bH (i:=6) lI.nd rfl (Or.inl rfl))
     (aF (eM aO.own rfl (oP rfl w8 (aA (pv 1) aE)) (bH (i:=7) lI.nd rfl (Or.inl rfl))
      (aF (bI (i:=8) lI.nd rfl (Or.inl rfl) (dC (pv 0) T.cl m1 G1 jd b1 .nil aO.pass (aA (Dr (v:=.ref aS) (by rfl) RA rfl) aE)))
      (aH (eK (gX aEo (pv 8) (fA RB) (iE _)) (aH (lP hu (pv 4) (eD (aA (pv 7) (aA (pv 6) (aA (pv 5) aE)))) (pv 8) rfl)) cD))))
     (aH (cH (dC (pv 0) T.cl m2 G2 hr b2 .nil aO.pass (aA eW aE))))))))
   (aH (aU (pv 4)))),?_⟩
  intro c hc
  have BB:r≠c:=aD h1 hc
  have K8:aK H (upd H c (.dT [])):=λb o e=>by rw[aC (aD e hc)];exact e
  refine⟨_,rfl,_,rfl,by (clear hu le kx hH hD hW;omega),by (clear hu le kx hD hW;omega),mK (n:=Hh) (λz σ H'=>∃(rs:List (List Int)) (p':Nat) (v5 v6 v7 v8:Option V),σ=[some (.ref r),some (.int W),some (.int D),some (.int Hh),some (.ref c),v5,v6,v7,v8]/\
   rs.length=z * D/\(∀q∈rs,q.length=W)/\CS CR H r a c l D rs [] p' H'/\bX l W (D * Hh) p=gC rs (bX l W (D * Hh - z * D) p'))
   ⟨[],p,none,none,none,none,rfl,by simp,(λq hq=>nomatch hq),⟨aK.sx K8,⟨dx,K8 _ _ h1⟩,le,aB⟩,by rw[kU,Nat.zero_mul,CO]⟩ ?_ ?_⟩
  ·rintro z σ H1 hz ⟨rs,p1,v5,v6,v7,v8,rfl,ky,n9,cs,e1⟩
   have zD:z * D+D<=D * Hh:=by
    rw[m7 D Hh,<-ot]
    exact AM D hz
   have DH:D * Hh<=16 * 18:=E1 hD hH
   refine⟨_,rfl,_,rfl,by (clear DH zD ky hz hu le kx hH hD hW;omega),by (clear DH zD ky hz hu le kx hH hW;omega),mK (n:=D) (λy σ H'=>∃(rs:List (List Int)) (p':Nat) (v6 v7 v8:Option V),σ=[some (.ref r),some (.int W),some (.int D),some (.int Hh),some (.ref c),some (.int z),v6,v7,v8]/\
    rs.length=z * D+y/\(∀q∈rs,q.length=W)/\CS CR H r a c l D rs [] p' H'/\bX l W (D * Hh) p=gC rs (bX l W (D * Hh - (z * D+y)) p'))
    ⟨rs,p1,v6,v7,v8,rfl,ky,n9,cs,e1⟩ ?_ ?_⟩
   ·rintro y σ H2 hy ⟨rs,pr,v6,v7,v8,rfl,ky,n9,cs,e1⟩
    obtain⟨n,hn⟩:∃n,D * Hh - (z * D+y)=n+1:=⟨D * Hh - (z * D+y) - 1,by (clear ky DH hz hu le kx hH hD hW;omega)⟩
    have nj:D * Hh - (z * D+(y+1))=n:=by (clear ky hy DH zD hz hu le kx hH hD hW;omega)
    rw[hn] at e1
    have ey:y=rs.length % D:=by
     rw[ky,m8,yg,uc hy]
    have ez:z=rs.length / D:=by
     rw[ky,m8,yh _ _ kx,yi hy,ou]
    have kE:∀q,bX l W (D * Hh) p=.error q->∀H',SX r H H'->E (.int q 0) none H':=λq e H' s'=>by
     rw[e] at k
     exact k H' s'
    refine⟨_,rfl,_,rfl,by (clear ez ey nj hn ky hy DH zD hz hu le kx hH hD hW;omega),by (clear ez ey nj hn ky hy DH zD hz hu le kx hH hD;omega),mK (n:=W) (λi σ H'=>∃(xs:List Int)(p':Nat)(v7 v8:Option V),σ=SgC r c W D Hh z y v7 v8/\xs.length=i/\CS CR H r a c l D rs xs p' H'/\bZ l W pr=gC xs (bZ l (W - i) p'))
     ⟨[],pr,v7,v8,rfl,rfl,cs,by rw[kU,CO]⟩ ?_ ?_⟩
    ·rintro i σ H3 hi ⟨xs,p',v7,v8,rfl,hx,cs,e2⟩
     exact Kq x hc BB hS hW (by (clear hx hi ez ey nj hn hz hu le kx hH hD hW;omega)) n9 kx ez ey hi hx cs e2 (λq e H' s'=>kE q (by rw[e1];exact Rb e) H' s') λv8 H' BC q g1 g2 g3=>⟨BC,q,_,v8,rfl,g1,g2,g3⟩
    ·rintro σ H3 ⟨xs,p',v7,v8,rfl,hx,cs,e2⟩
     have e3:bZ l W pr=.ok (xs,p'):=by
      rw[e2,CQ]
      show Except.ok (xs++[],p')=_
      rw[fh]
     obtain⟨DK,g3⟩:=id cs.rd
     refine⟨_,rfl,r,DK,_,rfl,g3,rfl,r,a,l,p',"\n",rfl,x.same cs.sx cs.rd cs.le,?_,?_⟩
     ·rw[rF]
      intro q hq
      rw[ie.mp hq]
      decide
     ·rw[rF]
      have ew:aV l p' [10]=if aR l p'=10 then .ok (p'+1) else .error p':=rfl
      rw[ew]
      by_cases di:aR l p'=10
      ·rw[af di]
       intro H4 jd K9 s4
       have c4:H4 c=some (.dT (eC D 0 rs++fN (rs.length % D) (rs.length / D) 0 xs)):=s4 _ _ cs.dc (ax BB)
       refine⟨rs++[xs],p'+1,_,v7,v8,rfl,by simp[ky];(clear K9 di hx ez ey nj hn ky hy DH zD hz hu le kx hH hD hW;omega),λq hq=>?_,⟨cs.sx.trans s4,jd,K9,?_⟩,?_⟩
       ·rcases jp.mp hq with hq|hq
        ·exact n9 q hq
        ·rw[ie.mp hq];exact hx
       ·have ek:=uW D xs rs 0
        rw[ou] at ek
        rw[ek,c4]
        show _=some (HO.dT ((_++_)++[]))
        rw[fh]
       ·rw[e1,aCq e3 di,nj]
      ·rw[ae di]
       intro H4 s4
       exact kE p' (by rw[e1];exact Yv e3 di) H4 (cs.sx.trans s4)
   ·rintro σ H2 ⟨rs,p',v6,v7,v8,rfl,ky,n9,cs,e1⟩
    exact⟨rs,p',_,v6,v7,v8,rfl,by rw[ky,ot],n9,cs,by rw[ot];exact e1⟩
  ·rintro σ H1 ⟨rs,p',v5,v6,v7,v8,rfl,ky,n9,cs,e1⟩
   have e2:bX l W (D * Hh) p=.ok (rs,p'):=by
    rw[e1,m7 Hh D,CQ]
    show Except.ok (rs++[],p')=_
    rw[fh]
   rw[e2] at k
   refine⟨_,rfl,k H1 c cs.rd cs.le cs.sx hc ?_ n9⟩
   rw[cs.dc]
   show some (HO.dT (_++[]))=_
   rw[fh]
noncomputable def eQ(r:Except Nat α)(f:α->Except Nat β):Except Nat β:=match r with
 |.ok a=>f a
 |.error i=>.error i
theorem cC(a:α)(f:α->Except Nat β):eQ (.ok a) f=f a:=rfl
theorem Fd(i:Nat)(f:α->Except Nat β):eQ (.error i) f=.error i:=rfl
instance {l:List Int} {p:Nat} {lo hi:Int}:Decidable (jY l p lo hi):=by unfold jY;infer_instance
noncomputable def gP(l:List Int)(p L:Nat):Except Nat (List Int×Nat):=if kM (aR l p)=true then .ok (bJ l p L,p+(bJ l p L).length) else .error p
noncomputable def jO(l:List Int)(p:Nat)(lo hi:Int):Except Nat (Nat×Nat):=if jY l p lo hi then .ok ((eO l p hi).1.toNat,(eO l p hi).2) else .error p
structure aM where
 name:List Int
 w:Nat
 d:Nat
 h:Nat
 g:Nat
 rows:List (List Int)
noncomputable def dX(l:List Int)(p:Nat):Except Nat (aM×Nat):=
 eQ (aV l p [112,97,114,116,32]) λp1=>eQ (gP l p1 8) λnm=>eQ (aV l nm.2 [32]) λp3=>eQ (jO l p3 1 16) λw=>eQ (aV l w.2 [32]) λp5=>eQ (jO l p5 1 16) λd=>
 eQ (aV l d.2 [32]) λp7=>eQ (jO l p7 1 18) λh=>eQ (aV l h.2 [32]) λp9=>eQ (jO l p9 1 9999) λg=>eQ (aV l g.2 [10]) λzj=>eQ (bX l w.1 (d.1 * h.1) zj) λrs=>.ok (⟨nm.1,w.1,d.1,h.1,g.1,rs.1⟩,rs.2)
theorem Ry:("part ":Str).cps.toList=[112,97,114,116,32]:=by decide+kernel
theorem jH:(" ":Str).cps.toList=[32]:=by decide+kernel
theorem Tf:∀{l:List Int}{hi:Int}{n p:Nat}{v:Int},1<=v->1<=(dG l hi n p v).1
 |l,hi,0,p,v,h=>h
 |l,hi,n+1,p,v,h=>by
  rw[dG]
  split
  ·rename_i q
   have:=jB q.2.1
   exact Tf (by (clear q;omega))
  ·exact h
theorem aBd{lo hi:Int}(h:jY l p lo hi):jO l p lo hi=.ok ((eO l p hi).1.toNat,(eO l p hi).2):=af h
theorem Sv{lo hi:Int}(h:¬jY l p lo hi):jO l p lo hi=.error p:=ae h
theorem Cd{cs:List Nat}{Q:V->Hp->Prop}{E:XK}(hx:x.cps.toList=cs)(kr:∀c∈cs,c<256)(tx:kK K CR H r a l p)
  (k1:∀p',aV l p cs=.ok p'->∀H',kK K CR H' r a l p'->SX r H H'->Q .non H') (k2:∀i,aV l p cs=.error i->∀H',SX r H H'->E (.int i 0) none H'):lX K CR [.ref r,.str x] H Q E:=by
 refine⟨r,a,l,p,x,rfl,tx,by rw[hx];exact kr,?_⟩
 rw[hx]
 cases e:aV l p cs with
 |ok p'=>exact λH' hr hl s=>k1 p' e H' (tx.same s hr hl) s
 |error i=>exact λH' s=>k2 i e H' s
theorem Hf{lo:Int}{Q:V->Hp->Prop}{E:XK}(tx:kK K CR H r a l p)(bo:0<=lo)(d5:hi<=100000)
  (k1:∀v:Nat×Nat,jO l p lo hi=.ok v->v.1<=hi->(1<=lo->1<=v.1)->∀H',kK K CR H' r a l v.2->SX r H H'->Q (.int v.1) H') (k2:jO l p lo hi=.error p->E (.int p 0) none H):lA K CR [.ref r,.int lo,.int hi] H Q E:=by
 refine⟨r,a,l,p,lo,hi,rfl,tx,bo,by (clear bo;omega),λok H' hr hl h0 hh s=>?_,λno=>k2 (Sv no)⟩
 have e:=k1 _ (aBd ok) (by show (eO l p hi).1.toNat<=hi;(clear h0 hl d5 bo;omega)) (λh1=>by
  have z:=Tf (l:=l) (hi:=hi) (n:=l.length - (p+1)) (p:=p+1) (v:=aR l p - 48) (by have:=ok.2.1;(clear hh h0 hl d5 bo;omega))
  show 1<=(eO l p hi).1.toNat
  unfold eO
  (clear h1 hh h0 hl d5 bo;omega)) H' (tx.same s hr hl) s
 have z:(((eO l p hi).1.toNat:Nat):Int)=(eO l p hi).1:=by (clear hh hl d5 bo;omega)
 rw[<-z]
 exact e
noncomputable def eI(CP:Addr)(H:Hp)(b:Addr)(pr:aM):Prop:=∃dx nm c,H b=some (.ins CP dx (Sj nm pr.w pr.d pr.h pr.g c))/\H nm=some (.tup (pr.name.map V.int))/\H c=some (.dT (eC pr.d 0 pr.rows))
structure sU(pr:aM):Prop where
 w1:1<=pr.w
 w2:pr.w<=16
 d1:1<=pr.d
 d2:pr.d<=16
 h1:1<=pr.h
 h2:pr.h<=18
 g2:pr.g<=9999
 rw:∀q∈pr.rows,q.length=pr.w
 rl:pr.rows.length=pr.d * pr.h
 nm:pr.name.length<=8
noncomputable def Lp(K:Frag)(CR CP:Addr):Sp:=λvs H Q E=>∃(r a:Addr)(l:List Int)(p:Nat),vs=[.ref r]/\kK K CR H r a l p/\
 match dX l p with
 |.ok q=>∀(H':Hp)(b:Addr),kK K CR H' r a l q.2->SX r H H'->H b=none->eI CP H' b q.1->sU q.1->Q (.ref b) H'
 |.error i=>∀H':Hp,SX r H H'->E (.int i 0) none H'
theorem Gx{w:Nat}:∀{n p:Nat} {r:List (List Int)×Nat},bX l w n p=.ok r->r.1.length=n
 |0,p,r,h=>by cases h;rfl
 |n+1,p,r,h=>by
  rw[bX] at h
  cases e:fO l w p with
  |error i=>rw[e] at h;cases h
  |ok q=>
   rw[e] at h
   cases e2:bX l w n q.2 with
   |error i=>
    have h:gN q.1 (bX l w n q.2)=.ok r:=h
    rw[e2] at h;cases h
   |ok q2=>
    have h:gN q.1 (bX l w n q.2)=.ok r:=h
    rw[e2] at h
    cases h
    show (_::q2.1).length=n+1
    rw[bh,Gx e2]
theorem uS:∀{n p:Nat},(bJ l p n).length<=n
 |0,p=>ap _
 |n+1,p=>by
  rw[bJ]
  split
  ·rw[bh];exact Nat.succ_le_succ uS
  ·exact c8 _
theorem oN:aN ["reader","name","width","depth","height","weight"] ["reader"] (aG pL):=⟨rfl,rfl,rfl,by decide+kernel,rfl,by decide+kernel,by decide+kernel⟩
theorem zY{L:Nat}{Q:V->Hp->Prop}{E:XK}(tx:kK K CR H r a l p)(hL:L<=1000)
  (k1:∀v:List Int×Nat,gP l p L=.ok v->∀(H':Hp)(q:Addr),kK K CR H' r a l v.2->SX r H H'->H' q=some (.tup (v.1.map V.int))->v.1.length<=L->Q (.ref q) H') (k2:gP l p L=.error p->E (.int p 0) none H):pZ K CR [.ref r,.int L] H Q E:=by
 refine⟨r,a,l,p,L,rfl,tx,hL,λok H' q hr hl s hq=>?_,λno=>k2 ?_⟩
 ·exact k1 (bJ l p L,p+(bJ l p L).length) (af ok) H' q (tx.same s hr hl) s hq uS
 ·exact ae (by rw[no];decide)
theorem eZ{t u:TS}{σ:List (Option V)}(h:t {D with nx:=u D} σ H):Ha t u D σ H:=h
theorem iQ{cs:List Nat}{σ:List (Option V)}{E:XK}(lu:σ[0]?=some (some (.ref r)))(hx:x.cps.toList=cs)(kr:∀c∈cs,c<256)(tx:kK K CR H r a l p)
  (k2:∀i,aV l p cs=.error i->∀H',SX r H H'->E (.int i 0) none H') (k1:∀p',aV l p cs=.ok p'->∀H',kK K CR H' r a l p'->SX r H H'->D.nx σ H'):Af (oF CR "read_word" (lX K CR) [] E (cY 0) (dP (tC (.str x)) gM)) D σ H:=by
 obtain⟨⟨dx,h1⟩,_,_⟩:=id tx
 exact⟨_,lu,r,dx,_,rfl,h1,rfl,Cd (Q:=λ_ H1=>D.nx σ H1) hx kr tx (λp' e H' x' s'=>k1 p' e H' x' s') k2⟩
theorem El{lo hiI:Int}{σ:List (Option V)}{E:XK}(hh:hiI=(hi:Int))(lu:σ[0]?=some (some (.ref r)))(tx:kK K CR H r a l p)(bo:0<=lo)(d5:hi<=100000)
  (k2:jO l p lo hiI=.error p->E (.int p 0) none H) (k1:∀v:Nat×Nat,jO l p lo hiI=.ok v->v.1<=hi->(1<=lo->1<=v.1)->∀H',kK K CR H' r a l v.2->SX r H H'->D.nx (σ.set i (some (.int v.1))) H'):
  Jc (oF CR "read_number" (lA K CR) [] E (cY 0) (dP (tC (.int lo)) (dP (tC (.int hiI)) gM))) (mP i) D σ H:=by
 subst hh
 obtain⟨⟨dx,h1⟩,_,_⟩:=id tx
 exact⟨_,lu,r,dx,_,rfl,h1,rfl,Hf (Q:=λy H1=>D.nx (σ.set i (some y)) H1) tx bo d5 (λv e g1 g2 H' x' s'=>k1 v e g1 g2 H' x' s') k2⟩
theorem Yz{L:Nat}{σ:List (Option V)}{E:XK}(lu:σ[0]?=some (some (.ref r)))(tx:kK K CR H r a l p)(hL:L<=1000)(k2:gP l p L=.error p->E (.int p 0) none H)
  (k1:∀v:List Int×Nat,gP l p L=.ok v->∀(H':Hp)(q:Addr),kK K CR H' r a l v.2->SX r H H'->H' q=some (.tup (v.1.map V.int))->v.1.length<=L->D.nx (σ.set i (some (.ref q))) H'):
  Jc (oF CR "read_name" (pZ K CR) [] E (cY 0) (dP (tC (.int L)) gM)) (mP i) D σ H:=by
 obtain⟨⟨dx,h1⟩,_,_⟩:=id tx
 exact⟨_,lu,r,dx,_,rfl,h1,rfl,zY (Q:=λy H1=>D.nx (σ.set i (some y)) H1) tx hL (λv e H' q x' s' g1 g2=>k1 v e H' q x' s' g1 g2) k2⟩
theorem SX.tup(s:SX r H H')(hr:iL CR H r a p)(h:H q=some (.tup xs)):H' q=some (.tup xs):=by
 obtain⟨dx,g⟩:=hr
 exact s _ _ h (by rintro rfl;rw[g] at h;cases h)
theorem b32:∀c∈([32]:List Nat),c<256:=by decide
theorem b10:∀c∈([10]:List Nat),c<256:=by decide
structure PtM(P:Program)(w:World)(K:Frag)(mg:Str->Option Value)(base:Heap)(CP:Addr):Prop where
 ex:∃f fd,Mk K CP f/\bV P w K mg base bU 1 f fd ["self","name","width","depth","height","weight","cells"] (Np CP)/\eT K fd ["self","name","width","depth","height","weight","cells"] []
 mg:mg "Part"=some (.ref CP)
theorem aAl(F:fH K "read_part" "read_part" pL f fd)(T:Jj K CR)(PM:PtM P w K mg base CP)(c1:CI mg "LONGEST_PART_NAME" 8)(c2:CI mg "MOST_WIDTH" 16)(c3:CI mg "MOST_DEPTH" 16)(c4:CI mg "MOST_HEIGHT" 18)(c5:CI mg "MOST_WEIGHT" 9999)
  (M1:pB P w K mg base CR "read_word" (jN C P w) 5 ["self","word"] (lX K CR)) (M2:pB P w K mg base CR "read_name" (jN C P w) 4 ["self","longest"] (pZ K CR)) (M3:pB P w K mg base CR "read_number" (jN C P w) 4 ["self","least","most"] (lA K CR))
  (L1:dL P w K mg base "read_cells" (jN C P w) 6 ["reader","width","depth","height"] (Cm K CR)):bV P w K mg base (jN C P w) 7 f fd ["reader"] (Lp K CR CP):=by
 obtain⟨f1,qu,m1,G1,b1⟩:=M1.ex
 obtain⟨f2,w6,m2,G2,b2⟩:=M2.ex
 obtain⟨f3,K',m3,G3,b3⟩:=M3.ex
 obtain⟨g1,gr,GC,bC,kC,hC⟩:=L1.ex
 obtain⟨fp,fdp,MP,GP,bP⟩:=PM.ex
 refine F.okX oN (λvs H Q E h=>?_) (λak A outer s H vs Q E hr h=>?_)
 ·obtain⟨r,a,l,p,rfl,_⟩:=h
  rfl
 ·obtain⟨r,a,l,p,rfl,x,k⟩:=h
  have j2:=hr.mono (j:=5) (by decide)
  have jd:=hr.mono (j:=4) (by decide)
  have ba:=hr.mono (j:=2) (by decide)
  refine⟨_,aF (cH (dC (pv 0) T.cl m1 G1 j2 b1 .nil aO.pass (aA eW aE)))
   (aF (bI (i:=1) oN.nd rfl (Or.inl rfl) (dC (pv 0) T.cl m2 G2 jd b2 .nil aO.pass (aA (fA c1) aE)))
   (aF (cH (dC (pv 0) T.cl m1 G1 j2 b1 .nil aO.pass (aA eW aE)))
   (aF (bI (i:=2) oN.nd rfl (Or.inl rfl) (dC (pv 0) T.cl m3 G3 jd b3 .nil aO.pass (aA aI (aA (fA c2) aE))))
   (aF (cH (dC (pv 0) T.cl m1 G1 j2 b1 .nil aO.pass (aA eW aE)))
   (aF (bI (i:=3) oN.nd rfl (Or.inl rfl) (dC (pv 0) T.cl m3 G3 jd b3 .nil aO.pass (aA aI (aA (fA c3) aE))))
   (aF (cH (dC (pv 0) T.cl m1 G1 j2 b1 .nil aO.pass (aA eW aE)))
   (aF (bI (i:=4) oN.nd rfl (Or.inl rfl) (dC (pv 0) T.cl m3 G3 jd b3 .nil aO.pass (aA aI (aA (fA c4) aE))))
   (aF (cH (dC (pv 0) T.cl m1 G1 j2 b1 .nil aO.pass (aA eW aE)))
   (aF (bI (i:=5) oN.nd rfl (Or.inl rfl) (dC (pv 0) T.cl m3 G3 jd b3 .nil aO.pass (aA aI (aA (fA c5) aE))))
   (aF (cH (dC (pv 0) T.cl m1 G1 j2 b1 .nil aO.pass (aA eW aE)))
   (aH (aU (oV MP GP ba (by rfl) PM.mg bP .nil aX (aA (pv 1) (aA (pv 2) (aA (pv 3) (aA (pv 4) (aA (pv 5)
    (aA (aP GC hr (by rfl) hC kC bC .nil aO.pass (aA (pv 0) (aA (pv 2) (aA (pv 3) (aA (pv 4) aE))))) aE))))))))))))))))))),?_⟩
  unfold dX at k
  refine eZ (iQ rfl Ry (by decide) x (λi e1 H' s1=>by rw[e1] at k;exact k H' s1) λp1 e1 H1 x1 s1=>?_)
  rw[e1,cC] at k
  refine eZ (Yz (L:=8) rfl x1 (by decide) (λe2=>by rw[e2] at k;exact k _ s1) λnm e2 H2 qn x2 s2 hn RC=>?_)
  rw[e2,cC] at k
  have s2:=s1.trans s2
  refine eZ (iQ rfl jH b32 x2 (λi e3 H' s3=>by rw[e3] at k;exact k H' (s2.trans s3)) λp3 e3 H3 x3 s3=>?_)
  rw[e3,cC] at k
  have F8:=s3.tup x2.rd hn
  have s3:=s2.trans s3
  refine eZ (El (lo:=1) (hiI:=16) (hi:=16) rfl rfl x3 (by decide) (by decide) (λe4=>by rw[e4] at k;exact k _ s3) λW e4 LA RD H4 x4 s4=>?_)
  rw[e4,cC] at k
  have RE:=s4.tup x3.rd F8
  have s4:=s3.trans s4
  refine eZ (iQ rfl jH b32 x4 (λi e5 H' s5=>by rw[e5] at k;exact k H' (s4.trans s5)) λp5 e5 H5 x5 s5=>?_)
  rw[e5,cC] at k
  have ux:=s5.tup x4.rd RE
  have s5:=s4.trans s5
  refine eZ (El (lo:=1) (hiI:=16) (hi:=16) rfl rfl x5 (by decide) (by decide) (λe6=>by rw[e6] at k;exact k _ s5) λD e6 uz cn H6 x6 s6=>?_)
  rw[e6,cC] at k
  have RF:=s6.tup x5.rd ux
  have s6:=s5.trans s6
  refine eZ (iQ rfl jH b32 x6 (λi e7 H' s7=>by rw[e7] at k;exact k H' (s6.trans s7)) λp7 e7 H7 x7 s7=>?_)
  rw[e7,cC] at k
  have RG:=s7.tup x6.rd RF
  have s7:=s6.trans s7
  refine eZ (El (lo:=1) (hiI:=18) (hi:=18) rfl rfl x7 (by decide) (by decide) (λe8=>by rw[e8] at k;exact k _ s7) λHh e8 LB RH H8 x8 s8=>?_)
  rw[e8,cC] at k
  have RI:=s8.tup x7.rd RG
  have s8:=s7.trans s8
  refine eZ (iQ rfl jH b32 x8 (λi e9 H' s9=>by rw[e9] at k;exact k H' (s8.trans s9)) λp9 e9 H9 x9 s9=>?_)
  rw[e9,cC] at k
  have RJ:=s9.tup x8.rd RI
  have s9:=s8.trans s9
  refine eZ (El (lo:=1) (hiI:=9999) (hi:=9999) rfl rfl x9 (by decide) (by decide) (λzk=>by rw[zk] at k;exact k _ s9) λg zk sk DL FY LC zc=>?_)
  rw[zk,cC] at k
  have RL:=zc.tup x9.rd RJ
  have zc:=s9.trans zc
  refine eZ (iQ rfl rF b10 LC (λi k6 H' uo=>by rw[k6] at k;exact k H' (zc.trans uo)) λzj k6 LD LF uo=>?_)
  rw[k6,cC] at k
  have F9:=uo.tup LC.rd RL
  have uo:=zc.trans uo
  obtain⟨⟨dx,h1⟩,_,_⟩:=id LF
  have kx:=cn (by decide)
  refine⟨_,rfl,_,rfl,_,rfl,_,rfl,_,rfl,_,rfl,_,rfl,_,rfl,_,rfl,r,a,l,zj,W.1,D.1,Hh.1,rfl,LF,LA,uz,LB,kx,?_⟩
  cases lw:bX l W.1 (D.1 * Hh.1) zj with
  |error i=>
   intro H' s'
   rw[lw] at k
   exact k H' (uo.trans s')
  |ok q=>
   intro BD c RN RO LG hc C2 n9
   rw[lw,cC] at k
   have RP:=LG _ _ F9 (by rintro rfl;rw[h1] at F9;cases F9)
   have LH:=uo.trans LG
   intro b db hb gn aw
   obtain⟨RQ,LI⟩:=id RN
   refine⟨b,db,qn,c,W.1,D.1,Hh.1,g.1,rfl,aB,λF' w9 RR=>⟨rfl,?_⟩⟩
   have up:∀y o,BD y=some o->upd (upd BD db (.own b)) b (.ins CP db []) y=some o:=λy o e=>by rw[aC (aD e hb),aC (aD e gn)];exact e
   have xc:∀y o,BD y=some o->F' y=some o:=λy o e=>RR y o (up y o e) (aD e hb)
   have sH:SX r H F':=λy o e hy=>xc y o (LH y o e hy)
   have GA:H b=none:=by
    cases z:H b with
    |none=>rfl
    |some o=>
     have:=LH b o z (by rintro rfl;rw[LI] at hb;cases hb)
     rw[hb] at this;cases this
   refine k F' b (x.same sH ⟨RQ,xc _ _ LI⟩ RO) sH GA ⟨db,qn,c,w9,xc _ _ RP,xc _ _ C2⟩ ⟨RD (by decide),LA,kx,uz,RH (by decide),LB,sk,n9,Gx lw,RC⟩
def cW(l:List Int):Nat->Nat->Except Nat (List aM×Nat)
 |0,p=>.ok ([],p)
 |n+1,p=>if p=l.length then .ok ([],p) else eQ (dX l p) λq=>gN q.1 (cW l n q.2)
def iF(l:List Int):Except Nat (List aM):=eQ (dX l 0) λq=>eQ (cW l 63 q.2) λr=>if r.2=l.length then .ok (q.1::r.1) else .error r.2
variable{pr:aM}
theorem eI.keep(h:eI CP H b pr)(k:∀y o,H y=some o->(y=b\/(∃xs,o=.tup xs)\/∃aJ,o=.dT aJ)->H' y=some o):eI CP H' b pr:=by
 obtain⟨dx,nm,c,h1,h2,h3⟩:=h
 exact⟨dx,nm,c,k _ _ h1 (.inl rfl),k _ _ h2 (.inr (.inl ⟨_,rfl⟩)),k _ _ h3 (.inr (.inr ⟨_,rfl⟩))⟩
theorem eI.same(h:eI CP H b pr)(s:aK H H'):eI CP H' b pr:=h.keep λy o e _=>s y o e
theorem eI.sx(h:eI CP H b pr)(hb:b≠r)(hr:iL CR H r a p)(s:SX r H H'):eI CP H' b pr:=by
 obtain⟨dx,g⟩:=hr
 refine h.keep λy o e z=>s y o e ?_
 rintro rfl
 rw[g] at e
 cases e
 rcases z with z|⟨_,z⟩|⟨_,z⟩
 ·exact hb z.symm
 ·cases z
 ·cases z
theorem eI.list{ys:List V}(h:eI CP H b pr)(hq:H q=some (.lst xs)):eI CP (upd H q (.lst ys)) b pr:=by
 have hb:b≠q:=by
  obtain⟨dx,nm,c,h1,_⟩:=h
  rintro rfl
  rw[h1] at hq
  cases hq
 refine h.keep λy o e z=>?_
 rw[aC ?_]
 ·exact e
 ·rintro rfl
  rw[hq] at e
  cases e
  rcases z with z|⟨_,z⟩|⟨_,z⟩
  ·exact hb z.symm
  ·cases z
  ·cases z
def dS(CP:Addr)(H:Hp)(bs:List Addr)(aa:List aM):Prop:=Paired (λb pr=>eI CP H b pr/\sU pr) bs aa
def Mw(K:Frag)(CP:Addr):Sp:=λvs H Q E=>∃(a:Addr)(l:List Int),vs=[.ref a]/\cR K H a (l.map V.int)/\
 match iF l with
 |.ok aa=>∀(H':Hp)(q:Addr)(bs:List Addr),aK H H'->H' q=some (.lst (bs.map V.ref))->dS CP H' bs aa->aa.length<=64->1<=aa.length->Q (.ref q) H'
 |.error i=>∀H':Hp,aK H H'->E (.int i 0) none H'
theorem Kz:aN ["c","reader","parts"] ["c"] (aG rX):=⟨rfl,rfl,rfl,by decide+kernel,rfl,by decide+kernel,by decide+kernel⟩
structure RdK(P:Program)(w:World)(K:Frag)(mg:Str->Option Value)(base:Heap)(CR:Addr):Prop where
 ex:∃f fd,Mk K CR f/\bV P w K mg base bU 1 f fd ["self","text"] (aFx CR)/\eT K fd ["self","text"] []
 mg:mg "Reader"=some (.ref CR)
def aE1(CR CP:Addr)(H:Hp)(r a q:Addr)(l:List Int)(p0 m:Nat)(RS:aM)(σ:List (Option V))(H':Hp):Prop:=
 ∃(ps:List aM)(bs:List Addr)(p':Nat),σ=[some (.ref a),some (.ref r),some (.ref q)]/\ps.length+m=63/\p'<=l.length/\aK H H'/\iL CR H' r a p'/\H' q=some (.lst (bs.map V.ref))/\
  Paired (λb pr=>b≠r/\eI CP H' b pr/\sU pr) bs (RS::ps)/\cW l 63 p0=gC ps (cW l m p')
theorem aCi(F:fH K "read_catalogue" "read_catalogue" rX f fd)(T:Jj K CR)(RK:RdK P w K mg base CR)(bi:mg "len"=none)(c1:CI mg "MOST_PARTS" 64)(M1:pB P w K mg base CR "ended" bU 1 ["self"] (oW K CR))
  (M2:pB P w K mg base CR "read_end" (jN C P w) 3 ["self"] (Cc K CR)) (L1:dL P w K mg base "read_part" (jN C P w) 7 ["reader"] (Lp K CR CP)):bV P w K mg base (jN C P w) 8 f fd ["c"] (Mw K CP):=by
 obtain⟨f1,qu,m1,G1,b1⟩:=M1.ex
 obtain⟨f2,w6,m2,G2,b2⟩:=M2.ex
 obtain⟨g1,gr,GP,bP,kP,hP⟩:=L1.ex
 obtain⟨fr,fdr,MR,GR,bR⟩:=RK.ex
 refine F.okX Kz (λvs H Q E h=>?_) (λak A outer s H vs Q E hr h=>?_)
 ·obtain⟨a,l,rfl,_⟩:=h
  rfl
 ·obtain⟨a,l,rfl,tx,k⟩:=h
  have i6:=hr.mono (j:=3) (by decide)
  have ba:=hr.mono (j:=2) (by decide)
  have bn:=hr.mono (j:=1) (by decide)
  refine⟨_,aF (bI (i:=1) Kz.nd rfl (Or.inl rfl) (oV MR GR ba (by rfl) RK.mg bR .nil aX (aA (pv 0) aE)))
   (aF (bI (i:=2) Kz.nd rfl (Or.inl rfl) (eN (aA (aP GP hr (by rfl) hP kP bP .nil aO.pass (aA (pv 1) aE)) aE)))
   (aF (lJ aO.own (iH (eB (Mm (bS bW (by rfl) bi boot_len (aA (pv 2) aE)) (fA c1))) (iK (mE (eS (cF (pv 1) T.cl m1 G1 bn b1 .nil aX))))).pt
    (aH (cH (nQ plainAttrs_list PySem.F.slot_list_append PySem.F.type_list_append gU (pv 2) (aA (aP GP hr (by rfl) hP kP bP .nil aO.pass (aA (pv 1) aE)) aE)))))
   (aF (cH (cF (pv 1) T.cl m2 G2 i6 b2 .nil aO.pass))
   (aH (aU (pv 2)))))),?_⟩
  refine⟨_,rfl,λr dr nr ndr ndrr=>?_⟩
  refine⟨r,dr,a,rfl,aB,λH1 bn s1=>⟨rfl,?_⟩⟩
  have up:∀y o,H y=some o->H1 y=some o:=λy o e=>s1 y o (by rw[aC (aD e nr),aC (aD e ndr)];exact e) (aD e nr)
  have S1:aK H H1:=up
  have x1:kK K CR H1 r a l 0:=⟨bn,S1.seq tx,c8 _⟩
  have u4:∀{H2:Hp},SX r H1 H2->aK H H2:=λs2 y o e=>s2 y o (S1 y o e) (aD e nr)
  unfold iF at k
  refine⟨_,rfl,r,a,l,0,rfl,x1,?_⟩
  cases e1:dX l 0 with
  |error i=>
   intro H' s'
   rw[e1] at k
   exact k H' (u4 s')
  |ok q0=>
   intro H2 b0 x2 s2 LJ RT RU
   rw[e1,cC] at k
   refine⟨by show 1<=sizeLine;decide,λq hq=>?_⟩
   have GA:b0≠r:=λz=>by rw[z] at LJ;obtain⟨dx,g⟩:=bn;rw[LJ] at g;cases g
   have sq:aK H2 (upd H2 q (.lst [.ref b0])):=λb o e=>by rw[aC (aD e hq)];exact e
   have GF:H q=none:=(u4 s2).free hq
   obtain⟨mr,g2⟩:=x2.rd
   refine⟨λm=>aE1 CR CP H r a q l q0.2 m q0.1,⟨63,[],[b0],q0.2,rfl,rfl,x2.le,(u4 s2).trans sq,⟨mr,sq _ _ g2⟩,aB,.cons ⟨GA,RT.same sq,RU⟩ .nil,by rw[kU]⟩,?_⟩
   rintro m σ H3 ⟨ps,bs,p',rfl,hm,lp,S3,i6,j3,pp,e3⟩
   have x3:kK K CR H3 r a l p':=⟨i6,S3.seq tx,lp⟩
   obtain⟨DK,g3⟩:=id i6
   have je:bs.length=ps.length+1:=by
    have:=Paired.length pp
    rw[bh] at this
    exact this
   have o9:r≠q:=λz=>by rw[z,j3] at g3;cases g3
   have fin:cW l m p'=.ok ([],p')->Ha (Af (oF CR "read_end" (Cc K CR) [] E (cY 1) gM)) (aCf (cY 2)) {nx:=λ_ H'=>Q .non H',rt:=Q} [some (.ref a),some (.ref r),some (.ref q)] H3:=by
    intro e4
    have e5:cW l 63 q0.2=.ok (ps,p'):=by
     rw[e3,e4]
     show Except.ok (ps++[],p')=_
     rw[fh]
    rw[e5,cC] at k
    refine⟨_,rfl,r,DK,_,rfl,g3,rfl,r,a,l,p',rfl,x3,λhe=>⟨_,rfl,?_⟩,λhe=>?_⟩
    ·have he:p'=l.length:=he
     rw[af he] at k
     refine k H3 q bs S3 j3 (Paired.mapP pp λ_ _ z=>z.2) ?_ ?_
     ·show (q0.1::ps).length<=64
      rw[bh]
      (clear he je lp;omega)
     ·show 1<=(q0.1::ps).length
      rw[bh]
      (clear he je lp hm;omega)
    ·have he:¬p'=l.length:=he
     rw[ae he] at k
     exact k H3 S3
   refine⟨_,rfl,q,_,rfl,.inl (cR.of j3),_,_,rfl,rfl,_,rfl,cE (λam=>?_) (λam=>vD (fin ?_))⟩
   ·have am:((bs.map V.ref).length:Int)<64:=d7 am
    rw[ai] at am
    obtain⟨n,rfl⟩:∃n,m=n+1:=⟨m - 1,by (clear lp;omega)⟩
    refine⟨_,rfl,r,DK,_,rfl,g3,rfl,r,a,l,p',rfl,x3,_,rfl,cE (λaw=>?_) (λaw=>fin ?_)⟩
    ·rw[cx,l9] at aw
     refine⟨aE1 CR CP H r a q l q0.2 n q0.1,λ_ _ z=>⟨n,k8 n,z⟩,?_⟩
     refine⟨_,rfl,.inl ⟨rfl,_,cR.of j3⟩,_,rfl,r,a,l,p',rfl,x3,?_⟩
     have e4:cW l (n+1) p'=eQ (dX l p') λq=>gN q.1 (cW l n q.2):=ae aw
     cases e5:dX l p' with
     |error i=>
      intro H' s'
      have e6:cW l 63 q0.2=.error i:=by
       rw[e3,e4,e5]
       rfl
      rw[e6] at k
      exact k H' λy o e=>s' y o (S3 y o e) (aD e nr)
     |ok q1=>
      intro H4 b4 x4 s4 DM RV RW
      have xf:H4 q=some (.lst (bs.map V.ref)):=s4 _ _ j3 (ax o9)
      refine⟨q,_,_,rfl,rfl,xf,?_,?_⟩
      ·rw[ai]
       have:=aY
       (clear aw hm je lp;omega)
      ·have RX:b4≠r:=λz=>by rw[z,g3] at DM;cases DM
       obtain⟨BE,g4⟩:=x4.rd
       refine⟨ps++[q1.1],bs++[b4],q1.2,rfl,by simp;(clear aw am je lp;omega),x4.le,λy o e=>?_,⟨BE,by rw[aC o9];exact g4⟩,by rw[aB,b7];rfl,?_,?_⟩
       ·have e7:=S3 y o e
        have e8:=s4 y o e7 (aD e nr)
        rw[aC (aD e GF)]
        exact e8
       ·have RY:Paired (λb pr=>b≠r/\eI CP (upd H4 q (.lst (bs.map V.ref++[V.ref b4]))) b pr/\sU pr) bs (q0.1::ps):=Paired.mapP pp λb pr z=>⟨z.1,(z.2.1.sx z.1 i6 s4).list xf,z.2.2⟩
        exact Paired.snoc RY ⟨RX,RV.list xf,RW⟩
       ·rw[e3,e4,e5,cC,jJ]
    ·rw[cx,l9,AL] at aw
     exact af aw
   ·have am:¬((bs.map V.ref).length:Int)<64:=λz=>am (c9 z)
    rw[ai] at am
    rw[show m=0 by (clear lp;omega)]
    rfl
end Br1
variable{pr:Br1.aM}{aa:List Br1.aM}
namespace L2
open PySem PySem.Spec PyProof.Rows
section
variable{es:Array DictEntry}
theorem Bv(hs:(d==sysModules)=false):MeetsIn prog w (Builtin.«dict.items» ⟨[.ref d],[]⟩) (λ_ R s=>s.TypeIs (.ref d) "dict"/\
  R (.ok (.ret (.ref s.heap.objs.size))) {s with heap:=s.heap.push {cls:=.type "dict_items",data:=.fields #[.ref d]}}):=
 .of_wp λA R s ⟨hm,h⟩=>by
  unfold Builtin.«dict.items» Builtin.Dict.noArgs
  refine ac (ac (JN hm ?_))
  show wpAny _ _ (pure d) _ _ s
  refine ag ?_
  show wpAny _ _ (Builtin.Dict.showsAll d>>=_) _ _ s
  unfold Builtin.Dict.showsAll
  rw[ae (by rw[hs];exact ca)]
  exact ac (ag (ac (ip (ag ⟨_,rfl,h⟩))))
theorem Hu{v:Addr}{n:Nat}(hv:s.heap.IsItemsView v d)(ho:s.heap.get? d=some o)(kg:o.data=.dict es ep)(hn:es.size=n)
  (hQ:Q (.ref s.heap.objs.size) {s with heap:=s.heap.push {cls:=.type "dict_itemiterator",data:=.fields #[.none,.bool false,.ref d,.int 0 0,.int n 0,.int ep 0,.none,.none]}}):
  wpAny (model prog w) A (pyIter (.ref v)) Q E s:=by
 obtain⟨ov,RZ,WI,R0⟩:=id hv
 refine B' hv.typeIs OH (jg OH hv.typeIs F.entry_dict_items_iter ?_ (F.args_dict_items_iter_1 _))
 unfold Builtin.«dict_items.__iter__»
 refine ac (ag (ac ?_))
 unfold Builtin.Dict_items.dictOf
 refine ac (j6 RZ R0 (x:=.ref d) rfl (ag (ac ?_)))
 unfold Builtin.Dict_items.newIterator
 refine ac (qd ho kg (ac (vw ho kg ?_)))
 have se:Builtin.Dict_items.ownsTuple "dict_itemiterator"=true:=by decide
 simp only[se,vk]
 refine ip (ag ⟨_,rfl,"dict_itemiterator",_,⟨_,cg _ rfl,rfl⟩,CT.lookup,?_⟩)
  (by simp only[sizeOk,Builtin.Dict_items.ownedTupleFields,cb,b6,bh,lh,p8];(clear hn;omega))
 simpa[rawInt,hn,Builtin.Dict_items.ownedTupleFields] using hQ
theorem Sx{n:Nat}{en:DictEntry}{ok ov:Value}{Q:Option Value->Shared->Prop}(bu:IsItemIter s.heap it d i n ep ok ov)(i5:s.heap.get? d=some o)(o7:o.data=.dict es ep)(hsz:es.size=n)(ur:es[i]?=some en)
  (hQ:∀h',IsItemIterOut h' it d (i+1) n ep en.key en.val s.heap.objs.size->h'.get? s.heap.objs.size=some {cls:=.type "tuple",data:=.seq #[en.key,en.val]}->
   (∀b ob,b≠it->s.heap.get? b=some ob->h'.get? b=some ob)->Q (some (.ref s.heap.objs.size)) {s with heap:=h'}):
  wpAny (model prog w) A (pyNext (.ref it)) Q E s:=by
 obtain⟨hp,g,dr,tk,os⟩:=s
 have hT:Shared.TypeIs ⟨hp,g,dr,tk,os⟩ (.ref it) "dict_itemiterator":=⟨_,bu,rfl⟩
 obtain⟨am,WJ⟩:=wa.mp ur
 unfold pyNext
 refine ac (ua (mw (name:=Str.ofString "__next__") hT CT
  (jg CT hT OI ?_ (OJ _))))
 refine ac (ag (ac (ac ?_)))
 first|refine ac (E2 hT (ag ?_))|refine ac (E3 hT (ag ?_))
 refine ac (v9 bu rfl ?_)
 have se:Builtin.Dict_items.ownsTuple "dict_itemiterator"=true:=by decide
 simp only[se,vk]
 show wpAny _ _ (if (Value.ref d==Value.none)=true then _ else _) _ _ _
 rw[ae (show ¬((Value.ref d==Value.none)=true) from ca)]
 refine ac (ag (ac (qd i5 o7 ?_)))
 rw[ae (by rw[hsz];simp)]
 refine ac (ag (ac (vw i5 o7 ?_)))
 rw[ae (by simp)]
 refine ag ?_
 simp only[show ¬((i:Int)<0) from by (clear hsz;omega),jy,fq,ur]
 refine ac ?_
 first|refine ac (E2 hT (ag ?_))|refine ac (E3 hT (ag ?_))
 refine ac (JR hT ?_)
 show wpAny _ _ (setField (.ref it) 3 (rawInt ((i:Int)+1))>>=_) _ _ ⟨hp,g,dr,tk,os⟩
 refine ac (wpAny_setField_rec bu (by simp) λh1 BF j4=>?_)
 replace j4:Heap.SameBut it hp h1:=j4
 replace BF:IsItemIter h1 it d (i+1) n ep ok ov:=by
  have e:((i+1:Nat):Int)=(i:Int)+1:=by (clear hsz;omega)
  unfold IsItemIter;rw[e];simpa[rawInt] using BF
 have GH:Shared.TypeIs ⟨h1,g,dr,tk,os⟩ (.ref it) "dict_itemiterator":=⟨_,BF,rfl⟩
 refine ac (j7 (ac (JR GH (ac (JR GH ?_)))))
 show wpAny _ _ (Builtin.Dict_items.pairFromOwner (.ref it) 6 en.key en.val) _ _ ⟨h1,g,dr,tk,os⟩
 unfold Builtin.Dict_items.pairFromOwner
 refine ac (wpAny_newTuple ?_)
 have BG:IsItemIter (h1.push {cls:=.type "tuple",data:=.seq #[en.key,en.val]}) it d (i+1) n ep ok ov:=bj _ BF
 generalize qw:h1.push {cls:=.type "tuple",data:=.seq #[en.key,en.val]}=h2 at BG
 have BH:h1.objs.size=hp.objs.size:=j4.1
 have zf:it<hp.objs.size:=bg bu
 have qx:h2.get? hp.objs.size=some {cls:=.type "tuple",data:=.seq #[en.key,en.val]}:=by rw[<-qw,<-BH];exact cg _ rfl
 have BI:∀b ob,b≠it->hp.get? b=some ob->h2.get? b=some ob:=λb ob hb e=>by rw[<-qw];exact bj _ (j4.extBut b ob hb e)
 show wpAny _ _ (Builtin.Dict_items.ownedTupleIsFree (.ref it)>>=_) _ _ ⟨h2,g,dr,tk,os⟩
 rw[BH]
 clear qw BF j4 GH BH h1
 refine ac ?_
 unfold Builtin.Dict_items.ownedTupleIsFree
 refine ac (j6 BG rfl (x:=.none) rfl (ag ?_))
 simp only[vk]
 refine ac (j6 BG rfl (x:=ok) rfl (ac (j6 BG rfl (x:=ov) rfl ?_)))
 refine ac (wpAny_setField_rec BG (by simp) λh3 GI o6=>?_)
 replace o6:Heap.SameBut it h2 h3:=o6
 replace GI:IsItemIter h3 it d (i+1) n ep en.key ov:=GI
 refine ac (wpAny_setField_rec GI (by simp) λh4 GJ wu=>?_)
 replace wu:Heap.SameBut it h3 h4:=wu
 replace GJ:IsItemIter h4 it d (i+1) n ep en.key en.val:=GJ
 refine ac (wpAny_setField_rec GJ (by simp) λh5 GK iu=>?_)
 replace iu:Heap.SameBut it h4 h5:=iu
 replace GK:IsItemIterOut h5 it d (i+1) n ep en.key en.val hp.objs.size:=GK
 refine ac (wpAny_setField_rec GK (by simp) λh6 GN xg=>?_)
 replace xg:Heap.SameBut it h5 h6:=xg
 replace GN:IsItemIterOut h6 it d (i+1) n ep en.key en.val hp.objs.size:=GN
 have keep:∀b ob,b≠it->h2.get? b=some ob->h6.get? b=some ob:=λb ob hb e=>xg.extBut b ob hb (iu.extBut b ob hb (wu.extBut b ob hb (o6.extBut b ob hb e)))
 exact ac (wpAny_letGo (ag (ag ⟨_,rfl,ag (hQ h6 GN (keep _ _ (px zf) qx) λb ob hb e=>keep b ob hb (BI b ob hb e))⟩)))
theorem aA2{n:Nat}{ok ov:Value}{Q:Option Value->Shared->Prop}(hh:A.handled=none)(bu:IsItemIter s.heap it d i n ep ok ov)(i5:s.heap.get? d=some o)(o7:o.data=.dict es ep)(hsz:es.size=n)(DC:n<=i)
  (hQ:∀h',Heap.ExtBut it s.heap h'->Q none {s with heap:=h'}):wpAny (model prog w) A (pyNext (.ref it)) Q E s:=by
 have hT:s.TypeIs (.ref it) "dict_itemiterator":=⟨_,bu,rfl⟩
 unfold pyNext
 refine ac (ua (mw (name:=Str.ofString "__next__") hT CT
  (jg CT hT OI ?_ (OJ _))))
 refine ac (ag (ac (ac ?_)))
 first|refine ac (E2 hT (ag ?_))|refine ac (E3 hT (ag ?_))
 refine ac (v9 bu rfl ?_)
 have se:Builtin.Dict_items.ownsTuple "dict_itemiterator"=true:=by decide
 simp only[se,vk]
 show wpAny _ _ (if (Value.ref d==Value.none)=true then _ else _) _ _ s
 rw[ae (show ¬((Value.ref d==Value.none)=true) from ca)]
 refine ac (ag (ac (qd i5 o7 ?_)))
 rw[ae (by rw[hsz];simp)]
 refine ac (ag (ac (vw i5 o7 ?_)))
 rw[ae (by simp)]
 refine ag ?_
 have cp:es.size<=i:=by rw[hsz];exact DC
 simp only[show ¬((i:Int)<0) from by (clear cp DC hsz;omega),jy,fq,JM cp]
 refine ac ?_
 first|refine ac (E2 hT (ag ?_))|refine ac (E3 hT (ag ?_))
 show wpAny _ _ (setField (.ref it) 2 .none>>=_) _ _ s
 refine ac (l0 bu rfl (by simp) ?_)
 show wpAny _ _ (newExc (.type "StopIteration") []>>=_) _ _ _
 refine ac ?_
 simp only[newExc,newTuple]
 refine ac (ip ?_ (by size_fits))
 refine ac (m:=firstArgMember _ _) (AJ (a:=Value.none) (by first|rfl|(simp only[firstArgMember];rfl)) ?_)
 refine ip ?_ (by size_fits)
 simp only[raiseNew]
 refine ac (CC ?_)
 rw[show A.in1.handled=none from hh]
 refine ac (ag (CD ?_))
 refine ac (AK (T:="StopIteration") (b:=true) ⟨_,cg _ rfl,rfl⟩ ET ?_)
 exact ag (hQ _ (((jz ..).extBut.push _).push _))
end
theorem aQ.frzT2{aJ:List (List dQ×V)}(I:aQ X U σ H s)(h:H d=some (.frz o (.dT aJ))):
  (d==sysModules)=false/\s.heap.get? d=some o/\o.ExactDict/\∃(es:Array DictEntry)(ep:Nat),o.data=.dict es ep/\es.size=aJ.length/\
   ∀(i:Nat)(k:List dQ)(v:V),aJ[i]?=some (k,v)->∃(en:DictEntry)(q:Addr),es[i]?=some en/\en.key=.ref q/\H q=some (.tup (k.map kV))/\cB v en.val:=by
 obtain⟨hd,z,hs,xs,pr,o',es,ep,ho,hx,cf,he,_⟩:=I.hok d _ h
 rw[hd] at ho
 cases ho
 refine⟨hs,hd,hx,es,ep,cf,?_,λi k v e=>?_⟩
 ·have l1:es.size=xs.length:=CF he
  have l2:aJ.length=xs.length:=Paired.length pr
  (clear z;omega)
 ·obtain⟨b,hb,e1,e2,e3⟩:=jK pr e
  have q:=CH he i
  rw[hb] at q
  exact⟨_,b.2.1,q,rfl,e2,e3⟩
def Lb(d:Addr)(o:Obj)(aJ:List (List dQ×V)):It:=
 ⟨λi H=>H d=some (.frz o (.dT aJ))/\i<aJ.length,λi H x H'=>∃T k v q,aJ[i]?=some (k,v)/\x=.ref T/\H T=none/\H q=some (.tup (k.map kV))/\H'=upd H T (.tup [.ref q,v]),λi H=>H d=some (.frz o (.dT aJ))/\aJ.length<=i⟩
variable{K:Frag}
theorem uQ{es:Array DictEntry}{aJ:List (List dQ×V)}{ju:List Expr}{kk:Nat}(it:Addr)(i5:o.data=.dict es ep):
  xU P w K (.Tuple ju kk i3) (Lb d o aJ) [it] it (λi h=>∃ok ov,IsItemIter h it d i aJ.length ep ok ov) where
 mem:=by simp
 obj:=λi h st b hb=>by
  have e:b=it:=by simpa using hb
  subst e
  obtain⟨ok,ov,e⟩:=st
  exact⟨_,e,λv z=>nomatch z⟩
 keep:=λi h h' st k=>let ⟨ok,ov,e⟩:=st;⟨ok,ov,k it (by simp) _ e⟩
 item:=by
  intro X hP hw hK hc i U s σ H E I hf st hg
  subst hP hw hK
  obtain⟨hd,hi⟩:=hg
  obtain⟨hs,gg,hx,ge,md,cf,hsz,qo⟩:=I.frzT2 hd
  obtain⟨rfl,rfl⟩:=oY i5 cf
  obtain⟨⟨k,v⟩,n0⟩:∃p,aJ[i]?=some p:=⟨aJ[i],ay hi⟩
  obtain⟨en,q,ur,wo,hq,ru⟩:=qo i k v n0
  obtain⟨ok,ov,he⟩:=st
  have am:it<s.heap.objs.size:=bg he
  refine Sx he gg cf hsz ur λh' ho hT hk=>?_
  refine⟨_,rfl,wpAny_letOwnedTupleGo_items (s:={s with heap:=h'}) ho λnz wv sb=>?_⟩
  have A1:nz.get? s.heap.objs.size=some {cls:=.type "tuple",data:=.seq #[en.key,en.val]}:=(sb.2 _ (px am)).trans hT
  have new:cJ X.prog X.w (upd H s.heap.objs.size (.tup [.ref q,v])) nz s.heap.objs.size (.tup [.ref q,v]):=
   ⟨by show 2<=sizeLine;decide,[en.key,en.val],.cons wo (.cons ru .nil),⟨_,A1,rfl,_,rfl⟩⟩
  have I1:aQ X U σ (upd H s.heap.objs.size (.tup [.ref q,v])) {s with heap:=nz}:=
   I.turnedNew (t':=s.toks) (ch:=[it]) (λb ob hb e=>(sb.2 b (by simpa using hb)).trans (hk b ob (by simpa using hb) e)) hf (ap _) new
  refine⟨.ref s.heap.objs.size,_,I1,rfl,⟨_,k,v,q,n0,rfl,I.hok.fresh (ap _),hq,rfl⟩,⟨en.key,en.val,wv⟩,λb hb=>?_⟩
  have e:b=it:=by simpa using hb
  rw[e,aC (b9 am)]
  exact(hf it (by simp)).1
 done:=by
  intro X hP hw hK hc i U s σ H E I hf st hg
  subst hP hw hK
  obtain⟨hd,hi⟩:=hg
  obtain⟨f0,f1,f2,f3,f4,f5⟩:=hf it (by simp)
  obtain⟨hs,gg,hx,ge,md,cf,hsz,qo⟩:=I.frzT2 hd
  obtain⟨rfl,rfl⟩:=oY i5 cf
  obtain⟨ok,ov,he⟩:=st
  exact aA2 (I.ok.hd hc) he gg cf hsz hi λh' eb=>⟨rfl,I.turned (t':=s.toks) (λb ob hb e=>eb b ob hb e) f0 f1 f3 f4 f5⟩
 self:=λA i s Q E st h=>let ⟨_,_,e⟩:=st;PySem.W.kcp_self e h
def Zg(td:TE):TI:=fun σ H R=>td σ H λx H1=>∃d o aJ,x=.ref d/\H1 d=some (.frz o (.dT aJ))/\R (Lb d o aJ) H1
theorem lE{td:TE}{ig gf:Pos}{ju:List Expr}{kk:Nat}(he:PE X e td)(sd:attributeBase e "items" X.env (eval e X.env)=eval e X.env:=by rfl)(wq:(ig.endLine==gf.line)=true:=by rfl):
  PI X (.Tuple ju kk i3) (.Call (.Attribute e "items" ig) [] [] gf) (Zg td):=by
 intro U s σ H R I h
 refine wpAny_Call_method (T:="dict") (id:="dict.items") sd rfl wq F.plainAttrs_dict E4 F.type_dict_items (cX (he U s σ H _ I h) λu s1 ⟨x,H1,I1,rx,d,o,aJ,ex,hd,q⟩=>?_)
 subst ex
 obtain rfl:u=Value.ref d:=rx
 obtain⟨hs,gg,hx,es,ep,cf,hsz,qo⟩:=I1.frzT2 hd
 have j0:s1.TypeIs (.ref d) "dict":=⟨o,gg,hx.1⟩
 refine⟨j0,λb q=>by cases q;exact⟨o,gg,hx.2.1⟩,?_⟩
 have I2:aQ X U σ H1 {s1 with heap:=s1.heap.push {cls:=.type "dict_items",data:=.fields #[.ref d]}}:=I1.kept (t':=s1.toks) λb ob q=>bj _ q
 have fin:wpAny (model X.prog X.w) X.A (pyIter (.ref s1.heap.objs.size)) (PIE X U σ (.Tuple ju kk i3) R) X.xe {s1 with heap:=s1.heap.push {cls:=.type "dict_items",data:=.fields #[.ref d]}}:=
  Hu (d:=d) (n:=aJ.length) ⟨_,cg _ rfl,rfl,rfl⟩ (bj _ gg) cf hsz (tT (tk:=s1.toks) I2 _ (uQ _ cf) ⟨.none,.none,cg _ rfl⟩ q)
 show wpAny _ _ (callWith gf (.builtin "dict.items") [.ref d] [] []) _ X.xe s1
 exact method_meetsIn E4 F.entry_dict_items rfl (PySem.evalArgs_none ⟨rfl,j0,F.args_dict_items_1 _,_,Bv hs,j0,fin⟩)
section
variable{es:Array DictEntry}
theorem zT(hd:(d==sysModules)=false):MeetsIn prog w (Builtin.«dict.__len__» ⟨[.ref d],[]⟩) (λ_ R s=>∃o es ep,s.heap.get? d=some o/\o.data=.dict es ep/\R (.ok (.ret (.int es.size s.toks))) {s with toks:=s.toks+1}):=
 .of_wp λA R s ⟨o,es,ep,ho,kg,h⟩=>by
  show wpAny _ _ (dictSize d>>=_) _ _ s
  unfold dictSize
  refine ac (ac (qd ho kg (ag ?_)))
  show wpAny _ _ (Builtin.Dict.pendingCount d>>=_) _ _ s
  refine ac (wpAny_pendingCount_other hd (wpAny_ret_mkInt ?_))
  rw[Nat.add_zero]
  exact h
theorem Zw(hd:(d==sysModules)=false)(ho:s.heap.get? d=some o)(hx:o.ExactDict)(kg:o.data=.dict es ep)(R1:(es.size:Int)<2 ^ 63)
  (h:Q (.int es.size (s.toks+1)) {s with toks:=s.toks+1+1}):wpAny (model prog w) A (call (.builtin "len") [.ref d]) Q E s:=by
 have hT:s.TypeIs (.ref d) "dict":=⟨o,ho,hx.1⟩
 refine OK kind_len plain_len entry_len (args_len1 _) ?_
 unfold Builtin.«len»
 refine ac (m:=oneArg "len" _) (ag ?_)
 refine ac (m:=callSpecial? (.ref d) (Str.ofString "__len__")) (mw (name:=Str.ofString "__len__") hT F.slot_dict_len
  (call_meetsIn F.slot_dict_len hT F.entry_dict_len (F.args_dict_len_1 _) (zT hd) ⟨o,es,ep,ho,kg,?_⟩))
 show wpAny _ _ _ _ _ {s with toks:=s.toks+1}
 refine ac (j7 (ag (ac (wpAny_letGo ?_))))
 show wpAny _ _ (if ((es.size:Nat):Int)<0 then _ else _) _ _ _
 rw[ae (by (clear R1;omega))]
 show wpAny _ _ (if ((es.size:Nat):Int)≥2 ^ 63 then _ else _) _ _ _
 rw[ae (by omega)]
 exact ac (wpAny_mkInt (ag ⟨_,rfl,h⟩))
theorem Xq(hh:A.handled=none)(I:Addr)(aw:d≠I)(kg:o.data=.dict es ep):Walks prog w A I [I,d] [I] es.size (λi v=>∃en,es[i]?=some en/\v=en.key) (λi h=>h.IsKeyIter I d i es.size ep/\h.get? d=some o) where
 sub:=λb hb=>by simp at hb;simp[hb]
 frame:=λ_ _ _ st hk=>⟨st.1.at λo e=>hk I (by simp) o e,hk d (by simp) o st.2⟩
 item:=λi s Q E hi st hQ=>by
  refine pV (en:=es[i]) st.1 st.2 kg rfl (by simp[hi]) λh' ut wz=>?_
  exact hQ _ h' s.toks ⟨_,by simp[hi],rfl⟩ ⟨ut,wz.extBut d o aw st.2⟩ λb o hb e=>wz.extBut b o (λh=>hb (by simp[h])) e
 done:=λs Q E st hQ=>mH hh st.1 st.2 kg rfl (ap _) λh' wv=>hQ h' s.toks λb o hb e=>wv b o (λh=>hb (by simp[h])) e
 self:=λ_ _ _ _ st hQ=>wpAny_pyIter_keyiter st.1 hQ
theorem Zk(lo:(d==sysModules)=false)(hx:o.ExactDict)(kg:o.data=.dict es ep):PySem.W.KdlSrc prog w "dict" d d es.size (λi v=>∃en,es[i]?=some en/\v=en.key) (λh=>h.get? d=some o) where
 type:=λ_ hm=>⟨o,hm,hx.1⟩
 there:=λ_ hm=>⟨bg hm,bg hm⟩
 keep:=λ_ _ hm hk=>hk d (.inl rfl) o hm
 notList:=by decide
 notTuple:=by decide
 hint:=λ_ _ _ _ hm hq=>PySem.W.kdl_hint_dict ⟨o,hm,hx.1⟩ hq
 iter:=λ_ _ hh hm=>⟨_,_,(λ_ _ hq=>tE lo hm hx kg hq),Xq hh _ (b9 (bg hm)) kg,⟨⟨_,cg _ rfl,rfl,rfl⟩,bj _ hm⟩⟩
end
theorem aQ.rawT{aJ:List (List dQ×V)}(I:aQ X U σ H s)(h:Rd H d (.dT aJ)):
  (d==sysModules)=false/\aJ.length<=sizeLine/\∃(o:Obj)(es:Array DictEntry)(ep:Nat),s.heap.get? d=some o/\o.ExactDict/\o.data=.dict es ep/\es.size=aJ.length/\
   ∀(i:Nat)(k:List dQ)(v:V),aJ[i]?=some (k,v)->∃(en:DictEntry)(q:Addr),es[i]?=some en/\en.key=.ref q/\H q=some (.tup (k.map kV)):=by
 obtain⟨z,hs,xs,pr,o,es,ep,ho,hx,cf,he,_⟩:=Ty I.hok h
 refine⟨hs,z,o,es,ep,ho,hx,cf,?_,λi k v e=>?_⟩
 ·have l1:es.size=xs.length:=CF he
  have l2:aJ.length=xs.length:=Paired.length pr
  (clear z;omega)
 ·obtain⟨b,hb,e1,e2,e3⟩:=jK pr e
  have q:=CH he i
  rw[hb] at q
  exact⟨_,b.2.1,q,rfl,e2⟩
theorem tQ:nM X (.builtin "len") (λxs H Q=>∃a aJ,xs=[V.ref a]/\Rd H a (.dT aJ)/\Q (.int aJ.length) H):=by
 intro U s σ H xs us Q I r h
 obtain⟨a,aJ,rfl,ha,q⟩:=h
 obtain⟨u,rfl,ru⟩:=zL r
 cases ru
 obtain⟨hs,z,o,es,ep,ho,hx,cf,hsz,_⟩:=I.rawT ha
 refine Zw hs ho hx cf (by rw[hsz];rw[p8] at z;(clear hsz;omega)) ⟨.int es.size,H,I.tok _,⟨_,rfl⟩,?_⟩
 rw[hsz]
 exact q
theorem Ls(hc:X.calm=true):nM X (.type "list") (λxs H Q=>∃a aJ,xs=[V.ref a]/\Rd H a (.dT aJ)/\
  ∀l ps,H l=none->Paired (λ(p:Addr)(kv:List dQ×V)=>H p=some (.tup (kv.1.map kV))) ps aJ->Q (.ref l) (upd H l (.lst (ps.map V.ref)))):=by
 intro U s σ H xs us Q I r h
 obtain⟨a,aJ,rfl,ha,q⟩:=h
 obtain⟨u,rfl,ru⟩:=zL r
 cases ru
 obtain⟨hs,z,o,es,ep,ho,hx,cf,hsz,qo⟩:=I.rawT ha
 refine PySem.W.kdl_call (Zk hs hx cf) (I.ok.hd hc) ho (by rw[hsz];exact z) λh' tk xh c' hk hl GO=>?_
 obtain⟨hn,hp⟩:=GO
 have key:∀(aJ:List (List dQ×V)) (vs:List Value),vs.length=aJ.length->(∀(i:Nat)(k:List dQ)(v:V),aJ[i]?=some (k,v)->∃q:Addr,vs[i]?=some (Value.ref q)/\H q=some (.tup (k.map kV)))->
   ∃ps:List Addr,vs=ps.map Value.ref/\Paired (λ(p:Addr)(kv:List dQ×V)=>H p=some (.tup (kv.1.map kV))) ps aJ:=by
  intro aJ
  induction aJ with
  |nil=>
   intro vs hl _
   cases vs with
   |nil=>exact⟨[],rfl,.nil⟩
   |cons _ _=>cases hl
  |cons kv r ih=>
   intro vs hl hh
   cases vs with
   |nil=>cases hl
   |cons v vr=>
    obtain⟨q,e1,e2⟩:=hh 0 kv.1 kv.2 rfl
    cases e1
    obtain⟨ps,e3,e4⟩:=ih vr (by simpa using hl) λi k v e=>hh (i+1) k v e
    exact⟨q::ps,by rw[e3];rfl,.cons e2 e4⟩
 obtain⟨ps,e1,e2⟩:=key aJ xh.toList (by rw[d4,hn,hsz]) λi k v e=>by
  obtain⟨en,q,g1,g2,g3⟩:=qo i k v e
  have hi:i<aJ.length:=(bq.mp e).1
  have DN:i<xh.size:=by rw[hn,hsz];exact hi
  obtain⟨WK,g4,g5⟩:=hp i xh[i] (by simp[DN])
  rw[g1] at g4
  cases g4
  refine⟨q,?_,g3⟩
  rw[m6]
  simp[DN,g5,g2]
 have fr:H s.heap.objs.size=none:=I.hok.fresh (ap _)
 have rv:bO (ps.map V.ref) xh.toList:=by
  rw[e1]
  clear e1 e2 hp hn hl
  induction ps with
  |nil=>exact .nil
  |cons p r ih=>exact .cons rfl ih
 refine⟨.ref s.heap.objs.size,_,I.laid (o:=.lst (ps.map V.ref)) hk (ap _) ⟨?_,xh.toList,c',rv,by simpa using hl⟩,rfl,q _ ps fr e2⟩
 rw[ai,Paired.length e2]
 exact z
open AutoSeq1 (wpAny_loadPart')
theorem yH(l:Addr)(items:Array Value)(n:Nat)(dct:Option Addr)(sl:Array (Option Value)):
  Meets (Builtin.«enumerate.__new__» ⟨[.type "enumerate",.ref l],[]⟩) (λ_ R s=>s.heap.get? l=some {cls:=.type "tuple",dict:=dct,data:=.seq items n,slots:=sl}/\
   R (.ok (.ret (.ref (s.heap.push {cls:=.type "tuple_iterator",data:=.fields #[.ref l,.int 0 0]}).objs.size)))
    {s with heap:=(s.heap.push {cls:=.type "tuple_iterator",data:=.fields #[.ref l,.int 0 0]}).push {cls:=.type "enumerate",data:=.fields #[.none,.bool false,.ref s.heap.objs.size,rawInt 0,.none,.none]}}):=
 .of_wp λprog w A R s h=>by
  obtain⟨hp,g,d,tk,os⟩:=s;obtain⟨hl,h⟩:=h
  have LK:=sub_enumerate
  have hL:Heap.IsTuple (Shared.heap ⟨hp,g,d,tk,os⟩) l items:=⟨_,hl,rfl,n,rfl⟩
  wp_walk using AN hl
  refine wpAny_stack_any λst=>ag ?_
  split
  ·rename_i c _ _ _ _ _
   cases (c==Value.type "enumerate")
   ·wp_walk using AN hl,EJ hL
    exact⟨_,rfl,h⟩
   ·wp_walk using AN hl,EJ hL
    exact⟨_,rfl,h⟩
  ·wp_walk using AN hl,EJ hL
   exact⟨_,rfl,h⟩
theorem zS{l:Addr}{items:Array Value}(hL:IsTup s.heap l items)
  (h:∀h',IsEnum h' (s.heap.objs.size+1) s.heap.objs.size 0 .none->h'.IsTupleIter s.heap.objs.size l 0->h'.objs.size=s.heap.objs.size+2->
   (∀b o,s.heap.get? b=some o->h'.get? b=some o)->Q (.ref (s.heap.objs.size+1)) {s with heap:=h'}):
  wpAny (model prog w) A (call (.type "enumerate") [.ref l]) Q E s:=by
 obtain⟨⟨c,dct,dt,sl⟩,hl,hc,n,hd⟩:=hL
 replace hc:c=.type "tuple":=hc
 replace hd:dt=.seq items n:=hd
 subst hc hd
 refine callType_new F.called_enumerate (by decide) (F.typeCall_enumerate_1 _) (F.newCall_enumerate_1 _) (λobj=>F.args_object_init_2 obj _) F.entry_enumerate_new
  (yH l items n dct sl) ⟨hl,?_⟩
 have hz:(s.heap.push {cls:=.type "tuple_iterator",data:=.fields #[.ref l,.int 0 0]}).objs.size=s.heap.objs.size+1:=ic ..
 show _/\_
 rw[hz]
 have he:IsEnum ((s.heap.push {cls:=.type "tuple_iterator",data:=.fields #[.ref l,.int 0 0]}).push
   {cls:=.type "enumerate",data:=.fields #[.none,.bool false,.ref s.heap.objs.size,rawInt 0,.none,.none]}) (s.heap.objs.size+1) s.heap.objs.size 0 .none:=by
  have:=cg (s.heap.push {cls:=.type "tuple_iterator",data:=.fields #[.ref l,.int 0 0]})
   (o:={cls:=.type "enumerate",data:=.fields #[.none,.bool false,.ref s.heap.objs.size,rawInt 0,.none,.none]}) rfl
  rw[hz] at this;exact this
 refine⟨⟨_,he,rfl⟩,h _ he ⟨_,bj _ (cg _ rfl),rfl,rfl⟩ (by rw[ic,hz]) λb o x=>bj _ (bj _ x)⟩
theorem zQ{l:Addr}{items}{x:Value}(bu:s.heap.IsTupleIter it l i)
  (hl:IsTup s.heap l items) (hx:items[i]?=some x)
  (hQ:∀h',h'.IsTupleIter it l (i+1)->Heap.SameBut it s.heap h'->Q x {s with heap:=h'}):
  wpAny (model prog w) A (Builtin.SmallTypes.nextOf (.ref it)) Q E s:=by
 obtain⟨o,ho,hc,hd⟩:=id bu
 obtain⟨ol,zm,_,nl,zn⟩:=hl
 unfold Builtin.SmallTypes.nextOf
 refine ac (mw (name:=Str.ofString "__next__") bu.typeIs E5
  (jg E5 bu.typeIs OL ?_ (OM _)))
 show wpAny _ _ (field (.ref it) 0>>=_) _ _ s
 refine ac (j6 ho hd (x:=.ref l) rfl ?_)
 show wpAny _ _ (if (Value.ref l==Value.none)=true then _ else _) _ _ s
 rw[ae (show ¬((Value.ref l==Value.none)=true) from ca)]
 show wpAny _ _ (field (.ref it) 1>>=_) _ _ s
 refine ac (j6 ho hd (x:=.int i 0) rfl ?_)
 show wpAny _ _ (seqItems? (.ref l)>>=_) _ _ s
 refine ac (E6 zm zn ?_)
 simp only[fq,hx]
 refine ac (l0 ho hd (by simp) (ag ⟨x,rfl,ag (hQ _ ?_ (jz ..))⟩))
 exact⟨_,oq _ ho (ub (kc hd _)),(CA ..).trans hc,by
  rw[kc hd];simp[rawInt]⟩
theorem Dm{l:Addr}{items}(hh:A.handled=none)
  (bu:s.heap.IsTupleIter it l i) (hl:IsTup s.heap l items) (hx:items[i]?=none)
  (hE:∀h' e,Heap.ExtBut it s.heap h'->(∃o,h'.get? e=some o/\o.cls=.type "StopIteration")->E (.ref e) {s with heap:=h'}):
  wpAny (model prog w) A (Builtin.SmallTypes.nextOf (.ref it)) Q E s:=by
 obtain⟨o,ho,hc,hd⟩:=id bu
 obtain⟨ol,zm,_,nl,zn⟩:=hl
 unfold Builtin.SmallTypes.nextOf
 refine ac (mw (name:=Str.ofString "__next__") bu.typeIs E5
  (jg E5 bu.typeIs OL ?_ (OM _)))
 show wpAny _ _ (field (.ref it) 0>>=_) _ _ s
 refine ac (j6 ho hd (x:=.ref l) rfl ?_)
 show wpAny _ _ (if (Value.ref l==Value.none)=true then _ else _) _ _ s
 rw[ae (show ¬((Value.ref l==Value.none)=true) from ca)]
 show wpAny _ _ (field (.ref it) 1>>=_) _ _ s
 refine ac (j6 ho hd (x:=.int i 0) rfl ?_)
 show wpAny _ _ (seqItems? (.ref l)>>=_) _ _ s
 refine ac (E6 zm zn ?_)
 simp only[fq,hx]
 refine ac (yj (ac (l0 ho hd (by simp) ?_)))
 show wpAny _ _ (newExc (.type "StopIteration") []>>=_) _ _ _
 refine ac ?_
 simp only[newExc,newTuple]
 refine ac (ip ?_ (by size_fits))
 refine ac (m:=firstArgMember _ _) (AJ (a:=Value.none) (by first|rfl|(simp only[firstArgMember];rfl)) ?_)
 refine ip ?_ (by size_fits)
 simp only[raiseNew]
 refine ac (CC ?_)
 first|rw[show A.in1.handled=none from hh]|rw[hh]
 refine ac (ag (CD ?_))
 exact hE _ _ (((jz ..).extBut.push _).push _) ⟨_,cg _ rfl,rfl⟩
theorem Bn(hh:A.handled=none)(it l:Addr)(aw:l≠it)(items:Array Value):
  Draws prog w A it [it,l] items.size (λi v=>items[i]?=some v) (λi h=>h.IsTupleIter it l i/\IsTup h l items) where
 live:=λ_ _ st=>let ⟨o,ho,_⟩:=st.1;⟨o,ho⟩
 frame:=λ_ _ _ st hk=>⟨st.1.at λo e=>hk it (by simp) o e,let ⟨o,ho,r⟩:=st.2;⟨o,hk l (by simp) o ho,r⟩⟩
 item:=λi s Q E hi st hQ=>by
  refine zQ st.1 st.2 (x:=items[i]) (by simp[hi]) λh' ut wz=>?_
  exact hQ _ h' s.toks (by simp[hi]) ⟨ut,st.2.extBut wz.extBut aw⟩ wz
 done:=λs Q E st hE=>Dm hh st.1 st.2 (by simp) hE
def Wg(K:Frag)(a:Addr):It:=
 ⟨λi H=>∃(xs:List V)(x:V),cM K H a xs/\xs[i]?=some x,λi H v H'=>∃T x,v=.ref T/\H T=none/\H'=upd H T (.tup [.int (i:Nat),x])/\∀xs,cM K H a xs->xs[i]?=some x,λi H=>∃xs:List V,cM K H a xs/\xs.length=i⟩
theorem Kl{ju:List Expr}{kk:Nat}(a e it:Addr):
  xU P w K (.Tuple ju kk i3) (Wg K a) [e,it] e (λi h=>(∃old,IsEnum h e it ((i:Nat):Int) old)/\h.IsTupleIter it a i/\e≠it/\a≠e/\a≠it) where
 mem:=by simp
 obj:=λi h st b hb=>by
  obtain⟨⟨old,he⟩,⟨o,ho,hc,hd⟩,_⟩:=st
  have e':b=e\/b=it:=by simpa using hb
  rcases e' with z|z
  ·rw[z];exact⟨_,he,λv q=>nomatch q⟩
  ·rw[z];exact⟨o,ho,λv q=>by rw[hd] at q;cases q⟩
 keep:=λi h h' st k=>let ⟨⟨old,he⟩,hi,aw⟩:=st;⟨⟨old,k e (by simp) _ he⟩,hi.at λo q=>k it (by simp) o q,aw⟩
 item:=by
  intro X hP hw hK hc i U s σ H E I hf st hg
  subst hP hw hK
  obtain⟨⟨old,he⟩,bu,aw,GQ,DO⟩:=st
  obtain⟨xs,x,hq,hx⟩:=hg
  obtain⟨its,rv,p,hz⟩:=I.tuple hq
  obtain⟨u,hu,ru⟩:=rv.get hx
  have mh:e<s.heap.objs.size:=bg he
  have zf:it<s.heap.objs.size:=by obtain⟨_,q,_⟩:=bu;exact bg q
  have am:i<its.toArray.size:=by
   have:=(bq.mp hu).1
   simpa using this
  refine wpAny_pyNext_enum_itemD (Bn (A:=X.A.in1) (I.ok.hd hc) it a DO its.toArray) he ⟨bu,p⟩ am aw (by simp[aw,ax GQ]) λx' h' tk hP ho fc hT hsz hk=>?_
  have R3:x'=u:=by
   have h1:its.toArray[i]?=some u:=by simpa using hu
   rw[h1] at hP
   cases hP
   rfl
  subst R3
  refine⟨_,rfl,wpAny_letOwnedTupleGo_enum (s:={s with heap:=h',toks:=tk+1}) ho λnz wv sb=>?_⟩
  have A1:nz.get? s.heap.objs.size=some {cls:=.type "tuple",data:=.seq #[.int i tk,x']}:=(sb.2 _ (px mh)).trans hT
  have new:cJ X.prog X.w (upd H s.heap.objs.size (.tup [.int (i:Nat),x])) nz s.heap.objs.size (.tup [.int (i:Nat),x]):=
   ⟨by show 2<=sizeLine;decide,[.int i tk,x'],.cons ⟨_,rfl⟩ (.cons ru .nil),⟨_,A1,rfl,_,rfl⟩⟩
  have I1:aQ X U σ (upd H s.heap.objs.size (.tup [.int (i:Nat),x])) {s with heap:=nz,toks:=tk+1}:=
   I.turnedNew (ch:=[e,it]) (λb ob hb q=>(sb.2 b (λz=>hb (by simp[z]))).trans (hk b ob (λz=>hb (by simp[z])) (λz=>hb (by simp[z])) q)) hf (ap _) new
  refine⟨.ref s.heap.objs.size,_,I1,rfl,⟨_,x,rfl,I.hok.fresh (ap _),rfl,λys hy=>by rw[I.tuple_inj hy hq];exact hx⟩,⟨⟨x',?_⟩,fc.1.at λo q=>(sb.2 it (ax aw)).trans q,aw,GQ,DO⟩,λb hb=>?_⟩
  ·have e1:((i+1:Nat):Int)=(i:Int)+1:=by (clear hsz fc am zf mh hz;omega)
   rw[e1];exact wv
  ·have mi:b<s.heap.objs.size:=by
    have e':b=e\/b=it:=by simpa using hb
    rcases e' with z|z
    ·rw[z];exact mh
    ·rw[z];exact zf
   rw[aC (b9 mi)]
   exact(hf b hb).1
 done:=by
  intro X hP hw hK hc i U s σ H E I hf st hg
  subst hP hw hK
  obtain⟨⟨old,he⟩,bu,aw,GQ,DO⟩:=st
  obtain⟨xs,hq,hx⟩:=hg
  obtain⟨its,rv,p,hz⟩:=I.tuple hq
  obtain⟨f0,f1,f2,f3,f4,f5⟩:=hf it (by simp)
  have hl:=rv.length
  have hn:its.toArray.size=i:=by simp;(clear f3 f2 hz;omega)
  exact wpAny_pyNext_enum_endD (Bn (A:=X.A.in1) (I.ok.hd hc) it a DO its.toArray) he (by rw[hn];exact⟨bu,p⟩) λh' eb=>⟨rfl,I.turned (t':=s.toks) (λb o hb q=>eb b o hb q) f0 f1 f3 f4 f5⟩
 self:=λA i s Q E st h=>let ⟨⟨_,he⟩,_⟩:=st;EU he h
def aCp(K:Frag)(ta:TA):TI:=fun σ H R=>ta σ H λvs H1=>∃a xs,vs=[.ref a]/\cM K H1 a xs/\R (Wg K a) H1
theorem Vf{ta:TA}{p:Pos}{ju:List Expr}{kk:Nat}(hg:Gl X "enumerate")(hm:X.mg "enumerate"=none)(ha:PA X [e] ta)(hs:starEach [e] X.env=[(false,eval e X.env)]:=by rfl):
  PI X (.Tuple ju kk i3) (.Call (.Name "enumerate" p) [e] [] pos) (aCp X.K ta):=by
 intro U s σ H R I h
 refine Call_ (lV I hg hm boot_enumerate (AB (cX (ha pos U s σ H _ I h) λus s1 ⟨vs,H1,I1,r1,q1⟩=>?_) hs rfl))
 obtain⟨a,xs,ex,hq,q⟩:=q1
 subst ex
 cases r1 with
 |cons r rr=>
  cases rr
  cases r
  obtain⟨its,rv,p',hz⟩:=I1.tuple hq
  have LL:a<s1.heap.objs.size:=p'.lt
  refine zS p' λh' he bu hsz hk=>EU he ?_
  have I2:aQ X U σ H1 {s1 with heap:=h'}:=I1.kept (t':=s1.toks) hk
  refine⟨s1.heap.objs.size+1,[s1.heap.objs.size+1,s1.heap.objs.size],_,_,H1,rfl,I2,Kl a (s1.heap.objs.size+1) s1.heap.objs.size,⟨⟨.none,he⟩,bu,OC _,b9 (vt LL),b9 LL⟩,λb hb=>?_,q⟩
  have e':b=s1.heap.objs.size+1\/b=s1.heap.objs.size:=by simpa using hb
  have gq:s1.heap.objs.size<=b:=by
   rcases e' with z|z
   ·rw[z];exact CJ _ _
   ·rw[z];exact ap _
  exact I1.fpOk gq (I1.hok.fresh gq)
end L2
namespace HT
open PySem PyProof.Rows
def gO:List Int->List Int->Bool
 |[],_=>true
 |_::_,[]=>false
 |x::xs,y::ys=>if x=y then gO xs ys else decide (x<=y)
theorem Kd(x y:Int)(xs ys:List Int):gO (x::xs) (y::ys)=if x=y then gO xs ys else decide (x<=y):=rfl
theorem Pe(ys:List Int):gO [] ys=true:=by cases ys<;>rfl
theorem yX(x:Int)(xs:List Int):gO (x::xs) []=false:=rfl
theorem Sy(A:Around)(s:Shared)(a:Int)(t:Tok)(c:Int)(u:Tok)(prog:Program)(w:World)(E:Value->Shared->Prop)(Q:Value->Shared->Prop)(h:Q (.bool (decide (a<=c))) s):
  wpAny (model prog w) A (richCompare .LtE (.int a t) (.int c u)) Q E s:=
 (PyProof.Rows.le_int h:wpAny (model prog w) A (compareOp .LtE (.int a t) (.int c u)) Q E s)
section
open PySem.SeqAt
open PySem.AutoSeq1 (wpAny_loadPart')
open PySem.MeetsSeq PySem.MeetsSeq2 PySem.MeetsSeq3
theorem zW(l b:Addr)(items i7:Array Value)(n n2:Nat)(dd uj:Option Addr)(sl uk:Array (Option Value))(ns ms:List Int)(hi:IntsAre items.toList ns)(hj:IntsAre i7.toList ms):
  Meets (Builtin.«tuple.__le__» ⟨[.ref l,.ref b],[]⟩)
   (λ_ R s=>s.heap.get? l=some {cls:=.type "tuple",dict:=dd,data:=.seq items n,slots:=sl}/\s.heap.get? b=some {cls:=.type "tuple",dict:=uj,data:=.seq i7 n2,slots:=uk}/\
    R (.ok (.ret (.bool (gO ns ms)))) s):=
 .of_wp λprog w A R s h=>by
  obtain⟨hp,g,d,tk,os⟩:=s;obtain⟨hl,hb,h⟩:=h
  have f2:=AutoSeq1.sub_tuple_tuple
  have z1:items.size=ns.length:=by rw[<-hi.length];simp
  have z2:i7.size=ms.length:=by rw[<-hj.length];simp
  wp_walk using AN hl,AN hb,wpAny_forIn_list _ (λrest b s'=>b.1=none/\s'=⟨hp,g,d,tk,os⟩/\∃(vs ws:List Value)(u5 zo:List Int),rest=vs.zip ws/\
   IntsAre vs u5/\IntsAre ws zo/\u5.length+i7.size=zo.length+items.size/\R (.ok (.ret (.bool (gO u5 zo)))) ⟨hp,g,d,tk,os⟩) _
  case turn=>
   rintro⟨y,x⟩ rest b s' ⟨mi,rfl,vs,ws,u5,zo,hz,GS,u6,bi,hR⟩
   cases GS with
   |nil=>rw[List.zip_nil_left] at hz;cases hz
   |cons a t R4=>
    cases u6 with
    |nil=>rw[List.zip_nil_right] at hz;cases hz
    |cons c u R5=>
     rw[ym] at hz
     injection hz with R6 GU
     injection R6 with hy hx
     subst hy hx
     rw[Kd] at hR
     simp only[bh] at bi
     obtain⟨e,he,GV⟩:=Xk A.in1 ⟨hp,g,d,tk,os⟩ a t c u
     refine ac (he prog w _ _ ?_)
     cases e with
     |true=>
      rw[af (GV.mp rfl)] at hR
      wp_walk
      exact⟨rfl,rfl,_,_,_,_,GU,R4,R5,by (clear GV z2 z1;omega),hR⟩
     |false=>
      rw[ae (λq=>absurd (GV.mpr q) ca)] at hR
      have R7:=Sy A.in1 ⟨hp,g,d,tk,os⟩ a t c u prog w
      wp_walk using R7
      exact⟨_,rfl,by simpa using hR⟩
  case fin=>
   rintro⟨b1,b2⟩ s' ⟨mi,rfl,vs,ws,u5,zo,hz,GS,u6,bi,hR⟩
   simp only at mi
   subst mi
   have hv:gO u5 zo=decide (items.size<=i7.size):=by
    cases GS with
    |nil=>
     simp only[lh] at bi
     rw[Pe]
     exact(c9 (by (clear z2 z1;omega))).symm
    |cons a t hv=>
     cases u6 with
     |nil=>
      simp only[lh,bh] at bi
      rw[yX]
      exact(jn (by (clear z2 z1;omega))).symm
     |cons c u hw=>
      rw[ym] at hz
      cases hz
   rw[hv] at hR
   wp_walk
   exact⟨_,rfl,by simpa[Builtin.Tuple.tupleCompareSizes] using hR⟩
  case h=>
   exact⟨rfl,rfl,items.toList,i7.toList,ns,ms,rfl,hi,hj,by omega,h⟩
end
theorem Lh{l:Addr}{items i7:Array Value}{ms:List Int}(hl:IsTup s.heap l items)(hb:IsTup s.heap b i7)(hi:IntsAre items.toList ns)(hj:IntsAre i7.toList ms)
  (hu:A.units<cLine) (h:Q (.bool (gO ns ms)) s):wpAny (model prog w) A (compareOp .LtE (.ref l) (.ref b)) Q E s:=by
 obtain⟨⟨cls,dd,data,sl⟩,ho,hc,n,hd⟩:=id hl
 obtain⟨⟨KE,uj,data2,uk⟩,qj,dq,n2,jc⟩:=id hb
 simp only at hc hd dq jc
 subst hc hd dq jc
 exact richCompare_meets_room (op:=.LtE) ⟨_,ho,rfl⟩ ⟨_,qj,rfl⟩ PySem.F.slot_tuple_le PySem.F.entry_tuple_le (PySem.F.args_tuple_le_2 _ _) (zW l b items i7 n n2 dd uj sl uk ns ms hi hj)
  ⟨ho,qj,show Value.bool (gO ns ms)≠Value.notImplemented/\Q (.bool (gO ns ms)) s from ⟨(λx=>nomatch x),h⟩⟩ hu
theorem Yu{t:Addr}{ws:List Value}(ht:IsTup s.heap t ([]:List Value).toArray)(hb:IsTup s.heap b ws.toArray)(h:Q (.ref b) s):wpAny (model prog w) A (binaryOp .Add (.ref t) (.ref b)) Q E s:=by
 obtain⟨⟨cls,dd,data,sl⟩,ho,hc,n,hd⟩:=id ht
 obtain⟨⟨KE,uj,data2,uk⟩,qj,dq,n2,jc⟩:=id hb
 simp only at hc hd dq jc
 subst hc hd dq jc
 exact JH ⟨_,ho,rfl⟩ ⟨_,qj,rfl⟩ JI JJ slot_tuple_add entry_tuple_add (args_tuple_add_2 _ _)
   (tuple_addW0 t b #[] ws.toArray n n2 dd uj sl uk rfl) ⟨ho,qj,h⟩
theorem Ax{l:Addr}{items i7:Array Value}{ms:List Int}(hl:IsTup s.heap l items)(hb:IsTup s.heap b i7)(hi:IntsAre items.toList ns)(hj:IntsAre i7.toList ms)(hu:A.units<cLine):
  SeqAt.RcAt A s (.ref l) (.ref b) (decide (ns=ms)):=by
 have z1:items.size=ns.length:=by rw[<-hi.length];simp
 have z2:i7.size=ms.length:=by rw[<-hj.length];simp
 have u7:∀{vs:List Value}{xs:List Int}(j:Nat),IntsAre vs xs->(h1:j<vs.length)->∃t,vs[j]=.int (xs.getD j 0) t:=by
  intro vs
  induction vs with
  |nil=>intro xs j _ h1;exact absurd h1 (ud _)
  |cons v r ih=>
   intro xs j h1 hl
   cases h1 with
   |cons a t h1=>
    cases j with
    |zero=>exact⟨t,rfl⟩
    |succ j=>exact ih j h1 (by simpa using hl)
 have key:=SeqAt.RcAt.tuples (A:=A) (s:=s) (l:=l) (b:=b) (e:=λj=>decide (ns.getD j 0=ms.getD j 0)) hl hb hu λj h1 h2=>by
  obtain⟨t,e1⟩:=u7 j hi (by simpa using h1)
  obtain⟨u,e2⟩:=u7 j hj (by simpa using h2)
  rw[show items[j]=.int (ns.getD j 0) t by simpa using e1,show i7[j]=.int (ms.getD j 0) u by simpa using e2,<-JC]
  exact JG _ _ _ _
 have val:((List.range (min items.size i7.size)).all (λj=>decide (ns.getD j 0=ms.getD j 0)) && items.size==i7.size)=decide (ns=ms):=by
  rw[z1,z2,io,cq,j8,ck,cz]
  constructor
  ·rintro⟨h1,h2⟩
   refine List.ext_getElem h2 λj g1 g2=>?_
   have:=d7 (h1 j (by rw[EH];(clear g2 z2 z1 hu;omega)))
   rw[b8,b8,ay g1,ay g2] at this
   simpa using this
  ·rintro rfl
   exact⟨λj _=>c9 rfl,rfl⟩
 rw[val] at key
 exact key
theorem vB:∀{vs:List Value}{xs ys:List Int},IntsAre vs xs->IntsAre vs ys->xs=ys:=by
 intro vs
 induction vs with
 |nil=>intro xs ys h1 h2;cases h1;cases h2;rfl
 |cons v r ih=>
  intro xs ys h1 h2
  cases h1 with
  |cons a t h1=>
   cases h2 with
   |cons _ _ h2=>rw[ih h1 h2]
theorem Sc{l:Addr}{items i7:Array Value}{ms:List Int}(hl:IsTup s.heap l items)(hb:IsTup s.heap b i7)(hi:IntsAre items.toList ns)(hj:IntsAre i7.toList ms)(hu:A.units<cLine):
  SeqAt.EqAt A s (.ref l) (.ref b) (decide (ns=ms)):=by
 by_cases LM:l=b
 ·subst LM
  obtain⟨o,e1,_,n,e2⟩:=hl
  obtain⟨o2,e3,_,n2,e4⟩:=hb
  rw[e1] at e3
  cases e3
  rw[e2] at e4
  cases e4
  rw[vB hi hj,c9 rfl]
  exact SeqAt.EqAt.same _
 ·exact SeqAt.EqAt.of_refs LM (Ax hl hb hi hj hu)
end HT
namespace L2
open PySem PySem.Spec PyProof.Rows
def aGp(K:Frag):R2:=λx y H Q=>∃a b ns ms,x=.ref a/\y=.ref b/\cM K H a (ns.map V.int)/\cM K H b (ms.map V.int)/\Q (.bl (HT.gO ns ms)) H
theorem aCu(hu:X.A.units<cLine):uU X (compareOp .LtE) (aGp X.K):=by
 intro U s σ H x y v u Q I rx ry h
 obtain⟨a,b,ns,ms,rfl,rfl,ha,hb,q⟩:=h
 cases rx
 cases ry
 obtain⟨its,r1,p1,_⟩:=I.tuple ha
 obtain⟨nk,r2,p2,_⟩:=I.tuple hb
 have i1:IntsAre its.toArray.toList ns:=fY r1
 have i2:IntsAre nk.toArray.toList ms:=fY r2
 exact HT.Lh p1 p2 i1 i2 hu ⟨.bl (HT.gO ns ms),H,I,rfl,q⟩
def aEs(K:Frag):R2:=λx y H Q=>∃a b xs ys,x=.ref a/\y=.ref b/\cM K H a xs/\cM K H b ys/\ys≠[]/\xs.length+ys.length<=sizeLine/\
 ∀p H',(∀c o,H c=some o->H' c=some o)->cM K H' p (xs++ys)->Q (.ref p) H'
theorem Oh:uU X (binaryOp .Add) (aEs X.K):=by
 intro U s σ H x y v u Q I rx ry h
 obtain⟨a,b,xs,ys,rfl,rfl,ha,hb,hy,hz,q⟩:=h
 by_cases hx:xs=[]
 ·subst hx
  cases rx
  cases ry
  obtain⟨its,r1,p1,_⟩:=I.tuple ha
  obtain⟨nk,r2,p2,_⟩:=I.tuple hb
  cases r1
  exact HT.Yu p1 p2 ⟨.ref b,H,I,rfl,q b H (λ_ _ e=>e) hb⟩
 ·refine Mq U s σ H _ _ v u Q I rx ry ⟨a,b,xs,ys,rfl,rfl,ha,hb,hx,hz,λe=>absurd e hy,λ_ p hp=>?_⟩
  exact q p _ (λc o e=>by rw[aC (aD e hp)];exact e) (cM.of aB)
def pR(K:Frag)(H:Hp)(xs:List V)(aj:List (List Int)):Prop:=Paired (λx ns=>∃p,x=V.ref p/\cM K H p (ns.map V.int)) xs aj
open Classical in
noncomputable def Rm(s:Shared)(ns:List Int)(v:Value):Bool:=decide (∃p its,v=.ref p/\IsTup s.heap p its/\IntsAre its.toList ns)
theorem aDw{p:Addr}{its:Array Value}{ms:List Int}(h:IsTup s.heap p its)(hi:IntsAre its.toList ms):Rm s ns (.ref p)=decide (ms=ns):=by
 unfold Rm
 rw[ON]
 constructor
 ·rintro⟨p',its',e,h',GW⟩
  cases e
  obtain⟨o,e1,_,n,e2⟩:=h
  obtain⟨o2,e3,_,n2,e4⟩:=h'
  rw[e1] at e3
  cases e3
  rw[e2] at e4
  cases e4
  exact HT.vB hi GW
 ·rintro rfl
  exact⟨p,its,rfl,h,hi⟩
theorem Es{p:Addr}{its:Array Value}(I:aQ X U σ H s)(hu:A.units<cLine)(hp:IsTup s.heap p its)(hi:IntsAre its.toList ns):
  ∀{xs:List V}{us:List Value} {aj:List (List Int)},pR X.K H xs aj->bO xs us->(∀u∈us,SeqAt.EqAt A s u (.ref p) (Rm s ns u))/\us.map (Rm s ns)=aj.map λms=>decide (ms=ns)
 |[],_,_,t,v=>by
  cases t
  cases v
  exact⟨(λu h=>by cases h),rfl⟩
 |x::xs,_,_,t,v=>by
  cases t with
  |cons t1 t2=>
   cases v with
   |cons v1 v2=>
    obtain⟨q,rfl,hq⟩:=t1
    cases v1
    obtain⟨itq,rq,pq,_⟩:=I.tuple hq
    have iq:=fY rq
    have e:=aDw (ns:=ns) (its:=itq.toArray) pq (by simpa using iq)
    obtain⟨g1,g2⟩:=Es I hu hp hi t2 v2
    refine⟨λu h=>?_,?_⟩
    ·rcases ao.mp h with rfl|h
     ·rw[e]
      exact HT.Sc pq hp (by simpa using iq) hi hu
     ·exact g1 u h
    ·rw[bp,bp,e,g2]
def aG2(K:Frag)(neg:Bool):R2:=λx y H Q=>∃p a ns xs aj,x=.ref p/\y=.ref a/\cM K H p (ns.map V.int)/\cR K H a xs/\pR K H xs aj/\Q (.bl (if neg then !decide (ns∈aj) else decide (ns∈aj))) H
theorem aBi(h:us.map (Rm s ns)=aj.map λms=>decide (ms=ns)):us.toArray.any (Rm s ns)=decide (ns∈aj):=by
 have h1:us.any (Rm s ns)=(us.map (Rm s ns)).any id:=by rw[B6];rfl
 have h2:us.toArray.any (Rm s ns)=us.any (Rm s ns):=by simp
 rw[h2,h1,h,B6,io,m9,ck]
 constructor
 ·rintro⟨m,hm,e⟩
  have e:decide (m=ns)=true:=e
  rw[<-d7 e]
  exact hm
 ·intro hm
  exact⟨ns,hm,show decide (ns=ns)=true from c9 rfl⟩
theorem Sa(hu:X.A.units+1<cLine):uU X (compareOp .NotIn) (aG2 X.K true):=by
 intro U s σ H x y v u Q I rx ry h
 obtain⟨p,a,ns,xs,aj,rfl,rfl,hp,ha,ht,q⟩:=h
 cases rx
 cases ry
 obtain⟨its,r,pl,hz⟩:=I.list ha
 obtain⟨itp,rp,pp,_⟩:=I.tuple hp
 obtain⟨g1,g2⟩:=Es (A:=X.A.in1) I hu pp (by simpa using fY rp) ht r
 refine SeqAt.notIn_listAt (Rm s ns) pl.isList (λw hw=>g1 w (by simpa using hw)) ⟨.bl _,H,I,rfl,?_⟩
 rw[aBi g2]
 exact q
def aBc(K:Frag):V->List V->Hp->VK->Prop:=λx ys H Q=>∃(a p:Addr)(xs:List V) (aj:List (List Int)) (ns:List Int) (j:Nat),x=V.ref a/\ys=[V.ref p]/\cR K H a xs/\pR K H xs aj/\cM K H p (ns.map V.int)/\
 aj[j]?=some ns/\(∀m ms,m<j->aj[m]?=some ms->ms≠ns)/\Q (.int (j:Nat)) H
theorem Ro(hu:X.A.units+1<cLine):MtR X "list.index" (aBc X.K):=by
 intro U s σ H x xs v us Q I rx rxs h
 obtain⟨a,p,ys,aj,ns,j,rfl,rfl,hs,ht,hp,hj,cp,q⟩:=h
 cases rx
 obtain⟨uy,rfl,ry⟩:=zL rxs
 cases ry
 obtain⟨its,rv,⟨⟨cls,dd,data,sl⟩,n,ho,hc,o8,hd⟩,bi⟩:=I.list hs
 simp only at hc hd
 subst hc hd
 obtain⟨itp,rp,pp,_⟩:=I.tuple hp
 obtain⟨g1,g2⟩:=Es (A:=X.A.in1) I hu pp (by simpa using fY rp) ht rv
 have mv:its.length=aj.length:=by
  have:=congrArg List.length g2
  simpa using this
 have u7:∀m (hm:m<its.length) ms,aj[m]?=some ms->Rm s ns its[m]=decide (ms=ns):=by
  intro m hm ms e
  have:=congrArg (λl:List Bool=>l[m]?) g2
  simp only[a9,e,ay hm,OO] at this
  injection this
 have LN:j<its.length:=by rw[mv];exact(bq.mp hj).1
 have bw:=p8
 have u9:=rv.length
 refine EK PySem.F.slot_list_index ⟨_,ho,rfl⟩ PySem.F.entry_list_index (PySem.F.args_list_index_2 _ _)
  (SeqAt.list_indexAt a its.toArray n dd sl (.ref p) (Rm s ns) j (by simpa using LN) (by (clear mv hu;omega)) ?_ ?_) ⟨ho,λu' GY=>g1 u' (by simpa using GY),?_⟩
 ·have e1:its.toArray[j]=its[j]:=by simp
  rw[e1,u7 j LN ns hj]
  exact c9 rfl
 ·intro m hm R8
  have pc:m<its.length:=by simpa using hm
  have e1:its.toArray[m]=its[m]:=by simp
  have LO:m<aj.length:=by rw[<-mv];exact pc
  rw[e1,u7 m pc _ (ay LO)]
  exact jn (cp m _ R8 (ay LO))
 ·exact⟨.int (j:Nat),H,I.tok _,⟨_,rfl⟩,q⟩
def aCt(K:Frag):R2:=λx y H Q=>∃(p q:Addr)(ns ms:List Int),x=.ref p/\y=.ref q/\cM K H p (ns.map V.int)/\cM K H q (ms.map V.int)/\Q (.bl (decide (ns=ms))) H
theorem aC6(hu:X.A.units<cLine):uU X (compareOp .Eq) (aCt X.K):=by
 intro U s σ H x y v u Q I rx ry h
 obtain⟨a,b,ns,ms,rfl,rfl,ha,hb,q⟩:=h
 cases rx
 cases ry
 obtain⟨its,r1,p1,_⟩:=I.tuple ha
 obtain⟨nk,r2,p2,_⟩:=I.tuple hb
 exact HT.Ax p1 p2 (by simpa using fY r1) (by simpa using fY r2) hu _ _ _ _ ⟨.bl _,H,I,rfl,q⟩
theorem iX{aJ:List (List dQ×V)}(Pv:Nat->St->Hp->Prop)(h0:Pv 0 σ H)(hl:∀i σ H,i<=aJ.length->Pv i σ H->H d=some (.frz o (.dT aJ)))
  (hs:∀i σ H T k v q,aJ[i]?=some (k,v)->Pv i σ H->H T=none->H q=some (.tup (k.map kV))->g (.ref T) σ (upd H T (.tup [.ref q,v])) λau H2=>tb {D with nx:=Pv (i+1),ct:=Pv (i+1),bk:=D.nx} au H2) (hd:∀ σ H,Pv aJ.length σ H->D.nx σ H):
  ∃W:Nat->Nat->St->Hp->Prop,(∃m,W 0 m σ H)/\∀i m σ H,W i m σ H->
   ((Lb d o aJ).stop i H/\D.nx σ H)\/((Lb d o aJ).go i H/\∃N:St->Hp->Prop,(∀ah H',N ah H'->∃m',m'<m/\W (i+1) m' ah H')/\∀x H',(Lb d o aJ).yld i H x H'->g x σ H' λau H2=>tb {D with nx:=N,ct:=N,bk:=D.nx} au H2):=by
 refine⟨λi m σ H=>m=aJ.length - i/\i<=aJ.length/\Pv i σ H,⟨aJ.length,by simp,c8 _,h0⟩,?_⟩
 rintro i m σ H ⟨rfl,hi,p⟩
 have q:=hl i σ H hi p
 by_cases am:i<aJ.length
 ·refine .inr ⟨⟨q,am⟩,Pv (i+1),λah H' p'=>⟨aJ.length - (i+1),by (clear hi;omega),rfl,am,p'⟩,λx H' y=>?_⟩
  obtain⟨T,k,v,a,e1,rfl,e2,e3,rfl⟩:=y
  exact hs i σ H T k v a e1 p e2 e3
 ·have e:i=aJ.length:=by omega
  subst e
  exact .inl ⟨⟨q,ap _⟩,hd σ H p⟩
theorem jA{c:Addr}{u:HO}{od:Obj}(h:H c=some u)(s:aK (upd H c (.frz od u)) H'):aK H (upd H' c u):=λb o e=>by
 by_cases hb:b=c
 ·rw[hb] at e ⊢
  rw[aB,<-e,h]
 ·rw[aC hb]
  exact s b o (by rw[aC hb];exact e)
theorem aK.new{o:HO}(h:H q=none):aK H (upd H q o):=λb o' e=>by rw[aC (aD e h)];exact e
theorem aK.id'(H:Hp):aK H H:=λ_ _ e=>e
end L2
namespace Br1
open PySem PySem.Spec PyProof.Rows L2
abbrev Pl:=Int×Int×Int
abbrev CL:=List (Pl×Int)
def aC5(c:Pl×Int):List dQ×V:=(eJ c.1.1 c.1.2.1 c.1.2.2,V.int c.2)
def aJ(cs:CL):List (List dQ×V):=cs.map aC5
def aZ(cs:CL)(p:Pl):Option Int:=(cs.find? λc=>decide (c.1=p)).map (·.2)
def qL(p:Pl):Pl:=(p.1,p.2.1,p.2.2+1)
def qC(p:Pl):Pl:=(p.1,p.2.1,p.2.2 - 1)
theorem yM{p q:Pl}:eJ p.1 p.2.1 p.2.2=eJ q.1 q.2.1 q.2.2↔p=q:=by
 obtain⟨a,b,c⟩:=p
 obtain⟨x,y,z⟩:=q
 simp[eJ]
theorem kY(p:Pl):∀cs:CL,gL (aJ cs) (eJ p.1 p.2.1 p.2.2)=(aZ cs p).map V.int
 |[]=>rfl
 |c::r=>by
  have ih:=kY p r
  unfold gL aZ aJ at *
  rw[bp,lf,lf]
  by_cases h:c.1=p
  ·have h2:(aC5 c).1=eJ p.1 p.2.1 p.2.2:=yM.mpr h
   simp only[h,h2,decide_true,OO]
   rfl
  ·have h2:¬(aC5 c).1=eJ p.1 p.2.1 p.2.2:=λz=>h (yM.mp z)
   simp only[h,h2,JS]
   exact ih
variable{cs:CL}
theorem iR{k:List dQ}{v:V}(h:(aJ cs)[i]?=some (k,v)):∃p s,cs[i]?=some (p,s)/\k=eJ p.1 p.2.1 p.2.2/\v=V.int s:=by
 unfold aJ at h
 rw[a9] at h
 obtain⟨⟨p,s⟩,e1,e2⟩:=rk.mp h
 cases e2
 exact⟨p,s,e1,rfl,rfl⟩
theorem Fo{f:α->Bool}{l:List α}{x:α}(h:(l.take i).all f=true)(e:l[i]?=some x)(hx:f x=true):(l.take (i+1)).all f=true:=by
 have hl:=(bq.mp e).1
 rw[jh,e,OP,h]
 simp[hx]
def nA(cs:CL):Bool:=cs.all λc=> !(fL c.2 && (aZ cs (qL c.1)).isSome)
def nZ(cs:CL):Bool:=cs.all λc=> !(dY c.2 && (aZ cs (qC c.1)).isSome)
variable{K:Frag}
def zX(CP:Addr)(H:Hp)(b:Addr)(nm:Addr)(W D Hh g:Int)(cs:CL):Prop:=∃dx c,H b=some (.ins CP dx (Sj nm W D Hh g c))/\H c=some (.dT (aJ cs))
def Cz(CP:Addr):Sp:=λvs H Q _=>∃(b nm:Addr)(W D Hh g:Int)(cs:CL),vs=[.ref b]/\zX CP H b nm W D Hh g cs/\∀H',aK H H'->Q (.bl (nA cs)) H'
def Du(CP:Addr):Sp:=λvs H Q _=>∃(b nm:Addr)(W D Hh g:Int)(cs:CL),vs=[.ref b]/\zX CP H b nm W D Hh g cs/\∀H',aK H H'->Q (.bl (nZ cs)) H'
theorem wH:aN ["part","place","sign"] ["part"] (aG En):=⟨rfl,rfl,rfl,by decide+kernel,rfl,by decide+kernel,by decide+kernel⟩
theorem xQ:aN ["part","place","sign"] ["part"] (aG Ex):=⟨rfl,rfl,rfl,by decide+kernel,rfl,by decide+kernel,by decide+kernel⟩
theorem Gs{c:Addr}{od:Obj}{p:Pl}(hc:H c=some (.frz od (.dT (aJ cs))))(hq:H q=some (.tup [.int p.1,.int p.2.1,.int p.2.2])):mW H c (.ref q) ((aZ cs p).map V.int):=
 .inr ⟨aJ cs,eJ p.1 p.2.1 p.2.2,q,.inr ⟨od,hc⟩,rfl,hq,(kY p cs).symm⟩
theorem zF{c:Addr}{p:Pl}(hc:H c=some (.dT (aJ cs)))(hq:H q=some (.tup [.int p.1,.int p.2.1,.int p.2.2])):mW H c (.ref q) ((aZ cs p).map V.int):=
 .inr ⟨aJ cs,eJ p.1 p.2.1 p.2.2,q,.inl hc,rfl,hq,(kY p cs).symm⟩
theorem Wj(F:fH K "studs_clear" "studs_clear" En f fd)(T':Po K CP)(L1:dL P w K mg base "has_stud" bU 1 ["sign"] yW)(L2:dL P w K mg base "above" bU 1 ["place"] pF):
  bV P w K mg base bU 2 f fd ["part"] (Cz CP):=by
 obtain⟨g1,gr,G1,b1,k1,h1⟩:=L1.ex
 obtain⟨g2,lr,G2,b2,k2,h2⟩:=L2.ex
 refine F.ok wH (λvs H Q E h=>?_) (λak A outer s H vs Q E hr h=>?_)
 ·obtain⟨b,nm,W,D,Hh,g,cs,rfl,_⟩:=h
  rfl
 ·obtain⟨b,nm,W,D,Hh,g,cs,rfl,⟨dx,c,hb,hc⟩,k⟩:=h
  have bn:=hr.mono (j:=1) (by decide)
  have hu:=kH hr
  refine⟨_,aF (mJ (eM ke rfl (lE (aT (pv 0) rfl)) (nE rfl (dM (bH (i:=1) wH.nd rfl (Or.inl rfl)) (dM (bH (i:=2) wH.nd rfl (Or.inl rfl)) jU)))
    (aH (eK (iH (eS (aP G1 bn (by rfl) h1 k1 b1 .nil aX (aA (pv 2) aE))) (iK (eB (sR hu (aP G2 bn (by rfl) h2 k2 b2 .nil aX (aA (pv 1) aE)) (aT (pv 0) rfl))))).pt (aH (aU nW)) cD))))
   (aH (aU nW)),?_⟩
  refine⟨c,_,hc,trivial,λod=>?_⟩
  have xi:b≠c:=λz=>by rw[z,hc] at hb;cases hb
  have il:upd H c (.frz od (.dT (aJ cs))) c=some (.frz od (.dT (aJ cs))):=aB
  have qy:upd H c (.frz od (.dT (aJ cs))) b=some (.ins CP dx (Sj nm W D Hh g c)):=by rw[aC xi];exact hb
  refine⟨_,rfl,b,CP,dx,_,_,rfl,qy,T'.cl,T'.n6,rfl,c,od,_,rfl,il,?_⟩
  refine iX (λi σ H'=>∃v1 v2,σ=[some (.ref b),v1,v2]/\aK (upd H c (.frz od (.dT (aJ cs)))) H'/\(cs.take i).all (λc=> !(fL c.2 && (aZ cs (qL c.1)).isSome))=true) ⟨none,none,rfl,aK.id' _,rfl⟩ ?_ ?_ ?_
  ·rintro i σ H1 hi ⟨v1,v2,rfl,S1,_⟩
   exact S1 _ _ il
  ·rintro i σ H1 T k v q e ⟨v1,v2,rfl,S1,al⟩ hT hq
   obtain⟨p,sg,e1,rfl,rfl⟩:=iR e
   have ST:=aK.new (o:=.tup [.ref q,.int sg]) hT
   have S2:aK (upd H c (.frz od (.dT (aJ cs)))) (upd H1 T (.tup [.ref q,.int sg])):=S1.trans ST
   refine⟨T,_,rfl,cM.of aB,rfl,_,_,rfl,_,_,rfl,rfl,?_⟩
   have step:(!(fL sg && (aZ cs (qL p)).isSome))=true->(cs.take (i+1)).all (λc=> !(fL c.2 && (aZ cs (qL c.1)).isSome))=true:=λz=>Fo al e1 z
   refine⟨_,rfl,sg,rfl,_,rfl,cE (λhs=>?_) (λhs=>vD ⟨_,_,rfl,S2,step (by rw[cQ hs];rfl)⟩)⟩
   refine⟨_,rfl,q,p.1,p.2.1,p.2.2,rfl,ST _ _ hq,λq2 ik=>?_⟩
   have SQ:=aK.new (o:=.tup [.int p.1,.int p.2.1,.int (p.2.2+1)]) ik
   have S3:=S2.trans SQ
   refine⟨_,rfl,b,CP,dx,_,_,rfl,S3 _ _ qy,T'.cl,T'.n6,rfl,c,_,rfl,Gs (p:=qL p) (S3 _ _ il) aB,_,rfl,cE (λhi=>?_) (λhi=>?_)⟩
   ·refine⟨S3 _ _ il,?_⟩
    have z:=k _ (jA hc S3)
    have e3:nA cs=false:=by
     unfold nA
     rw[E7]
     intro z
     have:=j8.mp z _ (d9 e1)
     rw[j9] at hi
     rw[hs,hi] at this
     cases this
    rw[e3] at z
    exact z
   ·refine⟨_,_,rfl,S3,step ?_⟩
    rw[j9] at hi
    rw[cQ hi,vp]
    rfl
  ·rintro σ H1 ⟨v1,v2,rfl,S1,al⟩
   refine⟨S1 _ _ il,?_⟩
   have z:=k _ (jA hc S1)
   have e3:nA cs=true:=by
    unfold nA
    have hl:(aJ cs).length=cs.length:=by unfold aJ;rw[ai]
    rw[hl,ji] at al
    exact al
   rw[e3] at z
   exact z
theorem Wq(F:fH K "tubes_clear" "tubes_clear" Ex f fd)(T':Po K CP)(L1:dL P w K mg base "has_tube" bU 1 ["sign"] wX)(L2:dL P w K mg base "below" bU 1 ["place"] oZ):
  bV P w K mg base bU 2 f fd ["part"] (Du CP):=by
 obtain⟨g1,gr,G1,b1,k1,h1⟩:=L1.ex
 obtain⟨g2,lr,G2,b2,k2,h2⟩:=L2.ex
 refine F.ok xQ (λvs H Q E h=>?_) (λak A outer s H vs Q E hr h=>?_)
 ·obtain⟨b,nm,W,D,Hh,g,cs,rfl,_⟩:=h
  rfl
 ·obtain⟨b,nm,W,D,Hh,g,cs,rfl,⟨dx,c,hb,hc⟩,k⟩:=h
  have bn:=hr.mono (j:=1) (by decide)
  have hu:=kH hr
  refine⟨_,aF (mJ (eM ke rfl (lE (aT (pv 0) rfl)) (nE rfl (dM (bH (i:=1) xQ.nd rfl (Or.inl rfl)) (dM (bH (i:=2) xQ.nd rfl (Or.inl rfl)) jU)))
    (aH (eK (iH (eS (aP G1 bn (by rfl) h1 k1 b1 .nil aX (aA (pv 2) aE))) (iK (eB (sR hu (aP G2 bn (by rfl) h2 k2 b2 .nil aX (aA (pv 1) aE)) (aT (pv 0) rfl))))).pt (aH (aU nW)) cD))))
   (aH (aU nW)),?_⟩
  refine⟨c,_,hc,trivial,λod=>?_⟩
  have xi:b≠c:=λz=>by rw[z,hc] at hb;cases hb
  have il:upd H c (.frz od (.dT (aJ cs))) c=some (.frz od (.dT (aJ cs))):=aB
  have qy:upd H c (.frz od (.dT (aJ cs))) b=some (.ins CP dx (Sj nm W D Hh g c)):=by rw[aC xi];exact hb
  refine⟨_,rfl,b,CP,dx,_,_,rfl,qy,T'.cl,T'.n6,rfl,c,od,_,rfl,il,?_⟩
  refine iX (λi σ H'=>∃v1 v2,σ=[some (.ref b),v1,v2]/\aK (upd H c (.frz od (.dT (aJ cs)))) H'/\(cs.take i).all (λc=> !(dY c.2 && (aZ cs (qC c.1)).isSome))=true) ⟨none,none,rfl,aK.id' _,rfl⟩ ?_ ?_ ?_
  ·rintro i σ H1 hi ⟨v1,v2,rfl,S1,_⟩
   exact S1 _ _ il
  ·rintro i σ H1 T k v q e ⟨v1,v2,rfl,S1,al⟩ hT hq
   obtain⟨p,sg,e1,rfl,rfl⟩:=iR e
   have ST:=aK.new (o:=.tup [.ref q,.int sg]) hT
   have S2:aK (upd H c (.frz od (.dT (aJ cs)))) (upd H1 T (.tup [.ref q,.int sg])):=S1.trans ST
   refine⟨T,_,rfl,cM.of aB,rfl,_,_,rfl,_,_,rfl,rfl,?_⟩
   have step:(!(dY sg && (aZ cs (qC p)).isSome))=true->(cs.take (i+1)).all (λc=> !(dY c.2 && (aZ cs (qC c.1)).isSome))=true:=λz=>Fo al e1 z
   refine⟨_,rfl,sg,rfl,_,rfl,cE (λhs=>?_) (λhs=>vD ⟨_,_,rfl,S2,step (by rw[cQ hs];rfl)⟩)⟩
   refine⟨_,rfl,q,p.1,p.2.1,p.2.2,rfl,ST _ _ hq,λq2 ik=>?_⟩
   have SQ:=aK.new (o:=.tup [.int p.1,.int p.2.1,.int (p.2.2 - 1)]) ik
   have S3:=S2.trans SQ
   refine⟨_,rfl,b,CP,dx,_,_,rfl,S3 _ _ qy,T'.cl,T'.n6,rfl,c,_,rfl,Gs (p:=qC p) (S3 _ _ il) aB,_,rfl,cE (λhi=>?_) (λhi=>?_)⟩
   ·refine⟨S3 _ _ il,?_⟩
    have z:=k _ (jA hc S3)
    have e3:nZ cs=false:=by
     unfold nZ
     rw[E7]
     intro z
     have:=j8.mp z _ (d9 e1)
     rw[j9] at hi
     rw[hs,hi] at this
     cases this
    rw[e3] at z
    exact z
   ·refine⟨_,_,rfl,S3,step ?_⟩
    rw[j9] at hi
    rw[cQ hi,vp]
    rfl
  ·rintro σ H1 ⟨v1,v2,rfl,S1,al⟩
   refine⟨S1 _ _ il,?_⟩
   have z:=k _ (jA hc S1)
   have e3:nZ cs=true:=by
    unfold nZ
    have hl:(aJ cs).length=cs.length:=by unfold aJ;rw[ai]
    rw[hl,ji] at al
    exact al
   rw[e3] at z
   exact z
end Br1
variable{cs sg ow:Br1.CL}
namespace L2
open PySem PySem.Spec PyProof.Rows
theorem Jg{aJ:List (List dQ×V)}{tt:TT}{vs:List Nat}{D:Addr}{Qd:Hp->Prop}(Pv:Nat->Hp->Prop)(h0:Pv 0 (upd H1 D (.lst [])))(hl:∀i H,i<=aJ.length->Pv i H->H d=some (.frz o (.dT aJ)))
  (hs:∀i k v q H,aJ[i]?=some (k,v)->Pv i H->H q=some (.tup (k.map kV))->g (.ref q) (fF σ vs) H λau H2=>fF au vs=fF σ vs/\tt au H2 λb H3=>
   if b=true then te au H3 λy H4=>∃acc,H4 D=some (.lst acc)/\acc.length<sizeLine/\Pv (i+1) (upd H4 D (.lst (acc++[y]))) else Pv (i+1) H3) (hd:∀H,Pv aJ.length H->Qd H):
  ∃W:Nat->Nat->Hp->Prop,(∃m,W 0 m (upd H1 D (.lst [])))/\∀i m H,W i m H->
   ((Uw d o aJ).stop i H/\Qd H)\/((Uw d o aJ).go i H/\∃Nx:Hp->Prop,(∀H',Nx H'->∃m',m'<m/\W (i+1) m' H')/\∀x H',(Uw d o aJ).yld i H x H'->g x (fF σ vs) H' λau H2=>fF au vs=fF σ vs/\tt au H2 λb H3=>
    if b=true then te au H3 λy H4=>∃acc,H4 D=some (.lst acc)/\acc.length<sizeLine/\Nx (upd H4 D (.lst (acc++[y]))) else Nx H3):=by
 refine⟨λi m H=>m=aJ.length - i/\i<=aJ.length/\Pv i H,⟨aJ.length,by simp,c8 _,h0⟩,?_⟩
 rintro i m H ⟨rfl,hi,p⟩
 have q:=hl i H hi p
 by_cases am:i<aJ.length
 ·refine .inr ⟨⟨q,am⟩,Pv (i+1),λH' p'=>⟨aJ.length - (i+1),by (clear hi;omega),rfl,am,p'⟩,λx H' y=>?_⟩
  obtain⟨e,k,v,a,e1,rfl,e2⟩:=y
  subst e
  exact hs i k v a _ e1 p e2
 ·have e:i=aJ.length:=by omega
  subst e
  exact .inl ⟨⟨q,ap _⟩,hd H p⟩
variable{K:Frag}
theorem Qu(Pv:Nat->St->Hp->Prop)(h0:Pv 0 σ H)(hl:∀i σ H,i<=xs.length->Pv i σ H->cM K H a xs)
  (hs:∀i x σ H T,xs[i]?=some x->Pv i σ H->H T=none->g (.ref T) σ (upd H T (.tup [.int (i:Nat),x])) λau H2=>tb {D with nx:=Pv (i+1),ct:=Pv (i+1),bk:=D.nx} au H2) (hd:∀ σ H,Pv xs.length σ H->D.nx σ H):
  ∃W:Nat->Nat->St->Hp->Prop,(∃m,W 0 m σ H)/\∀i m σ H,W i m σ H->
   ((Wg K a).stop i H/\D.nx σ H)\/((Wg K a).go i H/\∃N:St->Hp->Prop,(∀ah H',N ah H'->∃m',m'<m/\W (i+1) m' ah H')/\∀x H',(Wg K a).yld i H x H'->g x σ H' λau H2=>tb {D with nx:=N,ct:=N,bk:=D.nx} au H2):=by
 refine⟨λi m σ H=>m=xs.length - i/\i<=xs.length/\Pv i σ H,⟨xs.length,by simp,c8 _,h0⟩,?_⟩
 rintro i m σ H ⟨rfl,hi,p⟩
 have q:=hl i σ H hi p
 by_cases am:i<xs.length
 ·refine .inr ⟨⟨xs,xs[i],q,by simp[am]⟩,Pv (i+1),λah H' p'=>⟨xs.length - (i+1),by (clear hi;omega),rfl,am,p'⟩,λx H' y=>?_⟩
  obtain⟨T,x',rfl,hT,rfl,y⟩:=y
  exact hs i x' σ H T (y xs q) p hT
 ·have e:i=xs.length:=by omega
  subst e
  exact .inl ⟨⟨xs,q,rfl⟩,hd σ H p⟩
end L2
namespace Br1
open PySem PySem.Spec PyProof.Rows L2
def coP(p:Pl):Nat->Int
 |0=>p.1
 |1=>p.2.1
 |_=>p.2.2
def fZ(cs:CL)(a:Nat):List Int:=cs.map λc=>coP c.1 a
def fQ(cs:CL)(a:Nat)(n:Int):Bool:=decide ((0:Int)∈fZ cs a) && decide (n - 1∈fZ cs a)
def mY(cs:CL)(W D Hh:Int):Bool:=fQ cs 0 W && fQ cs 1 D && fQ cs 2 Hh
variable{K:Frag}
def Di(CP:Addr):Sp:=λvs H Q _=>∃(b nm:Addr)(W D Hh g:Int)(cs:CL),vs=[.ref b]/\zX CP H b nm W D Hh g cs/\cs.length<20000/\∀H',aK H H'->Q (.bl (mY cs W D Hh)) H'
theorem lF:aN ["part","sizes","axis","size","reached","place"] ["part"] (aG wR):=⟨rfl,rfl,rfl,by decide+kernel,rfl,by decide+kernel,by decide+kernel⟩
theorem Vp(F:fH K "fills_its_box" "fills_its_box" wR f fd)(T':Po K CP)(GZ:mg "enumerate"=none):
  bV P w K mg base bU 2 f fd ["part"] (Di CP):=by
 refine F.ok lF (λvs H Q E h=>?_) (λak A outer s H vs Q E hr h=>?_)
 ·obtain⟨b,nm,W,D,Hh,g,cs,rfl,_⟩:=h
  rfl
 ·obtain⟨b,nm,W,D,Hh,g,cs,rfl,⟨dx,c,hb,hc⟩,hl,k⟩:=h
  refine⟨_,aF (bI (i:=1) lF.nd rfl (Or.inl rfl) (eD (aA (aT (pv 0) rfl) (aA (aT (pv 0) rfl) (aA (aT (pv 0) rfl) aE)))))
   (aF (eM ke rfl (Vf rfl GZ (aA (pv 1) aE)) (nE rfl (dM (bH (i:=2) lF.nd rfl (by first|exact Or.inl rfl|exact Or.inr rfl)) (dM (bH (i:=3) lF.nd rfl (Or.inl rfl)) jU)))
    (aF (mJ (yN (i:=4) (te:=vF (gK K) (cY 5) (cY 2)) (own:=[("place",5)]) rfl lF.nd rfl rfl rfl (Og (aT (pv 0) rfl)) (eP (N:=["part","sizes","axis","size","reached","place"]) (sc:=aG wR) (by decide+kernel))
      (λ_ _ _ _ _=>bH (i:=5) lF.nd rfl (Or.inl rfl)) (λ_ _ _ _ _=>gF) (λ_ _ _ _ _=>bQ (r:=gK K) bE (pv 5) (pv 2) (λ_ _=>rfl))))
     (aH (eK (Pa (gX lT aI (pv 4) rfl) (Db (gX lT (cI eY (pv 3) aI) (pv 4) rfl))).pt (aH (aU nW)) cD))))
   (aH (aU nW))),?_⟩
  refine⟨_,rfl,b,CP,dx,_,_,rfl,hb,T'.cl,T'.n2,rfl,_,rfl,b,CP,dx,_,_,rfl,hb,T'.cl,T'.n3,rfl,_,rfl,b,CP,dx,_,_,rfl,hb,T'.cl,T'.n4,rfl,(by show 3<=sizeLine;decide),λq hq=>?_⟩
  have S0:=aK.new (o:=.tup [.int W,.int D,.int Hh]) hq
  have R9:cM K (upd H q (.tup [.int W,.int D,.int Hh])) q [.int W,.int D,.int Hh]:=cM.of aB
  have A8:upd H q (.tup [.int W,.int D,.int Hh]) q=some (.tup [.int W,.int D,.int Hh]):=aB
  refine⟨_,rfl,q,_,rfl,R9,?_⟩
  refine Qu (xs:=[.int W,.int D,.int Hh]) (λi σ H'=>∃v2 v3 v4 v5,σ=[some (.ref b),some (.ref q),v2,v3,v4,v5]/\aK (upd H q (.tup [.int W,.int D,.int Hh])) H'/\∀j,j<i->fQ cs j ([W,D,Hh].getD j 0)=true) ⟨none,none,none,none,rfl,aK.id' _,λj hj=>absurd hj (ud _)⟩ ?_ ?_ ?_
  ·rintro i σ H1 hi ⟨v2,v3,v4,v5,rfl,S1,_⟩
   exact cM.of (S1 _ _ A8)
  ·rintro i x σ H1 T ex ⟨v2,v3,v4,v5,rfl,S1,al⟩ hT
   have hi:i<3:=(bq.mp ex).1
   obtain⟨n,rfl,en⟩:∃n:Int,x=.int n/\[W,D,Hh].getD i 0=n:=by
    match i,hi,ex with
    |0,_,ex=>cases ex;exact⟨_,rfl,rfl⟩
    |1,_,ex=>cases ex;exact⟨_,rfl,rfl⟩
    |2,_,ex=>cases ex;exact⟨_,rfl,rfl⟩
   have ST:=aK.new (o:=.tup [.int (i:Nat),.int n]) hT
   have S2:=(S0.trans S1).trans ST
   refine⟨T,_,rfl,cM.of aB,rfl,_,_,rfl,_,_,rfl,rfl,?_⟩
   have j1:=S2 _ _ hb
   have dq:=S2 _ _ hc
   have jw:=S1.trans ST
   generalize upd H1 T (.tup [.int (i:Nat),.int n])=H2 at j1 dq S2 jw
   have xi:b≠c:=λz=>by rw[z,dq] at j1;cases j1
   refine⟨c,_,dq,trivial,λod=>?_⟩
   have il:upd H2 c (.frz od (.dT (aJ cs))) c=some (.frz od (.dT (aJ cs))):=aB
   have qy:upd H2 c (.frz od (.dT (aJ cs))) b=some (.ins CP dx (Sj nm W D Hh g c)):=by rw[aC xi];exact j1
   refine⟨_,rfl,b,CP,dx,_,_,rfl,qy,T'.cl,T'.n6,rfl,c,od,rfl,.inr ⟨aJ cs,il,λDl c7=>?_⟩⟩
   refine Jg (λj H'=>aK (upd H2 c (.frz od (.dT (aJ cs)))) H'/\H' Dl=some (.lst ((fZ (cs.take j) i).map V.int))) ⟨aK.new c7,aB⟩ (λj H' _ p=>p.1 _ _ il) ?_ ?_
   ·rintro j kk vv q2 H3 e3 ⟨S3,og⟩ ik
    obtain⟨p,sg,e4,rfl,rfl⟩:=iR e3
    have hj:j<cs.length:=(bq.mp e4).1
    refine⟨rfl,⟨_,rfl,_,rfl,q2,_,(i:Int),.int (coP p i),rfl,rfl,cM.of ik,?_,_,og,?_,?_⟩⟩
    ·match i,hi with
     |0,_=>rfl
     |1,_=>rfl
     |2,_=>rfl
    ·rw[ai]
     unfold fZ
     rw[ai,fj]
     have:=aY
     (clear hj en hi;omega)
    ·refine⟨λb' o e=>?_,?_⟩
     ·rw[aC (aD e c7)]
      exact S3 _ _ e
     ·rw[aB]
      unfold fZ
      rw[jh,e4]
      simp
   ·rintro H3 ⟨S3,og⟩
    have ii:(aJ cs).length=cs.length:=by unfold aJ;rw[ai]
    rw[ii,ji] at og
    refine⟨S3 _ _ il,?_⟩
    have S4:=jA dq S3
    have nDc:Dl≠c:=λz=>by rw[z,il] at c7;cases c7
    have so:upd H3 c (.dT (aJ cs)) Dl=some (.lst ((fZ cs i).map V.int)):=by rw[aC nDc];exact og
    generalize upd H3 c (.dT (aJ cs))=H4 at S4 so
    have S5:=jw.trans S4
    have fal:fQ cs i n=false->mY cs W D Hh=false:=by
     intro z
     unfold mY
     rw[<-en] at z
     match i,hi,z with
     |0,_,z=>rw[show fQ cs 0 W=false from z];rfl
     |1,_,z=>rw[show fQ cs 1 D=false from z,vp];rfl
     |2,_,z=>rw[show fQ cs 2 Hh=false from z,vp]
    have fin:fQ cs i n=false->Q (.bl false) H4:=λz=>by
     have kk:=k H4 (S0.trans S5)
     rw[fal z] at kk
     exact kk
    have LP:((fZ cs i).map V.int).all pT=true:=j8.mpr λx hx=>by
     obtain⟨y,_,rfl⟩:=a8.mp hx
     rfl
    refine⟨_,rfl,Dl,_,rfl,.inl (cR.of so),rfl,LP,_,rfl,cE (λh0=>To ?_) (λh0=>?_)⟩
    ·have h0:(!Xh (.int 0) ((fZ cs i).map V.int))=true:=h0
     rw[jD,cx] at h0
     exact fin (by unfold fQ;rw[h0];rfl)
    ·have h0:¬(!Xh (.int 0) ((fZ cs i).map V.int))=true:=h0
     rw[jD,cx,yf] at h0
     refine⟨_,rfl,_,_,rfl,rfl,_,rfl,Dl,_,rfl,.inl (cR.of so),rfl,LP,_,rfl,cE (λh1=>?_) (λh1=>?_)⟩
     ·have h1:(!Xh (.int (n - 1)) ((fZ cs i).map V.int))=true:=h1
      rw[jD,cx] at h1
      exact fin (by unfold fQ;rw[h1,vp])
     ·have h1:¬(!Xh (.int (n - 1)) ((fZ cs i).map V.int))=true:=h1
      rw[jD,cx,yf] at h1
      refine⟨_,_,_,_,rfl,S5,λj hj=>?_⟩
      by_cases G0:j=i
      ·rw[G0,en]
       unfold fQ
       rw[h0,h1]
       rfl
      ·exact al j (by (clear ii en hi hl;omega))
  ·rintro σ H1 ⟨v2,v3,v4,v5,rfl,S1,al⟩
   have kk:=k H1 (S0.trans S1)
   have e:mY cs W D Hh=true:=by
    unfold mY
    rw[show fQ cs 0 W=true from al 0 (by show 0<3;decide),show fQ cs 1 D=true from al 1 (by show 1<3;decide),show fQ cs 2 Hh=true from al 2 (by show 2<3;decide)]
    rfl
   rw[e] at kk
   exact kk
end Br1
namespace L2
open PySem PySem.Spec PyProof.Rows
def aD7(tk tv:TE):TE:=fun σ H Q=>∀p,H p=none->tk σ (upd H p (.dT [])) λx H1=>tv σ H1 λy H2=>H2 p=some (.dT [])/\∃(b:Addr)(ks:List dQ),x=.ref b/\H2 b=some (.tup (ks.map kV))/\Q (.ref p) (upd H2 p (.dT [(ks,y)]))
theorem aE5{v:V}{r:Value}{ks:List dQ}{Q:Unit->Shared->Prop}(hu:A.units+1<cLine)(I:aQ X U σ H s)(e:H a=some (.dT []))(eb:H b=some (.tup (ks.map kV)))(rv:cB v r)
  (h:∀s',aQ X U σ (upd H a (.dT [(ks,v)])) s'->Q () s'):wpAny (model X.prog X.w) A (dictSet a (.ref b) r) Q E s:=by
 obtain⟨z,hd,xs,rel,dd⟩:=Nq I.hok e
 have hz:xs.length<=sizeLine:=by rw[<-Paired.length rel];exact z
 refine wpAny_dictSet_heap (hsz:=hz) (CU hu) (tY I.hok eb) dd λh' zd hs=>h _ ?_
 obtain⟨q,es,ep,hq,h2,h3,h4,_,h5⟩:=zd
 have hl:(kJ ([]:List (List dQ×V)) ks v).length<=sizeLine:=by show 1<=sizeLine;decide
 refine Da I (by rw[e];exact True.intro) hs ⟨q,hq⟩ ⟨hl,hd,_,(rel.put ks eb rv).keeps λc ys ec=>?_,q,es,ep,hq,h2,h3,h4,h5⟩
 rw[aC (aBm ec e (λz=>nomatch z))]
 exact ec
theorem Vg{k v:Expr}{tk tv:TE}(hu:X.A.units+1<cLine)(hk:PE X k tk)(hv:PE X v tv):PE X (.Dict [some k] [v] pos) (aD7 tk tv):=by
 intro U s σ H Q I q
 have hn:=I.hok.fresh (ap s.heap.objs.size)
 have I1:=I.laid (a:=s.heap.objs.size) (o:=.dT []) (h':=s.heap.push {cls:=.type "dict",data:=.dict #[]}) (t':=s.toks) (λ_ _ q=>bj _ q) (ap _) (Hg s.heap I.big)
 rw[arm_eval_Dict,zip_pairTrees [some k] [v] X.env pos rfl rfl,dictDisplay_pairs (pairTrees [some k] [v] X.env pos) (by intro z;cases z) (by show 1<17;decide)]
 refine ac (B8 (ac ?_))
 unfold subDict
 refine ac (wpAny_alloc (ac (j7 ?_)))
 rw[af (show (pairTrees [some k] [v] X.env pos).length<=15 by show 1<=15;decide)]
 refine ac (pairTrees_cons_walk (cX (hk U _ σ _ _ I1 (q _ hn)) λu s1 ⟨x,H1,I2,rx,q1⟩=>cX (hv U s1 σ H1 _ I2 q1) λw2 s2 ⟨y,H2,I3,ry,q2⟩=>pairTrees_nil_walk ?_))
 obtain⟨e,b,ks,rfl,eb,q2⟩:=q2
 cases (show u=Value.ref b from rx)
 refine j7 ?_
 rw[N5]
 refine ac (ac (ac (aE5 hu I3 e eb ry λs3 I4=>ag ?_)))
 show wpAny _ _ (forIn [] _ _) _ _ s3
 rw[JK]
 exact ag (ag (ag (ag ⟨.ref s.heap.objs.size,_,I4,rfl,q2⟩)))
end L2
namespace Br1
open PySem PySem.Spec PyProof.Rows L2
def Be(p:Pl):List Pl:=[(p.1 - 1,p.2.1,p.2.2),(p.1+1,p.2.1,p.2.2),(p.1,p.2.1 - 1,p.2.2),(p.1,p.2.1+1,p.2.2),qL p,qC p]
def Xz(p:Pl):List V:=[.int p.1,.int p.2.1,.int p.2.2]
def jW(H:Hp)(qs:List Addr)(ps:List Pl):Prop:=Paired (λq p=>H q=some (.tup (Xz p))) qs ps
theorem jW.same{qs:List Addr}{ps:List Pl}(h:jW H qs ps)(s:aK H H'):jW H' qs ps:=Paired.mapP h λ_ _ e=>s _ _ e
variable{K:Frag}
def Ea:Sp:=λvs H Q _=>∃(g:Addr)(p:Pl),vs=[.ref g]/\H g=some (.tup (Xz p))/\∀(H':Hp)(l:Addr)(qs:List Addr),aK H H'->H l=none->H' l=some (.lst (qs.map V.ref))->jW H' qs (Be p)->Q (.ref l) H'
theorem qR:aN ["place","x","y","z"] ["place"] (aG Eb):=⟨rfl,rfl,rfl,by decide+kernel,rfl,by decide+kernel,by decide+kernel⟩
theorem Tz(F:fH K "neighbours" "neighbours" Eb f fd)(L1:dL P w K mg base "above" bU 1 ["place"] pF)(L2:dL P w K mg base "below" bU 1 ["place"] oZ):
  bV P w K mg base bU 2 f fd ["place"] Ea:=by
 obtain⟨g1,gr,G1,b1,k1,h1⟩:=L1.ex
 obtain⟨g2,lr,G2,b2,k2,h2⟩:=L2.ex
 refine F.ok qR (λvs H Q E h=>?_) (λak A outer s H vs Q E hr h=>?_)
 ·obtain⟨g,p,rfl,_⟩:=h
  rfl
 ·obtain⟨g,p,rfl,hg,k⟩:=h
  have bn:=hr.mono (j:=1) (by decide)
  refine⟨_,aF (bI (i:=1) qR.nd rfl (Or.inl rfl) (bQ bE (pv 0) aI (λ_ _=>rfl)))
   (aF (bI (i:=2) qR.nd rfl (Or.inl rfl) (bQ bE (pv 0) aI (λ_ _=>rfl)))
   (aF (bI (i:=3) qR.nd rfl (Or.inl rfl) (bQ bE (pv 0) aI (λ_ _=>rfl)))
   (aH (aU (eN (aA (eD (aA (cI eY (pv 1) aI) (aA (pv 2) (aA (pv 3) aE)))) (aA (eD (aA (cI gE (pv 1) aI) (aA (pv 2) (aA (pv 3) aE))))
    (aA (eD (aA (pv 1) (aA (cI eY (pv 2) aI) (aA (pv 3) aE)))) (aA (eD (aA (pv 1) (aA (cI gE (pv 2) aI) (aA (pv 3) aE))))
    (aA (aP G1 bn (by rfl) h1 k1 b1 .nil aX (aA (pv 0) aE)) (aA (aP G2 bn (by rfl) h2 k2 b2 .nil aX (aA (pv 0) aE)) aE))))))))))),?_⟩
  refine⟨_,rfl,g,_,_,_,rfl,rfl,cM.of hg,rfl,?_⟩
  refine⟨_,rfl,g,_,_,_,rfl,rfl,cM.of hg,rfl,?_⟩
  refine⟨_,rfl,g,_,_,_,rfl,rfl,cM.of hg,rfl,?_⟩
  have sz:∀a b c:V,[a,b,c].length<=sizeLine:=λ_ _ _=>by show 3<=sizeLine;decide
  refine⟨_,rfl,_,_,rfl,rfl,_,rfl,_,rfl,sz _ _ _,λq1 n1=>?_⟩
  refine⟨_,rfl,_,_,rfl,rfl,_,rfl,_,rfl,sz _ _ _,λq2 n2=>?_⟩
  refine⟨_,rfl,_,rfl,_,_,rfl,rfl,_,rfl,sz _ _ _,λq3 n3=>?_⟩
  refine⟨_,rfl,_,rfl,_,_,rfl,rfl,_,rfl,sz _ _ _,λq4 n4=>?_⟩
  have S1:=aK.new (o:=.tup (Xz (p.1 - 1,p.2.1,p.2.2))) n1
  have S2:=aK.new (o:=.tup (Xz (p.1+1,p.2.1,p.2.2))) n2
  have S3:=aK.new (o:=.tup (Xz (p.1,p.2.1 - 1,p.2.2))) n3
  have S4:=aK.new (o:=.tup (Xz (p.1,p.2.1+1,p.2.2))) n4
  have LQ:=S4 _ _ (S3 _ _ (S2 _ _ (S1 _ _ hg)))
  refine⟨_,rfl,g,p.1,p.2.1,p.2.2,rfl,LQ,λq5 n5=>?_⟩
  have S5:=aK.new (o:=.tup (Xz (qL p))) n5
  refine⟨_,rfl,g,p.1,p.2.1,p.2.2,rfl,S5 _ _ LQ,λq6 n6=>?_⟩
  have S6:=aK.new (o:=.tup (Xz (qC p))) n6
  refine⟨by show 6<=sizeLine;decide,λl nl=>?_⟩
  have S7:=aK.new (o:=.lst [V.ref q1,V.ref q2,V.ref q3,V.ref q4,V.ref q5,V.ref q6]) nl
  have SB:=(((((S1.trans S2).trans S3).trans S4).trans S5).trans S6)
  refine k _ l [q1,q2,q3,q4,q5,q6] (SB.trans S7) (SB.free nl) aB ?_
  ·refine .cons ?_ (.cons ?_ (.cons ?_ (.cons ?_ (.cons ?_ (.cons ?_ .nil)))))
   ·exact(((((S2.trans S3).trans S4).trans S5).trans S6).trans S7) _ _ aB
   ·exact((((S3.trans S4).trans S5).trans S6).trans S7) _ _ aB
   ·exact(((S4.trans S5).trans S6).trans S7) _ _ aB
   ·exact((S5.trans S6).trans S7) _ _ aB
   ·exact(S6.trans S7) _ _ aB
   ·exact S7 _ _ aB
def jX:List (List Int)->Bool
 |a::b::r=> !HT.gO b a && jX (b::r)
 |_=>true
def aA4(CP:Addr)(H:Hp)(b:Addr)(nm:List Int):Prop:=∃dx q W D Hh g c,H b=some (.ins CP dx (Sj q W D Hh g c))/\H q=some (.tup (nm.map V.int))
def Jv(K:Frag)(CP:Addr):Sp:=λvs H Q _=>∃(a:Addr)(bs:List Addr) (gh:List (List Int)),vs=[.ref a]/\cR K H a (bs.map V.ref)/\Paired (aA4 CP H) bs gh/\1<=gh.length/\gh.length<=64/\Q (.bl (jX gh)) H
theorem Nh:aN ["parts","k"] ["parts"] (aG Nk):=⟨rfl,rfl,rfl,by decide+kernel,rfl,by decide+kernel,by decide+kernel⟩
theorem sQ:∀{l:List (List Int)},jX l=true↔∀i a b,l[i]?=some a->l[i+1]?=some b->HT.gO b a=false
 |[]=>by simp[jX]
 |[x]=>by simp[jX]
 |x::y::r=>by
  have ih:=sQ (l:=y::r)
  rw[jX,cq,ih,cx]
  constructor
  ·rintro⟨h1,h2⟩ i a b ea eb
   cases i with
   |zero=>
    cases ea
    cases eb
    exact h1
   |succ i=>exact h2 i a b ea eb
  ·intro h
   exact⟨h 0 x y rfl rfl,λi a b ea eb=>h (i+1) a b ea eb⟩
theorem bY{R:α->β->Prop}:∀{as:List α}{bs:List β},Paired R as bs->∀{i:Nat}{b:β},bs[i]?=some b->∃a,as[i]?=some a/\R a b
 |_,_,.nil,i,b,h=>by simp at h
 |_,_,.cons r t,i,b,h=>by
  cases i with
  |zero=>cases h;exact⟨_,rfl,r⟩
  |succ i=>exact bY t h
theorem Ys(F:fH K "names_grow" "names_grow" Nk f fd)(T':Po K CP)(w8:mg "range"=none)(bi:mg "len"=none):bV P w K mg base bU 2 f fd ["parts"] (Jv K CP):=by
 refine F.ok Nh (λvs H Q E h=>?_) (λak A outer s H vs Q E hr h=>?_)
 ·obtain⟨a,bs,gh,rfl,_⟩:=h
  rfl
 ·obtain⟨a,bs,gh,rfl,ha,hp,pd,hn,k⟩:=h
  have hu:=kH hr
  refine⟨_,aF (eM ke rfl (Qe rfl w8 (aA aI (aA (bS bW (by rfl) bi boot_len (aA (pv 0) aE)) aE))) (bH (i:=1) Nh.nd rfl (Or.inl rfl))
    (aH (eK (gX (aCu (CU hu)) (aT (bQ jR (pv 0) (pv 1) (λ_ _=>rfl)) rfl) (aT (bQ jR (pv 0) (cI eY (pv 1) aI) (λ_ _=>rfl)) rfl) (iE _)) (aH (aU nW)) cD)))
   (aH (aU nW)),?_⟩
  have je:bs.length=gh.length:=Paired.length hp
  have bw:=aY
  have u7:∀(i:Nat)(nm:List Int),gh[i]?=some nm->∃b,Nw (bs.map V.ref) (i:Int)=some (.ref b)/\aA4 CP H b nm:=λi nm e=>by
   obtain⟨b,e1,e2⟩:=bY hp e
   exact⟨b,iO (by rw[a9,e1];rfl),e2⟩
  have pc:(bs.map V.ref).length=gh.length:=by rw[ai,je]
  refine⟨_,rfl,a,_,rfl,.inl ha,1,((bs.map V.ref).length:Int),rfl,⟨by decide,by decide,by (clear pc bw je hu hn pd;omega),by rw[pc];(clear pc bw je hu pd;omega)⟩,?_⟩
  have et:(((bs.map V.ref).length:Int) - 1).toNat=gh.length - 1:=by rw[pc];(clear pc bw je hu hn pd;omega)
  rw[et]
  refine By (λi σ H'=>∃v1,σ=[some (.ref a),v1]/\H'=H/\∀j x y,j<i->gh[j]?=some x->gh[j+1]?=some y->HT.gO y x=false) ⟨none,rfl,rfl,λj x y hj=>absurd hj (ud _)⟩ ?_ ?_
  ·rintro i σ H1 hi ⟨v1,rfl,rfl,al⟩
   have e0:gh[i]?=some gh[i]:=ay (by (clear et pc bw je hu hn pd;omega))
   have e1:gh[i+1]?=some gh[i+1]:=ay (by (clear et bw hu;omega))
   obtain⟨c0,g0,R',q0,W0,D0,H0,w0,WL,f0,t0⟩:=u7 i _ e0
   obtain⟨c1,g1,kt,q1,W1,D1,WM,w1,WN,f1,t1⟩:=u7 (i+1) _ e1
   have z1:(1:Int)+(i:Int)=((i+1:Nat):Int):=by (clear et bw hu;omega)
   have z2:(1:Int)+(i:Int) - 1=((i:Nat):Int):=by (clear z1 et bw hu;omega)
   refine⟨_,rfl,_,rfl,a,_,_,_,rfl,rfl,ha,by rw[z1];exact g1,c1,CP,kt,_,_,rfl,f1,T'.cl,T'.n1,rfl,?_⟩
   refine⟨_,rfl,_,rfl,_,_,rfl,rfl,a,_,_,_,rfl,rfl,ha,by rw[z2];exact g0,c0,CP,R',_,_,rfl,f0,T'.cl,T'.n1,rfl,?_⟩
   refine⟨q1,q0,_,_,rfl,rfl,cM.of t1,cM.of t0,_,rfl,cE (λgq=>?_) (λgq=>?_)⟩
   ·have e3:jX gh=false:=by
     rw[E7]
     intro z
     have:=sQ.mp z i _ _ e0 e1
     rw[gq] at this
     cases this
    rw[e3] at k
    exact k
   ·refine⟨_,rfl,rfl,λj x y hj ex ey=>?_⟩
    by_cases G0:j=i
    ·subst G0
     rw[e0] at ex
     rw[e1] at ey
     cases ex
     cases ey
     exact cQ gq
    ·exact al j x y (by (clear gq z2 z1 et bw hu;omega)) ex ey
  ·rintro σ H1 ⟨v1,rfl,rfl,al⟩
   have e3:jX gh=true:=sQ.mpr λi x y ex ey=>by
    have:=(bq.mp ey).1
    exact al i x y (by (clear et pc bw je hu hn pd;omega)) ex ey
   rw[e3] at k
   exact k
noncomputable def iA(cs:CL)(st:List Pl×List Pl)(p:Pl):List Pl×List Pl:=if (aZ cs p).isSome=true/\p∉st.1 then (st.1++[p],st.2++[p]) else st
noncomputable def dU(cs:CL):Nat->List Pl->List Pl->List Pl
 |0,rs,_=>rs
 |n+1,rs,ws=>match ws.getLast? with
  |none=>rs
  |some q=>dU cs n ((Be q).foldl (iA cs) (rs,ws.dropLast)).1 ((Be q).foldl (iA cs) (rs,ws.dropLast)).2
noncomputable def wU(cs:CL)(rs:List Pl):Nat:=(cs.filter λc=> !decide (c.1∈rs)).length
noncomputable def zI:CL->Bool
 |[]=>false
 |c::r=>decide ((dU (c::r) (c::r).length [c.1] [c.1]).length=(c::r).length)
theorem oK(c:Pl×Int)(r:CL)(rs:List Pl):wU (c::r) rs=(if c.1∈rs then 0 else 1)+wU r rs:=by
 unfold wU
 by_cases h:c.1∈rs
 ·rw[E8 (by simp[h]),af h,ou]
 ·rw[E9 (by simp[h]),ae h,bh,m8]
theorem Th(p:Pl)(rs:List Pl):∀cs:CL,wU cs (rs++[p])<=wU cs rs
 |[]=>ap _
 |c::r=>by
  have ih:=Th p rs r
  rw[oK,oK]
  by_cases h:c.1∈rs
  ·rw[af h,af (lx _ h)];omega
  ·rw[ae h]
   split<;>omega
theorem dR{p:Pl}:(aZ cs p).isSome=true↔∃c∈cs,c.1=p:=by
 unfold aZ
 rw[j9,List.find?_isSome]
 simp
theorem oH{p:Pl}{rs:List Pl}(hp:p∉rs):∀{cs:CL},(aZ cs p).isSome=true->wU cs (rs++[p])+1<=wU cs rs
 |[],h=>by cases h
 |c::r,h=>by
  have gq:=Th p rs r
  rw[oK,oK]
  by_cases hc:c.1=p
  ·rw[af (by simp[hc]),ae (by rw[hc];exact hp)];(clear hp;omega)
  ·have h2:(aZ r p).isSome=true:=by
    rw[dR] at h ⊢
    obtain⟨x,hx,e⟩:=h
    rcases ao.mp hx with rfl|hx
    ·exact absurd e hc
    ·exact⟨x,hx,e⟩
   have ih:=oH hp h2
   by_cases h3:c.1∈rs
   ·rw[af h3,af (lx _ h3)];(clear hc gq hp;omega)
   ·rw[ae h3,ae (by simp[h3,hc])];(clear h3 hc gq hp;omega)
noncomputable def Qy(rs:List Pl):List (List dQ×V):=rs.map λp=>(eJ p.1 p.2.1 p.2.2,V.bl true)
theorem rB(p:Pl):∀rs:List Pl,gL (Qy rs) (eJ p.1 p.2.1 p.2.2)=if p∈rs then some (V.bl true) else none
 |[]=>rfl
 |c::r=>by
  have ih:=rB p r
  unfold gL Qy at *
  rw[bp,lf]
  by_cases h:c=p
  ·subst h
   simp
  ·have h2:¬eJ c.1 c.2.1 c.2.2=eJ p.1 p.2.1 p.2.2:=λz=>h (yM.mp z)
   simp only[h2,JS]
   rw[ih]
   by_cases h3:p∈r
   ·rw[af h3,af (a7 _ h3)]
   ·rw[ae h3,ae (by simp[h3,ax h])]
theorem jW.upd{o o':HO}{qs:List Addr}{ps:List Pl}(h:jW H qs ps)(ha:H a=some o)(ho:∀xs,o≠.tup xs):jW (upd H a o') qs ps:=Paired.mapP h λq p e=>by
 rw[aC (by rintro rfl;rw[ha] at e;cases e;exact ho _ rfl)]
 exact e
theorem uM{R:α->β->Prop}:∀{as:List α}{bs:List β},Paired R as bs->Paired R as.dropLast bs.dropLast
 |_,_,.nil=>.nil
 |_,_,.cons r .nil=>.nil
 |_,_,.cons r (.cons r2 t)=>.cons r (uM (.cons r2 t))
structure HS(CP:Addr)(H:Hp)(cs:CL)(d l:Addr)(rs ws:List Pl)(qs:List Addr)(H':Hp):Prop where
 sm:aK H H'
 dd:H' d=some (.dT (Qy rs))
 ll:H' l=some (.lst (qs.map V.ref))
 pl:jW H' qs ws
 c1:rs.length+wU cs rs<=cs.length
 c2:ws.length<=rs.length
theorem HS.same{H2:Hp}{l:Addr}{rs ws:List Pl}{qs:List Addr}(h:HS CP H cs d l rs ws qs H1)(s:aK H1 H2):HS CP H cs d l rs ws qs H2:=⟨h.sm.trans s,s _ _ h.dd,s _ _ h.ll,h.pl.same s,h.c1,h.c2⟩
theorem Wm{rs:List Pl}{p:Pl}(h:p∉rs):kJ (Qy rs) (eJ p.1 p.2.1 p.2.2) (V.bl true)=Qy (rs++[p]):=by
 rw[sJ (V.bl true) (by rw[rB,ae h])]
 unfold Qy
 rw[b7]
 rfl
noncomputable def Fi(CP:Addr):Sp:=λvs H Q _=>∃(b nm:Addr)(W D Hh g:Int)(cs:CL),vs=[.ref b]/\zX CP H b nm W D Hh g cs/\cs.length<20000/\∀H',aK H H'->Q (.bl (zI cs)) H'
theorem kO:aN ["part","start","reached","waiting","reached_last","place"] ["part"] (aG Dt):=⟨rfl,rfl,rfl,by decide+kernel,rfl,by decide+kernel,by decide+kernel⟩
theorem Vh(F:fH K "hangs_together" "hangs_together" Dt f fd)(T':Po K CP)(bi:mg "len"=none)(DP:mg "list"=none)(L1:dL P w K mg base "neighbours" bU 2 ["place"] Ea):
  bV P w K mg base bU 3 f fd ["part"] (Fi CP):=by
 obtain⟨g1,gr,G1,b1,k1,h1⟩:=L1.ex
 refine F.ok kO (λvs H Q E h=>?_) (λak A outer s H vs Q E hr h=>?_)
 ·obtain⟨b,nm,W,D,Hh,g,cs,rfl,_⟩:=h
  rfl
 ·obtain⟨b,nm,W,D,Hh,g,cs,rfl,⟨dx,c,hb,hc⟩,hl,k⟩:=h
  have ba:=hr.mono (j:=2) (by decide)
  have hu:=kH hr
  refine⟨_,aF (eK (gX rO (bS tQ (by rfl) bi boot_len (aA (aT (pv 0) rfl) aE)) aI (iE _)) (aH (aU nW)) cD)
   (aF (bI (i:=1) kO.nd rfl (Or.inl rfl) (bQ jR (kT (Ls rfl) (by rfl) DP boot_list (aA (aT (pv 0) rfl) aE)) aI (λ_ _=>rfl)))
   (aF (bI (i:=2) kO.nd rfl (Or.inl rfl) (Vg hu (pv 1) nW))
   (aF (bI (i:=3) kO.nd rfl (Or.inl rfl) (eN (aA (pv 1) aE)))
   (aF (lJ ke (eB (uN (bS bW (by rfl) bi boot_len (aA (pv 3) aE)) aI))
    (aF (bI (i:=4) kO.nd rfl (Or.inl rfl) (aB9 plainAttrs_list PySem.F.slot_list_pop PySem.F.type_list_pop aEe (pv 3)))
    (aH (eM ke rfl (fV (aP G1 ba (by rfl) h1 k1 b1 .nil aX (aA (pv 4) aE))) (bH (i:=5) kO.nd rfl (Or.inl rfl))
     (aH (eK (iH (eB (sR hu (pv 5) (aT (pv 0) rfl))) (iK (eB (Qa hu (pv 5) (pv 2))))).pt
      (aF (lP hu (pv 2) (pv 5) nW rfl) (aH (cH (nQ plainAttrs_list PySem.F.slot_list_append PySem.F.type_list_append gU (pv 3) (aA (pv 5) aE))))) cD))))))
   (aH (aU (lM rO (bS tQ (by rfl) bi boot_len (aA (pv 2) aE)) (bS tQ (by rfl) bi boot_len (aA (aT (pv 0) rfl) aE)) (iE _)))))))),?_⟩
  have kl:(aJ cs).length=cs.length:=by unfold aJ;rw[ai]
  have bw:=aY
  refine⟨_,rfl,b,CP,dx,_,_,rfl,hb,T'.cl,T'.n6,rfl,c,_,rfl,.inl hc,rfl,_,rfl,cE (λh0=>?_) (λh0=>?_)⟩
  ·rw[iG] at h0
   have h0:=d7 h0
   have e0:cs=[]:=FA.mp (by (clear bw hu hl;omega))
   subst e0
   exact k H (aK.id' _)
  ·rw[iG] at h0
   have h0:¬((aJ cs).length:Int)=0:=λz=>h0 (c9 z)
   cases cs with
   |nil=>exact absurd rfl h0
   |cons c0 cr=>
   refine⟨_,rfl,b,CP,dx,_,_,rfl,hb,T'.cl,T'.n6,rfl,c,_,rfl,.inl hc,λlk ps SC cy=>?_⟩
   obtain⟨st,DQ,rfl,fc⟩:∃st DQ,ps=st::DQ/\H st=some (.tup (Xz c0.1)):=by
    cases cy with
    |cons r t=>exact⟨_,_,rfl,r⟩
   have S1:=aK.new (o:=.lst ((st::DQ).map V.ref)) SC
   refine⟨lk,_,0,.ref st,rfl,rfl,cR.of aB,iO (j:=0) rfl,?_⟩
   have G5:=S1 _ _ fc
   generalize upd H lk (.lst ((st::DQ).map V.ref))=H1 at S1 G5
   intro d hd
   have S2:=aK.new (o:=.dT []) hd
   refine⟨_,rfl,aB,st,eJ c0.1.1 c0.1.2.1 c0.1.2.2,rfl,S2 _ _ G5,?_⟩
   refine⟨_,rfl,by show 1<=sizeLine;decide,λl qg=>?_⟩
   have SD:upd (upd H1 d (.dT [])) d (.dT [(eJ c0.1.1 c0.1.2.1 c0.1.2.2,V.bl true)])=upd H1 d (.dT (Qy [c0.1])):=by
    funext x
    by_cases hx:x=d
    ·rw[hx,aB,aB];rfl
    ·rw[aC hx,aC hx,aC hx]
   rw[SD] at qg ⊢
   have S3:aK H1 (upd H1 d (.dT (Qy [c0.1]))):=aK.new hd
   have S4:=aK.new (o:=.lst [V.ref st]) qg
   have SE:H d=none:=S1.free hd
   have LR:H l=none:=(S1.trans S3).free qg
   have va:d≠l:=λz=>by rw[<-z,aB] at qg;cases qg
   have mi:∀{H':Hp},aK H H'->H' b=some (.ins CP dx (Sj nm W D Hh g c)):=λs=>s _ _ hb
   have qh:∀{H':Hp},aK H H'->H' c=some (.dT (aJ (c0::cr))):=λs=>s _ _ hc
   generalize qk:c0::cr=cs at *
   refine⟨λm σ H'=>∃rs ws qs v4 v5,σ=[some (.ref b),some (.ref st),some (.ref d),some (.ref l),v4,v5]/\HS CP H cs d l rs ws qs H'/\ws.length+wU cs rs<=m/\dU cs cs.length [c0.1] [c0.1]=dU cs m rs ws,
    ⟨cs.length,[c0.1],[c0.1],[st],none,none,rfl,⟨(S1.trans S3).trans S4,S4 _ _ aB,aB,.cons (S4 _ _ (S3 _ _ G5)) .nil,?_,ap _⟩,?_,rfl⟩,?_⟩
   ·have u1:wU cs [c0.1]+1<=cs.length:=by
     have z:=oH (p:=c0.1) (rs:=[]) (cs:=cs) (by simp) (dR.mpr ⟨c0,by rw[<-qk];exact bf,rfl⟩)
     have z2:wU cs []<=cs.length:=JT _ _
     exact gu z z2
    show 1+wU cs [c0.1]<=cs.length
    (clear h0 kl hl bw hu;omega)
   ·have u1:wU cs [c0.1]+1<=cs.length:=by
     have z:=oH (p:=c0.1) (rs:=[]) (cs:=cs) (by simp) (dR.mpr ⟨c0,by rw[<-qk];exact bf,rfl⟩)
     have z2:wU cs []<=cs.length:=JT _ _
     exact gu z z2
    show 1+wU cs [c0.1]<=cs.length
    (clear h0 kl hl bw hu;omega)
   ·rintro m σ H2 ⟨rs,ws,qs,v4,v5,rfl,hs,hm,er⟩
    have ql:qs.length=ws.length:=Paired.length hs.pl
    refine⟨_,rfl,l,_,rfl,.inl (cR.of hs.ll),_,_,rfl,rfl,_,rfl,cE (λhw=>?_) (λhw=>?_)⟩
    ·have hw:(0:Int)<((qs.map V.ref).length:Int):=d7 hw
     rw[ai] at hw
     obtain⟨n,rfl⟩:∃n,m=n+1:=⟨m - 1,by (clear h0 kl hl bw hu;omega)⟩
     obtain⟨q,eq⟩:∃q,ws[ws.length - 1]?=some q:=⟨_,ay (by (clear hm h0 kl hl bw hu;omega))⟩
     obtain⟨qa,eqa,G6⟩:=bY hs.pl eq
     have elast:ws.getLast?=some q:=by rw[List.getLast?_eq_getElem?];exact eq
     have G7:dU cs (n+1) rs ws=dU cs n ((Be q).foldl (iA cs) (rs,ws.dropLast)).1 ((Be q).foldl (iA cs) (rs,ws.dropLast)).2:=by
      rw[dU,elast]
     have zq:ws.dropLast.length+1=ws.length:=by rw[N3];(clear hm h0 kl hl bw hu;omega)
     have nq:qa≠l:=λz=>by rw[z,hs.ll] at G6;cases G6
     refine⟨λah H'=>∃rs ws qs v4 v5,ah=[some (.ref b),some (.ref st),some (.ref d),some (.ref l),v4,v5]/\HS CP H cs d l rs ws qs H'/\ws.length+wU cs rs<=n/\dU cs cs.length [c0.1] [c0.1]=dU cs n rs ws,λah H' z=>⟨n,k8 n,z⟩,?_⟩
     refine⟨_,rfl,.inl ⟨rfl,_,cR.of hs.ll⟩,l,_,.ref qa,rfl,rfl,hs.ll,(by rw[ai,a9,ql,eqa];rfl),?_⟩
     have o6:HS CP H cs d l rs ws.dropLast qs.dropLast (upd H2 l (.lst (qs.map V.ref).dropLast)):=⟨λx o e=>by rw[aC (aD e LR)];exact hs.sm _ _ e,by rw[aC va];exact hs.dd,by rw[aB,List.map_dropLast],jW.upd (uM hs.pl) hs.ll (λxs z=>by cases z),hs.c1,by have:=hs.c2;(clear hm hw ql h0 kl hl bw hu;omega)⟩
     have LS:upd H2 l (.lst (qs.map V.ref).dropLast) qa=some (.tup (Xz q)):=by rw[aC nq];exact G6
     generalize upd H2 l (.lst (qs.map V.ref).dropLast)=H3 at o6 LS
     refine⟨_,rfl,qa,q,rfl,LS,λH4 nl ns S4 zr DR SH=>?_⟩
     have nd:nl≠d:=λz=>by rw[z,o6.dd] at zr;cases zr
     have SI:nl≠l:=λz=>by rw[z,o6.ll] at zr;cases zr
     have wu:=o6.same S4
     refine⟨nl,rfl,⟨_,cR.of DR⟩,?_⟩
     refine wM (xs:=ns.map V.ref) (λi σ H'=>∃jk k7 qz v5,σ=[some (.ref b),some (.ref st),some (.ref d),some (.ref l),some (.ref qa),v5]/\HS CP H cs d l jk k7 qz H'/\k7.length+wU cs jk<=n/\((Be q).take i).foldl (iA cs) (rs,ws.dropLast)=(jk,k7)/\H' nl=some (.lst (ns.map V.ref))/\jW H' ns (Be q))
      ⟨rs,ws.dropLast,qs.dropLast,v5,rfl,wu,by (clear hw ql h0 kl hl bw hu;omega),rfl,DR,SH⟩ (λi σ H' _ z=>by obtain⟨_,_,_,_,_,_,_,_,z,_⟩:=z;exact cR.of z) ?_ ?_
     ·rintro i x σ H5 ex ⟨jk,k7,qz,v5,rfl,iu,ss,ef,ux,xj⟩
      have hi:i<ns.length:=by
       have:=(bq.mp ex).1
       rwa [ai] at this
      have oh:ns.length=(Be q).length:=Paired.length xj
      obtain⟨p,ep⟩:∃p,(Be q)[i]?=some p:=⟨_,ay (by (clear ss zq hm hw ql h0 kl hl bw hu;omega))⟩
      obtain⟨pa,SJ,df⟩:=bY xj ep
      rw[a9,SJ] at ex
      cases ex
      have LU:((Be q).take (i+1)).foldl (iA cs) (rs,ws.dropLast)=iA cs (jk,k7) p:=by
       rw[jh,ep,List.foldl_append,ef]
       rfl
      have stay:¬((aZ cs p).isSome=true/\p∉jk)->((Be q).take (i+1)).foldl (iA cs) (rs,ws.dropLast)=(jk,k7):=λz=>by
       rw[LU]
       exact ae z
      have re:k7.length<=jk.length:=iu.c2
      have su:=iu.c1
      refine⟨_,rfl,_,rfl,b,CP,dx,_,_,rfl,mi iu.sm,T'.cl,T'.n6,rfl,c,_,rfl,zF (qh iu.sm) df,_,rfl,cE (λa6=>?_) (λa6=>vD ⟨jk,k7,qz,_,rfl,iu,ss,stay (λz=>a6 (by rw[j9];exact z.1)),ux,xj⟩)⟩
      rw[j9] at a6
      refine⟨_,rfl,_,rfl,d,_,rfl,mW.tt (k:=eJ p.1 p.2.1 p.2.2) iu.dd df,_,rfl,cE (λcp=>?_) (λcp=>?_)⟩
      ·have qt:p∉jk:=λz=>by
        rw[rB,af z] at cp
        cases cp
       have G8:=oH qt a6
       refine⟨_,rfl,_,rfl,d,_,rfl,tK.tt (k:=eJ p.1 p.2.1 p.2.2) iu.dd df (by unfold Qy;rw[ai];(clear G8 qt re oh hi ss zq hm hw ql h0 kl hu;omega)),?_⟩
       rw[Wm qt]
       have SK:l≠d:=ax va
       have G9:qz.length=k7.length:=Paired.length iu.pl
       have G':upd H5 d (.dT (Qy (jk++[p]))) l=some (.lst (qz.map V.ref)):=by rw[aC SK];exact iu.ll
       refine⟨_,rfl,.inl ⟨rfl,_,cR.of G'⟩,_,rfl,l,_,_,rfl,rfl,G',by rw[ai];(clear G8 qt oh hi ss zq hm hw ql h0 kl hu;omega),?_⟩
       have HB:pa≠d:=λz=>by rw[z,iu.dd] at df;cases df
       have SL:pa≠l:=λz=>by rw[z,iu.ll] at df;cases df
       have LV:∀{qq:List Addr}{pp:List Pl},jW H5 qq pp->jW (upd (upd H5 d (.dT (Qy (jk++[p])))) l (.lst (qz.map V.ref++[V.ref pa]))) qq pp:=λz=>jW.upd (jW.upd z iu.dd (λxs z=>by cases z)) G' (λxs z=>by cases z)
       refine⟨jk++[p],k7++[p],qz++[pa],_,rfl,⟨λx o e=>?_,by rw[aC va,aB],by rw[aB,b7];rfl,Paired.snoc (LV iu.pl) (by rw[aC SL,aC HB];exact df),?_,?_⟩,?_,?_,by rw[aC SI,aC nd];exact ux,LV xj⟩
       ·rw[aC (aD e LR),aC (aD e SE)]
        exact iu.sm _ _ e
       ·rw[b6]
        show jk.length+1+_<=_
        (clear G9 qt re oh hi ss zq hm hw ql h0 kl hl bw hu;omega)
       ·rw[b6,b6]
        show k7.length+1<=jk.length+1
        (clear G9 G8 qt su oh hi ss zq hm hw ql h0 kl hl bw hu;omega)
       ·rw[b6]
        show k7.length+1+_<=_
        (clear G9 qt su re oh hi zq hm hw ql h0 kl hl bw hu;omega)
       ·rw[LU]
        exact af ⟨a6,qt⟩
      ·refine⟨jk,k7,qz,_,rfl,iu,ss,stay (λz=>cp ?_),ux,xj⟩
       rw[rB,ae z.2]
       rfl
     ·rintro σ H5 ⟨jk,k7,qz,v5,rfl,iu,ss,ef,ux,xj⟩
      have oh:ns.length=(Be q).length:=Paired.length xj
      rw[ai,oh,ji] at ef
      refine⟨jk,k7,qz,_,v5,rfl,iu,ss,?_⟩
      rw[er,G7,ef]
    ·have hw:¬(0:Int)<((qs.map V.ref).length:Int):=λz=>hw (c9 z)
     rw[ai] at hw
     have e0:ws=[]:=FA.mp (by (clear hm h0 kl hl bw hu;omega))
     subst e0
     have SM:dU cs m rs []=rs:=by cases m<;>rfl
     refine⟨_,rfl,d,_,rfl,.inl hs.dd,_,rfl,b,CP,dx,_,_,rfl,mi hs.sm,T'.cl,T'.n6,rfl,c,_,rfl,.inl (qh hs.sm),rfl,?_⟩
     have kk:=k H2 hs.sm
     have e5:zI cs=decide (V.int ((Qy rs).length:Int)=V.int ((aJ cs).length:Int)):=by
      rw[iG]
      have e6:zI cs=decide ((dU cs cs.length [c0.1] [c0.1]).length=cs.length):=by rw[<-qk];rfl
      rw[e6,er,SM,kl]
      unfold Qy
      rw[ai,ON]
      (clear ql hm hw h0 kl hl bw hu;omega)
     rw[e5] at kk
     exact kk
def yI(y z:Nat):Nat->List Int->CL
 |_,[]=>[]
 |x,s::r=>(if s=46 then [] else [(((x:Int),(y:Int),(z:Int)),s)])++yI y z (x+1) r
def qB(d:Nat):Nat->List (List Int)->CL
 |_,[]=>[]
 |j,r::rs=>yI (j % d) (j / d) 0 r++qB d (j+1) rs
theorem Iu(y z:Nat):∀(xs:List Int)(x:Nat),fN y z x xs=aJ (yI y z x xs)
 |[],x=>rfl
 |s::r,x=>by
  rw[fN,yI,Iu y z r (x+1)]
  unfold aJ
  rw[b7]
  split<;>rfl
theorem tD(d:Nat):∀(rs:List (List Int)) (j:Nat),eC d j rs=aJ (qB d j rs)
 |[],j=>rfl
 |r::rs,j=>by
  rw[eC,qB,Iu,tD d rs (j+1)]
  unfold aJ
  rw[b7]
def uF(pr:aM):CL:=qB pr.d 0 pr.rows
def Ef(cs:CL)(W D Hh:Int):Bool:=nA cs && (nZ cs && (mY cs W D Hh && zI cs))
def gY(pr:aM):Bool:=Ef (uF pr) pr.w pr.d pr.h
def oB(aa:List aM):Bool:=aa.all gY && jX (aa.map (·.name))
theorem eI.pt(h:eI CP H b pr):∃nm,zX CP H b nm pr.w pr.d pr.h pr.g (uF pr):=by
 obtain⟨dx,nm,c,h1,h2,h3⟩:=h
 exact⟨nm,dx,c,h1,by rw[h3,tD];rfl⟩
theorem eI.nm(h:eI CP H b pr):aA4 CP H b pr.name:=by
 obtain⟨dx,nm,c,h1,h2,h3⟩:=h
 exact⟨dx,nm,_,_,_,_,c,h1,h2⟩
theorem sU.len(h:sU pr):(uF pr).length<20000:=by
 have e:(uF pr).length=(eC pr.d 0 pr.rows).length:=by
  rw[tD]
  unfold aJ uF
  rw[ai]
 have h1:=qG pr.d pr.w pr.rows 0 h.rw
 have h2:pr.rows.length * pr.w<=(16 * 18) * 16:=by
  rw[h.rl]
  exact E1 (E1 h.d2 h.h2) h.w2
 omega
def wD(CP:Addr):Sp:=λvs H Q _=>∃(b nm:Addr)(W D Hh g:Int)(cs:CL),vs=[.ref b]/\zX CP H b nm W D Hh g cs/\cs.length<20000/\∀H',aK H H'->Q (.bl (Ef cs W D Hh)) H'
theorem zX.same{nm:Addr}{W D Hh g:Int}(h:zX CP H b nm W D Hh g cs)(s:aK H H'):zX CP H' b nm W D Hh g cs:=by
 obtain⟨dx,c,h1,h2⟩:=h
 exact⟨dx,c,s _ _ h1,s _ _ h2⟩
theorem Wr:aN ["part"] ["part"] (aG lU):=⟨rfl,rfl,rfl,by decide+kernel,rfl,by decide+kernel,by decide+kernel⟩
theorem Tq(F:fH K "part_right" "part_right" lU f fd)(L1:dL P w K mg base "studs_clear" bU 2 ["part"] (Cz CP))(L2:dL P w K mg base "tubes_clear" bU 2 ["part"] (Du CP))
  (L3:dL P w K mg base "fills_its_box" bU 2 ["part"] (Di CP)) (L4:dL P w K mg base "hangs_together" bU 3 ["part"] (Fi CP)):bV P w K mg base bU 4 f fd ["part"] (wD CP):=by
 obtain⟨g1,gr,G1,b1,k1,h1⟩:=L1.ex
 obtain⟨g2,lr,G2,b2,k2,h2⟩:=L2.ex
 obtain⟨g3,DS,G3,b3,k3,h3⟩:=L3.ex
 obtain⟨g4,HC,G4,b4,k4,h4⟩:=L4.ex
 refine F.ok Wr (λvs H Q E h=>?_) (λak A outer s H vs Q E hr h=>?_)
 ·obtain⟨b,nm,W,D,Hh,g,cs,rfl,_⟩:=h
  rfl
 ·obtain⟨b,nm,W,D,Hh,g,cs,rfl,hp,hl,k⟩:=h
  have ba:=hr.mono (j:=2) (by decide)
  have i6:=hr.mono (j:=3) (by decide)
  refine⟨_,aH (aU (tH (aP G1 ba (by rfl) h1 k1 b1 .nil aX (aA (pv 0) aE)) (tH (aP G2 ba (by rfl) h2 k2 b2 .nil aX (aA (pv 0) aE))
   (tH (aP G3 ba (by rfl) h3 k3 b3 .nil aX (aA (pv 0) aE)) (uE (aP G4 i6 (by rfl) h4 k4 b4 .nil aX (aA (pv 0) aE))))))),?_⟩
  unfold Ef at k
  refine⟨_,rfl,b,nm,W,D,Hh,g,cs,rfl,hp,λH1 S1=>⟨_,rfl,cE (λe1=>?_) (λe1=>?_)⟩⟩
  ·rw[e1,i9] at k
   refine⟨_,rfl,b,nm,W,D,Hh,g,cs,rfl,hp.same S1,λH2 S2=>⟨_,rfl,cE (λe2=>?_) (λe2=>?_)⟩⟩
   ·rw[e2,i9] at k
    have S2:=S1.trans S2
    refine⟨_,rfl,b,nm,W,D,Hh,g,cs,rfl,hp.same S2,hl,λH3 S3=>⟨_,rfl,cE (λe3=>?_) (λe3=>?_)⟩⟩
    ·rw[e3,i9] at k
     have S3:=S2.trans S3
     exact⟨_,rfl,b,nm,W,D,Hh,g,cs,rfl,hp.same S3,hl,λH4 S4=>k H4 (S3.trans S4)⟩
    ·rw[cQ e3,ly] at k
     exact k H3 (S2.trans S3)
   ·rw[cQ e2,ly] at k
    exact k H2 (S1.trans S2)
  ·rw[cQ e1,ly] at k
   exact k H1 S1
def qK(K:Frag)(CP:Addr):Sp:=λvs H Q _=>∃(a:Addr)(bs:List Addr)(aa:List aM),vs=[.ref a]/\cR K H a (bs.map V.ref)/\dS CP H bs aa/\1<=aa.length/\aa.length<=64/\∀H',aK H H'->Q (.bl (oB aa)) H'
theorem nU:aN ["parts","part"] ["parts"] (aG kX):=⟨rfl,rfl,rfl,by decide+kernel,rfl,by decide+kernel,by decide+kernel⟩
theorem Fy(F:fH K "catalogue_right" "catalogue_right" kX f fd)(ki:mg "all"=none)(L1:dL P w K mg base "part_right" bU 4 ["part"] (wD CP))(L2:dL P w K mg base "names_grow" bU 2 ["parts"] (Jv K CP)):
  bV P w K mg base bU 5 f fd ["parts"] (qK K CP):=by
 obtain⟨g1,gr,G1,b1,k1,h1⟩:=L1.ex
 obtain⟨g2,lr,G2,b2,k2,h2⟩:=L2.ex
 refine F.ok nU (λvs H Q E h=>?_) (λak A outer s H vs Q E hr h=>?_)
 ·obtain⟨a,bs,aa,rfl,_⟩:=h
  rfl
 ·obtain⟨a,bs,aa,rfl,ha,hp,pd,hn,k⟩:=h
  have ba:=hr.mono (j:=2) (by decide)
  have jd:=hr.mono (j:=4) (by decide)
  refine⟨_,aH (aU (tH (bS (aD5 rfl) (by rfl) ki boot_all (aA (rK (own:=[("part",1)]) (te:=Hc (wD CP) [] E0 (dP (cY 1) gM)) rfl nU.nd (fV (pv 0)) (eP (N:=["parts","part"]) (sc:=aG kX) (by decide+kernel))
      (λ_ _ _ _ _=>bH (i:=1) nU.nd rfl (Or.inl rfl)) (λ_ _ _ _ _=>gF) (λ_ _ _ _ _=>aP G1 jd (by rfl) h1 k1 b1 .nil aX (aA (pv 1) aE))) aE))
    (uE (aP G2 ba (by rfl) h2 k2 b2 .nil aX (aA (pv 0) aE))))),?_⟩
  have je:bs.length=aa.length:=Paired.length hp
  have bw:=aY
  refine⟨_,rfl,a,rfl,⟨_,ha⟩,λDl c7=>?_⟩
  refine lN (xs:=bs.map V.ref) (λi H'=>aK H H'/\H' Dl=some (.lst (((aa.take i).map gY).map V.bl))) ⟨aK.new c7,aB⟩ (λi H' _ z=>z.1.seq ha) ?_ ?_
  ·rintro i x H1 ex ⟨S1,cn⟩
   have hi:i<aa.length:=by
    have:=(bq.mp ex).1
    rwa [ai,je] at this
   obtain⟨pr,ep⟩:∃pr,aa[i]?=some pr:=⟨_,ay hi⟩
   obtain⟨b,eb,pa,po⟩:=bY hp ep
   rw[a9,eb] at ex
   cases ex
   obtain⟨nm,pt⟩:=pa.pt
   refine⟨rfl,_,rfl,b,nm,_,_,_,_,_,rfl,pt.same S1,po.len,λH2 S2=>⟨_,S2 _ _ cn,?_,?_,?_⟩⟩
   ·rw[ai,ai,fj]
    (clear hi je pd;omega)
   ·intro b' o e
    rw[aC (aD e c7)]
    exact S2 _ _ (S1 _ _ e)
   ·rw[aB,jh,ep,b7,b7]
    rfl
  ·rintro H1 ⟨S1,cn⟩
   rw[ai,je,ji] at cn
   refine⟨Dl,_,rfl,cR.of cn,_,rfl,cE (λe1=>?_) (λe1=>?_)⟩
   ·refine⟨_,rfl,a,bs,aa.map (·.name),rfl,S1.seq ha,?_,by rw[ai];exact pd,by rw[ai];exact hn,?_⟩
    ·have key:∀{bs:List Addr}{aa:List aM},dS CP H bs aa->Paired (aA4 CP H1) bs (aa.map (·.name)):=by
      intro bs aa z
      unfold dS at z
      induction z with
      |nil=>exact .nil
      |cons h t ih=>exact .cons (h.1.same S1).nm ih
     exact key hp
    ·have kk:=k H1 S1
     unfold oB at kk
     rw[EL] at e1
     have e1:aa.all gY=true:=e1
     rw[e1,i9] at kk
     exact kk
   ·have kk:=k H1 S1
    unfold oB at kk
    rw[EL] at e1
    have e1:¬aa.all gY=true:=e1
    rw[cQ e1,ly] at kk
    exact kk
end Br1
namespace HT
open PySem PyProof.Rows
theorem pQ{t sl:Addr}{items:Array Value}{vl vu:Value}{lo hi:Option Int}(ht:IsTup s.heap t items)(hs:s.heap.IsSliceOf sl vl vu .none)(pl:IsPart vl lo)(pu:IsPart vu hi)
  (hw:iB items.size 0 lo=0/\iB items.size items.size hi=items.size) (h:Q (.ref t) s):wpAny (model prog w) A (getItem (.ref t) (.ref sl)) Q E s:=by
 obtain⟨os,f9,qk,r8⟩:=id hs
 have AZ:s.TypeIs (.ref sl) "slice":=⟨os,f9,qk⟩
 unfold getItem
 try with_reducible refine j7 ?_
 first|refine ac (ag ?_)|skip
 refine ac (wpAny_sequenceKey ht.typeIs (by decide) ?_)
 refine ac (mw (name:=Str.ofString "__getitem__") ht.typeIs AG
  (jg AG ht.typeIs entry_tuple_getitem ?_ (args_tuple_getitem _ _)))
 show wpAny _ _ (Builtin.Tuple.tupleItemsOf (.ref t)>>=_) _ _ s
 refine ac (tupleItemsOf_ ht ?_)
 refine ac (B5 AZ ?_)
 rw[af (by decide)]
 refine ac (lC hs pl pu ?_)
 have SN:((((iB items.size 0 lo:Nat):Int)==0 && (1:Int)==1 && (iB items.size items.size hi - iB items.size 0 lo)==items.size)=true):=by
  rw[hw.1,hw.2]
  simp
 show wpAny _ _ (if (((iB items.size 0 lo:Nat):Int)==0 && (1:Int)==1 && (iB items.size items.size hi - iB items.size 0 lo)==items.size)=true then _ else _) _ _ s
 rw[af SN]
 unfold Builtin.Tuple.tupleIsExact
 refine ac (ac (B5 ht.typeIs (ag ?_)))
 rw[af (by decide)]
 exact ac (yj (ag ⟨_,rfl,ag h⟩))
end HT
namespace L2
open PySem PySem.Spec PyProof.Rows
def aAc(K:Frag):V->Option Int->Option Int->Hp->VK->Prop:=λx lo hi H Q=>∃a xs,x=.ref a/\cM K H a xs/\∀p H',aK H H'->cM K H' p (vJ xs lo hi)->Q (.ref p) H'
theorem Cq:SlR X (aAc X.K):=by
 intro U s σ H x v vl vu lo hi sl Q I rx hs pl pu h
 obtain⟨a,xs,rfl,hx,q⟩:=h
 by_cases hw:HT.iB xs.length 0 lo=0/\HT.iB xs.length xs.length hi=xs.length
 ·cases rx
  obtain⟨its,r,ht,hz⟩:=I.tuple hx
  have bi:its.toArray.size=xs.length:=by rw[cb];exact r.length.symm
  refine⟨"tuple",_,AG.lookup,ht.typeIs,?_⟩
  refine HT.pQ ht hs pl pu (by rw[bi];exact hw) ⟨.ref a,H,I,rfl,q a H (λ_ _ e=>e) ?_⟩
  have e:vJ xs lo hi=xs:=by
   unfold vJ
   rw[hw.1,hw.2,List.drop_zero,CO,ji]
  rw[e]
  exact hx
 ·exact aDf U s σ H _ v vl vu lo hi sl Q I rx hs pl pu ⟨a,xs,rfl,hx,hw,λp hp=>q p _ (λb o e=>by rw[aC (aD e hp)];exact e) (cM.of aB)⟩
variable{K:Frag}
theorem aK.seqT(e:aK H H')(h:cM K H a xs):cM K H' a xs:=by
 rcases h with (h|⟨o,h⟩)|h
 ·exact .inl (.inl (e _ _ h))
 ·exact .inl (.inr ⟨o,e _ _ h⟩)
 ·exact .inr h
end L2
namespace Br1
open PySem PySem.Spec PyProof.Rows L2
def iV(aj:List (List Int))(ns:List Int):Bool:=aj.any λm=>decide (m.take ns.length=ns)
theorem Xo(m:List Int)(k:Nat):vJ (m.map V.int) none (some (k:Int))=(m.take k).map V.int:=by
 unfold vJ
 rw[HT.Uj,HT.Mu,CO,List.drop_zero,ai]
 rw[<-List.map_take]
 congr 1
 by_cases h:k<=m.length
 ·rw[OQ h]
 ·rw[OR (by omega),ji,wc (by omega)]
variable{K:Frag}
theorem pR.same(h:pR K H xs aj)(s:aK H H'):pR K H' xs aj:=Paired.mapP h λx ns z=>by
 obtain⟨p,e,t⟩:=z
 exact⟨p,e,s.seqT t⟩
def xY(K:Frag):Sp:=λvs H Q _=>∃(a q:Addr)(xs:List V) (aj:List (List Int)) (ns:List Int),vs=[.ref a,.ref q]/\cR K H a xs/\pR K H xs aj/\cM K H q (ns.map V.int)/\aj.length<=64/\∀H',aK H H'->Q (.bl (iV aj ns)) H'
theorem sV:aN ["names","beginning","name"] ["names","beginning"] (aG rE):=⟨rfl,rfl,rfl,by decide+kernel,rfl,by decide+kernel,by decide+kernel⟩
def aFe(K:Frag):List V->Hp->VK->Prop:=λxs H Q=>∃p ys,xs=[.ref p]/\(cR K H p ys\/cM K H p ys)/\Q (.int ys.length) H
theorem Ql(F:fH K "some_begins" "some_begins" rE f fd)(SO:mg "any"=none)(bi:mg "len"=none):bV P w K mg base bU 2 f fd ["names","beginning"] (xY K):=by
 refine F.ok sV (λvs H Q E h=>?_) (λak A outer s H vs Q E hr h=>?_)
 ·obtain⟨a,q,xs,aj,ns,rfl,_⟩:=h
  rfl
 ·obtain⟨a,q,xs,aj,ns,rfl,ha,ht,hq,hn,k⟩:=h
  have hu:=kH hr
  refine⟨_,aH (aU (bS (aD8 rfl) (by rfl) SO boot_any (aA (rK (own:=[("name",2)]) (te:=vF (aCt K) (tSl (aAc K) (cY 2) Ds (Xs (tCB (aFe K) (dP (cY 1) gM)))) (cY 1)) rfl sV.nd (fV (pv 0)) (eP (N:=["names","beginning","name"]) (sc:=aG rE) (by decide+kernel))
      (λ_ _ _ _ _=>bH (i:=2) sV.nd rfl (Or.inl rfl)) (λ_ _ _ _ _=>gF)
      (λ_ _ _ _ _=>lM (r:=aCt K) (aC6 (CU hu)) (yC (r:=aAc K) Cq (pv 2) Dh (Fh (bS (r:=aFe K) bW (by rfl) bi boot_len (aA (pv 1) aE)))) (pv 1) (iE _))) aE))),?_⟩
  have pb:xs.length=aj.length:=Paired.length ht
  have bw:=aY
  refine⟨_,rfl,a,rfl,⟨_,ha⟩,λDl c7=>?_⟩
  refine lN (xs:=xs) (λi H'=>aK H H'/\H' Dl=some (.lst (((aj.take i).map λm=>decide (m.take ns.length=ns)).map V.bl))) ⟨aK.new c7,aB⟩ (λi H' _ z=>z.1.seq ha) ?_ ?_
  ·rintro i x H1 ex ⟨S1,cn⟩
   have hi:i<aj.length:=by
    have:=(bq.mp ex).1
    (clear bw hu hn;omega)
   obtain⟨m,em⟩:∃m,aj[i]?=some m:=⟨_,ay hi⟩
   obtain⟨x',KA,p,rfl,hp⟩:=bY ht em
   rw[KA] at ex
   cases ex
   have hl:((ns.map V.int).length:Int)=(ns.length:Int):=by rw[ai]
   refine⟨rfl,_,rfl,_,rfl,q,_,rfl,.inr (S1.seqT hq),_,rfl,p,_,rfl,S1.seqT hp,λp2 H2 S2 uq=>?_⟩
   rw[hl,Xo] at uq
   refine⟨_,rfl,p2,q,_,_,rfl,rfl,uq,S2.seqT (S1.seqT hq),_,S2 _ _ cn,?_,?_,?_⟩
   ·rw[ai,ai,fj]
    (clear hl hi pb hu;omega)
   ·intro b' o e
    rw[aC (aD e c7)]
    exact S2 _ _ (S1 _ _ e)
   ·rw[aB,jh,em,b7,b7]
    rfl
  ·rintro H1 ⟨S1,cn⟩
   rw[pb,ji] at cn
   refine⟨Dl,_,rfl,cR.of cn,?_⟩
   have kk:=k H1 S1
   unfold iV at kk
   rw[B6]
   exact kk
def cU(aj:List (List Int))(l:List Int):Nat->Nat->List Int->List Int×Nat
 |0,p,acc=>(acc,p)
 |n+1,p,acc=>if iV aj (acc++[aR l p])=true then cU aj l n (p+1) (acc++[aR l p]) else (acc,p)
def rV(aj:List (List Int))(ns:List Int):Nat:=aj.findIdx λm=>decide (m=ns)
def tX(aj:List (List Int))(l:List Int)(p:Nat):Except Nat (Nat×Nat):=if (cU aj l 8 p []).1∈aj then .ok (rV aj (cU aj l 8 p []).1,(cU aj l 8 p []).2) else .error (cU aj l 8 p []).2
def aBq(aj:List (List Int)):Prop:=aj.length<=64/\∀m∈aj,m.length<=8/\(256:Int)∉m
theorem Ks{acc:List Int}{h:Int}(ok:aBq aj)(e:iV aj (acc++[h])=true):acc.length<8/\h≠256:=by
 unfold iV at e
 obtain⟨m,hm,z⟩:=m9.mp e
 have z:=d7 z
 obtain⟨g1,g2⟩:=ok.2 m hm
 have hl:=congrArg List.length z
 rw[fj,b6] at hl
 refine⟨?_,λq=>g2 ?_⟩
 ·have:([h]:List Int).length=1:=rfl
  (clear g2;omega)
 ·have:h∈m.take (acc++[h]).length:=by rw[z];simp
  rw[<-q]
  exact FC this
theorem aBj(h:ns∈aj):aj[rV aj ns]?=some ns:=by
 have hl:rV aj ns<aj.length:=OS ⟨ns,h,c9 rfl⟩
 rw[ay hl]
 have:=List.findIdx_getElem (p:=λm=>decide (m=ns)) (xs:=aj) (w:=hl)
 exact congrArg some (d7 this)
theorem aBe{ms:List Int}{m:Nat}(hm:m<rV aj ns)(e:aj[m]?=some ms):ms≠ns:=by
 have h:=List.not_of_lt_findIdx (p:=λm=>decide (m=ns)) (xs:=aj) hm
 obtain⟨hl,e⟩:=bq.mp e
 intro z
 rw[e,z] at h
 simp at h
theorem pR.sx{C':Addr}{fs:List (Str×V)}(h:pR K H xs aj)(s:SX r H H')(hr:H r=some (.ins C' dx fs)):pR K H' xs aj:=Paired.mapP h λx ns z=>by
 obtain⟨p,e,t⟩:=z
 exact⟨p,e,s.seqT hr t⟩
structure Nms(K:Frag)(H:Hp)(na:Addr)(aj:List (List Int)):Prop where
 ex:∃xs,cR K H na xs/\pR K H xs aj
 ok:aBq aj
theorem Nms.sx{na:Addr}(h:Nms K H na aj)(s:SX r H H')(hr:iL CR H r a p):Nms K H' na aj:=by
 obtain⟨⟨xs,h1,h2⟩,h3⟩:=h
 obtain⟨dx,g⟩:=hr
 exact⟨⟨xs,s.seq g h1,pR.sx h2 s g⟩,h3⟩
def yV(K:Frag)(CR:Addr):Sp:=λvs H Q E=>∃(r a na:Addr)(l:List Int)(p:Nat) (aj:List (List Int)),vs=[.ref r,.ref na]/\kK K CR H r a l p/\Nms K H na aj/\
 match tX aj l p with
 |.ok q=>∀H':Hp,kK K CR H' r a l q.2->SX r H H'->Q (.int q.1) H'
 |.error i=>∀H':Hp,SX r H H'->E (.int i 0) none H'
theorem tV:aN ["reader","names","beginning"] ["reader","names"] (aG wA):=⟨rfl,rfl,rfl,by decide+kernel,rfl,by decide+kernel,by decide+kernel⟩
theorem Qz(F:fH K "read_part_number" "read_part_number" wA f fd)(T:Jj K CR)(S:StT P w K mg base C)(M1:pB P w K mg base CR "here" bU 2 ["self"] (qP K CR))(M2:pB P w K mg base CR "take" bU 3 ["self"] (qD K CR))
  (L1:dL P w K mg base "some_begins" bU 2 ["names","beginning"] (xY K)):bV P w K mg base (jN C P w) 5 f fd ["reader","names"] (yV K CR):=by
 obtain⟨f1,qu,m1,G1,b1⟩:=M1.ex
 obtain⟨f2,w6,m2,G2,b2⟩:=M2.ex
 obtain⟨gb,WO,GB,bB,kB,hB⟩:=L1.ex
 obtain⟨fx,A7,XT,GX,bx⟩:=S.ex
 refine F.okX tV (λvs H Q E h=>?_) (λak A outer s H vs Q E hr h=>?_)
 ·obtain⟨r,a,na,l,p,aj,rfl,_⟩:=h
  rfl
 ·obtain⟨r,a,na,l,p,aj,rfl,x,hn,k⟩:=h
  have i6:=hr.mono (j:=3) (by decide)
  have ba:=hr.mono (j:=2) (by decide)
  have hu:=kH hr
  refine⟨_,aF (bI (i:=2) tV.nd rfl (Or.inl rfl) (eD aE))
   (aF (lJ aO.own (eS (aP GB ba (by rfl) hB kB bB .nil aX (aA (pv 1) (aA (cI Oh (pv 2) (eD (aA (cF (pv 0) T.cl m1 G1 ba b1 .nil aX) aE))) aE))))
    (aH (bI (i:=2) tV.nd rfl (Or.inl rfl) (cI Oh (pv 2) (eD (aA (cF (pv 0) T.cl m2 G2 i6 b2 .nil aX) aE))))))
   (aF (eK (gX (Sa hu) (pv 2) (pv 1) (by with_unfolding_all rfl)) (aH (nO aO rfl XT GX ba (by rfl) S.mg bx (aT (pv 0) rfl))) cD)
   (aH (aU (nQ plainAttrs_list PySem.F.slot_list_index PySem.F.type_list_index (Ro hu) (pv 1) (aA (pv 2) aE)))))),?_⟩
  obtain⟨⟨dx,h1⟩,tx,le⟩:=id x
  refine⟨c8 _,λq0 SR=>?_⟩
  have S0:=aK.new (o:=.tup []) SR
  have bw:=aY
  refine⟨λm σ H'=>∃(acc:List Int)(q:Addr)(p':Nat),σ=[some (.ref r),some (.ref na),some (.ref q)]/\SX r H H'/\iL CR H' r a p'/\p'<=l.length/\cM K H' q (acc.map V.int)/\acc.length+m=8/\cU aj l 8 p []=cU aj l m p' acc,
   ⟨8,[],q0,p,rfl,aK.sx S0,⟨dx,S0 _ _ h1⟩,le,cM.of aB,rfl,rfl⟩,?_⟩
  rintro m σ H1 ⟨acc,q,p',rfl,s1,bn,ij,hq,hm,e1⟩
  have x1:=x.same s1 bn ij
  have pd:=hn.sx s1 x.rd
  obtain⟨kt,g1⟩:=id bn
  obtain⟨⟨xs,ha,ht⟩,ok⟩:=id pd
  refine⟨_,rfl,_,rfl,_,rfl,r,kt,_,rfl,g1,rfl,r,a,l,p',rfl,x1,by show 1<=sizeLine;decide,λq1 qv=>?_⟩
  have S2:=aK.new (o:=.tup [.int (aR l p')]) qv
  refine⟨q,q1,acc.map V.int,[.int (aR l p')],rfl,rfl,S2.seqT hq,cM.of aB,(by simp),by rw[ai];show acc.length+1<=_;(clear ij le hu;omega),λq2 H2 S3 ik=>?_⟩
  have S4:aK H1 H2:=S2.trans S3
  have ik:cM K H2 q2 ((acc++[aR l p']).map V.int):=by rw[b7];exact ik
  refine⟨na,q2,xs,aj,_,rfl,S4.seq ha,pR.same ht S4,ik,ok.1,λH3 S5=>?_⟩
  have S6:aK H1 H3:=S4.trans S5
  have s3:SX r H H3:=s1.trans (aK.sx S6)
  have i6:iL CR H3 r a p':=⟨kt,S6 _ _ g1⟩
  refine⟨_,rfl,cE (λhb=>?_) (λhb=>?_)⟩
  ·obtain⟨am,kr⟩:=Ks ok hb
   have lt:=gG kr
   obtain⟨n,rfl⟩:∃n,m=n+1:=⟨m - 1,by (clear lt kr ij bw le hu;omega)⟩
   refine⟨λah H'=>∃(acc:List Int)(q:Addr)(p':Nat),ah=[some (.ref r),some (.ref na),some (.ref q)]/\SX r H H'/\iL CR H' r a p'/\p'<=l.length/\cM K H' q (acc.map V.int)/\acc.length+n=8/\cU aj l 8 p []=cU aj l n p' acc,λah H' z=>⟨n,k8 n,z⟩,?_⟩
   refine⟨_,rfl,_,rfl,r,kt,_,rfl,S6 _ _ g1,rfl,r,a,l,p',rfl,x.same s3 i6 ij,λH4 jd s4=>⟨by show 1<=sizeLine;decide,λq5 zt=>?_⟩⟩
   have S7:=aK.new (o:=.tup [.int (aR l p')]) zt
   have xf:=s4.seqT (S6 _ _ g1) (S6.seqT hq)
   refine⟨q,q5,acc.map V.int,[.int (aR l p')],rfl,rfl,S7.seqT xf,cM.of aB,(by simp),by rw[ai];show acc.length+1<=_;(clear hm lt kr ij le hu;omega),λq6 H5 S8 DT=>?_⟩
   have S9:=S7.trans S8
   obtain⟨BE,g4⟩:=jd
   refine⟨acc++[aR l p'],q6,p'+1,rfl,(s3.trans s4).trans (aK.sx S9),⟨BE,S9 _ _ g4⟩,lt,by rw[b7];exact DT,by rw[b6];show acc.length+1+n=8;(clear lt kr am ij bw le hu;omega),?_⟩
   rw[e1]
   show (if _ then _ else _)=_
   rw[af hb]
  ·have e2:cU aj l 8 p []=(acc,p'):=by
    rw[e1]
    cases m with
    |zero=>rfl
    |succ n=>
     show (if _ then _ else _)=_
     rw[ae hb]
   have F8:=pd.sx (aK.sx S6) bn
   obtain⟨⟨LW,HD,xk⟩,_⟩:=id F8
   unfold tX at k
   rw[e2] at k
   refine⟨_,rfl,_,rfl,q,na,acc,LW,aj,rfl,rfl,S6.seqT hq,HD,xk,_,rfl,cE (λcp=>?_) (λcp=>?_)⟩
   ·have cp:¬acc∈aj:=by
     have cp:(!decide (acc∈aj))=true:=cp
     rw[cx,l9] at cp
     exact cp
    rw[ae cp] at k
    exact⟨_,rfl,r,CR,kt,_,_,rfl,S6 _ _ g1,T.cl,T.nP,gZ _ _,_,rfl,k H3 s3⟩
   ·have cp:acc∈aj:=by
     have cp:¬(!decide (acc∈aj))=true:=cp
     rw[cx,l9,AL] at cp
     exact cp
    rw[af cp] at k
    refine⟨_,rfl,.inl ⟨rfl,_,HD⟩,_,rfl,na,q,LW,aj,acc,rV aj acc,rfl,rfl,HD,xk,S6.seqT hq,aBj cp,λm ms hm em=>aBe hm em,?_⟩
    exact k H3 (x.same s3 i6 ij) s3
def dD(l:List Int):List Nat->Nat->Except Nat (List Nat×Nat)
 |[],p=>.ok ([],p)
 |m::ms,p=>eQ (aV l p [32]) λp1=>eQ (jO l p1 0 m) λv=>gN v.1 (dD l ms v.2)
def fT:List Nat:=[255,63,63,95,3]
def eG(aj:List (List Int))(l:List Int)(p:Nat):Except Nat (List Nat×Nat):=
 eQ (aV l p [112,117,116,32]) λp1=>eQ (tX aj l p1) λq=>eQ (dD l fT q.2) λr=>eQ (aV l r.2 [10]) λp5=>.ok (q.1::r.1,p5)
theorem Uk:("put ":Str).cps.toList=[112,117,116,32]:=by decide+kernel
theorem rJ:∀{ms:List Nat}{p:Nat}{r:List Nat×Nat},dD l ms p=.ok r->r.1.length=ms.length
 |[],p,r,h=>by cases h;rfl
 |m::ms,p,r,h=>by
  rw[dD] at h
  cases e1:aV l p [32] with
  |error i=>rw[e1] at h;cases h
  |ok p1=>
   rw[e1,cC] at h
   cases e2:jO l p1 0 m with
   |error i=>rw[e2] at h;cases h
   |ok v=>
    rw[e2,cC] at h
    cases e3:dD l ms v.2 with
    |error i=>rw[e3] at h;cases h
    |ok q=>
     rw[e3] at h
     cases h
     show (_::q.1).length=ms.length+1
     rw[bh,rJ e3]
def Ey(n:Nat):V:=.int n
def Jp(K:Frag)(CR:Addr):Sp:=λvs H Q E=>∃(r a na:Addr)(l:List Int)(p:Nat) (aj:List (List Int)),vs=[.ref r,.ref na]/\kK K CR H r a l p/\Nms K H na aj/\
 match eG aj l p with
 |.ok q=>∀(H':Hp)(t:Addr),kK K CR H' r a l q.2->SX r H H'->H t=none->H' t=some (.tup (q.1.map Ey))->q.1.length=6->Q (.ref t) H'
 |.error i=>∀H':Hp,SX r H H'->E (.int i 0) none H'
theorem Ev:aN ["reader","names","numbers","most"] ["reader","names"] (aG oM):=⟨rfl,rfl,rfl,by decide+kernel,rfl,by decide+kernel,by decide+kernel⟩
theorem aAe(F:fH K "read_line" "read_line" oM f fd)(T:Jj K CR)(A8:mg "tuple"=none)(c1:CI mg "MOST_COLOUR" 255)(c2:CI mg "ROOM_WIDTH" 64)(c3:CI mg "ROOM_DEPTH" 64)(c4:CI mg "ROOM_HEIGHT" 96)(c5:CI mg "MOST_TURNS" 3)
  (M1:pB P w K mg base CR "read_word" (jN C P w) 5 ["self","word"] (lX K CR)) (M3:pB P w K mg base CR "read_number" (jN C P w) 4 ["self","least","most"] (lA K CR))
  (L1:dL P w K mg base "read_part_number" (jN C P w) 5 ["reader","names"] (yV K CR)):bV P w K mg base (jN C P w) 6 f fd ["reader","names"] (Jp K CR):=by
 obtain⟨f1,qu,m1,G1,b1⟩:=M1.ex
 obtain⟨f3,K',m3,G3,b3⟩:=M3.ex
 obtain⟨gp,WP,GP,bP,kP,hP⟩:=L1.ex
 refine F.okX Ev (λvs H Q E h=>?_) (λak A outer s H vs Q E hr h=>?_)
 ·obtain⟨r,a,na,l,p,aj,rfl,_⟩:=h
  rfl
 ·obtain⟨r,a,na,l,p,aj,rfl,x,hn,k⟩:=h
  have jd:=hr.mono (j:=4) (by decide)
  refine⟨_,aF (cH (dC (pv 0) T.cl m1 G1 hr b1 .nil aO.pass (aA eW aE)))
   (aF (bI (i:=2) Ev.nd rfl (Or.inl rfl) (eN (aA (aP GP hr (by rfl) hP kP bP .nil aO.pass (aA (pv 0) (aA (pv 1) aE))) aE)))
   (aF (eM aO.own rfl (Jl (eD (aA (fA c1) (aA (cI eY (fA c2) aI) (aA (cI eY (fA c3) aI) (aA (cI eY (fA c4) aI) (aA (fA c5) aE))))))) (bH (i:=3) Ev.nd rfl (Or.inl rfl))
    (aF (cH (dC (pv 0) T.cl m1 G1 hr b1 .nil aO.pass (aA eW aE)))
    (aH (cH (nQ plainAttrs_list PySem.F.slot_list_append PySem.F.type_list_append gU (pv 2) (aA (dC (pv 0) T.cl m3 G3 jd b3 .nil aO.pass (aA aI (aA (pv 3) aE))) aE))))))
   (aF (cH (dC (pv 0) T.cl m1 G1 hr b1 .nil aO.pass (aA eW aE)))
   (aH (aU (kT pS (by rfl) A8 boot_tuple (aA (pv 2) aE))))))),?_⟩
  unfold eG at k
  have bw:=aY
  refine eZ (iQ rfl Uk (by decide) x (λi e1 H' s1=>by rw[e1] at k;exact k H' s1) λp1 e1 H1 x1 s1=>?_)
  rw[e1,cC] at k
  refine⟨_,rfl,_,rfl,r,a,na,l,p1,aj,rfl,x1,hn.sx s1 x.rd,?_⟩
  cases e2:tX aj l p1 with
  |error i=>
   intro H' s'
   rw[e2] at k
   exact k H' (s1.trans s')
  |ok q=>
   intro H2 x2 s2
   rw[e2,cC] at k
   refine⟨by show 1<=sizeLine;decide,λnb DU=>?_⟩
   have S3:=aK.new (o:=.lst [V.int q.1]) DU
   have s3:SX r H (upd H2 nb (.lst [V.int q.1])):=(s1.trans s2).trans (aK.sx S3)
   obtain⟨mr,g2⟩:=x2.rd
   have BJ:nb≠r:=λz=>by rw[z,g2] at DU;cases DU
   have SS:H nb=none:=by
    cases z:H nb with
    |none=>rfl
    |some o=>
     have:=(s1.trans s2) nb o z BJ
     rw[DU] at this
     cases this
   have HE:iL CR (upd H2 nb (.lst [V.int q.1])) r a q.2:=⟨mr,S3 _ _ g2⟩
   have HF:upd H2 nb (.lst [V.int q.1]) nb=some (.lst ((q.1::[]).map Ey)):=aB
   generalize upd H2 nb (.lst [V.int q.1])=H3 at S3 s3 HE HF
   refine⟨_,_,rfl,rfl,_,_,rfl,rfl,_,_,rfl,rfl,by show 5<=sizeLine;decide,λtb LX=>?_⟩
   have S4:=aK.new (o:=.tup (fT.map Ey)) LX
   have LY:upd H3 tb (.tup (fT.map Ey)) tb=some (.tup (fT.map Ey)):=aB
   refine⟨tb,rfl,⟨_,cM.of LY⟩,?_⟩
   have s4:SX r H (upd H3 tb (.tup (fT.map Ey))):=s3.trans (aK.sx S4)
   have SV:iL CR (upd H3 tb (.tup (fT.map Ey))) r a q.2:=let ⟨dx,g⟩:=HE;⟨dx,S4 _ _ g⟩
   have DM:=S4 _ _ HF
   have DV:H3 tb=none:=LX
   have kE:∀i,dD l fT q.2=.error i->∀H',SX r H H'->E (.int i 0) none H':=λi e H' s'=>by
    rw[e] at k
    exact k H' s'
   refine Ek (xs:=fT.map Ey) (λi σ H'=>∃(vs:List Nat)(p':Nat)(v3:Option V),σ=[some (.ref r),some (.ref na),some (.ref nb),v3]/\vs.length=i/\SX r H H'/\iL CR H' r a p'/\p'<=l.length/\H' nb=some (.lst ((q.1::vs).map Ey))/\
     H' tb=some (.tup (fT.map Ey))/\dD l fT q.2=gC vs (dD l (fT.drop i) p')) ⟨[],q.2,none,rfl,rfl,s4,SV,x2.le,DM,LY,by rw[kU];rfl⟩ ?_ ?_ ?_
   ·rintro i σ H5 _ ⟨vs,p',v3,_,_,_,_,_,_,h,_⟩
    exact cM.of h
   ·rintro i v σ H5 ev ⟨vs,p',v3,rfl,u9,s5,HG,zu,HH,LZ,e5⟩
    rw[a9] at ev
    obtain⟨m,em,rfl⟩:=rk.mp ev
    have hi:i<5:=(bq.mp em).1
    have hm:m<=255:=by
     have:=d9 em
     revert this
     unfold fT
     simp
     (clear hi zu u9 bw;omega)
    have ed:fT.drop i=m::fT.drop (i+1):=by
     have hl:i<fT.length:=hi
     have:=EZ hl
     rw[this]
     have e2:=(bq.mp em).2
     rw[e2]
    rw[ed] at e5
    have x5:=x.same s5 HG zu
    have e6:dD l (m::fT.drop (i+1)) p'=eQ (aV l p' [32]) λp1=>eQ (jO l p1 0 m) λv=>gN v.1 (dD l (fT.drop (i+1)) v.2):=rfl
    rw[e6] at e5
    refine eZ (iQ rfl jH b32 x5 (λj ej H' s'=>kE j (by rw[e5,ej];rfl) H' (s5.trans s')) λp6 ew H6 x6 s6=>?_)
    rw[ew,cC] at e5
    have L':H6 nb=some (.lst ((q.1::vs).map Ey)):=s6 _ _ HH BJ
    obtain⟨HI,g6⟩:=x6.rd
    refine⟨_,rfl,.inl ⟨rfl,_,cR.of L'⟩,_,rfl,r,HI,_,rfl,g6,rfl,_,rfl,?_⟩
    dsimp only[gM,List.cons_append,List.nil_append]
    refine Hf (hi:=m) x6 (by decide) (by (clear hi zu u9 bw;omega)) (λv en SW _ H7 x7 s7=>?_) (λen=>?_)
    ·rw[en,cC,jJ] at e5
     have SY:=(s5.trans s6).trans s7
     have HJ:H7 nb=some (.lst ((q.1::vs).map Ey)):=s7 _ _ L' BJ
     refine⟨nb,_,_,rfl,rfl,HJ,by rw[ai,bh];(clear SW hm zu;omega),?_⟩
     obtain⟨HK,g7⟩:=x7.rd
     have SZ:tb≠nb:=λz=>by rw[z,HF] at DV;cases DV
     have DW:tb≠r:=λz=>by obtain⟨_,g⟩:=HE;rw[z,g] at DV;cases DV
     refine⟨vs++[v.1],v.2,_,rfl,by simp[u9],λb o e hb=>?_,⟨HK,by rw[aC (ax BJ)];exact g7⟩,x7.le,?_,?_,e5⟩
     ·rw[aC (aD e SS)]
      exact SY b o e hb
     ·rw[aB]
      simp[Ey]
     ·rw[aC SZ]
      exact s7 _ _ (s6 _ _ LZ DW) DW
    ·exact kE p6 (by rw[e5,en];rfl) H6 (s5.trans s6)
   ·rintro σ H5 ⟨vs,p',v3,rfl,u9,s5,HG,zu,HH,LZ,e5⟩
    have u9:vs.length=5:=u9
    have e6:dD l fT q.2=.ok (vs,p'):=by
     rw[e5]
     show Except.ok (vs++[],p')=_
     rw[fh]
    rw[e6,cC] at k
    have x5:=x.same s5 HG zu
    refine eZ (iQ rfl rF b10 x5 (λj ej H' s'=>by rw[ej] at k;exact k H' (s5.trans s')) λp7 ew H7 x7 s7=>?_)
    rw[ew,cC] at k
    have HJ:H7 nb=some (.lst ((q.1::vs).map Ey)):=s7 _ _ HH BJ
    have HL:=s5.trans s7
    refine⟨_,rfl,nb,_,rfl,.inl ⟨cR.of HJ,λt ht=>?_⟩⟩
    have ST:=aK.new (o:=.tup ((q.1::vs).map Ey)) ht
    obtain⟨HK,g7⟩:=x7.rd
    have DW:t≠r:=λz=>by rw[z,g7] at ht;cases ht
    refine k _ t (x.same (HL.trans (aK.sx ST)) ⟨HK,ST _ _ g7⟩ x7.le) (HL.trans (aK.sx ST)) ?_ aB (by rw[bh,u9])
    cases z:H t with
    |none=>rfl
    |some o=>
     have:=HL t o z DW
     rw[ht] at this
     cases this
def cG(aj:List (List Int))(l:List Int):Nat->Nat->Except Nat (List (List Nat)×Nat)
 |0,p=>.ok ([],p)
 |n+1,p=>if p=l.length then .ok ([],p) else eQ (eG aj l p) λq=>gN q.1 (cG aj l n q.2)
def dJ(aj:List (List Int))(l:List Int):Except Nat (List Int×List (List Nat)):=
 eQ (aV l 0 [98,117,105,108,100,32]) λp1=>eQ (gP l p1 16) λnm=>eQ (aV l nm.2 [10]) λp3=>eQ (cG aj l 256 p3) λr=>if r.2=l.length then .ok (nm.1,r.1) else .error r.2
theorem Jy:("build ":Str).cps.toList=[98,117,105,108,100,32]:=by decide+kernel
def jZ(H:Hp)(ts:List Addr)(ls:List (List Nat)):Prop:=Paired (λt x=>H t=some (.tup (x.map Ey))/\x.length=6) ts ls
def BdF(na la:Addr):List (Str×V):=[("name",.ref na),("lines",.ref la)]
structure BdT(K:Frag)(CB:Addr):Prop where
 cl:Jh K CB
 n1:dH K CB "name"
 n2:dH K CB "lines"
def xS(CB:Addr)(H:Hp)(q:Addr)(nm:List Int)(ls:List (List Nat)):Prop:=∃(dx na la:Addr)(ts:List Addr),H q=some (.ins CB dx (BdF na la))/\H na=some (.tup (nm.map V.int))/\H la=some (.lst (ts.map V.ref))/\jZ H ts ls/\ls.length<=256/\nm.length<=16
theorem jZ.keep{ts:List Addr}(h:jZ H ts ls)(s:∀b xs,H b=some (.tup xs)->H' b=some (.tup xs)):jZ H' ts ls:=Paired.mapP h λt x e=>⟨s _ _ e.1,e.2⟩
theorem xS.same{nm:List Int}(h:xS CB H q nm ls)(s:aK H H'):xS CB H' q nm ls:=by
 obtain⟨dx,na,la,ts,h1,h2,h3,h4,h5⟩:=h
 exact⟨dx,na,la,ts,s _ _ h1,s _ _ h2,s _ _ h3,h4.keep λb xs e=>s _ _ e,h5⟩
def Ul(CB:Addr):Sp:=λvs H Q _=>∃(r dx na la:Addr),vs=[.ref r,.ref na,.ref la]/\H r=some (.ins CB dx [])/\∀H':Hp,H' r=some (.ins CB dx (BdF na la))->SX r H H'->Q .non H'
theorem aCv:aN ["self","name","lines"] ["self","name","lines"] (aG vQ):=⟨rfl,rfl,rfl,by decide+kernel,rfl,by decide+kernel,by decide+kernel⟩
theorem aCk(F:fH K "__init__" "Build.__init__" vQ f fd)(T:BdT K CB):bV P w K mg base bU 1 f fd ["self","name","lines"] (Ul CB):=by
 refine F.ok aCv (λvs H Q E h=>?_) (λak A outer s H vs Q E hr h=>?_)
 ·obtain⟨r,dx,na,la,rfl,_⟩:=h
  rfl
 ·obtain⟨r,dx,na,la,rfl,hp,k⟩:=h
  refine⟨_,aF (eE (pv 0) (pv 1) rfl) (aH (eE (pv 0) (pv 2) rfl)),?_⟩
  refine⟨_,rfl,_,rfl,r,CB,dx,_,rfl,hp,T.cl,T.n1,(by show 0<1000;decide),?_⟩
  refine⟨_,rfl,_,rfl,r,CB,dx,_,rfl,aB,T.cl,T.n2,(by show 1<1000;decide),?_⟩
  exact k _ aB λb o e hb=>by rw[aC hb,aC hb];exact e
structure BdM(P:Program)(w:World)(K:Frag)(mg:Str->Option Value)(base:Heap)(CB:Addr):Prop where
 ex:∃f fd,Mk K CB f/\bV P w K mg base bU 1 f fd ["self","name","lines"] (Ul CB)/\eT K fd ["self","name","lines"] []
 mg:mg "Build"=some (.ref CB)
theorem Go{cs:List Nat}{σ:List (Option V)}{E:XK}(lu:σ[j]?=some (some (.ref r)))(hx:x.cps.toList=cs)(kr:∀c∈cs,c<256)(tx:kK K CR H r a l p)
  (k2:∀i,aV l p cs=.error i->∀H',SX r H H'->E (.int i 0) none H') (k1:∀p',aV l p cs=.ok p'->∀H',kK K CR H' r a l p'->SX r H H'->D.nx σ H'):Af (oF CR "read_word" (lX K CR) [] E (cY j) (dP (tC (.str x)) gM)) D σ H:=by
 obtain⟨⟨dx,h1⟩,_,_⟩:=id tx
 exact⟨_,lu,r,dx,_,rfl,h1,rfl,Cd (Q:=λ_ H1=>D.nx σ H1) hx kr tx (λp' e H' x' s'=>k1 p' e H' x' s') k2⟩
theorem Wy{L:Nat}{σ:List (Option V)}{E:XK}(lu:σ[j]?=some (some (.ref r)))(tx:kK K CR H r a l p)(hL:L<=1000)(k2:gP l p L=.error p->E (.int p 0) none H)
  (k1:∀v:List Int×Nat,gP l p L=.ok v->∀(H':Hp)(q:Addr),kK K CR H' r a l v.2->SX r H H'->H' q=some (.tup (v.1.map V.int))->v.1.length<=L->D.nx (σ.set i (some (.ref q))) H'):
  Jc (oF CR "read_name" (pZ K CR) [] E (cY j) (dP (tC (.int L)) gM)) (mP i) D σ H:=by
 obtain⟨⟨dx,h1⟩,_,_⟩:=id tx
 exact⟨_,lu,r,dx,_,rfl,h1,rfl,zY (Q:=λy H1=>D.nx (σ.set i (some y)) H1) tx hL (λv e H' q x' s' g1 g2=>k1 v e H' q x' s' g1 g2) k2⟩
def vT(K:Frag)(CB:Addr):Sp:=λvs H Q E=>∃(a na:Addr)(l:List Int) (aj:List (List Int)),vs=[.ref a,.ref na]/\cR K H a (l.map V.int)/\Nms K H na aj/\
 match dJ aj l with
 |.ok b=>∀(H':Hp)(q:Addr),aK H H'->xS CB H' q b.1 b.2->Q (.ref q) H'
 |.error i=>∀H':Hp,aK H H'->E (.int i 0) none H'
theorem qU:aN ["b","names","reader","name","lines"] ["b","names"] (aG lR):=⟨rfl,rfl,rfl,by decide+kernel,rfl,by decide+kernel,by decide+kernel⟩
def aEx(CR:Addr)(H:Hp)(r a na qn q:Addr)(nm:List Int)(aj:List (List Int))(l:List Int)(p0 m:Nat)(σ:List (Option V))(H':Hp):Prop:=
 ∃(ls:List (List Nat)) (ts:List Addr) (p':Nat),σ=[some (.ref a),some (.ref na),some (.ref r),some (.ref qn),some (.ref q)]/\H' qn=some (.tup (nm.map V.int))/\ls.length+m=256/\p'<=l.length/\aK H H'/\iL CR H' r a p'/\H' q=some (.lst (ts.map V.ref))/\
  jZ H' ts ls/\cG aj l 256 p0=gC ls (cG aj l m p')
theorem Wu(F:fH K "read_build" "read_build" lR f fd)(T:Jj K CR)(RK:RdK P w K mg base CR)(BM:BdM P w K mg base CB)(bi:mg "len"=none)(c1:CI mg "LONGEST_BUILD_NAME" 16)(c2:CI mg "MOST_LINES" 256)
  (M1:pB P w K mg base CR "ended" bU 1 ["self"] (oW K CR)) (M2:pB P w K mg base CR "read_end" (jN C P w) 3 ["self"] (Cc K CR)) (M3:pB P w K mg base CR "read_word" (jN C P w) 5 ["self","word"] (lX K CR))
  (M4:pB P w K mg base CR "read_name" (jN C P w) 4 ["self","longest"] (pZ K CR)) (L1:dL P w K mg base "read_line" (jN C P w) 6 ["reader","names"] (Jp K CR)):bV P w K mg base (jN C P w) 7 f fd ["b","names"] (vT K CB):=by
 obtain⟨fb,WQ,MB,GB,bB⟩:=BM.ex
 obtain⟨f1,qu,m1,G1,b1⟩:=M1.ex
 obtain⟨f2,w6,m2,G2,b2⟩:=M2.ex
 obtain⟨f3,K',m3,G3,b3⟩:=M3.ex
 obtain⟨f4,WR,m4,G4,b4⟩:=M4.ex
 obtain⟨g1,gr,GP,bP,kP,hP⟩:=L1.ex
 obtain⟨fr,fdr,MR,GR,bR⟩:=RK.ex
 refine F.okX qU (λvs H Q E h=>?_) (λak A outer s H vs Q E hr h=>?_)
 ·obtain⟨a,na,l,aj,rfl,_⟩:=h
  rfl
 ·obtain⟨a,na,l,aj,rfl,tx,hn,k⟩:=h
  have j2:=hr.mono (j:=5) (by decide)
  have jd:=hr.mono (j:=4) (by decide)
  have i6:=hr.mono (j:=3) (by decide)
  have ba:=hr.mono (j:=2) (by decide)
  have bn:=hr.mono (j:=1) (by decide)
  refine⟨_,aF (bI (i:=2) qU.nd rfl (Or.inl rfl) (oV MR GR ba (by rfl) RK.mg bR .nil aX (aA (pv 0) aE)))
   (aF (cH (dC (pv 2) T.cl m3 G3 j2 b3 .nil aO.pass (aA eW aE)))
   (aF (bI (i:=3) qU.nd rfl (Or.inl rfl) (dC (pv 2) T.cl m4 G4 jd b4 .nil aO.pass (aA (fA c1) aE)))
   (aF (cH (dC (pv 2) T.cl m3 G3 j2 b3 .nil aO.pass (aA eW aE)))
   (aF (bI (i:=4) qU.nd rfl (Or.inl rfl) (eN aE))
   (aF (lJ aO.own (iH (eB (Mm (bS bW (by rfl) bi boot_len (aA (pv 4) aE)) (fA c2))) (iK (mE (eS (cF (pv 2) T.cl m1 G1 bn b1 .nil aX))))).pt
    (aH (cH (nQ plainAttrs_list PySem.F.slot_list_append PySem.F.type_list_append gU (pv 4) (aA (aP GP hr (by rfl) hP kP bP .nil aO.pass (aA (pv 2) (aA (pv 1) aE))) aE)))))
   (aF (cH (cF (pv 2) T.cl m2 G2 i6 b2 .nil aO.pass))
   (aH (aU (oV MB GB ba (by rfl) BM.mg bB .nil aX (aA (pv 3) (aA (pv 4) aE))))))))))),?_⟩
  refine⟨_,rfl,λr dr nr ndr ndrr=>?_⟩
  refine⟨r,dr,a,rfl,aB,λH1 bn s1=>⟨rfl,?_⟩⟩
  have S1:aK H H1:=λy o e=>s1 y o (by rw[aC (aD e nr),aC (aD e ndr)];exact e) (aD e nr)
  have x1:kK K CR H1 r a l 0:=⟨bn,S1.seq tx,c8 _⟩
  have u4:∀{H2:Hp},SX r H1 H2->aK H H2:=λs2 y o e=>s2 y o (S1 y o e) (aD e nr)
  unfold dJ at k
  refine eZ (Go rfl Jy (by decide) x1 (λi e1 H' s'=>by rw[e1] at k;exact k H' (u4 s')) λp1 e1 H2 x2 s2=>?_)
  rw[e1,cC] at k
  refine eZ (Wy (L:=16) rfl x2 (by decide) (λe2=>by rw[e2] at k;exact k _ (u4 s2)) λnm e2 H3 qn x3 s3 HM zr=>?_)
  rw[e2,cC] at k
  have s3:=s2.trans s3
  refine eZ (Go rfl rF b10 x3 (λi e3 H' s'=>by rw[e3] at k;exact k H' (u4 (s3.trans s'))) λp4 e3 H4 x4 s4=>?_)
  rw[e3,cC] at k
  have TC:=s4.tup x3.rd HM
  have s4:=s3.trans s4
  have S4:=u4 s4
  refine⟨c8 _,λq hq=>?_⟩
  have sq:=aK.new (o:=.lst []) hq
  have GF:H q=none:=S4.free hq
  obtain⟨BE,g4⟩:=x4.rd
  have o9:r≠q:=λz=>by rw[z,hq] at g4;cases g4
  refine⟨λm=>aEx CR H r a na qn q nm.1 aj l p4 m,⟨256,[],[],p4,rfl,sq _ _ TC,rfl,x4.le,S4.trans sq,⟨BE,sq _ _ g4⟩,aB,.nil,by rw[kU]⟩,?_⟩
  rintro m σ H5 ⟨ls,ts,p',rfl,MA,hm,lp,S5,j2,zt,pp,e5⟩
  have x5:kK K CR H5 r a l p':=⟨j2,S5.seq tx,lp⟩
  obtain⟨MC,g5⟩:=id j2
  have jl:ts.length=ls.length:=Paired.length pp
  have fin:cG aj l m p'=.ok ([],p')->Ha (Af (oF CR "read_end" (Cc K CR) [] E (cY 2) gM)) (aCf (Na CB (Ul CB) [] E0 (dP (cY 3) (dP (cY 4) gM)))) {nx:=λ_ H'=>Q .non H',rt:=Q} [some (.ref a),some (.ref na),some (.ref r),some (.ref qn),some (.ref q)] H5:=by
   intro e6
   have e7:cG aj l 256 p4=.ok (ls,p'):=by
    rw[e5,e6]
    show Except.ok (ls++[],p')=_
    rw[fh]
   rw[e7,cC] at k
   refine⟨_,rfl,r,MC,_,rfl,g5,rfl,r,a,l,p',rfl,x5,λhe=>⟨_,rfl,_,rfl,λb' db MD TD WS=>⟨b',db,qn,q,rfl,aB,λH6 ME s6=>⟨rfl,?_⟩⟩⟩,λhe=>?_⟩
   ·have he:p'=l.length:=he
    rw[af he] at k
    have S6:aK H5 H6:=λy o e=>s6 y o (by rw[aC (aD e MD),aC (aD e TD)];exact e) (aD e MD)
    exact k H6 b' (S5.trans S6) ⟨db,qn,q,ts,ME,S6 _ _ MA,S6 _ _ zt,pp.keep λy xs e=>S6 _ _ e,(by show ls.length<=256;(clear he jl lp;omega)),zr⟩
   ·have he:¬p'=l.length:=he
    rw[ae he] at k
    exact k H5 S5
  refine⟨_,rfl,q,_,rfl,.inl (cR.of zt),_,_,rfl,rfl,_,rfl,cE (λam=>?_) (λam=>vD (fin ?_))⟩
  ·have am:((ts.map V.ref).length:Int)<256:=d7 am
   rw[ai] at am
   obtain⟨n,rfl⟩:∃n,m=n+1:=⟨m - 1,by (clear lp;omega)⟩
   refine⟨_,rfl,r,MC,_,rfl,g5,rfl,r,a,l,p',rfl,x5,_,rfl,cE (λaw=>?_) (λaw=>fin ?_)⟩
   ·rw[cx,l9] at aw
    refine⟨aEx CR H r a na qn q nm.1 aj l p4 n,λ_ _ z=>⟨n,k8 n,z⟩,?_⟩
    have ux:Nms K H5 na aj:=by
     obtain⟨⟨xs,h1,h2⟩,h3⟩:=hn
     exact⟨⟨xs,S5.seq h1,pR.same h2 S5⟩,h3⟩
    refine⟨_,rfl,.inl ⟨rfl,_,cR.of zt⟩,_,rfl,_,rfl,r,a,na,l,p',aj,rfl,x5,ux,?_⟩
    have e6:cG aj l (n+1) p'=eQ (eG aj l p') λq=>gN q.1 (cG aj l n q.2):=ae aw
    cases e7:eG aj l p' with
    |error i=>
     intro H' s'
     have e8:cG aj l 256 p4=.error i:=by
      rw[e5,e6,e7]
      rfl
     rw[e8] at k
     exact k H' λy o e=>s' y o (S5 y o e) (aD e nr)
    |ok q1=>
     intro H6 t x6 s6 nt ht h6
     have DT:H6 q=some (.lst (ts.map V.ref)):=s6 _ _ zt (ax o9)
     have bw:=aY
     refine⟨q,_,_,rfl,rfl,DT,?_,?_⟩
     ·rw[ai]
      (clear h6 aw hm jl lp;omega)
     ·obtain⟨HI,g6⟩:=x6.rd
      have tupk:∀b xs,H6 b=some (.tup xs)->upd H6 q (.lst (ts.map V.ref++[V.ref t])) b=some (.tup xs):=λb xs e=>by
       rw[aC (λz=>by rw[z,DT] at e;cases e)]
       exact e
      refine⟨ls++[q1.1],ts++[t],q1.2,rfl,tupk _ _ (s6.tup j2 MA),by simp;(clear bw h6 aw am jl lp;omega),x6.le,λy o e=>?_,⟨HI,by rw[aC o9];exact g6⟩,by rw[aB,b7];rfl,?_,?_⟩
      ·rw[aC (aD e GF)]
       exact s6 y o (S5 y o e) (aD e nr)
      ·refine Paired.snoc ((pp.keep (H':=H6) λb xs e=>s6.tup j2 e).keep tupk) ⟨tupk _ _ ht,h6⟩
      ·rw[e5,e6,e7,cC,jJ]
   ·rw[cx,l9,AL] at aw
    exact af aw
  ·have am:¬((ts.map V.ref).length:Int)<256:=λz=>am (c9 z)
   rw[ai] at am
   rw[show m=0 by (clear lp;omega)]
   rfl
theorem uX:∀{n p:Nat},(256:Int)∉bJ l p n
 |0,p=>by simp[bJ]
 |n+1,p=>by
  rw[bJ]
  split
  ·rename_i h
   intro z
   rcases ao.mp z with z|z
   ·rw[<-z] at h
    revert h
    decide
   ·exact uX z
  ·simp
theorem aL{r:Except Nat α}{f:α->Except Nat β}{b:β}(h:eQ r f=.ok b):∃a,r=.ok a/\f a=.ok b:=by
 cases r with
 |error i=>cases h
 |ok a=>exact⟨a,rfl,h⟩
theorem Qp{L:Nat}{v:List Int×Nat}(h:gP l p L=.ok v):(256:Int)∉v.1:=by
 unfold gP at h
 split at h
 ·cases h
  exact uX
 ·cases h
theorem Hs{q:aM×Nat}(h:dX l p=.ok q):(256:Int)∉q.1.name:=by
 unfold dX at h
 obtain⟨p1,_,h⟩:=aL h
 obtain⟨nm,e,h⟩:=aL h
 have hn:=Qp e
 obtain⟨_,_,h⟩:=aL h
 obtain⟨_,_,h⟩:=aL h
 obtain⟨_,_,h⟩:=aL h
 obtain⟨_,_,h⟩:=aL h
 obtain⟨_,_,h⟩:=aL h
 obtain⟨_,_,h⟩:=aL h
 obtain⟨_,_,h⟩:=aL h
 obtain⟨_,_,h⟩:=aL h
 obtain⟨_,_,h⟩:=aL h
 obtain⟨_,_,h⟩:=aL h
 cases h
 exact hn
theorem fG{x:α}{r:Except Nat (List α×Nat)}{q:List α×Nat}(h:gN x r=.ok q):∃q',r=.ok q'/\q=(x::q'.1,q'.2):=by
 cases r with
 |error i=>cases h
 |ok q'=>cases h;exact⟨q',rfl,rfl⟩
theorem Bk:∀{n p:Nat}{q:List aM×Nat},cW l n p=.ok q->∀pr∈q.1,(256:Int)∉pr.name
 |0,p,q,h=>by cases h;intro pr hp;cases hp
 |n+1,p,q,h=>by
  rw[cW] at h
  split at h
  ·cases h;intro pr hp;cases hp
  ·obtain⟨q1,e1,h⟩:=aL h
   obtain⟨q2,e2,rfl⟩:=fG h
   intro pr hp
   rcases ao.mp hp with rfl|hp
   ·exact Hs e1
   ·exact Bk e2 pr hp
theorem aBk(h:iF l=.ok aa):∀pr∈aa,(256:Int)∉pr.name:=by
 unfold iF at h
 obtain⟨q,e1,h⟩:=aL h
 obtain⟨r,e2,h⟩:=aL h
 split at h
 ·cases h
  intro pr hp
  rcases ao.mp hp with rfl|hp
  ·exact Hs e1
  ·exact Bk e2 pr hp
 ·cases h
def Fk(rf ft:Int)(pa:Addr)(bv rv:V):List (Str×V):=[("refusal",.int rf),("fault",.int ft),("parts",.ref pa),("build",bv),("room",rv)]
structure GvT(K:Frag)(CG:Addr):Prop where
 cl:Jh K CG
 n1:dH K CG "refusal"
 n2:dH K CG "fault"
 n3:dH K CG "parts"
 n4:dH K CG "build"
 n5:dH K CG "room"
inductive aAa
 |no (n:Int)
 |bad (i:Nat)
 |ok (aa:List aM) (nm:List Int) (ls:List (List Nat))
def dF(lc lb:List Int):aAa:=if 1048576<lc.length\/16384<lb.length then .no (-2) else match iF lc with
 |.error _=>.no (-6)
 |.ok aa=>if oB aa=true then (match dJ (aa.map (·.name)) lb with
  |.error i=>.bad i
  |.ok b=>.ok aa b.1 b.2) else .no (-8)
def Tg(CG CP CB:Addr)(H:Hp)(g:Addr):aAa->Prop
 |.no n=>∃dx pa,H g=some (.ins CG dx (Fk n 0 pa .non .non))
 |.bad i=>∃dx pa,H g=some (.ins CG dx (Fk (-5) i pa .non .non))
 |.ok aa nm ls=>∃dx pa q bs,H g=some (.ins CG dx (Fk 0 0 pa (.ref q) .non))/\H pa=some (.lst (bs.map V.ref))/\dS CP H bs aa/\xS CB H q nm ls/\1<=aa.length/\aa.length<=64
def Ka(CG:Addr):Sp:=λvs H Q _=>∃(r dx pa:Addr)(rf ft:Int)(bv:V),vs=[.ref r,.int rf,.int ft,.ref pa,bv]/\H r=some (.ins CG dx [])/\∀H':Hp,H' r=some (.ins CG dx (Fk rf ft pa bv .non))->SX r H H'->Q .non H'
theorem aAy:aN ["self","refusal","fault","parts","build"] ["self","refusal","fault","parts","build"] (aG vZ):=⟨rfl,rfl,rfl,by decide+kernel,rfl,by decide+kernel,by decide+kernel⟩
theorem aAt(F:fH K "__init__" "Given.__init__" vZ f fd)(T:GvT K CG):Bt P w K mg base bU 1 f fd ["self","refusal","fault","parts","build"] (Ka CG):=by
 refine F.okN aAy (λvs H Q E h=>?_) (λak A outer s H vs Q E hr h=>?_)
 ·obtain⟨r,dx,pa,rf,ft,bv,rfl,_⟩:=h
  rfl
 ·obtain⟨r,dx,pa,rf,ft,bv,rfl,hp,k⟩:=h
  refine⟨_,aF (eE (pv 0) (pv 1) rfl) (aF (eE (pv 0) (pv 2) rfl) (aF (eE (pv 0) (pv 3) rfl) (aF (eE (pv 0) (pv 4) rfl) (aH (eE (pv 0) zG rfl))))),?_⟩
  refine⟨_,rfl,_,rfl,r,CG,dx,_,rfl,hp,T.cl,T.n1,(by show 0<1000;decide),?_⟩
  refine⟨_,rfl,_,rfl,r,CG,dx,_,rfl,aB,T.cl,T.n2,(by show 1<1000;decide),?_⟩
  refine⟨_,rfl,_,rfl,r,CG,dx,_,rfl,aB,T.cl,T.n3,(by show 2<1000;decide),?_⟩
  refine⟨_,rfl,_,rfl,r,CG,dx,_,rfl,aB,T.cl,T.n4,(by show 3<1000;decide),?_⟩
  refine⟨_,rfl,r,CG,dx,_,rfl,aB,T.cl,T.n5,(by show 4<1000;decide),?_⟩
  exact k _ aB λb o e hb=>by rw[aC hb,aC hb,aC hb,aC hb,aC hb];exact e
structure GvM(P:Program)(w:World)(K:Frag)(mg:Str->Option Value)(base:Heap)(CG:Addr):Prop where
 ex:∃f fd,Mk K CG f/\Bt P w K mg base bU 1 f fd ["self","refusal","fault","parts","build"] (Ka CG)/\eT K fd ["self","refusal","fault","parts","build"] []
 mg:mg "Given"=some (.ref CG)
def My(H:Hp)(D:Addr)(aa:List aM):Prop:=∃qs:List Addr,H D=some (.lst (qs.map V.ref))/\Paired (λq pr=>H q=some (.tup (pr.name.map V.int))) qs aa
def pK(K:Frag)(CP:Addr):Sp:=λvs H Q _=>∃(pa:Addr)(bs:List Addr)(aa:List aM),vs=[.ref pa]/\cR K H pa (bs.map V.ref)/\dS CP H bs aa/\aa.length<=64/\∀(H':Hp)(D:Addr),aK H H'->H D=none->My H' D aa->Q (.ref D) H'
theorem xD:aN ["parts","part"] ["parts"] (aG nG):=⟨rfl,rfl,rfl,by decide+kernel,rfl,by decide+kernel,by decide+kernel⟩
theorem Wz(F:fH K "names_of" "names_of" nG f fd)(T':Po K CP):bV P w K mg base bU 1 f fd ["parts"] (pK K CP):=by
 refine F.ok xD (λvs H Q E h=>?_) (λak A outer s H vs Q E hr h=>?_)
 ·obtain⟨pa,bs,aa,rfl,_⟩:=h
  rfl
 ·obtain⟨pa,bs,aa,rfl,df,cy,pf,k⟩:=h
  refine⟨_,aH (aU (rK (own:=[("part",1)]) (te:=Zc K (cY 1) "name") rfl xD.nd (fV (pv 0)) (eP (N:=["parts","part"]) (sc:=aG nG) (by decide+kernel))
   (λ_ _ _ _ _=>bH (i:=1) xD.nd rfl (Or.inl rfl)) (λ_ _ _ _ _=>gF) (λ_ _ _ _ _=>aT (pv 1) rfl))),?_⟩
  have je:bs.length=aa.length:=Paired.length cy
  have bw:=aY
  refine⟨_,rfl,pa,rfl,⟨_,df⟩,λDl c7=>?_⟩
  refine lN (xs:=bs.map V.ref) (λi H'=>aK H H'/\∃qs,H' Dl=some (.lst (qs.map V.ref))/\Paired (λq pr=>H q=some (.tup (pr.name.map V.int))) qs (aa.take i)) ⟨aK.new c7,[],aB,.nil⟩ (λi H' _ z=>z.1.seq df) ?_ ?_
  ·rintro i x H3 ex ⟨S3,qs,og,pq⟩
   have hi:i<aa.length:=by
    have:=(bq.mp ex).1
    rwa [ai,je] at this
   obtain⟨pr,ep⟩:∃pr,aa[i]?=some pr:=⟨_,ay hi⟩
   obtain⟨b',eb,HN,po⟩:=bY cy ep
   rw[a9,eb] at ex
   cases ex
   obtain⟨dx,nm,cc,f1,f2,f3⟩:=HN
   have TF:qs.length=(aa.take i).length:=Paired.length pq
   rw[fj] at TF
   refine⟨rfl,_,rfl,b',CP,dx,_,_,rfl,S3 _ _ f1,T'.cl,T'.n1,rfl,_,og,by rw[ai];(clear hi je;omega),λy o e=>?_,qs++[nm],by rw[aB,b7];rfl,?_⟩
   ·rw[aC (aD e c7)]
    exact S3 _ _ e
   ·rw[jh,ep]
    exact Paired.snoc pq f2
  ·rintro H3 ⟨S3,qs,og,pq⟩
   rw[ai,je,ji] at pq
   exact k H3 Dl S3 c7 ⟨qs,og,Paired.mapP pq λq pr e=>S3 _ _ e⟩
def Em(K:Frag)(CG CP CB:Addr):Sp:=λvs H Q _=>∃(c b:Addr)(lc lb:List Int),vs=[.ref c,.ref b]/\cR K H c (lc.map V.int)/\cR K H b (lb.map V.int)/\∀(H':Hp)(g:Addr),aK H H'->H g=none->Tg CG CP CB H' g (dF lc lb)->Q (.ref g) H'
theorem rH:aN ["c","b","parts","build","e"] ["c","b"] (aG jI):=⟨rfl,rfl,rfl,by decide+kernel,rfl,by decide+kernel,by decide+kernel⟩
theorem Hy{n ft:Int}{Q:V->Hp->Prop}(k:∀(H':Hp)(g:Addr),aK H H'->H g=none->(∃dx pa,H' g=some (.ins CG dx (Fk n ft pa .non .non)))->Q (.ref g) H'):
  ∀l1,H l1=none->∀x dx,upd H l1 (.lst []) x=none->upd H l1 (.lst []) dx=none->dx≠x->
   Ka CG [.ref x,.int n,.int ft,.ref l1,.non] (upd (upd (upd H l1 (.lst [])) dx (.own x)) x (.ins CG dx [])) (λv H2=>v=.non/\Q (.ref x) H2) E0:=by
 intro l1 h1 x dx hx sj aw
 have S:aK H (upd H l1 (.lst [])):=aK.new h1
 refine⟨x,dx,l1,n,ft,.non,rfl,aB,λH' hg s=>⟨rfl,k H' x (λb o e=>?_) (S.free hx) ⟨dx,l1,hg⟩⟩⟩
 have e2:=S b o e
 exact s b o (by rw[aC (aD e2 hx),aC (aD e2 sj)];exact e2) (aD e2 hx)
theorem Ws(F:fH K "read_given" "read_given" jI f fd)(GM:GvM P w K mg base CG)(S:StT P w K mg base C)(bi:mg "len"=none)(c1:CI mg "MOST_CATALOGUE_BYTES" 1048576)(c2:CI mg "MOST_BUILD_BYTES" 16384)
  (L1:dL P w K mg base "read_catalogue" (jN C P w) 8 ["c"] (Mw K CP)) (L2:dL P w K mg base "catalogue_right" bU 5 ["parts"] (qK K CP)) (L3:dL P w K mg base "read_build" (jN C P w) 7 ["b","names"] (vT K CB)) (L4:dL P w K mg base "names_of" bU 1 ["parts"] (pK K CP)):
  bV P w K mg base bU 9 f fd ["c","b"] (Em K CG CP CB):=by
 obtain⟨g1,gr,G1,b1,k1,h1⟩:=L1.ex
 obtain⟨g2,lr,G2,b2,k2,h2⟩:=L2.ex
 obtain⟨g3,DS,G3,b3,k3,h3⟩:=L3.ex
 obtain⟨g4,HC,G4,b4,k4,h4⟩:=L4.ex
 obtain⟨fg,WT,MG,GG,bG⟩:=GM.ex
 obtain⟨fx,A7,XT,GX,bx⟩:=S.ex
 refine F.ok rH (λvs H Q E h=>?_) (λak A outer s H vs Q E hr h=>?_)
 ·obtain⟨c,b,lc,lb,rfl,_⟩:=h
  rfl
 ·obtain⟨c,b,lc,lb,rfl,hc,hb,k⟩:=h
  have TH:=hr.mono (j:=7) (by decide)
  have j2:=hr.mono (j:=5) (by decide)
  have bn:=hr.mono (j:=1) (by decide)
  have ba:iI 2 (A.deeper (envOfC "read_given" (aG jI) s.heap.objs.size f ak)):=(hr.mono (j:=2) (by decide)).n
  refine⟨_,aF (eK (Pa (eB (uN (bS bW (by rfl) bi boot_len (aA (pv 0) aE)) (fA c1))) (Db (eB (uN (bS bW (by rfl) bi boot_len (aA (pv 1) aE)) (fA c2))))).pt
    (aH (aU (nJ MG GG ba (by rfl) GM.mg bG (aA (vC nY aI) (aA aI (aA (eN aE) (aA zG aE))))))) cD)
   (aF (aDb (tb:=λE'=>Jc (Hc (Mw K CP) [] E' (dP (cY 0) gM)) (mP 2)) XT rfl rfl (by rfl) S.mg (λxe pn E' hP=>aH (bI (i:=2) rH.nd rfl (Or.inl rfl) (aP G1 hr (by rfl) h1 k1 b1 .nil hP (aA (pv 0) aE))))
    (λea=>aH (aU (nJ MG GG (ba.mark _) (by rfl) GM.mg bG (aA (vC nY aI) (aA aI (aA (eN aE) (aA zG aE))))))))
   (aF (eK (mE (eS (aP G2 j2 (by rfl) h2 k2 b2 .nil aX (aA (pv 2) aE)))) (aH (aU (nJ MG GG ba (by rfl) GM.mg bG (aA (vC nY aI) (aA aI (aA (eN aE) (aA zG aE))))))) cD)
   (aF (Ur (i:=4) (tb:=λE'=>Jc (Hc (vT K CB) [] E' (dP (cY 1) (dP (Hc (pK K CP) [] E0 (dP (cY 2) gM)) gM))) (mP 3)) XT rfl rfl (by rfl) S.mg rH.nd rfl rfl
     (λxe pn E' hP=>aH (bI (i:=3) rH.nd rfl (Or.inl rfl) (aP G3 TH (by rfl) h3 k3 b3 .nil hP (aA (pv 1) (aA (aP G4 bn (by rfl) h4 k4 b4 .nil aX (aA (pv 2) aE)) aE)))))
     (λea=>aH (aU (nJ MG GG (ba.mark _) (by rfl) GM.mg bG (aA (vC nY aI) (aA (Zu XT (pv 4) rfl) (aA (eN aE) (aA zG aE))))))))
   (aH (aU (nJ MG GG ba (by rfl) GM.mg bG (aA aI (aA aI (aA (pv 2) (aA (pv 3) aE)))))))))),?_⟩
  have no:∀(n:Int)(H1:Hp),aK H H1->dF lc lb=.no n->∀(H':Hp)(g:Addr),aK H1 H'->H1 g=none->(∃dx pa,H' g=some (.ins CG dx (Fk n 0 pa .non .non)))->Q (.ref g) H':=λn H1 S1 e H' g S2 fg hg=>by
   have kk:=k H' g (S1.trans S2) (S1.free fg)
   rw[e] at kk
   exact kk hg
  refine⟨_,rfl,c,_,rfl,.inl hc,_,_,rfl,rfl,_,rfl,cE (λe1=>To ?_) (λe1=>⟨_,rfl,b,_,rfl,.inl hb,_,_,rfl,rfl,_,rfl,cE (λe2=>?_) (λe2=>?_)⟩)⟩
  ·have e1:(1048576:Int)<((lc.map V.int).length:Int):=d7 e1
   rw[ai] at e1
   have e3:dF lc lb=.no (-2):=af (.inl (by omega))
   exact⟨_,rfl,c8 _,λl1 n1=>Hy (no (-2) H (aK.id' _) e3) l1 n1⟩
  ·have e2:(16384:Int)<((lb.map V.int).length:Int):=d7 e2
   rw[ai] at e2
   have e3:dF lc lb=.no (-2):=af (.inr (by (clear e1;omega)))
   exact⟨_,rfl,c8 _,λl1 n1=>Hy (no (-2) H (aK.id' _) e3) l1 n1⟩
  ·have e1:¬(1048576:Int)<((lc.map V.int).length:Int):=λz=>e1 (c9 z)
   have e2:¬(16384:Int)<((lb.map V.int).length:Int):=λz=>e2 (c9 z)
   rw[ai] at e1 e2
   have e3:¬(1048576<lc.length\/16384<lb.length):=by omega
   unfold dF at k no
   rw[ae e3] at k no
   refine⟨_,rfl,c,lc,rfl,hc,?_⟩
   cases ec:iF lc with
   |error i=>
    intro H1 S1 ah lu
    refine⟨_,rfl,c8 _,λl1 n1=>Hy (no (-6) H1 S1 (by rw[ec])) l1 n1⟩
   |ok aa=>
    intro H1 pa bs S1 df cy pf jf
    rw[ec] at k no
    refine⟨_,rfl,pa,bs,aa,rfl,cR.of df,cy,jf,pf,λH2 S2=>⟨_,rfl,cE (λe4=>?_) (λe4=>?_)⟩⟩
    ·rw[cx] at e4
     exact⟨_,rfl,c8 _,λl1 n1=>Hy (no (-8) H2 (S1.trans S2) (by show (if oB aa=true then _ else _)=_;rw[ae (by rw[e4];decide)])) l1 n1⟩
    ·rw[cx,yf] at e4
     have jw:=S1.trans S2
     have TJ:=S2 _ _ df
     have HP:dS CP H2 bs aa:=Paired.mapP cy λ_ _ z=>⟨z.1.same S2,z.2⟩
     have k:∀(H':Hp)(g:Addr),aK H H'->H g=none->Tg CG CP CB H' g (match dJ (aa.map (·.name)) lb with
       |.error i=>.bad i
       |.ok b=>.ok aa b.1 b.2)->Q (.ref g) H':=λH' g s fg hg=>k H' g s fg (by show Tg CG CP CB H' g (if oB aa=true then _ else _);rw[af e4];exact hg)
     refine⟨_,rfl,_,rfl,pa,bs,aa,rfl,cR.of TJ,HP,pf,λH3 Dl S3 _ hN=>?_⟩
     obtain⟨qs,og,pq⟩:=hN
     have TK:pR K H3 (qs.map V.ref) (aa.map (·.name)):=by
      have key:∀{qs:List Addr}{aa:List aM},Paired (λq pr=>H3 q=some (.tup (pr.name.map V.int))) qs aa->pR K H3 (qs.map V.ref) (aa.map (·.name)):=by
       intro qs aa z
       induction z with
       |nil=>exact .nil
       |cons h t ih=>exact .cons ⟨_,rfl,cM.of h⟩ ih
      exact key pq
     have gh:Nms K H3 Dl (aa.map (·.name)):=by
      refine⟨⟨_,cR.of og,TK⟩,by rw[ai];exact pf,λm hm=>?_⟩
      obtain⟨pr,MF,rfl⟩:=a8.mp hm
      obtain⟨i,hi⟩:=ox.mp MF
      obtain⟨_,_,_,po⟩:=bY cy hi
      exact⟨po.nm,aBk ec pr MF⟩
     have xl:=jw.trans S3
     refine⟨b,Dl,lb,_,rfl,xl.seq hb,gh,?_⟩
     cases eb:dJ (aa.map (·.name)) lb with
     |error i=>
      intro H4 S4
      rw[eb] at k
      refine⟨i,rfl,λah e d lu he hd aw=>?_⟩
      have S5:aK H4 (upd (upd H4 d (.xd [("fault",.int i)])) e (XR C d e)):=λy o z=>by rw[aC (aD z he),aC (aD z hd)];exact z
      have h4:(ah.set 4 (some (V.ref e)))[4]?=some (some (V.ref e)):=EI (by have:ah.length=5:=lu;(clear jf pf e3 e2 e1;omega))
      have BK:=(xl.trans S4).trans S5
      refine⟨_,rfl,_,h4,e,d,i,rfl,aB,by rw[aC aw,aB],c8 _,λl1 n1=>Hy (λH' g s fg hg=>k H' g (BK.trans s) (BK.free fg) hg) l1 n1⟩
     |ok bd=>
      intro H4 q S4 BL
      rw[eb] at k
      have TN:aK H1 H4:=(S2.trans S3).trans S4
      refine⟨_,rfl,_,rfl,λx dx hx sj aw=>?_⟩
      refine⟨x,dx,pa,0,0,.ref q,rfl,aB,λH5 hg s5=>⟨rfl,?_⟩⟩
      have HQ:aK H4 H5:=λy o e=>s5 y o (by rw[aC (aD e hx),aC (aD e sj)];exact e) (aD e hx)
      have BK:=TN.trans HQ
      exact k H5 x ((xl.trans S4).trans HQ) ((xl.trans S4).free hx) ⟨dx,pa,q,bs,hg,BK _ _ df,Paired.mapP cy λ_ _ z=>⟨z.1.same BK,z.2⟩,BL.same HQ,jf,pf⟩
theorem Vw{lc lb:List Int}{n:Int}(h:dF lc lb=.no n):n= -2\/n= -6\/n= -8:=by
 unfold dF at h
 split at h
 ·cases h;exact .inl rfl
 ·split at h
  ·cases h;exact .inr (.inl rfl)
  ·split at h
   ·split at h<;>cases h
   ·cases h;exact .inr (.inr rfl)
end Br1
namespace L2
open PySem PySem.Spec PyProof.Rows
theorem sP(h:us.length=([x]:List Str).length):∃a,us=[a]:=List.length_eq_one_iff.mp h
theorem vG{y:Str}(h:us.length=([x,y]:List Str).length):∃a b,us=[a,b]:=by
 cases us with
 |nil=>cases h
 |cons a r=>
  obtain⟨b,rfl⟩:=sP (x:=x) (Nat.succ.inj h)
  exact⟨a,b,rfl⟩
theorem us3{y z:Str}(h:us.length=([x,y,z]:List Str).length):∃a b c,us=[a,b,c]:=by
 cases us with
 |nil=>cases h
 |cons a r=>
  obtain⟨b,c,rfl⟩:=vG (x:=x) (y:=y) (Nat.succ.inj h)
  exact⟨a,b,c,rfl⟩
theorem us4{y z w:Str}(h:us.length=([x,y,z,w]:List Str).length):∃a b c d,us=[a,b,c,d]:=by
 cases us with
 |nil=>cases h
 |cons a r=>
  obtain⟨b,c,d,rfl⟩:=us3 (x:=x) (y:=y) (z:=z) (Nat.succ.inj h)
  exact⟨a,b,c,d,rfl⟩
theorem us5{y z w v:Str}(h:us.length=([x,y,z,w,v]:List Str).length):∃a b c d e,us=[a,b,c,d,e]:=by
 cases us with
 |nil=>cases h
 |cons a r=>
  obtain⟨b,c,d,e,rfl⟩:=us4 (x:=x) (y:=y) (z:=z) (w:=w) (Nat.succ.inj h)
  exact⟨a,b,c,d,e,rfl⟩
theorem us7{y z w v u t:Str}(h:us.length=([x,y,z,w,v,u,t]:List Str).length):∃a b c d e f g,us=[a,b,c,d,e,f,g]:=by
 cases us with
 |nil=>cases h
 |cons a r=>
  cases r with
  |nil=>cases h
  |cons b r=>
   obtain⟨c,d,e,f,g,rfl⟩:=us5 (x:=x) (y:=y) (z:=z) (w:=w) (v:=v) (Nat.succ.inj (Nat.succ.inj h))
   exact⟨a,b,c,d,e,f,g,rfl⟩
def hJ(K:Frag)(x aq:Str)(st:Stmt):Prop:=∃(f:Addr)(oc:Value)(od:Option Addr)(kV br pm:Value)(an:Option Addr)(ak ct:Value) (de:Array (Option Value)),
 nsIn K mainGlobals x=some (some (.ref f))/\K.lookup f=some ⟨oc,od,.func (fnOf x aq (eU st) (dZ st) (aG st) .none kV br pm an ak ct),de⟩/\codeIn K ak aq=true/\keepIn K (.ref f)=true
def Bx(K:Frag)(C:Addr)(x aq:Str)(st:Stmt):Prop:=∃(f:Addr)(oc:Value)(od:Option Addr)(kV br pm:Value)(an:Option Addr)(ak ct:Value) (de:Array (Option Value)),
 findIn K (.ref C) x=some (some (.ref f))/\K.lookup f=some ⟨oc,od,.func (fnOf x aq (eU st) (dZ st) (aG st) .none kV br pm an ak ct),de⟩/\codeIn K ak aq=true/\keepIn K (.ref f)=true/\isFn K (.ref f)=true
structure Kg(K:Frag)(x:Str)(C:Addr):Prop where
 ns:nsIn K mainGlobals x=some (some (.ref C))
 pg:plainGet K C Str.empty=true
 hd:hasDictIn K C=true
 po:plainOver K C=true
 sa:findIn K (.ref C) "__setattr__"=some (some (.builtin "object.__setattr__"))
 makes:makesIn K C=true
 kp:keepIn K (.ref C)=true
section
variable{st:Stmt}{CX:Ji}{K:Frag}
theorem hJ.fn0(h1:hJ K x aq st)(X:K.In h)(G:h.Ns mainGlobals mg)(ok:∀(f:Addr)(fd:FuncData),fH K x aq st f fd->bV P w K mg base CX k f fd ps sp)
  (hb:∀(kV br pm:Value)(an:Option Addr)(ak ct:Value)(us:List Value),us.length=ps.length->bindArgs (fnOf x aq (eU st) (dZ st) (aG st) .none kV br pm an ak ct) ⟨us,[]⟩=pure (ps.zip us)):Br1.dL P w K mg base x CX k ps sp:=by
 obtain⟨f,oc,od,kV,br,pm,an,ak,ct,de,a,l,c,kp⟩:=h1
 have F:=uB (st:=st) l c kp
 exact⟨f,_,ok _ _ F,F.binds hb,kp,mg_of X G a⟩
theorem Bx.mt(h1:Bx K C x aq st)(ok:∀(f:Addr)(fd:FuncData),fH K x aq st f fd->bV P w K mg base CX k f fd ps sp)
  (hb:∀(kV br pm:Value)(an:Option Addr)(ak ct:Value)(us:List Value),us.length=ps.length->bindArgs (fnOf x aq (eU st) (dZ st) (aG st) .none kV br pm an ak ct) ⟨us,[]⟩=pure (ps.zip us)):Br1.pB P w K mg base C x CX k ps sp:=by
 obtain⟨f,oc,od,kV,br,pm,an,ak,ct,de,a,l,c,kp,i⟩:=h1
 have F:=uB (st:=st) l c kp
 exact⟨f,_,⟨a,i,kp⟩,ok _ _ F,F.binds hb⟩
theorem Kg.cl(h1:Kg K x C):Jh K C:=⟨h1.pg,h1.hd,h1.po,h1.sa⟩
theorem Bx.mk(h1:Bx K C "__init__" aq st)(hC:Kg K x C)(ok:∀(f:Addr)(fd:FuncData),fH K "__init__" aq st f fd->bV P w K mg base CX k f fd ps sp)
  (hb:∀(kV br pm:Value)(an:Option Addr)(ak ct:Value)(us:List Value),us.length=ps.length->bindArgs (fnOf "__init__" aq (eU st) (dZ st) (aG st) .none kV br pm an ak ct) ⟨us,[]⟩=pure (ps.zip us)):∃f fd,Mk K C f/\bV P w K mg base CX k f fd ps sp/\eT K fd ps []:=by
 obtain⟨f,oc,od,kV,br,pm,an,ak,ct,de,a,l,c,kp,i⟩:=h1
 have F:=uB (st:=st) l c kp
 exact⟨f,_,⟨hC.makes,a,i,hC.kp⟩,ok _ _ F,F.binds hb⟩
theorem Bx.mkN(h1:Bx K C "__init__" aq st)(hC:Kg K x C)(ok:∀(f:Addr)(fd:FuncData),fH K "__init__" aq st f fd->Bt P w K mg base CX k f fd ps sp)
  (hb:∀(kV br pm:Value)(an:Option Addr)(ak ct:Value)(us:List Value),us.length=ps.length->bindArgs (fnOf "__init__" aq (eU st) (dZ st) (aG st) .none kV br pm an ak ct) ⟨us,[]⟩=pure (ps.zip us)):∃f fd,Mk K C f/\Bt P w K mg base CX k f fd ps sp/\eT K fd ps []:=by
 obtain⟨f,oc,od,kV,br,pm,an,ak,ct,de,a,l,c,kp,i⟩:=h1
 have F:=uB (st:=st) l c kp
 exact⟨f,_,⟨hC.makes,a,i,hC.kp⟩,ok _ _ F,F.binds hb⟩
end
end L2
namespace Br1
open PySem PySem.Spec PyProof.Rows L2
noncomputable def Wf(K:Frag)(x:Str)(n:Int):Prop:=∃t,nsIn K mainGlobals x=some (some (.int n t))
variable{K:Frag}
theorem Wf.ci{n:Int}(hk:Wf K x n)(X:K.In h)(G:h.Ns mainGlobals mg):CI mg x n:=by
 obtain⟨t,e⟩:=hk
 exact⟨t,mg_of X G e⟩
theorem Kh{st:Stmt}(h:fnD K f x aq=some (Yn st)):∃(oc:Value)(od:Option Addr)(kV br pm:Value)(an:Option Addr)(ak ct:Value) (de:Array (Option Value)),
  K.lookup f=some ⟨oc,od,.func (fnOf x aq (eU st) (dZ st) (aG st) .none kV br pm an ak ct),de⟩/\codeIn K ak aq=true/\keepIn K (.ref f)=true:=by
 unfold fnD at h
 split at h
 ·rename_i oc od nm q pa b sc gl kV br pm an cd ct bl de e
  split at h
  ·rename_i t
   simp only[cq,cz] at t
   obtain⟨rfl,rfl,rfl,rfl,c,k⟩:=t
   cases h
   exact⟨oc,od,kV,br,pm,an,cd,ct,de,e,c,k⟩
  ·cases h
 ·cases h
theorem aAu(h:aDx K C=some f):Er K C f:=by
 unfold aDx at h
 split at h
 ·rename_i c dd nm bs mro N q hd sn sub ab col hdel sl e
  split at h
  ·rename_i k0 k1 k2 k3 b k5 es
   split at h
   ·rename_i t
    simp only[cq,cz,cx] at t
    obtain⟨rfl,rfl,rfl,rfl,rfl,t1,t2,t3,t4,t5,t6⟩:=t
    split at h
    ·rename_i f' ei
     split at h
     ·rename_i tf
      cases h
      have es:sl=#[k0,k1,k2,k3,some (.builtin "Exception.__new__"),k5]:=by
       cases sl
       exact congrArg Array.mk es
      subst es
      exact⟨⟨nm,q,N,bs,sn,sub,ab,col,dd,k0,k1,k2,k3,k5,e,t1,ei,t2,t3,t4,t5⟩,tf,t6⟩
     ·cases h
    ·cases h
   ·cases h
  ·cases h
 ·cases h
noncomputable def Ft.PP(K:Frag):Ft->Prop
 |.no x=>nsIn K mainGlobals x=some none
 |.int x n=>Wf K x n
 |.fn x st=>hJ K x x st
 |.cl x=>Kg K x (dW K x)
 |.at c f=>findIn K (.ref (dW K c)) f=some none
 |.mt c m q st=>Bx K (dW K c) m q st
 |.ints x l=>∃a,nsIn K mainGlobals x=some (some (.ref a))/\∃(o:Obj)(its:Array Value)(n:Nat),K.lookup a=some o/\o.cls=.type "tuple"/\o.data=.seq its n/\its.size<=sizeLine/\bO (l.map V.int) its.toList
 |.exc x q st=>nsIn K mainGlobals x=some (some (.ref (dW K x)))/\∃(f:Addr)(oc:Value)(od:Option Addr)(kV br pm:Value)(an:Option Addr)(ak ct:Value) (de:Array (Option Value)),
   Er K (dW K x) f/\K.lookup f=some ⟨oc,od,.func (fnOf "__init__" q (eU st) (dZ st) (aG st) .none kV br pm an ak ct),de⟩/\codeIn K ak q=true/\keepIn K (.ref f)=true
theorem Bb:∀{l:List Int}{vs:List Value},vs.map aB2=l.map some->bO (l.map V.int) vs
 |[],[],_=>.nil
 |[],v::r,h=>by cases h
 |n::l,[],h=>by cases h
 |n::l,v::r,h=>by
  obtain⟨h1,h2⟩:=List.cons.inj h
  refine .cons ?_ (Bb h2)
  cases v with
  |int m t=>cases h1;exact⟨t,rfl⟩
  |_=>cases h1
theorem Ft.ok:∀{f:Ft},f.DD K=f.XX->f.PP K
 |.no x,h=>cz.mp (congrArg Prod.fst h)
 |.int x n,h=>by
  have h:=congrArg Prod.fst h
  simp only[Ft.DD,Ft.XX] at h
  split at h
  ·rename_i m t e
   rw[cz] at h
   subst h
   exact⟨t,e⟩
  ·cases h
 |.fn x st,h=>by
  simp only[Ft.DD,Ft.XX] at h
  split at h
  ·rename_i f e
   obtain⟨oc,od,kV,br,pm,an,ak,ct,de,l,c,k⟩:=Kh (congrArg Prod.snd h)
   exact⟨f,oc,od,kV,br,pm,an,ak,ct,de,e,l,c,k⟩
  ·cases h
 |.cl x,h=>by
  have h:=congrArg Prod.fst h
  simp only[Ft.DD,Ft.XX] at h
  simp only[cq,cz] at h
  obtain⟨h1,h2,h3,h4,h5,h6,h7⟩:=h
  exact⟨h1,h2,h3,h4,h5,h6,h7⟩
 |.at c f,h=>cz.mp (congrArg Prod.fst h)
 |.mt c m q st,h=>by
  simp only[Ft.DD,Ft.XX] at h
  split at h
  ·rename_i f e
   obtain⟨oc,od,kV,br,pm,an,ak,ct,de,l,c,k⟩:=Kh (congrArg Prod.snd h)
   exact⟨f,oc,od,kV,br,pm,an,ak,ct,de,e,l,c,k,congrArg Prod.fst h⟩
  ·cases h
 |.ints x l,h=>by
  have h:=congrArg Prod.fst h
  simp only[Ft.DD,Ft.XX] at h
  split at h
  ·rename_i a e
   split at h
   ·rename_i c d its n sl e2
    simp only[cq,cz,ck] at h
    obtain⟨rfl,h2,h3⟩:=h
    have hl:=congrArg List.length h2
    rw[ai,ai,d4] at hl
    have hb:=aY
    refine⟨a,e,_,its,n,e2,rfl,rfl,?_,Bb h2⟩
    show its.size<=sizeLine
    omega
   ·cases h
  ·cases h
 |.exc x q st,h=>by
  simp only[Ft.DD,Ft.XX] at h
  split at h
  ·rename_i f e
   obtain⟨oc,od,kV,br,pm,an,ak,ct,de,l,c,k⟩:=Kh (congrArg Prod.snd h)
   exact⟨cz.mp (congrArg Prod.fst h),f,oc,od,kV,br,pm,an,ak,ct,de,aAu e,l,c,k⟩
  ·cases h
theorem Kb:∀as:List Addr,(frH as h).In h
 |[]=>λa o e=>by cases e
 |b::r=>λa o e=>by
  unfold frH at e
  rw[AA] at e
  cases q:h.get? b with
  |none=>
   rw[q] at e
   exact Kb r a o e
  |some u=>
   rw[q] at e
   have e:List.lookup a ((b,u)::frH r h)=some o:=e
   rw[vq] at e
   split at e
   ·rename_i z
    cases e
    rw[cz.mp z]
    exact q
   ·exact Kb r a o e
noncomputable def aCh(as:List Addr)(fs:List Ft):Hook where
 α:=List (Bool×Option Df)
 obs s:=fs.map (Ft.DD (frH as s.heap))
 val _:=fs.map Ft.XX
 says _ h:=∃K:Frag,K.In h/\∀f∈fs,f.PP K
 of _ s e:=⟨_,Kb as,λf hf=>Ft.ok (List.map_inj_left.mp e f hf)⟩
 keeps _ _ _ x k:=let ⟨K,a,b⟩:=x;⟨K,a.keeps k,b⟩
theorem Ft.nth{fs:List Ft}(h:∀f∈fs,f.PP K)(i:Nat){f:Ft}(e:fs[i]?=some f):f.PP K:=h f (d9 e)
end Br1
namespace L2
open PySem PySem.Spec PyProof.Rows
open PySem.W (WData Codec OpenSpec)
theorem Lg{r:OpenSpec}{q:Program}{loose:List Str}{XP:(Str->Option Value)->Heap->Prop}{YP:World->Heap->Prop}{Good:Frag->Prop}{d:DefRec}{CX:Ji}{sp:Frag->Sp}
  (TQ:r.wellSaid=true) (WU:d.params.defaults=[]) (bi:r.args.length=ps.length) (hr:eX k callerA)
  (hY:∀(w:World)(h:Heap),YP w h->∃K:Frag,K.In h/\Good K)
  (F:∀(w:World)(K:Frag)(mg:Str->Option Value)(fa:Addr)(h:Heap),Good K->K.In h->h.Ns mainGlobals mg->mg d.name=some (.ref fa)->
   ∃fd:FuncData,(∀(s:Shared)(us:List Value),us.length=ps.length->BindsTo s fd ⟨us,[]⟩ (ps.zip us))/\
    ∀base:Heap,K.In base->base.Ns mainGlobals mg->bV r.prog w K mg base CX k fa fd ps (sp K))
  (kf:∀(K:Frag)(H:Hp)(xs:List V)(a:Codec.denoteAll r.args),Me H->Codec.withinAll r.args a=true->Codec.app r.args r.asked a=true->nV K H xs (Codec.encAll r.args a)->
   sp K xs H (λv H'=>Dw K H' v (r.ret.enc (Codec.app r.args r.f a))) λ_ _ _=>False)
  (FZ:∀(H:Hp)(s:Shared)(e:Value)(s':Shared),CX [] H s (λ_ _ _=>False) e s'->False):
  PySem.W.WalkOS q loose XP YP r d [] (λf vs=>PySem.call f vs):=by
 intro w s_0 az mg mb G Y fa o pm cd br dV kV ho hd jb hD HR hg args qr as TR TU KR A2 bo
 obtain⟨a,e1,e2⟩:=PySem.W.os_pre_some TR
 obtain⟨e3,u6⟩:=Codec.encAll_of_decAll r.args args a e1
 subst e3
 obtain⟨K,KX,gk⟩:=hY w _ Y
 obtain⟨fd,hb,hF⟩:=F w K mg fa _ gk KX G.T.g HR
 refine PySem.W.enter_call (t8 (Pg (R:=[]) (cl:=classAt s_0.heap) (d0:=r.ret.enc (Codec.app r.args r.f a)) KX G.T.g G.T.b G.T.builtins G.T.nolimit hg A2 (Az _ _) (xA TU) hr hF hb (by rw[zN];exact bi)
  (λH xs hO hS=>kf K H xs a hO u6 e2 hS) λH e s'=>FZ H az e s') λr' s' hq=>?_)
 obtain⟨u,TV,rfl,h1,h2,h3,h4⟩:=hq
 exact⟨.inl ⟨u,_,TV,rfl,λ_=>rfl,h1,(OpenSpec.post_iff TQ u6 _ _).mpr rfl,λz=>Bool.noConfusion (show false=true from z)⟩,h2,h3,h4⟩
end L2
namespace Br1
open PySem PySem.Spec PyProof.Rows L2
structure aBn(P:Program)(w:World)(K:Frag)(mg:Str->Option Value)(base:Heap)(CP CB CG:Addr):Prop where
 TG:GvT K CG
 TP:Po K CP
 TB:BdT K CB
 PM:PtM P w K mg base CP
 BM:BdM P w K mg base CB
 stud:dL P w K mg base "has_stud" bU 1 ["sign"] yW
 tube:dL P w K mg base "has_tube" bU 1 ["sign"] wX
 up:dL P w K mg base "above" bU 1 ["place"] pF
 dn:dL P w K mg base "below" bU 1 ["place"] oZ
 names:dL P w K mg base "names_of" bU 1 ["parts"] (pK K CP)
 given:dL P w K mg base "read_given" bU 9 ["c","b"] (Em K CG CP CB)
variable{K:Frag}
theorem aGs(X:K.In h)(G:h.Ns mainGlobals mg)(hK:∀f∈ftC,f.PP K):aBn P w K mg base (dW K "Part") (dW K "Build") (dW K "Given"):=by
 have g:∀(i:Nat)(f:Ft),ftC[i]?=some f->f.PP K:=λi f e=>Ft.nth hK i e
 have ci:∀{x:Str}{n:Int},Wf K x n->CI mg x n:=λhk=>hk.ci X G
 have nn:∀{x:Str},nsIn K mainGlobals x=some none->mg x=none:=λe=>mg_none_of X G e
 have T:Jj K (dW K "Reader"):=⟨Kg.cl (g 0 (.cl "Reader") rfl),(g 1 (.at "Reader" "text") rfl),(g 2 (.at "Reader" "position") rfl)⟩
 have TP:Po K (dW K "Part"):=⟨Kg.cl (g 3 (.cl "Part") rfl),(g 4 (.at "Part" "name") rfl),(g 5 (.at "Part" "width") rfl),(g 6 (.at "Part" "depth") rfl),(g 7 (.at "Part" "height") rfl),(g 8 (.at "Part" "weight") rfl),(g 9 (.at "Part" "cells") rfl)⟩
 have TB:BdT K (dW K "Build"):=⟨Kg.cl (g 10 (.cl "Build") rfl),(g 11 (.at "Build" "name") rfl),(g 12 (.at "Build" "lines") rfl)⟩
 have TG:GvT K (dW K "Given"):=⟨Kg.cl (g 13 (.cl "Given") rfl),(g 14 (.at "Given" "refusal") rfl),(g 15 (.at "Given" "fault") rfl),(g 16 (.at "Given" "parts") rfl),(g 17 (.at "Given" "build") rfl),(g 18 (.at "Given" "room") rfl)⟩
 obtain⟨aS,TW,TX⟩:=(g 19 (.ints "SIGNS" cV) rfl)
 have hS:∀H,cM K H aS (cV.map V.int):=λH=>.inr TX
 obtain⟨stk,fS,oc,od,kV,br,pm,an,ak,ct,de,XT,lS,cS,kS⟩:=(g 20 (.exc "Stuck" "Stuck.__init__" qX) rfl)
 have FS:=uB (st:=qX) lS cS kS
 have S:StT P w K mg base (dW K "Stuck"):=⟨⟨fS,_,XT,Rh FS XT,FS.binds λ_ _ _ _ _ _ us hl=>(by obtain⟨a,b,rfl⟩:=_root_.L2.vG hl;rfl)⟩,mg_of X G stk⟩
 have L1:dL P w K mg base "is_letter" bU 1 ["byte"] pY:=hJ.fn0 (g 21 (.fn "is_letter" oO) rfl) X G (λf fd F=>Fp F (nn (g 22 (.no "ord") rfl))) λ_ _ _ _ _ _ us hl=>(by obtain⟨a,rfl⟩:=_root_.L2.sP hl;rfl)
 have L2:dL P w K mg base "is_digit" bU 1 ["byte"] oQ:=hJ.fn0 (g 23 (.fn "is_digit" sL) rfl) X G (λf fd F=>Kt F (nn (g 22 (.no "ord") rfl))) λ_ _ _ _ _ _ us hl=>(by obtain⟨a,rfl⟩:=_root_.L2.sP hl;rfl)
 have RK:RdK P w K mg base (dW K "Reader"):=⟨Bx.mk (g 24 (.mt "Reader" "__init__" "Reader.__init__" Yl) rfl) (g 0 (.cl "Reader") rfl) (λf fd F=>aC9 F T) λ_ _ _ _ _ _ us hl=>(by obtain⟨a,b,rfl⟩:=_root_.L2.vG hl;rfl),mg_of X G (Kg.ns (g 0 (.cl "Reader") rfl))⟩
 have M1:pB P w K mg base (dW K "Reader") "ended" bU 1 ["self"] (oW K (dW K "Reader")):=Bx.mt (g 25 (.mt "Reader" "ended" "Reader.ended" Cr) rfl) (λf fd F=>Xp F T (nn (g 26 (.no "len") rfl))) λ_ _ _ _ _ _ us hl=>(by obtain⟨a,rfl⟩:=_root_.L2.sP hl;rfl)
 obtain⟨t0,e0⟩:=ci (g 27 (.int "NO_BYTE" 256) rfl)
 have M2:pB P w K mg base (dW K "Reader") "here" bU 2 ["self"] (qP K (dW K "Reader")):=Bx.mt (g 28 (.mt "Reader" "here" "Reader.here" Os) rfl) (λf fd F=>aA0 F T e0 M1) λ_ _ _ _ _ _ us hl=>(by obtain⟨a,rfl⟩:=_root_.L2.sP hl;rfl)
 have M3:pB P w K mg base (dW K "Reader") "take" bU 3 ["self"] (qD K (dW K "Reader")):=Bx.mt (g 29 (.mt "Reader" "take" "Reader.take" Md) rfl) (λf fd F=>Zs F T M2) λ_ _ _ _ _ _ us hl=>(by obtain⟨a,rfl⟩:=_root_.L2.sP hl;rfl)
 have M4:pB P w K mg base (dW K "Reader") "read_one_of" (jN (dW K "Stuck") P w) 4 ["self","signs"] (rR K (dW K "Reader")):=Bx.mt (g 30 (.mt "Reader" "read_one_of" "Reader.read_one_of" Eo) rfl) (λf fd F=>Us F T S M2 M3) λ_ _ _ _ _ _ us hl=>(by obtain⟨a,b,rfl⟩:=_root_.L2.vG hl;rfl)
 have M5:pB P w K mg base (dW K "Reader") "read_word" (jN (dW K "Stuck") P w) 5 ["self","word"] (lX K (dW K "Reader")):=Bx.mt (g 31 (.mt "Reader" "read_word" "Reader.read_word" Nm) rfl) (λf fd F=>Yd F T (nn (g 22 (.no "ord") rfl)) M4) λ_ _ _ _ _ _ us hl=>(by obtain⟨a,b,rfl⟩:=_root_.L2.vG hl;rfl)
 have M6:pB P w K mg base (dW K "Reader") "read_name" (jN (dW K "Stuck") P w) 4 ["self","longest"] (pZ K (dW K "Reader")):=Bx.mt (g 32 (.mt "Reader" "read_name" "Reader.read_name" Ol) rfl) (λf fd F=>Zo F T S (nn (g 26 (.no "len") rfl)) (nn (g 33 (.no "tuple") rfl)) M2 M3 L1 L2) λ_ _ _ _ _ _ us hl=>(by obtain⟨a,b,rfl⟩:=_root_.L2.vG hl;rfl)
 have M7:pB P w K mg base (dW K "Reader") "read_number" (jN (dW K "Stuck") P w) 4 ["self","least","most"] (lA K (dW K "Reader")):=Bx.mt (g 34 (.mt "Reader" "read_number" "Reader.read_number" vS) rfl) (λf fd F=>Qb F T S (nn (g 22 (.no "ord") rfl)) M2 M3 L2) λ_ _ _ _ _ _ us hl=>(by obtain⟨a,b,c,rfl⟩:=_root_.L2.us3 hl;rfl)
 have M8:pB P w K mg base (dW K "Reader") "read_end" (jN (dW K "Stuck") P w) 3 ["self"] (Cc K (dW K "Reader")):=Bx.mt (g 35 (.mt "Reader" "read_end" "Reader.read_end" Zi) rfl) (λf fd F=>aDy F T S M1) λ_ _ _ _ _ _ us hl=>(by obtain⟨a,rfl⟩:=_root_.L2.sP hl;rfl)
 have PM:PtM P w K mg base (dW K "Part"):=⟨Bx.mk (g 36 (.mt "Part" "__init__" "Part.__init__" Co) rfl) (g 3 (.cl "Part") rfl) (λf fd F=>Tj F TP) λ_ _ _ _ _ _ us hl=>(by obtain⟨a,b,c,d,e,f,g,rfl⟩:=_root_.L2.us7 hl;rfl),mg_of X G (Kg.ns (g 3 (.cl "Part") rfl))⟩
 have BM:BdM P w K mg base (dW K "Build"):=⟨Bx.mk (g 37 (.mt "Build" "__init__" "Build.__init__" vQ) rfl) (g 10 (.cl "Build") rfl) (λf fd F=>aCk F TB) λ_ _ _ _ _ _ us hl=>(by obtain⟨a,b,c,rfl⟩:=_root_.L2.us3 hl;rfl),mg_of X G (Kg.ns (g 10 (.cl "Build") rfl))⟩
 have GM:GvM P w K mg base (dW K "Given"):=⟨Bx.mkN (g 38 (.mt "Given" "__init__" "Given.__init__" vZ) rfl) (g 13 (.cl "Given") rfl) (λf fd F=>aAt F TG) λ_ _ _ _ _ _ us hl=>(by obtain⟨a,b,c,d,e,rfl⟩:=_root_.L2.us5 hl;rfl),mg_of X G (Kg.ns (g 13 (.cl "Given") rfl))⟩
 have L3:dL P w K mg base "has_stud" bU 1 ["sign"] yW:=hJ.fn0 (g 39 (.fn "has_stud" rT) rfl) X G (λf fd F=>aAo F (ci (g 40 (.int "STUD" 115) rfl)) (ci (g 41 (.int "BOTH" 98) rfl))) λ_ _ _ _ _ _ us hl=>(by obtain⟨a,rfl⟩:=_root_.L2.sP hl;rfl)
 have L4:dL P w K mg base "has_tube" bU 1 ["sign"] wX:=hJ.fn0 (g 42 (.fn "has_tube" rY) rfl) X G (λf fd F=>aAs F (ci (g 43 (.int "TUBE" 116) rfl)) (ci (g 41 (.int "BOTH" 98) rfl))) λ_ _ _ _ _ _ us hl=>(by obtain⟨a,rfl⟩:=_root_.L2.sP hl;rfl)
 have L5:dL P w K mg base "above" bU 1 ["place"] pF:=hJ.fn0 (g 44 (.fn "above" Ct) rfl) X G (λf fd F=>Vu F) λ_ _ _ _ _ _ us hl=>(by obtain⟨a,rfl⟩:=_root_.L2.sP hl;rfl)
 have L6:dL P w K mg base "below" bU 1 ["place"] oZ:=hJ.fn0 (g 45 (.fn "below" Ew) rfl) X G (λf fd F=>Uq F) λ_ _ _ _ _ _ us hl=>(by obtain⟨a,rfl⟩:=_root_.L2.sP hl;rfl)
 have L9:dL P w K mg base "read_cells" (jN (dW K "Stuck") P w) 6 ["reader","width","depth","height"] (Cm K (dW K "Reader")):=hJ.fn0 (g 46 (.fn "read_cells" lY) rfl) X G (λf fd F=>Te F T (nn (g 47 (.no "range") rfl)) hS (mg_of X G TW) (ci (g 48 (.int "NO_CELL" 46) rfl)) M4 M5) λ_ _ _ _ _ _ us hl=>(by obtain⟨a,b,c,d,rfl⟩:=_root_.L2.us4 hl;rfl)
 have L8:dL P w K mg base "read_part" (jN (dW K "Stuck") P w) 7 ["reader"] (Lp K (dW K "Reader") (dW K "Part")):=hJ.fn0 (g 49 (.fn "read_part" pL) rfl) X G (λf fd F=>aAl F T PM (ci (g 50 (.int "LONGEST_PART_NAME" 8) rfl)) (ci (g 51 (.int "MOST_WIDTH" 16) rfl)) (ci (g 52 (.int "MOST_DEPTH" 16) rfl)) (ci (g 53 (.int "MOST_HEIGHT" 18) rfl)) (ci (g 54 (.int "MOST_WEIGHT" 9999) rfl)) M5 M6 M7 L9) λ_ _ _ _ _ _ us hl=>(by obtain⟨a,rfl⟩:=_root_.L2.sP hl;rfl)
 have L7:dL P w K mg base "read_catalogue" (jN (dW K "Stuck") P w) 8 ["c"] (Mw K (dW K "Part")):=hJ.fn0 (g 55 (.fn "read_catalogue" rX) rfl) X G (λf fd F=>aCi F T RK (nn (g 26 (.no "len") rfl)) (ci (g 56 (.int "MOST_PARTS" 64) rfl)) M1 M8 L8) λ_ _ _ _ _ _ us hl=>(by obtain⟨a,rfl⟩:=_root_.L2.sP hl;rfl)
 have TY:dL P w K mg base "studs_clear" bU 2 ["part"] (Cz (dW K "Part")):=hJ.fn0 (g 57 (.fn "studs_clear" En) rfl) X G (λf fd F=>Wj F TP L3 L5) λ_ _ _ _ _ _ us hl=>(by obtain⟨a,rfl⟩:=_root_.L2.sP hl;rfl)
 have TZ:dL P w K mg base "tubes_clear" bU 2 ["part"] (Du (dW K "Part")):=hJ.fn0 (g 58 (.fn "tubes_clear" Ex) rfl) X G (λf fd F=>Wq F TP L4 L6) λ_ _ _ _ _ _ us hl=>(by obtain⟨a,rfl⟩:=_root_.L2.sP hl;rfl)
 have T1:dL P w K mg base "fills_its_box" bU 2 ["part"] (Di (dW K "Part")):=hJ.fn0 (g 59 (.fn "fills_its_box" wR) rfl) X G (λf fd F=>Vp F TP (nn (g 60 (.no "enumerate") rfl))) λ_ _ _ _ _ _ us hl=>(by obtain⟨a,rfl⟩:=_root_.L2.sP hl;rfl)
 have T2:dL P w K mg base "neighbours" bU 2 ["place"] Ea:=hJ.fn0 (g 61 (.fn "neighbours" Eb) rfl) X G (λf fd F=>Tz F L5 L6) λ_ _ _ _ _ _ us hl=>(by obtain⟨a,rfl⟩:=_root_.L2.sP hl;rfl)
 have T3:dL P w K mg base "hangs_together" bU 3 ["part"] (Fi (dW K "Part")):=hJ.fn0 (g 62 (.fn "hangs_together" Dt) rfl) X G (λf fd F=>Vh F TP (nn (g 26 (.no "len") rfl)) (nn (g 63 (.no "list") rfl)) T2) λ_ _ _ _ _ _ us hl=>(by obtain⟨a,rfl⟩:=_root_.L2.sP hl;rfl)
 have T4:dL P w K mg base "names_grow" bU 2 ["parts"] (Jv K (dW K "Part")):=hJ.fn0 (g 64 (.fn "names_grow" Nk) rfl) X G (λf fd F=>Ys F TP (nn (g 47 (.no "range") rfl)) (nn (g 26 (.no "len") rfl))) λ_ _ _ _ _ _ us hl=>(by obtain⟨a,rfl⟩:=_root_.L2.sP hl;rfl)
 have T5:dL P w K mg base "part_right" bU 4 ["part"] (wD (dW K "Part")):=hJ.fn0 (g 65 (.fn "part_right" lU) rfl) X G (λf fd F=>Tq F TY TZ T1 T3) λ_ _ _ _ _ _ us hl=>(by obtain⟨a,rfl⟩:=_root_.L2.sP hl;rfl)
 have T6:dL P w K mg base "catalogue_right" bU 5 ["parts"] (qK K (dW K "Part")):=hJ.fn0 (g 66 (.fn "catalogue_right" kX) rfl) X G (λf fd F=>Fy F (nn (g 67 (.no "all") rfl)) T5 T4) λ_ _ _ _ _ _ us hl=>(by obtain⟨a,rfl⟩:=_root_.L2.sP hl;rfl)
 have T7:dL P w K mg base "some_begins" bU 2 ["names","beginning"] (xY K):=hJ.fn0 (g 68 (.fn "some_begins" rE) rfl) X G (λf fd F=>Ql F (nn (g 69 (.no "any") rfl)) (nn (g 26 (.no "len") rfl))) λ_ _ _ _ _ _ us hl=>(by obtain⟨a,b,rfl⟩:=_root_.L2.vG hl;rfl)
 have T9:dL P w K mg base "read_part_number" (jN (dW K "Stuck") P w) 5 ["reader","names"] (yV K (dW K "Reader")):=hJ.fn0 (g 70 (.fn "read_part_number" wA) rfl) X G (λf fd F=>Qz F T S M2 M3 T7) λ_ _ _ _ _ _ us hl=>(by obtain⟨a,b,rfl⟩:=_root_.L2.vG hl;rfl)
 have UA:dL P w K mg base "read_line" (jN (dW K "Stuck") P w) 6 ["reader","names"] (Jp K (dW K "Reader")):=hJ.fn0 (g 71 (.fn "read_line" oM) rfl) X G (λf fd F=>aAe F T (nn (g 33 (.no "tuple") rfl)) (ci (g 72 (.int "MOST_COLOUR" 255) rfl)) (ci (g 73 (.int "ROOM_WIDTH" 64) rfl)) (ci (g 74 (.int "ROOM_DEPTH" 64) rfl)) (ci (g 75 (.int "ROOM_HEIGHT" 96) rfl)) (ci (g 76 (.int "MOST_TURNS" 3) rfl)) M5 M7 T9) λ_ _ _ _ _ _ us hl=>(by obtain⟨a,b,rfl⟩:=_root_.L2.vG hl;rfl)
 have UB:dL P w K mg base "read_build" (jN (dW K "Stuck") P w) 7 ["b","names"] (vT K (dW K "Build")):=hJ.fn0 (g 77 (.fn "read_build" lR) rfl) X G (λf fd F=>Wu F T RK BM (nn (g 26 (.no "len") rfl)) (ci (g 78 (.int "LONGEST_BUILD_NAME" 16) rfl)) (ci (g 79 (.int "MOST_LINES" 256) rfl)) M1 M8 M5 M6 UA) λ_ _ _ _ _ _ us hl=>(by obtain⟨a,b,rfl⟩:=_root_.L2.vG hl;rfl)
 have MH:dL P w K mg base "names_of" bU 1 ["parts"] (pK K (dW K "Part")):=hJ.fn0 (g 80 (.fn "names_of" nG) rfl) X G (λf fd F=>Wz F TP) λ_ _ _ _ _ _ us hl=>(by obtain⟨a,rfl⟩:=_root_.L2.sP hl;rfl)
 exact⟨TG,TP,TB,PM,BM,L3,L4,L5,L6,MH,hJ.fn0 (g 81 (.fn "read_given" jI) rfl) X G (λf fd F=>Ws F GM S (nn (g 26 (.no "len") rfl)) (ci (g 82 (.int "MOST_CATALOGUE_BYTES" 1048576) rfl)) (ci (g 83 (.int "MOST_BUILD_BYTES" 16384) rfl)) L7 T6 UB MH) λ_ _ _ _ _ _ us hl=>(by obtain⟨a,b,rfl⟩:=_root_.L2.vG hl;rfl)⟩
end Br1
namespace Br1
def aW(t:Br.Bytes):List Int:=t.map λc=>(c.toNat:Int)
abbrev At(t:Br.Bytes)(p:Nat):Nat×Br.Bytes:=(p,t.drop p)
def sO(i:Int):UInt8:=UInt8.ofNat i.toNat
theorem Vt(c:UInt8):sO (c.toNat:Int)=c:=by
 unfold sO
 rw[fq]
 exact OT
theorem gD{c:UInt8}(h:t[p]?=some c):aR (aW t) p=(c.toNat:Int):=by
 unfold aR aW
 rw[a9,h]
 rfl
theorem gB(h:t[p]?=none):aR (aW t) p=256:=by
 unfold aR aW
 rw[a9,h]
 rfl
theorem rC{c:UInt8}:aR (aW t) p=(c.toNat:Int)↔t[p]?=some c:=by
 constructor
 ·intro h
  cases e:t[p]? with
  |none=>
   rw[gB e] at h
   have:=JU c
   omega
  |some d=>
   rw[gD e] at h
   have:d.toNat=c.toNat:=by omega
   rw[UInt8.toNat_inj.mp this]
 ·exact gD
theorem fJ(t:Br.Bytes):(aW t).length=t.length:=ai _
theorem bN{x:Br.Rd α}{f:α->Br.Rd β}{s:Nat×Br.Bytes}:(x>>=f) s=eQ (x s) λr=>f r.1 r.2:=by
 show (StateT.bind x f) s=_
 unfold StateT.bind
 cases x s with
 |error e=>rfl
 |ok r=>rfl
theorem kF:Br.peek (At t p)=.ok (t[p]?,At t p):=by
 show Except.ok ((t.drop p).head?,_)=_
 rw[List.head?_drop]
theorem pJ:Br.skip (At t p)=.ok ((),At t (p+1)):=by
 show Except.ok ((),(p+1,(t.drop p).drop 1))=_
 rw[List.drop_drop]
def fM(t:Br.Bytes)(f:α->β):Except Nat (α×Nat)->Except Nat (β×(Nat×Br.Bytes))
 |.ok x=>.ok (f x.1,At t x.2)
 |.error e=>.error e
def Oe(t:Br.Bytes):Except Nat Nat->Except Nat (Unit×(Nat×Br.Bytes))
 |.ok q=>.ok ((),At t q)
 |.error e=>.error e
theorem Ez{c:UInt8}:Br.byte_ c (At t p)=if t[p]?=some c then .ok ((),At t (p+1)) else .error p:=by
 unfold Br.byte_
 rw[bN,kF,cC]
 show (if t[p]?=some c then Br.skip else Br.stray) (At t p)=_
 by_cases h:t[p]?=some c
 ·rw[af h,af h]
  exact pJ
 ·rw[ae h,ae h]
  rfl
theorem rW:∀{cs:Br.Bytes}{p:Nat},Br.bytes_ cs (At t p)=Oe t (aV (aW t) p (cs.map UInt8.toNat))
 |[],p=>rfl
 |c::r,p=>by
  rw[Br.bytes_,bN,Ez]
  rw[bp,aV]
  by_cases h:t[p]?=some c
  ·rw[af h,af (rC.mpr h)]
   exact rW
  ·rw[ae h,ae (λz=>h (rC.mp z))]
   rfl
theorem pG{c:UInt8}:Br.byte_ c (At t p)=Oe t (aV (aW t) p [c.toNat]):=by
 rw[Ez,aV]
 by_cases h:t[p]?=some c
 ·rw[af h,af (rC.mpr h)]
  rfl
 ·rw[ae h,ae (λz=>h (rC.mp z))]
  rfl
theorem aBy{lo n:Nat}(bo:lo<=1)(hh:lo<=hi):Br.leadsTo lo hi n=decide (lo<=n/\n<=hi):=by
 unfold Br.leadsTo
 by_cases hn:n=0
 ·rw[af hn,hn,io,cz,ck]
  (clear hn hh bo;omega)
 ·rw[ae hn,io,m9,ck]
  constructor
  ·rintro⟨k,_,h⟩
   rw[cq,ck,ck] at h
   have h1:1<=10 ^ k:=Nat.one_le_pow _ _ (by decide)
   have h2:n * 1<=n * 10 ^ k:=Nat.mul_le_mul_left n h1
   (clear h1 hh;omega)
  ·rintro⟨h1,h2⟩
   refine⟨0,by simp,?_⟩
   rw[cq,ck,ck]
   simp
   (clear h1 hh;omega)
theorem fX(c:UInt8):Br.isDigit c=kG (c.toNat:Int):=by
 unfold Br.isDigit kG
 rw[io,cq,cq,ck,ck,ck,ck]
 omega
theorem wY(c:UInt8):Br.isLow c=kM (c.toNat:Int):=by
 unfold Br.isLow kM
 rw[io,cq,cq,ck,ck,ck,ck]
 omega
theorem uR{lo f:Nat}{v:Option Nat}:Br.digits lo hi (f+1) v (At t p)=
  match ((t[p]?).bind λ(c:UInt8)=>if Br.isDigit c=false\/v=some 0 then Option.none else (if Br.leadsTo lo hi (10 * v.getD 0+(c.toNat - 48))=true then some (10 * v.getD 0+(c.toNat - 48)) else Option.none)) with
  |some n=>Br.digits lo hi f (some n) (At t (p+1))
  |Option.none=>match v with
   |some n=>if lo<=n/\n<=hi then .ok (n,At t p) else .error p
   |Option.none=>.error p:=by
 show (Br.peek>>=λ(o:Option UInt8)=>(match (o.bind λ(c:UInt8)=>if Br.isDigit c=false\/v=some 0 then Option.none else (if Br.leadsTo lo hi (10 * v.getD 0+(c.toNat - 48))=true then some (10 * v.getD 0+(c.toNat - 48)) else Option.none)) with
  |some n=>(do Br.skip;Br.digits lo hi f (some n):Br.Rd Nat)
  |Option.none=>(match v with
   |some n=>(if lo<=n/\n<=hi then pure n else Br.stray:Br.Rd Nat)
   |Option.none=>Br.stray))) (At t p)=_
 rw[bN,kF]
 show (match ((t[p]?).bind λ(c:UInt8)=>if Br.isDigit c=false\/v=some 0 then Option.none else (if Br.leadsTo lo hi (10 * v.getD 0+(c.toNat - 48))=true then some (10 * v.getD 0+(c.toNat - 48)) else Option.none)) with
  |some n=>(do Br.skip;Br.digits lo hi f (some n):Br.Rd Nat)
  |Option.none=>(match v with
   |some n=>(if lo<=n/\n<=hi then pure n else Br.stray:Br.Rd Nat)
   |Option.none=>Br.stray)) (At t p)=_
 cases (t[p]?).bind λ(c:UInt8)=>if Br.isDigit c=false\/v=some 0 then Option.none else (if Br.leadsTo lo hi (10 * v.getD 0+(c.toNat - 48))=true then some (10 * v.getD 0+(c.toNat - 48)) else Option.none) with
 |some n=>
  show (Br.skip>>=λ_=>Br.digits lo hi f (some n)) (At t p)=_
  rw[bN,pJ]
  rfl
 |none=>
  cases v with
  |none=>rfl
  |some n=>
   by_cases h:lo<=n/\n<=hi
   ·simp only[h,vk,and_self]
    rfl
   ·simp only[h,jy]
    rfl
theorem uL{lo:Nat}(bo:lo<=1):∀{f p n m:Nat},1<=f->(n=0\/hi<n * 10 ^ f)->lo<=n->n<=hi->t.length<=p+m->
  Br.digits lo hi f (some n) (At t p)=.ok ((dG (aW t) hi m p (n:Int)).1.toNat,At t (dG (aW t) hi m p (n:Int)).2)
 |0,p,n,m,h,_,_,_,_=>absurd h (by decide)
 |f+1,p,n,m,_,hc,h1,h2,hm=>by
  rw[uR]
  have stop:(dG (aW t) hi m p (n:Int))=((n:Int),p)->(if lo<=n/\n<=hi then (.ok (n,At t p):Except Nat (Nat×(Nat×Br.Bytes))) else .error p)=.ok ((dG (aW t) hi m p (n:Int)).1.toNat,At t (dG (aW t) hi m p (n:Int)).2):=λe=>by
   rw[af ⟨h1,h2⟩,e]
   show _=Except.ok (((n:Int)).toNat,At t p)
   rw[fq]
  cases e:t[p]? with
  |none=>
   show (if lo<=n/\n<=hi then (.ok (n,At t p):Except Nat (Nat×(Nat×Br.Bytes))) else .error p)=_
   refine stop ?_
   cases m with
   |zero=>rfl
   |succ m=>
    rw[dG,ae]
    rintro⟨_,z,_⟩
    rw[gB e] at z
    revert z
    decide
  |some c=>
   have hp:p<t.length:=(bq.mp e).1
   obtain⟨m,rfl⟩:∃m',m=m'+1:=⟨m - 1,by (clear h2 h1 hc bo;omega)⟩
   have hh:=gD e
   by_cases hd:Br.isDigit c=false\/(some n:Option Nat)=some 0
   ·show (match (if Br.isDigit c=false\/(some n:Option Nat)=some 0 then (Option.none:Option Nat) else _) with
     |some n=>_
     |Option.none=>(if lo<=n/\n<=hi then (.ok (n,At t p):Except Nat (Nat×(Nat×Br.Bytes))) else .error p))=_
    rw[af hd]
    refine stop ?_
    rw[dG,ae]
    rintro⟨z1,z2,_⟩
    rw[hh,<-fX] at z2
    rcases hd with hd|hd
    ·rw[hd] at z2;cases z2
    ·cases hd;exact absurd z1 (by decide)
   ·have oj:Br.isDigit c=true:=by
     cases z:Br.isDigit c with
     |true=>rfl
     |false=>exact absurd (.inl z) hd
    have sy:n≠0:=λz=>hd (.inr (by rw[z]))
    have ir:48<=c.toNat/\c.toNat<=57:=by
     rw[fX] at oj
     have:=jB oj
     (clear sy hd hh hm hp h2 h1 hc bo;omega)
    show (match (if Br.isDigit c=false\/(some n:Option Nat)=some 0 then (Option.none:Option Nat) else (if Br.leadsTo lo hi (10 * n+(c.toNat - 48))=true then some (10 * n+(c.toNat - 48)) else Option.none)) with
     |some n=>Br.digits lo hi f (some n) (At t (p+1))
     |Option.none=>(if lo<=n/\n<=hi then (.ok (n,At t p):Except Nat (Nat×(Nat×Br.Bytes))) else .error p))=_
    rw[ae hd,aBy bo (gu h1 h2)]
    by_cases hl:lo<=10 * n+(c.toNat - 48)/\10 * n+(c.toNat - 48)<=hi
    ·rw[af (c9 hl)]
     have vb:n * 10 ^ (f+1)=(10 * n) * 10 ^ f:=by rw[Nat.pow_succ,m7 (10 ^ f) 10,<-FD,m7 n 10]
     have dq:hi<n * 10 ^ (f+1):=by
      rcases hc with z|z
      ·exact absurd z sy
      ·exact z
     have hf:1<=f:=by
      cases f with
      |zero=>rw[vb,Nat.pow_zero,Nat.mul_one] at dq;(clear dq vb ir hd hh hm hp h2 h1 bo;omega)
      |succ f=>(clear dq vb hc hl ir sy hd hh hm hp h2 h1 bo;omega)
     have DX:(10 * n) * 10 ^ f<=(10 * n+(c.toNat - 48)) * 10 ^ f:=AM _ (by (clear hf dq vb hl ir sy hd hh hm hp h2 h1 hc bo;omega))
     show Br.digits lo hi f (some (10 * n+(c.toNat - 48))) (At t (p+1))=_
     rw[uL bo (m:=m) hf (.inr (by (clear hf dq hl ir hd hh hm hp h2 h1 bo;omega))) hl.1 hl.2 (by (clear DX hf dq vb hl ir sy hd hh hp h2 h1 hc bo;omega))]
     have e2:dG (aW t) hi (m+1) p (n:Int)=dG (aW t) hi m (p+1) ((10 * n+(c.toNat - 48):Nat):Int):=by
      rw[dG,af]
      ·congr 1
       rw[hh]
       (clear DX hf dq vb hl sy hd hh hm hp h2 h1 hc bo;omega)
      ·rw[hh]
       refine⟨by (clear DX hf dq vb hl ir hd hh hm hp h2 h1 hc bo;omega),by rw[<-fX];exact oj,by (clear DX hf dq vb ir sy hd hh hm hp h2 h1 hc bo;omega)⟩
     rw[e2]
    ·rw[ae (by rw[jn hl];decide)]
     refine stop ?_
     rw[dG,ae]
     rw[hh]
     rintro⟨_,_,z⟩
     exact hl ⟨by (clear z hl ir sy hd hh hm hp h2 h1 hc;omega),by (clear hl sy hd hh hm hp h2 h1 hc bo;omega)⟩
theorem aDp{lo:Nat}(bo:lo<=1)(h1:lo<=hi)(d5:hi<=100000):Br.num lo hi (At t p)=fM t id (jO (aW t) p lo hi):=by
 unfold Br.num
 rw[uR]
 unfold jO
 cases e:t[p]? with
 |none=>
  rw[ae]
  ·rfl
  ·rintro⟨z,_⟩
   rw[gB e] at z
   revert z
   decide
 |some c=>
  have hh:=gD e
  show (match (if Br.isDigit c=false\/(Option.none:Option Nat)=some 0 then (Option.none:Option Nat) else (if Br.leadsTo lo hi (10 * 0+(c.toNat - 48))=true then some (10 * 0+(c.toNat - 48)) else Option.none)) with
   |some n=>Br.digits lo hi 19 (some n) (At t (p+1))
   |Option.none=>(.error p:Except Nat (Nat×(Nat×Br.Bytes))))=_
  by_cases hd:Br.isDigit c=true
  ·have ir:48<=c.toNat/\c.toNat<=57:=by
    rw[fX] at hd
    have:=jB hd
    (clear hh d5 h1 bo;omega)
   rw[ae (by rw[hd];simp),aBy bo h1]
   by_cases hl:lo<=10 * 0+(c.toNat - 48)/\10 * 0+(c.toNat - 48)<=hi
   ·have hok:jY (aW t) p lo hi:=by
     unfold jY
     rw[hh]
     exact⟨by rw[<-fX];exact hd,by (clear hh d5 h1 bo;omega),by (clear ir hh d5 h1 bo;omega)⟩
    rw[af (c9 hl),af hok]
    have hp:p<t.length:=(bq.mp e).1
    have big:10 * 0+(c.toNat - 48)=0\/hi<(10 * 0+(c.toNat - 48)) * 10 ^ 19:=by (clear hp hl ir hh h1 bo;omega)
    show Br.digits lo hi 19 (some (10 * 0+(c.toNat - 48))) (At t (p+1))=_
    rw[uL bo (m:=(aW t).length - (p+1)) (by decide) big hl.1 hl.2 (by rw[fJ];(clear big hp hl ir hh d5 h1 bo;omega))]
    have e2:((10 * 0+(c.toNat - 48):Nat):Int)=aR (aW t) p - 48:=by rw[hh];(clear big hp hl hh d5 h1 bo;omega)
    rw[e2]
    rfl
   ·have cp:¬jY (aW t) p lo hi:=by
     unfold jY
     rw[hh]
     rintro⟨_,z1,z2⟩
     exact hl ⟨by (clear z2 hl ir hh d5 h1 bo;omega),by (clear z1 hl ir hh d5 h1 bo;omega)⟩
    rw[ae (by rw[jn hl];decide),ae cp]
    rfl
  ·have hd:Br.isDigit c=false:=by
    cases z:Br.isDigit c with
    |false=>rfl
    |true=>exact absurd z hd
   have cp:¬jY (aW t) p lo hi:=by
    unfold jY
    rw[hh,<-fX,hd]
    rintro⟨z,_⟩
    cases z
   rw[af (.inl hd),ae cp]
   rfl
theorem Ir:∀{n p:Nat},Br.while_ (λ(c:UInt8)=>Br.isLow c||Br.isDigit c) n (At t p)=.ok ((bJ (aW t) p n).map sO,At t (p+(bJ (aW t) p n).length))
 |0,p=>rfl
 |n+1,p=>by
  show (Br.peek>>=λ(o:Option UInt8)=>(match o with
   |some c=>(if (Br.isLow c||Br.isDigit c)=true then (do Br.skip;let r <-Br.while_ (λ(c:UInt8)=>Br.isLow c||Br.isDigit c) n;return c::r) else return []:Br.Rd Br.Bytes)
   |Option.none=>return [])) (At t p)=_
  rw[bN,kF,bJ]
  cases e:t[p]? with
  |none=>
   rw[ae (by rw[gB e];decide)]
   rfl
  |some c=>
   have hh:=gD e
   have ea:hX (aR (aW t) p)=(Br.isLow c||Br.isDigit c):=by rw[hh,wY,fX];rfl
   by_cases h:(Br.isLow c||Br.isDigit c)=true
   ·rw[af (by rw[ea];exact h)]
    show (if (Br.isLow c||Br.isDigit c)=true then (do Br.skip;let r <-Br.while_ (λ(c:UInt8)=>Br.isLow c||Br.isDigit c) n;return c::r) else return []:Br.Rd Br.Bytes) (At t p)=_
    rw[af h]
    show (Br.skip>>=λ_=>Br.while_ (λ(c:UInt8)=>Br.isLow c||Br.isDigit c) n>>=λr=>pure (c::r)) (At t p)=_
    rw[bN,pJ]
    show (Br.while_ (λ(c:UInt8)=>Br.isLow c||Br.isDigit c) n>>=λr=>pure (c::r)) (At t (p+1))=_
    rw[bN,Ir]
    show Except.ok (c::(bJ (aW t) (p+1) n).map sO,At t (p+1+(bJ (aW t) (p+1) n).length))=_
    rw[bp,bh,hh,Vt]
    congr 3<;>(clear hh;omega)
   ·rw[ae (by rw[ea];exact h)]
    show (if (Br.isLow c||Br.isDigit c)=true then (do Br.skip;let r <-Br.while_ (λ(c:UInt8)=>Br.isLow c||Br.isDigit c) n;return c::r) else return []:Br.Rd Br.Bytes) (At t p)=_
    rw[ae h]
    rfl
theorem Mr{n:Nat}:(Br.peek>>=λ(o:Option UInt8)=>(match o with
   |some c=>(if Br.isLow c=true then (do Br.skip;let r <-Br.while_ (λ(c:UInt8)=>Br.isLow c||Br.isDigit c) n;return c::r) else Br.stray:Br.Rd Br.Bytes)
   |Option.none=>Br.stray)) (At t p)=fM t (List.map sO) (gP (aW t) p (n+1)):=by
 rw[bN,kF]
 unfold gP
 cases e:t[p]? with
 |none=>
  rw[ae (by rw[gB e];decide)]
  rfl
 |some c=>
  have hh:=gD e
  by_cases h:Br.isLow c=true
  ·have hl:kM (aR (aW t) p)=true:=by rw[hh,<-wY];exact h
   have ha:hX (aR (aW t) p)=true:=by unfold hX;rw[hl];rfl
   rw[af hl]
   show (if Br.isLow c=true then (do Br.skip;let r <-Br.while_ (λ(c:UInt8)=>Br.isLow c||Br.isDigit c) n;return c::r) else Br.stray:Br.Rd Br.Bytes) (At t p)=_
   rw[af h]
   show (Br.skip>>=λ_=>Br.while_ (λ(c:UInt8)=>Br.isLow c||Br.isDigit c) n>>=λr=>pure (c::r)) (At t p)=_
   rw[bN,pJ]
   show (Br.while_ (λ(c:UInt8)=>Br.isLow c||Br.isDigit c) n>>=λr=>pure (c::r)) (At t (p+1))=_
   rw[bN,Ir]
   have en:bJ (aW t) p (n+1)=aR (aW t) p::bJ (aW t) (p+1) n:=by rw[bJ,af ha]
   rw[en]
   show Except.ok (c::(bJ (aW t) (p+1) n).map sO,At t (p+1+(bJ (aW t) (p+1) n).length))=Except.ok ((aR (aW t) p::bJ (aW t) (p+1) n).map sO,At t (p+(aR (aW t) p::bJ (aW t) (p+1) n).length))
   rw[bp,bh,hh,Vt]
   congr 3<;>(clear hh;omega)
  ·rw[ae (by rw[hh,<-wY];exact h)]
   show (if Br.isLow c=true then (do Br.skip;let r <-Br.while_ (λ(c:UInt8)=>Br.isLow c||Br.isDigit c) n;return c::r) else Br.stray:Br.Rd Br.Bytes) (At t p)=_
   rw[ae h]
   rfl
theorem Zp:Br.name_ (At t p)=fM t (List.map sO) (gP (aW t) p 8):=Mr
theorem Ii:Br.longName_ (At t p)=fM t (List.map sO) (gP (aW t) p 16):=Mr
def pO(i:Int):Br.Place:=if i=46 then .none else if i=35 then .cell false false else if i=115 then .cell true false else if i=116 then .cell false true else .cell true true
theorem Lo(c:UInt8):Br.placeOf c=if (c.toNat:Int)∈cV then some (pO (c.toNat:Int)) else Option.none:=by
 have key:∀n:Fin 256,Br.placeOf (UInt8.ofNat n.1)=if ((UInt8.ofNat n.1).toNat:Int)∈cV then some (pO ((UInt8.ofNat n.1).toNat:Int)) else Option.none:=by decide+kernel
 have h:=key ⟨c.toNat,JU c⟩
 have e:UInt8.ofNat c.toNat=c:=OT
 simp only[e] at h
 exact h
theorem Ww:Br.place_ (At t p)=if aR (aW t) p∈cV then .ok (pO (aR (aW t) p),At t (p+1)) else .error p:=by
 show (Br.peek>>=λ(o:Option UInt8)=>(match o.bind Br.placeOf with
   |some q=>(do Br.skip;return q:Br.Rd Br.Place)
   |Option.none=>Br.stray)) (At t p)=_
 rw[bN,kF]
 cases e:t[p]? with
 |none=>
  rw[gB e,ae (by decide)]
  rfl
 |some c=>
  rw[gD e]
  show (match Br.placeOf c with
   |some q=>(do Br.skip;return q:Br.Rd Br.Place)
   |Option.none=>Br.stray) (At t p)=_
  rw[Lo]
  by_cases h:(c.toNat:Int)∈cV
  ·rw[af h,af h]
   show (Br.skip>>=λ_=>pure (pO (c.toNat:Int))) (At t p)=_
   rw[bN,pJ]
   rfl
  ·rw[ae h,ae h]
   rfl
theorem xI{n:Nat}{r:Br.Rd α}{s:Nat×Br.Bytes}:Br.times (n+1) r s=eQ (r s) λx=>eQ (Br.times n r x.2) λy=>.ok (x.1::y.1,y.2):=by
 show (r>>=λx=>Br.times n r>>=λl=>pure (x::l)) s=_
 rw[bN]
 cases r s with
 |error e=>rfl
 |ok x=>
  show (Br.times n r>>=λl=>pure (x.1::l)) x.2=_
  rw[bN]
  rfl
theorem Ib:∀{n p:Nat},Br.times n Br.place_ (At t p)=fM t (List.map pO) (bZ (aW t) n p)
 |0,p=>rfl
 |n+1,p=>by
  rw[xI,Ww,bZ]
  by_cases h:aR (aW t) p∈cV
  ·rw[af h,af h]
   show eQ (Br.times n Br.place_ (At t (p+1))) (λy=>Except.ok (pO (aR (aW t) p)::y.1,y.2))=_
   rw[Ib]
   cases bZ (aW t) n (p+1) with
   |error e=>rfl
   |ok y=>rfl
  ·rw[ae h,ae h]
   rfl
theorem aD2{w:Nat}:Br.row_ w (At t p)=fM t (List.map pO) (fO (aW t) w p):=by
 show (Br.times w Br.place_>>=λl=>Br.byte_ 10>>=λ_=>pure l) (At t p)=_
 rw[bN,Ib]
 unfold fO
 cases bZ (aW t) w p with
 |error e=>rfl
 |ok y=>
  show (Br.byte_ 10>>=λ_=>pure (y.1.map pO)) (At t y.2)=_
  rw[bN,Ez]
  have he:aR (aW t) y.2=10↔t[y.2]?=some 10:=rC (c:=10)
  by_cases h:t[y.2]?=some 10
  ·rw[af h]
   show _=fM t (List.map pO) (if aR (aW t) y.2=10 then _ else _)
   rw[af (he.mpr h)]
   rfl
  ·rw[ae h]
   show _=fM t (List.map pO) (if aR (aW t) y.2=10 then _ else _)
   rw[ae (λz=>h (he.mp z))]
   rfl
theorem Ni{w:Nat}:∀{n p:Nat},Br.times n (Br.row_ w) (At t p)=fM t (List.map (List.map pO)) (bX (aW t) w n p)
 |0,p=>rfl
 |n+1,p=>by
  rw[xI,aD2,bX]
  cases fO (aW t) w p with
  |error e=>rfl
  |ok y=>
   show eQ (Br.times n (Br.row_ w) (At t y.2)) (λz=>Except.ok (y.1.map pO::z.1,z.2))=_
   rw[Ni]
   show _=fM t (List.map (List.map pO)) (gN y.1 (bX (aW t) w n y.2))
   cases bX (aW t) w n y.2 with
   |error e=>rfl
   |ok z=>rfl
def cA(pr:aM):Br.Part:=⟨pr.name.map sO,pr.w,pr.d,pr.h,pr.g,(pr.rows.map (List.map pO)).flatten⟩
theorem xM{γ:Type}{x:Br.Rd α}{s:Nat×Br.Bytes}{r:Except Nat (γ×Nat)}{g:γ->α}{k:α->Br.Rd β}{δ:Type}{f:γ×Nat->Except Nat (δ×Nat)}{u:δ->β}(h:x s=fM t g r)(hk:∀c,r=.ok c->k (g c.1) (At t c.2)=fM t u (f c)):
  (x>>=k) s=fM t u (eQ r f):=by
 rw[bN,h]
 cases r with
 |error e=>rfl
 |ok c=>exact hk c rfl
theorem lB{δ:Type}{x:Br.Rd Unit}{s:Nat×Br.Bytes}{r:Except Nat Nat}{k:Unit->Br.Rd β}{f:Nat->Except Nat (δ×Nat)}{u:δ->β}(h:x s=Oe t r)(hk:∀c,r=.ok c->k () (At t c)=fM t u (f c)):
  (x>>=k) s=fM t u (eQ r f):=by
 rw[bN,h]
 cases r with
 |error e=>rfl
 |ok c=>exact hk c rfl
theorem dE{δ:Type}{lo:Nat}{k:Nat->Br.Rd β}{f:Nat×Nat->Except Nat (δ×Nat)}{u:δ->β}(bo:lo<=1)(h1:lo<=hi)(d5:hi<=100000)(hk:∀c,k c.1 (At t c.2)=fM t u (f c)):
  (Br.numAfter lo hi>>=k) (At t p)=fM t u (eQ (aV (aW t) p [32]) λp1=>eQ (jO (aW t) p1 lo hi) f):=by
 have e:(Br.numAfter lo hi>>=k) (At t p)=(Br.byte_ 32>>=λ_=>Br.num lo hi>>=k) (At t p):=by
  show ((Br.byte_ 32>>=λ_=>Br.num lo hi)>>=k) (At t p)=_
  rw[bN,bN,bN]
  cases Br.byte_ 32 (At t p) with
  |error e=>rfl
  |ok r=>
   show eQ (Br.num lo hi r.2) (λr=>k r.1 r.2)=(Br.num lo hi>>=k) r.2
   rw[bN]
 rw[e]
 refine lB (pG (c:=32)) λp1 _=>?_
 exact xM (aDp bo h1 d5) λc _=>hk c
theorem Ln:Br.ascii "part "=[112,97,114,116,32]:=by decide+kernel
theorem Ny:Br.part_ (At t p)=fM t cA (dX (aW t) p):=by
 show (Br.bytes_ (Br.ascii "part ")>>=λ_=>Br.name_>>=λn=>Br.numAfter 1 16>>=λw=>Br.numAfter 1 16>>=λd=>Br.numAfter 1 18>>=λh=>Br.numAfter 1 9999>>=λg=>Br.byte_ 10>>=λ_=>Br.times (d * h) (Br.row_ w)>>=λl=>pure (⟨n,w,d,h,g,l.flatten⟩:Br.Part)) (At t p)=_
 unfold dX
 rw[Ln]
 refine lB (rW (cs:=[112,97,114,116,32])) λp1 _=>?_
 refine xM Zp λnm _=>?_
 refine dE (lo:=1) (hi:=16) (by decide) (by decide) (by decide) λw=>?_
 refine dE (lo:=1) (hi:=16) (by decide) (by decide) (by decide) λd=>?_
 refine dE (lo:=1) (hi:=18) (by decide) (by decide) (by decide) λh=>?_
 refine dE (lo:=1) (hi:=9999) (by decide) (by decide) (by decide) λg=>?_
 refine lB (pG (c:=10)) λzj _=>?_
 exact xM Ni λrs _=>rfl
theorem No{w:Nat}:∀{n p:Nat} {r:List (List Int)×Nat},p<=l.length->bX l w n p=.ok r->r.2<=l.length
 |0,p,r,hp,h=>by cases h;exact hp
 |n+1,p,r,hp,h=>by
  rw[bX] at h
  cases e:fO l w p with
  |error i=>rw[e] at h;cases h
  |ok q=>
   rw[e] at h
   obtain⟨q',e2,rfl⟩:=fG h
   show q'.2<=l.length
   refine No (r:=q') ?_ e2
   unfold fO at e
   split at e
   ·split at e
    ·rename_i di
     cases e
     have:=gG (l:=l) (p:=_) (by rw[di];decide)
     show _+1<=_
     (clear di hp;omega)
    ·cases e
   ·cases e
theorem Mx{q:aM×Nat}(h:dX l p=.ok q):q.2<=l.length:=by
 unfold dX at h
 obtain⟨p1,_,h⟩:=aL h
 obtain⟨nm,_,h⟩:=aL h
 obtain⟨_,_,h⟩:=aL h
 obtain⟨_,_,h⟩:=aL h
 obtain⟨_,_,h⟩:=aL h
 obtain⟨_,_,h⟩:=aL h
 obtain⟨_,_,h⟩:=aL h
 obtain⟨_,_,h⟩:=aL h
 obtain⟨_,_,h⟩:=aL h
 obtain⟨g,_,h⟩:=aL h
 obtain⟨zj,k6,h⟩:=aL h
 obtain⟨rs,lw,h⟩:=aL h
 cases h
 refine No ?_ lw
 rw[aV] at k6
 split at k6
 ·rename_i di
  have:=gG (l:=l) (p:=g.2) (by rw[di];decide)
  cases k6
  (clear di;omega)
 ·cases k6
theorem wG{r:Br.Rd α}:Br.toEnd r 0 (At t p)=if (t[p]?).isSome=true then .error p else .ok ([],At t p):=by
 show (Br.peek>>=λo=>if o.isSome=true then Br.stray else pure []) (At t p)=_
 rw[bN,kF]
 show (if (t[p]?).isSome=true then (Br.stray:Br.Rd (List α)) else pure []) (At t p)=_
 by_cases h:(t[p]?).isSome=true
 ·rw[af h,af h];rfl
 ·rw[ae h,ae h];rfl
theorem xK{r:Br.Rd α}{n:Nat}:Br.toEnd r (n+1) (At t p)=if (t[p]?).isSome=true then (eQ (r (At t p)) λx=>eQ (Br.toEnd r n x.2) λy=>.ok (x.1::y.1,y.2)) else .ok ([],At t p):=by
 show (Br.peek>>=λo=>if o.isSome=true then (r>>=λx=>Br.toEnd r n>>=λl=>pure (x::l)) else pure []) (At t p)=_
 rw[bN,kF]
 show (if (t[p]?).isSome=true then (r>>=λx=>Br.toEnd r n>>=λl=>pure (x::l)) else pure []:Br.Rd (List α)) (At t p)=_
 by_cases h:(t[p]?).isSome=true
 ·rw[af h,af h,bN]
  cases r (At t p) with
  |error e=>rfl
  |ok x=>
   show (Br.toEnd r n>>=λl=>pure (x.1::l)) x.2=_
   rw[bN]
   rfl
 ·rw[ae h,ae h];rfl
def aA5(t:Br.Bytes)(f:α->β):Except Nat (α×Nat)->Except Nat (β×(Nat×Br.Bytes))
 |.error e=>.error e
 |.ok r=>if r.2=t.length then .ok (f r.1,At t r.2) else .error r.2
theorem jV:(t[p]?).isSome=true↔p<t.length:=by
 by_cases h:p<t.length
 ·rw[ay h];simp[h]
 ·rw[k9 (by omega)];simp[h]
theorem Gm:∀{n p:Nat},p<=t.length->Br.toEnd Br.part_ n (At t p)=aA5 t (List.map cA) (cW (aW t) n p)
 |0,p,hp=>by
  rw[wG]
  show _=if p=t.length then Except.ok (([]:List aM).map cA,At t p) else .error p
  by_cases h:p=t.length
  ·rw[af h,ae (by rw[jV];(clear hp;omega))]
   rfl
  ·rw[ae h,af (by rw[jV];omega)]
 |n+1,p,hp=>by
  rw[xK,cW]
  by_cases h:p=t.length
  ·rw[ae (by rw[jV];(clear hp;omega)),af (by rw[fJ];exact h)]
   show _=if p=t.length then Except.ok (([]:List aM).map cA,At t p) else .error p
   rw[af h]
   rfl
  ·rw[af (by rw[jV];omega),ae (by rw[fJ];exact h),Ny]
   cases e:dX (aW t) p with
   |error i=>rfl
   |ok q=>
    have hq:=Mx e
    rw[fJ] at hq
    show eQ (Br.toEnd Br.part_ n (At t q.2)) (λy=>Except.ok (cA q.1::y.1,y.2))=aA5 t (List.map cA) (gN q.1 (cW (aW t) n q.2))
    rw[Gm hq]
    cases cW (aW t) n q.2 with
    |error i=>rfl
    |ok r=>
     show eQ (if r.2=t.length then (Except.ok (r.1.map cA,At t r.2):Except Nat _) else .error r.2) (λy=>Except.ok (cA q.1::y.1,y.2))=if r.2=t.length then Except.ok ((q.1::r.1).map cA,At t r.2) else .error r.2
     by_cases hr:r.2=t.length
     ·rw[af hr,af hr];rfl
     ·rw[ae hr,ae hr];rfl
theorem Ud(t:Br.Bytes):Br.readC t=eQ (iF (aW t)) λaa=>.ok (aa.map cA):=by
 show (((Br.part_>>=λp=>Br.toEnd Br.part_ 63>>=λl=>pure (p::l)) (At t 0)).map λ(x:Br.Catalogue×(Nat×Br.Bytes))=>x.1)=_
 rw[bN,Ny]
 unfold iF
 cases e:dX (aW t) 0 with
 |error i=>rfl
 |ok q=>
  have hq:=Mx e
  rw[fJ] at hq
  show (((Br.toEnd Br.part_ 63>>=λl=>pure (cA q.1::l)) (At t q.2)).map λ(x:Br.Catalogue×(Nat×Br.Bytes))=>x.1)=_
  rw[bN,Gm hq,cC]
  cases cW (aW t) 63 q.2 with
  |error i=>rfl
  |ok r=>
   show ((eQ (if r.2=t.length then (Except.ok (r.1.map cA,At t r.2):Except Nat _) else .error r.2) λy=>Except.ok (cA q.1::y.1,y.2)).map λ(x:Br.Catalogue×(Nat×Br.Bytes))=>x.1)=eQ (if r.2=(aW t).length then Except.ok (q.1::r.1) else .error r.2) λaa=>.ok (aa.map cA)
   rw[fJ]
   by_cases hr:r.2=t.length
   ·rw[af hr,af hr];rfl
   ·rw[ae hr,ae hr];rfl
theorem Mh{a b:Br.Bytes}(h:aW a=aW b):a=b:=by
 unfold aW at h
 refine List.map_inj_right (λx y e=>?_)|>.mp h
 have:x.toNat=y.toNat:=by omega
 exact UInt8.toNat_inj.mp this
theorem Hd(a:Br.Bytes)(c:UInt8):aW (a++[c])=aW a++[(c.toNat:Int)]:=by
 unfold aW
 rw[b7]
 rfl
theorem Pu(a n:Br.Bytes):a.isPrefixOf n=decide ((aW n).take (aW a).length=aW a):=by
 rw[io,List.isPrefixOf_iff_prefix,List.prefix_iff_eq_take,ck,fJ]
 have e:(aW n).take a.length=aW (n.take a.length):=by unfold aW;rw[List.map_take]
 rw[e]
 constructor
 ·intro h
  rw[<-h]
 ·intro h
  exact(Mh h).symm
theorem Ac(names:List Br.Bytes)(a:Br.Bytes):(names.any λn=>a.isPrefixOf n)=iV (names.map aW) (aW a):=by
 unfold iV
 rw[B6]
 congr 1
 funext n
 exact Pu a n
theorem Dk(a:Br.Bytes):∀names:List Br.Bytes,(names.findIdx? λn=>n==a)=if aW a∈names.map aW then some (rV (names.map aW) (aW a)) else none
 |[]=>by simp
 |n::r=>by
  have ih:=Dk a r
  have hx:rV ((n::r).map aW) (aW a)=if aW n=aW a then 0 else rV (r.map aW) (aW a)+1:=by
   unfold rV
   rw[bp,List.findIdx_cons]
   by_cases h:aW n=aW a
   ·rw[c9 h,af h];rfl
   ·rw[jn h,ae h];rfl
  rw[List.findIdx?_cons,ih,hx]
  by_cases h:n=a
  ·subst h
   simp
  ·have h2:¬aW n=aW a:=λz=>h (Mh z)
   have h3:¬aW a=aW n:=λz=>h2 z.symm
   have hb:(n==a)=false:=pi.mpr h
   rw[hb,ae ca,ae h2]
   by_cases h4:aW a∈r.map aW
   ·rw[af h4,af (by rw[bp];exact a7 _ h4)]
    rfl
   ·rw[ae h4,ae (by rw[bp,ao];rintro(z|z);exact h3 z;exact h4 z)]
    rfl
theorem Vx{names:List Br.Bytes}:∀{f p:Nat}{acc:Br.Bytes},
  (((cU (names.map aW) (aW t) f p (aW acc)).1∈names.map aW->Br.known names f acc (At t p)=.ok (rV (names.map aW) (cU (names.map aW) (aW t) f p (aW acc)).1,At t (cU (names.map aW) (aW t) f p (aW acc)).2)\/
   (Br.known names f acc (At t p)=.error (cU (names.map aW) (aW t) f p (aW acc)).2/\t[(cU (names.map aW) (aW t) f p (aW acc)).2]?=none))/\
  ((cU (names.map aW) (aW t) f p (aW acc)).1∉names.map aW->Br.known names f acc (At t p)=.error (cU (names.map aW) (aW t) f p (aW acc)).2)):=by
 intro f
 induction f with
 |zero=>
  intro p acc
  have e:Br.known names 0 acc (At t p)=if aW acc∈names.map aW then .ok (rV (names.map aW) (aW acc),At t p) else .error p:=by
   show (match names.findIdx? λ(n:Br.Bytes)=>n==acc with
    |some i=>(pure i:Br.Rd Nat)
    |Option.none=>Br.stray) (At t p)=_
   rw[Dk]
   by_cases h:aW acc∈names.map aW
   ·rw[af h,af h];rfl
   ·rw[ae h,ae h];rfl
  refine⟨λh=>.inl ?_,λh=>?_⟩
  ·rw[e];exact af h
  ·rw[e];exact ae h
 |succ f ih=>
  intro p acc
  have e:Br.known names (f+1) acc (At t p)=(match t[p]? with
    |some c=>(if (names.any λ(n:Br.Bytes)=>(acc++[c]).isPrefixOf n)=true then Br.known names f (acc++[c]) (At t (p+1)) else (if aW acc∈names.map aW then .ok (rV (names.map aW) (aW acc),At t p) else .error p))
    |Option.none=>.error p):=by
   show (Br.peek>>=λ(o:Option UInt8)=>(match o with
    |some c=>(if (names.any λ(n:Br.Bytes)=>(acc++[c]).isPrefixOf n)=true then (Br.skip>>=λ_=>Br.known names f (acc++[c])) else (match names.findIdx? λ(n:Br.Bytes)=>n==acc with
     |some i=>(pure i:Br.Rd Nat)
     |Option.none=>Br.stray))
    |Option.none=>Br.stray)) (At t p)=_
   rw[bN,kF,cC]
   cases e:t[p]? with
   |none=>rfl
   |some c=>
    show (if (names.any λ(n:Br.Bytes)=>(acc++[c]).isPrefixOf n)=true then (Br.skip>>=λ_=>Br.known names f (acc++[c])) else (match names.findIdx? λ(n:Br.Bytes)=>n==acc with
     |some i=>(pure i:Br.Rd Nat)
     |Option.none=>Br.stray)) (At t p)=if (names.any λ(n:Br.Bytes)=>(acc++[c]).isPrefixOf n)=true then Br.known names f (acc++[c]) (At t (p+1)) else (if aW acc∈names.map aW then .ok (rV (names.map aW) (aW acc),At t p) else .error p)
    by_cases h:(names.any λ(n:Br.Bytes)=>(acc++[c]).isPrefixOf n)=true
    ·rw[af h,af h,bN,pJ]
     rfl
    ·rw[ae h,ae h,Dk]
     by_cases h2:aW acc∈names.map aW
     ·rw[af h2,af h2];rfl
     ·rw[ae h2,ae h2];rfl
  cases ep:t[p]? with
  |none=>
   rw[ep] at e
   have hb:¬iV (names.map aW) (aW acc++[aR (aW t) p])=true:=by
    rw[gB ep]
    unfold iV
    intro z
    obtain⟨m,hm,z⟩:=m9.mp z
    obtain⟨n,_,rfl⟩:=a8.mp hm
    have z:=d7 z
    have:(256:Int)∈aW n:=by
     have:(256:Int)∈(aW n).take (aW acc++[256]).length:=by rw[z];simp
     exact FC this
    unfold aW at this
    obtain⟨c,_,hc⟩:=a8.mp this
    have:=JU c
    omega
   have er:cU (names.map aW) (aW t) (f+1) p (aW acc)=(aW acc,p):=by rw[cU,ae hb]
   rw[er]
   exact⟨λ_=>.inr ⟨e,ep⟩,λ_=>e⟩
  |some c=>
   rw[ep] at e
   have hh:=gD ep
   by_cases h:(names.any λ(n:Br.Bytes)=>(acc++[c]).isPrefixOf n)=true
   ·have e:Br.known names (f+1) acc (At t p)=Br.known names f (acc++[c]) (At t (p+1)):=e.trans (af h)
    have er:cU (names.map aW) (aW t) (f+1) p (aW acc)=cU (names.map aW) (aW t) f (p+1) (aW (acc++[c])):=by
     rw[cU,hh,<-Hd,af (by rw[<-Ac];exact h)]
    rw[e,er]
    exact ih
   ·have e:Br.known names (f+1) acc (At t p)=if aW acc∈names.map aW then .ok (rV (names.map aW) (aW acc),At t p) else .error p:=e.trans (ae h)
    have er:cU (names.map aW) (aW t) (f+1) p (aW acc)=(aW acc,p):=by
     rw[cU,hh,<-Hd,ae (by rw[<-Ac];exact h)]
    rw[er]
    refine⟨λh2=>.inl ?_,λh2=>?_⟩
    ·rw[e];exact af h2
    ·rw[e];exact ae h2
def fR(x:List Nat):Br.Line:=⟨x.getD 0 0,x.getD 1 0,x.getD 2 0,x.getD 3 0,x.getD 4 0,x.getD 5 0⟩
theorem kQ{m:Nat}{ms:List Nat}{F:List Nat×Nat->Except Nat α}:eQ (dD l (m::ms) p) F=eQ (aV l p [32]) λp1=>eQ (jO l p1 0 m) λv=>eQ (dD l ms v.2) λr=>F (v.1::r.1,r.2):=by
 rw[dD]
 cases aV l p [32] with
 |error i=>rfl
 |ok p1=>
  show eQ (eQ (jO l p1 0 m) λv=>gN v.1 (dD l ms v.2)) F=eQ (jO l p1 0 m) _
  cases jO l p1 0 m with
  |error i=>rfl
  |ok v=>
   show eQ (gN v.1 (dD l ms v.2)) F=eQ (dD l ms v.2) _
   cases dD l ms v.2 with
   |error i=>rfl
   |ok r=>rfl
theorem Rq:Br.ascii "put "=[112,117,116,32]:=by decide+kernel
theorem Hm:Br.ascii "build "=[98,117,105,108,100,32]:=by decide+kernel
theorem Yx{c:Br.Catalogue}:Br.line_ c (At t p)=fM t fR (eG ((c.map λ(p:Br.Part)=>p.name).map aW) (aW t) p):=by
 show (Br.bytes_ (Br.ascii "put ")>>=λ_=>Br.known (c.map λ(p:Br.Part)=>p.name) 8 []>>=λq=>Br.numAfter 0 255>>=λk=>Br.numAfter 0 63>>=λx=>Br.numAfter 0 63>>=λy=>Br.numAfter 0 95>>=λz=>Br.numAfter 0 3>>=λr=>Br.byte_ 10>>=λ_=>pure (⟨q,k,x,y,z,r⟩:Br.Line)) (At t p)=_
 unfold eG
 rw[Rq]
 refine lB (rW (cs:=[112,117,116,32])) λp1 _=>?_
 generalize (c.map λ(p:Br.Part)=>p.name)=names
 have rest:∀(i p2:Nat),(Br.numAfter 0 255>>=λk=>Br.numAfter 0 63>>=λx=>Br.numAfter 0 63>>=λy=>Br.numAfter 0 95>>=λz=>Br.numAfter 0 3>>=λr=>Br.byte_ 10>>=λ_=>pure (⟨i,k,x,y,z,r⟩:Br.Line)) (At t p2)=
   fM t fR (eQ (dD (aW t) fT p2) λr=>eQ (aV (aW t) r.2 [10]) λp5=>.ok (i::r.1,p5)):=by
  intro i p2
  unfold fT
  rw[kQ]
  refine dE (lo:=0) (hi:=255) (by decide) (by decide) (by decide) λk=>?_
  rw[kQ]
  refine dE (lo:=0) (hi:=63) (by decide) (by decide) (by decide) λx=>?_
  rw[kQ]
  refine dE (lo:=0) (hi:=63) (by decide) (by decide) (by decide) λy=>?_
  rw[kQ]
  refine dE (lo:=0) (hi:=95) (by decide) (by decide) (by decide) λz=>?_
  rw[kQ]
  refine dE (lo:=0) (hi:=3) (by decide) (by decide) (by decide) λr=>?_
  show _=fM t fR (eQ (aV (aW t) r.2 [10]) _)
  exact lB (pG (c:=10)) λp5 _=>rfl
 obtain⟨k1,k2⟩:=Vx (t:=t) (names:=names) (f:=8) (p:=p1) (acc:=[])
 have e0:aW []=[]:=rfl
 rw[e0] at k1 k2
 unfold tX
 by_cases h:(cU (names.map aW) (aW t) 8 p1 []).1∈names.map aW
 ·rw[af h,cC]
  rcases k1 h with e|⟨e,en⟩
  ·rw[bN,e,cC]
   exact rest _ _
  ·rw[bN,e,Fd]
   have ew:aV (aW t) (cU (names.map aW) (aW t) 8 p1 []).2 [32]=.error (cU (names.map aW) (aW t) 8 p1 []).2:=by
    rw[aV,gB en]
    rfl
   unfold fT
   rw[kQ]
   show _=fM t fR (eQ (aV (aW t) (cU (names.map aW) (aW t) 8 p1 []).2 [32]) _)
   rw[ew]
   rfl
 ·rw[ae h,Fd,bN,k2 h,Fd]
  rfl
theorem Ym{q:List Nat×Nat}(h:eG aj l p=.ok q):q.2<=l.length:=by
 unfold eG at h
 obtain⟨p1,_,h⟩:=aL h
 obtain⟨_,_,h⟩:=aL h
 obtain⟨r,_,h⟩:=aL h
 obtain⟨p5,e5,h⟩:=aL h
 cases h
 show p5<=l.length
 rw[aV] at e5
 split at e5
 ·rename_i di
  have:=gG (l:=l) (p:=r.2) (by rw[di];decide)
  cases e5
  (clear di;omega)
 ·cases e5
theorem Ho{c:Br.Catalogue}:∀{n p:Nat},p<=t.length->Br.toEnd (Br.line_ c) n (At t p)=aA5 t (List.map fR) (cG ((c.map λ(p:Br.Part)=>p.name).map aW) (aW t) n p)
 |0,p,hp=>by
  rw[wG]
  show _=if p=t.length then Except.ok (([]:List (List Nat)).map fR,At t p) else .error p
  by_cases h:p=t.length
  ·rw[af h,ae (by rw[jV];(clear hp;omega))]
   rfl
  ·rw[ae h,af (by rw[jV];omega)]
 |n+1,p,hp=>by
  rw[xK,cG]
  by_cases h:p=t.length
  ·rw[ae (by rw[jV];(clear hp;omega)),af (by rw[fJ];exact h)]
   show _=if p=t.length then Except.ok (([]:List (List Nat)).map fR,At t p) else .error p
   rw[af h]
   rfl
  ·rw[af (by rw[jV];omega),ae (by rw[fJ];exact h),Yx]
   cases e:eG ((c.map λ(p:Br.Part)=>p.name).map aW) (aW t) p with
   |error i=>rfl
   |ok q=>
    have hq:=Ym e
    rw[fJ] at hq
    show eQ (Br.toEnd (Br.line_ c) n (At t q.2)) (λy=>Except.ok (fR q.1::y.1,y.2))=aA5 t (List.map fR) (gN q.1 (cG _ (aW t) n q.2))
    rw[Ho hq]
    cases cG ((c.map λ(p:Br.Part)=>p.name).map aW) (aW t) n q.2 with
    |error i=>rfl
    |ok r=>
     show eQ (if r.2=t.length then (Except.ok (r.1.map fR,At t r.2):Except Nat _) else .error r.2) (λy=>Except.ok (fR q.1::y.1,y.2))=if r.2=t.length then Except.ok ((q.1::r.1).map fR,At t r.2) else .error r.2
     by_cases hr:r.2=t.length
     ·rw[af hr,af hr];rfl
     ·rw[ae hr,ae hr];rfl
theorem Qv{q:Nat}(e:aV l p [10]=.ok q):q<=l.length:=by
 rw[aV] at e
 split at e
 ·rename_i di
  have:=gG (l:=l) (p:=p) (by rw[di];decide)
  cases e
  (clear di;omega)
 ·cases e
theorem Ve(t:Br.Bytes)(c:Br.Catalogue):Br.readB c t=eQ (dJ ((c.map λ(p:Br.Part)=>p.name).map aW) (aW t)) λb=>.ok (⟨b.1.map sO,b.2.map fR⟩:Br.Build):=by
 show (((Br.bytes_ (Br.ascii "build ")>>=λ_=>Br.longName_>>=λn=>Br.byte_ 10>>=λ_=>Br.toEnd (Br.line_ c) 256>>=λl=>pure (⟨n,l⟩:Br.Build)) (At t 0)).map λ(x:Br.Build×(Nat×Br.Bytes))=>x.1)=_
 unfold dJ
 rw[Hm,bN,rW (cs:=[98,117,105,108,100,32])]
 show _=eQ (eQ (aV (aW t) 0 (([98,117,105,108,100,32]:Br.Bytes).map UInt8.toNat)) _) _
 cases aV (aW t) 0 (([98,117,105,108,100,32]:Br.Bytes).map UInt8.toNat) with
 |error i=>rfl
 |ok p1=>
  show (((Br.longName_>>=λn=>Br.byte_ 10>>=λ_=>Br.toEnd (Br.line_ c) 256>>=λl=>pure (⟨n,l⟩:Br.Build)) (At t p1)).map λ(x:Br.Build×(Nat×Br.Bytes))=>x.1)=eQ (eQ (gP (aW t) p1 16) _) _
  rw[bN,Ii]
  cases gP (aW t) p1 16 with
  |error i=>rfl
  |ok nm=>
   show (((Br.byte_ 10>>=λ_=>Br.toEnd (Br.line_ c) 256>>=λl=>pure (⟨nm.1.map sO,l⟩:Br.Build)) (At t nm.2)).map λ(x:Br.Build×(Nat×Br.Bytes))=>x.1)=eQ (eQ (aV (aW t) nm.2 [10]) _) _
   rw[bN,pG (c:=10)]
   show ((eQ (Oe t (aV (aW t) nm.2 [10])) _).map _)=_
   cases e3:aV (aW t) nm.2 [10] with
   |error i=>rfl
   |ok p3=>
    have xm:=Qv e3
    rw[fJ] at xm
    show (((Br.toEnd (Br.line_ c) 256>>=λl=>pure (⟨nm.1.map sO,l⟩:Br.Build)) (At t p3)).map λ(x:Br.Build×(Nat×Br.Bytes))=>x.1)=eQ (eQ (cG ((c.map λ(p:Br.Part)=>p.name).map aW) (aW t) 256 p3) λr=>if r.2=(aW t).length then .ok (nm.1,r.1) else .error r.2) λb=>.ok (⟨b.1.map sO,b.2.map fR⟩:Br.Build)
    rw[bN,Ho xm]
    cases cG ((c.map λ(p:Br.Part)=>p.name).map aW) (aW t) 256 p3 with
    |error i=>rfl
    |ok r=>
     show ((eQ (if r.2=t.length then (Except.ok (r.1.map fR,At t r.2):Except Nat _) else .error r.2) λy=>Except.ok ((⟨nm.1.map sO,y.1⟩:Br.Build),y.2)).map λ(x:Br.Build×(Nat×Br.Bytes))=>x.1)=eQ (if r.2=(aW t).length then .ok (nm.1,r.1) else .error r.2) λb=>.ok (⟨b.1.map sO,b.2.map fR⟩:Br.Build)
     rw[fJ]
     by_cases hr:r.2=t.length
     ·rw[af hr,af hr];rfl
     ·rw[ae hr,ae hr];rfl
theorem zB{hi:Int}:∀{n p:Nat}{v:Int},v<=hi->(dG l hi n p v).1<=hi
 |0,p,v,h=>h
 |n+1,p,v,h=>by
  rw[dG]
  split
  ·rename_i q
   exact zB q.2.2
  ·exact h
theorem yK{l:List Int}{hi:Int}:∀{n p:Nat}{v:Int},0<=v->v<=(dG l hi n p v).1
 |0,p,v,h=>JV _
 |n+1,p,v,h=>by
  rw[dG]
  split
  ·rename_i q
   have:=jB q.2.1
   have:=yK (l:=l) (hi:=hi) (n:=n) (p:=p+1) (v:=v * 10+aR l p - 48) (by (clear q;omega))
   (clear q;omega)
  ·exact JV _
theorem mB{lo:Nat}{v:Nat×Nat}(h:jO l p lo hi=.ok v):lo<=v.1/\v.1<=hi:=by
 unfold jO at h
 split at h
 ·rename_i ok
  cases h
  obtain⟨h1,h2,h3⟩:=ok
  have a:=zB (l:=l) (hi:=hi) (n:=l.length - (p+1)) (p:=p+1) h3
  have b:=yK (l:=l) (hi:=hi) (n:=l.length - (p+1)) (p:=p+1) (v:=aR l p - 48) (by (clear a h3;omega))
  show lo<=(eO l p hi).1.toNat/\(eO l p hi).1.toNat<=hi
  unfold eO
  (clear h3;omega)
 ·cases h
theorem Hr:∀{n p:Nat}{r:List Int×Nat},bZ l n p=.ok r->∀s∈r.1,s∈cV
 |0,p,r,h=>by cases h;intro s hs;cases hs
 |n+1,p,r,h=>by
  rw[bZ] at h
  split at h
  ·rename_i a6
   obtain⟨q,e,rfl⟩:=fG h
   intro s hs
   rcases ao.mp hs with rfl|hs
   ·exact a6
   ·exact Hr e s hs
  ·cases h
theorem aAj{w:Nat}{r:List Int×Nat}(h:fO l w p=.ok r):r.1.length=w/\∀s∈r.1,s∈cV:=by
 unfold fO at h
 split at h
 ·rename_i q e
  split at h
  ·cases h
   exact⟨zZ (r:=q) e,λs hs=>Hr (r:=q) e s hs⟩
  ·cases h
 ·cases h
theorem Iz{w:Nat}:∀{n p:Nat} {r:List (List Int)×Nat},bX l w n p=.ok r->r.1.length=n/\∀x∈r.1,x.length=w/\∀s∈x,s∈cV
 |0,p,r,h=>by cases h;exact⟨rfl,λx hx=>by cases hx⟩
 |n+1,p,r,h=>by
  rw[bX] at h
  cases e:fO l w p with
  |error i=>rw[e] at h;cases h
  |ok q=>
   rw[e] at h
   obtain⟨q',e2,rfl⟩:=fG h
   obtain⟨h1,h2⟩:=Iz e2
   refine⟨by rw[bh,h1],λx hx=>?_⟩
   rcases ao.mp hx with rfl|hx
   ·exact aAj e
   ·exact h2 x hx
theorem qI:∀{n p:Nat}{x:Int},x∈bJ l p n->hX x=true
 |0,p,x,h=>by simp[bJ] at h
 |n+1,p,x,h=>by
  rw[bJ] at h
  split at h
  ·rename_i ha
   rcases ao.mp h with rfl|h
   ·exact ha
   ·exact qI h
  ·cases h
structure dI(pr:aM):Prop where
 w1:1<=pr.w
 w2:pr.w<=16
 d1:1<=pr.d
 d2:pr.d<=16
 h1:1<=pr.h
 h2:pr.h<=18
 rl:pr.rows.length=pr.d * pr.h
 rw:∀x∈pr.rows,x.length=pr.w
 sg:∀x∈pr.rows,∀s∈x,s∈cV
 nm:∀x∈pr.name,hX x=true
theorem Oq{q:aM×Nat}(h:dX l p=.ok q):dI q.1:=by
 unfold dX at h
 obtain⟨p1,_,h⟩:=aL h
 obtain⟨nm,en,h⟩:=aL h
 obtain⟨_,_,h⟩:=aL h
 obtain⟨w,ew,h⟩:=aL h
 obtain⟨_,_,h⟩:=aL h
 obtain⟨d,ed,h⟩:=aL h
 obtain⟨_,_,h⟩:=aL h
 obtain⟨hh,eh,h⟩:=aL h
 obtain⟨_,_,h⟩:=aL h
 obtain⟨g,_,h⟩:=aL h
 obtain⟨_,_,h⟩:=aL h
 obtain⟨rs,er,h⟩:=aL h
 cases h
 obtain⟨a1,a2⟩:=mB (lo:=1) (hi:=16) ew
 obtain⟨b1,b2⟩:=mB (lo:=1) (hi:=16) ed
 obtain⟨c1,c2⟩:=mB (lo:=1) (hi:=18) eh
 obtain⟨r1,r2⟩:=Iz er
 refine⟨a1,a2,b1,b2,c1,c2,r1,λx hx=>(r2 x hx).1,λx hx=>(r2 x hx).2,?_⟩
 unfold gP at en
 split at en
 ·cases en
  exact λx hx=>qI hx
 ·cases en
theorem Hi:∀{n p:Nat}{q:List aM×Nat},cW l n p=.ok q->∀pr∈q.1,dI pr
 |0,p,q,h=>by cases h;intro pr hp;cases hp
 |n+1,p,q,h=>by
  rw[cW] at h
  split at h
  ·cases h;intro pr hp;cases hp
  ·obtain⟨q1,e1,h⟩:=aL h
   obtain⟨q2,e2,rfl⟩:=fG h
   intro pr hp
   rcases ao.mp hp with rfl|hp
   ·exact Oq e1
   ·exact Hi e2 pr hp
theorem Ui(h:iF l=.ok aa):∀pr∈aa,dI pr:=by
 unfold iF at h
 obtain⟨q,e1,h⟩:=aL h
 obtain⟨r,e2,h⟩:=aL h
 split at h
 ·cases h
  intro pr hp
  rcases ao.mp hp with rfl|hp
  ·exact Oq e1
  ·exact Hi e2 pr hp
 ·cases h
theorem Vm:∀l:List Int,(∀x∈l,hX x=true)->aW (l.map sO)=l:=by
 intro l
 induction l with
 |nil=>intro _;rfl
 |cons x r ih=>
  intro hx
  have h1:=hx x bf
  have h2:0<=x/\x<256:=by
   unfold hX kM kG at h1
   rw[ye,cq,cq,ck,ck,ck,ck] at h1
   omega
  have h3:((sO x).toNat:Int)=x:=by
   unfold sO
   rw[JW]
   omega
  show ((sO x).toNat:Int)::aW (r.map sO)=x::r
  rw[h3,ih λy hy=>hx y (a7 _ hy)]
theorem pM(h:dI pr):aW (pr.name.map sO)=pr.name:=Vm _ h.nm
theorem Ba:∀a b:Br.Bytes,Br.before a b= !HT.gO (aW b) (aW a)
 |[],[]=>rfl
 |[],_::_=>rfl
 |_::_,[]=>rfl
 |x::a,y::b=>by
  have ih:=Ba a b
  show (decide (x.toNat<y.toNat)||(x==y && Br.before a b))= !(if (y.toNat:Int)=(x.toNat:Int) then HT.gO (aW b) (aW a) else decide ((y.toNat:Int)<=(x.toNat:Int)))
  by_cases h:x=y
  ·subst h
   rw[af rfl,ih]
   simp
  ·have h2:¬x.toNat=y.toNat:=λz=>h (UInt8.toNat_inj.mp z)
   have hb:(x==y)=false:=pi.mpr h
   rw[ae (by (clear h;omega)),hb,ly,Bool.or_false,io,cx,ck,l9]
   (clear h2 h;omega)
def iJ(p:Br.Part):Bool:=p.studsOk && (p.tubesOk && (p.tight && p.whole))
def Xi:Option Br.Bytes->Br.Part->Bool
 |some n,p=>Br.before n p.name
 |none,_=>true
def lW:Option Br.Bytes->List Br.Part->Bool
 |_,[]=>true
 |last,p::r=>Xi last p && lW (some p.name) r
theorem uO(last:Option Br.Bytes)(p:Br.Part)(r:List Br.Part):lW last (p::r)=(Xi last p && lW (some p.name) r):=by cases last<;>rfl
theorem Mb{p:Br.Part}{last:Option Br.Bytes}:(p.wrong last).isSome= !(iJ p && Xi last p):=by
 unfold Br.Part.wrong iJ
 cases p.studsOk<;>cases p.tubesOk<;>cases p.tight<;>cases p.whole<;>try rfl
 cases last with
 |none=>rfl
 |some n=>
  show (if Br.before n p.name=true then Option.none else some 5).isSome= !(true && (true && (true && true)) && Br.before n p.name)
  cases Br.before n p.name<;>rfl
theorem qH:∀{l:List Br.Part}{i:Nat}{last:Option Br.Bytes},(Br.wrongFrom i last l).isSome= !(l.all iJ && lW last l)
 |[],i,last=>rfl
 |p::r,i,last=>by
  have ih:=qH (l:=r) (i:=i+1) (last:=some p.name)
  have hp:=Mb (p:=p) (last:=last)
  rw[Br.wrongFrom]
  cases e:p.wrong last with
  |some k=>
   rw[e] at hp
   show true=_
   rw[t9,uO]
   have hp:true= !(iJ p && Xi last p):=hp
   cases hg:iJ p
   ·rfl
   ·rw[hg,i9] at hp
    have h2:Xi last p=false:=by
     cases z:Xi last p
     ·rfl
     ·rw[z] at hp;cases hp
    rw[h2,ly,vp]
    rfl
  |none=>
   rw[e] at hp
   show (Br.wrongFrom (i+1) (some p.name) r).isSome=_
   rw[ih,t9,uO]
   have hp:false= !(iJ p && Xi last p):=hp
   have h3:(iJ p && Xi last p)=true:=by
    cases z:(iJ p && Xi last p)
    ·rw[z] at hp;cases hp
    ·rfl
   rw[cq] at h3
   rw[h3.1,h3.2,i9,i9]
theorem qN:∀{aa:List aM}{last:Option aM},(∀pr∈aa,dI pr)->(∀q,last=some q->dI q)->lW (last.map λq=>q.name.map sO) (aa.map cA)=jX ((last.toList++aa).map (·.name))
 |[],none,_,_=>rfl
 |[],some q,_,_=>rfl
 |pr::r,none,h,_=>by
  show (true && lW (some (pr.name.map sO)) (r.map cA))=_
  rw[i9]
  exact qN (last:=some pr) (λx hx=>h x (a7 _ hx)) λq hq=>by cases hq;exact h _ bf
 |pr::r,some q,h,hq=>by
  have ih:=qN (aa:=r) (last:=some pr) (λx hx=>h x (a7 _ hx)) λq hq=>by cases hq;exact h _ bf
  show (Br.before (q.name.map sO) (pr.name.map sO) && lW (some (pr.name.map sO)) (r.map cA))=jX (q.name::pr.name::r.map (·.name))
  rw[Ba,pM (h _ bf),pM (hq q rfl),jX]
  have ih:lW (some (pr.name.map sO)) (r.map cA)=jX (pr.name::r.map (·.name)):=ih
  rw[ih]
theorem Rz(h:∀pr∈aa,dI pr)(hg:∀pr∈aa,iJ (cA pr)=gY pr):(Br.wrong (aa.map cA)).isSome= !oB aa:=by
 unfold Br.wrong oB
 rw[qH]
 have e1:(aa.map cA).all iJ=aa.all gY:=by
  rw[EL]
  have key:∀l:List aM,(∀pr∈l,iJ (cA pr)=gY pr)->l.all (iJ∘cA)=l.all gY:=by
   intro l
   induction l with
   |nil=>intro _;rfl
   |cons a r ih=>
    intro hx
    rw[t9,t9,ih λy hy=>hx y (a7 _ hy)]
    show (iJ (cA a) && _)=_
    rw[hx a bf]
  exact key aa hg
 have e2:=qN (aa:=aa) (last:=none) h (λq hq=>by cases hq)
 rw[e1]
 have e2:lW none (aa.map cA)=jX (aa.map (·.name)):=e2
 rw[e2]
abbrev kZ:=Nat×Nat×Nat
def cT(s:kZ):Pl:=((s.1:Int),(s.2.1:Int),(s.2.2:Int))
theorem gS{a b:kZ}(h:cT a=cT b):a=b:=by
 obtain⟨x,y,z⟩:=a
 obtain⟨u,v,w⟩:=b
 unfold cT at h
 simp only[Prod.mk.injEq] at h ⊢
 omega
def fP(w d i:Nat):kZ:=(i % w,i / w % d,i / w / d)
theorem mG{w d x y:Nat}(h:fP w d i=(x,y,z)):i=(z * d+y) * w+x:=by
 unfold fP at h
 simp only[Prod.mk.injEq] at h
 obtain⟨rfl,rfl,rfl⟩:=h
 have h1:=CN (i / w) d
 have h2:=CN i w
 rw[m7 (i / w / d) d,h1,m7 (i / w) w,h2]
theorem Lv{w d x y:Nat}(hx:x<w)(hy:y<d):fP w d ((z * d+y) * w+x)=(x,y,z):=by
 have hw:0<w:=by (clear hy;omega)
 have hd:0<d:=by (clear hw hx;omega)
 have e1:((z * d+y) * w+x) / w=z * d+y:=by
  rw[m8,yh _ _ hw,yi hx,ou]
 have e2:((z * d+y) * w+x) % w=x:=by rw[m8,yg,uc hx]
 unfold fP
 rw[e1,e2,m8 (z * d),yh _ _ hd,yi hy,ou,yg,uc hy]
theorem mD{f:Nat->List α}{m:Nat}(hf:∀z,(f z).length=m):∀n,((List.range n).flatMap f).length=n * m
 |0=>by simp
 |n+1=>by
  rw[OU,CV,b6,mD hf n,JX,hf,ot]
theorem yJ{f:Nat->List α}{m:Nat}(hm:0<m)(hf:∀z,(f z).length=m):∀n i,i<n * m->((List.range n).flatMap f)[i]?=(f (i / m))[i % m]?
 |0,i,h=>by (clear hm;omega)
 |n+1,i,h=>by
  rw[OU,CV,JX]
  by_cases hi:i<n * m
  ·rw[JF (by rw[mD hf];exact hi)]
   exact yJ hm hf n i hi
  ·rw[JE (by rw[mD hf];(clear h hm;omega)),mD hf]
   rw[ot] at h
   have e:i=(i - n * m)+n * m:=by (clear h hm;omega)
   have hl:i - n * m<m:=by (clear e hi;omega)
   have e1:i / m=n:=by
    rw[e,yh _ _ hm,yi hl,ou]
   have e2:i % m=i - n * m:=by
    conv=>lhs;rw[e]
    rw[yg,uc hl]
   rw[e1,e2]
theorem rZ{p:Br.Part}(hw:0<p.wide)(hd:0<p.deep):p.spots=(List.range (p.high * (p.deep * p.wide))).map (fP p.wide p.deep):=by
 have l1:∀y z:Nat,((List.range p.wide).map λ(x:Nat)=>(x,y,z)).length=p.wide:=by simp
 have l2:∀z:Nat,((List.range p.deep).flatMap λ(y:Nat)=>(List.range p.wide).map λ(x:Nat)=>(x,y,z)).length=p.deep * p.wide:=λz=>mD (λy=>l1 y z) _
 apply FE
 intro i
 unfold Br.Part.spots
 by_cases hi:i<p.high * (p.deep * p.wide)
 ·rw[yJ (CW hd hw) l2 _ _ hi,a9,AO hi]
  have am:i % (p.deep * p.wide)<p.deep * p.wide:=oy _ (CW hd hw)
  rw[yJ hw (λy=>l1 y _) _ _ am,a9,AO (oy _ hw)]
  show some _=some _
  unfold fP
  rw[Nat.mod_mul_left_mod,Nat.mod_mul_left_div_self,m7 p.deep p.wide,FF]
 ·rw[k9,k9]
  ·rw[ai,AQ];(clear hd hw;omega)
  ·rw[mD l2];(clear hd hw;omega)
def kept(q:Nat×Int):Bool:= !decide (q.2=46)
def mO(w d:Nat)(q:Nat×Int):Pl×Int:=(cT (fP w d q.1),q.2)
theorem Jb{w d j:Nat}:∀(r:List Int)(x:Nat),x+r.length<=w->yI (j % d) (j / d) x r=(((List.range' (j * w+x) r.length).zip r).filter kept).map (mO w d)
 |[],x,_=>by simp[yI]
 |s::r,x,h=>by
  rw[bh] at h
  have ih:=Jb (w:=w) (d:=d) (j:=j) r (x+1) (by omega)
  have hw:0<w:=by omega
  rw[yI,ih,bh,JY,ym,show j * w+x+1=j * w+(x+1) by (clear hw h;omega)]
  have e1:(j * w+x) / w=j:=by
   rw[m8,yh _ _ hw,yi (by (clear hw;omega)),ou]
  have e2:(j * w+x) % w=x:=by rw[m8,yg,uc (by (clear e1 hw;omega))]
  by_cases hs:s=46
  ·rw[af hs,E8 (by simp[kept,hs]),List.nil_append]
  ·rw[ae hs,E9 (by simp[kept,hs]),bp]
   show _::_=_
   unfold mO cT fP
   simp only[e1,e2]
   rfl
theorem Bs{w d:Nat}:∀(rs:List (List Int)) (j:Nat),(∀x∈rs,x.length=w)->qB d j rs=(((List.range' (j * w) rs.flatten.length).zip rs.flatten).filter kept).map (mO w d)
 |[],j,_=>by simp[qB]
 |r::rs,j,h=>by
  have ih:=Bs (w:=w) (d:=d) rs (j+1) λx hx=>h x (a7 _ hx)
  have hr:=h r bf
  have e:=Jb (w:=w) (d:=d) (j:=j) r 0 (by omega)
  rw[qB,ih,e,OV,b6,<-List.range'_append_1,List.zip_append (by rw[List.length_range']),List.filter_append,b7,hr,Nat.add_zero,ot]
theorem Ja{w:Nat}:∀{rs:List (List Int)},(∀x∈rs,x.length=w)->rs.flatten.length=rs.length * w
 |[],_=>by simp
 |r::rs,h=>by
  rw[OV,b6,Ja λx hx=>h x (a7 _ hx),h r bf,bh,ot,m8]
def zP(pr:aM):List (Nat×Int):=(List.range (pr.h * (pr.d * pr.w))).zip pr.rows.flatten
theorem Gh(ok:dI pr):pr.rows.flatten.length=pr.h * (pr.d * pr.w):=by
 rw[Ja ok.rw,ok.rl,m7 pr.d,FD]
theorem Ci(ok:dI pr):uF pr=((zP pr).filter kept).map (mO pr.w pr.d):=by
 unfold uF zP
 rw[Bs pr.rows 0 ok.rw,Gh ok,Nat.zero_mul,<-List.range_eq_range']
theorem oC(s:Int):(pO s).isCell= !decide (s=46):=by
 unfold pO
 by_cases h:s=46
 ·simp[h,Br.Place.isCell]
 ·rw[ae h]
  simp only[h,JS,Bool.not_false]
  split
  ·rfl
  ·split
   ·rfl
   ·split<;>rfl
theorem yE{s:Int}(h:s∈cV):(pO s).stud=fL s:=by
 simp only[cV,ao,dk,i'] at h
 rcases h with rfl|rfl|rfl|rfl|rfl<;>decide
theorem xE{s:Int}(h:s∈cV):(pO s).tube=dY s:=by
 simp only[cV,ao,dk,i'] at h
 rcases h with rfl|rfl|rfl|rfl|rfl<;>decide
theorem gW(pr:aM):(cA pr).places=pr.rows.flatten.map pO:=by
 show (pr.rows.map (List.map pO)).flatten=_
 rw[List.map_flatten]
theorem Ff(ok:dI pr)(f:Br.Place->Bool):(cA pr).such f=((zP pr).filter λq=>f (pO q.2)).map λq=>fP pr.w pr.d q.1:=by
 unfold Br.Part.such
 rw[rZ (p:=cA pr) ok.w1 ok.d1,gW]
 show List.map _ (List.filter _ (((List.range (pr.h * (pr.d * pr.w))).map (fP pr.w pr.d)).zip _))=_
 rw[List.zip_map,List.filter_map,dh]
 rfl
theorem rP(ok:dI pr):(cA pr).cells=((zP pr).filter kept).map λq=>fP pr.w pr.d q.1:=by
 unfold Br.Part.cells
 rw[Ff ok]
 congr 2
 funext q
 exact oC q.2
theorem pA(ok:dI pr):(uF pr).map (·.1)=(cA pr).cells.map cT:=by
 rw[Ci ok,rP ok,dh,dh]
 rfl
theorem tU(ok:dI pr){q:Nat×Int}(h:q∈zP pr):q.2∈cV:=by
 have h2:=(B4 h).2
 obtain⟨r,hr,hs⟩:=List.mem_flatten.mp h2
 exact ok.sg r hr _ hs
theorem vR(ok:dI pr)(s:kZ):(aZ (uF pr) (cT s)).isSome=true↔s∈(cA pr).cells:=by
 rw[dR]
 constructor
 ·rintro⟨c,hc,e⟩
  have:cT s∈(uF pr).map (·.1):=a8.mpr ⟨c,hc,e⟩
  rw[pA ok] at this
  obtain⟨t,ht,e2⟩:=a8.mp this
  rw[<-gS e2];exact ht
 ·intro h
  have:cT s∈(uF pr).map (·.1):=by rw[pA ok];exact qe h
  obtain⟨c,hc,e⟩:=a8.mp this
  exact⟨c,hc,e⟩
theorem Nn(ok:dI pr){s:Int}:(i,s)∈zP pr↔pr.rows.flatten[i]?=some s:=by
 unfold zP
 rw[ox]
 constructor
 ·rintro⟨k,e⟩
  rw[FG] at e
  obtain⟨e1,e2⟩:=e
  obtain⟨hk,e3⟩:=bq.mp e1
  rw[List.getElem_range] at e3
  subst e3
  exact e2
 ·intro e
  refine⟨i,?_⟩
  rw[FG]
  refine⟨AO ?_,e⟩
  rw[<-Gh ok]
  exact(bq.mp e).1
theorem qQ(ok:dI pr)(x y z:Nat):((cA pr).at_ x y z).isCell=true↔(x,y,z)∈(cA pr).cells:=by
 rw[rP ok]
 unfold Br.Part.at_
 show ((if x<pr.w/\y<pr.d/\z<pr.h then (cA pr).places.getD ((z * pr.d+y) * pr.w+x) .none else .none:Br.Place)).isCell=true↔_
 have hN:∀i,i<pr.h * (pr.d * pr.w)->i % pr.w<pr.w/\i / pr.w % pr.d<pr.d/\i / pr.w / pr.d<pr.h:=λi hi=>by
  refine⟨oy _ ok.w1,oy _ ok.d1,?_⟩
  rw[FF]
  apply OW
  rw[m7,m7 pr.w]
  exact hi
 constructor
 ·intro h
  split at h
  ·rename_i hr
   rw[gW,b8,a9] at h
   cases e:pr.rows.flatten[(z * pr.d+y) * pr.w+x]? with
   |none=>rw[e] at h;cases h
   |some s=>
    rw[e] at h
    have h:(pO s).isCell=true:=h
    rw[oC] at h
    refine a8.mpr ⟨(_,s),jo.mpr ⟨(Nn ok).mpr e,h⟩,?_⟩
    exact Lv hr.1 hr.2.1
  ·cases h
 ·intro h
  obtain⟨⟨i,s⟩,hm,e⟩:=a8.mp h
  obtain⟨hz,hk⟩:=jo.mp hm
  have hz:=(Nn ok).mp hz
  have hi:i<pr.h * (pr.d * pr.w):=by rw[<-Gh ok];exact(bq.mp hz).1
  have e:fP pr.w pr.d i=(x,y,z):=e
  have e2:=mG e
  have h3:=hN i hi
  unfold fP at e
  simp only[Prod.mk.injEq] at e
  rw[af (by (clear e2 hi;omega)),gW,b8,a9,<-e2,hz]
  show (pO s).isCell=true
  rw[oC]
  exact hk
theorem Ly(ok:dI pr):(cA pr).studsOk=nA (uF pr):=by
 rw[io]
 unfold Br.Part.studsOk nA Br.Part.studs
 rw[Ff ok,j8,j8]
 constructor
 ·intro h c hc
  rw[Ci ok] at hc
  obtain⟨q,hq,rfl⟩:=a8.mp hc
  obtain⟨hz,hk⟩:=jo.mp hq
  cases hs:fL (mO pr.w pr.d q).2 with
  |false=>rfl
  |true=>
   have h2:=h (fP pr.w pr.d q.1) (a8.mpr ⟨q,jo.mpr ⟨hz,by rw[yE (tU ok hz)];exact hs⟩,rfl⟩)
   rw[i9,cx,<-rn]
   intro g
   have g2:(aZ (uF pr) (cT ((fP pr.w pr.d q.1).1,(fP pr.w pr.d q.1).2.1,(fP pr.w pr.d q.1).2.2+1))).isSome=true:=g
   rw[vR ok,<-qQ ok] at g2
   rw[g2] at h2
   cases h2
 ·intro h s hs
  obtain⟨q,hq,rfl⟩:=a8.mp hs
  obtain⟨hz,hk⟩:=jo.mp hq
  rw[yE (tU ok hz)] at hk
  have BI:kept q=true:=by
   unfold kept
   cases e:decide (q.2=46) with
   |false=>rfl
   |true=>rw[ck.mp e] at hk;cases hk
  have h2:=h (mO pr.w pr.d q) (by rw[Ci ok];exact a8.mpr ⟨q,jo.mpr ⟨hz,BI⟩,rfl⟩)
  rw[show fL (mO pr.w pr.d q).2=true from hk,i9,cx,<-rn] at h2
  rw[cx,<-rn]
  intro g
  rw[qQ ok,<-vR ok] at g
  exact h2 g
theorem Lk(ok:dI pr):(cA pr).tubesOk=nZ (uF pr):=by
 rw[io]
 unfold Br.Part.tubesOk nZ Br.Part.tubes
 rw[Ff ok,j8,j8]
 constructor
 ·intro h c hc
  have WV:=hc
  rw[Ci ok] at hc
  obtain⟨q,hq,rfl⟩:=a8.mp hc
  obtain⟨hz,hk⟩:=jo.mp hq
  cases hs:dY (mO pr.w pr.d q).2 with
  |false=>rfl
  |true=>
   have h2:=h (fP pr.w pr.d q.1) (a8.mpr ⟨q,jo.mpr ⟨hz,by rw[xE (tU ok hz)];exact hs⟩,rfl⟩)
   rw[i9,cx,<-rn]
   intro g
   by_cases h0:(fP pr.w pr.d q.1).2.2=0
   ·obtain⟨c,hc,e⟩:=dR.mp g
    have hm:c.1∈(uF pr).map (·.1):=qe hc
    rw[pA ok,e] at hm
    obtain⟨t,ht,e2⟩:=a8.mp hm
    have e3:((t.2.2:Nat):Int)=((fP pr.w pr.d q.1).2.2:Int) - 1:=congrArg (λp:Pl=>p.2.2) e2
    omega
   ·have g2:(aZ (uF pr) (cT ((fP pr.w pr.d q.1).1,(fP pr.w pr.d q.1).2.1,(fP pr.w pr.d q.1).2.2 - 1))).isSome=true:=by
     have e:cT ((fP pr.w pr.d q.1).1,(fP pr.w pr.d q.1).2.1,(fP pr.w pr.d q.1).2.2 - 1)=qC (mO pr.w pr.d q).1:=by
      refine d6 rfl (d6 rfl ?_)
      show (((fP pr.w pr.d q.1).2.2 - 1:Nat):Int)=((fP pr.w pr.d q.1).2.2:Int) - 1
      omega
     rw[e];exact g
    rw[vR ok,<-qQ ok] at g2
    rw[g2,Bool.not_true,Bool.or_false,cz] at h2
    exact h0 h2
 ·intro h s hs
  obtain⟨q,hq,rfl⟩:=a8.mp hs
  obtain⟨hz,hk⟩:=jo.mp hq
  rw[xE (tU ok hz)] at hk
  have BI:kept q=true:=by
   unfold kept
   cases e:decide (q.2=46) with
   |false=>rfl
   |true=>rw[ck.mp e] at hk;cases hk
  have h2:=h (mO pr.w pr.d q) (by rw[Ci ok];exact a8.mpr ⟨q,jo.mpr ⟨hz,BI⟩,rfl⟩)
  rw[show dY (mO pr.w pr.d q).2=true from hk,i9,cx,<-rn] at h2
  by_cases h0:(fP pr.w pr.d q.1).2.2=0
  ·rw[h0];rfl
  ·rw[ye]
   right
   rw[cx,<-rn]
   intro g
   rw[qQ ok,<-vR ok] at g
   have e:cT ((fP pr.w pr.d q.1).1,(fP pr.w pr.d q.1).2.1,(fP pr.w pr.d q.1).2.2 - 1)=qC (mO pr.w pr.d q).1:=by
    refine d6 rfl (d6 rfl ?_)
    show (((fP pr.w pr.d q.1).2.2 - 1:Nat):Int)=((fP pr.w pr.d q.1).2.2:Int) - 1
    (clear h2;omega)
   rw[e] at g
   exact h2 g
theorem iZ(ok:dI pr)(a:Nat)(n:Int)(f:kZ->Bool)(hf:∀s,f s=true↔coP (cT s) a=n):(cA pr).cells.any f=decide (n∈fZ (uF pr) a):=by
 rw[io,m9,ck]
 have e:fZ (uF pr) a=(cA pr).cells.map λs=>coP (cT s) a:=by
  have:fZ (uF pr) a=((uF pr).map (·.1)).map λp=>coP p a:=by unfold fZ;rw[dh];rfl
  rw[this,pA ok,dh]
  rfl
 rw[e,a8]
 exact⟨λ⟨s,h1,h2⟩=>⟨s,h1,(hf s).mp h2⟩,λ⟨s,h1,h2⟩=>⟨s,h1,(hf s).mpr h2⟩⟩
theorem Kv(ok:dI pr):(cA pr).tight=mY (uF pr) pr.w pr.d pr.h:=by
 have hw:=ok.w1
 have hd:=ok.d1
 have hh:=ok.h1
 show ((cA pr).cells.any (λ(s:kZ)=>s.1==0) && ((cA pr).cells.any (λ(s:kZ)=>s.1+1==pr.w) && ((cA pr).cells.any (λ(s:kZ)=>s.2.1==0) && ((cA pr).cells.any (λ(s:kZ)=>s.2.1+1==pr.d) && ((cA pr).cells.any (λ(s:kZ)=>s.2.2==0) && (cA pr).cells.any λ(s:kZ)=>s.2.2+1==pr.h)))))=_
 rw[iZ ok 0 0 _ (λs=>by rw[cz];show s.1=0↔(s.1:Int)=0;(clear hh hd hw;omega)),
  iZ ok 0 (pr.w - 1) _ (λs=>by rw[cz];show s.1+1=pr.w↔(s.1:Int)=pr.w - 1;(clear hh hd hw;omega)),
  iZ ok 1 0 _ (λs=>by rw[cz];show s.2.1=0↔(s.2.1:Int)=0;(clear hh hd hw;omega)),
  iZ ok 1 (pr.d - 1) _ (λs=>by rw[cz];show s.2.1+1=pr.d↔(s.2.1:Int)=pr.d - 1;(clear hh hd hw;omega)),
  iZ ok 2 0 _ (λs=>by rw[cz];show s.2.2=0↔(s.2.2:Int)=0;(clear hh hd hw;omega)),
  iZ ok 2 (pr.h - 1) _ (λs=>by rw[cz];show s.2.2+1=pr.h↔(s.2.2:Int)=pr.h - 1;(clear hh hd hw;omega))]
 unfold mY fQ
 simp only[Bool.and_assoc]
inductive mV{α:Type}(E:α->α->Prop)(l rest:List α):α->Prop
 |base {a:α}:a∈l->mV E l rest a
 |step {p q:α}:mV E l rest p->E p q->q∈rest->mV E l rest q
def Sh(p q:kZ):Prop:=Br.beside q p=true
theorem Ux{l rest:List kZ}{q:kZ}:q∈(rest.partition λ(c:kZ)=>l.any (Br.beside c)).1↔q∈rest/\∃i∈l,Sh i q:=by
 rw[JZ,jo,m9]
 rfl
theorem aAm{l rest:List kZ}{q:kZ}:q∈(rest.partition λ(c:kZ)=>l.any (Br.beside c)).2↔q∈rest/\¬∃i∈l,Sh i q:=by
 rw[JZ,jo]
 show _/\(!(l.any (Br.beside q)))=true↔_
 rw[cx,<-rn,m9]
 rfl
theorem qV(f:α->Bool):∀l:List α,(l.filter f).length+(l.filter (not∘f)).length=l.length
 |[]=>rfl
 |a::r=>by
  have ih:=qV f r
  cases h:f a with
  |true=>rw[E9 h,E8 (by simp[h]),bh,bh];omega
  |false=>rw[E8 (by simp[h]),E9 (by simp[h]),bh,bh];omega
theorem Cj:∀{n:Nat}{l rest:List kZ},rest.length<=n->(∀x∈l,x∉rest)->(Br.apartFrom n l rest=[]↔∀s∈rest,mV Sh l rest s)
 |0,l,rest,hn,_=>by
  have:rest=[]:=yn (by omega)
  subst this
  exact Iff.intro (λ_ s hs=>absurd hs dk) (λ_=>rfl)
 |n+1,l,rest,hn,dj=>by
  have nm:= @Ux l rest
  have fm:= @aAm l rest
  have ln:(rest.partition λ(c:kZ)=>l.any (Br.beside c)).1.length+(rest.partition λ(c:kZ)=>l.any (Br.beside c)).2.length=rest.length:=by
   rw[JZ]
   exact qV _ _
  show (if (rest.partition λ(c:kZ)=>l.any (Br.beside c)).1=[] then rest else Br.apartFrom n (rest.partition λ(c:kZ)=>l.any (Br.beside c)).1 (rest.partition λ(c:kZ)=>l.any (Br.beside c)).2)=[]↔_
  generalize rest.partition (λ(c:kZ)=>l.any (Br.beside c))=pt at nm fm ln
  by_cases h:pt.1=[]
  ·rw[af h]
   constructor
   ·rintro rfl s hs
    cases hs
   ·intro hs
    have key:∀s,mV Sh l rest s->s∈l:=by
     intro s hf
     induction hf with
     |base ha=>exact ha
     |step _ e hq ih=>
      have:=nm.mpr ⟨hq,_,ih,e⟩
      rw[h] at this
      cases this
    cases rest with
    |nil=>rfl
    |cons a r=>exact absurd bf (dj a (key a (hs a bf)))
  ·rw[ae h]
   have hl:0<pt.1.length:=by
    cases e:pt.1 with
    |nil=>exact absurd e h
    |cons a r=>simp
   rw[Cj (n:=n) (by (clear h;omega)) λx hx hy=>(fm.mp hy).2 (nm.mp hx).2]
   constructor
   ·intro hs s hr
    by_cases hx:∃i∈l,Sh i s
    ·obtain⟨i,hi,e⟩:=hx
     exact .step (.base hi) e hr
    ·have hf:=hs s (fm.mpr ⟨hr,hx⟩)
     clear hr hx
     induction hf with
     |base ha=>
      obtain⟨h1,i,hi,e⟩:=nm.mp ha
      exact .step (.base hi) e h1
     |step _ e hq ih=>exact .step ih e (fm.mp hq).1
   ·intro hs s hf
    have MI:=fm.mp hf
    have key:∀s,mV Sh l rest s->s∈l\/mV Sh pt.1 pt.2 s:=by
     intro s hf
     induction hf with
     |base ha=>exact .inl ha
     | @step p q _ e hq ih=>
      right
      by_cases hx:∃i∈l,Sh i q
      ·exact .base (nm.mpr ⟨hq,hx⟩)
      ·rcases ih with h1|h1
       ·exact absurd ⟨p,h1,e⟩ hx
       ·exact .step h1 e (fm.mpr ⟨hq,hx⟩)
    rcases key s (hs s MI.1) with h1|h1
    ·exact absurd MI.1 (dj s h1)
    ·exact h1
def Ut(p q:Pl):Prop:=q∈Be p
theorem vO[DecidableEq α]:∀{l m:List α},l.Nodup->(∀x∈l,x∈m)->l.length<=m.length
 |[],m,_,_=>c8 _
 |a::l,m,nd,h=>by
  have nd:=qb.mp nd
  have ha:=h a bf
  have ih:=vO (l:=l) (m:=m.erase a) nd.2 λx hx=>(OX (by rintro rfl;exact nd.1 hx)).mpr (h x (a7 _ hx))
  have:=List.length_erase_of_mem ha
  have hp:=OY ha
  rw[bh]
  (clear nd;omega)
structure Za(cs:CL)(a:Pl)(vc xo:List Pl)(M:Nat)(st:List Pl×List Pl):Prop where
 nd:st.1.Nodup
 ks:∀r∈st.1,(aZ cs r).isSome=true/\mV Ut [a] (cs.map (·.1)) r
 ws:∀r∈st.2,r∈st.1
 ol:∀r∈vc,r∈st.1
 nw:∀r∈st.1,r∉st.2->r∈vc/\r∉xo
 ms:st.2.length+wU cs st.1<=M
theorem xW{p:Pl}:(aZ cs p).isSome=true↔p∈cs.map (·.1):=by
 rw[dR,a8]
theorem Za.push{a q:Pl}{vc xo:List Pl}{M:Nat}{st:List Pl×List Pl}{p:Pl}(h:Za cs a vc xo M st)(hq:mV Ut [a] (cs.map (·.1)) q)(hp:p∈Be q):Za cs a vc xo M (iA cs st p)/\(∀r∈st.1,r∈(iA cs st p).1)/\((aZ cs p).isSome=true->p∈(iA cs st p).1):=by
 unfold iA
 by_cases hc:(aZ cs p).isSome=true/\p∉st.1
 ·rw[af hc]
  obtain⟨nd,ks,ws,ol,nw,ms⟩:=h
  refine⟨⟨?_,?_,?_,?_,?_,?_⟩,λr hr=>lx _ hr,λ_=>gi _ bf⟩
  ·show (st.1++[p]).Nodup
   rw[J0]
   refine⟨nd,by simp,λx hx y hy z=>?_⟩
   rw[ie] at hy
   subst hy
   subst z
   exact hc.2 hx
  ·intro r hr
   rcases jp.mp hr with hr|hr
   ·exact ks r hr
   ·rw[ie] at hr
    subst hr
    exact⟨hc.1,.step hq hp (xW.mp hc.1)⟩
  ·intro r hr
   rcases jp.mp hr with hr|hr
   ·exact lx _ (ws r hr)
   ·exact gi _ hr
  ·exact λr hr=>lx _ (ol r hr)
  ·intro r hr hn
   rcases jp.mp hr with hr|hr
   ·exact nw r hr λz=>hn (lx _ z)
   ·exact absurd (gi _ hr) hn
  ·have:=oH hc.2 hc.1
   show (st.2++[p]).length+wU cs (st.1++[p])<=M
   rw[b6,AH]
   (clear hc;omega)
 ·rw[ae hc]
  refine⟨h,λr hr=>hr,λhg=>?_⟩
  by_cases hm:p∈st.1
  ·exact hm
  ·exact absurd ⟨hg,hm⟩ hc
theorem Za.all{a q:Pl}{vc xo:List Pl}{M:Nat}(hq:mV Ut [a] (cs.map (·.1)) q):∀{ps:List Pl}{st:List Pl×List Pl},Za cs a vc xo M st->(∀p∈ps,p∈Be q)->Za cs a vc xo M (ps.foldl (iA cs) st)/\(∀r∈st.1,r∈(ps.foldl (iA cs) st).1)/\∀p∈ps,(aZ cs p).isSome=true->p∈(ps.foldl (iA cs) st).1
 |[],st,h,_=>⟨h,λ_ hr=>hr,λp hp=>by cases hp⟩
 |p::ps,st,h,cy=>by
  obtain⟨h1,h2,h3⟩:=h.push hq (cy p bf)
  obtain⟨k1,k2,k3⟩:=Za.all hq h1 λx hx=>cy x (a7 _ hx)
  refine⟨k1,λr hr=>k2 r (h2 r hr),λx hx hg=>?_⟩
  rcases ao.mp hx with rfl|hx
  ·exact k2 _ (h3 hg)
  ·exact k3 x hx hg
structure aEf(cs:CL)(a:Pl)(n:Nat)(rs ws:List Pl):Prop where
 nd:rs.Nodup
 ks:∀r∈rs,(aZ cs r).isSome=true/\mV Ut [a] (cs.map (·.1)) r
 sb:∀r∈ws,r∈rs
 cl:∀r∈rs,r∉ws->∀q∈Be r,(aZ cs q).isSome=true->q∈rs
 ms:ws.length+wU cs rs<=n
theorem Oz{a:Pl}:∀{n:Nat}{rs ws:List Pl},aEf cs a n rs ws->(dU cs n rs ws).Nodup/\(∀r∈dU cs n rs ws,(aZ cs r).isSome=true/\mV Ut [a] (cs.map (·.1)) r)/\(∀r∈dU cs n rs ws,∀q∈Be r,(aZ cs q).isSome=true->q∈dU cs n rs ws)/\∀r∈rs,r∈dU cs n rs ws
 |0,rs,ws,h=>by
  have:ws=[]:=yn (by have:=h.ms;omega)
  subst this
  exact⟨h.nd,h.ks,λr hr=>h.cl r hr (by simp),λr hr=>hr⟩
 |n+1,rs,ws,h=>by
  rw[dU]
  cases e:ws.getLast? with
  |none=>
   have:ws=[]:=List.getLast?_eq_none_iff.mp e
   subst this
   exact⟨h.nd,h.ks,λr hr=>h.cl r hr (by simp),λr hr=>hr⟩
  |some q=>
   obtain⟨w0,rfl⟩:=List.getLast?_eq_some_iff.mp e
   rw[List.dropLast_concat]
   have hq:=h.sb q (by simp)
   have p0:Za cs a rs w0 n (rs,w0):=⟨h.nd,h.ks,λr hr=>h.sb r (lx _ hr),λr hr=>hr,λr hr hn=>⟨hr,hn⟩,by have:=h.ms;rw[b6,AH] at this;show w0.length+wU cs rs<=n;omega⟩
   obtain⟨k1,k2,k3⟩:=Za.all (h.ks q hq).2 p0 (ps:=Be q) λp hp=>hp
   have s2:aEf cs a n ((Be q).foldl (iA cs) (rs,w0)).1 ((Be q).foldl (iA cs) (rs,w0)).2:=by
    refine⟨k1.nd,k1.ks,k1.ws,λr hr hn x hx hg=>?_,k1.ms⟩
    obtain⟨h1,h2⟩:=k1.nw r hr hn
    by_cases MJ:r=q
    ·subst MJ
     exact k3 x hx hg
    ·exact k2 x (h.cl r h1 (by simp[h2,MJ]) x hx hg)
   obtain⟨r1,r2,r3,r4⟩:=Oz s2
   exact⟨r1,r2,r3,λr hr=>r4 r (k2 r hr)⟩
theorem We{c:Pl×Int}{r:CL}(nd:((c::r).map (·.1)).Nodup):zI (c::r)=true↔∀p∈(c::r).map (·.1),mV Ut [c.1] ((c::r).map (·.1)) p:=by
 have g0:(aZ (c::r) c.1).isSome=true:=dR.mpr ⟨c,bf,rfl⟩
 have u0:1+wU (c::r) [c.1]<=(c::r).length:=by
  rw[oK,af (by simp),bh]
  have:wU r [c.1]<=r.length:=JT _ _
  omega
 have s0:aEf (c::r) c.1 (c::r).length [c.1] [c.1]:=⟨by simp,λx hx=>by rw[ie] at hx;subst hx;exact⟨g0,.base bf⟩,λx hx=>hx,λx hx hn=>absurd hx hn,u0⟩
 obtain⟨r1,r2,r3,r4⟩:=Oz s0
 rw[zI,ck]
 generalize dU (c::r) (c::r).length [c.1] [c.1]=R at r1 r2 r3 r4
 have sub:∀x∈R,x∈(c::r).map (·.1):=λx hx=>xW.mp (r2 x hx).1
 have gq:=vO r1 sub
 rw[ai] at gq
 have all:∀x,mV Ut [c.1] ((c::r).map (·.1)) x->x∈R:=by
  intro x hf
  induction hf with
  |base ha=>exact r4 _ ha
  |step _ e hq ih=>exact r3 _ ih _ e (xW.mpr hq)
 constructor
 ·intro hl p hp
  by_cases hm:p∈R
  ·exact(r2 p hm).2
  ·have:=vO (l:=p::R) (m:=(c::r).map (·.1)) (qb.mpr ⟨hm,r1⟩) λx hx=>by
    rcases ao.mp hx with rfl|hx
    ·exact hp
    ·exact sub x hx
   rw[ai,bh,hl] at this
   (clear hm hl gq u0;omega)
 ·intro h
  have:=vO nd λx hx=>all x (h x hx)
  rw[ai] at this
  (clear u0;omega)
theorem aHk{q r:Nat}(h:p+q+r=1):(p=1/\q=0/\r=0)\/(p=0/\q=1/\r=0)\/(p=0/\q=0/\r=1):=by omega
theorem mT{x u:Nat}:(u - x)+(x - u)=0↔(u:Int)=(x:Int):=by omega
theorem Et{x u:Nat}:(u - x)+(x - u)=1↔(u:Int)=(x:Int) - 1\/(u:Int)=(x:Int)+1:=by omega
theorem Bc(a b:kZ):Sh a b↔Ut (cT a) (cT b):=by
 obtain⟨x,y,z⟩:=a
 obtain⟨u,v,w⟩:=b
 unfold Sh Ut Br.beside
 rw[cz]
 constructor
 ·intro h
  rcases aHk h with ⟨h1,h2,h3⟩|⟨h1,h2,h3⟩|⟨h1,h2,h3⟩
  ·have e2:(v:Int)=y:=mT.mp h2
   have e3:(w:Int)=z:=mT.mp h3
   rcases Et.mp h1 with e1|e1
   ·exact ao.mpr (.inl (d6 e1 (d6 e2 e3)))
   ·exact a7 _ (ao.mpr (.inl (d6 e1 (d6 e2 e3))))
  ·have e1:(u:Int)=x:=mT.mp h1
   have e3:(w:Int)=z:=mT.mp h3
   rcases Et.mp h2 with e2|e2
   ·exact a7 _ (a7 _ (ao.mpr (.inl (d6 e1 (d6 e2 e3)))))
   ·exact a7 _ (a7 _ (a7 _ (ao.mpr (.inl (d6 e1 (d6 e2 e3))))))
  ·have e1:(u:Int)=x:=mT.mp h1
   have e2:(v:Int)=y:=mT.mp h2
   rcases Et.mp h3 with e3|e3
   ·exact a7 _ (a7 _ (a7 _ (a7 _ (a7 _ (ao.mpr (.inl (d6 e1 (d6 e2 e3))))))))
   ·exact a7 _ (a7 _ (a7 _ (a7 _ (ao.mpr (.inl (d6 e1 (d6 e2 e3)))))))
 ·have fin:∀{p q r:Nat},(p=1/\q=0/\r=0)\/(p=0/\q=1/\r=0)\/(p=0/\q=0/\r=1)->p+q+r=1:=by
   rintro p q r (⟨rfl,rfl,rfl⟩|⟨rfl,rfl,rfl⟩|⟨rfl,rfl,rfl⟩)<;>rfl
  intro h
  refine fin ?_
  have st:∀{c:Pl},cT (u,v,w)=c->(u:Int)=c.1/\(v:Int)=c.2.1/\(w:Int)=c.2.2:=λe=>by rw[<-e];exact⟨rfl,rfl,rfl⟩
  rcases ao.mp h with e|h
  ·obtain⟨e1,e2,e3⟩:=st e
   exact .inl ⟨Et.mpr (.inl e1),mT.mpr e2,mT.mpr e3⟩
  rcases ao.mp h with e|h
  ·obtain⟨e1,e2,e3⟩:=st e
   exact .inl ⟨Et.mpr (.inr e1),mT.mpr e2,mT.mpr e3⟩
  rcases ao.mp h with e|h
  ·obtain⟨e1,e2,e3⟩:=st e
   exact .inr (.inl ⟨mT.mpr e1,Et.mpr (.inl e2),mT.mpr e3⟩)
  rcases ao.mp h with e|h
  ·obtain⟨e1,e2,e3⟩:=st e
   exact .inr (.inl ⟨mT.mpr e1,Et.mpr (.inr e2),mT.mpr e3⟩)
  rcases ao.mp h with e|h
  ·obtain⟨e1,e2,e3⟩:=st e
   exact .inr (.inr ⟨mT.mpr e1,mT.mpr e2,Et.mpr (.inr e3)⟩)
  rcases ao.mp h with e|h
  ·obtain⟨e1,e2,e3⟩:=st e
   exact .inr (.inr ⟨mT.mpr e1,mT.mpr e2,Et.mpr (.inl e3)⟩)
  ·cases h
theorem Bd{c:kZ}{r:List kZ}:∀{s:kZ},mV Sh [c] r s↔mV Ut [cT c] ((c::r).map cT) (cT s):=by
 intro s
 constructor
 ·intro h
  induction h with
  |base ha=>rw[ie] at ha;subst ha;exact .base bf
  |step _ e hq ih=>exact .step ih ((Bc _ _).mp e) (qe (a7 _ hq))
 ·have key:∀p,mV Ut [cT c] ((c::r).map cT) p->∃t,p=cT t/\mV Sh [c] r t:=by
   intro p h
   induction h with
   |base ha=>rw[ie] at ha;exact⟨c,ha,.base bf⟩
   |step _ e hq ih=>
    obtain⟨t,rfl,ht⟩:=ih
    obtain⟨u,hu,rfl⟩:=a8.mp hq
    refine⟨u,rfl,?_⟩
    rcases ao.mp hu with rfl|hu
    ·exact .base bf
    ·exact .step ht ((Bc _ _).mpr e) hu
  intro h
  obtain⟨t,e,ht⟩:=key _ h
  rw[gS e]
  exact ht
theorem Ij(ok:dI pr):(cA pr).cells.Nodup:=by
 rw[rP ok]
 have sl:List.Sublist (((zP pr).filter kept).map λq=>fP pr.w pr.d q.1) ((zP pr).map λq=>fP pr.w pr.d q.1):=OZ _ O1
 refine sl.nodup ?_
 have e:(zP pr).map (λq=>fP pr.w pr.d q.1)=(List.range (pr.h * (pr.d * pr.w))).map (fP pr.w pr.d):=by
  have:(zP pr).map (λq=>fP pr.w pr.d q.1)=((zP pr).map Prod.fst).map (fP pr.w pr.d):=by rw[dh];rfl
  rw[this]
  unfold zP
  rw[O2 (by rw[Gh ok,AQ];exact ap _)]
 rw[e]
 refine ue _ (λa b h z=>h ?_) O3
 have h1:=mG (show fP pr.w pr.d a=((fP pr.w pr.d b).1,(fP pr.w pr.d b).2.1,(fP pr.w pr.d b).2.2) from z)
 have h2:=mG (show fP pr.w pr.d b=((fP pr.w pr.d b).1,(fP pr.w pr.d b).2.1,(fP pr.w pr.d b).2.2) from rfl)
 rw[h1,<-h2]
theorem Ll(ok:dI pr):(cA pr).whole=zI (uF pr):=by
 have ks:=pA ok
 have nd:=Ij ok
 unfold Br.Part.whole
 generalize (cA pr).cells=cl at ks nd
 generalize uF pr=cs at ks
 match cl,cs,ks,nd with
 |[],[],_,_=>rfl
 |[],_::_,ks,_=>cases ks
 |_::_,[],ks,_=>cases ks
 |c::r,k::cs,ks,nd=>
  have ndc:=qb.mp nd
  have hk:k.1=cT c:=(List.cons.inj ks).1
  have UC:((k::cs).map (·.1)).Nodup:=by
   rw[ks]
   exact ue _ (λa b h z=>h (gS z)) nd
  rw[io,We UC,ks,hk]
  show (Br.apartFrom r.length [c] r).isEmpty=true↔_
  rw[List.isEmpty_iff,Cj (ap _) (λx hx=>by rw[ie] at hx;subst hx;exact ndc.1)]
  constructor
  ·intro h p hp
   obtain⟨s,hs,rfl⟩:=a8.mp hp
   rcases ao.mp hs with rfl|hs
   ·exact .base bf
   ·exact Bd.mp (h s hs)
  ·exact λh s hs=>Bd.mpr (h _ (qe (a7 _ hs)))
theorem Pw(ok:dI pr):iJ (cA pr)=gY pr:=by
 unfold iJ gY Ef
 rw[Ly ok,Lk ok,Kv ok,Ll ok]
abbrev Jw(l:List Int):Br.Bytes:=BuildsNeutral.text l
def Si(l:List Int):Prop:=∀x∈l,0<=x/\x<=255
theorem Fe:∀{l:List Int},Si l->aW (Jw l)=l
 |[],_=>rfl
 |x::r,h=>by
  have h1:=h x bf
  have ih:=Fe (l:=r) λy hy=>h y (a7 _ hy)
  have e:((UInt8.ofNat x.toNat).toNat:Int)=x:=by
   rw[JW]
   omega
  show ((UInt8.ofNat x.toNat).toNat:Int)::aW (Jw r)=x::r
  rw[ih,e]
def aFz(tc tb:Br.Bytes):aAa->Prop
 |.no n=>(n= -2/\(BrB.LOOKED<tc.length\/BrB.BUILT<tb.length))\/(n= -6/\¬(BrB.LOOKED<tc.length\/BrB.BUILT<tb.length)/\∃e,Br.readC tc=.error e)\/(n= -8/\¬(BrB.LOOKED<tc.length\/BrB.BUILT<tb.length)/\∃k,Br.readC tc=.ok k/\(Br.wrong k).isSome=true)
 |.bad i=>¬(BrB.LOOKED<tc.length\/BrB.BUILT<tb.length)/\∃k,Br.readC tc=.ok k/\¬(Br.wrong k).isSome=true/\Br.readB k tb=.error i
 |.ok aa nm ls=>¬(BrB.LOOKED<tc.length\/BrB.BUILT<tb.length)/\(∀pr∈aa,dI pr)/\Br.readC tc=.ok (aa.map cA)/\¬(Br.wrong (aa.map cA)).isSome=true/\∃d,Br.readB (aa.map cA) tb=.ok d/\d.lines=ls.map fR/\aW d.name=nm
theorem Su{b:List Int×List (List Nat)}(h:dJ aj l=.ok b):∀x∈b.1,hX x=true:=by
 unfold dJ at h
 obtain⟨_,_,h⟩:=aL h
 obtain⟨nm,en,h⟩:=aL h
 obtain⟨_,_,h⟩:=aL h
 obtain⟨r,_,h⟩:=aL h
 split at h
 ·cases h
  unfold gP at en
  split at en
  ·cases en
   exact λx hx=>qI hx
  ·cases en
 ·cases h
theorem Fz(hc:Si lc)(hb:Si lb):aFz (Jw lc) (Jw lb) (dF lc lb):=by
 have l1:lc.length=(Jw lc).length:=(ai _).symm
 have l2:lb.length=(Jw lb).length:=(ai _).symm
 unfold dF
 by_cases hl:1048576<lc.length\/16384<lb.length
 ·rw[af hl]
  exact .inl ⟨rfl,by rw[l1,l2] at hl;exact hl⟩
 ·rw[ae hl]
  have ii:¬(BrB.LOOKED<(Jw lc).length\/BrB.BUILT<(Jw lb).length):=by rw[l1,l2] at hl;exact hl
  have rc:=Ud (Jw lc)
  rw[Fe hc] at rc
  cases e:iF lc with
  |error i=>
   rw[e] at rc
   exact .inr (.inl ⟨rfl,ii,i,rc⟩)
  |ok aa=>
   rw[e] at rc
   have rc:Br.readC (Jw lc)=.ok (aa.map cA):=rc
   have ok:=Ui e
   have wr:=Rz ok λpr hp=>Pw (ok pr hp)
   show aFz _ _ (if oB aa=true then (match dJ (aa.map (·.name)) lb with
    |.error i=>.bad i
    |.ok b=>.ok aa b.1 b.2) else .no (-8))
   by_cases hk:oB aa=true
   ·rw[af hk]
    rw[hk] at wr
    have nw:¬(Br.wrong (aa.map cA)).isSome=true:=by rw[wr];decide
    have rb:=Ve (Jw lb) (aa.map cA)
    have en:((aa.map cA).map λ(p:Br.Part)=>p.name).map aW=aa.map (·.name):=by
     rw[dh,dh]
     refine we λpr hp=>?_
     exact pM (ok pr hp)
    rw[Fe hb,en] at rb
    cases e2:dJ (aa.map (·.name)) lb with
    |error i=>
     rw[e2] at rb
     exact⟨ii,_,rc,nw,rb⟩
    |ok b=>
     rw[e2] at rb
     exact⟨ii,ok,rc,nw,_,rb,rfl,Vm _ (Su e2)⟩
   ·rw[ae hk]
    have:oB aa=false:=by simpa using hk
    rw[this] at wr
    exact .inr (.inr ⟨rfl,ii,_,rc,by rw[wr];rfl⟩)
structure TP where
 W:Int
 D:Int
 Hh:Int
 cs:CL
noncomputable def gA(W:Int)(p:Pl):Pl:=(p.2.1,W - 1 - p.1,p.2.2)
noncomputable def Tk(W:Int)(cs:CL):CL:=cs.map λc=>(gA W c.1,c.2)
noncomputable def Mn(t:TP):TP:=⟨t.D,t.W,t.Hh,Tk t.W t.cs⟩
noncomputable def fC(t:TP):Nat->TP
 |0=>t
 |n+1=>Mn (fC t n)
noncomputable def jM(pr:aM):TP:=⟨pr.w,pr.d,pr.h,uF pr⟩
noncomputable def jP(t:TP)(x y z:Int):Bool:=decide (64<x+t.W)||(decide (64<y+t.D)||decide (96<z+t.Hh))
noncomputable def mM(x y z:Int)(p:Pl):Pl:=(x+p.1,y+p.2.1,z+p.2.2)
noncomputable def Gi(x y z:Int)(cs:CL):CL:=cs.map λc=>(mM x y z c.1,c.2)
noncomputable def gI(ow cells:CL):List Int:=cells.filterMap λc=>aZ ow c.1
noncomputable def mX(sg ow:CL)(c:Pl×Int):List Int:=match aZ sg (qL c.1) with
 |some s=>if fL c.2=true/\dY s=false then (aZ ow (qL c.1)).toList else []
 |none=>[]
noncomputable def pP(sg ow:CL)(c:Pl×Int):List Int:=match aZ sg (qC c.1) with
 |some s=>if dY c.2=false/\fL s=true then (aZ ow (qC c.1)).toList else []
 |none=>[]
noncomputable def cZ(cells sg ow:CL):List Int:=cells.flatMap λc=>mX sg ow c++pP sg ow c
noncomputable def iM:List Int->Int
 |[]=>0
 |[a]=>a
 |a::r=>min a (iM r)
noncomputable def eF(x:List Nat)(k:Nat):Nat:=x.getD k 0
noncomputable def uC(aa:List aM)(x:List Nat):TP:=fC ((aa[eF x 0]?).elim ⟨0,0,0,[]⟩ jM) (eF x 5)
noncomputable def dB(aa:List aM)(x:List Nat):CL:=Gi (eF x 2) (eF x 3) (eF x 4) (uC aa x).cs
noncomputable def cP(aa:List aM):Nat->CL->CL->List (List Nat)->List Int
 |_,_,_,[]=>[]
 |j,sg,ow,x::r=>
  if jP (uC aa x) (eF x 2) (eF x 3) (eF x 4)=true then [1,j,j] else
  if 0<(gI ow (dB aa x)).length then [2,j,iM (gI ow (dB aa x))] else
  if 0<(cZ (dB aa x) sg ow).length then [3,j,iM (cZ (dB aa x) sg ow)] else
  cP aa (j+1) (sg++dB aa x) (ow++(dB aa x).map λc=>(c.1,(j:Int))) r
theorem oG:∀{l:List Int},l≠[]->iM l∈l
 |[],h=>absurd rfl h
 |[a],_=>bf
 |a::b::r,_=>by
  have ih:=oG (l:=b::r) (by simp)
  show min a (iM (b::r))∈a::b::r
  rcases Int.le_total a (iM (b::r)) with h|h
  ·rw[Int.min_eq_left h];exact bf
  ·rw[Int.min_eq_right h];exact a7 _ ih
theorem oS:∀{l:List Int}{y:Int},y∈l->iM l<=y
 |[],y,h=>by cases h
 |[a],y,h=>by rw[ie] at h;subst h;exact JV _
 |a::b::r,y,h=>by
  show min a (iM (b::r))<=y
  rcases ao.mp h with rfl|h
  ·exact Int.min_le_left _ _
  ·have:=oS h
   have:=Int.min_le_right a (iM (b::r))
   omega
theorem Ov{m:Int}(h1:m∈l)(h2:∀y∈l,m<=y):m=iM l:=by
 have a:=oS h1
 have b:=h2 _ (oG (l:=l) (by rintro rfl;cases h1))
 omega
structure zO(p:Br.Part):Prop where
 w:1<=p.wide
 d:1<=p.deep
 h:1<=p.high
 l:p.places.length=p.high * (p.deep * p.wide)
theorem nH{p:Br.Part}(ok:zO p){f:Br.Place->Bool}(f0:f .none=false){s:kZ}:s∈p.such f↔f (p.at_ s.1 s.2.1 s.2.2)=true:=by
 obtain⟨x,y,z⟩:=s
 unfold Br.Part.such Br.Part.at_
 rw[rZ ok.w ok.d,a8]
 have hN:∀i,i<p.high * (p.deep * p.wide)->i % p.wide<p.wide/\i / p.wide % p.deep<p.deep/\i / p.wide / p.deep<p.high:=λi hi=>by
  refine⟨oy _ ok.w,oy _ ok.d,?_⟩
  rw[FF]
  apply OW
  rw[m7,m7 p.wide]
  exact hi
 constructor
 ·rintro⟨⟨t,pl⟩,hm,e⟩
  obtain⟨hz,hf⟩:=jo.mp hm
  obtain⟨i,e1⟩:=ox.mp hz
  rw[FG] at e1
  obtain⟨e1,e2⟩:=e1
  have hi:i<p.high * (p.deep * p.wide):=by rw[<-ok.l];exact(bq.mp e2).1
  rw[a9,AO hi] at e1
  have e1:fP p.wide p.deep i=t:=by simpa using e1
  have e:t=(x,y,z):=e
  subst e
  have e3:=mG e1
  have h3:=hN i hi
  unfold fP at e1
  simp only[Prod.mk.injEq] at e1
  show f (if x<p.wide/\y<p.deep/\z<p.high then _ else _)=true
  rw[af (by omega),b8]
  show f ((p.places[(z * p.deep+y) * p.wide+x]?).getD .none)=true
  rw[<-e3,e2]
  exact hf
 ·intro h
  have h:f (if x<p.wide/\y<p.deep/\z<p.high then p.places.getD ((z * p.deep+y) * p.wide+x) .none else .none)=true:=h
  split at h
  ·rename_i hr
   have am:(z * p.deep+y) * p.wide+x<p.high * (p.deep * p.wide):=by
    have h1:(z * p.deep+y)+1<=p.high * p.deep:=by
     have:(z+1) * p.deep<=p.high * p.deep:=AM _ hr.2.2
     rw[ot] at this
     omega
    have h2:=AM p.wide h1
    rw[ot,FD] at h2
    omega
   rw[b8] at h
   have hp:(z * p.deep+y) * p.wide+x<p.places.length:=by rw[ok.l];exact am
   rw[ay hp] at h
   refine⟨((x,y,z),p.places[(z * p.deep+y) * p.wide+x]),jo.mpr ⟨?_,h⟩,rfl⟩
   refine ox.mpr ⟨(z * p.deep+y) * p.wide+x,?_⟩
   rw[FG]
   refine⟨?_,ay hp⟩
   rw[a9,AO am]
   show some (fP _ _ _)=_
   rw[Lv hr.1 hr.2.1]
  ·rw[f0] at h;cases h
structure Rv(t:TP)(p:Br.Part):Prop where
 sh:zO p
 w:t.W=p.wide
 d:t.D=p.deep
 h:t.Hh=p.high
 nd:(t.cs.map (·.1)).Nodup
 mem:∀(q:Pl)(v:Int),(q,v)∈t.cs↔∃s:kZ,q=cT s/\v∈cV/\(p.at_ s.1 s.2.1 s.2.2).isCell=true/\p.at_ s.1 s.2.1 s.2.2=pO v
theorem pX{p:Br.Part}{x y:Nat}(h:(p.at_ x y z).isCell=true):x<p.wide/\y<p.deep/\z<p.high:=by
 unfold Br.Part.at_ at h
 split at h
 ·rename_i hr;exact hr
 ·cases h
theorem Jd(ok:dI pr):Rv (jM pr) (cA pr):=by
 have hl:(cA pr).places.length=pr.h * (pr.d * pr.w):=by rw[gW,ai,Gh ok]
 refine⟨⟨ok.w1,ok.d1,ok.h1,hl⟩,rfl,rfl,rfl,?_,?_⟩
 ·show ((uF pr).map (·.1)).Nodup
  rw[pA ok]
  exact ue _ (λa b h z=>h (gS z)) (Ij ok)
 ·intro q v
  show (q,v)∈uF pr↔_
  rw[Ci ok,a8]
  constructor
  ·rintro⟨⟨i,s⟩,hm,e⟩
   obtain⟨hz,hk⟩:=jo.mp hm
   cases e
   have hc:fP pr.w pr.d i∈(cA pr).cells:=by rw[rP ok];exact a8.mpr ⟨_,hm,rfl⟩
   have dq:=(qQ ok (fP pr.w pr.d i).1 (fP pr.w pr.d i).2.1 (fP pr.w pr.d i).2.2).mpr hc
   refine⟨fP pr.w pr.d i,rfl,tU ok hz,dq,?_⟩
   have a6:=pX dq
   have e2:=mG (w:=pr.w) (d:=pr.d) (i:=i) (x:=(fP pr.w pr.d i).1) (y:=(fP pr.w pr.d i).2.1) (z:=(fP pr.w pr.d i).2.2) rfl
   unfold Br.Part.at_
   rw[af a6,gW,b8,a9]
   show ((pr.rows.flatten[((fP pr.w pr.d i).2.2 * pr.d+(fP pr.w pr.d i).2.1) * pr.w+(fP pr.w pr.d i).1]?).map pO).getD .none=_
   rw[<-e2,(Nn ok).mp hz]
   rfl
  ·rintro⟨s,rfl,hv,hc,he⟩
   have a6:=pX hc
   unfold Br.Part.at_ at he
   rw[af a6,gW,b8,a9] at he
   have he:((pr.rows.flatten[(s.2.2 * pr.d+s.2.1) * pr.w+s.1]?).map pO).getD .none=pO v:=he
   have qh:(pO v).isCell=true:=by
    unfold Br.Part.at_ at hc
    rw[af a6,gW,b8,a9] at hc
    rw[<-he];exact hc
   cases e:pr.rows.flatten[(s.2.2 * pr.d+s.2.1) * pr.w+s.1]? with
   |none=>rw[e] at he;rw[<-he] at qh;cases qh
   |some u=>
    rw[e] at he
    have he:pO u=pO v:=he
    have hz:=(Nn ok).mpr e
    have hu:=tU ok hz
    have UD:u=v:=by
     simp only[cV,ao,dk,i'] at hu hv
     rcases hu with rfl|rfl|rfl|rfl|rfl<;>rcases hv with rfl|rfl|rfl|rfl|rfl<;>first|rfl|(revert he;decide)
    subst UD
    refine⟨(_,u),jo.mpr ⟨hz,?_⟩,?_⟩
    ·rw[oC] at qh;exact qh
    ·have hs:fP pr.w pr.d ((s.2.2 * pr.d+s.2.1) * pr.w+s.1)=s:=Lv (w:=pr.w) (d:=pr.d) a6.1 a6.2.1
     show (cT (fP pr.w pr.d ((s.2.2 * pr.d+s.2.1) * pr.w+s.1)),u)=_
     rw[hs]
theorem xF{p:Br.Part}:p.turn.places.length=p.high * (p.wide * p.deep):=by
 show ((List.range p.high).flatMap λ(z:Nat)=>(List.range p.wide).flatMap λ(y:Nat)=>(List.range p.deep).map λ(x:Nat)=>p.places.toArray.getD ((z * p.deep+x) * p.wide+(p.wide - 1 - y)) .none).length=_
 refine mD (λz=>?_) _
 refine mD (λy=>?_) _
 simp
theorem rL{p:Br.Part}(ok:zO p){x y:Nat}(hx:x<p.deep)(hy:y<p.wide)(hz:z<p.high):p.turn.at_ x y z=p.at_ (p.wide - 1 - y) x z:=by
 have hw:=ok.w
 have hd:=ok.d
 have l1:∀y z:Nat,((List.range p.deep).map λ(x:Nat)=>p.places.toArray.getD ((z * p.deep+x) * p.wide+(p.wide - 1 - y)) Br.Place.none).length=p.deep:=by simp
 have l2:∀z:Nat,((List.range p.wide).flatMap λ(y:Nat)=>(List.range p.deep).map λ(x:Nat)=>p.places.toArray.getD ((z * p.deep+x) * p.wide+(p.wide - 1 - y)) Br.Place.none).length=p.wide * p.deep:=λz=>mD (λy=>l1 y z) _
 have b1:y * p.deep+x<p.wide * p.deep:=by
  have:(y+1) * p.deep<=p.wide * p.deep:=AM _ hy
  rw[ot] at this
  omega
 have b2:z * (p.wide * p.deep)+(y * p.deep+x)<p.high * (p.wide * p.deep):=by
  have:(z+1) * (p.wide * p.deep)<=p.high * (p.wide * p.deep):=AM _ hz
  rw[ot] at this
  omega
 have e0:(z * p.wide+y) * p.deep+x=z * (p.wide * p.deep)+(y * p.deep+x):=by
  rw[Nat.add_mul,FD,Nat.add_assoc]
 unfold Br.Part.at_
 rw[af (show x<p.turn.wide/\y<p.turn.deep/\z<p.turn.high from ⟨hx,hy,hz⟩),af (by omega)]
 rw[b8,b8]
 show (((List.range p.high).flatMap λ(z:Nat)=>(List.range p.wide).flatMap λ(y:Nat)=>(List.range p.deep).map λ(x:Nat)=>p.places.toArray.getD ((z * p.deep+x) * p.wide+(p.wide - 1 - y)) Br.Place.none)[(z * p.wide+y) * p.deep+x]?).getD .none=_
 rw[e0,yJ (CW hw hd) l2 _ _ b2]
 have e1:(z * (p.wide * p.deep)+(y * p.deep+x)) / (p.wide * p.deep)=z:=by
  rw[m8,yh _ _ (CW hw hd),yi b1,ou]
 have e2:(z * (p.wide * p.deep)+(y * p.deep+x)) % (p.wide * p.deep)=y * p.deep+x:=by
  rw[m8,yg,uc b1]
 rw[e1,e2,yJ hd (λy=>l1 y z) _ _ b1]
 have e3:(y * p.deep+x) / p.deep=y:=by
  rw[m8,yh _ _ hd,yi hx,ou]
 have e4:(y * p.deep+x) % p.deep=x:=by rw[m8,yg,uc hx]
 rw[e3,e4,a9,AO hx]
 show p.places.toArray.getD ((z * p.deep+x) * p.wide+(p.wide - 1 - y)) .none=_
 simp
theorem Tw{t:TP}{p:Br.Part}(h:Rv t p):Rv (Mn t) p.turn:=by
 obtain⟨sh,hw,hd,hh,nd,mem⟩:=h
 have HU:zO p.turn:=⟨sh.d,sh.w,sh.h,xF⟩
 have inj:∀a b:Pl,gA t.W a=gA t.W b->a=b:=by
  rintro⟨x,y,z⟩ ⟨u,v,w⟩ e
  unfold gA at e
  simp only[Prod.mk.injEq] at e ⊢
  omega
 refine⟨HU,hd,hw,hh,?_,?_⟩
 ·show (((t.cs).map λc=>(gA t.W c.1,c.2)).map (·.1)).Nodup
  rw[dh]
  have:(t.cs.map ((·.1)∘λc:Pl×Int=>(gA t.W c.1,c.2)))=(t.cs.map (·.1)).map (gA t.W):=by rw[dh];rfl
  rw[this]
  exact ue _ (λa b h z=>h (inj a b z)) nd
 ·intro q v
  show (q,v)∈t.cs.map (λc=>(gA t.W c.1,c.2))↔_
  rw[a8]
  constructor
  ·rintro⟨⟨c,u⟩,hc,e⟩
   obtain⟨s,rfl,hv,r6,fv⟩:=(mem c u).mp hc
   cases e
   have a6:=pX r6
   have hy:p.wide - 1 - s.1<p.wide:=by omega
   have ta:=rL sh a6.2.1 hy a6.2.2
   rw[show p.wide - 1 - (p.wide - 1 - s.1)=s.1 by omega] at ta
   refine⟨(s.2.1,p.wide - 1 - s.1,s.2.2),?_,hv,?_,?_⟩
   ·unfold gA cT
    rw[hw]
    refine d6 rfl (d6 ?_ rfl)
    show (p.wide:Int) - 1 - (s.1:Int)=((p.wide - 1 - s.1:Nat):Int)
    omega
   ·show (p.turn.at_ s.2.1 (p.wide - 1 - s.1) s.2.2).isCell=true
    rw[ta];exact r6
   ·show p.turn.at_ s.2.1 (p.wide - 1 - s.1) s.2.2=_
    rw[ta];exact fv
  ·rintro⟨s,rfl,hv,r6,fv⟩
   have a6:s.1<p.deep/\s.2.1<p.wide/\s.2.2<p.high:=pX r6
   have ta:=rL sh a6.1 a6.2.1 a6.2.2
   rw[ta] at r6 fv
   refine⟨(cT (p.wide - 1 - s.2.1,s.1,s.2.2),v),(mem _ _).mpr ⟨_,rfl,hv,r6,fv⟩,?_⟩
   unfold gA cT
   rw[hw]
   refine d6 (d6 rfl (d6 ?_ rfl)) rfl
   show (p.wide:Int) - 1 - ((p.wide - 1 - s.2.1:Nat):Int)=(s.2.1:Int)
   omega
theorem pH{t:TP}{p:Br.Part}(h:Rv t p):∀n,Rv (fC t n) (p.turned n)
 |0=>h
 |n+1=>Tw (pH h n)
structure zV(sh:Br.Shape)(cl:CL):Prop where
 c:∀s,s∈sh.cells↔∃v,(cT s,v)∈cl
 st:∀s,s∈sh.studs↔∃v,(cT s,v)∈cl/\fL v=true
 tb:∀s,s∈sh.tubes↔∃v,(cT s,v)∈cl/\dY v=true
 nd:(cl.map (·.1)).Nodup
 ps:∀q v,(q,v)∈cl->∃s:kZ,q=cT s
 box:∀s∈sh.cells,(sh.at_.1<=s.1/\s.1<sh.at_.1+sh.size.1)/\(sh.at_.2.1<=s.2.1/\s.2.1<sh.at_.2.1+sh.size.2.1)/\(sh.at_.2.2<=s.2.2/\s.2.2<sh.at_.2.2+sh.size.2.2)
theorem Wb:∀{cl:CL}{q:Pl}{u v:Int},(cl.map (·.1)).Nodup->(q,u)∈cl->(q,v)∈cl->u=v
 |[],q,u,v,_,h,_=>by cases h
 |c::r,q,u,v,nd,h1,h2=>by
  have nd:=qb.mp nd
  rcases ao.mp h1 with e1|h1
  ·rcases ao.mp h2 with e2|h2
   ·rw[<-e1] at e2;cases e2;rfl
   ·exact absurd (a8.mpr ⟨_,h2,by rw[<-e1]⟩) nd.1
  ·rcases ao.mp h2 with e2|h2
   ·exact absurd (a8.mpr ⟨_,h1,by rw[<-e2]⟩) nd.1
   ·exact Wb nd.2 h1 h2
theorem oR{cl:CL}{q:Pl}{v:Int}(h:aZ cl q=some v):(q,v)∈cl:=by
 unfold aZ at h
 obtain⟨c,e,rfl⟩:=rk.mp h
 have h1:=O4 e
 have h1:c.1=q:=by simpa using h1
 rw[<-h1]
 exact O5 e
theorem Pc{cl:CL}{q:Pl}{v:Int}(nd:(cl.map (·.1)).Nodup):aZ cl q=some v↔(q,v)∈cl:=by
 refine⟨oR,λh=>?_⟩
 have hs:(aZ cl q).isSome=true:=dR.mpr ⟨_,h,rfl⟩
 obtain⟨u,e⟩:=vj.mp hs
 rw[e,Wb nd (oR e) h]
theorem yL(a b:CL)(q:Pl):aZ (a++b) q=(aZ a q).or (aZ b q):=by
 unfold aZ
 rw[List.find?_append]
 cases List.find? (λc=>decide (c.1=q)) a<;>rfl
theorem wK(pl:Br.Place):∃v∈cV,pl=pO v:=by
 cases pl with
 |none=>exact⟨46,by decide,by decide⟩
 |cell a b=>cases a<;>cases b<;>first|exact⟨35,by decide,by decide⟩|exact⟨115,by decide,by decide⟩|exact⟨116,by decide,by decide⟩|exact⟨98,by decide,by decide⟩
theorem Rj{pl:Br.Place}(h:pl.stud=true):pl.isCell=true:=by cases pl;cases h;rfl
theorem Qn{pl:Br.Place}(h:pl.tube=true):pl.isCell=true:=by cases pl;cases h;rfl
theorem Ht{t:TP}{p:Br.Part}(h:Rv t p){f:Br.Place->Bool}{g:Int->Bool}(f0:∀pl,f pl=true->pl.isCell=true)(hg:∀v∈cV,v≠46->f (pO v)=g v)(s:kZ):s∈p.such f↔∃v,(cT s,v)∈t.cs/\g v=true:=by
 have fn:f .none=false:=by
  cases e:f .none with
  |false=>rfl
  |true=>have:=f0 _ e;cases this
 rw[nH h.sh fn]
 constructor
 ·intro hf
  have hc:=f0 _ hf
  obtain⟨v,hv,e⟩:=wK (p.at_ s.1 s.2.1 s.2.2)
  refine⟨v,(h.mem _ _).mpr ⟨s,rfl,hv,hc,e⟩,?_⟩
  rw[<-hg v hv (by rintro rfl;rw[e] at hc;revert hc;decide),<-e]
  exact hf
 ·rintro⟨v,hm,BN⟩
  obtain⟨s2,e,hv,hc,e2⟩:=(h.mem _ _).mp hm
  have e:=gS e
  subst e
  rw[e2,hg v hv (by rintro rfl;rw[e2] at hc;revert hc;decide)]
  exact BN
theorem aA8{t:TP}{p:Br.Part}(h:Rv t p)(x y z:Nat)(im:Bool)(put:kZ->kZ)(BO:∀s,put s=(x+s.1,y+s.2.1,z+s.2.2)):zV ⟨(x,y,z),(p.wide,p.deep,p.high),im,p.cells.map put,p.studs.map put,p.tubes.map put⟩ (Gi x y z t.cs):=by
 have key:∀(f:Br.Place->Bool)(g:Int->Bool),(∀pl,f pl=true->pl.isCell=true)->(∀v∈cV,v≠46->f (pO v)=g v)->∀s:kZ,s∈(p.such f).map put↔∃v,(cT s,v)∈Gi x y z t.cs/\g v=true:=by
  intro f g f0 hg s
  rw[a8]
  constructor
  ·rintro⟨s0,h0,rfl⟩
   obtain⟨v,hm,BN⟩:=(Ht h f0 hg s0).mp h0
   refine⟨v,a8.mpr ⟨_,hm,?_⟩,BN⟩
   rw[BO]
   rfl
  ·rintro⟨v,hm,BN⟩
   obtain⟨⟨q,u⟩,hc,e⟩:=a8.mp hm
   obtain⟨e1,e2⟩:=Prod.mk.inj e
   have e2:u=v:=e2
   subst e2
   obtain⟨s0,rfl,_⟩:=(h.mem q u).mp hc
   refine⟨s0,(Ht h f0 hg s0).mpr ⟨u,hc,BN⟩,?_⟩
   apply gS
   rw[BO,<-e1]
   rfl
 have inj:∀a b:Pl,mM x y z a=mM x y z b->a=b:=by
  rintro⟨a,b,c⟩ ⟨u,v,w⟩ e
  unfold mM at e
  simp only[Prod.mk.injEq] at e ⊢
  omega
 refine⟨λs=>?_,λs=>?_,λs=>?_,?_,?_,?_⟩
 ·have k:=key Br.Place.isCell (λ_=>true) (λ_ h=>h) (λv hv hn=>by rw[oC];simp[hn]) s
  have k:s∈p.cells.map put↔_:=k
  show s∈p.cells.map put↔_
  rw[k]
  exact⟨λ⟨v,h1,_⟩=>⟨v,h1⟩,λ⟨v,h1⟩=>⟨v,h1,rfl⟩⟩
 ·exact key Br.Place.stud fL (λ_ h=>Rj h) (λv hv _=>yE hv) s
 ·exact key Br.Place.tube dY (λ_ h=>Qn h) (λv hv _=>xE hv) s
 ·unfold Gi
  rw[dh]
  have:(t.cs.map ((·.1)∘λc:Pl×Int=>(mM x y z c.1,c.2)))=(t.cs.map (·.1)).map (mM x y z):=by rw[dh];rfl
  rw[this]
  exact ue _ (λa b h z=>h (inj a b z)) h.nd
 ·intro q v hm
  obtain⟨⟨q0,u⟩,hc,e⟩:=a8.mp hm
  obtain⟨s0,rfl,_⟩:=(h.mem q0 u).mp hc
  obtain⟨e1,e2⟩:=Prod.mk.inj e
  exact⟨(x+s0.1,y+s0.2.1,z+s0.2.2),by rw[<-e1];rfl⟩
 ·intro s hs
  obtain⟨s0,h0,rfl⟩:=a8.mp hs
  have h0:s0∈p.such Br.Place.isCell:=h0
  rw[nH h.sh (by rfl)] at h0
  have:=pX h0
  rw[BO]
  show (x<=x+s0.1/\x+s0.1<x+p.wide)/\(y<=y+s0.2.1/\y+s0.2.1<y+p.deep)/\(z<=z+s0.2.2/\z+s0.2.2<z+p.high)
  omega
theorem Cl{i j:Br.Shape}{ci cj:CL}(hi:zV i ci)(hj:zV j cj):Br.clash i j=true↔∃q v u,(q,v)∈ci/\(q,u)∈cj:=by
 unfold Br.clash
 rw[cq,m9]
 constructor
 ·rintro⟨_,s,h1,h2⟩
  rw[AR] at h2
  obtain⟨v,hv⟩:=(hi.c s).mp h1
  obtain⟨u,hu⟩:=(hj.c s).mp h2
  exact⟨_,v,u,hv,hu⟩
 ·rintro⟨q,v,u,hv,hu⟩
  obtain⟨s,rfl⟩:=hi.ps q v hv
  have m1:=(hi.c s).mpr ⟨v,hv⟩
  have m2:=(hj.c s).mpr ⟨u,hu⟩
  have b1:=hi.box s m1
  have b2:=hj.box s m2
  refine⟨?_,s,m1,AR.mpr m2⟩
  unfold Br.meet
  simp only[cq,ck]
  omega
theorem pN{i j:Br.Shape}{ci cj:CL}(hi:zV i ci)(hj:zV j cj):Br.stuck i j=true↔∃q v u,(q,v)∈ci/\fL v=true/\(qL q,u)∈cj/\dY u=false:=by
 unfold Br.stuck
 rw[cq,m9]
 constructor
 ·rintro⟨_,s,h1,h2⟩
  rw[cq,cx,<-rn,AR,AR] at h2
  obtain⟨v,hv,hs⟩:=(hi.st s).mp h1
  obtain⟨u,hu⟩:=(hj.c _).mp h2.1
  refine⟨_,v,u,hv,hs,hu,?_⟩
  cases e:dY u with
  |false=>rfl
  |true=>exact absurd ((hj.tb _).mpr ⟨u,hu,e⟩) h2.2
 ·rintro⟨q,v,u,hv,hs,hu,ht⟩
  obtain⟨s,rfl⟩:=hi.ps q v hv
  have m1:=(hi.c s).mpr ⟨v,hv⟩
  have m2:Br.above s∈j.cells:=(hj.c (Br.above s)).mpr ⟨u,hu⟩
  have b1:=hi.box s m1
  have b2:=hj.box _ m2
  refine⟨?_,s,(hi.st s).mpr ⟨v,hv,hs⟩,?_⟩
  ·unfold Br.meet
   simp only[cq,ck]
   unfold Br.above at b2
   simp only at b2
   omega
  ·rw[cq,cx,<-rn,AR,AR]
   refine⟨m2,λz=>?_⟩
   obtain⟨u2,BP,qx⟩:=(hj.tb _).mp z
   rw[Wb hj.nd hu (show (qL (cT s),u2)∈cj from BP),qx] at ht
   cases ht
structure aQ(zs:List (Br.Shape×CL))(sg ow:CL):Prop where
 rep:∀z∈zs,zV z.1 z.2
 sgO:∀q v,aZ sg q=some v↔∃(i:Nat)(z:Br.Shape×CL),zs[i]?=some z/\(q,v)∈z.2
 owO:∀q k,aZ ow q=some k↔∃(i:Nat)(z:Br.Shape×CL)(v:Int),zs[i]?=some z/\(q,v)∈z.2/\k=(i:Int)
theorem Mv{zs:List (Br.Shape×CL)}{f:Br.Shape->Bool}{L:List Int}(h:∀k:Int,k∈L↔∃(i:Nat)(z:Br.Shape×CL),zs[i]?=some z/\f z.1=true/\k=(i:Int)):
  (L=[]->(zs.map (·.1)).findIdx? f=none)/\(L≠[]->∃i:Nat,(zs.map (·.1)).findIdx? f=some i/\iM L=(i:Int)):=by
 constructor
 ·rintro rfl
  rw[O6]
  intro x hx
  obtain⟨z,hz,rfl⟩:=a8.mp hx
  obtain⟨i,hi⟩:=ox.mp hz
  cases e:f z.1 with
  |false=>rfl
  |true=>exact absurd ((h i).mpr ⟨i,z,hi,e,rfl⟩) dk
 ·intro aw
  have hm:=oG aw
  obtain⟨i,z,hi,hf,e⟩:=(h _).mp hm
  refine⟨i,?_,e⟩
  obtain⟨am,hz⟩:=bq.mp hi
  rw[O7]
  refine⟨by rw[ai];exact am,by rw[O8,hz];exact hf,λj hj=>?_⟩
  have DY:j<zs.length:=by omega
  rw[O8]
  intro UE
  have:=oS ((h (j:Int)).mpr ⟨j,zs[j],ay DY,UE,rfl⟩)
  omega
theorem Zh{zs:List (Br.Shape×CL)}{cl:CL}{sh:Br.Shape}(I:aQ zs sg ow)(hs:zV sh cl)(k:Int):k∈gI ow cl↔∃(i:Nat)(z:Br.Shape×CL),zs[i]?=some z/\Br.clash z.1 sh=true/\k=(i:Int):=by
 unfold gI
 rw[AC]
 constructor
 ·rintro⟨⟨q,u⟩,hc,e⟩
  obtain⟨i,z,v,hi,hv,rfl⟩:=(I.owO _ _).mp e
  exact⟨i,z,hi,(Cl (I.rep z (d9 hi)) hs).mpr ⟨q,v,u,hv,hc⟩,rfl⟩
 ·rintro⟨i,z,hi,js,rfl⟩
  obtain⟨q,v,u,hv,hu⟩:=(Cl (I.rep z (d9 hi)) hs).mp js
  exact⟨(q,u),hu,(I.owO _ _).mpr ⟨i,z,v,hi,hv,rfl⟩⟩
theorem aFo(q:Pl):qL (qC q)=q:=by
 unfold qL qC
 refine d6 rfl (d6 rfl ?_)
 show q.2.2 - 1+1=q.2.2
 omega
theorem aBx(q:Pl):qC (qL q)=q:=by
 unfold qL qC
 refine d6 rfl (d6 rfl ?_)
 show q.2.2+1 - 1=q.2.2
 omega
theorem Ia{c:Pl×Int}{k:Int}:k∈mX sg ow c↔fL c.2=true/\(∃s,aZ sg (qL c.1)=some s/\dY s=false)/\aZ ow (qL c.1)=some k:=by
 unfold mX
 cases e:aZ sg (qL c.1) with
 |none=>simp
 |some s=>
  simp only[Option.some.injEq,O9]
  split
  ·rename_i h
   rw[PB]
   exact⟨λz=>⟨h.1,h.2,z⟩,λz=>z.2.2⟩
  ·rename_i h
   exact⟨λz=>absurd z dk,λz=>absurd ⟨z.1,z.2.1⟩ h⟩
theorem Gu{c:Pl×Int}{k:Int}:k∈pP sg ow c↔dY c.2=false/\(∃s,aZ sg (qC c.1)=some s/\fL s=true)/\aZ ow (qC c.1)=some k:=by
 unfold pP
 cases e:aZ sg (qC c.1) with
 |none=>simp
 |some s=>
  simp only[Option.some.injEq,O9]
  split
  ·rename_i h
   rw[PB]
   exact⟨λz=>⟨h.1,h.2,z⟩,λz=>z.2.2⟩
  ·rename_i h
   exact⟨λz=>absurd z dk,λz=>absurd ⟨z.1,z.2.1⟩ h⟩
theorem Yo{zs:List (Br.Shape×CL)}{cl:CL}{sh:Br.Shape}(I:aQ zs sg ow)(hs:zV sh cl)(k:Int):k∈cZ cl sg ow↔∃(i:Nat)(z:Br.Shape×CL),zs[i]?=some z/\(Br.stuck z.1 sh||Br.stuck sh z.1)=true/\k=(i:Int):=by
 unfold cZ
 rw[J1]
 have one:∀{q:Pl}{i:Nat}{z:Br.Shape×CL}{v s k:Int},zs[i]?=some z->(q,v)∈z.2->aZ sg q=some s->s=v:=by
  intro q i z v s k hi hv e
  have:=(I.sgO q v).mpr ⟨i,z,hi,hv⟩
  rw[e] at this
  exact Option.some.inj this
 constructor
 ·rintro⟨⟨q,u⟩,hc,hk⟩
  rcases jp.mp hk with hk|hk
  ·obtain⟨h1,⟨s,e,h2⟩,h3⟩:=Ia.mp hk
   obtain⟨i,z,v,hi,hv,rfl⟩:=(I.owO _ _).mp h3
   have:=one (k:=0) hi hv e
   subst this
   refine⟨i,z,hi,?_,rfl⟩
   rw[ye]
   exact .inr ((pN hs (I.rep z (d9 hi))).mpr ⟨q,u,s,hc,h1,hv,h2⟩)
  ·obtain⟨h1,⟨s,e,h2⟩,h3⟩:=Gu.mp hk
   obtain⟨i,z,v,hi,hv,rfl⟩:=(I.owO _ _).mp h3
   have:=one (k:=0) hi hv e
   subst this
   refine⟨i,z,hi,?_,rfl⟩
   rw[ye]
   exact .inl ((pN (I.rep z (d9 hi)) hs).mpr ⟨qC q,s,u,hv,h2,by rw[aFo];exact hc,h1⟩)
 ·rintro⟨i,z,hi,fc,rfl⟩
  have hz:=I.rep z (d9 hi)
  rw[ye] at fc
  rcases fc with fc|fc
  ·obtain⟨q,v,u,hv,h1,hu,h2⟩:=(pN hz hs).mp fc
   refine⟨(qL q,u),hu,gi _ (Gu.mpr ⟨h2,⟨v,?_,h1⟩,?_⟩)⟩
   ·rw[aBx];exact(I.sgO _ _).mpr ⟨i,z,hi,hv⟩
   ·rw[aBx];exact(I.owO _ _).mpr ⟨i,z,v,hi,hv,rfl⟩
  ·obtain⟨q,v,u,hv,h1,hu,h2⟩:=(pN hs hz).mp fc
   refine⟨(q,v),hv,lx _ (Ia.mpr ⟨h1,⟨u,?_,h2⟩,?_⟩)⟩
   ·exact(I.sgO _ _).mpr ⟨i,z,hi,hu⟩
   ·exact(I.owO _ _).mpr ⟨i,z,u,hi,hu,rfl⟩
theorem Fv{cl:CL}{q:Pl}{k j:Int}:aZ (cl.map λc=>(c.1,j)) q=some k↔k=j/\∃v,(q,v)∈cl:=by
 constructor
 ·intro h
  obtain⟨c,hc,e⟩:=a8.mp (oR h)
  obtain⟨e1,e2⟩:=Prod.mk.inj e
  exact⟨e2.symm,c.2,by rw[<-e1];exact hc⟩
 ·rintro⟨rfl,v,hv⟩
  have hs:(aZ (cl.map λc=>(c.1,k)) q).isSome=true:=dR.mpr ⟨(q,k),a8.mpr ⟨_,hv,rfl⟩,rfl⟩
  obtain⟨u,e⟩:=vj.mp hs
  obtain⟨c,hc,e2⟩:=a8.mp (oR e)
  rw[e,<-(Prod.mk.inj e2).2]
theorem aQ.next{zs:List (Br.Shape×CL)}{cl:CL}{sh:Br.Shape}(I:aQ zs sg ow)(hs:zV sh cl)(h0:gI ow cl=[]):aQ (zs++[(sh,cl)]) (sg++cl) (ow++cl.map λc=>(c.1,(zs.length:Int))):=by
 have fr:∀q v,(q,v)∈cl->aZ ow q=none:=by
  intro q v hv
  cases e:aZ ow q with
  |none=>rfl
  |some k=>
   have:k∈gI ow cl:=AC.mpr ⟨_,hv,e⟩
   rw[h0] at this
   cases this
 have UF:∀q v,(q,v)∈cl->aZ sg q=none:=by
  intro q v hv
  cases e:aZ sg q with
  |none=>rfl
  |some k=>
   obtain⟨i,z,hi,hz⟩:=(I.sgO _ _).mp e
   have:=(I.owO q i).mpr ⟨i,z,k,hi,hz,rfl⟩
   rw[fr q v hv] at this
   cases this
 have ix:∀(i:Nat)(z:Br.Shape×CL),(zs++[(sh,cl)])[i]?=some z↔zs[i]?=some z\/(i=zs.length/\z=(sh,cl)):=by
  intro i z
  by_cases hi:i<zs.length
  ·rw[JF hi]
   exact⟨λh=>.inl h,λh=>h.elim id λh=>by omega⟩
  ·rw[JE (by omega)]
   constructor
   ·intro h
    have hl:=(bq.mp h).1
    rw[AH] at hl
    have:i=zs.length:=by omega
    subst this
    rw[CQ] at h
    exact .inr ⟨rfl,(Option.some.inj h).symm⟩
   ·rintro(h|⟨rfl,rfl⟩)
    ·exact absurd (bq.mp h).1 hi
    ·rw[CQ];rfl
 refine⟨λz hz=>?_,λq v=>?_,λq k=>?_⟩
 ·rcases jp.mp hz with hz|hz
  ·exact I.rep z hz
  ·rw[ie] at hz;subst hz;exact hs
 ·rw[yL]
  constructor
  ·intro h
   cases e:aZ sg q with
   |some u=>
    rw[e] at h
    have:u=v:=Option.some.inj h
    subst this
    obtain⟨i,z,hi,hz⟩:=(I.sgO _ _).mp e
    exact⟨i,z,(ix _ _).mpr (.inl hi),hz⟩
   |none=>
    rw[e] at h
    exact⟨_,_,(ix _ _).mpr (.inr ⟨rfl,rfl⟩),oR h⟩
  ·rintro⟨i,z,hi,hz⟩
   rcases(ix _ _).mp hi with hi|⟨rfl,rfl⟩
   ·rw[(I.sgO q v).mpr ⟨i,z,hi,hz⟩];rfl
   ·rw[UF q v hz,(Pc hs.nd).mpr hz];rfl
 ·rw[yL]
  constructor
  ·intro h
   cases e:aZ ow q with
   |some u=>
    rw[e] at h
    have:u=k:=Option.some.inj h
    subst this
    obtain⟨i,z,v,hi,hz,e2⟩:=(I.owO _ _).mp e
    exact⟨i,z,v,(ix _ _).mpr (.inl hi),hz,e2⟩
   |none=>
    rw[e] at h
    obtain⟨rfl,v,hv⟩:=Fv.mp h
    exact⟨_,_,v,(ix _ _).mpr (.inr ⟨rfl,rfl⟩),hv,rfl⟩
  ·rintro⟨i,z,v,hi,hz,rfl⟩
   rcases(ix _ _).mp hi with hi|⟨rfl,rfl⟩
   ·rw[(I.owO q i).mpr ⟨i,z,v,hi,hz,rfl⟩];rfl
   ·rw[fr q v hz,Fv.mpr ⟨rfl,v,hz⟩];rfl
def wrI(w:Option (Nat×Nat×Nat)):List Int:=w.elim [] λw=>[(w.1:Int),(w.2.1:Int),(w.2.2:Int)]
theorem qY(ok:∀pr∈aa,dI pr){x:List Nat}(hx:eF x 0<aa.length):zV (Br.Line.shape (aa.map cA) (fR x)) (dB aa x)/\(Br.Line.shape (aa.map cA) (fR x)).inRoom= !jP (uC aa x) (eF x 2) (eF x 3) (eF x 4):=by
 have e1:aa[eF x 0]?=some aa[eF x 0]:=ay hx
 have e2:Br.Line.of (aa.map cA) (fR x)=(cA aa[eF x 0]).turned (eF x 5):=by
  unfold Br.Line.of
  show ((aa.map cA).getD (eF x 0) Br.nothing).turned (eF x 5)=_
  rw[b8,a9,e1]
  rfl
 have r0:=pH (Jd (ok _ (o3 hx))) (eF x 5)
 have et:uC aa x=fC (jM aa[eF x 0]) (eF x 5):=by
  unfold uC
  rw[e1]
  rfl
 constructor
 ·unfold Br.Line.shape dB
  rw[e2,et]
  exact aA8 r0 (eF x 2) (eF x 3) (eF x 4) _ _ λs=>rfl
 ·unfold Br.Line.shape
  rw[e2,et]
  unfold jP
  rw[r0.w,r0.d,r0.h]
  show (decide (eF x 2+((cA aa[eF x 0]).turned (eF x 5)).wide<=64) && (decide (eF x 3+((cA aa[eF x 0]).turned (eF x 5)).deep<=64) && decide (eF x 4+((cA aa[eF x 0]).turned (eF x 5)).high<=96)))=_
  rw[io]
  simp only[cq,ck,cx,PD,l9]
  omega
theorem wI(ok:∀pr∈aa,dI pr):∀{ls:List (List Nat)} {zs:List (Br.Shape×CL)} {sg ow:CL},(∀x∈ls,eF x 0<aa.length)->aQ zs sg ow->
  cP aa zs.length sg ow ls=wrI (Br.wrongLines zs.length (zs.map (·.1)) (ls.map λx=>Br.Line.shape (aa.map cA) (fR x)))
 |[],zs,sg,ow,_,_=>rfl
 |x::r,zs,sg,ow,hx,I=>by
  obtain⟨sr,tj⟩:=qY ok (hx x bf)
  rw[cP,bp,Br.wrongLines]
  generalize Br.Line.shape (aa.map cA) (fR x)=sh at sr tj
  have im:=Mv (f:=λi=>Br.clash i sh) (λk=>Zh I sr k)
  have ib:=Mv (f:=λi=>Br.stuck i sh||Br.stuck sh i) (λk=>Yo I sr k)
  cases hl:jP (uC aa x) (eF x 2) (eF x 3) (eF x 4) with
  |true=>
   rw[hl] at tj
   rw[af rfl]
   have:Br.wrongLine (zs.map (·.1)) zs.length sh=some (1,zs.length):=by
    unfold Br.wrongLine
    rw[af (show sh.inRoom=false from tj)]
   rw[this]
   rfl
  |false=>
   rw[hl] at tj
   rw[ae (by decide)]
   have tj:¬sh.inRoom=false:=by rw[tj];decide
   by_cases h1:gI ow (dB aa x)=[]
   ·rw[ae (by rw[h1];decide)]
    have f1:=im.1 h1
    by_cases h2:cZ (dB aa x) sg ow=[]
    ·rw[ae (by rw[h2];decide)]
     have f2:=ib.1 h2
     have hw:Br.wrongLine (zs.map (·.1)) zs.length sh=none:=by
      unfold Br.wrongLine
      rw[ae tj,f1]
      show (match List.findIdx? _ _ with|some i=>some (3,i)|none=>none)=none
      rw[f2]
     rw[hw]
     have ih:=wI ok (ls:=r) (zs:=zs++[(sh,dB aa x)]) (λy hy=>hx y (a7 _ hy)) (I.next sr h1)
     rw[b6,AH,b7] at ih
     exact ih
    ·rw[af (PF.mpr h2)]
     obtain⟨i,f2,e⟩:=ib.2 h2
     have hw:Br.wrongLine (zs.map (·.1)) zs.length sh=some (3,i):=by
      unfold Br.wrongLine
      rw[ae tj,f1]
      show (match List.findIdx? _ _ with|some i=>some (3,i)|none=>none)=some (3,i)
      rw[f2]
     rw[hw,e]
     rfl
   ·rw[af (PF.mpr h1)]
    obtain⟨i,f1,e⟩:=im.2 h1
    have hw:Br.wrongLine (zs.map (·.1)) zs.length sh=some (2,i):=by
     unfold Br.wrongLine
     rw[ae tj,f1]
    rw[hw,e]
    rfl
theorem sW(ok:∀pr∈aa,dI pr)(hx:∀x∈ls,eF x 0<aa.length){d:Br.Build}(hd:d.lines=ls.map fR):cP aa 0 [] [] ls=wrI (d.wrong (aa.map cA)):=by
 have I0:aQ [] [] []:=⟨λz hz=>absurd hz dk,λq v=>(by simp[aZ]),λq k=>(by simp[aZ])⟩
 have:=wI ok (ls:=ls) hx I0
 unfold Br.Build.wrong Br.Build.shapes
 rw[hd,dh]
 exact this
def Dz(n:Nat)(x:List Nat):Prop:=x.length=6/\eF x 0<n
theorem Vl{q:List Nat×Nat}(h:eG aj l p=.ok q):Dz aj.length q.1:=by
 unfold eG at h
 obtain⟨p1,_,h⟩:=aL h
 obtain⟨n,en,h⟩:=aL h
 obtain⟨r,er,h⟩:=aL h
 obtain⟨_,_,h⟩:=aL h
 cases h
 refine⟨?_,?_⟩
 ·rw[bh,rJ (r:=r) er]
  rfl
 ·show n.1<aj.length
  unfold tX at en
  split at en
  ·rename_i hm
   cases en
   exact OS ⟨_,hm,by simp⟩
  ·cases en
theorem Bm:∀{n p:Nat} {q:List (List Nat)×Nat},cG aj l n p=.ok q->∀x∈q.1,Dz aj.length x
 |0,p,q,h=>by cases h;intro x hx;cases hx
 |n+1,p,q,h=>by
  rw[cG] at h
  split at h
  ·cases h;intro x hx;cases hx
  ·obtain⟨q1,e1,h⟩:=aL h
   obtain⟨q2,e2,rfl⟩:=fG h
   intro x hx
   rcases ao.mp hx with rfl|hx
   ·exact Vl e1
   ·exact Bm e2 x hx
theorem Rg{b:List Int×List (List Nat)}(h:dJ aj l=.ok b):∀x∈b.2,Dz aj.length x:=by
 unfold dJ at h
 obtain⟨_,_,h⟩:=aL h
 obtain⟨_,_,h⟩:=aL h
 obtain⟨_,_,h⟩:=aL h
 obtain⟨r,er,h⟩:=aL h
 split at h
 ·cases h;exact Bm er
 ·cases h
theorem Fc{lc lb:List Int}{aa:List aM}{nm:List Int}{ls:List (List Nat)}(h:dF lc lb=.ok aa nm ls):∀x∈ls,Dz aa.length x:=by
 unfold dF at h
 split at h
 ·cases h
 ·split at h
  ·cases h
  ·split at h
   ·split at h
    ·cases h
    ·rename_i e
     cases h
     have:=Rg e
     rw[ai] at this
     exact this
   ·cases h
end Br1
namespace Br1
open PySem PySem.Spec PyProof.Rows L2
def yS(f:Pl->Pl)(cs:CL):CL:=cs.map λc=>(f c.1,c.2)
theorem wS{p:Pl}{s:Int}(nd:(cs.map (·.1)).Nodup)(e:cs[i]?=some (p,s)):∀c∈cs.take i,c.1≠p:=by
 obtain⟨hi,e⟩:=bq.mp e
 have hd:cs.drop i=(p,s)::cs.drop (i+1):=by rw[EZ hi,e]
 have h2:=nd
 rw[<-List.take_append_drop i cs,hd,b7,J0] at h2
 intro c hc
 exact h2.2.2 c.1 (qe hc) p (by simp)
theorem Xd(cl:CL)(q:Pl)(v:Int):aJ cl++[(eJ q.1 q.2.1 q.2.2,V.int v)]=aJ (cl++[(q,v)]):=by
 unfold aJ
 rw[b7]
 rfl
theorem Nv{cl:CL}{q:Pl}{v:Int}(h:aZ cl q=none):kJ (aJ cl) (eJ q.1 q.2.1 q.2.2) (V.int v)=aJ (cl++[(q,v)]):=by
 rw[sJ _ (by rw[kY,h];rfl),Xd]
theorem An{cl:CL}{q:Pl}(h:∀c∈cl,c.1≠q):aZ cl q=none:=by
 cases e:aZ cl q with
 |none=>rfl
 |some v=>
  obtain⟨c,hc,e2⟩:=dR.mp (by rw[e];rfl:(aZ cl q).isSome=true)
  exact absurd e2 (h c hc)
theorem Mg{f:Pl->Pl}(inj:∀a b,f a=f b->a=b){p:Pl}{s:Int}(nd:(cs.map (·.1)).Nodup)(e:cs[i]?=some (p,s)):kJ (aJ (yS f (cs.take i))) (eJ (f p).1 (f p).2.1 (f p).2.2) (V.int s)=aJ (yS f (cs.take (i+1))):=by
 rw[Nv]
 ·rw[jh,e]
  unfold yS
  rw[b7]
  rfl
 ·refine An λc hc z=>?_
  obtain⟨c0,h0,rfl⟩:=a8.mp hc
  exact wS nd e c0 h0 (inj _ _ z)
theorem Hv(W:Int)(a b:Pl)(e:gA W a=gA W b):a=b:=by
 obtain⟨x,y,z⟩:=a
 obtain⟨u,v,w⟩:=b
 unfold gA at e
 simp only[Prod.mk.injEq] at e ⊢
 omega
theorem Ra(x y z:Int)(p q:Pl)(e:mM x y z p=mM x y z q):p=q:=by
 obtain⟨a,b,c⟩:=p
 obtain⟨u,v,w⟩:=q
 unfold mM at e
 simp only[Prod.mk.injEq] at e ⊢
 omega
theorem aAi{f:Pl->Pl}(inj:∀a b,f a=f b->a=b)(nd:(cs.map (·.1)).Nodup):((yS f cs).map (·.1)).Nodup:=by
 unfold yS
 rw[dh]
 have:(cs.map ((·.1)∘λc:Pl×Int=>(f c.1,c.2)))=(cs.map (·.1)).map f:=by rw[dh];rfl
 rw[this]
 exact ue _ (λa b h z=>h (inj a b z)) nd
theorem Fl(f:Pl->Pl)(cs:CL):(yS f cs).length=cs.length:=ai _
theorem iS(cs:CL):(aJ cs).length=cs.length:=by unfold aJ;rw[ai]
structure sA(t:TP):Prop where
 nd:(t.cs.map (·.1)).Nodup
 ln:t.cs.length<20000
theorem sA.once{t:TP}(h:sA t):sA (Mn t):=⟨aAi (Hv t.W) h.nd,by show (Tk t.W t.cs).length<20000;unfold Tk;rw[ai];exact h.ln⟩
theorem sA.turns{t:TP}(h:sA t):∀n,sA (fC t n)
 |0=>h
 |n+1=>(sA.turns h n).once
theorem six{x:List Nat}(h:x.length=6):∃a b c d e f,x=[a,b,c,d,e,f]:=by
 match x,h with
 |[a,b,c,d,e,f],_=>exact⟨a,b,c,d,e,f,rfl⟩
theorem On{c:Addr}{u:HO}{od:Obj}(h:H c=some u)(hd:H d=none){o:HO}(s:SX d (upd (upd H d o) c (.frz od u)) H'):aK H (upd H' c u):=λb ob e=>by
 have nb:=aD e hd
 by_cases hb:b=c
 ·rw[hb] at e ⊢
  rw[aB,<-e,h]
 ·rw[aC hb]
  exact s b ob (by rw[aC hb,aC nb];exact e) nb
variable{K:Frag}
def Kk(CP:Addr)(H:Hp)(b nm:Addr)(g:Int)(t:TP):Prop:=zX CP H b nm t.W t.D t.Hh g t.cs
def Ld(CP:Addr):Sp:=λvs H Q _=>∃(b nm:Addr)(g:Int)(t:TP),vs=[.ref b]/\Kk CP H b nm g t/\sA t/\∀(H':Hp)(b':Addr),aK H H'->Kk CP H' b' nm g (Mn t)->Q (.ref b') H'
theorem vK:aN ["part","cells","place","sign"] ["part"] (aG Nf):=⟨rfl,rfl,rfl,by decide+kernel,rfl,by decide+kernel,by decide+kernel⟩
theorem aAn(F:fH K "turned_once" "turned_once" Nf f fd)(T':Po K CP)(PM:PtM P w K mg base CP):bV P w K mg base bU 3 f fd ["part"] (Ld CP):=by
 obtain⟨fp,fdp,MP,GP,bP⟩:=PM.ex
 refine F.ok vK (λvs H Q E h=>?_) (λak A outer s H vs Q E hr h=>?_)
 ·obtain⟨b,nm,g,t,rfl,_⟩:=h
  rfl
 ·obtain⟨b,nm,g,⟨W,D,Hh,cs⟩,rfl,⟨dx,c,hb,hc⟩,⟨nd,ln⟩,k⟩:=h
  have hb:H b=some (.ins CP dx (Sj nm W D Hh g c)):=hb
  have hc:H c=some (.dT (aJ cs)):=hc
  have ln:cs.length<20000:=ln
  have ba:=hr.mono (j:=2) (by decide)
  have hu:=kH hr
  refine⟨_,aF (bI (i:=1) vK.nd rfl (Or.inl rfl) nB)
   (aF (mJ (eM ke rfl (lE (aT (pv 0) rfl)) (nE rfl (dM (bH (i:=2) vK.nd rfl (Or.inl rfl)) (dM (bH (i:=3) vK.nd rfl (Or.inl rfl)) jU)))
    (aH (lP hu (pv 1) (eD (aA (bQ bE (pv 2) aI (λ_ _=>rfl)) (aA (cI eY (cI eY (aT (pv 0) rfl) aI) (bQ bE (pv 2) aI (λ_ _=>rfl))) (aA (bQ bE (pv 2) aI (λ_ _=>rfl)) aE)))) (pv 3) rfl))))
   (aH (aU (oV MP GP ba (by rfl) PM.mg bP .nil aX (aA (aT (pv 0) rfl) (aA (aT (pv 0) rfl) (aA (aT (pv 0) rfl) (aA (aT (pv 0) rfl) (aA (aT (pv 0) rfl) (aA (pv 1) aE)))))))))),?_⟩
  intro d hd
  have S0:aK H (upd H d (.dT [])):=aK.new hd
  have UG:b≠d:=aD hb hd
  have tm:c≠d:=aD hc hd
  have xi:b≠c:=λz=>by rw[z,hc] at hb;cases hb
  have bw:=aY
  refine⟨c,_,S0 _ _ hc,trivial,λod=>?_⟩
  have il:upd (upd H d (.dT [])) c (.frz od (.dT (aJ cs))) c=some (.frz od (.dT (aJ cs))):=aB
  have qy:upd (upd H d (.dT [])) c (.frz od (.dT (aJ cs))) b=some (.ins CP dx (Sj nm W D Hh g c)):=by rw[aC xi];exact S0 _ _ hb
  have om:upd (upd H d (.dT [])) c (.frz od (.dT (aJ cs))) d=some (.dT []):=by rw[aC (ax tm),aB]
  refine⟨_,rfl,b,CP,dx,_,_,rfl,qy,T'.cl,T'.n6,rfl,c,od,_,rfl,il,?_⟩
  refine iX (λi σ H'=>∃v2 v3,σ=[some (.ref b),some (.ref d),v2,v3]/\SX d (upd (upd H d (.dT [])) c (.frz od (.dT (aJ cs)))) H'/\H' d=some (.dT (aJ (yS (gA W) (cs.take i))))) ⟨none,none,rfl,SX.refl _ _,om⟩ ?_ ?_ ?_
  ·rintro i σ H1 hi ⟨v2,v3,rfl,S1,_⟩
   exact S1 _ _ il tm
  ·rintro i σ H1 T k v q e ⟨v2,v3,rfl,S1,oj⟩ hT hq
   obtain⟨p,sg,e1,rfl,rfl⟩:=iR e
   have ST:=aK.new (o:=.tup [.ref q,.int sg]) hT
   refine⟨T,_,rfl,cM.of aB,rfl,_,_,rfl,_,_,rfl,rfl,?_⟩
   have ik:=ST _ _ hq
   have j1:=ST _ _ (S1 _ _ qy UG)
   have jc:=ST _ _ oj
   generalize upd H1 T (.tup [.ref q,.int sg])=H2 at ST ik j1 jc
   refine⟨_,rfl,_,rfl,_,rfl,q,_,_,_,rfl,rfl,cM.of ik,rfl,_,rfl,b,CP,dx,_,_,rfl,j1,T'.cl,T'.n2,rfl,_,_,rfl,rfl,_,rfl,q,_,_,_,rfl,rfl,cM.of ik,rfl,_,_,rfl,rfl,_,rfl,q,_,_,_,rfl,rfl,cM.of ik,rfl,(by show 3<=sizeLine;decide),λt ht=>?_⟩
   have SQ:=aK.new (o:=.tup [.int p.2.1,.int (W - 1 - p.1),.int p.2.2]) ht
   have hi:i<cs.length:=(bq.mp e1).1
   refine⟨d,_,rfl,tK.tt (k:=eJ p.2.1 (W - 1 - p.1) p.2.2) (SQ _ _ jc) aB (by rw[iS,Fl,fj];omega),?_⟩
   refine⟨_,_,rfl,λb' o e' n'=>?_,?_⟩
   ·rw[aC n']
    exact SQ _ _ (ST _ _ (S1 _ _ e' n'))
   ·rw[aB]
    exact congrArg (λz=>some (HO.dT z)) (Mg (Hv W) nd e1)
  ·rintro σ H1 ⟨v2,v3,rfl,S1,oj⟩
   rw[iS,ji] at oj
   refine⟨S1 _ _ il tm,?_⟩
   have S2:=On hc hd S1
   have jc:upd H1 c (.dT (aJ cs)) d=some (.dT (aJ (yS (gA W) cs))):=by rw[aC (ax tm)];exact oj
   generalize upd H1 c (.dT (aJ cs))=H2 at S2 jc
   have j1:=S2 _ _ hb
   refine⟨_,rfl,b,CP,dx,_,_,rfl,j1,T'.cl,T'.n1,rfl,_,rfl,b,CP,dx,_,_,rfl,j1,T'.cl,T'.n3,rfl,_,rfl,b,CP,dx,_,_,rfl,j1,T'.cl,T'.n2,rfl,_,rfl,b,CP,dx,_,_,rfl,j1,T'.cl,T'.n4,rfl,_,rfl,b,CP,dx,_,_,rfl,j1,T'.cl,T'.n5,rfl,_,rfl,?_⟩
   intro b' db mi gn aw
   refine⟨b',db,nm,d,D,W,Hh,g,rfl,aB,λH3 w9 s3=>⟨rfl,?_⟩⟩
   have xc:∀y o,H2 y=some o->H3 y=some o:=λy o e=>s3 y o (by rw[aC (aD e mi),aC (aD e gn)];exact e) (aD e mi)
   exact k H3 b' (λy o e=>xc y o (S2 y o e)) ⟨db,d,w9,xc _ _ jc⟩
def nL(CP:Addr):Sp:=λvs H Q _=>∃(b nm:Addr)(g:Int)(t:TP)(n:Nat),vs=[.ref b,.int (n:Int)]/\n<=100/\Kk CP H b nm g t/\sA t/\∀(H':Hp)(b':Addr),aK H H'->Kk CP H' b' nm g (fC t n)->Q (.ref b') H'
theorem tP:aN ["part","turns","turn"] ["part","turns"] (aG wB):=⟨rfl,rfl,rfl,by decide+kernel,rfl,by decide+kernel,by decide+kernel⟩
theorem Ri(F:fH K "turned_part" "turned_part" wB f fd)(w8:mg "range"=none)(L1:dL P w K mg base "turned_once" bU 3 ["part"] (Ld CP)):bV P w K mg base bU 4 f fd ["part","turns"] (nL CP):=by
 obtain⟨g1,gr,G1,b1,k1,h1⟩:=L1.ex
 refine F.ok tP (λvs H Q E h=>?_) (λak A outer s H vs Q E hr h=>?_)
 ·obtain⟨b,nm,g,t,n,rfl,_⟩:=h
  rfl
 ·obtain⟨b,nm,g,t,n,rfl,hn,ht,tok,k⟩:=h
  refine⟨_,aF (eM ke rfl (oP rfl w8 (aA (pv 1) aE)) (bH (i:=2) tP.nd rfl (Or.inl rfl))
    (aH (bI (i:=0) tP.nd rfl (Or.inl rfl) (aP G1 hr (by rfl) h1 k1 b1 .nil aX (aA (pv 0) aE)))))
   (aH (aU (pv 0))),?_⟩
  refine⟨_,rfl,_,rfl,by omega,by omega,mK (n:=n) (λi σ H'=>∃b' v2,σ=[some (.ref b'),some (.int (n:Int)),v2]/\aK H H'/\Kk CP H' b' nm g (fC t i)) ⟨b,none,rfl,aK.id' _,ht⟩ ?_ ?_⟩
  ·rintro i σ H1 hi ⟨b',v2,rfl,S1,h1⟩
   exact⟨_,rfl,b',nm,g,fC t i,rfl,h1,tok.turns i,λH2 b2 S2 h2=>⟨b2,_,rfl,S1.trans S2,h2⟩⟩
  ·rintro σ H1 ⟨b',v2,rfl,S1,h1⟩
   exact⟨_,rfl,k H1 b' S1 h1⟩
end Br1
namespace L2
open PySem PySem.Spec PyProof.Rows
def vH(D:gH)(d:Addr)(o:Obj)(u:HO):gH:=⟨λah H'=>H' d=some (.frz o u)/\D.nx ah (upd H' d u),λv H'=>H' d=some (.frz o u)/\D.rt v (upd H' d u),λah H'=>H' d=some (.frz o u)/\D.bk ah (upd H' d u),λah H'=>H' d=some (.frz o u)/\D.ct ah (upd H' d u)⟩
def aEv(td:TE)(g:TG)(tb:TS):TS:=λD σ H=>td σ H λx H1=>∃d aJ,x=.ref d/\H1 d=some (.dT aJ)/\∀o,∃W:Nat->Nat->St->Hp->Prop,(∃m,W 0 m σ (upd H1 d (.frz o (.dT aJ))))/\∀i m σ H,W i m σ H->
 ((Lb d o aJ).stop i H/\(vH D d o (.dT aJ)).nx σ H)\/((Lb d o aJ).go i H/\∃N:St->Hp->Prop,(∀ah H',N ah H'->∃m',m'<m/\W (i+1) m' ah H')/\∀x H',(Lb d o aJ).yld i H x H'->g x σ H' λau H2=>tb {vH D d o (.dT aJ) with nx:=N,ct:=N,bk:=(vH D d o (.dT aJ)).nx} au H2)
def aEt(X:Cx)(D:gH)(σ:St)(g:TG)(tb:TS):It->Hp->Prop:=λJ H'=>∃d aJ o,J=Lb d o aJ/\(∀o' u',X.H_0 d≠some (.frz o' u'))/\
   ∃W:Nat->Nat->St->Hp->Prop,(∃m,W 0 m σ H')/\∀i m σ H,W i m σ H->((Lb d o aJ).stop i H/\(vH D d o (.dT aJ)).nx σ H)\/((Lb d o aJ).go i H/\∃N:St->Hp->Prop,(∀ah H',N ah H'->∃m',m'<m/\W (i+1) m' ah H')/\∀x H',(Lb d o aJ).yld i H x H'->g x σ H' λau H2=>tb {vH D d o (.dT aJ) with nx:=N,ct:=N,bk:=(vH D d o (.dT aJ)).nx} au H2)
theorem Ze{td:TE}{ig gf:Pos}{ju:List Expr}{kk:Nat}{body:List Stmt}(hp:PassesOwn (model X.prog X.w) X.A X.env X.xe)(hc:X.calm=true)(he:PE X e td)(hg:PG X (.Tuple ju kk i3) g)(hb:Ce X body tb)
  (sd:attributeBase e "items" X.env (eval e X.env)=eval e X.env:=by rfl) (wq:(ig.endLine==gf.line)=true:=by rfl) (hs:∀x,foldedSetIterable (.Call (.Attribute e "items" ig) [] [] gf) X.env x=pure x:=by intro _;rfl):
  PS X (.For (.Tuple ju kk i3) (.Call (.Attribute e "items" ig) [] [] gf) body [] pos) (aEv td g tb):=by
 intro U s σ H D I h
 have hi:wpAny (model X.prog X.w) X.A (eval (.Call (.Attribute e "items" ig) [] [] gf) X.env) (λv s1=>wpAny (model X.prog X.w) X.A (pyIter v) (PIE X U σ (.Tuple ju kk i3) (aEt X D σ g tb)) X.xe s1) X.xe s:=by
  refine wpAny_Call_method (T:="dict") (id:="dict.items") sd rfl wq F.plainAttrs_dict E4 F.type_dict_items (cX (he U s σ H _ I h) λu s1 ⟨x,H0,I0,rx,d,aJ,ex,MK,q⟩=>?_)
  subst ex
  obtain rfl:u=Value.ref d:=rx
  have hn:=I0.nofrz MK trivial
  obtain⟨o,I1⟩:=I0.lock MK trivial
  have hd:upd H0 d (.frz o (.dT aJ)) d=some (.frz o (.dT aJ)):=aB
  obtain⟨hs,gg,hx,es,ep,cf,hsz,qo⟩:=I1.frzT2 hd
  have j0:s1.TypeIs (.ref d) "dict":=⟨o,gg,hx.1⟩
  refine⟨j0,λb q=>by cases q;exact⟨o,gg,hx.2.1⟩,?_⟩
  have I2:aQ X U σ (upd H0 d (.frz o (.dT aJ))) {s1 with heap:=s1.heap.push {cls:=.type "dict_items",data:=.fields #[.ref d]}}:=I1.kept (t':=s1.toks) λb ob q=>bj _ q
  have fin:wpAny (model X.prog X.w) X.A (pyIter (.ref s1.heap.objs.size)) (PIE X U σ (.Tuple ju kk i3) (aEt X D σ g tb)) X.xe {s1 with heap:=s1.heap.push {cls:=.type "dict_items",data:=.fields #[.ref d]}}:=
   Hu (d:=d) (n:=aJ.length) ⟨_,cg _ rfl,rfl,rfl⟩ (bj _ gg) cf hsz (tT (tk:=s1.toks) I2 _ (uQ _ cf) ⟨.none,.none,cg _ rfl⟩ ⟨d,aJ,o,rfl,hn,q o⟩)
  show wpAny _ _ (callWith gf (.builtin "dict.items") [.ref d] [] []) _ X.xe s1
  exact method_meetsIn E4 F.entry_dict_items rfl (PySem.evalArgs_none ⟨rfl,j0,F.args_dict_items_1 _,_,Bv hs,j0,fin⟩)
 refine wpAny_For (cX hi λv s1 h1=>cX h1 λC4 s2 h2=>?_) hs
 obtain⟨it,fp,tn,J,H2,e,I2,T,y8,f2,d,aJ,o,rfl,hn,W,⟨m0,w0⟩,turn⟩:=h2
 subst e
 have stat:∀{H':Hp},(∀b∈fp,H' b=none)->∀b∈fp,jF X U H' b:=λhn b hb=>⟨hn b hb,(f2 b hb).2⟩
 refine codeAny_forLoop_any (λn s'=>∃i ah H',aQ X U ah H' s'/\tn i s'.heap/\(∀b∈fp,H' b=none)/\W i n ah H') ?_ m0 ⟨0,σ,H2,I2,y8,λb hb=>(f2 b hb).1,w0⟩
 rintro n s3 ⟨i,jr,H3,I3,wm,AW,w3⟩
 rcases turn i n jr H3 w3 with ⟨stop,qn⟩|⟨go,N,hN,step⟩
 ·refine wpAny_passesOwn hp (cX (T.done X rfl rfl rfl hc i U s3 jr H3 X.xe I3 (stat AW) wm stop) λr s4 ⟨hr,I4⟩=>?_)
  subst hr
  exact yc ⟨jr,_,I4.unlock qn.1 hn,qn.2⟩
 ·refine wpAny_passesOwn hp (cX (T.item X rfl rfl rfl hc i U s3 jr H3 X.xe I3 (stat AW) wm go) λr s4 ⟨u,hr,h4⟩=>?_)
  subst hr
  refine wpAny_passesOwn hp (cX h4 λ_ s5 ⟨x,H5,I5,r5,y5,qi,FP⟩=>?_)
  have FQ:=I5.pinned (stat FP) (T.obj _ _ qi)
  refine wpAny_passesOwn hp (cX (hg _ s5 jr H5 x u _ FQ r5 (step x H5 y5)) λ_ s6 ⟨C5,H6,I6,q6⟩=>?_)
  refine wpAny_passesOwn hp (cX (hb _ s6 C5 H6 _ I6 q6) λf s7 q7=>?_)
  have again:∀{gj:St}{H7:Hp},aQ X (U++tG fp s5.heap) gj H7 s7->N gj H7->∃m,m<n/\∃i ah H',aQ X U ah H' s7/\tn i s7.heap/\(∀b∈fp,H' b=none)/\W i m ah H':=λ{gj H7} I7 n7=>by
   obtain⟨m',hm,w7⟩:=hN gj H7 n7
   refine⟨m',hm,i+1,gj,H7,I7.unpinned,T.keep _ _ _ qi λb hb o e=>(I7.pin (b,o) (gi _ (gi _ (jE hb e)))).1,λb hb=>?_,w7⟩
   obtain⟨o,e,d⟩:=T.obj _ _ qi b hb
   exact(I7.pin (b,o) (gi _ (gi _ (jE hb e)))).2.1
  cases f with
  |next=>obtain⟨gj,H7,I7,n7⟩:=q7;exact again I7 n7
  |cont=>obtain⟨gj,H7,I7,n7⟩:=q7;exact again I7 n7
  |brk=>obtain⟨gj,H7,I7,q7⟩:=q7;exact⟨gj,_,I7.unpinned.unlock q7.1 hn,q7.2⟩
  |ret v=>obtain⟨x7,gj,H7,I7,r7,q7⟩:=q7;exact⟨x7,gj,_,I7.unpinned.unlock q7.1 hn,r7,q7.2⟩
end L2
namespace Br1
section
open Classical
end
theorem Oy{p:Br.Part}(ok:zO p)(f:Br.Place->Bool):(p.such f).Nodup:=by
 unfold Br.Part.such
 have sl:List.Sublist (((p.spots.zip p.places).filter λ(s:kZ×Br.Place)=>f s.2).map λ(s:kZ×Br.Place)=>s.1) ((p.spots.zip p.places).map Prod.fst):=OZ _ O1
 refine sl.nodup ?_
 rw[O2 (by rw[rZ ok.w ok.d,ai,AQ,ok.l];exact ap _),rZ ok.w ok.d]
 refine ue _ ?_ O3
 intro a b h z
 have e1:=mG (w:=p.wide) (d:=p.deep) (i:=a) rfl
 have e2:=mG (w:=p.wide) (d:=p.deep) (i:=b) (x:=(fP p.wide p.deep a).1) (y:=(fP p.wide p.deep a).2.1) (z:=(fP p.wide p.deep a).2.2) z.symm
 exact h (e1.trans e2.symm)
structure SNd(sh:Br.Shape):Prop where
 c:sh.cells.Nodup
 s:sh.studs.Nodup
theorem aDg{p:Br.Part}(ok:zO p)(l:Br.Line)(im:Bool):SNd ⟨(l.x,l.y,l.z),(p.wide,p.deep,p.high),im,p.cells.map l.put,p.studs.map l.put,p.tubes.map l.put⟩:=by
 have inj:∀a b:kZ,l.put a=l.put b->a=b:=by
  rintro⟨a,b,c⟩ ⟨u,v,w⟩ e
  unfold Br.Line.put at e
  simp only[Prod.mk.injEq] at e ⊢
  omega
 exact⟨ue _ (λa b h z=>h (inj a b z)) (Oy ok _),ue _ (λa b h z=>h (inj a b z)) (Oy ok _)⟩
abbrev ZS:=List (Br.Shape×CL)
def sgZ(zs:ZS):CL:=zs.flatMap (·.2)
def Dv:Nat->List CL->CL
 |_,[]=>[]
 |j,c::r=>(c.map λx=>(x.1,(j:Int)))++Dv (j+1) r
def owZ(zs:ZS):CL:=Dv 0 (zs.map (·.2))
theorem Mf:∀(j:Nat)(a b:List CL),Dv j (a++b)=Dv j a++Dv (j+a.length) b
 |j,[],b=>rfl
 |j,c::r,b=>by
  show _++Dv (j+1) (r++b)=(_++Dv (j+1) r)++Dv (j+(r.length+1)) b
  rw[Mf (j+1) r b,ma,show j+1+r.length=j+(r.length+1) by omega]
theorem zJ(zs:ZS)(z:Br.Shape×CL):owZ (zs++[z])=owZ zs++z.2.map λc=>(c.1,(zs.length:Int)):=by
 unfold owZ
 rw[b7,Mf,ai,ou]
 show _++(_++[])=_
 rw[fh]
theorem xR(zs:ZS)(z:Br.Shape×CL):sgZ (zs++[z])=sgZ zs++z.2:=by
 unfold sgZ
 rw[CV]
 simp
structure Kc(zs:ZS):Prop where
 inv:aQ zs (sgZ zs) (owZ zs)
 snd:∀z∈zs,SNd z.1
def xJ(aa:List aM)(ls:List (List Nat)):ZS:=ls.map λx=>(Br.Line.shape (aa.map cA) (fR x),dB aa x)
theorem Wi(ok:∀pr∈aa,dI pr){x:List Nat}(hx:eF x 0<aa.length):SNd (Br.Line.shape (aa.map cA) (fR x)):=by
 have e1:aa[eF x 0]?=some aa[eF x 0]:=ay hx
 have e2:Br.Line.of (aa.map cA) (fR x)=(cA aa[eF x 0]).turned (eF x 5):=by
  unfold Br.Line.of
  show ((aa.map cA).getD (eF x 0) Br.nothing).turned (eF x 5)=_
  rw[b8,a9,e1]
  rfl
 have r0:=pH (Jd (ok _ (o3 hx))) (eF x 5)
 unfold Br.Line.shape
 rw[e2]
 exact aDg r0.sh _ _
theorem uI(ok:∀pr∈aa,dI pr):∀{ls:List (List Nat)} {zs:ZS},(∀x∈ls,eF x 0<aa.length)->Kc zs->cP aa zs.length (sgZ zs) (owZ zs) ls=[]->Kc (zs++xJ aa ls)
 |[],zs,_,R,_=>by
  show Kc (zs++[])
  rw[fh]
  exact R
 |x::r,zs,hx,R,h=>by
  obtain⟨sr,_⟩:=qY ok (hx x bf)
  have sn:=Wi ok (hx x bf)
  rw[cP] at h
  split at h
  ·cases h
  ·split at h
   ·cases h
   ·rename_i h1
    split at h
    ·cases h
    ·have h0:gI (owZ zs) (dB aa x)=[]:=yn (by omega)
     have R2:Kc (zs++[(Br.Line.shape (aa.map cA) (fR x),dB aa x)]):=by
      refine⟨?_,λz hz=>?_⟩
      ·rw[xR,zJ]
       exact R.inv.next sr h0
      ·rcases jp.mp hz with hz|hz
       ·exact R.snd z hz
       ·rw[ie] at hz
        subst hz
        exact sn
     have:=uI ok (ls:=r) (zs:=zs++[(Br.Line.shape (aa.map cA) (fR x),dB aa x)]) (λy hy=>hx y (a7 _ hy)) R2 (by rw[xR,zJ,b6,AH];exact h)
     rw[ma] at this
     exact this
theorem Lz(ok:∀pr∈aa,dI pr)(hx:∀x∈ls,eF x 0<aa.length)(h:cP aa 0 [] [] ls=[]):Kc (xJ aa ls):=by
 have I0:Kc []:=⟨⟨λz hz=>absurd hz dk,λq v=>(by simp[aZ,sgZ]),λq k=>(by simp[aZ,owZ,Dv])⟩,λz hz=>absurd hz dk⟩
 exact uI ok hx I0 h
noncomputable def xL(x:List Nat):List Int:=x.map λ(n:Nat)=>(n:Int)
noncomputable def rS(y:List Int):List Nat:=y.map Int.toNat
noncomputable def iN(y:List Int)(k:Nat):Int:=y.getD k 0
noncomputable def iD(aa:List aM)(p r:Nat):Int×Int×Int:=match aa[p]? with
 |some pr=>if r % 2=1 then ((pr.d:Int),(pr.w:Int),(pr.h:Int)) else ((pr.w:Int),(pr.d:Int),(pr.h:Int))
 |none=>(0,0,0)
noncomputable def Gz(x y z:Int):Bool:= !(decide (0<=x) && decide (x<64) && (decide (0<=y) && decide (y<64)) && (decide (0<=z) && decide (z<96)))
noncomputable def pC(aa:List aM)(p r:Nat)(x y z:Int):Bool:=Gz x y z||Gz (x+(iD aa p r).1 - 1) (y+(iD aa p r).2.1 - 1) (z+(iD aa p r).2.2 - 1)
theorem Ap(p:Br.Part):∀r:Nat,(p.turned r).high=p.high/\(p.turned r).wide=(if r % 2=1 then p.deep else p.wide)/\(p.turned r).deep=(if r % 2=1 then p.wide else p.deep)
 |0=>⟨rfl,rfl,rfl⟩
 |r+1=>by
  obtain⟨h1,h2,h3⟩:=Ap p r
  show (p.turned r).high=_/\(p.turned r).deep=_/\(p.turned r).wide=_
  rw[h1,h2,h3]
  by_cases h:r % 2=1
  ·rw[af h,af h,ae (show ¬(r+1) % 2=1 by omega),ae (show ¬(r+1) % 2=1 by omega)]
   exact⟨rfl,rfl,rfl⟩
  ·rw[ae h,ae h,af (show (r+1) % 2=1 by omega),af (show (r+1) % 2=1 by omega)]
   exact⟨rfl,rfl,rfl⟩
theorem aEp{l:Br.Line}(h:l.part<aa.length):(((l.of (aa.map cA)).wide:Int),((l.of (aa.map cA)).deep:Int),((l.of (aa.map cA)).high:Int))=iD aa l.part l.r:=by
 have e1:aa[l.part]?=some aa[l.part]:=ay h
 have e2:l.of (aa.map cA)=(cA aa[l.part]).turned l.r:=by
  unfold Br.Line.of
  rw[b8,a9,e1]
  rfl
 obtain⟨h1,h2,h3⟩:=Ap (cA aa[l.part]) l.r
 rw[e2,h1,h2,h3]
 unfold iD
 rw[e1]
 by_cases hr:l.r % 2=1
 ·rw[af hr,af hr]
  show _=if l.r % 2=1 then _ else _
  rw[af hr]
  rfl
 ·rw[ae hr,ae hr]
  show _=if l.r % 2=1 then _ else _
  rw[ae hr]
  rfl
theorem Oi(ok:∀pr∈aa,dI pr){r:Nat}(h:p<aa.length):1<=(iD aa p r).1/\1<=(iD aa p r).2.1/\1<=(iD aa p r).2.2:=by
 have e1:aa[p]?=some aa[p]:=ay h
 have o:=ok _ (o3 h)
 have h1:=o.w1
 have h2:=o.d1
 have h3:=o.h1
 unfold iD
 rw[e1]
 show 1<=(if r % 2=1 then _ else _:Int×Int×Int).1/\1<=(if r % 2=1 then _ else _:Int×Int×Int).2.1/\1<=(if r % 2=1 then _ else _:Int×Int×Int).2.2
 split
 ·show 1<=((aa[p].d:Nat):Int)/\1<=((aa[p].w:Nat):Int)/\1<=((aa[p].h:Nat):Int)
  omega
 ·show 1<=((aa[p].w:Nat):Int)/\1<=((aa[p].d:Nat):Int)/\1<=((aa[p].h:Nat):Int)
  omega
theorem He{x y z:Int}:Gz x y z=false↔(0<=x/\x<64)/\(0<=y/\y<64)/\0<=z/\z<96:=by
 unfold Gz
 rw[Bool.not_eq_false']
 simp only[cq,ck,and_assoc]
theorem uK(ok:∀pr∈aa,dI pr){r:Nat}(h:p<aa.length){x y z:Int}:
  pC aa p r x y z=false↔(0<=x/\0<=y/\0<=z/\x+(iD aa p r).1<=64/\y+(iD aa p r).2.1<=64/\z+(iD aa p r).2.2<=96):=by
 have h1:=Oi ok (r:=r) h
 unfold pC
 rw[PD,He,He]
 omega
theorem Ak(ok:∀pr∈aa,dI pr){x:List Nat}(hx:eF x 0<aa.length):pC aa (eF x 0) (eF x 5) (eF x 2) (eF x 3) (eF x 4)=jP (uC aa x) (eF x 2) (eF x 3) (eF x 4):=by
 have hr:=(qY ok hx).2
 have hs:=aEp (aa:=aa) (l:=fR x) hx
 have hs:((((fR x).of (aa.map cA)).wide:Int),(((fR x).of (aa.map cA)).deep:Int),(((fR x).of (aa.map cA)).high:Int))=iD aa (eF x 0) (eF x 5):=hs
 rw[<-Bool.not_not (jP _ _ _ _),<-hr,io,cx,<-yf,uK ok hx,<-hs]
 show ¬_↔(decide (eF x 2+((fR x).of (aa.map cA)).wide<=64) && (decide (eF x 3+((fR x).of (aa.map cA)).deep<=64) && decide (eF x 4+((fR x).of (aa.map cA)).high<=96)))=false
 rw[<-rn]
 simp only[cq,ck]
 omega
noncomputable def Tx(dx dy dz:Int)(y:List Int):List Int:=[iN y 0,iN y 1,iN y 2+dx,iN y 3+dy,iN y 4+dz,iN y 5]
noncomputable def Ms(aa:List aM)(y:List Int):Bool:=pC aa (iN y 0).toNat (iN y 5).toNat (iN y 2) (iN y 3) (iN y 4)
structure Xy(aa:List aM)(v:List Int):Prop where
 l:v.length=6
 n:∀k∈v,0<=k
 p:(iN v 0).toNat<aa.length
 r:iN v 5<4
 x:iN v 2+(iD aa (iN v 0).toNat (iN v 5).toNat).1<=64
 y:iN v 3+(iD aa (iN v 0).toNat (iN v 5).toNat).2.1<=64
 z:iN v 4+(iD aa (iN v 0).toNat (iN v 5).toNat).2.2<=96
theorem lQ{y:List Int}(h:y.length=6):∃a b c d e f,y=[a,b,c,d,e,f]:=by
 match y,h with
 |[a,b,c,d,e,f],_=>exact⟨a,b,c,d,e,f,rfl⟩
structure lH(p:Br.Part):Prop where
 sh:zO p
 x0:∃y z,(p.at_ 0 y z).isCell=true
 x1:∃y z,(p.at_ (p.wide - 1) y z).isCell=true
 y0:∃x z,(p.at_ x 0 z).isCell=true
 y1:∃x z,(p.at_ x (p.deep - 1) z).isCell=true
 z0:∃x y,(p.at_ x y 0).isCell=true
theorem Ga{p:Br.Part}(sh:zO p)(h:p.tight=true):lH p:=by
 have cm:∀s:kZ,s∈p.cells↔(p.at_ s.1 s.2.1 s.2.2).isCell=true:=λs=>nH sh rfl
 unfold Br.Part.tight at h
 simp only[cq,m9,cz] at h
 have hw:=sh.w
 have hd:=sh.d
 obtain⟨⟨s1,m1,e1⟩,⟨s2,m2,e2⟩,⟨s3,m3,e3⟩,⟨s4,m4,e4⟩,⟨s5,m5,e5⟩,_⟩:=h
 refine⟨sh,⟨s1.2.1,s1.2.2,?_⟩,⟨s2.2.1,s2.2.2,?_⟩,⟨s3.1,s3.2.2,?_⟩,⟨s4.1,s4.2.2,?_⟩,⟨s5.1,s5.2.1,?_⟩⟩
 ·rw[<-e1];exact(cm s1).mp m1
 ·rw[show p.wide - 1=s2.1 by omega];exact(cm s2).mp m2
 ·rw[<-e3];exact(cm s3).mp m3
 ·rw[show p.deep - 1=s4.2.1 by omega];exact(cm s4).mp m4
 ·rw[<-e5];exact(cm s5).mp m5
theorem lH.turn{p:Br.Part}(h:lH p):lH p.turn:=by
 obtain⟨sh,⟨y1,z1,c1⟩,⟨y2,z2,c2⟩,⟨x3,z3,c3⟩,⟨x4,z4,c4⟩,⟨x5,y5,c5⟩⟩:=h
 have hw:=sh.w
 have hd:=sh.d
 have back:∀{x y z:Nat},(p.at_ x y z).isCell=true->(p.turn.at_ y (p.wide - 1 - x) z).isCell=true:=by
  intro x y z hc
  have a6:=pX hc
  rw[rL sh a6.2.1 (by omega) a6.2.2,show p.wide - 1 - (p.wide - 1 - x)=x by omega]
  exact hc
 refine⟨⟨sh.d,sh.w,sh.h,xF⟩,⟨_,_,back c3⟩,⟨_,_,back c4⟩,⟨y2,z2,?_⟩,⟨y1,z1,?_⟩,⟨_,_,back c5⟩⟩
 ·have:=back c2
  rwa [CQ] at this
 ·have:=back c1
  exact this
theorem lH.turned{p:Br.Part}(h:lH p):∀r,lH (p.turned r)
 |0=>h
 |r+1=>(lH.turned h r).turn
theorem lO:∀{l:List Nat},l≠[]->Br.least l∈l/\∀x∈l,Br.least l<=x
 |[],h=>absurd rfl h
 |[a],_=>⟨bf,λx hx=>by rw[ie] at hx;subst hx;exact ap _⟩
 |a::b::r,_=>by
  obtain⟨h1,h2⟩:=lO (l:=b::r) (by simp)
  show min a (Br.least (b::r))∈_/\∀x∈_,min a (Br.least (b::r))<=x
  refine⟨?_,λx hx=>?_⟩
  ·rcases Nat.le_total a (Br.least (b::r)) with h|h
   ·rw[OQ h];exact bf
   ·rw[OR h];exact a7 _ h1
  ·rcases ao.mp hx with rfl|hx
   ·exact Nat.min_le_left _ _
   ·exact gu (N1 _ _) (h2 x hx)
theorem Xg{l m:List Nat}(h1:∀x∈l,∃y∈m,y<=x)(h2:∀y∈m,∃x∈l,x<=y):Br.least l=Br.least m:=by
 by_cases hl:l=[]
 ·subst hl
  have:m=[]:=by
   cases m with
   |nil=>rfl
   |cons a r=>obtain⟨x,hx,_⟩:=h2 a bf;cases hx
  rw[this]
 ·have hm:m≠[]:=by
   rintro rfl
   cases l with
   |nil=>exact hl rfl
   |cons a r=>obtain⟨x,hx,_⟩:=h1 a bf;cases hx
  obtain⟨a1,a2⟩:=lO hl
  obtain⟨b1,b2⟩:=lO hm
  obtain⟨y,hy,gq⟩:=h1 _ a1
  obtain⟨x,hx,UH⟩:=h2 _ b1
  exact Nat.le_antisymm (gu (a2 x hx) UH) (gu (b2 y hy) gq)
theorem qO{c:Br.Catalogue}{d:Br.Build}(h:∀l∈d.lines,lH (l.of c))(f:Br.Spot->Nat)(g:Br.Line->Nat)(lo:∀l∈d.lines,∀s∈l.cells c,g l<=f s)(hi:∀l∈d.lines,∃s∈l.cells c,f s=g l):Br.least ((d.cells c).map f)=Br.least (d.lines.map g):=by
 refine Xg (λx hx=>?_) λy hy=>?_
 ·obtain⟨s,hs,rfl⟩:=a8.mp hx
  obtain⟨l,hl,hm⟩:=J1.mp hs
  exact⟨g l,qe hl,lo l hl s hm⟩
 ·obtain⟨l,hl,rfl⟩:=a8.mp hy
  obtain⟨s,hs,e⟩:=hi l hl
  exact⟨f s,qe (J1.mpr ⟨l,hl,hs⟩),vi e⟩
theorem Yt{c:Br.Catalogue}{d:Br.Build}(h:∀l∈d.lines,lH (l.of c)):
  (d.home c).lines=d.lines.map λ(l:Br.Line)=>{l with x:=l.x - Br.least (d.lines.map (·.x)),y:=l.y - Br.least (d.lines.map (·.y)),z:=l.z - Br.least (d.lines.map (·.z))}:=by
 have cm:∀l∈d.lines,∀s,s∈l.cells c↔∃t:kZ,((l.of c).at_ t.1 t.2.1 t.2.2).isCell=true/\l.put t=s:=by
  intro l hl s
  unfold Br.Line.cells
  rw[a8]
  constructor
  ·rintro⟨t,ht,e⟩;exact⟨t,(nH (h l hl).sh rfl).mp ht,e⟩
  ·rintro⟨t,ht,e⟩;exact⟨t,(nH (h l hl).sh rfl).mpr ht,e⟩
 have ex:=qO h (λs=>s.1) (λl=>l.x) (λl hl s hs=>by
  obtain⟨t,_,rfl⟩:=(cm l hl s).mp hs
  exact CJ _ _) (λl hl=>by
  obtain⟨y,z,hc⟩:=(h l hl).x0
  exact⟨_,(cm l hl _).mpr ⟨(0,y,z),hc,rfl⟩,rfl⟩)
 have ey:=qO h (λs=>s.2.1) (λl=>l.y) (λl hl s hs=>by
  obtain⟨t,_,rfl⟩:=(cm l hl s).mp hs
  exact CJ _ _) (λl hl=>by
  obtain⟨x,z,hc⟩:=(h l hl).y0
  exact⟨_,(cm l hl _).mpr ⟨(x,0,z),hc,rfl⟩,rfl⟩)
 have ez:=qO h (λs=>s.2.2) (λl=>l.z) (λl hl s hs=>by
  obtain⟨t,_,rfl⟩:=(cm l hl s).mp hs
  exact CJ _ _) (λl hl=>by
  obtain⟨x,y,hc⟩:=(h l hl).z0
  exact⟨_,(cm l hl _).mpr ⟨(x,y,0),hc,rfl⟩,rfl⟩)
 unfold Br.Build.home
 dsimp only
 rw[ex,ey,ez]
noncomputable def zR(n:Nat):List Nat:=(Nat.toDigits 10 n).map Char.toNat
theorem Ch:∀d:Nat,d<10->(Nat.digitChar d).toNat=48+d:=by decide
theorem Dj{n:Nat}(h:n<10):zR n=[48+n]:=by
 unfold zR
 rw[PH h]
 show [(Nat.digitChar n).toNat]=_
 rw[Ch n h]
theorem Bq{n:Nat}(h:10<=n):zR n=zR (n / 10)++[48+n % 10]:=by
 have hm:n % 10<10:=oy n (by decide)
 have t:Nat.toDigits 10 (n / 10)++Nat.toDigits 10 (n % 10)=Nat.toDigits 10 (10 * (n / 10)+n % 10):=Nat.toDigits_append_toDigits (by decide) (by omega) hm
 rw[CN] at t
 show (Nat.toDigits 10 n).map Char.toNat=_
 rw[<-t,b7,PH hm]
 show (Nat.toDigits 10 (n / 10)).map Char.toNat++[(Nat.digitChar (n % 10)).toNat]=_
 rw[Ch _ hm]<;>rfl
theorem fW(a b:Br.Bytes):aW (a++b)=aW a++aW b:=b7
theorem Ko{d:Nat}(h:d<10):((UInt8.ofNat (48+d)).toNat:Int)=((48+d:Nat):Int):=by
 rw[JW]
 rw[uc (by omega)]
theorem zA:∀{k n:Nat},n<k->aW (Br.digitsIn k n)=(zR n).map λ(c:Nat)=>(c:Int)
 |0,n,h=>absurd h (ud _)
 |k+1,n,h=>by
  have hm:n % 10<10:=oy n (by decide)
  show aW ((if n<10 then [] else Br.digitsIn k (n / 10))++[UInt8.ofNat (48+n % 10)])=_
  rw[fW]
  have e:aW [UInt8.ofNat (48+n % 10)]=[((48+n % 10:Nat):Int)]:=by
   show [((UInt8.ofNat (48+n % 10)).toNat:Int)]=_
   rw[Ko hm]
  rw[e]
  by_cases hn:n<10
  ·rw[af hn,Dj hn,uc hn]
   rfl
  ·rw[ae hn,zA (k:=k) (n:=n / 10) (by omega),Bq (n:=n) (by omega),b7]
   rfl
theorem iC(n:Nat):aW (Br.decimal n)=(zR n).map λ(c:Nat)=>(c:Int):=zA (k8 n)
noncomputable def nX(n:Int):List Int:=(zR n.toNat).map λ(c:Nat)=>(c:Int)
noncomputable def Xu(gh:List (List Int))(y:List Int):List Int:=([112,117,116,32]++gh.getD (iN y 0).toNat [])++(y.drop 1).flatMap (λn=>32::nX n)++[10]
noncomputable def Fr(gh:List (List Int))(nm:List Int)(ys:List (List Int)):List Int:=([98,117,105,108,100,32]++nm++[10])++ys.flatMap (Xu gh)
theorem Zq:aW (Br.ascii "put")=[112,117,116]:=by decide+kernel
theorem Sf:aW (Br.ascii "build")=[98,117,105,108,100]:=by decide+kernel
theorem Sb(ok:∀pr∈aa,dI pr){y:List Int}(hl:y.length=6)(hp:(iN y 0).toNat<aa.length):aW (Br.Line.text (aa.map cA) (fR (rS y)))=Xu (aa.map (·.name)) y:=by
 obtain⟨a,b,c,d,e,f,rfl⟩:=lQ hl
 have hp:a.toNat<aa.length:=hp
 have en:aW (((aa.map cA).getD a.toNat Br.nothing).name)=(aa.map (·.name)).getD a.toNat []:=by
  rw[b8,a9,b8,a9,ay hp]
  exact pM (ok _ (o3 hp))
 unfold Br.Line.text
 show aW (Br.ascii "put"++32::((((aa.map cA).getD a.toNat Br.nothing).name)++32::(Br.decimal b.toNat++32::(Br.decimal c.toNat++32::(Br.decimal d.toNat++32::(Br.decimal e.toNat++32::(Br.decimal f.toNat++[10])))))))=_
 have cons:∀t:Br.Bytes,aW (32::t)=32::aW t:=λt=>rfl
 rw[fW,cons,fW,cons,fW,cons,fW,cons,fW,cons,fW,cons,fW,iC,iC,iC,iC,iC,Zq,en]
 unfold Xu
 show _=([112,117,116,32]++(aa.map (·.name)).getD a.toNat [])++(32::nX b++(32::nX c++(32::nX d++(32::nX e++(32::nX f++[])))))++[10]
 unfold nX
 simp only[ma,List.cons_append,List.nil_append,fh]
 rfl
theorem Kn(ok:∀pr∈aa,dI pr){d:Br.Build}(h:∀y∈ys,y.length=6/\(iN y 0).toNat<aa.length)(hd:d.lines=ys.map λy=>fR (rS y)){nm:List Int}(hn:aW d.name=nm):aW (d.text (aa.map cA))=Fr (aa.map (·.name)) nm ys:=by
 unfold Br.Build.text Fr
 rw[fW]
 have e1:aW (Br.line [Br.ascii "build",d.name])=[98,117,105,108,100,32]++nm++[10]:=by
  show aW (Br.ascii "build"++32::(d.name++[10]))=_
  have cons:∀t:Br.Bytes,aW (32::t)=32::aW t:=λt=>rfl
  rw[fW,cons,fW,hn,Sf]
  simp only[ma,List.cons_append,List.nil_append]
  rfl
 rw[e1,hd]
 refine congrArg _ ?_
 clear hd e1
 induction ys with
 |nil=>rfl
 |cons y r ih=>
  rw[bp,CY,CY,fW,Sb ok (h y bf).1 (h y bf).2,ih λz hz=>h z (a7 _ hz)]
theorem Jt(t:Br.Bytes):BuildsNeutral.shown (.bytes t)=((aW t).length:Int)::aW t:=by
 rw[fJ]
 rfl
noncomputable def gJ(ys:List (List Int)):List (List Int):=if ys.length=0 then [] else ys.map (Tx (-(iM (ys.map λy=>iN y 2))) (-(iM (ys.map λy=>iN y 3))) (-(iM (ys.map λy=>iN y 4))))
theorem sZ(hn:ys≠[])(h:∀y∈ys,0<=iN y k):iM (ys.map λy=>iN y k)=(Br.least (ys.map λy=>(iN y k).toNat):Int)/\∀y∈ys,iM (ys.map λy=>iN y k)<=iN y k:=by
 have h1:(ys.map λy=>iN y k)≠[]:=by simpa using hn
 have h2:(ys.map λy=>(iN y k).toNat)≠[]:=by simpa using hn
 obtain⟨a1,a2⟩:=lO h2
 have b1:=oG h1
 obtain⟨y,hy,e⟩:=a8.mp b1
 obtain⟨z,hz,e2⟩:=a8.mp a1
 have c1:=a2 _ (qe (f:=λy=>(iN y k).toNat) hy)
 have c2:=oS (qe (f:=λy=>iN y k) hz)
 have n1:=h y hy
 have n2:=h z hz
 refine⟨?_,λx hx=>oS (qe (f:=λy=>iN y k) hx)⟩
 have e:iN y k=iM (ys.map λy=>iN y k):=e
 have e2:(iN z k).toNat=Br.least (ys.map λy=>(iN y k).toNat):=e2
 have c1:Br.least (ys.map λy=>(iN y k).toNat)<=(iN y k).toNat:=c1
 have c2:iM (ys.map λy=>iN y k)<=iN z k:=c2
 omega
theorem sX(ok:∀pr∈aa,dI pr)(tg:∀pr∈aa,(cA pr).tight=true){d:Br.Build}(h:∀y∈ys,Xy aa y)(hd:d.lines=ys.map λy=>fR (rS y)):
  (∀y∈gJ ys,Xy aa y)/\(d.home (aa.map cA)).lines=(gJ ys).map λy=>fR (rS y):=by
 have ht:∀l∈d.lines,lH (l.of (aa.map cA)):=by
  intro l hl
  rw[hd] at hl
  obtain⟨y,hy,rfl⟩:=a8.mp hl
  have hp:=(h y hy).p
  obtain⟨a,b,c,e,f,g,rfl⟩:=lQ (h y hy).l
  have hp:a.toNat<aa.length:=hp
  have e2:Br.Line.of (aa.map cA) (fR (rS [a,b,c,e,f,g]))=(cA aa[a.toNat]).turned g.toNat:=by
   unfold Br.Line.of
   show ((aa.map cA).getD a.toNat Br.nothing).turned g.toNat=_
   rw[b8,a9,ay hp]
   rfl
  rw[e2]
  exact(Ga (Jd (ok _ (o3 hp))).sh (tg _ (o3 hp))).turned _
 rw[Yt ht,hd,dh,dh,dh,dh]
 unfold gJ
 by_cases hn:ys=[]
 ·subst hn
  exact⟨λy hy=>(by cases hy),rfl⟩
 ·rw[ae (by intro z;exact hn (yn z))]
  have nn:∀k,k<6->∀y∈ys,0<=iN y k:=by
   intro k hk y hy
   have hl:=(h y hy).l
   unfold iN
   rw[b8,ay (by omega)]
   exact(h y hy).n _ (o3 _)
  obtain⟨x1,x2⟩:=sZ hn (k:=2) (nn 2 (by decide))
  obtain⟨y1,y2⟩:=sZ hn (k:=3) (nn 3 (by decide))
  obtain⟨z1,z2⟩:=sZ hn (k:=4) (nn 4 (by decide))
  have gx:(ys.map ((λ(l:Br.Line)=>l.x)∘λy=>fR (rS y)))=ys.map λy=>(iN y 2).toNat:=by
   refine we λy hy=>?_
   obtain⟨a,b,c,e,f,g,rfl⟩:=lQ (h y hy).l
   rfl
  have gy:(ys.map ((λ(l:Br.Line)=>l.y)∘λy=>fR (rS y)))=ys.map λy=>(iN y 3).toNat:=by
   refine we λy hy=>?_
   obtain⟨a,b,c,e,f,g,rfl⟩:=lQ (h y hy).l
   rfl
  have gz:(ys.map ((λ(l:Br.Line)=>l.z)∘λy=>fR (rS y)))=ys.map λy=>(iN y 4).toNat:=by
   refine we λy hy=>?_
   obtain⟨a,b,c,e,f,g,rfl⟩:=lQ (h y hy).l
   rfl
  rw[gx,gy,gz]
  generalize iM (ys.map λy=>iN y 2)=mx at x1 x2
  generalize iM (ys.map λy=>iN y 3)=my at y1 y2
  generalize iM (ys.map λy=>iN y 4)=mz at z1 z2
  generalize Br.least (ys.map λy=>(iN y 2).toNat)=bx at x1
  generalize Br.least (ys.map λy=>(iN y 3).toNat)=by_ at y1
  generalize Br.least (ys.map λy=>(iN y 4).toNat)=bz at z1
  refine⟨λy hy=>?_,?_⟩
  ·obtain⟨v,hv,rfl⟩:=a8.mp hy
   have k1:=x2 v hv
   have k2:=y2 v hv
   have k3:=z2 v hv
   obtain⟨hl,UI,hp,hr,hx,hy,hz⟩:=h v hv
   obtain⟨a,b,c,e,f,g,rfl⟩:=lQ hl
   simp only[ao,dk,i',ug,uh] at UI
   have k1:mx<=c:=k1
   have k2:my<=e:=k2
   have k3:mz<=f:=k3
   have hx:c+(iD aa a.toNat g.toNat).1<=64:=hx
   have hy:e+(iD aa a.toNat g.toNat).2.1<=64:=hy
   have hz:f+(iD aa a.toNat g.toNat).2.2<=96:=hz
   refine⟨rfl,?_,hp,hr,?_,?_,?_⟩
   ·show ∀k∈[a,b,c+ -mx,e+ -my,f+ -mz,g],0<=k
    simp only[ao,dk,i',ug,uh]
    omega
   ·show c+ -mx+(iD aa a.toNat g.toNat).1<=64
    omega
   ·show e+ -my+(iD aa a.toNat g.toNat).2.1<=64
    omega
   ·show f+ -mz+(iD aa a.toNat g.toNat).2.2<=96
    omega
  ·rw[dh]
   refine we λv hv=>?_
   have k1:=x2 v hv
   have k2:=y2 v hv
   have k3:=z2 v hv
   obtain⟨a,b,c,e,f,g,rfl⟩:=lQ (h v hv).l
   have k1:mx<=c:=k1
   have k2:my<=e:=k2
   have k3:mz<=f:=k3
   show (⟨a.toNat,b.toNat,c.toNat - bx,e.toNat - by_,f.toNat - bz,g.toNat⟩:Br.Line)=⟨a.toNat,b.toNat,(c+ -mx).toNat,(e+ -my).toNat,(f+ -mz).toNat,g.toNat⟩
   rw[show c.toNat - bx=(c+ -mx).toNat by omega,show e.toNat - by_=(e+ -my).toNat by omega,show f.toNat - bz=(f+ -mz).toNat by omega]
end Br1
namespace Br1
open PySem PySem.Spec PyProof.Rows L2
def zU(H:Hp)(t:Addr)(y:List Int):Prop:=H t=some (.tup (y.map V.int))/\y.length=6
theorem Xr(x:List Nat):x.map Ey=(xL x).map V.int:=by
 unfold xL
 rw[dh]
 rfl
theorem wZ{aJ:List (List dQ×V)}{σ:(List (Option V))}(Pv:Nat->(List (Option V))->Hp->Prop)(h0:Pv 0 σ H)(hl:∀i σ H,i<=aJ.length->Pv i σ H->H d=some (.frz o (.dT aJ)))
  (hs:∀i σ H T k v q,aJ[i]?=some (k,v)->Pv i σ H->H T=none->H q=some (.tup (k.map kV))->g (.ref T) σ (upd H T (.tup [.ref q,v])) λau H2=>tb {vH D d o (.dT aJ) with nx:=Pv (i+1),ct:=Pv (i+1),bk:=(vH D d o (.dT aJ)).nx} au H2) (hd:∀ σ H,Pv aJ.length σ H->D.nx σ (upd H d (.dT aJ))):
  ∃W:Nat->Nat->(List (Option V))->Hp->Prop,(∃m,W 0 m σ H)/\∀i m σ H,W i m σ H->
   ((Lb d o aJ).stop i H/\(vH D d o (.dT aJ)).nx σ H)\/((Lb d o aJ).go i H/\∃N:(List (Option V))->Hp->Prop,(∀ah H',N ah H'->∃m',m'<m/\W (i+1) m' ah H')/\∀x H',(Lb d o aJ).yld i H x H'->g x σ H' λau H2=>tb {vH D d o (.dT aJ) with nx:=N,ct:=N,bk:=(vH D d o (.dT aJ)).nx} au H2):=
 iX (D:=vH D d o (.dT aJ)) Pv h0 hl hs λah H' p=>⟨hl _ _ _ (ap _) p,hd ah H' p⟩
variable{K:Frag}
def tzz(n:Nat)(W D Hh:Int):List Int:=if n % 2=1 then [D,W,Hh] else [W,D,Hh]
def sB(CP:Addr):Sp:=λvs H Q _=>∃(b dx nm c:Addr)(W D Hh g:Int)(n:Nat),vs=[.ref b,.int (n:Int)]/\H b=some (.ins CP dx (Sj nm W D Hh g c))/\∀t,H t=none->Q (.ref t) (upd H t (.tup ((tzz n W D Hh).map V.int)))
theorem Qs:aN ["part","turns"] ["part","turns"] (aG vV):=⟨rfl,rfl,rfl,by decide+kernel,rfl,by decide+kernel,by decide+kernel⟩
theorem Qc(F:fH K "turned_sizes" "turned_sizes" vV f fd)(T':Po K CP):bV P w K mg base bU 1 f fd ["part","turns"] (sB CP):=by
 refine F.ok Qs (λvs H Q E h=>?_) (λak A outer s H vs Q E hr h=>?_)
 ·obtain⟨b,dx,nm,c,W,D,Hh,g,n,rfl,_⟩:=h
  rfl
 ·obtain⟨b,dx,nm,c,W,D,Hh,g,n,rfl,hb,k⟩:=h
  refine⟨_,aF (eK (gX rO (cI Vn (pv 1) aI) aI (iE _)) (aH (aU (eD (aA (aT (pv 0) rfl) (aA (aT (pv 0) rfl) (aA (aT (pv 0) rfl) aE)))))) cD)
   (aH (aU (eD (aA (aT (pv 0) rfl) (aA (aT (pv 0) rfl) (aA (aT (pv 0) rfl) aE)))))),?_⟩
  unfold tzz at k
  refine⟨_,rfl,_,_,rfl,rfl,(by show (0:Int)<2;decide),rfl,_,rfl,cE (λe=>?_) (λe=>?_)⟩
  ·rw[iG] at e
   have e:=d7 e
   rw[af (by omega)] at k
   exact⟨_,rfl,b,CP,dx,_,_,rfl,hb,T'.cl,T'.n3,rfl,_,rfl,b,CP,dx,_,_,rfl,hb,T'.cl,T'.n2,rfl,_,rfl,b,CP,dx,_,_,rfl,hb,T'.cl,T'.n4,rfl,(by show 3<=sizeLine;decide),k⟩
  ·rw[iG] at e
   have e:¬((n:Int) % 2=1):=λz=>e (c9 z)
   rw[ae (by omega)] at k
   exact⟨_,rfl,b,CP,dx,_,_,rfl,hb,T'.cl,T'.n2,rfl,_,rfl,b,CP,dx,_,_,rfl,hb,T'.cl,T'.n3,rfl,_,rfl,b,CP,dx,_,_,rfl,hb,T'.cl,T'.n4,rfl,(by show 3<=sizeLine;decide),k⟩
theorem aDt{r:Nat}(h:aa[p]?=some pr):tzz r pr.w pr.d pr.h=[(iD aa p r).1,(iD aa p r).2.1,(iD aa p r).2.2]:=by
 unfold tzz iD
 rw[h]
 by_cases hr:r % 2=1
 ·rw[af hr]
  show _=[(if r % 2=1 then _ else _:Int×Int×Int).1,(if r % 2=1 then _ else _:Int×Int×Int).2.1,(if r % 2=1 then _ else _:Int×Int×Int).2.2]
  rw[af hr]
 ·rw[ae hr]
  show _=[(if r % 2=1 then _ else _:Int×Int×Int).1,(if r % 2=1 then _ else _:Int×Int×Int).2.1,(if r % 2=1 then _ else _:Int×Int×Int).2.2]
  rw[ae hr]
theorem yT{lo hi v:Int}{σ:(List (Option V))}{Q:VK}(lu:σ[i]?=some (some (.int v)))(k:Q (.bl (decide (lo<=v) && decide (v<hi))) H):
  Km (Vs λi j=>.bl (decide (i<=j))) (Vs λi j=>.bl (decide (i<j))) (tC (.int lo)) (cY i) (tC (.int hi)) σ H Q:=by
 refine⟨_,lu,_,_,rfl,rfl,_,rfl,cE (λh=>⟨_,_,rfl,rfl,?_⟩) (λh=>?_)⟩
 ·rw[h,i9] at k
  exact k
 ·rw[cQ h,ly] at k
  exact k
def sF:Sp:=λvs H Q _=>∃x y z:Int,vs=[.int x,.int y,.int z]/\Q (.bl (Gz x y z)) H
theorem Rp:aN ["x","y","z"] ["x","y","z"] (aG wC):=⟨rfl,rfl,rfl,by decide+kernel,rfl,by decide+kernel,by decide+kernel⟩
theorem Qo(F:fH K "beyond_room" "beyond_room" wC f fd)(c1:CI mg "ROOM_WIDTH" 64)(c2:CI mg "ROOM_DEPTH" 64)(c3:CI mg "ROOM_HEIGHT" 96):bV P w K mg base bU 1 f fd ["x","y","z"] sF:=by
 refine F.ok Rp (λvs H Q E h=>?_) (λak A outer s H vs Q E hr h=>?_)
 ·obtain⟨x,y,z,rfl,_⟩:=h
  rfl
 ·obtain⟨x,y,z,rfl,k⟩:=h
  refine⟨_,aH (aU (aCe (tH (nS qS Vo aI (pv 0) (fA c1)) (tH (nS qS Vo aI (pv 1) (fA c2)) (uE (nS qS Vo aI (pv 2) (fA c3))))))),?_⟩
  unfold Gz at k
  refine yT rfl ⟨_,rfl,cE (λe1=>yT rfl ⟨_,rfl,cE (λe2=>yT rfl ⟨_,rfl,?_⟩) (λe2=>⟨_,rfl,?_⟩)⟩) (λe1=>⟨_,rfl,?_⟩)⟩
  ·rw[e1,e2,i9,i9] at k
   exact k
  ·rw[e1,cQ e2,i9,ly] at k
   exact k
  ·rw[cQ e1,ly,ly] at k
   exact k
def sG(K:Frag)(CP:Addr):Sp:=λvs H Q _=>∃(pa t:Addr)(bs:List Addr)(aa:List aM)(y:List Int),vs=[.ref pa,.ref t]/\cR K H pa (bs.map V.ref)/\dS CP H bs aa/\zU H t y/\0<=iN y 0/\(iN y 0).toNat<aa.length/\0<=iN y 5/\
 ∀H':Hp,aK H H'->Q (.bl (Ms aa y)) H'
theorem Cg:aN ["parts","put","size"] ["parts","put"] (aG vN):=⟨rfl,rfl,rfl,by decide+kernel,rfl,by decide+kernel,by decide+kernel⟩
theorem Re(F:fH K "leaves_room" "leaves_room" vN f fd)(L1:dL P w K mg base "turned_sizes" bU 1 ["part","turns"] (sB CP))(L2:dL P w K mg base "beyond_room" bU 1 ["x","y","z"] sF):bV P w K mg base bU 2 f fd ["parts","put"] (sG K CP):=by
 obtain⟨g1,gr,G1,b1,k1,h1⟩:=L1.ex
 obtain⟨g2,lr,G2,b2,k2,h2⟩:=L2.ex
 refine F.ok Cg (λvs H Q E h=>?_) (λak A outer s H vs Q E hr h=>?_)
 ·obtain⟨pa,t,bs,aa,y,rfl,_⟩:=h
  rfl
 ·obtain⟨pa,t,bs,aa,y,rfl,df,cy,⟨ht,hy⟩,zv,am,BQ,k⟩:=h
  obtain⟨a0,a1,a2,a3,a4,a5,rfl⟩:=lQ hy
  have zv:0<=a0:=zv
  have am:a0.toNat<aa.length:=am
  have BQ:0<=a5:=BQ
  have bn:=hr.mono (j:=1) (by decide)
  refine⟨_,aF (bI (i:=2) Cg.nd rfl (Or.inl rfl) (aP G1 bn (by rfl) h1 k1 b1 .nil aX (aA (bQ jR (pv 0) (bQ bE (pv 1) aI (λ_ _=>rfl)) (λ_ _=>rfl)) (aA (bQ bE (pv 1) aI (λ_ _=>rfl)) aE))))
   (aH (aU (Tb (aP G2 bn (by rfl) h2 k2 b2 .nil aX (aA (bQ bE (pv 1) aI (λ_ _=>rfl)) (aA (bQ bE (pv 1) aI (λ_ _=>rfl)) (aA (bQ bE (pv 1) aI (λ_ _=>rfl)) aE))))
    (uE (aP G2 bn (by rfl) h2 k2 b2 .nil aX (aA (cI eY (cI gE (bQ bE (pv 1) aI (λ_ _=>rfl)) (bQ bE (pv 2) aI (λ_ _=>rfl))) aI)
     (aA (cI eY (cI gE (bQ bE (pv 1) aI (λ_ _=>rfl)) (bQ bE (pv 2) aI (λ_ _=>rfl))) aI) (aA (cI eY (cI gE (bQ bE (pv 1) aI (λ_ _=>rfl)) (bQ bE (pv 2) aI (λ_ _=>rfl))) aI) aE)))))))),?_⟩
  obtain⟨pr,jm⟩:∃pr,aa[a0.toNat]?=some pr:=⟨_,ay am⟩
  obtain⟨b,eb,HN,po⟩:=bY cy jm
  obtain⟨dx,nm,cc,f1,f2,f3⟩:=HN
  have e0:Nw (bs.map V.ref) a0=some (V.ref b):=by
   have:=iO (xs:=bs.map V.ref) (j:=a0.toNat) (v:=V.ref b) (by rw[a9,eb];rfl)
   rwa [qf zv] at this
  have e5:a5=((a5.toNat:Nat):Int):=(qf BQ).symm
  refine⟨_,rfl,_,rfl,t,_,_,_,rfl,rfl,cM.of ht,rfl,pa,_,_,_,rfl,rfl,df,e0,_,rfl,t,_,_,_,rfl,rfl,cM.of ht,rfl,b,dx,nm,cc,_,_,_,_,a5.toNat,by rw[<-e5];rfl,f1,λtz UJ=>?_⟩
  have ez:=aDt (r:=a5.toNat) jm
  rw[ez]
  have S1:=aK.new (o:=.tup ([(iD aa a0.toNat a5.toNat).1,(iD aa a0.toNat a5.toNat).2.1,(iD aa a0.toNat a5.toNat).2.2].map V.int)) UJ
  have iw:=S1 _ _ ht
  have BR:upd H tz (.tup ([(iD aa a0.toNat a5.toNat).1,(iD aa a0.toNat a5.toNat).2.1,(iD aa a0.toNat a5.toNat).2.2].map V.int)) tz=some (.tup ([(iD aa a0.toNat a5.toNat).1,(iD aa a0.toNat a5.toNat).2.1,(iD aa a0.toNat a5.toNat).2.2].map V.int)):=aB
  generalize upd H tz (.tup ([(iD aa a0.toNat a5.toNat).1,(iD aa a0.toNat a5.toNat).2.1,(iD aa a0.toNat a5.toNat).2.2].map V.int))=H1 at S1 iw BR
  have k:=k H1 S1
  have k:Q (.bl (Gz a2 a3 a4||Gz (a2+(iD aa a0.toNat a5.toNat).1 - 1) (a3+(iD aa a0.toNat a5.toNat).2.1 - 1) (a4+(iD aa a0.toNat a5.toNat).2.2 - 1))) H1:=k
  generalize iD aa a0.toNat a5.toNat=Z at k BR
  refine⟨_,rfl,t,_,_,_,rfl,rfl,cM.of iw,rfl,_,rfl,t,_,_,_,rfl,rfl,cM.of iw,rfl,_,rfl,t,_,_,_,rfl,rfl,cM.of iw,rfl,a2,a3,a4,rfl,_,rfl,cE (λe1=>?_) (λe1=>?_)⟩
  ·rw[e1,Bool.true_or] at k
   exact k
  ·rw[cQ e1,Bool.false_or] at k
   exact⟨_,rfl,t,_,_,_,rfl,rfl,cM.of iw,rfl,_,rfl,tz,_,_,_,rfl,rfl,cM.of BR,rfl,_,_,rfl,rfl,_,_,rfl,rfl,_,rfl,t,_,_,_,rfl,rfl,cM.of iw,rfl,_,rfl,tz,_,_,_,rfl,rfl,cM.of BR,rfl,_,_,rfl,rfl,_,_,rfl,rfl,
    _,rfl,t,_,_,_,rfl,rfl,cM.of iw,rfl,_,rfl,tz,_,_,_,rfl,rfl,cM.of BR,rfl,_,_,rfl,rfl,_,_,rfl,rfl,_,_,_,rfl,k⟩
def Mc(K:Frag)(CP:Addr):Sp:=λvs H Q _=>∃(pa q:Addr)(bs:List Addr)(aa:List aM)(x:List Nat),vs=[.ref pa,.ref q]/\cR K H pa (bs.map V.ref)/\dS CP H bs aa/\(∀pr∈aa,dI pr)/\H q=some (.tup (x.map Ey))/\Dz aa.length x/\eF x 5<=3/\
 ∀(H':Hp)(d:Addr),aK H H'->H d=none->H' d=some (.dT (aJ (dB aa x)))->Q (.ref d) H'
theorem vU:aN ["parts","put","cells","place","sign"] ["parts","put"] (aG Od):=⟨rfl,rfl,rfl,by decide+kernel,rfl,by decide+kernel,by decide+kernel⟩
theorem Zt(F:fH K "cells_in_room" "cells_in_room" Od f fd)(T':Po K CP)(L1:dL P w K mg base "turned_part" bU 4 ["part","turns"] (nL CP)):bV P w K mg base bU 5 f fd ["parts","put"] (Mc K CP):=by
 obtain⟨g1,gr,G1,b1,k1,h1⟩:=L1.ex
 refine F.ok vU (λvs H Q E h=>?_) (λak A outer s H vs Q E hr h=>?_)
 ·obtain⟨pa,q,bs,aa,x,rfl,_⟩:=h
  rfl
 ·obtain⟨pa,qp,bs,aa,x,rfl,df,cy,hok,hp,⟨BS,uv⟩,HV,k⟩:=h
  obtain⟨pr,jm⟩:∃pr,aa[eF x 0]?=some pr:=⟨_,ay uv⟩
  have HW:uC aa x=fC (jM pr) (eF x 5):=by
   unfold uC
   rw[jm]
   rfl
  obtain⟨b,eb,DZ,mm⟩:=bY cy jm
  obtain⟨nm,w9⟩:=DZ.pt
  have tok:sA (jM pr):=⟨(Jd (hok pr (d9 jm))).nd,mm.len⟩
  obtain⟨a0,a1,a2,a3,a4,a5,rfl⟩:=six BS
  have hu:=kH hr
  refine⟨_,aF (bI (i:=2) vU.nd rfl (Or.inl rfl) nB)
   (aF (Ze ke rfl (aT (aP G1 (hr.mono (j:=4) (by decide)) (by rfl) h1 k1 b1 .nil aX (aA (bQ jR (pv 0) (bQ bE (pv 1) aI (λ_ _=>rfl)) (λ_ _=>rfl)) (aA (bQ bE (pv 1) aI (λ_ _=>rfl)) aE))) rfl) (nE rfl (dM (bH (i:=3) vU.nd rfl (Or.inl rfl)) (dM (bH (i:=4) vU.nd rfl (Or.inl rfl)) jU)))
    (aH (lP hu (pv 2) (eD (aA (cI gE (bQ bE (pv 1) aI (λ_ _=>rfl)) (bQ bE (pv 3) aI (λ_ _=>rfl))) (aA (cI gE (bQ bE (pv 1) aI (λ_ _=>rfl)) (bQ bE (pv 3) aI (λ_ _=>rfl))) (aA (cI gE (bQ bE (pv 1) aI (λ_ _=>rfl)) (bQ bE (pv 3) aI (λ_ _=>rfl))) aE)))) (pv 4) rfl)))
   (aH (aU (pv 2)))),?_⟩
  intro d hd
  have S0:aK H (upd H d (.dT [])):=aK.new hd
  have e0:Nw (bs.map V.ref) ((a0:Nat):Int)=some (V.ref b):=iO (by
   rw[a9]
   show Option.map V.ref bs[eF [a0,a1,a2,a3,a4,a5] 0]?=_
   rw[eb];rfl)
  have HX:=S0 _ _ hp
  have bw:=aY
  refine⟨_,rfl,_,rfl,qp,_,_,_,rfl,rfl,cM.of HX,rfl,pa,_,_,_,rfl,rfl,S0.seq df,e0,_,rfl,qp,_,_,_,rfl,rfl,cM.of HX,rfl,b,nm,_,jM pr,a5,rfl,gu HV (by decide),w9.same S0,tok,λH1 b' S1 jf=>?_⟩
  have HY:sA (fC (jM pr) a5):=tok.turns _
  have k:∀(H':Hp)(d:Addr),aK H H'->H d=none->H' d=some (.dT (aJ (yS (mM a2 a3 a4) (fC (jM pr) a5).cs)))->Q (.ref d) H':=λH' d s n e=>k H' d s n (by unfold dB;rw[HW];exact e)
  obtain⟨kt,c,vd,ve⟩:=jf
  generalize fC (jM pr) a5=tt at vd ve HY k
  obtain⟨W,D,Hh,cs⟩:=tt
  have vd:H1 b'=some (.ins CP kt (Sj nm W D Hh pr.g c)):=vd
  have ve:H1 c=some (.dT (aJ cs)):=ve
  have nd:(cs.map (·.1)).Nodup:=HY.nd
  have ln:cs.length<20000:=HY.ln
  have oj:H1 d=some (.dT []):=S1 _ _ aB
  have jf:=S1 _ _ HX
  refine⟨b',CP,kt,_,_,rfl,vd,T'.cl,T'.n6,rfl,c,_,rfl,ve,λod=>?_⟩
  have zw:=S0.trans S1
  by_cases tm:c=d
  ·-- the new dict itself:then there is nothing to walk
   subst tm
   rw[oj] at ve
   have qk:cs=[]:=by
    cases cs with
    |nil=>rfl
    |cons a r=>cases ve
   subst qk
   refine wZ (λi σ H'=>∃v3 v4,σ=[some (.ref pa),some (.ref qp),some (.ref c),v3,v4]/\H'=upd H1 c (.frz od (.dT (aJ [])))) ⟨none,none,rfl,rfl⟩ ?_ ?_ ?_
   ·rintro i σ H2 hi ⟨v3,v4,rfl,rfl⟩
    exact aB
   ·rintro i σ H2 T k' v q e
    cases i<;>cases e
   ·rintro σ H2 ⟨v3,v4,rfl,rfl⟩
    refine⟨_,rfl,k _ c (λy o e=>?_) hd (by rw[aB];rfl)⟩
    have ny:=aD e hd
    rw[aC ny,aC ny]
    exact zw _ _ e
  ·have il:upd H1 c (.frz od (.dT (aJ cs))) c=some (.frz od (.dT (aJ cs))):=aB
   have om:upd H1 c (.frz od (.dT (aJ cs))) d=some (.dT []):=by rw[aC (ax tm)];exact oj
   have UK:qp≠c:=λz=>by rw[z,ve] at jf;cases jf
   have HB:qp≠d:=λz=>by rw[z,oj] at jf;cases jf
   have UL:upd H1 c (.frz od (.dT (aJ cs))) qp=some (.tup ([a0,a1,a2,a3,a4,a5].map Ey)):=by rw[aC UK];exact jf
   refine wZ (λi σ H'=>∃v3 v4,σ=[some (.ref pa),some (.ref qp),some (.ref d),v3,v4]/\SX d (upd H1 c (.frz od (.dT (aJ cs)))) H'/\H' d=some (.dT (aJ (yS (mM a2 a3 a4) (cs.take i))))) ⟨none,none,rfl,SX.refl _ _,om⟩ ?_ ?_ ?_
   ·rintro i σ H2 hi ⟨v3,v4,rfl,S2,_⟩
    exact S2 _ _ il tm
   ·rintro i σ H2 T kk v q e ⟨v3,v4,rfl,S2,jc⟩ hT hq
    obtain⟨p,sg,e1,rfl,rfl⟩:=iR e
    have ST:=aK.new (o:=.tup [.ref q,.int sg]) hT
    refine⟨T,_,rfl,cM.of aB,rfl,_,_,rfl,_,_,rfl,rfl,?_⟩
    have j3:=ST _ _ hq
    have xm:=ST _ _ (S2 _ _ UL HB)
    have xp:=ST _ _ jc
    generalize upd H2 T (.tup [.ref q,.int sg])=H3 at ST j3 xm xp
    refine⟨_,rfl,_,rfl,_,rfl,qp,_,_,_,rfl,rfl,cM.of xm,rfl,_,rfl,q,_,_,_,rfl,rfl,cM.of j3,rfl,_,_,rfl,rfl,_,rfl,qp,_,_,_,rfl,rfl,cM.of xm,rfl,_,rfl,q,_,_,_,rfl,rfl,cM.of j3,rfl,_,_,rfl,rfl,_,rfl,qp,_,_,_,rfl,rfl,cM.of xm,rfl,_,rfl,q,_,_,_,rfl,rfl,cM.of j3,rfl,_,_,rfl,rfl,(by show 3<=sizeLine;decide),λt ht=>?_⟩
    have SQ:=aK.new (o:=.tup [.int (a2+p.1),.int (a3+p.2.1),.int (a4+p.2.2)]) ht
    have hi:i<cs.length:=(bq.mp e1).1
    refine⟨d,_,rfl,tK.tt (k:=eJ (a2+p.1) (a3+p.2.1) (a4+p.2.2)) (SQ _ _ xp) aB (by rw[iS,Fl,fj];omega),?_⟩
    refine⟨_,_,rfl,λb' o e' n'=>?_,?_⟩
    ·rw[aC n']
     exact SQ _ _ (ST _ _ (S2 _ _ e' n'))
    ·rw[aB]
     exact congrArg (λz=>some (HO.dT z)) (Mg (Ra a2 a3 a4) nd e1)
   ·rintro σ H2 ⟨v3,v4,rfl,S2,jc⟩
    rw[iS,ji] at jc
    have UM:upd H2 c (.dT (aJ cs)) d=some (.dT (aJ (yS (mM a2 a3 a4) cs))):=by rw[aC (ax tm)];exact jc
    refine⟨_,rfl,k _ d (λy o e=>?_) hd UM⟩
    have ny:=aD e hd
    have e1:=zw _ _ e
    by_cases hy:y=c
    ·rw[hy] at e1 ⊢
     rw[aB,<-e1,ve]
    ·rw[aC hy]
     exact S2 _ _ (by rw[aC hy];exact e1) ny
theorem aA3{A B:TS}{σ:List (Option V)}{M:List (Option V)->Hp->Prop}(h2:∀ah H',M ah H'->B D ah H')(h1:(∀ah H',M ah H'->B D ah H')->A {D with nx:=B D} σ H):Ha A B D σ H:=h1 h2
theorem aBp{x:V}{σ:List (Option V)}{k:List (Option V)->Hp->Prop}(h:k (σ.set i (some x)) H):mP i x σ H k:=h
def Jk(ds os wr:Addr):List (Str×V):=[("signs",.ref ds),("owners",.ref os),("wrong",.ref wr)]
structure RmT(K:Frag)(CM:Addr):Prop where
 cl:Jh K CM
 n1:dH K CM "signs"
 n2:dH K CM "owners"
 n3:dH K CM "wrong"
def aB8(CM:Addr):Sp:=λvs H Q _=>∃(r dx:Addr),vs=[.ref r]/\H r=some (.ins CM dx [])/\∀(H':Hp)(ds os wr:Addr),H' r=some (.ins CM dx (Jk ds os wr))->H' ds=some (.dT [])->H' os=some (.dT [])->H' wr=some (.lst [])->H ds=none->H os=none->H wr=none->ds≠os->SX r H H'->Q .non H'
theorem aDq:aN ["self"] ["self"] (aG Eu):=⟨rfl,rfl,rfl,by decide+kernel,rfl,by decide+kernel,by decide+kernel⟩
theorem aCy(F:fH K "__init__" "Room.__init__" Eu f fd)(T:RmT K CM):bV P w K mg base bU 1 f fd ["self"] (aB8 CM):=by
 refine F.ok aDq (λvs H Q E h=>?_) (λak A outer s H vs Q E hr h=>?_)
 ·obtain⟨r,dx,rfl,_⟩:=h
  rfl
 ·obtain⟨r,dx,rfl,hp,k⟩:=h
  refine⟨_,aF (eE (pv 0) nB rfl) (aF (eE (pv 0) nB rfl) (aH (eE (pv 0) (eN aE) rfl))),?_⟩
  intro ds r8
  have n1:r≠ds:=aD hp r8
  refine⟨_,rfl,r,CM,dx,_,rfl,by rw[aC n1];exact hp,T.cl,T.n1,(by show 0<1000;decide),?_⟩
  intro os f9
  have n2:r≠os:=λz=>by rw[<-z,aB] at f9;cases f9
  have n3:ds≠os:=λz=>by rw[<-z,aC (ax n1),aB] at f9;cases f9
  rw[aC (ax n2),aC (ax n3)] at f9
  refine⟨_,rfl,r,CM,dx,_,rfl,by rw[aC n2,aB],T.cl,T.n2,(by show 1<1000;decide),?_⟩
  refine⟨c8 _,λwr tp=>?_⟩
  have n4:r≠wr:=λz=>by rw[<-z,aB] at tp;cases tp
  have n5:os≠wr:=λz=>by rw[<-z,aC (ax n2),aB] at tp;cases tp
  have n6:ds≠wr:=λz=>by rw[<-z,aC (ax n1),aC n3,aC (ax n1),aB] at tp;cases tp
  rw[aC (ax n4),aC (ax n5),aC (ax n4),aC (ax n6)] at tp
  refine⟨_,rfl,r,CM,dx,_,rfl,by rw[aC n4,aB],T.cl,T.n3,(by show 2<1000;decide),?_⟩
  refine k _ ds os wr aB ?_ ?_ ?_ r8 f9 tp n3 λb o e hb=>?_
  ·rw[aC (ax n1),aC n6,aC (ax n1),aC n3,aC (ax n1),aB]
  ·rw[aC (ax n2),aC n5,aC (ax n2),aB]
  ·rw[aC (ax n4),aB]
  ·rw[aC hb,aC (aD e tp),aC hb,aC (aD e f9),aC hb,aC (aD e r8)]
   exact e
structure RmM(P:Program)(w:World)(K:Frag)(mg:Str->Option Value)(base:Heap)(CM:Addr):Prop where
 ex:∃f fd,Mk K CM f/\bV P w K mg base bU 1 f fd ["self"] (aB8 CM)/\eT K fd ["self"] []
 mg:mg "Room"=some (.ref CM)
section
variable{c:Pl×Int}{s k:Int}
theorem Qm(h:¬fL c.2=true):mX sg ow c=[]:=by
 unfold mX
 split
 ·exact ae λz=>h z.1
 ·rfl
theorem Qq(h:aZ sg (qL c.1)=none):mX sg ow c=[]:=by
 unfold mX
 rw[h]
theorem Pq(h:aZ sg (qL c.1)=some s)(ht:dY s=true):mX sg ow c=[]:=by
 unfold mX
 rw[h]
 exact ae λz=>by rw[ht] at z;exact Bool.noConfusion z.2
theorem Xf(h:aZ sg (qL c.1)=some s)(h1:fL c.2=true)(h2:dY s=false)(h3:aZ ow (qL c.1)=some k):mX sg ow c=[k]:=by
 unfold mX
 rw[h]
 show (if fL c.2=true/\dY s=false then _ else _)=_
 rw[af ⟨h1,h2⟩,h3]
 rfl
theorem Ph(h:dY c.2=true):pP sg ow c=[]:=by
 unfold pP
 split
 ·exact ae λz=>by rw[h] at z;exact Bool.noConfusion z.1
 ·rfl
theorem Rt(h:aZ sg (qC c.1)=none):pP sg ow c=[]:=by
 unfold pP
 rw[h]
theorem Qg(h:aZ sg (qC c.1)=some s)(ht:¬fL s=true):pP sg ow c=[]:=by
 unfold pP
 rw[h]
 exact ae λz=>ht z.2
theorem Ug(h:aZ sg (qC c.1)=some s)(h1:dY c.2=false)(h2:fL s=true)(h3:aZ ow (qC c.1)=some k):pP sg ow c=[k]:=by
 unfold pP
 rw[h]
 show (if dY c.2=false/\fL s=true then _ else _)=_
 rw[af ⟨h1,h2⟩,h3]
 rfl
theorem Hj:(mX sg ow c).length<=1:=by
 unfold mX
 split
 ·split
  ·cases aZ ow (qL c.1)<;>simp
  ·simp
 ·simp
theorem Sn:(pP sg ow c).length<=1:=by
 unfold pP
 split
 ·split
  ·cases aZ ow (qC c.1)<;>simp
  ·simp
 ·simp
end
theorem Am(sg ow:CL):∀cl:CL,(cZ cl sg ow).length<=2 * cl.length
 |[]=>ap _
 |c::r=>by
  have ih:=Am sg ow r
  have h1:=Hj (sg:=sg) (ow:=ow) (c:=c)
  have h2:=Sn (sg:=sg) (ow:=ow) (c:=c)
  unfold cZ at ih ⊢
  rw[CY,b6,b6,bh]
  omega
theorem qA{cl:CL}{c:Pl×Int}(e:cl[i]?=some c):cZ (cl.take (i+1)) sg ow=cZ (cl.take i) sg ow++mX sg ow c++pP sg ow c:=by
 unfold cZ
 rw[jh,e,CV,ma]
 show _++List.flatMap _ [c]=_
 rw[JX]
theorem sC{c:Addr}{p:Pl}{v:Int}(hc:H c=some (.dT (aJ cs)))(hq:H q=some (.tup [.int p.1,.int p.2.1,.int p.2.2]))(h:aZ cs p=some v):mW H c (.ref q) (some (V.int v)):=by
 have:=zF (p:=p) hc hq
 rw[h] at this
 exact this
theorem fU:16000000<sizeLine:=by rw[p8];decide
def tM(CM:Addr):Sp:=λvs H Q _=>∃(d m dm wr s o:Addr)(cl sg ow:CL),vs=[.ref d,.ref m]/\H m=some (.ins CM dm (Jk s o wr))/\H d=some (.dT (aJ cl))/\H s=some (.dT (aJ sg))/\H o=some (.dT (aJ ow))/\d≠s/\d≠o/\(∀p,(aZ sg p).isSome=true->(aZ ow p).isSome=true)/\cl.length<20000/\
 ∀(H':Hp)(l:Addr),aK H H'->H l=none->H' l=some (.lst ((cZ cl sg ow).map V.int))->Q (.ref l) H'
theorem gR:aN ["cells","room","blocked","place","sign","over","under"] ["cells","room"] (aG sD):=⟨rfl,rfl,rfl,by decide+kernel,rfl,by decide+kernel,by decide+kernel⟩
theorem Kf(F:fH K "blocked_lines" "blocked_lines" sD f fd)(TM:RmT K CM)(L1:dL P w K mg base "above" bU 1 ["place"] pF)(L2:dL P w K mg base "below" bU 1 ["place"] oZ)
  (L3:dL P w K mg base "has_stud" bU 1 ["sign"] yW) (L4:dL P w K mg base "has_tube" bU 1 ["sign"] wX):bV P w K mg base bU 2 f fd ["cells","room"] (tM CM):=by
 obtain⟨g1,gr,G1,b1,k1,h1⟩:=L1.ex
 obtain⟨g2,lr,G2,b2,k2,h2⟩:=L2.ex
 obtain⟨g3,DS,G3,b3,k3,h3⟩:=L3.ex
 obtain⟨g4,HC,G4,b4,k4,h4⟩:=L4.ex
 refine F.ok gR (λvs H Q E h=>?_) (λak A outer s H vs Q E hr h=>?_)
 ·obtain⟨d,m,dm,wr,s,o,cl,sg,ow,rfl,_⟩:=h
  rfl
 ·obtain⟨d,m,dm,wr,s,o,cl,sg,ow,rfl,hm,hd,hs,ho,tq,rg,sub,ln,k⟩:=h
  have bn:=hr.mono (j:=1) (by decide)
  have hu:=kH hr
  refine⟨_,aF (bI (i:=2) gR.nd rfl (Or.inl rfl) (eN aE))
   (aF (mJ (eM ke rfl (lE (pv 0)) (nE rfl (dM (bH (i:=3) gR.nd rfl (Or.inl rfl)) (dM (bH (i:=4) gR.nd rfl (Or.inl rfl)) jU)))
    (aF (bI (i:=5) gR.nd rfl (Or.inl rfl) (aP G1 bn (by rfl) h1 k1 b1 .nil aX (aA (pv 3) aE)))
    (aF (eK (iH (eS (aP G3 bn (by rfl) h3 k3 b3 .nil aX (aA (pv 4) aE))) (iH (eB (sR hu (pv 5) (aT (pv 1) rfl))) (iK (mE (eS (aP G4 bn (by rfl) h4 k4 b4 .nil aX (aA (oX hu (aT (pv 1) rfl) (pv 5) (λ_ _=>rfl)) aE))))))).pt
     (aH (cH (nQ plainAttrs_list PySem.F.slot_list_append PySem.F.type_list_append gU (pv 2) (aA (oX hu (aT (pv 1) rfl) (pv 5) (λ_ _=>rfl)) aE)))) cD)
    (aF (bI (i:=6) gR.nd rfl (Or.inl rfl) (aP G2 bn (by rfl) h2 k2 b2 .nil aX (aA (pv 3) aE)))
    (aH (eK (iH (mE (eS (aP G4 bn (by rfl) h4 k4 b4 .nil aX (aA (pv 4) aE)))) (iH (eB (sR hu (pv 6) (aT (pv 1) rfl))) (iK (eS (aP G3 bn (by rfl) h3 k3 b3 .nil aX (aA (oX hu (aT (pv 1) rfl) (pv 6) (λ_ _=>rfl)) aE)))))).pt
     (aH (cH (nQ plainAttrs_list PySem.F.slot_list_append PySem.F.type_list_append gU (pv 2) (aA (oX hu (aT (pv 1) rfl) (pv 6) (λ_ _=>rfl)) aE)))) cD)))))))
   (aH (aU (pv 2)))),?_⟩
  refine⟨by show 0<=sizeLine;decide,λl hl=>?_⟩
  have S0:aK H (upd H l (.lst [])):=aK.new hl
  have va:d≠l:=aD hd hl
  have oh:s≠l:=aD hs hl
  have ML:o≠l:=aD ho hl
  have nml:m≠l:=aD hm hl
  have xq:m≠d:=λz=>by rw[z,hd] at hm;cases hm
  have hsz:=fU
  refine⟨d,_,S0 _ _ hd,trivial,λod=>?_⟩
  have om:upd (upd H l (.lst [])) d (.frz od (.dT (aJ cl))) d=some (.frz od (.dT (aJ cl))):=aB
  have D4:upd (upd H l (.lst [])) d (.frz od (.dT (aJ cl))) s=some (.dT (aJ sg)):=by rw[aC (ax tq)];exact S0 _ _ hs
  have wk:upd (upd H l (.lst [])) d (.frz od (.dT (aJ cl))) o=some (.dT (aJ ow)):=by rw[aC (ax rg)];exact S0 _ _ ho
  have tu:upd (upd H l (.lst [])) d (.frz od (.dT (aJ cl))) m=some (.ins CM dm (Jk s o wr)):=by rw[aC xq];exact S0 _ _ hm
  have UN:upd (upd H l (.lst [])) d (.frz od (.dT (aJ cl))) l=some (.lst []):=by rw[aC (ax va),aB]
  refine⟨_,rfl,d,od,_,rfl,om,?_⟩
  refine iX (λi σ H'=>∃v4 v5 v6 v7,σ=[some (.ref d),some (.ref m),some (.ref l),v4,v5,v6,v7]/\SX l (upd (upd H l (.lst [])) d (.frz od (.dT (aJ cl)))) H'/\H' l=some (.lst ((cZ (cl.take i) sg ow).map V.int))) ⟨none,none,none,none,rfl,SX.refl _ _,UN⟩ ?_ ?_ ?_
  ·rintro i σ H1 hi ⟨v4,v5,v6,v7,rfl,S1,_⟩
   exact S1 _ _ om va
  ·rintro i σ H1 T kk v q e ⟨v4,v5,v6,v7,rfl,S1,mv⟩ hT hq
   obtain⟨p,sv,e1,rfl,rfl⟩:=iR e
   have hi:i<cl.length:=(bq.mp e1).1
   have ST:=aK.new (o:=.tup [.ref q,.int sv]) hT
   refine⟨T,_,rfl,cM.of aB,rfl,_,_,rfl,_,_,rfl,rfl,?_⟩
   have ik:=ST _ _ hq
   have S2:SX l (upd (upd H l (.lst [])) d (.frz od (.dT (aJ cl)))) (upd H1 T (.tup [.ref q,.int sv])):=λb ob eb nb=>ST _ _ (S1 _ _ eb nb)
   have ii:=ST _ _ mv
   generalize upd H1 T (.tup [.ref q,.int sv])=H2 at ST ik S2 ii
   have UO:q≠l:=λz=>by rw[z,ii] at ik;cases ik
   have WW:(cZ (cl.take i) sg ow).length<=40000:=by
    have:=Am sg ow (cl.take i)
    rw[fj] at this
    omega
   have fin:∀{H':Hp}{xs:List Int},mX sg ow (p,sv)++pP sg ow (p,sv)=xs->H' l=some (.lst ((cZ (cl.take i) sg ow++xs).map V.int))->H' l=some (.lst ((cZ (cl.take (i+1)) sg ow).map V.int)):=λ{H' xs} ex hx=>by
    rw[hx,qA e1,ma,ex]
   refine⟨_,rfl,q,p.1,p.2.1,p.2.2,rfl,ik,λt ht=>?_⟩
   have SQ:=aK.new (o:=.tup [.int p.1,.int p.2.1,.int (p.2.2+1)]) ht
   have S3:SX l (upd (upd H l (.lst [])) d (.frz od (.dT (aJ cl)))) (upd H2 t (.tup [.int p.1,.int p.2.1,.int (p.2.2+1)])):=λb ob eb nb=>SQ _ _ (S2 _ _ eb nb)
   have vf:=SQ _ _ ii
   have j3:=SQ _ _ ik
   have xk:upd H2 t (.tup [.int p.1,.int p.2.1,.int (p.2.2+1)]) t=some (.tup [.int (qL p).1,.int (qL p).2.1,.int (qL p).2.2]):=aB
   generalize upd H2 t (.tup [.int p.1,.int p.2.1,.int (p.2.2+1)])=H3 at S3 vf j3 xk
   refine aBp ?_
   dsimp only
   refine aA3 (A:=aC0 _ _ _) (M:=λah H'=>∃v7,ah=[some (.ref d),some (.ref m),some (.ref l),some (.ref q),some (.int sv),some (.ref t),v7]/\SX l (upd (upd H l (.lst [])) d (.frz od (.dT (aJ cl)))) H'/\H' l=some (.lst ((cZ (cl.take i) sg ow++mX sg ow (p,sv)).map V.int))/\H' q=some (.tup [.int p.1,.int p.2.1,.int p.2.2])) ?_ (λxr=>?_)
   ·rintro ah H4 ⟨v7,rfl,S4,HZ,xf⟩
    refine⟨_,rfl,q,p.1,p.2.1,p.2.2,rfl,xf,λu GY=>?_⟩
    have SU:=aK.new (o:=.tup [.int p.1,.int p.2.1,.int (p.2.2 - 1)]) GY
    have S5:SX l (upd (upd H l (.lst [])) d (.frz od (.dT (aJ cl)))) (upd H4 u (.tup [.int p.1,.int p.2.1,.int (p.2.2 - 1)])):=λb ob eb nb=>SU _ _ (S4 _ _ eb nb)
    have re:=SU _ _ HZ
    have D5:upd H4 u (.tup [.int p.1,.int p.2.1,.int (p.2.2 - 1)]) u=some (.tup [.int (qC p).1,.int (qC p).2.1,.int (qC p).2.2]):=aB
    generalize upd H4 u (.tup [.int p.1,.int p.2.1,.int (p.2.2 - 1)])=H5 at S5 re D5
    have Io:pP sg ow (p,sv)=[]->H5 l=some (.lst ((cZ (cl.take (i+1)) sg ow).map V.int)):=λz=>by
     rw[qA e1,z,fh]
     exact re
    refine⟨_,rfl,sv,rfl,_,rfl,cE (λiw=>?_) (λiw=>vD ⟨_,_,_,_,rfl,S5,Io (Ph (by cases z:dY sv with|true=>exact rfl|false=>exact absurd (by rw[z];rfl) iw))⟩)⟩
    have iw:dY sv=false:=by
     cases z:dY sv with
     |false=>rfl
     |true=>rw[z] at iw;cases iw
    refine⟨_,rfl,_,rfl,m,CM,dm,_,_,rfl,(S5 _ _ tu nml),TM.cl,TM.n1,rfl,s,_,rfl,zF (p:=qC p) (S5 _ _ D4 oh) D5,_,rfl,cE (λa6=>?_) (λa6=>vD ⟨_,_,_,_,rfl,S5,Io (Rt ?_)⟩)⟩
    ·rw[j9] at a6
     obtain⟨zx,es⟩:=vj.mp a6
     obtain⟨ov,eo⟩:=vj.mp (sub _ a6)
     refine⟨_,rfl,m,CM,dm,_,_,rfl,(S5 _ _ tu nml),TM.cl,TM.n1,rfl,_,rfl,s,_,rfl,sC (p:=qC p) (S5 _ _ D4 oh) D5 es,zx,rfl,_,rfl,cE (λlm=>?_) (λlm=>⟨_,_,_,_,rfl,S5,Io (Qg es lm)⟩)⟩
     refine⟨_,rfl,.inl ⟨rfl,_,cR.of re⟩,_,rfl,m,CM,dm,_,_,rfl,(S5 _ _ tu nml),TM.cl,TM.n2,rfl,_,rfl,o,_,rfl,sC (p:=qC p) (S5 _ _ wk ML) D5 eo,l,_,_,rfl,rfl,re,?_,?_⟩
     ·have:=Hj (sg:=sg) (ow:=ow) (c:=(p,sv))
      rw[ai,b6]
      omega
     ·refine⟨_,_,_,_,rfl,λb ob eb nb=>?_,?_⟩
      ·rw[aC nb]
       exact S5 _ _ eb nb
      ·rw[aB,qA e1,Ug es iw lm eo]
       simp only[b7,bp,vm]
    ·rw[j9] at a6
     cases z:aZ sg (qC p) with
     |none=>rfl
     |some y=>rw[z] at a6;exact absurd rfl a6
   ·have IA:mX sg ow (p,sv)=[]->H3 l=some (.lst ((cZ (cl.take i) sg ow++mX sg ow (p,sv)).map V.int)):=λz=>by
     rw[z,fh]
     exact vf
    refine⟨_,rfl,sv,rfl,_,rfl,cE (λj4=>?_) (λj4=>vD (xr _ _ ⟨_,rfl,S3,IA (Qm j4),j3⟩))⟩
    refine⟨_,rfl,_,rfl,m,CM,dm,_,_,rfl,(S3 _ _ tu nml),TM.cl,TM.n1,rfl,s,_,rfl,zF (p:=qL p) (S3 _ _ D4 oh) xk,_,rfl,cE (λa6=>?_) (λa6=>vD (xr _ _ ⟨_,rfl,S3,IA (Qq ?_),j3⟩))⟩
    ·rw[j9] at a6
     obtain⟨zx,es⟩:=vj.mp a6
     obtain⟨ov,eo⟩:=vj.mp (sub _ a6)
     refine⟨_,rfl,m,CM,dm,_,_,rfl,(S3 _ _ tu nml),TM.cl,TM.n1,rfl,_,rfl,s,_,rfl,sC (p:=qL p) (S3 _ _ D4 oh) xk es,zx,rfl,_,rfl,cE (λqx=>?_) (λqx=>xr _ _ ⟨_,rfl,S3,IA (Pq es ?_),j3⟩)⟩
     ·have qx:dY zx=false:=by
       cases z:dY zx with
       |false=>rfl
       |true=>rw[z] at qx;cases qx
      refine⟨_,rfl,.inl ⟨rfl,_,cR.of vf⟩,_,rfl,m,CM,dm,_,_,rfl,(S3 _ _ tu nml),TM.cl,TM.n2,rfl,_,rfl,o,_,rfl,sC (p:=qL p) (S3 _ _ wk ML) xk eo,l,_,_,rfl,rfl,vf,?_,xr _ _ ?_⟩
      ·rw[ai]
       omega
      ·refine⟨_,rfl,λb ob eb nb=>?_,?_,?_⟩
       ·rw[aC nb]
        exact S3 _ _ eb nb
       ·rw[aB,Xf es j4 qx eo]
        simp only[b7,bp,vm]
       ·rw[aC UO]
        exact j3
     ·cases z:dY zx with
      |true=>rfl
      |false=>exact absurd (by rw[z];rfl) qx
    ·rw[j9] at a6
     cases z:aZ sg (qL p) with
     |none=>rfl
     |some y=>rw[z] at a6;exact absurd rfl a6
  ·rintro σ H1 ⟨v4,v5,v6,v7,rfl,S1,mv⟩
   rw[iS,ji] at mv
   refine⟨S1 _ _ om va,?_⟩
   have S2:=On hd hl S1
   have ii:upd H1 d (.dT (aJ cl)) l=some (.lst ((cZ cl sg ow).map V.int)):=by rw[aC (ax va)];exact mv
   exact⟨_,rfl,k _ l S2 hl ii⟩
end Br1
namespace L2
open PySem PySem.Spec PyProof.Rows
variable{K:Frag}
theorem Pz(Pv:Nat->St->Hp->Prop)(h0:Pv 0 σ H)(hl:∀i σ H,i<=xs.length->Pv i σ H->cR K H a xs)
  (hs:∀i x σ H T,xs[i]?=some x->Pv i σ H->H T=none->g (.ref T) σ (upd H T (.tup [.int (i:Nat),x])) λau H2=>tb {D with nx:=Pv (i+1),ct:=Pv (i+1),bk:=D.nx} au H2) (hd:∀ σ H,Pv xs.length σ H->D.nx σ H):
  ∃W:Nat->Nat->St->Hp->Prop,(∃m,W 0 m σ H)/\∀i m σ H,W i m σ H->
   ((Ite K a).stop i H/\D.nx σ H)\/((Ite K a).go i H/\∃N:St->Hp->Prop,(∀ah H',N ah H'->∃m',m'<m/\W (i+1) m' ah H')/\∀x H',(Ite K a).yld i H x H'->g x σ H' λau H2=>tb {D with nx:=N,ct:=N,bk:=D.nx} au H2):=by
 refine⟨λi m σ H=>m=xs.length - i/\i<=xs.length/\Pv i σ H,⟨xs.length,by simp,c8 _,h0⟩,?_⟩
 rintro i m σ H ⟨rfl,hi,p⟩
 have q:=hl i σ H hi p
 by_cases am:i<xs.length
 ·refine .inr ⟨⟨xs,xs[i],q,by simp[am]⟩,Pv (i+1),λah H' p'=>⟨xs.length - (i+1),by omega,rfl,am,p'⟩,λx H' y=>?_⟩
  obtain⟨T,x',rfl,hT,rfl,y⟩:=y
  exact hs i x' σ H T (y xs q) p hT
 ·have e:i=xs.length:=by omega
  subst e
  exact .inl ⟨⟨xs,q,ap _⟩,hd σ H p⟩
end L2
namespace Br1
open PySem PySem.Spec PyProof.Rows L2
theorem Gy{cl:CL}{c:Pl×Int}(e:cl[i]?=some c):gI ow (cl.take (i+1))=gI ow (cl.take i)++(aZ ow c.1).toList:=by
 unfold gI
 rw[jh,e,List.filterMap_append]
 show _++List.filterMap _ [c]=_
 cases h:aZ ow c.1<;>simp[h]
theorem Zn(ow cl:CL):(gI ow cl).length<=cl.length:=by
 unfold gI
 exact List.length_filterMap_le _ _
theorem Ta{cl:CL}(h:¬0<(gI ow cl).length):∀c∈cl,aZ ow c.1=none:=by
 intro c hc
 cases e:aZ ow c.1 with
 |none=>rfl
 |some k=>
  have:k∈gI ow cl:=AC.mpr ⟨c,hc,e⟩
  exact absurd (OY this) h
def Hz(j:Nat)(cl:CL):CL:=cl.map λc=>(c.1,(j:Int))
theorem Nc{dct cl:CL}{p:Pl}{s v:Int}(f:Pl×Int->Pl×Int)(hf:∀c,(f c).1=c.1)(nd:(cl.map (·.1)).Nodup)(fr:∀c∈cl,aZ dct c.1=none)(e:cl[i]?=some (p,s))(hv:(f (p,s)).2=v):
  kJ (aJ (dct++(cl.take i).map f)) (eJ p.1 p.2.1 p.2.2) (V.int v)=aJ (dct++(cl.take (i+1)).map f):=by
 rw[Nv]
 ·rw[jh,e,b7,ma]
  show aJ (dct++(_++[(p,v)]))=aJ (dct++(_++[f (p,s)]))
  rw[<-hv]
  have:f (p,s)=(p,(f (p,s)).2):=d6 (hf _) rfl
  rw[<-this]
 ·rw[yL,fr _ (d9 e)]
  show aZ _ _=none
  refine An λc hc z=>?_
  obtain⟨c0,h0,rfl⟩:=a8.mp hc
  rw[hf] at z
  exact wS nd e c0 h0 z
def wP(cl sg ow:CL)(j:Int):List Int:=if 0<(gI ow cl).length then [2,j,iM (gI ow cl)] else if 0<(cZ cl sg ow).length then [3,j,iM (cZ cl sg ow)] else []
variable{K:Frag}
def wV(CM:Addr):Sp:=λvs H Q _=>∃(d m dm wr s o:Addr)(cl sg ow:CL)(j:Int),vs=[.ref m,.ref d,.int j]/\H m=some (.ins CM dm (Jk s o wr))/\H d=some (.dT (aJ cl))/\H s=some (.dT (aJ sg))/\H o=some (.dT (aJ ow))/\d≠s/\d≠o/\(∀p,(aZ sg p).isSome=true->(aZ ow p).isSome=true)/\cl.length<20000/\
 ∀(H':Hp)(l:Addr),aK H H'->H l=none->H' l=some (.lst ((wP cl sg ow j).map V.int))->Q (.ref l) H'
abbrev Ow:List Str:=["room","cells","j","hit","blocked","place"]
theorem pI:aN Ow ["room","cells","j"] (aG rG):=⟨rfl,rfl,rfl,by decide+kernel,rfl,by decide+kernel,by decide+kernel⟩
theorem Se(F:fH K "wrong_with" "wrong_with" rG f fd)(TM:RmT K CM)(bi:mg "len"=none)(zy:mg "min"=none)(L1:dL P w K mg base "blocked_lines" bU 2 ["cells","room"] (tM CM)):bV P w K mg base bU 3 f fd ["room","cells","j"] (wV CM):=by
 obtain⟨g1,gr,G1,b1,k1,h1⟩:=L1.ex
 refine F.ok pI (λvs H Q E h=>?_) (λak A outer s H vs Q E hr h=>?_)
 ·obtain⟨d,m,dm,wr,s,o,cl,sg,ow,j,rfl,_⟩:=h
  rfl
 ·obtain⟨d,m,dm,wr,s,o,cl,sg,ow,j,rfl,hm,hd,hs,ho,tq,rg,sub,ln,k⟩:=h
  have ba:=hr.mono (j:=2) (by decide)
  have hu:=kH hr
  have hsz:=fU
  refine⟨_,aF (mJ (yN (i:=3) (tt:=tB (aF6 (cY 5) (Zc K (cY 0) "owners"))) (te:=Vq (Zc K (cY 0) "owners") (cY 5)) (own:=[("place",5)]) rfl pI.nd rfl rfl rfl (Og (pv 1)) (eP (N:=Ow) (sc:=aG rG) (by decide+kernel))
     (λ_ _ _ _ _=>bH (i:=5) pI.nd rfl (Or.inl rfl)) (λ_ _ _ _ _=>aA1 (eB (sR hu (pv 5) (aT (pv 0) rfl)))) (λ_ _ _ _ _=>oX hu (aT (pv 0) rfl) (pv 5) (λ_ _=>rfl))))
   (aF (eK (eB (uN (bS bW (by rfl) bi boot_len (aA (pv 3) aE)) aI)) (aH (aU (eN (aA aI (aA (pv 2) (aA (bS (zH rfl) (by rfl) zy boot_min (aA (pv 3) aE)) aE)))))) cD)
   (aF (bI (i:=4) pI.nd rfl (Or.inl rfl) (aP G1 ba (by rfl) h1 k1 b1 .nil aX (aA (pv 1) (aA (pv 0) aE))))
   (aF (eK (eB (uN (bS bW (by rfl) bi boot_len (aA (pv 4) aE)) aI)) (aH (aU (eN (aA aI (aA (pv 2) (aA (bS (zH rfl) (by rfl) zy boot_min (aA (pv 4) aE)) aE)))))) cD)
   (aH (aU (eN aE)))))),?_⟩
  refine⟨d,_,hd,trivial,λod=>?_⟩
  have xq:m≠d:=λz=>by rw[z,hd] at hm;cases hm
  have om:upd H d (.frz od (.dT (aJ cl))) d=some (.frz od (.dT (aJ cl))):=aB
  have wk:upd H d (.frz od (.dT (aJ cl))) o=some (.dT (aJ ow)):=by rw[aC (ax rg)];exact ho
  have tu:upd H d (.frz od (.dT (aJ cl))) m=some (.ins CM dm (Jk s o wr)):=by rw[aC xq];exact hm
  refine⟨_,rfl,d,od,rfl,.inr ⟨aJ cl,om,λDl c7=>?_⟩⟩
  refine Jg (λi H'=>aK (upd H d (.frz od (.dT (aJ cl)))) H'/\H' Dl=some (.lst ((gI ow (cl.take i)).map V.int))) ⟨aK.new c7,aB⟩ (λi H' _ p=>p.1 _ _ om) ?_ ?_
  ·rintro i kk vv q H5 e5 ⟨S5,BU⟩ hq
   obtain⟨p,sv,e6,rfl,rfl⟩:=iR e5
   have hi:i<cl.length:=(bq.mp e6).1
   refine⟨rfl,_,rfl,_,rfl,m,CM,dm,_,_,rfl,S5 _ _ tu,TM.cl,TM.n2,rfl,o,_,rfl,zF (p:=p) (S5 _ _ wk) hq,_,rfl,cE (λa6=>?_) (λa6=>?_)⟩
   ·rw[j9] at a6
    obtain⟨ov,eo⟩:=vj.mp a6
    refine⟨_,rfl,m,CM,dm,_,_,rfl,S5 _ _ tu,TM.cl,TM.n2,rfl,_,rfl,o,_,rfl,sC (p:=p) (S5 _ _ wk) hq eo,_,BU,?_,λb2 ob MN=>?_,?_⟩
    ·rw[ai]
     have:=Zn ow (cl.take i)
     rw[fj] at this
     omega
    ·rw[aC (aD MN c7)]
     exact S5 _ _ MN
    ·rw[aB,Gy e6]
     show some (HO.lst _)=some (HO.lst ((gI ow (cl.take i)++(aZ ow p).toList).map V.int))
     rw[eo,b7]
     rfl
   ·refine⟨S5,?_⟩
    rw[j9] at a6
    rw[Gy e6]
    show _=some (HO.lst ((gI ow (cl.take i)++(aZ ow p).toList).map V.int))
    cases z:aZ ow p with
    |none=>show _=some (HO.lst ((gI ow (cl.take i)++[]).map V.int));rw[fh];exact BU
    |some y=>rw[z] at a6;exact absurd rfl a6
  ·rintro H5 ⟨S5,BU⟩
   rw[iS,ji] at BU
   refine⟨S5 _ _ om,?_⟩
   have S6:=jA hd S5
   have MO:Dl≠d:=λz=>by rw[z,om] at c7;cases c7
   have WX:H Dl=none:=by rw[aC MO] at c7;exact c7
   have IB:upd H5 d (.dT (aJ cl)) Dl=some (.lst ((gI ow cl).map V.int)):=by rw[aC MO];exact BU
   have zz:upd H5 d (.dT (aJ cl)) d=some (.dT (aJ cl)):=aB
   generalize upd H5 d (.dT (aJ cl))=H6 at S6 IB zz
   unfold wP at k
   refine⟨_,rfl,Dl,_,rfl,.inl (cR.of IB),_,_,rfl,rfl,_,rfl,cE (λhh=>?_) (λhh=>?_)⟩
   ·have hh:(0:Int)<(((gI ow cl).map V.int).length:Int):=d7 hh
    rw[ai] at hh
    have qw:0<(gI ow cl).length:=by omega
    rw[af qw] at k
    refine⟨_,rfl,_,rfl,Dl,_,rfl,cR.of IB,qw,λmn oo tw=>⟨by show 3<=sizeLine;decide,λl hl=>?_⟩⟩
    refine k _ l (S6.trans (aK.new hl)) (S6.free hl) ?_
    rw[aB,<-Ov oo tw]
    rfl
   ·have hh:¬(0:Int)<(((gI ow cl).map V.int).length:Int):=λz=>hh (c9 z)
    rw[ai] at hh
    have qw:¬0<(gI ow cl).length:=by omega
    rw[ae qw] at k
    refine⟨_,rfl,_,rfl,d,m,dm,wr,s,o,cl,sg,ow,rfl,S6 _ _ hm,zz,S6 _ _ hs,S6 _ _ ho,tq,rg,sub,ln,λH7 bl S7 ME MQ=>?_⟩
    have D6:=S6.trans S7
    refine⟨_,rfl,bl,_,rfl,.inl (cR.of MQ),_,_,rfl,rfl,_,rfl,cE (λhh=>?_) (λhh=>?_)⟩
    ·have hh:(0:Int)<(((cZ cl sg ow).map V.int).length:Int):=d7 hh
     rw[ai] at hh
     have z6:0<(cZ cl sg ow).length:=by omega
     rw[af z6] at k
     refine⟨_,rfl,_,rfl,bl,_,rfl,cR.of MQ,z6,λmn oo tw=>⟨by show 3<=sizeLine;decide,λl hl=>?_⟩⟩
     refine k _ l (D6.trans (aK.new hl)) (D6.free hl) ?_
     rw[aB,<-Ov oo tw]
     rfl
    ·have hh:¬(0:Int)<(((cZ cl sg ow).map V.int).length:Int):=λz=>hh (c9 z)
     rw[ai] at hh
     have z6:¬0<(cZ cl sg ow).length:=by omega
     rw[ae z6] at k
     exact⟨c8 _,λl hl=>k _ l (D6.trans (aK.new hl)) (D6.free hl) aB⟩
theorem Gw(ok:∀pr∈aa,dI pr){x:List Nat}(hx:Dz aa.length x):Ms aa (xL x)=jP (uC aa x) (eF x 2) (eF x 3) (eF x 4):=by
 rw[<-Ak ok hx.2]
 obtain⟨a0,a1,a2,a3,a4,a5,rfl⟩:=six hx.1
 show pC aa ((a0:Int).toNat) ((a5:Int).toNat) a2 a3 a4=pC aa a0 a5 a2 a3 a4
 rw[fq,fq]
theorem aAp{x:List Nat}(e:ls[j]?=some x):xJ aa (ls.take (j+1))=xJ aa (ls.take j)++[(Br.Line.shape (aa.map cA) (fR x),dB aa x)]:=by
 unfold xJ
 rw[jh,e,b7]
 rfl
theorem aDz:(xJ aa ls).length=ls.length:=ai _
def Jm(CM:Addr)(H:Hp)(m:Addr)(aa:List aM)(ls:List (List Nat)):Prop:=∃(dm s o wr:Addr)(sg ow:CL),H m=some (.ins CM dm (Jk s o wr))/\H wr=some (.lst ((cP aa 0 [] [] ls).map V.int))/\H s=some (.dT (aJ sg))/\H o=some (.dT (aJ ow))/\s≠o/\
 (cP aa 0 [] [] ls=[]->sg=sgZ (xJ aa ls)/\ow=owZ (xJ aa ls))/\sg.length<=5120000/\ow.length<=5120000
structure FW(CM:Addr)(H:Hp)(m dm s o:Addr)(aa:List aM)(ls:List (List Nat))(j:Nat)(sg ow:CL)(H':Hp):Prop where
 sm:aK H H'
 hm:∃wr,H' m=some (.ins CM dm (Jk s o wr))/\H' wr=some (.lst [])
 hs:H' s=some (.dT (aJ sg))
 ho:H' o=some (.dT (aJ ow))
 sub:∀p,(aZ sg p).isSome=true->(aZ ow p).isSome=true
 l1:sg.length<=j * 20000
 l2:ow.length<=j * 20000
 er:cP aa 0 [] [] ls=cP aa j sg ow (ls.drop j)
 eg:sg=sgZ (xJ aa (ls.take j))
 eo:ow=owZ (xJ aa (ls.take j))
theorem FW.same{m dm s o:Addr}{H2:Hp}(f:FW CM H m dm s o aa ls j sg ow H1)(S:aK H1 H2):FW CM H m dm s o aa ls j sg ow H2:=by
 obtain⟨wr,h1,h2⟩:=f.hm
 exact⟨f.sm.trans S,⟨wr,S _ _ h1,S _ _ h2⟩,S _ _ f.hs,S _ _ f.ho,f.sub,f.l1,f.l2,f.er,f.eg,f.eo⟩
theorem Ye{tv:TE}{f:Str}{B:TS}{σ:List (Option V)}(M:V->Hp->Prop)(h1:∀Q:VK,(∀y H',M y H'->Q y H')->tv σ H Q)(h2:∀y H',M y H'->aD1 K ta (tC y) f {D with nx:=B D} σ H'):Ha (aD1 K ta tv f) B D σ H:=h1 _ h2
def Jo(K:Frag)(CP CM:Addr):Sp:=λvs H Q _=>∃(pa la:Addr)(bs ts:List Addr)(aa:List aM) (ls:List (List Nat)),vs=[.ref pa,.ref la]/\H pa=some (.lst (bs.map V.ref))/\dS CP H bs aa/\H la=some (.lst (ts.map V.ref))/\jZ H ts ls/\
 (∀pr∈aa,dI pr)/\(∀x∈ls,Dz aa.length x/\eF x 5<=3)/\ls.length<=256/\∀(H':Hp)(m:Addr),aK H H'->H m=none->Jm CM H' m aa ls->Q (.ref m) H'
abbrev aE0:List Str:=["parts","lines","room","j","put","cells","place","sign"]
theorem mF:aN aE0 ["parts","lines"] (aG Mt):=⟨rfl,rfl,rfl,by decide+kernel,rfl,by decide+kernel,by decide+kernel⟩
theorem Yi(F:fH K "fill_room" "fill_room" Mt f fd)(TM:RmT K CM)(RM:RmM P w K mg base CM)(bi:mg "len"=none)(GZ:mg "enumerate"=none)(L1:dL P w K mg base "cells_in_room" bU 5 ["parts","put"] (Mc K CP))
  (L2:dL P w K mg base "leaves_room" bU 2 ["parts","put"] (sG K CP)) (L3:dL P w K mg base "wrong_with" bU 3 ["room","cells","j"] (wV CM)):bV P w K mg base bU 6 f fd ["parts","lines"] (Jo K CP CM):=by
 obtain⟨g1,gr,G1,b1,k1,h1⟩:=L1.ex
 obtain⟨g2,lr,G2,b2,k2,h2⟩:=L2.ex
 obtain⟨g3,DS,G3,b3,k3,h3⟩:=L3.ex
 obtain⟨fm,WY,MM,GM,bM⟩:=RM.ex
 refine F.ok mF (λvs H Q E h=>?_) (λak A outer s H vs Q E hr h=>?_)
 ·obtain⟨pa,la,bs,ts,aa,ls,rfl,_⟩:=h
  rfl
 ·obtain⟨pa,la,bs,ts,aa,ls,rfl,df,cy,d8,xt,hok,DR,kr,k⟩:=h
  have ba:=hr.mono (j:=2) (by decide)
  have i6:=hr.mono (j:=3) (by decide)
  have hu:=kH hr
  have hsz:=fU
  refine⟨_,aF (bI (i:=2) mF.nd rfl (Or.inl rfl) (Uu MM GM ba (by rfl) RM.mg bM .nil aX))
   (aF (eM ke rfl (aA7 (by rfl) GZ (aA (pv 1) aE)) (nE rfl (dM (bH (i:=3) mF.nd rfl (Or.inl rfl)) (dM (bH (i:=4) mF.nd rfl (Or.inl rfl)) jU)))
    (aF (bI (i:=5) mF.nd rfl (Or.inl rfl) (aP G1 hr (by rfl) h1 k1 b1 .nil aX (aA (pv 0) (aA (pv 4) aE))))
    (aF (eE (pv 2) (Ti (eS (aP G2 ba (by rfl) h2 k2 b2 .nil aX (aA (pv 0) (aA (pv 4) aE)))) (eN (aA aI (aA (pv 3) (aA (pv 3) aE)))) (aP G3 i6 (by rfl) h3 k3 b3 .nil aX (aA (pv 2) (aA (pv 5) (aA (pv 3) aE))))) rfl)
    (aF (eK (eB (uN (bS bW (by rfl) bi boot_len (aA (aT (pv 2) rfl) aE)) aI)) (aH (aU (pv 2))) cD)
    (aH (mJ (eM ke rfl (lE (pv 5)) (nE rfl (dM (bH (i:=6) mF.nd rfl (Or.inl rfl)) (dM (bH (i:=7) mF.nd rfl (Or.inl rfl)) jU)))
     (aF (lP hu (aT (pv 2) rfl) (pv 6) (pv 7) rfl) (aH (lP hu (aT (pv 2) rfl) (pv 6) (pv 3) rfl))))))))))
   (aH (aU (pv 2)))),?_⟩
  intro m dm BV UP aw
  refine⟨m,dm,rfl,aB,λH1 s0 o0 UQ oo j4 UR US fs fo WZ z7 sx=>⟨rfl,?_⟩⟩
  have S1:aK H H1:=λy o e=>sx y o (by rw[aC (aD e BV),aC (aD e UP)];exact e) (aD e BV)
  have nsm:s0≠m:=λz=>by rw[z,aB] at fs;cases fs
  have D7:o0≠m:=λz=>by rw[z,aB] at fo;cases fo
  have A5:s0≠dm:=λz=>by rw[z,aC aw,aB] at fs;cases fs
  have nod:o0≠dm:=λz=>by rw[z,aC aw,aB] at fo;cases fo
  have UT:H s0=none:=by rw[aC nsm,aC A5] at fs;exact fs
  have UU:H o0=none:=by rw[aC D7,aC nod] at fo;exact fo
  have ii:ts.length=ls.length:=Paired.length xt
  refine⟨_,rfl,la,_,rfl,cR.of (S1 _ _ d8),?_⟩
  refine Pz (xs:=ts.map V.ref) (λj σ H'=>∃sg ow v3 v4 v5 v6 v7,σ=[some (.ref pa),some (.ref la),some (.ref m),v3,v4,v5,v6,v7]/\FW CM H m dm s0 o0 aa ls j sg ow H')
   ⟨[],[],none,none,none,none,none,rfl,S1,⟨UQ,oo,US⟩,j4,UR,λp z=>(by cases z),(by simp),(by simp),rfl,rfl,rfl⟩ ?_ ?_ ?_
  ·rintro i σ H2 hi ⟨sg,ow,v3,v4,v5,v6,v7,rfl,fw⟩
   exact cR.of (fw.sm _ _ d8)
  ·rintro j xv σ H2 T ex ⟨sg,ow,v3,v4,v5,v6,v7,rfl,fw⟩ hT
   have hj:j<ls.length:=by
    have:=(bq.mp ex).1
    rwa [ai,ii] at this
   obtain⟨x,D8⟩:∃x,ls[j]?=some x:=⟨_,ay hj⟩
   obtain⟨t,et,ht,BS⟩:=bY xt D8
   rw[a9,et] at ex
   cases ex
   obtain⟨uv,HV⟩:=DR x (d9 D8)
   have edrop:ls.drop j=x::ls.drop (j+1):=by
    obtain⟨h0,h1⟩:=bq.mp D8
    rw[EZ h0,h1]
   have er:=fw.er
   rw[edrop,cP] at er
   have IC:=aAp (aa:=aa) D8
   have etk:(ls.take j).length=j:=by rw[fj];omega
   obtain⟨sr,_⟩:=qY hok uv.2
   have ID:=sr.nd
   have ST:=aK.new (o:=.tup [.int (j:Nat),.ref t]) hT
   refine⟨T,_,rfl,cM.of aB,rfl,_,_,rfl,_,_,rfl,rfl,?_⟩
   have xu:=fw.same ST
   generalize upd H2 T (.tup [.int (j:Nat),.ref t])=H3 at xu
   have UV:dS CP H3 bs aa:=Paired.mapP cy λ_ _ z=>⟨z.1.same xu.sm,z.2⟩
   refine⟨_,rfl,_,rfl,pa,t,bs,aa,x,rfl,cR.of (xu.sm _ _ df),UV,hok,xu.sm _ _ ht,uv,HV,λH4 d S4 xp BW=>?_⟩
   have ph:=xu.same S4
   have tq:d≠s0:=λz=>by rw[z,xu.hs] at xp;cases xp
   have rg:d≠o0:=λz=>by rw[z,xu.ho] at xp;cases xp
   have MS:(dB aa x).length<20000:=by
    obtain⟨pr,jm⟩:∃pr,aa[eF x 0]?=some pr:=⟨_,ay uv.2⟩
    obtain⟨b,eb,DZ,mm⟩:=bY cy jm
    have tok:sA (jM pr):=⟨(Jd (hok pr (d9 jm))).nd,mm.len⟩
    have HW:uC aa x=fC (jM pr) (eF x 5):=by
     unfold uC
     rw[jm]
     rfl
    unfold dB Gi
    rw[ai,HW]
    exact(tok.turns _).ln
   have MT:=Gw hok uv
   generalize dB aa x=cl at er BW ID MS IC
   have UW:dS CP H4 bs aa:=Paired.mapP cy λ_ _ z=>⟨z.1.same ph.sm,z.2⟩
   obtain⟨wr,xw,W2⟩:=ph.hm
   have xq:m≠d:=λz=>by rw[z,BW] at xw;cases xw
   refine aBp ?_
   dsimp only
   refine Ye (λy H5=>∃(l:Addr)(ws:List Int),y=.ref l/\aK H4 H5/\H4 l=none/\H5 l=some (.lst (ws.map V.int))/\(0<ws.length->cP aa 0 [] [] ls=ws)/\(ws=[]->cP aa 0 [] [] ls=cP aa (j+1) (sg++cl) (ow++cl.map λc=>(c.1,(j:Int))) (ls.drop (j+1))/\¬0<(gI ow cl).length)) (λQ2 xr=>?_) ?_
   ·have BO:zU H4 t (xL x):=⟨by rw[<-Xr];exact ph.sm _ _ ht,by unfold xL;rw[ai];exact BS⟩
    have zv:iN (xL x) 0=(eF x 0:Int):=by
     obtain⟨a0,a1,a2,a3,a4,a5,rfl⟩:=six BS
     rfl
    have BQ:iN (xL x) 5=(eF x 5:Int):=by
     obtain⟨a0,a1,a2,a3,a4,a5,rfl⟩:=six BS
     rfl
    refine⟨_,rfl,_,rfl,pa,t,bs,aa,xL x,rfl,cR.of (ph.sm _ _ df),UW,BO,by rw[zv];omega,by rw[zv,fq];exact uv.2,by rw[BQ];omega,λH5 S5=>⟨_,rfl,cE (λhl=>?_) (λhl=>?_)⟩⟩
    ·rw[MT] at hl
     rw[af hl] at er
     refine⟨_,rfl,_,rfl,by show 3<=sizeLine;decide,λl hl=>xr _ _ ⟨l,[1,(j:Int),(j:Int)],rfl,S5.trans (aK.new hl),S5.free hl,aB,λ_=>er,λz=>(by cases z)⟩⟩
    ·rw[MT] at hl
     rw[ae hl] at er
     refine⟨_,rfl,_,rfl,_,rfl,d,m,dm,wr,s0,o0,cl,sg,ow,(j:Int),rfl,S5 _ _ xw,S5 _ _ BW,S5 _ _ ph.hs,S5 _ _ ph.ho,tq,rg,fw.sub,MS,λH6 l S6 rh su=>xr _ _ ⟨l,wP cl sg ow (j:Int),rfl,S5.trans S6,S5.free rh,su,λhw=>?_,λhw=>?_⟩⟩
     ·unfold wP at hw ⊢
      by_cases hh:0<(gI ow cl).length
      ·rw[af hh] at er ⊢
       exact er
      ·rw[ae hh] at er hw ⊢
       by_cases hb:0<(cZ cl sg ow).length
       ·rw[af hb] at er ⊢
        exact er
       ·rw[ae hb] at hw
        cases hw
     ·unfold wP at hw
      by_cases hh:0<(gI ow cl).length
      ·rw[af hh] at hw
       cases hw
      ·rw[ae hh] at er hw
       by_cases hb:0<(cZ cl sg ow).length
       ·rw[af hb] at hw
        cases hw
       ·rw[ae hb] at er
        exact⟨er,hh⟩
   ·rintro y H5 ⟨l,ws,rfl,S5,rh,re,UX,UY⟩
    have nlm:l≠m:=λz=>by rw[z,xw] at rh;cases rh
    refine⟨_,rfl,m,CM,dm,_,rfl,S5 _ _ xw,TM.cl,TM.n3,(by show 3<1000;decide),?_⟩
    have D9:upd H5 m (.ins CM dm (Jk s0 o0 l)) m=some (.ins CM dm (Jk s0 o0 l)):=aB
    have su:upd H5 m (.ins CM dm (Jk s0 o0 l)) l=some (.lst (ws.map V.int)):=by rw[aC nlm];exact re
    have S6:∀y o,H4 y=some o->y≠m->upd H5 m (.ins CM dm (Jk s0 o0 l)) y=some o:=λy o e n=>by rw[aC n];exact S5 _ _ e
    have IE:aK H (upd H5 m (.ins CM dm (Jk s0 o0 l))):=λy o e=>S6 y o (ph.sm _ _ e) (aD e BV)
    have W3:s0≠m:=nsm
    have xg:=S6 _ _ ph.hs nsm
    have IF:=S6 _ _ ph.ho D7
    have zz:=S6 _ _ BW (ax xq)
    show Ha _ _ _ _ (upd H5 m (.ins CM dm (Jk s0 o0 l)))
    generalize upd H5 m (.ins CM dm (Jk s0 o0 l))=H6 at D9 su IE xg IF zz
    refine⟨_,rfl,m,CM,dm,_,_,rfl,D9,TM.cl,TM.n3,rfl,l,_,rfl,.inl (cR.of su),_,_,rfl,rfl,_,rfl,cE (λhh=>?_) (λhh=>?_)⟩
    ·have hh:(0:Int)<((ws.map V.int).length:Int):=d7 hh
     rw[ai] at hh
     have e1:=UX (by omega)
     refine⟨_,rfl,k _ m IE BV ⟨dm,s0,o0,l,sg,ow,D9,by rw[e1];exact su,xg,IF,z7,λz=>?_,by have:=fw.l1;omega,by have:=fw.l2;omega⟩⟩
     rw[e1] at z
     rw[z] at hh
     cases hh
    ·have hh:¬(0:Int)<((ws.map V.int).length:Int):=λz=>hh (c9 z)
     rw[ai] at hh
     have MU:ws=[]:=yn (by omega)
     obtain⟨G7,qw⟩:=UY MU
     subst MU
     have MV:=Ta qw
     have frS:∀c∈cl,aZ sg c.1=none:=λc hc=>by
      cases z:aZ sg c.1 with
      |none=>rfl
      |some y=>
       have:=fw.sub c.1 (by rw[z];rfl)
       rw[MV c hc] at this
       cases this
     refine⟨d,_,zz,trivial,λxx=>?_⟩
     have IG:upd H6 d (.frz xx (.dT (aJ cl))) d=some (.frz xx (.dT (aJ cl))):=aB
     have UZ:upd H6 d (.frz xx (.dT (aJ cl))) s0=some (.dT (aJ sg)):=by rw[aC (ax tq)];exact xg
     have U0:upd H6 d (.frz xx (.dT (aJ cl))) o0=some (.dT (aJ ow)):=by rw[aC (ax rg)];exact IF
     have MW:upd H6 d (.frz xx (.dT (aJ cl))) m=some (.ins CM dm (Jk s0 o0 l)):=by rw[aC xq];exact D9
     refine⟨_,rfl,d,xx,_,rfl,IG,?_⟩
     refine iX (λi σ H'=>∃v6 v7,σ=[some (.ref pa),some (.ref la),some (.ref m),some (.int (j:Nat)),some (.ref t),some (.ref d),v6,v7]/\(∀y ob,upd H6 d (.frz xx (.dT (aJ cl))) y=some ob->y≠s0->y≠o0->H' y=some ob)/\H' s0=some (.dT (aJ (sg++(cl.take i).map id)))/\H' o0=some (.dT (aJ (ow++Hz j (cl.take i)))))
      ⟨_,_,rfl,λy ob ey _ _=>ey,by simpa using UZ,by simpa[Hz] using U0⟩ ?_ ?_ ?_
     ·rintro i σ H8 hi ⟨v6,v7,rfl,S8,_⟩
      exact S8 _ _ IG tq rg
     ·rintro i σ H8 T8 kk vv q e8 ⟨v6,v7,rfl,S8,BX,D'⟩ U1 hq
      obtain⟨p,sv,e9,rfl,rfl⟩:=iR e8
      have hi:i<cl.length:=(bq.mp e9).1
      have z8:=aK.new (o:=.tup [.ref q,.int sv]) U1
      refine⟨T8,_,rfl,cM.of aB,rfl,_,_,rfl,_,_,rfl,rfl,?_⟩
      have BY:=z8 _ _ hq
      have IH:=z8 _ _ BX
      have MX:=z8 _ _ D'
      have II:=z8 _ _ (S8 _ _ MW (ax nsm) (ax D7))
      generalize upd H8 T8 (.tup [.ref q,.int sv])=H9 at z8 BY IH MX II
      have U2:q≠s0:=λz=>by rw[z,IH] at BY;cases BY
      have DY:j<=256:=by omega
      have mv:=fw.l1
      have U3:=fw.l2
      refine⟨_,rfl,_,rfl,m,CM,dm,_,_,rfl,II,TM.cl,TM.n1,rfl,_,rfl,s0,_,rfl,tK.tt (k:=eJ p.1 p.2.1 p.2.2) IH BY (by rw[iS,b6,ai,fj];omega),?_⟩
      have ps:=Nc (dct:=sg) id (λ_=>rfl) ID frS e9 (v:=sv) rfl
      rw[ps]
      have U4:upd H9 s0 (.dT (aJ (sg++(cl.take (i+1)).map id))) o0=some (.dT (aJ (ow++Hz j (cl.take i)))):=by rw[aC (ax z7)];exact MX
      have U5:upd H9 s0 (.dT (aJ (sg++(cl.take (i+1)).map id))) q=some (.tup ((eJ p.1 p.2.1 p.2.2).map kV)):=by rw[aC U2];exact BY
      have U6:upd H9 s0 (.dT (aJ (sg++(cl.take (i+1)).map id))) m=some (.ins CM dm (Jk s0 o0 l)):=by rw[aC (ax nsm)];exact II
      refine⟨_,rfl,_,rfl,m,CM,dm,_,_,rfl,U6,TM.cl,TM.n2,rfl,_,rfl,o0,_,rfl,tK.tt (k:=eJ p.1 p.2.1 p.2.2) U4 U5 (by unfold Hz;rw[iS,b6,ai,fj];omega),?_⟩
      have po:=Nc (dct:=ow) (λc=>(c.1,(j:Int))) (λ_=>rfl) ID MV e9 (v:=(j:Int)) rfl
      have po:kJ (aJ (ow++Hz j (cl.take i))) (eJ p.1 p.2.1 p.2.2) (V.int (j:Int))=aJ (ow++Hz j (cl.take (i+1))):=po
      refine⟨_,_,rfl,λy ob ey n1 n2=>?_,?_,?_⟩
      ·rw[aC n2,aC n1]
       exact z8 _ _ (S8 _ _ ey n1 n2)
      ·rw[aC z7,aB]
      ·rw[aB]
       exact congrArg (λz=>some (HO.dT z)) po
     ·rintro σ H8 ⟨v6,v7,rfl,S8,BX,D'⟩
      rw[iS,ji] at BX D'
      rw[J2] at BX
      refine⟨S8 _ _ IG tq rg,?_⟩
      have e9:((j+1) * 20000)=j * 20000+20000:=by omega
      have mv:=fw.l1
      have U3:=fw.l2
      have U7:l≠s0:=λz=>by rw[z,ph.hs] at rh;cases rh
      have U8:l≠o0:=λz=>by rw[z,ph.ho] at rh;cases rh
      have MY:l≠d:=λz=>by rw[z,BW] at rh;cases rh
      refine⟨sg++cl,ow++Hz j cl,_,_,_,_,_,rfl,λy ob ey=>?_,⟨l,?_,?_⟩,?_,?_,λp hp=>?_,?_,?_,?_,?_,?_⟩
      ·have n1:y≠s0:=aD ey UT
       have n2:y≠o0:=aD ey UU
       have h7:=IE _ _ ey
       by_cases hy:y=d
       ·rw[hy] at h7 ⊢
        rw[aB,<-h7,zz]
       ·rw[aC hy]
        exact S8 _ _ (by rw[aC hy];exact h7) n1 n2
      ·rw[aC xq]
       exact S8 _ _ MW (ax nsm) (ax D7)
      ·rw[aC MY]
       exact S8 _ _ (by rw[aC MY];exact su) U7 U8
      ·rw[aC (ax tq)]
       exact BX
      ·rw[aC (ax rg)]
       exact D'
      ·rw[dR] at hp ⊢
       obtain⟨c,hc,e⟩:=hp
       rcases jp.mp hc with hc|hc
       ·obtain⟨c2,dq,e2⟩:=dR.mp (fw.sub p (dR.mpr ⟨c,hc,e⟩))
        exact⟨c2,lx _ dq,e2⟩
       ·exact⟨(c.1,(j:Int)),gi _ (a8.mpr ⟨c,hc,rfl⟩),e⟩
      ·rw[b6]
       omega
      ·unfold Hz
       rw[b6,ai]
       omega
      ·exact G7
      ·rw[IC,xR,<-fw.eg]
      ·rw[IC,zJ,<-fw.eo,aDz,etk]
       rfl
  ·rintro σ H2 ⟨sg,ow,v3,v4,v5,v6,v7,rfl,fw⟩
   have er:=fw.er
   rw[ai,ii,List.drop_length] at er
   have er:cP aa 0 [] [] ls=[]:=er
   have eg:=fw.eg
   have eo:=fw.eo
   rw[ai,ii,ji] at eg eo
   have l1:=fw.l1
   have l2:=fw.l2
   rw[ai,ii] at l1 l2
   obtain⟨wr,e1,e2⟩:=fw.hm
   exact⟨_,rfl,k _ m fw.sm BV ⟨dm,s0,o0,wr,sg,ow,e1,by rw[er];exact e2,fw.hs,fw.ho,z7,λ_=>⟨eg,eo⟩,by omega,by omega⟩⟩
theorem Ee:∀{ms:List Nat}{p:Nat}{r:List Nat×Nat},dD l ms p=.ok r->∀(i v m:Nat),r.1[i]?=some v->ms[i]?=some m->v<=m
 |[],p,r,h=>by
  intro i v m h1 h2
  simp at h2
 |m0::ms,p,r,h=>by
  rw[dD] at h
  obtain⟨p1,_,h⟩:=aL h
  obtain⟨u,eu,h⟩:=aL h
  obtain⟨q,eq,rfl⟩:=fG h
  intro i v m h1 h2
  cases i with
  |zero=>
   cases h1
   cases h2
   exact(mB (lo:=0) eu).2
  |succ i=>exact Ee eq i v m h1 h2
theorem Pf{q:List Nat×Nat}(h:eG aj l p=.ok q):eF q.1 5<=3:=by
 unfold eG at h
 obtain⟨p1,_,h⟩:=aL h
 obtain⟨n,en,h⟩:=aL h
 obtain⟨r,er,h⟩:=aL h
 obtain⟨_,_,h⟩:=aL h
 cases h
 have hl:=rJ (r:=r) er
 have hl:r.1.length=5:=hl
 have e:r.1[4]?=some r.1[4]:=ay (by omega)
 have:=Ee er 4 r.1[4] 3 e rfl
 show (n.1::r.1).getD 5 0<=3
 rw[b8]
 show (r.1[4]?).getD 0<=3
 rw[e]
 exact this
theorem yF:∀{n p:Nat} {q:List (List Nat)×Nat},cG aj l n p=.ok q->∀x∈q.1,eF x 5<=3
 |0,p,q,h=>by cases h;intro x hx;cases hx
 |n+1,p,q,h=>by
  rw[cG] at h
  split at h
  ·cases h;intro x hx;cases hx
  ·obtain⟨q1,e1,h⟩:=aL h
   obtain⟨q2,e2,rfl⟩:=fG h
   intro x hx
   rcases ao.mp hx with rfl|hx
   ·exact Pf e1
   ·exact yF e2 x hx
theorem Dg{nm:List Int}(h:dF lc lb=.ok aa nm ls):iF lc=.ok aa/\dJ (aa.map (·.name)) lb=.ok (nm,ls):=by
 unfold dF at h
 split at h
 ·cases h
 ·split at h
  ·cases h
  ·rename_i e1
   split at h
   ·split at h
    ·cases h
    ·rename_i e
     cases h
     exact⟨e1,e⟩
   ·cases h
theorem zC{lc lb:List Int}{aa:List aM}{nm:List Int}{ls:List (List Nat)}(h:dF lc lb=.ok aa nm ls):∀x∈ls,eF x 5<=3:=by
 have h:=(Dg h).2
 unfold dJ at h
 obtain⟨_,_,h⟩:=aL h
 obtain⟨_,_,h⟩:=aL h
 obtain⟨_,_,h⟩:=aL h
 obtain⟨r,er,h⟩:=aL h
 split at h
 ·cases h;exact yF er
 ·cases h
def aBv(CG CP CB CM:Addr)(H:Hp)(g:Addr):aAa->Prop
 |.no n=>∃dx pa,H g=some (.ins CG dx (Fk n 0 pa .non .non))
 |.bad i=>∃dx pa,H g=some (.ins CG dx (Fk (-5) i pa .non .non))
 |.ok aa nm ls=>∃dx pa q m bs,H g=some (.ins CG dx (Fk (if cP aa 0 [] [] ls=[] then 0 else -9) 0 pa (.ref q) (.ref m)))/\H pa=some (.lst (bs.map V.ref))/\dS CP H bs aa/\xS CB H q nm ls/\Jm CM H m aa ls/\aa.length<=64
def wW(K:Frag)(CG CP CB CM:Addr):Sp:=λvs H Q _=>∃(c b:Addr)(lc lb:List Int),vs=[.ref c,.ref b]/\cR K H c (lc.map V.int)/\cR K H b (lb.map V.int)/\∀(H':Hp)(g:Addr),aK H H'->H g=none->aBv CG CP CB CM H' g (dF lc lb)->Q (.ref g) H'
theorem sI:aN ["c","b","given"] ["c","b"] (aG lZ):=⟨rfl,rfl,rfl,by decide+kernel,rfl,by decide+kernel,by decide+kernel⟩
theorem Cs(F:fH K "read_right" "read_right" lZ f fd)(TG:GvT K CG)(TB:BdT K CB)(TM:RmT K CM)(bi:mg "len"=none)(L1:dL P w K mg base "read_given" bU 9 ["c","b"] (Em K CG CP CB))(L2:dL P w K mg base "fill_room" bU 6 ["parts","lines"] (Jo K CP CM)):bV P w K mg base bU 10 f fd ["c","b"] (wW K CG CP CB CM):=by
 obtain⟨g1,gr,G1,b1,k1,h1⟩:=L1.ex
 obtain⟨g2,lr,G2,b2,k2,h2⟩:=L2.ex
 refine F.ok sI (λvs H Q E h=>?_) (λak A outer s H vs Q E hr h=>?_)
 ·obtain⟨c,b,lc,lb,rfl,_⟩:=h
  rfl
 ·obtain⟨c,b,lc,lb,rfl,hc,hb,k⟩:=h
  have IJ:=hr.mono (j:=6) (by decide)
  refine⟨_,aF (bI (i:=2) sI.nd rfl (Or.inl rfl) (aP G1 hr (by rfl) h1 k1 b1 .nil aX (aA (pv 0) (aA (pv 1) aE))))
   (aF (eK (gX rO (aT (pv 2) rfl) aI (iE _))
    (aF (eE (pv 2) (aP G2 IJ (by rfl) h2 k2 b2 .nil aX (aA (aT (pv 2) rfl) (aA (aT (aT (pv 2) rfl) rfl) aE))) rfl)
    (aH (eK (eB (uN (bS bW (by rfl) bi boot_len (aA (aT (aT (pv 2) rfl) rfl) aE)) aI)) (aH (eE (pv 2) (vC nY aI) rfl)) cD))) cD)
   (aH (aU (pv 2)))),?_⟩
  refine⟨_,rfl,_,rfl,c,b,lc,lb,rfl,hc,hb,λH1 g S1 BZ hg=>?_⟩
  cases eg:dF lc lb with
  |no n=>
   rw[eg] at k hg
   obtain⟨dx,pa,hg⟩:=hg
   have hn:=Vw eg
   refine⟨_,rfl,g,CG,dx,_,_,rfl,hg,TG.cl,TG.n1,rfl,rfl,_,rfl,cE (λe=>?_) (λe=>?_)⟩
   ·rw[iG] at e
    have:=d7 e
    omega
   ·exact⟨_,rfl,k _ g S1 BZ ⟨dx,pa,hg⟩⟩
  |bad i=>
   rw[eg] at k hg
   obtain⟨dx,pa,hg⟩:=hg
   refine⟨_,rfl,g,CG,dx,_,_,rfl,hg,TG.cl,TG.n1,rfl,rfl,_,rfl,cE (λe=>?_) (λe=>?_)⟩
   ·rw[iG] at e
    exact absurd (d7 e) (by decide)
   ·exact⟨_,rfl,k _ g S1 BZ ⟨dx,pa,hg⟩⟩
  |ok aa nm ls=>
   rw[eg] at k hg
   obtain⟨dx,pa,q,bs,hg,df,cy,BL,jf,pf⟩:=hg
   obtain⟨rj,na,la,ts,hq,jv,d8,xt,kr,U9⟩:=id BL
   have six:=Fc eg
   have trn:=zC eg
   refine⟨_,rfl,g,CG,dx,_,_,rfl,hg,TG.cl,TG.n1,rfl,rfl,_,rfl,cE (λe=>?_) (λe=>absurd (by decide) e)⟩
   refine⟨_,rfl,g,CG,dx,_,_,rfl,hg,TG.cl,TG.n3,rfl,_,rfl,g,CG,dx,_,_,rfl,hg,TG.cl,TG.n4,rfl,q,CB,rj,_,_,rfl,hq,TB.cl,TB.n2,rfl,pa,la,bs,ts,aa,ls,rfl,df,cy,d8,xt,Ui (Dg eg).1,λx hx=>⟨six x hx,trn x hx⟩,kr,λH2 m S2 oo MZ=>?_⟩
   have jw:=S1.trans S2
   obtain⟨dm,s0,o0,wr,sg,ow,r1,r2,r3,r4,r5⟩:=id MZ
   have M0:m≠g:=λz=>by rw[z,hg] at oo;cases oo
   have sk:=S2 _ _ hg
   refine⟨_,rfl,g,CG,dx,_,rfl,sk,TG.cl,TG.n5,(by show 5<1000;decide),?_⟩
   have keep:∀(rf:Int)(bv:V),(∀y o,H y=some o->upd H2 g (.ins CG dx (Fk rf 0 pa (.ref q) bv)) y=some o):=λrf bv y o e=>by
    rw[aC (aD e BZ)]
    exact jw _ _ e
   have mq:∀(rf:Int){y:Addr}{o:HO},y≠g->H2 y=some o->upd H2 g (.ins CG dx (Fk rf 0 pa (.ref q) (.ref m))) y=some o:=λrf y o n e=>by rw[aC n];exact e
   have fin:∀(rf:Int)(H3:Hp),rf=(if cP aa 0 [] [] ls=[] then 0 else -9)->H3=upd H2 g (.ins CG dx (Fk rf 0 pa (.ref q) (.ref m)))->Q (.ref g) H3:=λrf H3 er e3=>by
    subst e3
    have n1:∀{y:Addr}{o:HO},H2 y=some o->(∀C dx fs,o≠.ins C dx fs)->upd H2 g (.ins CG dx (Fk rf 0 pa (.ref q) (.ref m))) y=some o:=λ{y o} e nn=>mq rf (λz=>by
     rw[z,sk] at e
     cases e
     exact nn _ _ _ rfl) e
    have nq:q≠g:=λz=>by
     rw[z,hg] at hq
     injection hq with hq
     injection hq with _ _ hq
     cases hq
    have HP:dS CP (upd H2 g (.ins CG dx (Fk rf 0 pa (.ref q) (.ref m)))) bs aa:=by
     refine Paired.mapP cy λb' pr z=>⟨?_,z.2⟩
     obtain⟨U',VA,cc,f1,f2,f3⟩:=z.1
     have nb:b'≠g:=λz=>by
      rw[z,hg] at f1
      injection f1 with f1
      injection f1 with _ _ f1
      cases f1
     exact⟨U',VA,cc,mq rf nb (S2 _ _ f1),n1 (S2 _ _ f2) (by intro _ _ _ z;cases z),n1 (S2 _ _ f3) (by intro _ _ _ z;cases z)⟩
    refine k _ g (keep rf _) BZ ⟨dx,pa,q,m,bs,by rw[aB,er],n1 (S2 _ _ df) (by intro _ _ _ z;cases z),HP,⟨rj,na,la,ts,mq rf nq (S2 _ _ hq),n1 (S2 _ _ jv) (by intro _ _ _ z;cases z),n1 (S2 _ _ d8) (by intro _ _ _ z;cases z),xt.keep λy xs e=>n1 (S2 _ _ e) (by intro _ _ _ z;cases z),kr,U9⟩,
     ⟨dm,s0,o0,wr,sg,ow,mq rf M0 r1,n1 r2 (by intro _ _ _ z;cases z),n1 r3 (by intro _ _ _ z;cases z),n1 r4 (by intro _ _ _ z;cases z),r5⟩,pf⟩
   have M':upd H2 g (.ins CG dx (Fk 0 0 pa (.ref q) (.ref m))) g=some (.ins CG dx (Fk 0 0 pa (.ref q) (.ref m))):=aB
   have IK:=mq 0 M0 r1
   have VB:wr≠g:=λz=>by rw[z,sk] at r2;cases r2
   have VC:=mq 0 VB r2
   refine⟨_,rfl,g,CG,dx,_,_,rfl,M',TG.cl,TG.n5,rfl,m,CM,dm,_,_,rfl,IK,TM.cl,TM.n3,rfl,wr,_,rfl,.inl (cR.of VC),_,_,rfl,rfl,_,rfl,cE (λhh=>?_) (λhh=>?_)⟩
   ·have hh:(0:Int)<(((cP aa 0 [] [] ls).map V.int).length:Int):=d7 hh
    rw[ai] at hh
    refine⟨_,rfl,_,rfl,g,CG,dx,_,rfl,M',TG.cl,TG.n1,(by show 5<1000;decide),_,rfl,fin (-9) _ ?_ ?_⟩
    ·rw[ae]
     intro z
     rw[z] at hh
     cases hh
    ·funext y
     by_cases hy:y=g
     ·rw[hy,aB,aB]
      rfl
     ·rw[aC hy,aC hy,aC hy]
   ·have hh:¬(0:Int)<(((cP aa 0 [] [] ls).map V.int).length:Int):=λz=>hh (c9 z)
    rw[ai] at hh
    have e0:cP aa 0 [] [] ls=[]:=yn (by omega)
    exact⟨_,rfl,fin 0 _ (by rw[af e0]) rfl⟩
structure aF4(P:Program)(w:World)(K:Frag)(mg:Str->Option Value)(base:Heap)(CG CP CB CM:Addr):Prop where
 TM:RmT K CM
 tpt:dL P w K mg base "turned_part" bU 4 ["part","turns"] (nL CP)
 iD:dL P w K mg base "turned_sizes" bU 1 ["part","turns"] (sB CP)
 bey:dL P w K mg base "beyond_room" bU 1 ["x","y","z"] sF
 lea:dL P w K mg base "leaves_room" bU 2 ["parts","put"] (sG K CP)
 right:dL P w K mg base "read_right" bU 10 ["c","b"] (wW K CG CP CB CM)
theorem aFk(X:K.In h)(G:h.Ns mainGlobals mg)(L:aBn P w K mg base (dW K "Part") (dW K "Build") (dW K "Given"))(hK:∀f∈ftR,f.PP K):aF4 P w K mg base (dW K "Given") (dW K "Part") (dW K "Build") (dW K "Room"):=by
 have g:∀(i:Nat)(f:Ft),ftR[i]?=some f->f.PP K:=λi f e=>Ft.nth hK i e
 have ci:∀{x:Str}{n:Int},Wf K x n->CI mg x n:=λhk=>hk.ci X G
 have nn:∀{x:Str},nsIn K mainGlobals x=some none->mg x=none:=λe=>mg_none_of X G e
 have TM:RmT K (dW K "Room"):=⟨Kg.cl (g 0 (.cl "Room") rfl),(g 1 (.at "Room" "signs") rfl),(g 2 (.at "Room" "owners") rfl),(g 3 (.at "Room" "wrong") rfl)⟩
 have RM:RmM P w K mg base (dW K "Room"):=⟨Bx.mk (g 4 (.mt "Room" "__init__" "Room.__init__" Eu) rfl) (g 0 (.cl "Room") rfl) (λf fd F=>aCy F TM) λ_ _ _ _ _ _ us hl=>(by obtain⟨a,rfl⟩:=_root_.L2.sP hl;rfl),mg_of X G (Kg.ns (g 0 (.cl "Room") rfl))⟩
 have M1:dL P w K mg base "turned_once" bU 3 ["part"] (Ld (dW K "Part")):=hJ.fn0 (g 5 (.fn "turned_once" Nf) rfl) X G (λf fd F=>aAn F L.TP L.PM) λ_ _ _ _ _ _ us hl=>(by obtain⟨a,rfl⟩:=_root_.L2.sP hl;rfl)
 have M2:dL P w K mg base "turned_part" bU 4 ["part","turns"] (nL (dW K "Part")):=hJ.fn0 (g 6 (.fn "turned_part" wB) rfl) X G (λf fd F=>Ri F (nn (g 7 (.no "range") rfl)) M1) λ_ _ _ _ _ _ us hl=>(by obtain⟨a,b,rfl⟩:=_root_.L2.vG hl;rfl)
 have M3:dL P w K mg base "turned_sizes" bU 1 ["part","turns"] (sB (dW K "Part")):=hJ.fn0 (g 8 (.fn "turned_sizes" vV) rfl) X G (λf fd F=>Qc F L.TP) λ_ _ _ _ _ _ us hl=>(by obtain⟨a,b,rfl⟩:=_root_.L2.vG hl;rfl)
 have M4:dL P w K mg base "beyond_room" bU 1 ["x","y","z"] sF:=hJ.fn0 (g 9 (.fn "beyond_room" wC) rfl) X G (λf fd F=>Qo F (ci (g 10 (.int "ROOM_WIDTH" 64) rfl)) (ci (g 11 (.int "ROOM_DEPTH" 64) rfl)) (ci (g 12 (.int "ROOM_HEIGHT" 96) rfl))) λ_ _ _ _ _ _ us hl=>(by obtain⟨a,b,c,rfl⟩:=_root_.L2.us3 hl;rfl)
 have M5:dL P w K mg base "leaves_room" bU 2 ["parts","put"] (sG K (dW K "Part")):=hJ.fn0 (g 13 (.fn "leaves_room" vN) rfl) X G (λf fd F=>Re F M3 M4) λ_ _ _ _ _ _ us hl=>(by obtain⟨a,b,rfl⟩:=_root_.L2.vG hl;rfl)
 have M6:dL P w K mg base "cells_in_room" bU 5 ["parts","put"] (Mc K (dW K "Part")):=hJ.fn0 (g 14 (.fn "cells_in_room" Od) rfl) X G (λf fd F=>Zt F L.TP M2) λ_ _ _ _ _ _ us hl=>(by obtain⟨a,b,rfl⟩:=_root_.L2.vG hl;rfl)
 have M7:dL P w K mg base "blocked_lines" bU 2 ["cells","room"] (tM (dW K "Room")):=hJ.fn0 (g 15 (.fn "blocked_lines" sD) rfl) X G (λf fd F=>Kf F TM L.up L.dn L.stud L.tube) λ_ _ _ _ _ _ us hl=>(by obtain⟨a,b,rfl⟩:=_root_.L2.vG hl;rfl)
 have M8:dL P w K mg base "wrong_with" bU 3 ["room","cells","j"] (wV (dW K "Room")):=hJ.fn0 (g 16 (.fn "wrong_with" rG) rfl) X G (λf fd F=>Se F TM (nn (g 17 (.no "len") rfl)) (nn (g 18 (.no "min") rfl)) M7) λ_ _ _ _ _ _ us hl=>(by obtain⟨a,b,c,rfl⟩:=_root_.L2.us3 hl;rfl)
 have M9:dL P w K mg base "fill_room" bU 6 ["parts","lines"] (Jo K (dW K "Part") (dW K "Room")):=hJ.fn0 (g 19 (.fn "fill_room" Mt) rfl) X G (λf fd F=>Yi F TM RM (nn (g 17 (.no "len") rfl)) (nn (g 20 (.no "enumerate") rfl)) M6 M5 M8) λ_ _ _ _ _ _ us hl=>(by obtain⟨a,b,rfl⟩:=_root_.L2.vG hl;rfl)
 exact⟨TM,M2,M3,M4,M5,hJ.fn0 (g 21 (.fn "read_right" lZ) rfl) X G (λf fd F=>Cs F L.TG L.TB TM (nn (g 17 (.no "len") rfl)) L.given M9) λ_ _ _ _ _ _ us hl=>(by obtain⟨a,b,rfl⟩:=_root_.L2.vG hl;rfl)⟩
def tL(r:List aM->List Int->List (List Nat)->List Int)(lc lb:List Int):List Int:=match dF lc lb with
 |.no n=>[n]
 |.bad _=>[-5]
 |.ok aa nm ls=>if cP aa 0 [] [] ls=[] then r aa nm ls else [-9]
structure aHi(lc lb:List Int)(aa:List aM)(nm:List Int)(ls:List (List Nat))(d:Br.Build):Prop where
 eg:dF lc lb=.ok aa nm ls
 ok:∀pr∈aa,dI pr
 ln:∀x∈ls,Dz aa.length x
 tr:∀x∈ls,eF x 5<=3
 dl:d.lines=ls.map fR
 dn:aW d.name=nm
 cw:¬(Br.wrong (aa.map cA)).isSome=true
 fr:cP aa 0 [] [] ls=[]
 rm:Kc (xJ aa ls)
theorem Lx(hc:Si lc)(hb:Si lb){f:Br.Catalogue->Br.Build->BrB.Answer}{r:List aM->List Int->List (List Nat)->List Int}(hr:∀aa nm ls d,aHi lc lb aa nm ls d->BuildsNeutral.shown (f (aa.map cA) d)=r aa nm ls):
  BuildsNeutral.shown (BrB.ofRight (Jw lc) (Jw lb) f)=tL r lc lb:=by
 have h:=Fz hc hb
 have h6:= @Fc lc lb
 have h7:= @zC lc lb
 have he:∀{aa nm ls},dF lc lb=.ok aa nm ls->dF lc lb=.ok aa nm ls:=λe=>e
 unfold tL BrB.ofRight BrB.ofBuild BrB.ofCatalogue
 generalize hg:dF lc lb=g at h h6 h7
 cases g with
 |no n=>
  rcases h with ⟨rfl,h⟩|⟨rfl,h,e,h2⟩|⟨rfl,h,k,h2,h3⟩
  ·simp only[af h];rfl
  ·simp only[ae h,h2];rfl
  ·simp only[ae h,h2,af h3];rfl
 |bad i=>
  obtain⟨h,k,h2,h3,h4⟩:=h
  simp only[ae h,h2,ae h3,h4];rfl
 |ok aa nm ls=>
  obtain⟨h,ok,h2,h3,d,h4,h5,hn⟩:=h
  simp only[ae h,h2,ae h3,h4]
  have fm:=sW ok (λx hx=>(h6 rfl x hx).2) h5
  by_cases e0:cP aa 0 [] [] ls=[]
  ·rw[af e0]
   rw[e0] at fm
   have hw:¬(d.wrong (aa.map cA)).isSome=true:=by
    cases e:d.wrong (aa.map cA) with
    |none=>decide
    |some w=>rw[e] at fm;cases fm
   rw[ae hw]
   exact hr aa nm ls d ⟨hg,ok,λx hx=>h6 rfl x hx,λx hx=>h7 rfl x hx,h5,hn,h3,e0,Lz ok (λx hx=>(h6 rfl x hx).2) e0⟩
  ·rw[ae e0]
   have hw:(d.wrong (aa.map cA)).isSome=true:=by
    cases e:d.wrong (aa.map cA) with
    |none=>rw[e] at fm;exact absurd fm e0
    |some w=>rfl
   rw[af hw]
   rfl
theorem Yk{g:Addr}(h:aBv CG CP CB CM H g (dF lc lb)):∃(dx pa:Addr)(bv rv:V)(rf ft:Int),H g=some (.ins CG dx (Fk rf ft pa bv rv))/\
  ((rf<0/\∀r,tL r lc lb=[rf])\/(rf=0/\∃(aa:List aM)(nm:List Int) (ls:List (List Nat)) (q m:Addr) (bs:List Addr),dF lc lb=.ok aa nm ls/\(∀r,tL r lc lb=r aa nm ls)/\cP aa 0 [] [] ls=[]/\bv=.ref q/\rv=.ref m/\H pa=some (.lst (bs.map V.ref))/\dS CP H bs aa/\xS CB H q nm ls/\Jm CM H m aa ls/\aa.length<=64)):=by
 have hn:= @Vw lc lb
 unfold tL
 cases eg:dF lc lb with
 |no n=>
  rw[eg] at h
  obtain⟨dx,pa,h⟩:=h
  have hn:=hn eg
  exact⟨dx,pa,.non,.non,n,0,h,.inl ⟨by omega,λ_=>rfl⟩⟩
 |bad i=>
  rw[eg] at h
  obtain⟨dx,pa,h⟩:=h
  exact⟨dx,pa,.non,.non, -5,i,h,.inl ⟨by decide,λ_=>rfl⟩⟩
 |ok aa nm ls=>
  rw[eg] at h
  obtain⟨dx,pa,q,m,bs,h1,h2,h3,h4,h5,h6⟩:=h
  refine⟨dx,pa,.ref q,.ref m,_,0,h1,?_⟩
  by_cases e:cP aa 0 [] [] ls=[]
  ·rw[af e]
   exact .inr ⟨rfl,aa,nm,ls,q,m,bs,rfl,λr=>(by show (if _=_ then _ else _)=_;rw[af e]),e,rfl,rfl,h2,h3,h4,h5,h6⟩
  ·rw[ae e]
   exact .inl ⟨by decide,λr=>(by show (if _=_ then _ else _)=_;rw[ae e])⟩
end Br1
namespace L2
open PySem PySem.Spec PyProof.Rows
theorem aDr{tt:TT}{vs:List Nat}{D:Addr}{Qd:Hp->Prop}(Pv:Nat->Hp->Prop)(h0:Pv 0 (upd H1 D (.lst [])))
  (hs:∀i c H,x.cps[i]?=some c->Pv i H->g (.str ⟨#[c]⟩) (fF σ vs) H λau H2=>fF au vs=fF σ vs/\tt au H2 λb H3=>
   if b=true then te au H3 λy H4=>∃acc,H4 D=some (.lst acc)/\acc.length<sizeLine/\Pv (i+1) (upd H4 D (.lst (acc++[y]))) else Pv (i+1) H3) (hd:∀H,Pv x.cps.size H->Qd H):
  ∃W:Nat->Nat->Hp->Prop,(∃m,W 0 m (upd H1 D (.lst [])))/\∀i m H,W i m H->
   ((Its x).stop i H/\Qd H)\/((Its x).go i H/\∃Nx:Hp->Prop,(∀H',Nx H'->∃m',m'<m/\W (i+1) m' H')/\∀v H',(Its x).yld i H v H'->g v (fF σ vs) H' λau H2=>fF au vs=fF σ vs/\tt au H2 λb H3=>
    if b=true then te au H3 λy H4=>∃acc,H4 D=some (.lst acc)/\acc.length<sizeLine/\Nx (upd H4 D (.lst (acc++[y]))) else Nx H3):=by
 refine⟨λi m H=>m=x.cps.size - i/\i<=x.cps.size/\Pv i H,⟨x.cps.size,by simp,c8 _,h0⟩,?_⟩
 rintro i m H ⟨rfl,hi,p⟩
 by_cases am:i<x.cps.size
 ·refine .inr ⟨am,Pv (i+1),λH' p'=>⟨x.cps.size - (i+1),by (clear hi;omega),rfl,am,p'⟩,λv H' y=>?_⟩
  obtain⟨e,c,e1,rfl⟩:=y
  subst e
  exact hs i c _ e1 p
 ·have e:i=x.cps.size:=by omega
  subst e
  exact .inl ⟨ap _,hd H p⟩
def tFs(x:Str)(te:TE):TE:=fun σ H Q=>te σ H λv H1=>∃i:Int,v=.int i/\i.natAbs.log2<1920/\x.length+(Str.ofString (toString i)).length<=sizeLine/\Q (.str (x++Str.ofString (toString i))) H1
theorem Ae(x:Str):Str.empty++x=x:=by
 cases x with
 |mk c=>
  show Str.mk (#[]++c)=_
  rw[Array.empty_append]
theorem Zr{p1 p2:Pos}(he:PE X e te)(hx:x.length<=1000:=by decide+kernel):PE X (.JoinedStr [.Constant (.str x) j p1,.FormattedValue e (-1) none p2] pos) (tFs x te):=by
 intro U s σ H Q I h
 have hb:1000<=sizeLine:=by rw[p8];decide
 refine wpAny_JoinedStr ?_
 show wpAny _ _ (eval (.Constant (.str x) j p1) X.env) _ _ _
 refine Calls.Constant_str ⟨x,_,rfl,by rw[Ae];omega,?_⟩
 show wpAny _ _ (eval (.FormattedValue e (-1) none p2) X.env) _ _ _
 refine wpAny_FormattedValue_plain (cX (he U _ σ H _ (I.tok _) h) λv s2 ⟨y,H1,I1,r1,i,ei,hl,hz,q⟩=>?_)
 subst ei
 obtain⟨t,rfl⟩:=r1
 refine wpAny_formatField_int hl ?_
 rw[Ae]
 have B0:(x++Str.ofString (toString i)).length<=sizeLine:=by rw[PySem.strLen_append];exact hz
 exact⟨_,_,rfl,B0,B0,.str _,H1,(I1.tok _).tok _,⟨_,rfl⟩,q⟩
end L2
namespace Br1
open PySem PySem.Spec PyProof.Rows L2
def Fj(x:Str):List Int:=x.cps.toList.map λ(c:Nat)=>(c:Int)
theorem Mo(n:Nat):(Str.ofString (toString (n:Int))).cps.toList=zR n:=by
 rw[Str.ofString_eq_toList]
 show ((toString (n:Int)).toList.map Char.toNat).toArray.toList=_
 rw[List.toList_toArray]
 unfold zR
 have e:toString (n:Int)=String.ofList (Nat.toDigits 10 n):=rfl
 rw[e,String.toList_ofList]
theorem Eg:∀{k n:Nat},n<10 ^ (k+1)->(zR n).length<=k+1
 |0,n,h=>by rw[Dj (by omega)];exact ap _
 |k+1,n,h=>by
  by_cases hn:n<10
  ·rw[Dj hn];exact Nat.le_add_left 1 (k+1)
  ·rw[Bq (by omega),b6]
   have:=Eg (k:=k) (n:=n / 10) (by rw[Nat.pow_succ] at h;omega)
   show _+1<=_
   omega
theorem iY{f:α->List β}{c:Nat}:∀{l:List α},(∀x∈l,(f x).length<=c)->(l.flatMap f).length<=c * l.length
 |[],_=>by simp
 |x::r,h=>by
  have ih:=iY (l:=r) λy hy=>h y (a7 _ hy)
  have h1:=h x bf
  rw[CY,b6,bh,Nat.mul_succ]
  omega
theorem Aq{f:α->List β}{l:List α}{x:α}(e:l[i]?=some x):(l.take (i+1)).flatMap f=(l.take i).flatMap f++f x:=by
 rw[jh,e,CV]
 show _++([x]:List α).flatMap f=_
 rw[CY,J3,fh]
structure YOk(aa:List aM)(y:List Int):Prop where
 l:y.length=6
 n:∀k∈y,0<=k/\k<10000
 p:(iN y 0).toNat<aa.length
theorem wE{k:Int}(h:k<10000):(nX k).length<=4:=by
 unfold nX
 rw[ai]
 exact Eg (k:=3) (by omega)
theorem Nd{y:List Int}(h:YOk aa y)(hp:∀pr∈aa,pr.name.length<=8):(Xu (aa.map (·.name)) y).length<=100:=by
 unfold Xu
 have h1:=iY (f:=λn=>(32:Int)::nX n) (c:=5) (l:=y.drop 1) λk hk=>by
  have:=wE (h.n k (FH hk)).2
  rw[bh]
  omega
 have h2:((aa.map (·.name)).getD (iN y 0).toNat []).length<=8:=by
  rw[b8,a9,ay h.p]
  exact hp _ (o3 _)
 have h3:(y.drop 1).length=5:=by rw[AF,h.l]
 rw[h3] at h1
 simp only[b6,bh,lh]
 omega
theorem aCx(x y:Str):Fj (x++y)=Fj x++Fj y:=by
 unfold Fj
 show (x.cps++y.cps).toList.map _=_
 rw[Array.toList_append,b7]
theorem aDl{k:Int}(h:0<=k):Fj ((" ":Str)++Str.ofString (toString k))=32::nX k:=by
 obtain⟨n,rfl⟩:=J4 h
 have e1:Fj (" ":Str)=[32]:=by decide+kernel
 have e2:Fj (Str.ofString (toString (n:Int)))=nX (n:Int):=by
  unfold Fj nX
  rw[Mo]
  rfl
 rw[aCx,e1,e2]
 rfl
variable{K:Frag}
theorem SX.seqTl{ys:List V}(s:SX r H H')(hr:H r=some (.lst ys))(h:cM K H a xs):cM K H' a xs:=by
 rcases h with (h|⟨o,h⟩)|h
 ·exact .inl (.inl (s _ _ h (by rintro rfl;rw[hr] at h;cases h)))
 ·exact .inl (.inr ⟨o,s _ _ h (by rintro rfl;rw[hr] at h;cases h)⟩)
 ·exact .inr h
theorem Tu:vJ xs (some 1) none=xs.drop 1:=by
 unfold vJ
 have e1:HT.iB xs.length 0 (some 1)=min 1 xs.length:=HT.Mu xs.length 0 1
 have e2:HT.iB xs.length xs.length none=xs.length:=rfl
 rw[e1,e2]
 cases xs with
 |nil=>rfl
 |cons x r=>
  have:min 1 (x::r).length=1:=by rw[bh];omega
  rw[this,wc (by rw[AF];exact ap _)]
def xP(H:Hp)(la:Addr)(ys:List (List Int)):Prop:=∃ts:List Addr,H la=some (.lst (ts.map V.ref))/\Paired (zU H) ts ys
theorem xP.same{la:Addr}(h:xP H la ys)(s:aK H H'):xP H' la ys:=by
 obtain⟨ts,h1,h2⟩:=h
 exact⟨ts,s _ _ h1,Paired.mapP h2 λt y z=>⟨s _ _ z.1,z.2⟩⟩
theorem aFw{la:Addr}{ts:List Addr}(h1:H la=some (.lst (ts.map V.ref)))(h2:jZ H ts ls):xP H la (ls.map xL):=by
 refine⟨ts,h1,?_⟩
 clear h1
 unfold jZ at h2
 induction h2 with
 |nil=>exact .nil
 |cons r t ih=>exact .cons ⟨by rw[<-Xr];exact r.1,by unfold xL;rw[ai];exact r.2⟩ ih
def yO(K:Frag):Sp:=λvs H Q _=>∃(la:Addr)(dx dy dz:Int) (ys:List (List Int)),vs=[.ref la,.int dx,.int dy,.int dz]/\xP H la ys/\ys.length<=256/\
 ∀(H':Hp)(l:Addr),aK H H'->H l=none->xP H' l (ys.map (Tx dx dy dz))->Q (.ref l) H'
abbrev Nj:List Str:=["lines","dx","dy","dz","put"]
theorem sT:aN Nj ["lines","dx","dy","dz"] (aG oU):=⟨rfl,rfl,rfl,by decide+kernel,rfl,by decide+kernel,by decide+kernel⟩
theorem Pn(F:fH K "moved_lines" "moved_lines" oU f fd):bV P w K mg base bU 1 f fd ["lines","dx","dy","dz"] (yO K):=by
 refine F.ok sT (λvs H Q E h=>?_) (λak A outer s H vs Q E hr h=>?_)
 ·obtain⟨la,dx,dy,dz,ys,rfl,_⟩:=h
  rfl
 ·obtain⟨la,dx,dy,dz,ys,rfl,⟨ts,d8,jx⟩,yl,k⟩:=h
  refine⟨_,aH (aU (rK (own:=[("put",4)]) (te:=aBb (dP (vF (gK K) (cY 4) (tC (.int 0))) (dP (vF (gK K) (cY 4) (tC (.int 1))) (dP (vF (Vs λi j=>.int (i+j)) (vF (gK K) (cY 4) (tC (.int 2))) (cY 1)) (dP (vF (Vs λi j=>.int (i+j)) (vF (gK K) (cY 4) (tC (.int 3))) (cY 2)) (dP (vF (Vs λi j=>.int (i+j)) (vF (gK K) (cY 4) (tC (.int 4))) (cY 3)) (dP (vF (gK K) (cY 4) (tC (.int 5))) gM))))))) rfl sT.nd (fV (pv 0)) (eP (N:=Nj) (sc:=aG oU) (by decide+kernel))
   (λ_ _ _ _ _=>bH (i:=4) sT.nd rfl (Or.inl rfl)) (λ_ _ _ _ _=>gF)
   (λ_ _ _ _ _=>eD (aA (bQ (r:=gK K) bE (pv 4) aI (λ_ _=>rfl)) (aA (bQ (r:=gK K) bE (pv 4) aI (λ_ _=>rfl)) (aA (cI gE (bQ (r:=gK K) bE (pv 4) aI (λ_ _=>rfl)) (pv 1)) (aA (cI gE (bQ (r:=gK K) bE (pv 4) aI (λ_ _=>rfl)) (pv 2)) (aA (cI gE (bQ (r:=gK K) bE (pv 4) aI (λ_ _=>rfl)) (pv 3)) (aA (bQ (r:=gK K) bE (pv 4) aI (λ_ _=>rfl)) aE))))))))),?_⟩
  have bw:=aY
  have jl:ts.length=ys.length:=Paired.length jx
  refine⟨_,rfl,la,rfl,⟨_,cR.of d8⟩,λDl c7=>?_⟩
  refine lN (K:=K) (xs:=ts.map V.ref) (λi H'=>aK H H'/\∃us:List Addr,H' Dl=some (.lst (us.map V.ref))/\Paired (zU H') us ((ys.map (Tx dx dy dz)).take i)) ⟨aK.new c7,[],aB,.nil⟩ (λi H' _ z=>cR.of (z.1 _ _ d8)) ?_ ?_
  ·rintro i x H1 ex ⟨S1,us,cn,pu⟩
   have hi:i<ys.length:=by
    have:=(bq.mp ex).1
    rwa [ai,jl] at this
   obtain⟨y,ey⟩:∃y,ys[i]?=some y:=⟨_,ay hi⟩
   obtain⟨t,et,ht,vg⟩:=bY jx ey
   rw[a9,et] at ex
   cases ex
   obtain⟨a0,a1,a2,a3,a4,a5,rfl⟩:=lQ vg
   have iw:=cM.of (K:=K) (S1 _ _ ht)
   have ul:us.length<=256:=by
    have:=Paired.length pu
    rw[fj,ai] at this
    omega
   refine⟨rfl,_,rfl,t,_,_,_,rfl,rfl,iw,rfl,_,rfl,t,_,_,_,rfl,rfl,iw,rfl,_,rfl,t,_,_,_,rfl,rfl,iw,rfl,_,rfl,_,_,rfl,rfl,_,rfl,t,_,_,_,rfl,rfl,iw,rfl,_,rfl,_,_,rfl,rfl,_,rfl,t,_,_,_,rfl,rfl,iw,rfl,_,rfl,_,_,rfl,rfl,_,rfl,t,_,_,_,rfl,rfl,iw,rfl,(by show 6<=sizeLine;omega),λp fp=>?_⟩
   have nDp:Dl≠p:=aD cn fp
   refine⟨_,by rw[aC nDp];exact cn,by rw[ai];omega,λb o e=>?_,us++[p],by rw[aB,b7];rfl,?_⟩
   ·rw[aC (aD e c7),aC (aD (S1 _ _ e) fp)]
    exact S1 _ _ e
   ·have e2:(ys.map (Tx dx dy dz))[i]?=some (Tx dx dy dz [a0,a1,a2,a3,a4,a5]):=by rw[a9,ey];rfl
    rw[jh,e2]
    refine Paired.snoc (Paired.mapP pu λu v z=>⟨?_,z.2⟩) ⟨?_,rfl⟩
    ·rw[aC (λe=>by have z1:=z.1;rw[e,cn] at z1;cases z1),aC (aD z.1 fp)]
     exact z.1
    ·rw[aC (ax nDp),aB]
     rfl
  ·rintro H1 ⟨S1,us,cn,pu⟩
   rw[ai,jl,wc (by rw[ai];exact ap _)] at pu
   exact k H1 Dl S1 c7 ⟨us,cn,pu⟩
theorem Va{q:List Nat×Nat}(h:eG aj l p=.ok q):eF q.1 1<=255:=by
 unfold eG at h
 obtain⟨p1,_,h⟩:=aL h
 obtain⟨n,en,h⟩:=aL h
 obtain⟨r,er,h⟩:=aL h
 obtain⟨_,_,h⟩:=aL h
 cases h
 have hl:=rJ (r:=r) er
 have hl:r.1.length=5:=hl
 have e:r.1[0]?=some r.1[0]:=ay (by omega)
 have:=Ee er 0 r.1[0] 255 e rfl
 show (n.1::r.1).getD 1 0<=255
 rw[b8]
 show (r.1[0]?).getD 0<=255
 rw[e]
 exact this
theorem Bz:∀{n p:Nat} {q:List (List Nat)×Nat},cG aj l n p=.ok q->∀x∈q.1,eF x 1<=255
 |0,p,q,h=>by cases h;intro x hx;cases hx
 |n+1,p,q,h=>by
  rw[cG] at h
  split at h
  ·cases h;intro x hx;cases hx
  ·obtain⟨q1,e1,h⟩:=aL h
   obtain⟨q2,e2,rfl⟩:=fG h
   intro x hx
   rcases ao.mp hx with rfl|hx
   ·exact Va e1
   ·exact Bz e2 x hx
theorem Zl{nm:List Int}(h:dF lc lb=.ok aa nm ls):∀x∈ls,eF x 1<=255:=by
 have h:=(Dg h).2
 unfold dJ at h
 obtain⟨_,_,h⟩:=aL h
 obtain⟨_,_,h⟩:=aL h
 obtain⟨_,_,h⟩:=aL h
 obtain⟨r,er,h⟩:=aL h
 split at h
 ·cases h;exact Bz er
 ·cases h
theorem aDh(hc:Si lc)(hb:Si lb){nm:List Int}(h:dF lc lb=.ok aa nm ls):(∀pr∈aa,dI pr)/\¬(Br.wrong (aa.map cA)).isSome=true:=by
 have h1:=Fz hc hb
 rw[h] at h1
 exact⟨h1.2.1,h1.2.2.2.1⟩
theorem Sz{bs:List Addr}(h:dS CP H bs aa):∀pr∈aa,pr.name.length<=8:=λpr hp=>by
 obtain⟨i,e⟩:=ox.mp hp
 obtain⟨b,_,_,po⟩:=bY h e
 exact po.nm
theorem Je:∀{ls:List (List Nat)} {j:Nat} {sg ow:CL},cP aa j sg ow ls=[]->∀x∈ls,jP (uC aa x) (eF x 2) (eF x 3) (eF x 4)=false
 |[],_,_,_,_,x,hx=>by cases hx
 |y::r,j,sg,ow,h,x,hx=>by
  rw[cP] at h
  split at h
  ·cases h
  ·rename_i h1
   split at h
   ·cases h
   ·split at h
    ·cases h
    ·rcases ao.mp hx with rfl|hx
     ·exact cQ h1
     ·exact Je h x hx
theorem Gg(ok:∀pr∈aa,dI pr)(h6:∀x∈ls,Dz aa.length x)(h5:∀x∈ls,eF x 5<=3)(fr:cP aa 0 [] [] ls=[]):∀y∈ls.map xL,Xy aa y:=by
 intro y hy
 obtain⟨x,hx,rfl⟩:=a8.mp hy
 have lv:=Je fr x hx
 obtain⟨hl,h0⟩:=h6 x hx
 rw[<-Ak ok h0] at lv
 have z:=(uK ok h0).mp lv
 have z5:=h5 x hx
 obtain⟨a,b,c,d,e,f,rfl⟩:=six hl
 have z:0<=(c:Int)/\0<=(d:Int)/\0<=(e:Int)/\(c:Int)+(iD aa a f).1<=64/\(d:Int)+(iD aa a f).2.1<=64/\(e:Int)+(iD aa a f).2.2<=96:=z
 have z5:f<=3:=z5
 refine⟨rfl,?_,h0,?_,?_,?_,?_⟩
 ·show ∀k∈[(a:Int),(b:Int),(c:Int),(d:Int),(e:Int),(f:Int)],0<=k
  simp only[ao,dk,i',ug,uh]
  omega
 ·show (f:Int)<4
  omega
 ·show (c:Int)+(iD aa a f).1<=64
  omega
 ·show (d:Int)+(iD aa a f).2.1<=64
  omega
 ·show (e:Int)+(iD aa a f).2.2<=96
  omega
theorem yG:(ls.map xL).map (λy=>fR (rS y))=ls.map fR:=by
 rw[dh]
 refine we λx _=>?_
 show fR (rS (xL x))=fR x
 have:rS (xL x)=x:=by
  unfold rS xL
  rw[dh]
  have:(Int.toNat∘λ(n:Nat)=>(n:Int))=id:=funext λn=>fq n
  rw[this,J2]
 rw[this]
def Hn(y:List Int):Prop:=iN y 1<=255
theorem Ot:(gJ ys).length=ys.length:=by
 unfold gJ
 split
 ·rename_i h
  rw[h]
  rfl
 ·rw[ai]
theorem Xy.six0{y:List Int}(h:Xy aa y):0<=iN y 0/\0<=iN y 5:=by
 obtain⟨hl,hn,_⟩:=h
 obtain⟨a,b,c,d,e,f,rfl⟩:=lQ hl
 exact⟨hn a (by simp),hn f (by simp)⟩
theorem tJ(h:¬(Br.wrong (aa.map cA)).isSome=true):∀pr∈aa,(cA pr).tight=true:=by
 intro pr hp
 unfold Br.wrong at h
 rw[qH,cx,yf,cq] at h
 have g:=j8.mp h.1 (cA pr) (qe hp)
 unfold iJ at g
 simp only[cq] at g
 exact g.2.2.1
theorem Yh(h:∀y∈ys,Hn y):∀y∈gJ ys,Hn y:=by
 unfold gJ
 split
 ·intro y hy;cases hy
 ·intro y hy
  obtain⟨v,hv,rfl⟩:=a8.mp hy
  exact h v hv
theorem aEw(ok:∀pr∈aa,dI pr)(EA:aa.length<=64){y:List Int}(h:Xy aa y)(hc:Hn y):YOk aa y:=by
 obtain⟨hl,hn,hp,hr,hx,hy,hz⟩:=h
 obtain⟨a,b,c,d,e,f,rfl⟩:=lQ hl
 have zp:=Oi ok (r:=f.toNat) (p:=a.toNat) hp
 simp only[ao,dk,i',ug,uh] at hn
 have W4:a.toNat<aa.length:=hp
 have hr:f<4:=hr
 have hc:b<=255:=hc
 have hx:c+(iD aa a.toNat f.toNat).1<=64:=hx
 have hy:d+(iD aa a.toNat f.toNat).2.1<=64:=hy
 have hz:e+(iD aa a.toNat f.toNat).2.2<=96:=hz
 refine⟨rfl,?_,hp⟩
 simp only[ao,dk,i',ug,uh]
 omega
theorem Cu{la Dl:Addr}{ts:List Addr}{kk:Int}(hk:k<6)(ek:kk=k)(d8:H la=some (.lst (ts.map V.ref)))(jx:Paired (zU H) ts ys)(yl:ys.length<=256)(c7:H Dl=none){v0 vx vy vz v4:Option V}{Qd:Hp->Prop}(h:∀(H':Hp),aK H H'->H' Dl=some (.lst ((ys.map λy=>iN y k).map V.int))->Qd H'):
  ∃W:Nat->Nat->Hp->Prop,(∃m,W 0 m (upd H Dl (.lst [])))/\∀i m H,W i m H->
   ((Wc K la).stop i H/\Qd H)\/((Wc K la).go i H/\∃Nx:Hp->Prop,(∀H',Nx H'->∃m',m'<m/\W (i+1) m' H')/\∀x H',(Wc K la).yld i H x H'->mP 4 x (fF [v0,vx,vy,vz,v4] [4]) H' λau H2=>fF au [4]=fF [v0,vx,vy,vz,v4] [4]/\aFc au H2 λb H3=>
    if b=true then vF (gK K) (cY 4) (tC (.int kk)) au H3 λy H4=>∃acc,H4 Dl=some (.lst acc)/\acc.length<sizeLine/\Nx (upd H4 Dl (.lst (acc++[y]))) else Nx H3):=by
 have bw:=aY
 have jl:ts.length=ys.length:=Paired.length jx
 refine lN (K:=K) (xs:=ts.map V.ref) (λi H'=>aK H H'/\H' Dl=some (.lst (((ys.map λy=>iN y k).take i).map V.int))) ⟨aK.new c7,aB⟩ (λi H' _ z=>cR.of (z.1 _ _ d8)) ?_ ?_
 ·rintro i x H1 ex ⟨S1,cn⟩
  have hi:i<ys.length:=by
   have:=(bq.mp ex).1
   rwa [ai,jl] at this
  obtain⟨y,ey⟩:∃y,ys[i]?=some y:=⟨_,ay hi⟩
  obtain⟨t,et,ht,vg⟩:=bY jx ey
  rw[a9,et] at ex
  cases ex
  have IL:Nw (y.map V.int) kk=some (V.int (iN y k)):=by
   have:(y.map V.int)[k]?=some (V.int (iN y k)):=by
    unfold iN
    rw[a9,b8,ay (by omega)]
    rfl
   rw[ek]
   exact iO this
  refine⟨rfl,_,rfl,t,_,_,_,rfl,rfl,cM.of (S1 _ _ ht),IL,_,cn,?_,?_,?_⟩
  ·rw[ai,fj,ai]
   omega
  ·intro b' o e
   rw[aC (aD e c7)]
   exact S1 _ _ e
  ·have e3:(ys.map λy=>iN y k)[i]?=some (iN y k):=by rw[a9,ey];rfl
   rw[aB,jh,e3,b7]
   rfl
 ·rintro H1 ⟨S1,cn⟩
  rw[ai,jl,wc (by rw[ai];exact ap _)] at cn
  exact h H1 S1 cn
def aG8(ls:List (List Nat)):Br.Build:=⟨[],ls.map fR⟩
theorem Ke{m:Int}(hm:m∈l)(hl:∀y∈l,m<=y):m=iM l:=by
 have h1:=oG (l:=l) (List.ne_nil_of_mem hm)
 have h2:=oS hm
 have h3:=hl _ h1
 omega
def Li(K:Frag):Sp:=λvs H Q _=>∃(la:Addr) (ys:List (List Int)),vs=[.ref la]/\xP H la ys/\ys.length<=256/\∀(H':Hp)(l:Addr),aK H H'->xP H' l (gJ ys)->Q (.ref l) H'
abbrev Oc:List Str:=["lines","x","y","z","put"]
theorem hG:aN Oc ["lines"] (aG kI):=⟨rfl,rfl,rfl,by decide+kernel,rfl,by decide+kernel,by decide+kernel⟩
theorem aAk(F:fH K "moved_home" "moved_home" kI f fd)(bi:mg "len"=none)(zy:mg "min"=none)(L1:dL P w K mg base "moved_lines" bU 1 ["lines","dx","dy","dz"] (yO K)):bV P w K mg base bU 2 f fd ["lines"] (Li K):=by
 obtain⟨g1,gr,G1,b1,k1,h1⟩:=L1.ex
 refine F.ok hG (λvs H Q E h=>?_) (λak A outer s H vs Q E hr h=>?_)
 ·obtain⟨la,ys,rfl,_⟩:=h
  rfl
 ·obtain⟨la,ys,rfl,hY,yl,k⟩:=h
  have pl:∀(kk:Int)(s:Shared)(H:Hp)(C:Addr) (cl:List (Str×Addr)) (fp:List Addr),True:=λ_ _ _ _ _ _=>trivial
  refine⟨_,aF (eK (eB (aD6 (bS bW (by rfl) bi boot_len (aA (pv 0) aE)) aI)) (aH (aU (eN aE))) cD)
   (aF (bI (i:=1) hG.nd rfl (Or.inl rfl) (bS (zH rfl) (by rfl) zy boot_min (aA (rK (own:=[("put",4)]) (te:=vF (gK K) (cY 4) (tC (.int 2))) rfl hG.nd (fV (pv 0)) (eP (N:=Oc) (sc:=aG kI) (by decide+kernel)) (λ_ _ _ _ _=>bH (i:=4) hG.nd rfl (Or.inl rfl)) (λ_ _ _ _ _=>gF) (λ_ _ _ _ _=>bQ (r:=gK K) bE (pv 4) aI (λ_ _=>rfl))) aE)))
   (aF (bI (i:=2) hG.nd rfl (Or.inl rfl) (bS (zH rfl) (by rfl) zy boot_min (aA (rK (own:=[("put",4)]) (te:=vF (gK K) (cY 4) (tC (.int 3))) rfl hG.nd (fV (pv 0)) (eP (N:=Oc) (sc:=aG kI) (by decide+kernel)) (λ_ _ _ _ _=>bH (i:=4) hG.nd rfl (Or.inl rfl)) (λ_ _ _ _ _=>gF) (λ_ _ _ _ _=>bQ (r:=gK K) bE (pv 4) aI (λ_ _=>rfl))) aE)))
   (aF (bI (i:=3) hG.nd rfl (Or.inl rfl) (bS (zH rfl) (by rfl) zy boot_min (aA (rK (own:=[("put",4)]) (te:=vF (gK K) (cY 4) (tC (.int 4))) rfl hG.nd (fV (pv 0)) (eP (N:=Oc) (sc:=aG kI) (by decide+kernel)) (λ_ _ _ _ _=>bH (i:=4) hG.nd rfl (Or.inl rfl)) (λ_ _ _ _ _=>gF) (λ_ _ _ _ _=>bQ (r:=gK K) bE (pv 4) aI (λ_ _=>rfl))) aE)))
   (aH (aU (aP G1 hr (by rfl) h1 k1 b1 .nil aX (aA (pv 0) (aA (vC nY (pv 1)) (aA (vC nY (pv 2)) (aA (vC nY (pv 3)) aE)))))))))),?_⟩
  have bw:=aY
  obtain⟨ts,d8,jx⟩:=id hY
  have jl:(ts.map V.ref).length=ys.length:=by rw[ai];exact Paired.length jx
  refine⟨_,rfl,la,_,rfl,.inl (cR.of d8),_,_,rfl,rfl,_,rfl,cE (λe=>?_) (λe=>?_)⟩
  ·have e:(((ts.map V.ref).length:Nat):Int)=0:=d7 e
   rw[jl] at e
   have e0:ys.length=0:=by omega
   unfold gJ at k
   rw[af e0] at k
   exact⟨by show 0<=sizeLine;omega,λl fl=>k _ l (aK.new fl) ⟨[],aB,.nil⟩⟩
  ·have e:¬(((ts.map V.ref).length:Nat):Int)=0:=λz=>e (c9 z)
   rw[jl] at e
   have e0:¬ys.length=0:=by omega
   unfold gJ at k
   rw[ae e0] at k
   have np:∀j,0<(ys.map λy=>iN y j).length:=λj=>by rw[ai];omega
   have pk:∀{H':Hp},aK H H'->Paired (zU H') ts ys:=λs=>Paired.mapP jx λt y z=>⟨s _ _ z.1,z.2⟩
   refine⟨_,rfl,la,rfl,⟨_,cR.of d8⟩,λD1 n1=>Cu (k:=2) (by decide) rfl d8 jx yl n1 λH1 S1 d1=>⟨D1,_,rfl,cR.of d1,np 2,λm2 tw ii=>?_⟩⟩
   refine⟨_,rfl,la,rfl,⟨_,cR.of (S1 _ _ d8)⟩,λD2 n2=>Cu (k:=3) (by decide) rfl (S1 _ _ d8) (pk S1) yl n2 λH2 S2 d2=>⟨D2,_,rfl,cR.of d2,np 3,λm3 IK vf=>?_⟩⟩
   have jw:=S1.trans S2
   refine⟨_,rfl,la,rfl,⟨_,cR.of (jw _ _ d8)⟩,λD3 n3=>Cu (k:=4) (by decide) rfl (jw _ _ d8) (pk jw) yl n3 λH3 S3 d3=>⟨D3,_,rfl,cR.of d3,np 4,λm4 xw HZ=>?_⟩⟩
   have xl:=(S1.trans S2).trans S3
   rw[<-Ke tw ii,<-Ke IK vf,<-Ke xw HZ] at k
   exact⟨_,rfl,_,rfl,_,rfl,_,rfl,_,rfl,_,rfl,_,rfl,la,_,_,_,ys,rfl,hY.same xl,yl,λH4 l S4 fl hl=>k H4 l (xl.trans S4) hl⟩
theorem Sw{nm:String}{xs ys:List (List dQ×Addr×Value)}{Q:Bool->Shared->Prop}(ha:(a==sysModules)=false)(hb:(b==sysModules)=false)(da:s.heap.DictOfH (tupleKind (dN prog w)) a xs)(db:s.heap.DictOfH (tupleKind (dN prog w)) b ys)(room:(tupleKind (dN prog w)).room A)
  (vx:∀x∈xs,∃n t,x.2.2=Value.int n t) (f:List dQ->Option Int) (f1:∀(j:Nat)(k:List dQ)(p:Addr×Value),ys[j]?=some (k,p)->∃n t,p.2=Value.int n t/\f k=some n) (f2:∀k,(∀(j:Nat)(p:Addr×Value),ys[j]?≠some (k,p))->f k=none)
  (h:Q (decide (xs.length=ys.length) && xs.all λx=>decide (f x.1=some (numOf x.2.2))) s):wpAny (model prog w) A (Builtin.Dict.samePairs nm a b) Q E s:=by
 obtain⟨oa,es,ep,EB,xa,dda,ea,ia,na⟩:=da
 obtain⟨ob,ge,md,IM,xb,ddb,eb,ib,nb⟩:=db
 have za:es.size=xs.length:=CF ea
 have zb:ge.size=ys.length:=CF eb
 unfold Builtin.Dict.samePairs Builtin.Dict.showsAll
 rw[ae (show ¬(a==sysModules)=true by rw[ha];exact ca),ae (show ¬(b==sysModules)=true by rw[hb];exact ca)]
 refine ac (ag (ac (ag (ac (qd EB dda ?_)))))
 dsimp only
 refine ac (qd IM ddb ?_)
 by_cases hz:xs.length=ys.length
 ·rw[ae (by rw[za,zb,hz];simp)]
  rw[c9 hz,i9] at h
  refine ac (vw EB dda (ac ?_))
  rw[Std.Legacy.Range.forIn_eq_forIn_range']
  simp only[Std.Legacy.Range.size,CO,Nat.add_sub_cancel,Nat.div_one]
  rw[za]
  refine wpAny_forIn_list _ (λrest q s'=>s'=s/\q=(none,())/\∃i,rest=List.range' i (xs.length - i)/\i<=xs.length/\((xs.take i).all λx=>decide (f x.1=some (numOf x.2.2)))=true) _ ?_ ?_ _ _ ⟨rfl,rfl,0,by simp,c8 _,rfl⟩
  ·rintro x rest q s' ⟨rfl,rfl,i,hr,hi,al⟩
   have lt:i<xs.length:=by
    rcases J5 i xs.length with z|z
    ·exact z
    ·rw[Nat.sub_eq_zero_of_le z] at hr
     cases hr
   obtain⟨rfl,GU⟩:x=i/\rest=List.range' (i+1) (xs.length - (i+1)):=by
    rw[show xs.length - i=(xs.length - (i+1))+1 by omega,JY] at hr
    injection hr with h1 h2
    exact⟨h1,h2⟩
   obtain⟨⟨k,q,v⟩,ex⟩:∃y,xs[x]?=some y:=⟨_,ay lt⟩
   have exm:=d9 ex
   obtain⟨n,t,ev⟩:=vx _ exm
   have ev:v=.int n t:=ev
   subst ev
   refine ac (qd EB dda ?_)
   rw[CH ea x,ex]
   show wpAny _ _ (holding [Value.ref q,Value.int n t] _>>=_) _ _ _
   have fin:∀{m:Option Int},f k=m->(m=some n->((xs.take (x+1)).all λx=>decide (f x.1=some (numOf x.2.2)))=true)/\(m≠some n->(xs.all λx=>decide (f x.1=some (numOf x.2.2)))=false):=λ{m} e=>by
    refine⟨λz=>?_,λz=>?_⟩
    ·rw[jh,ex,OP,al,i9]
     show (decide (f k=some n) && true)=true
     rw[e,z]
     simp
    ·rw[E7]
     intro y
     have:=j8.mp y _ exm
     have:=d7 this
     have this:f k=some n:=this
     exact z (e.symm.trans this)
   refine ac (j7 (ac (wpAny_dictFind_heap room (ia _ exm) IM ddb eb ib nb (λcp=>?_) (λj p hj=>?_))))
   ·refine ag ?_
    show wpAny _ _ (if (!false)=true then _ else _) _ _ _
    rw[af (by decide)]
    rw[(fin (f2 k cp)).2 (by intro z;cases z)] at h
    exact ag (ag h)
   ·obtain⟨m,u,e1,e2⟩:=f1 j k p hj
    refine ac (qd IM ddb ?_)
    rw[CH eb j,hj]
    show wpAny _ _ (holding [p.2] (eqBool (Value.int n t) p.2)) _ _ _
    rw[e1]
    refine j7 (wpAny_eqBool_int ?_)
    by_cases z:n=m
    ·rw[show (n==m)=true from cz.mpr z]
     show wpAny _ _ (if (!true)=true then _ else _) _ _ _
     rw[ae (by decide)]
     refine ac (vw EB dda ?_)
     rw[ae (by simp)]
     exact ag ⟨rfl,rfl,x+1,GU,lt,(fin e2).1 (by rw[z])⟩
    ·rw[show (n==m)=false from pi.mpr z]
     show wpAny _ _ (if (!false)=true then _ else _) _ _ _
     rw[af (by decide)]
     rw[(fin e2).2 (λy=>z (Option.some.inj y).symm)] at h
     exact ag (ag h)
  ·rintro q s' ⟨rfl,rfl,i,hr,hi,al⟩
   have a6:i=xs.length:=by
    rcases J5 i xs.length with z|z
    ·rw[show xs.length - i=(xs.length - (i+1))+1 by omega,JY] at hr
     cases hr
    ·omega
   rw[a6,ji] at al
   rw[al] at h
   exact ag h
 ·rw[af (by rw[za,zb];simpa using hz)]
  rw[jn hz,ly] at h
  exact ac (yj (ag h))
theorem aAh{xs ys:List (List dQ×Addr×Value)}(ha:(a==sysModules)=false)(hb:(b==sysModules)=false)(da:s.heap.DictOfH (tupleKind (dN prog w)) a xs)(db:s.heap.DictOfH (tupleKind (dN prog w)) b ys)(hu:A.units+1<cLine)
  (vx:∀x∈xs,∃n t,x.2.2=Value.int n t) (f:List dQ->Option Int) (f1:∀(j:Nat)(k:List dQ)(p:Addr×Value),ys[j]?=some (k,p)->∃n t,p.2=Value.int n t/\f k=some n) (f2:∀k,(∀(j:Nat)(p:Addr×Value),ys[j]?≠some (k,p))->f k=none)
  (h:Q (.bool (decide (xs.length=ys.length) && xs.all λx=>decide (f x.1=some (numOf x.2.2)))) s):wpAny (model prog w) A (compareOp .Eq (.ref a) (.ref b)) Q E s:=by
 refine wpAny_richCompare_same_room (op:=.Eq) da.typeIs db.typeIs PySem.F.slot_dict_eq (jg PySem.F.slot_dict_eq da.typeIs PySem.F.entry_dict_eq ?_ (PySem.F.args_dict_eq_2 _ _)) (CU hu)
 show wpAny _ _ (Builtin.Dict.dictSlotArgs "__eq__" ⟨[.ref a,.ref b],[]⟩>>=_) _ _ s
 refine ac ?_
 unfold Builtin.Dict.dictSlotArgs
 refine ac (JN da.typeIs ?_)
 show wpAny _ _ (pure (Value.ref a,Value.ref b)) _ _ s
 refine ag (ac (AK (T:="dict") db.typeIs PySem.F.sub_dict_dict ?_))
 simp only[Bool.not_true,qc,jy]
 refine ac (ag (ac (ag (ac (Sw ha hb da db (B9 hu) vx f f1 f2 ?_)))))
 refine ag ⟨_,rfl,?_,?_⟩
 ·exact λx=>nomatch x
 ·simpa using h
def Yb(cs ds:CL):Bool:=decide (cs.length=ds.length) && cs.all λc=>decide (aZ ds c.1=some c.2)
def aHc:R2:=λx y H Q=>∃(a b:Addr)(cs ds:CL),x=.ref a/\y=.ref b/\H a=some (.dT (aJ cs))/\H b=some (.dT (aJ ds))/\Q (.bl (Yb cs ds)) H
theorem aB7{xs:List (List dQ×Addr×Value)}(r:KT H (aJ cs) xs):xs.length=cs.length/\∀(j:Nat)(k:List dQ)(p:Addr×Value),xs[j]?=some (k,p)->∃q n t,cs[j]?=some (q,n)/\k=eJ q.1 q.2.1 q.2.2/\p.2=Value.int n t:=by
 have l:=Paired.length r
 unfold aJ at l
 rw[ai] at l
 refine⟨l.symm,λj k p e=>?_⟩
 have hj:j<(aJ cs).length:=by
  have:=(bq.mp e).1
  unfold aJ
  rw[ai]
  omega
 obtain⟨y,ey⟩:∃y,(aJ cs)[j]?=some y:=⟨_,ay hj⟩
 obtain⟨b,e1,h1,_,h3⟩:=jK r ey
 rw[e] at e1
 cases e1
 obtain⟨q,n,e2,e3,e4⟩:=iR (k:=y.1) (v:=y.2) ey
 rw[e4] at h3
 obtain⟨t,e5⟩:=h3
 exact⟨q,n,t,e2,h1.symm.trans e3,e5⟩
theorem Bj[DecidableEq α]:∀{l:List (α×β)} {j:Nat} {k:α} {v:β},(l.map (·.1)).Nodup->l[j]?=some (k,v)->l.find? (λc=>decide (c.1=k))=some (k,v)
 |[],j,k,v,_,e=>by cases e
 |x::r,0,k,v,_,e=>by
  cases e
  rw[lf,c9 rfl]
 |x::r,j+1,k,v,h,e=>by
  rw[bp,qb] at h
  have e:r[j]?=some (k,v):=e
  have ne:¬x.1=k:=λz=>h.1 (by rw[z];exact a8.mpr ⟨(k,v),d9 e,rfl⟩)
  rw[lf,jn ne]
  exact Bj h.2 e
theorem aCa(hu:X.A.units+1<cLine):uU X (compareOp .Eq) aHc:=by
 intro U s σ H x y v u Q I rx ry h
 obtain⟨a,b,cs,ds,rfl,rfl,ea,eb,q⟩:=h
 cases (show v=Value.ref a from rx)
 cases (show u=Value.ref b from ry)
 obtain⟨_,ha,xs,ra,da⟩:=Nq I.hok ea
 obtain⟨_,hb,ys,rb,db⟩:=Nq I.hok eb
 obtain⟨la,ka⟩:=aB7 ra
 obtain⟨lb,kb⟩:=aB7 rb
 have ndy:(ys.map (·.1)).Nodup:=by
  obtain⟨_,_,_,_,_,_,_,_,nb⟩:=id db
  exact nb
 have gy:∀(j:Nat)(q:Pl)(n:Int),ds[j]?=some (q,n)->aZ ds q=some n:=λj q n e=>by
  have nd:(ds.map (·.1)).Nodup:=by
   have e1:ys.map (·.1)=(ds.map (·.1)).map λq=>eJ q.1 q.2.1 q.2.2:=by
    refine FE λi=>?_
    rw[a9,a9,a9]
    by_cases hi:i<ys.length
    ·obtain⟨⟨k,p⟩,ei⟩:∃y,ys[i]?=some y:=⟨_,ay hi⟩
     obtain⟨q,n,t,h1,h2,h3⟩:=kb i k p ei
     rw[ei,h1,h2]
     rfl
    ·rw[k9 (by omega),k9 (by omega)]
     rfl
   rw[e1] at ndy
   exact PJ (S:=(· ≠·)) _ (λa b h z=>h (by rw[z])) ndy
  unfold aZ
  rw[Bj nd e]
  rfl
 refine aAh ha hb da db hu (λx hx=>?_) (λk=>(gL (aJ ds) k).bind λv=>match v with|.int n=>some n|_=>none) (λj k p e=>?_) (λk cp=>?_) ⟨.bl _,H,I,rfl,?_⟩
 ·obtain⟨j,e⟩:=ox.mp hx
  obtain⟨q,n,t,_,_,e3⟩:=ka j x.1 x.2 e
  exact⟨n,t,e3⟩
 ·obtain⟨q,n,t,h1,h2,h3⟩:=kb j k p e
  refine⟨n,t,h3,?_⟩
  rw[h2,kY,gy j q n h1]
  rfl
 ·show (gL (aJ ds) k).bind _=none
  cases e:gL (aJ ds) k with
  |none=>rfl
  |some v=>
   exfalso
   unfold gL at e
   obtain⟨p,hp,_⟩:=rk.mp e
   have hk:p.1=k:=by
    have:=O4 (p:=λkv:List dQ×V=>decide (kv.1=k)) hp
    exact d7 this
   obtain⟨j,ej⟩:=ox.mp (O5 hp)
   obtain⟨z,ez,h1,_⟩:=jK rb ej
   exact cp j z.2 (by rw[ez,<-hk,h1])
 ·have e1:(decide (xs.length=ys.length) && xs.all λx=>decide (((gL (aJ ds) x.1).bind λv=>match v with|.int n=>some n|_=>none)=some (numOf x.2.2)))=Yb cs ds:=by
   unfold Yb
   rw[la,lb]
   congr 1
   rw[io,j8,j8]
   have key:∀(j:Nat)(x:List dQ×Addr×Value)(c:Pl×Int),xs[j]?=some x->cs[j]?=some c->(decide (((gL (aJ ds) x.1).bind λv=>match v with|.int n=>some n|_=>none)=some (numOf x.2.2))=true↔decide (aZ ds c.1=some c.2)=true):=λj x c ex ec=>by
    obtain⟨q,n,t,h1,h2,h3⟩:=ka j x.1 x.2 ex
    rw[ec] at h1
    cases h1
    rw[h2,kY,h3,ck,ck]
    cases aZ ds q with
    |none=>constructor<;>intro z<;>cases z
    |some m=>exact Iff.rfl
   constructor
   ·intro h c hc
    obtain⟨j,e⟩:=ox.mp hc
    have hj:=(bq.mp e).1
    have ex:xs[j]?=some (xs[j]'(by omega)):=ay (by omega)
    exact(key j _ c ex e).mp (h _ (d9 ex))
   ·intro h x hx
    obtain⟨j,e⟩:=ox.mp hx
    have hj:=(bq.mp e).1
    have ec:cs[j]?=some (cs[j]'(by omega)):=ay (by omega)
    exact(key j x _ e ec).mpr (h _ (d9 ec))
  rw[e1]
  exact q
abbrev Nu:Nat->Bool:=λ_=>false
abbrev kIn(k:List Int):List (Int ⊕ List Nat):=k.map Sum.inl
def Sg(a b:List Int):Bool:=lexLt itemOrd (kIn a) (kIn b)
theorem pW:∀{vs:List Value}{ns:List Int}(i:Nat),IntsAre vs ns->tupItems Nu i vs=some (kIn ns)
 |_,_,i,.nil=>rfl
 |_,_,i,.cons n t r=>by
  rw[tupItems,ae ca,pW (i+1) r]
  rfl
def TI(h:Heap)(u:Addr)(k:List Int):Prop:=∃its:List Value,IsTup h u its.toArray/\IntsAre its k
theorem TI.key{u:Addr}{k:List Int}(t:TI h u k):G.tupKeyC h Nu (.ref u)=some (kIn k):=by
 obtain⟨its,⟨o,ho,hc,n,hd⟩,hi⟩:=t
 unfold G.tupKeyC
 have e:G.isTupObj h (.ref u)=true:=by simp[G.isTupObj,ho,hc]
 rw[af e]
 show (match h.get? u with|some o=>(match o.data with|.seq xs _=>tupItems Nu 0 xs.toList|_=>none)|none=>none)=_
 rw[ho]
 show (match o.data with|.seq xs _=>tupItems Nu 0 xs.toList|_=>none)=_
 rw[hd]
 exact pW 0 hi
theorem Ml:∀{us:List Addr} {kz:List (List Int)},Paired (TI h) us kz->(∀k∈kz,0<k.length)->∃fs,TupsOf h Nu (us.map Value.ref) fs
 |_,_,.nil,_=>⟨[],.nil⟩
 |_,_,.cons t r,hp=>by
  obtain⟨fs,hf⟩:=Ml r λk hk=>hp k (a7 _ hk)
  obtain⟨its,⟨o,ho,hc,n,hd⟩,hi⟩:=t
  have hk:=hp _ bf
  cases hi with
  |nil=>cases hk
  |cons m t hr=>exact⟨_,.cons ⟨_,o,_,n,rfl,ho,hc,hd,rfl,λ_=>⟨m,t,rfl⟩,λz=>by cases z⟩ hf⟩
def adr:Value->Addr
 |.ref a=>a
 |_=>0
def xT(kz:List (List Int))(ts:List Addr)(ps:List (List Int×Addr)):Prop:=ps.Perm (kz.zip ts)/\ps.Pairwise λp q=>Sg q.1 p.1=false
theorem Dc{us:List Addr}{kz:List (List Int)}(hu:Paired (TI h) us kz):∀(ts:List Addr)(p:Keyed),p∈(us.map Value.ref).zip (ts.map Value.ref)->∃k t,(k,t)∈kz.zip ts/\G.tupKeyC h Nu p.1=some (kIn k)/\p.2=.ref t:=by
 induction hu with
 |nil=>intro ts p hp;cases hp
 |cons r rs ih=>
  intro ts p hp
  cases ts with
  |nil=>cases hp
  |cons t ts=>
   rw[bp,bp,ym] at hp
   rcases ao.mp hp with rfl|hp
   ·exact⟨_,t,bf,r.key,rfl⟩
   ·obtain⟨k,t',h1,h2,h3⟩:=ih ts p hp
    exact⟨k,t',a7 _ h1,h2,h3⟩
def unK(l:List (Int ⊕ List Nat)):List Int:=l.map λx=>match x with|.inl n=>n|.inr _=>0
theorem vL(k:List Int):unK (kIn k)=k:=by
 unfold unK
 rw[dh]
 exact J2 k
def kp(h:Heap)(p:Keyed):List Int×Addr:=(unK ((G.tupKeyC h Nu p.1).getD []),adr p.2)
theorem aEb{us:List Addr}{kz:List (List Int)}(hu:Paired (TI h) us kz):∀(ts:List Addr),((us.map Value.ref).zip (ts.map Value.ref)).map (kp h)=kz.zip ts:=by
 induction hu with
 |nil=>intro ts;rfl
 | @cons u k us kz r rs ih=>
  intro ts
  cases ts with
  |nil=>rfl
  |cons t ts=>
   rw[bp,bp,ym,ym,bp,ih ts]
   have:kp h (Value.ref u,Value.ref t)=(k,t):=by
    unfold kp
    rw[r.key]
    show (unK (kIn k),t)=_
    rw[vL]
   rw[this]
theorem Sm{us ts:List Addr}{kz:List (List Int)}(hu:Paired (TI h) us kz){arr:Array Keyed}(hp:arr.Perm ((us.map Value.ref).toArray.zip (ts.map Value.ref).toArray))(hs:SortedToK (G.tupKindC h Nu) arr arr.size):
  ∃ps,xT kz ts ps/\(arr.map (·.2)).toList=ps.map λp=>Value.ref p.2:=by
 have uq:arr.toList.Perm ((us.map Value.ref).zip (ts.map Value.ref)):=by
  have:=Array.perm_iff_toList_perm.mp hp
  rwa [PK] at this
 refine⟨arr.toList.map (kp h),⟨?_,?_⟩,?_⟩
 ·rw[<-aEb hu ts]
  exact uq.map _
 ·rw[J6]
  refine CZ.mpr λi j hi hj NA=>?_
  rw[d4] at hi hj
  have z:=hs i j (B3 NA) hj
  have gk:∀(n:Nat)(hn:n<arr.toList.length),KK (G.tupKindC h Nu) arr n=kIn (kp h arr.toList[n]).1:=λn hn=>by
   obtain⟨k,t,_,h2,h3⟩:=Dc hu ts arr.toList[n] (uq.mem_iff.mp (o3 hn))
   unfold KK kp
   rw[<-m6,ay hn]
   show (G.tupKeyC h Nu (arr.toList[n]).1).getD []=kIn (unK ((G.tupKeyC h Nu (arr.toList[n]).1).getD []))
   rw[h2]
   show kIn k=kIn (unK (kIn k))
   rw[vL]
  rw[gk i (by rw[d4];exact hi),gk j (by rw[d4];exact hj)] at z
  exact z
 ·rw[Array.toList_map,dh]
  refine we λp hm=>?_
  obtain⟨k,t,_,_,h3⟩:=Dc hu ts p (uq.mem_iff.mp hm)
  show p.2=Value.ref (adr p.2)
  rw[h3]
  rfl
theorem Yg{D kS:Addr}{us ts:List Addr}{kz:List (List Int)}{e e1:Nat}{P:PySem.Fin->Shared->Prop}(hD:s.heap.get? D=some (seqObj "list" #[] e1))(hk:s.heap.get? kS=some (seqObj "list" (us.map Value.ref).toArray e))(aw:kS≠D)(hu:Paired (TI s.heap) us kz)(hl:ts.length=us.length)(h0:∀k∈kz,0<k.length)(hz:ts.length<=sizeLine)
  (h:∀h' ps c,xT kz ts ps->h'.get? D=some (seqObj "list" (ps.map λp=>Value.ref p.2).toArray c)->(∀b o,b≠D->b≠kS->s.heap.get? b=some o->h'.get? b=some o)->P (.done (.ret .none)) {s with heap:=h'}):
  wpAny (model prog w) A (ksk_end D false (ts.map Value.ref).toArray e1 (.ref kS) (us.map Value.ref).toArray) P E s:=by
 have zs:((us.map Value.ref).toArray.zip (ts.map Value.ref).toArray).size=ts.length:=by
  rw[Array.size_zip,cb,cb,ai,ai,hl,Nat.min_self]
 have tail:∀st:SortSt,(arrOf st).Perm ((us.map Value.ref).toArray.zip (ts.map Value.ref).toArray)->SortedToK (G.tupKindC s.heap Nu) (arrOf st) (arrOf st).size->failedOf st=none->wpAny (model prog w) A (ksk_tail D false e1 (.ref kS) st) P E s:=λst hp hs hf=>by
  obtain⟨ps,sb,eo⟩:=Sm hu hp hs
  have oz:((arrOf st).map (·.2)).size=ts.length:=by rw[Array.size_map,hp.size_eq,zs]
  have ea:(arrOf st).map (·.2)=(ps.map λp=>Value.ref p.2).toArray:=by rw[<-eo]
  have s1:=jz s.heap kS (Obj.mapSeq λ_=>(#[]:Array Value))
  have cn:=(s1.2 D aw.symm).trans hD
  have s2:=jz (s.heap.update kS (Obj.mapSeq λ_=>(#[]:Array Value))) D (Obj.mapSeq λ_=>(arrOf st).map (·.2))
  obtain⟨c,hc⟩:∃c,((s.heap.update kS (Obj.mapSeq λ_=>(#[]:Array Value))).update D (Obj.mapSeq λ_=>(arrOf st).map (·.2))).get? D=some (seqObj "list" ((arrOf st).map (·.2)) c):=⟨_,J7 cn λ_=>(arrOf st).map (·.2)⟩
  unfold ksk_tail
  refine ac (FI hk rfl ?_ (by rw[cb,ai,<-hl];omega) (c8 _))
  refine ac (wpAny_letGo ?_)
  refine ac (seqEpoch_at cn rfl ?_)
  refine ac (FI cn rfl ?_ (c8 _) ?_)
  ·rw[hf]
   simp only[bne_self_eq_false,qc,jy]
   exact ag (h _ ps c sb (hc.trans (by rw[ea])) λb o h1 h2 q=>(s2.2 b h1).trans ((s1.2 b h2).trans q))
  ·show ((arrOf st).map (·.2)).size<=_
   rw[oz]
   omega
 unfold ksk_end
 dsimp only
 rw[ae ca]
 by_cases h2:(ts.map Value.ref).toArray.size<2
 ·rw[af h2,af h2]
  refine ac (ag ?_)
  rw[StateT.run_pure]
  refine ac (ag ?_)
  refine tail (SortSt.mk' general' _ #[] 7 none) (PL _) (λi j NA hj=>?_) rfl
  have hj:j<((us.map Value.ref).toArray.zip (ts.map Value.ref).toArray).size:=hj
  rw[zs] at hj
  rw[cb,ai] at h2
  obtain rfl:i=j:=by omega
  exact KeyOrd.kle_refl _
 ·rw[ae h2,ae h2]
  rw[cb,ai] at h2
  obtain⟨fs,NB⟩:=Ml hu h0
  have fl:=G.TupsOf.length NB
  rw[ai] at fl
  refine ac (tup_kind (by omega) NB ?_)
  refine ac (jq (G.wpS_sortRunsSt (κ:=G.tupKindC s.heap Nu) (kd:=tuples' true) (a₀:=(us.map Value.ref).toArray.zip (ts.map Value.ref).toArray) (st:=SortSt.mk' (tuples' true) ((us.map Value.ref).toArray.zip (ts.map Value.ref).toArray) #[] 7 none)
   (Q:=λ_ ff=>(arrOf ff).Perm ((us.map Value.ref).toArray.zip (ts.map Value.ref).toArray)/\failedOf ff=none/\SortedToK (G.tupKindC s.heap Nu) (arrOf ff) ((us.map Value.ref).toArray.zip (ts.map Value.ref).toArray).size)
   (G.tupC_ltAt true (G.KeepsTups.refl _)) (λp hm=>?_) ⟨PL _,rfl,rfl⟩ rfl (Stable.refl _) (by rw[zs];omega) λff a1 a2 a3 _=>⟨a1,a2,a3⟩) ?_ λ_ _ e=>e)
  ·rw[PK] at hm
   obtain⟨k,t,_,hk,_⟩:=Dc hu ts p hm
   exact⟨_,hk⟩
  ·rintro⟨⟨⟩,ff⟩ s' ⟨rfl,hp,hf,hs⟩
   exact tail ff hp (by rw[hp.size_eq];exact hs) hf
section
variable{σ:L2.St}
theorem Oo(h:jF X U H b)(e:H' b=none):jF X U H' b:=⟨e,h.2⟩
def Gn(H:Hp)(u:Addr)(k:List Int):Prop:=H u=some (.tup (k.map V.int))
theorem aF2(I:L2.aQ X U σ H s){u:Addr}{k:List Int}(h:Gn H u k):TI s.heap u k:=by
 obtain⟨its,rv,p,_⟩:=I.tuple (cM.of (K:=X.K) h)
 exact⟨its,p,rv.ints⟩
def aBs(sp:Sp)(H:Hp)(ts:List Addr)(kz:List (List Int)):Prop:=∀(i:Nat)(t:Addr)(k:List Int)(H':Hp)(Q:VK),ts[i]?=some t->kz[i]?=some k->aK H H'->(∀(H2:Hp)(u:Addr),aK H' H2->Gn H2 u k->Q (.ref u) H2)->sp [.ref t] H' Q E0
variable{D kS:Addr}{e1:Nat}{p:Str}{ts:List Addr}{kz:List (List Int)}
theorem Xe{P:PySem.Fin->Shared->Prop}(F:bV X.prog X.w X.K X.mg X.base bU k f fd [p] sp)(hr:eX (k+2) X.A)(hb:eT X.K fd [p] [])(I:L2.aQ X U σ H s)(hD:s.heap.get? D=some (seqObj "list" #[] e1))(hk:s.heap.get? kS=some (seqObj "list" #[] 0))(aw:kS≠D)(fD:jF X U H D)(fk:jF X U H kS)
  (ko:aBs sp H ts kz) (hl:ts.length=kz.length) (h0:∀k∈kz,0<k.length) (hz:ts.length<=sizeLine)
  (h:∀(H':Hp)(s':Shared) ps c,aK H H'->L2.aQ X U σ H' s'->jF X U H' D->xT kz ts ps->s'.heap.get? D=some (seqObj "list" (ps.map λp=>Value.ref p.2).toArray c)->P (.done (.ret .none)) s'):
  wpAny (model X.prog X.w) X.A.in1.in1 (ksk_rest D (.ref f) false (ts.map Value.ref).toArray e1 (.ref kS)) P E s:=by
 unfold ksk_rest
 refine ac (yj ?_)
 rw[List.forIn_toArray]
 refine ac (ksk_fold (λi s'=>∃H' us e,L2.aQ X U σ H' s'/\aK H H'/\s'.heap.get? D=some (seqObj "list" #[] e1)/\s'.heap.get? kS=some (seqObj "list" (us.map Value.ref).toArray e)/\jF X U H' D/\jF X U H' kS/\Paired (Gn H') us (kz.take i)) (ts.map Value.ref) 0 s
  ⟨H,[],0,I,λ_ _ e=>e,hD,hk,fD,fk,.nil⟩ ?_ ?_)
 ·rintro j x s1 hx ⟨H1,us,e,I1,S1,cn,EC,xy,z9,pu⟩
  rw[ou] at pu ⊢
  rw[a9] at hx
  cases et:ts[j]? with
  |none=>rw[et] at hx;cases hx
  |some t=>
   rw[et] at hx
   cases hx
   have hj:j<ts.length:=(bq.mp et).1
   obtain⟨kk,ek⟩:∃kk,kz[j]?=some kk:=⟨_,ay (by omega)⟩
   have ul:us.length=j:=by
    rw[Paired.length pu,fj]
    omega
   have Ip:L2.aQ X (U++[(D,seqObj "list" #[] e1),(kS,seqObj "list" (us.map Value.ref).toArray e)]) σ H1 s1:=I1.pins_of λq hq=>by
    rcases jp.mp hq with hq|hq
    ·exact I1.pin q (gi _ hq)
    ·rcases ao.mp hq with rfl|hq
     ·exact⟨cn,xy.1,xy.2.1,xy.2.2.1,λv z=>by cases z⟩
     ·rcases ao.mp hq with rfl|hq
      ·exact⟨EC,z9.1,z9.2.1,z9.2.2.1,λv z=>by cases z⟩
      ·cases hq
   have kf:=ko j t kk H1 (λv H2=>∃u,v=.ref u/\aK H1 H2/\Gn H2 u kk) et ek S1 λH2 u S2 ku=>⟨u,rfl,S2,ku⟩
   have bt:=hb s1 [.ref t] I1.kIn rfl
   refine ac (ua (AD (t8 (F.run X.A.in1.in1 X.stack s1 H1 ⟨[.ref t],[]⟩ [.ref t] [.ref t] _ E0 hr.in1.in1 I1.env0.in1.in1 bt (.cons rfl .nil) kf) λr s2 hq=>?_)))
   cases r with
   |error e=>exact hq.elim
   |ok fl=>
    cases fl with
    |ret v=>
     obtain⟨v',H2,I2,rv,u,rfl,S2,ku⟩:=Ip.after hq
     obtain rfl:v=Value.ref u:=rv
     have pD:=I2.pin (D,_) (gi _ (gi _ bf))
     have pk:=I2.pin (kS,_) (gi _ (gi _ (a7 _ bf)))
     have I3:=I2.unpinned
     have NC:=Oo z9 pk.2.1
     have VD:=Oo xy pD.2.1
     have ND:=jz s2.heap kS (Obj.mapSeq (·.push (Value.ref u)))
     obtain⟨c2,dq⟩:∃c2,(s2.heap.update kS (Obj.mapSeq (·.push (Value.ref u)))).get? kS=some (seqObj "list" ((us.map Value.ref).toArray.push (Value.ref u)) c2):=⟨_,J7 pk.1 (·.push (Value.ref u))⟩
     refine ac (FI pk.1 rfl ?_ (by rw[cb,ai];omega) (gu (vi (Array.size_push ..)) (by rw[cb,ai];omega)))
     have I4:=I3.turnedL (ch:=[kS]) (t':=s2.toks) (h':=s2.heap.update kS (Obj.mapSeq (·.push (Value.ref u)))) (λb o hb q=>(ND.2 b (λz=>hb (by rw[z];exact ie.mpr rfl))).trans q) (λb hb=>by rw[ie.mp hb];exact NC)
     refine ag ⟨rfl,H2,us++[u],c2,I4,S1.trans S2,(ND.2 D aw.symm).trans pD.1,?_,VD,NC,?_⟩
     ·rw[dq,b7]
      congr 2
      exact(List.push_toArray ..)
     ·rw[List.take_add_one,ek]
      exact Paired.snoc (Paired.mapP pu λu k z=>S2 _ _ z) ku
    |next=>exact hq.elim
    |brk=>exact hq.elim
    |cont=>exact hq.elim
 ·rintro s1 ⟨H1,us,e,I1,S1,cn,EC,xy,z9,pu⟩
  have et:kz.take (0+(ts.map Value.ref).length)=kz:=wc (by rw[ai];omega)
  rw[et] at pu
  have ul:ts.length=us.length:=by rw[Paired.length pu,hl]
  have pt:Paired (TI s1.heap) us kz:=Paired.mapP pu λu k z=>aF2 I1 z
  refine ac (listItems_at EC rfl ?_)
  refine Yg cn EC aw pt ul h0 hz λh' ps c sb hd ko=>?_
  refine h H1 _ ps c S1 (I1.turnedL (ch:=[D,kS]) (t':=s1.toks) (λb o hb q=>?_) (λb hb=>?_)) xy sb hd
  ·simp only[ao,dk,i',B7] at hb
   exact ko b o hb.1 hb.2 q
  ·simp only[ao,dk,i'] at hb
   rcases hb with rfl|rfl
   ·exact xy
   ·exact z9
end
section
variable{σ:L2.St}
theorem aEz{D:Addr}{o:HO}(I:L2.aQ X U σ H s)(f:jF X U H D)(new:cJ X.prog X.w (upd H D o) s.heap D o):L2.aQ X U σ (upd H D o) s:=by
 have hn:=f.1
 refine I.step (g':=s.gens) (d':=s.drawn) (t':=s.toks) (h':=s.heap) (ch:=[D]) (λb hb=>by rw[ie.mp hb];exact⟨f.2.2.2.1,f.2.1,f.2.2.2.2.1,f.2.2.2.2.2⟩) (λb o _ _ _ e _=>e) (λb o _ _ _ e _=>⟨o.slots,e⟩)
  (λb o hc e n=>?_) (λb o hc e=>⟨o,e⟩) (λb xs e=>?_) (λb o u e=>?_) (λb ps e=>⟨#[],?_⟩) (λm hm=>hm) (λb u e=>?_) I.bare
 ·rw[aC (λz=>hc (by rw[z];exact ie.mpr rfl))];exact n
 ·rw[aC (aD e hn)];exact e
 ·rw[aC (aD e hn)];exact e
 ·rw[aC (aD e hn),e];simp
 ·by_cases hb:b=D
  ·subst hb
   rw[aB] at e
   cases e
   exact new
  ·rw[aC hb] at e
   exact(I.hok b u e).stay (λc v hc q=>q) (λc q=>by rw[aC (aD q hn)];exact q) λc xs q=>by rw[aC (aD q hn)];exact q
theorem Bw:∀{ts:List Addr}{its:List Value},bO (ts.map V.ref) its->its=ts.map Value.ref
 |[],its,h=>by
  rw[vm] at h
  cases h
  rfl
 |t::ts,its,h=>by
  rw[bp] at h
  cases h with
  |cons r q=>
   cases r
   rw[Bw q]
   rfl
theorem Al:∀(ts:List Addr),bO (ts.map V.ref) (ts.map Value.ref)
 |[]=>.nil
 |t::ts=>.cons rfl (Al ts)
def Ua(K:Frag)(sp:Sp)(te:TE):TE:=fun σ H Q=>dP te gM σ H λvs H1=>∃(a:Addr)(ts:List Addr) (kz:List (List Int)),vs=[.ref a]/\cR K H1 a (ts.map V.ref)/\aBs sp H1 ts kz/\ts.length=kz.length/\(∀k∈kz,0<k.length)/\
 ∀(H2:Hp)(D:Addr) (ps:List (List Int×Addr)),aK H1 H2->H2 D=none->xT kz ts ps->Q (.ref D) (upd H2 D (.lst (ps.map λp=>V.ref p.2)))
theorem Ky{p g:Str}{p1 p2 p3:Pos}(F:bV X.prog X.w X.K X.mg X.base bU k f fd [p] sp)(hr:eX (k+2) X.A)(hb:eT X.K fd [p] [])(DL:Gl X "sorted")(oo:X.mg "sorted"=none)(sk:Gl X g)(tw:X.mg g=some (.ref f))(he:PE X e te)
  (gn:(g==("__debug__":Str))=false:=by decide) (hs:starEach [e] X.env=[(false,eval e X.env)]:=by rfl):PE X (.Call (.Name "sorted" p1) [e] [⟨some "key",.Name g p2,p3⟩] pos) (Ua X.K sp te):=by
 intro U s σ H Q I h
 refine wpAny_Call_Name_kw (lV I DL oo boot_sorted ?_ (by decide) (by decide))
 refine PyProof.Rows.callWith_kw (cX ((aA he aE hs) pos U s σ H _ I h) λus s1 ⟨vs,H1,I1,r1,q1⟩=>?_) (by rw[hs];rfl) (by rw[hs];rfl) rfl rfl
 refine PyProof.Rows.kws_cons (iT I1 sk tw (PyProof.Rows.kws_nil ?_) gn)
 obtain⟨a,ts,kz,rfl,hq,ko,hl,h0,q⟩:=q1
 obtain⟨its,rv,pl,lz⟩:=I1.list hq
 obtain rfl:=Bw rv
 rw[ai] at lz
 have iz:(ts.map Value.ref).length<=sizeLine:=by rw[ai];exact lz
 rw[bO.ref1 r1]
 refine call_function_entry_kw kind_sorted plain_sorted entry_sorted (ksk_s1 _ _) ?_
 unfold Builtin.«sorted»
 refine ac (m:=checkCount "sorted" 1 1 _) (ag ?_)
 refine ac (collect_list pl.isList ?_ iz)
 refine ac (J8 ?_ iz)
 generalize hh1:(s1.heap.push (seqObj "list" #[] 0)).update s1.heap.objs.size (Obj.mapSeq (· ++(ts.map Value.ref).toArray))=h1
 have VE:h1.objs.size=s1.heap.objs.size+1:=by rw[<-hh1,Heap.size_update,size_push']
 have k1:∀b o,s1.heap.get? b=some o->h1.get? b=some o:=λb o e=>by
  have am:b<s1.heap.objs.size:=bg e
  rw[<-hh1,JP _ _ _ _ (b9 am),Heap.get?_push_ne _ _ _ (b9 am)]
  exact e
 have oD:(h1.push (seqObj "list" (ts.map Value.ref).toArray 0)).get? h1.objs.size=some (seqObj "list" (ts.map Value.ref).toArray 0):=cg _ rfl
 have k2:∀b o,s1.heap.get? b=some o->(h1.push (seqObj "list" (ts.map Value.ref).toArray 0)).get? b=some o:=λb o e=>bj _ (k1 b o e)
 have I2:=I1.kept (t':=s1.toks) k2
 have ij:s1.heap.objs.size<=h1.objs.size:=by rw[VE];exact AE _
 have fD:jF X U H1 h1.objs.size:=I1.fpOk ij (I1.hok.fresh ij)
 refine ac (j7 (wpAny_call_entry_kw slot_list_sort ⟨_,oD,rfl⟩ entry_list_sort ?_ (ksk_l1 _ _)))
 show wpAny _ _ (Builtin.«list.sort» ⟨[.ref h1.objs.size],[(Str.ofString "key",.ref f)]⟩) _ _ {s1 with heap:=h1.push (seqObj "list" (ts.map Value.ref).toArray 0)}
 rw[ksk_t1]
 unfold ksk_tree
 refine ac (listItems_at oD rfl ?_)
 refine ac (FI oD rfl ?_ (by rw[cb];omega) (c8 _))
 have sb:=jz (h1.push (seqObj "list" (ts.map Value.ref).toArray 0)) h1.objs.size (Obj.mapSeq λ_=>(#[]:Array Value))
 obtain⟨e1,IN⟩:∃e1,((h1.push (seqObj "list" (ts.map Value.ref).toArray 0)).update h1.objs.size (Obj.mapSeq λ_=>(#[]:Array Value))).get? h1.objs.size=some (seqObj "list" #[] e1):=⟨_,J7 oD λ_=>#[]⟩
 have I3:=I2.turnedL (ch:=[h1.objs.size]) (t':=s1.toks) (h':=(h1.push (seqObj "list" (ts.map Value.ref).toArray 0)).update h1.objs.size (Obj.mapSeq λ_=>(#[]:Array Value))) (λb o hb q=>(sb.2 b (λz=>hb (by rw[z];exact ie.mpr rfl))).trans q) (λb hb=>by rw[ie.mp hb];exact fD)
 refine ac (seqEpoch_at IN rfl ?_)
 refine ac (wpAny_newTuple ?_ iz)
 refine ac (J8 ?_ (c8 _))
 refine j7 ?_
 generalize z6:((h1.push (seqObj "list" (ts.map Value.ref).toArray 0)).update h1.objs.size (Obj.mapSeq λ_=>(#[]:Array Value)))=h3 at I3 IN
 have VF:h3.objs.size=h1.objs.size+1:=by rw[<-z6,Heap.size_update,size_push']
 have szk:(h3.push (seqObj "tuple" (ts.map Value.ref).toArray 0)).objs.size=h1.objs.size+2:=by rw[size_push',VF]
 have I4:=I3.kept (t':=s1.toks) (h':=(h3.push (seqObj "tuple" (ts.map Value.ref).toArray 0)).push (seqObj "list" #[] 0)) λb u e=>bj _ (bj _ e)
 have lek:s1.heap.objs.size<=(h3.push (seqObj "tuple" (ts.map Value.ref).toArray 0)).objs.size:=by rw[szk];omega
 have fk:jF X U H1 (h3.push (seqObj "tuple" (ts.map Value.ref).toArray 0)).objs.size:=I1.fpOk lek (I1.hok.fresh lek)
 refine Xe (s:={s1 with heap:=(h3.push (seqObj "tuple" (ts.map Value.ref).toArray 0)).push (seqObj "list" #[] 0)}) F hr hb I4 (bj _ (bj _ IN)) (cg _ rfl) (by rw[szk];exact px (vt (k8 _))) fD fk ko hl h0 lz λH5 s5 ps c S5 I5 f5 NE o5=>⟨_,rfl,?_⟩
 have pz:(ps.map λp=>V.ref p.2).length<=sizeLine:=by
  rw[ai,NE.1.length_eq,List.length_zip]
  omega
 have ev:(ps.map λp=>V.ref p.2)=(ps.map (·.2)).map V.ref:=by rw[dh];rfl
 have eu:(ps.map λp=>Value.ref p.2)=(ps.map (·.2)).map Value.ref:=by rw[dh];rfl
 refine ag ⟨_,rfl,.ref h1.objs.size,upd H5 h1.objs.size (.lst (ps.map λp=>V.ref p.2)),aEz I5 f5 ⟨pz,ps.map (λp=>Value.ref p.2),c,?_,o5⟩,rfl,q H5 h1.objs.size ps S5 f5.1 NE⟩
 rw[ev,eu]
 exact Al _
end
abbrev qW(l:List Nat):Prop:=l.Pairwise (· <·)
theorem xX{l:List Nat}(hr:qW l)(j:Nat):∀(f lo hi:Nat),hi - lo<=f->lo<=hi->hi<=l.length->(∀i,i<lo->l.getD i j<j)->(∀i,hi<=i->i<l.length->j<=l.getD i j)->
  ∃m,SetTable.below.go l.toArray j f lo hi=m/\m<=l.length/\(∀i,i<m->l.getD i j<j)/\∀i,m<=i->i<l.length->j<=l.getD i j
 |0,lo,hi,h1,h2,h3,ha,hb=>⟨lo,rfl,by omega,ha,λi h4 h5=>hb i (by omega) h5⟩
 |f+1,lo,hi,h1,h2,h3,ha,hb=>by
  rw[SetTable.below.go]
  by_cases h:lo<hi
  ·rw[af h]
   have em:(l.toArray).getD ((lo+hi) / 2) j=l.getD ((lo+hi) / 2) j:=by
    rw[b8,Array.getD_eq_getD_getElem?,FJ]
   show ∃m,(if (l.toArray).getD ((lo+hi) / 2) j<j then _ else _)=m/\_
   rw[em]
   have mono:∀i k,i<k->k<l.length->l.getD i j<l.getD k j:=λi k h1 h2=>by
    have:=CZ.mp hr i k (by omega) h2 h1
    rw[b8,b8,ay h2,ay (by omega:i<l.length)]
    exact this
   by_cases hm:l.getD ((lo+hi) / 2) j<j
   ·rw[af hm]
    refine xX hr j f _ _ (by omega) (by omega) h3 (λi GW=>?_) hb
    by_cases e:i=(lo+hi) / 2
    ·rw[e];exact hm
    ·exact EO (mono i ((lo+hi) / 2) (by omega) (by omega)) hm
   ·rw[ae hm]
    refine xX hr j f _ _ (by omega) (by omega) (by omega) ha (λi GW hl=>?_)
    by_cases e:i=(lo+hi) / 2
    ·rw[e];omega
    ·have:=mono ((lo+hi) / 2) i (by omega) hl
     omega
  ·rw[ae h]
   exact⟨lo,rfl,by omega,ha,λi h4 h5=>hb i (by omega) h5⟩
theorem sN{l:List Nat}(hr:qW l)(j:Nat):SetTable.below l.toArray j<=l.length/\(∀i,i<SetTable.below l.toArray j->l.getD i j<j)/\∀i,SetTable.below l.toArray j<=i->i<l.length->j<=l.getD i j:=by
 obtain⟨m,e,h⟩:=xX hr j l.length 0 l.length (by omega) (by omega) (ap _) (λi h=>absurd h (ud _)) (λi h1 h2=>absurd h2 (by omega))
 have e2:SetTable.below l.toArray j=m:=by
  rw[<-e]
  show SetTable.below.go l.toArray j l.toArray.size 0 l.toArray.size=_
  rw[cb]
 rw[e2]
 exact h
theorem Jq{l:List Nat}(hr:qW l)(hi:i<l.length):SetTable.below l.toArray l[i]=i:=by
 obtain⟨h1,h2,h3⟩:=sN hr l[i]
 have g:l.getD i l[i]=l[i]:=by rw[b8,ay hi];rfl
 by_cases a:i<SetTable.below l.toArray l[i]
 ·have:=h2 i a;rw[g] at this;exact absurd this (j5 _)
 ·by_cases b:SetTable.below l.toArray l[i]<i
  ·have q:=h3 _ (ap _) (by omega)
   have p:=CZ.mp hr _ i (by omega) hi b
   rw[b8,ay (by omega)] at q
   have q:l[i]<=l[SetTable.below l.toArray l[i]]:=q
   omega
  ·omega
theorem Lu{l:List Nat}(hr:qW l)(hi:i<l.length):SetTable.below l.toArray (l[i]+1)=i+1:=by
 obtain⟨h1,h2,h3⟩:=sN hr (l[i]+1)
 have g:l.getD i (l[i]+1)=l[i]:=by rw[b8,ay hi];rfl
 by_cases a:SetTable.below l.toArray (l[i]+1)<=i
 ·have:=h3 i a hi;rw[g] at this;omega
 ·by_cases b:i+1<SetTable.below l.toArray (l[i]+1)
  ·have q:=h2 (i+1) b
   have p:=CZ.mp hr i (i+1) hi (by omega) (by omega)
   rw[b8,ay (by omega)] at q
   have q:l[i+1]<l[i]+1:=q
   omega
  ·omega
theorem Jr{l:List Nat}(hr:qW l):SetTable.below l.toArray 0=0:=by
 obtain⟨h1,h2,h3⟩:=sN hr 0
 by_cases a:0<SetTable.below l.toArray 0
 ·exact absurd (h2 0 a) (ud _)
 ·omega
theorem Uf{l:List Nat}(hr:qW l)(hj:j∉l):qW (SetTable.insertAt l.toArray (SetTable.below l.toArray j) j).toList:=by
 obtain⟨h1,h2,h3⟩:=sN hr j
 rw[SetTable.toList_insertAt]
 show qW (l.take _++j::l.drop _)
 generalize SetTable.below l.toArray j=m at h1 h2 h3
 have bo:∀x∈l.take m,x<j:=λx hx=>by
  obtain⟨i,hi,rfl⟩:=FK.mp hx
  rw[fj] at hi
  have:=h2 i (by omega)
  rw[b8,ay (by omega:i<l.length)] at this
  rw[List.getElem_take]
  exact this
 have d5:∀x∈l.drop m,j<x:=λx hx=>by
  obtain⟨i,hi,rfl⟩:=FK.mp hx
  rw[AF] at hi
  have:=h3 (m+i) (by omega) (by omega)
  rw[b8,ay (by omega:m+i<l.length)] at this
  have this:j<=l[m+i]:=this
  rw[List.getElem_drop]
  rcases J5 j l[m+i] with h|h
  ·exact h
  ·exact absurd (FK.mpr ⟨m+i,by omega,by omega⟩) hj
 refine List.pairwise_append.mpr ⟨hr.sublist (NX _ _),yq.mpr ⟨d5,hr.sublist (List.drop_sublist _ _)⟩,λa ha b hb=>?_⟩
 rcases ao.mp hb with rfl|hb
 ·exact bo a ha
 ·exact EO (bo a ha) (d5 b hb)
theorem zK(n:Nat):qW (List.range n):=List.pairwise_lt_range
structure TG(t:SetTable):Prop where
 ris:qW t.place.toList
 nod:t.dummies=#[]
theorem yB{t:SetTable}(nd:t.dummies=#[])(hf:Nat->Int)(h:Int):∀(f:Nat)(p:SetTable.Probe)(j:Nat)(d:Option Nat),p.dummy=none->SetTable.probe.go t hf h f p=some (.empty j d)->d=none/\t.slot j=.empty
 |0,p,j,d,_,e=>by cases e
 |f+1,p,j,d,hp,e=>by
  rw[SetTable.probe.go] at e
  have ha:∀q:SetTable.Probe,q.dummy=none->(t.advance q).dummy=none:=λq hq=>by
   unfold SetTable.advance
   split
   ·exact hq
   ·exact hq
  split at e
  ·rename_i es
   cases e
   exact⟨hp,es⟩
  ·rename_i es
   exfalso
   unfold SetTable.slot at es
   dsimp only at es
   split at es
   ·cases es
   ·rw[nd] at es
    split at es
    ·rename_i hh
     unfold SetTable.has at hh
     simp at hh
    ·cases es
  ·split at e
   ·cases e
   ·exact yB nd hf h f _ j d (ha _ hp) e
theorem Ue{t:SetTable}(g:TG t){h:Int}{b:Bool}(e:t.freeSlot h=some (j,b)):j∉t.place.toList/\b=false:=by
 unfold SetTable.freeSlot at e
 split at e
 ·rename_i j' d e2
  obtain⟨rfl,hs⟩:=yB g.nod _ _ _ _ j' d rfl e2
  cases e
  refine⟨λhm=>?_,rfl⟩
  obtain⟨i,hi,e3⟩:=FK.mp hm
  have hb:=Jq g.ris hi
  rw[e3] at hb
  unfold SetTable.slot at hs
  dsimp only at hs
  have hb:SetTable.below t.place j'=i:=hb
  rw[hb] at hs
  have:(t.place[i]?==some j')=true:=by
   rw[<-m6,ay hi,e3]
   exact EV _
  rw[af this] at hs
  cases hs
 ·cases e
theorem TG.stand{t:SetTable}{n:Nat}:TG (t.standIn n):=⟨by
 show qW (Array.range n).toList
 rw[Array.toList_range]
 exact zK n,rfl⟩
theorem TG.lay{t:SetTable}(g:TG t){h:Int}{x:Value}:TG (layNew t es h x).2.1:=by
 unfold layNew
 split
 ·rename_i j b e
  obtain⟨hj,rfl⟩:=Ue g e
  show TG ((t.put j).1.orStandIn _)
  unfold SetTable.orStandIn
  split
  ·refine⟨?_,?_⟩
   ·have:=Uf (l:=t.place.toList) g.ris hj
    exact this
   ·show (if SetTable.has t.dummies j=true then _ else t.dummies)=#[]
    rw[g.nod,ae (by show ¬SetTable.has #[] j=true;unfold SetTable.has;simp)]
  ·exact TG.stand
 ·exact TG.stand
theorem aBf{t:SetTable}{h:Int}{x:Value}:(layNew t es h x).2.1.led=t.led:=by
 unfold layNew
 split
 ·show ((t.put _).1.orStandIn _).led=_
  unfold SetTable.orStandIn
  split
  ·rfl
  ·rfl
 ·rfl
theorem rA{γ:Type}(f:Nat->Option γ):∀(l:List Nat),qW l->qW ((l.filterMap λj=>(f j).map λk=>(j,k)).map (·.1))
 |[],_=>.nil
 |a::r,h=>by
  obtain⟨h1,h2⟩:=yq.mp h
  have ih:=rA f r h2
  rw[AA]
  cases e:f a with
  |none=>exact ih
  |some k=>
   refine yq.mpr ⟨λy hy=>?_,ih⟩
   obtain⟨q,hq,rfl⟩:=a8.mp hy
   obtain⟨j,hj,e2⟩:=AC.mp hq
   cases e3:f j with
   |none=>rw[e3] at e2;cases e2
   |some k'=>
    rw[e3] at e2
    cases e2
    exact h1 j hj
theorem TG.laid{m f v:Nat}{l p:Bool}{hs:Array Int}{t':SetTable}{o:Array Nat}(e:SetTable.laid m f v l p hs=some (t',o)):TG t'/\t'.led=l:=by
 unfold SetTable.laid at e
 cases e1:SetTable.layClean m hs with
 |none=>rw[e1] at e;cases e
 |some ow=>
  rw[e1] at e
  cases e
  refine⟨⟨?_,rfl⟩,rfl⟩
  show qW (List.map _ _).toArray.toList
  exact rA (λj=>ow.getD j none) _ (zK _)
theorem TG.relay{t:SetTable}(g:TG t){n:Nat}:TG (relayAll t es n).2.1/\(relayAll t es n).2.1.led=t.led:=by
 unfold relayAll
 split
 ·rename_i t' o e
  dsimp only
  unfold SetTable.relaid at e
  split
  ·exact TG.laid e
  ·exact⟨TG.stand,rfl⟩
 ·exact⟨TG.stand,rfl⟩
def SG(prog:Program)(w:World)(h:Heap)(a:Addr)(ks:List Int):Prop:=
 ∃o es ep t,h.get? a=some o/\o.ExactSet/\o.data=.set es ep t/\ElemsOf (PySem.intKind prog w) es.toList/\(es.toList.map λe=>numOf e.2).Perm ks/\es.size<scanBound/\t.fits es.size=true/\TG t/\t.led= !w.params.followText "set-order"
theorem SG.at{ks:List Int}(g:SG prog w h a ks)(e:∀o,h.get? a=some o->h'.get? a=some o):SG prog w h' a ks:=by
 obtain⟨o,es,ep,t,ho,r⟩:=g
 exact⟨o,es,ep,t,e _ ho,r⟩
theorem Wh{k:Int}(h:Value.isInt k v=true):numOf v=k:=by
 obtain⟨t,rfl⟩:=JA h
 rfl
theorem Hl{ge:Array (Int×Value)}{t t':SetTable}{ks:List Int}(ho:h.get? a=some o)(hx:o.ExactSet)(hd:o.data=.set es ep t)(h1:ElemsOf (PySem.intKind prog w) ge.toList)(h2:(ge.toList.map λe=>numOf e.2).Perm ks)
  (h3:ge.size<scanBound) (h4:t'.fits ge.size=true) (h5:TG t') (h6:t'.led= !w.params.followText "set-order"):(h.update a (Obj.putSet ge t')).get? a=some {o with data:=.set ge (ep+1) t'}/\SG prog w (h.update a (Obj.putSet ge t')) a ks:=by
 have e1:=(SetOf_store (knd:=PySem.intKind prog w) (S':=λk=>ge.toList.any λe=>(PySem.intKind prog w).is k e.2) ho hx hd h1 (λk=>m9) h3 h4).1
 exact⟨e1,_,ge,ep+1,t',e1,hx,rfl,h1,h2,h3,h4,h5,h6⟩
theorem SG.add{ks:List Int}{k:Int}{u:Tok}{Q:Bool->Shared->Prop}(g:SG prog w s.heap a ks)(room:ks.length+1<scanBound)
  (h:∀b h',Heap.SameBut a s.heap h'->SG prog w h' a (step_dedup ks k)->Q b {s with heap:=h'}):wpAny (model prog w) A (setAddHashed a (.int k u) ((PySem.intKind prog w).hash k)) Q E s:=by
 have hk:(PySem.intKind prog w).is k (.int k u)=true:=intKind_is _ _ _ _
 obtain⟨o,es,ep,t,ho,hx,hd,mh,hp,hb,hf,tg,ld⟩:=id g
 have lz:es.size=ks.length:=by
  have:=hp.length_eq
  rwa [ai,d4] at this
 have inn:ks.any (· ==k)=true↔∃e∈es.toList,(PySem.intKind prog w).is k e.2=true:=by
  rw[m9]
  constructor
  ·rintro⟨x,hx,ex⟩
   obtain⟨e,he,e2⟩:=a8.mp (hp.mem_iff.mpr hx)
   obtain⟨⟨k',qm,_⟩,_⟩:=mh e he
   have:=Wh qm
   rw[e2,cz.mp ex] at this
   rw[this]
   exact⟨e,he,qm⟩
  ·rintro⟨e,he,ek⟩
   exact⟨k,hp.mem_iff.mp (a8.mpr ⟨e,he,Wh ek⟩),EV _⟩
 unfold setAddHashed setAddHashedIn
 refine j7 (ac (yr ho hd hf ?_))
 dsimp only
 rw[byScan_of (x:=.int k u) rfl hb mh,af rfl]
 unfold setAddByScan
 refine ac (ac (yj (ac (wpAny_setScan_of hk ho hd hf mh ?_))))
 cases fi:List.findIdx? (λe=>(PySem.intKind prog w).is k e.2) es.toList with
 |some j=>
  dsimp only
  obtain⟨hj,pj,_⟩:=O7.mp fi
  have yes:=inn.mpr ⟨_,o3 hj,pj⟩
  have z:=h false s.heap (Heap.SameBut.refl a s.heap)
  unfold step_dedup at z
  rw[af yes] at z
  exact ag (ag (z g))
 |none=>
  dsimp only
  have nay:¬ks.any (· ==k)=true:=λy=>by
   obtain⟨e,he,ek⟩:=inn.mp y
   have:=O6.mp fi e he
   rw[ek] at this
   cases this
  unfold step_dedup at h
  simp only[ae nay] at h
  have e1:=layNew_perm t es ((PySem.intKind prog w).hash k) (.int k u)
  have e2:=layNew_fits t es ((PySem.intKind prog w).hash k) (.int k u)
  have e3:TG (layNew t es ((PySem.intKind prog w).hash k) (.int k u)).2.1:=tg.lay
  have e4:(layNew t es ((PySem.intKind prog w).hash k) (.int k u)).2.1.led=t.led:=aBf
  generalize layNew t es ((PySem.intKind prog w).hash k) (.int k u)=L at e1 e2 e3 e4 ⊢
  obtain⟨i8,t1,wd,gv⟩:=L
  dsimp only at e1 e2 e3 e4 ⊢
  rw[PN] at e1
  have NF:=(mh.push hk rfl).perm e1
  have jf:(i8.toList.map λe=>numOf e.2).Perm (ks++[k]):=(e1.map _).trans (by
   rw[b7]
   exact hp.append_right _)
  have BH:i8.size=ks.length+1:=by
   have:=jf.length_eq
   rwa [ai,d4,b6] at this
  have vd:i8.size<scanBound:=by rw[BH];exact room
  have gw:∀(b:Bool)(az:Shared)(Q':Unit->Shared->Prop),Q' () az->wpAny (model prog w) A (match b with|true=>rule "set.scan.the-table-gave-way"|false=>pure ()) Q' E az:=λb az Q' hq=>by
   cases b
   ·exact ag hq
   ·exact yj hq
  have tail:∀t2:SetTable,t2.fits i8.size=true->TG t2->t2.led=t.led->wpAny (model prog w) A (do
    storeSet a i8 t2
    if (!wd && t2.tooFull)=true then do
      (match (relayAll t2 i8 (SetTable.grown i8.size)).2.2 with|true=>rule "set.scan.the-table-gave-way"|false=>pure ())
      storeSet a (relayAll t2 i8 (SetTable.grown i8.size)).1 (relayAll t2 i8 (SetTable.grown i8.size)).2.1
      pure (some true)
     else pure (some true)) (λr s'=>wpAny (model prog w) A (match r with|some b=>pure b|none=>setAddHashedIn a (.int k u) ((PySem.intKind prog w).hash k) 99999) Q E s') E s:=λt2 f2 g2 l2=>by
   obtain⟨o1,S1⟩:=Hl (t':=t2) ho hx hd NF jf vd f2 g2 (l2.trans ld)
   have sb:=jz s.heap a (Obj.putSet i8 t2)
   refine ac (wpAny_storeSet_of ho hd ?_ (FL vd))
   split
   ·have r1:=relayAll_perm t2 i8 (SetTable.grown i8.size)
    have r2:=relayAll_fits t2 i8 (SetTable.grown i8.size)
    have r3:=g2.relay (es:=i8) (n:=SetTable.grown i8.size)
    generalize relayAll t2 i8 (SetTable.grown i8.size)=R at r1 r2 r3 ⊢
    obtain⟨VG,t3,W5⟩:=R
    dsimp only at r1 r2 r3 ⊢
    have B0:VG.size<scanBound:=by
     have:=r1.length_eq
     rw[d4,d4] at this
     rw[this]
     exact vd
    obtain⟨_,S2⟩:=Hl (t':=t3) o1 hx rfl (NF.perm r1) ((r1.map _).trans jf) B0 r2 r3.1 (r3.2.trans (l2.trans ld))
    refine ac (gw _ _ _ (ac (wpAny_storeSet_of o1 rfl ?_ (FL B0))))
    exact ag (ag (h _ _ (sb.trans (jz _ a _)) S2))
   ·exact ag (ag (h _ _ sb S1))
  refine ac (gw _ _ _ ?_)
  split
  ·refine ac ?_
   rw[hashByValue_scannable 8 (x:=.int k u) rfl]
   refine ag ?_
   exact tail t1 e2 e3 e4
  ·refine ac (ag ?_)
   exact tail t1 e2 e3 e4
theorem aDi{R:Result->Shared->Prop}{fp wr:List Addr}{G:Array GenState->Array GenState->Prop}{n:Nat}{P:Nat->Value->Prop}{St:Nat->Shared->Prop}(W:WalksS prog w A.in1 I fp wr G n P St)(hS:S∉fp)(val:Nat->Int)(hv:∀i v,P i v->∃t,v=.int (val i) t)(hb:n+1<scanBound):
  ∀(k i:Nat)(s:Shared),n - i=k->i<=n->St i s->SG prog w s.heap S (firstMet val i)->(∀s',Moved (S::wr) G s s'->SG prog w s'.heap S (firstMet val n)->R (.ok (.ret .none)) s')->
   codeAny (model prog w) A (.builtin "set.update.loop" ⟨[.ref S,.ref I],[]⟩) R s:=by
 have sw:S∉wr:=λh=>hS (W.sub _ h)
 have sub:∀b∈wr,b∈S::wr:=λb hb=>a7 _ hb
 intro k
 induction k with
 |zero=>
  intro i s e1 e2 st g hR
  obtain rfl:i=n:=by omega
  refine AS F.entry_set_update_loop ?_
  rw[C0 J9 _]
  show wpAny _ A.in1 (pyNext (.ref I)>>=_) _ _ s
  exact ac (W.done s _ _ st λs' m=>ag (hR s' (m.mono sub) (g.at λo e=>m.heap S _ sw e)))
 |succ k ih=>
  intro i s e1 e2 st g hR
  have lt:i<n:=by omega
  refine AS F.entry_set_update_loop ?_
  rw[C0 J9 _]
  show wpAny _ A.in1 (pyNext (.ref I)>>=_) _ _ s
  refine ac (W.item i s _ _ lt st λv s' hP ff m=>?_)
  obtain⟨t,rfl⟩:=hv i v hP
  have g':SG prog w s'.heap S (firstMet val i):=g.at λo e=>m.heap S _ sw e
  show wpAny _ A.in1 (holding [Value.int (val i) t] (setAdd S (.int (val i) t))>>=_) _ _ s'
  refine ac (j7 ?_)
  unfold setAdd
  refine j7 (ac ((PySem.intKind prog w).pyHash (k:=val i) (intKind_is _ _ _ _) ?_))
  have room:(firstMet val i).length+1<scanBound:=by have:=firstMet_length_le val i;omega
  refine SG.add (s:={s' with toks:=s'.toks+1}) g' room λb h' sb g2=>?_
  rw[<-firstMet_succ] at g2
  refine ag ⟨FM J9 _,ih (i+1) _ (by omega) lt (W.frame _ s' _ _ ff (AE _) λb hb o e=>?_) g2 λAY m2 g3=>?_⟩
  ·rw[sb.2 b (λh:b=S=>hS (by rw[<-h];exact hb))]
   exact e
  ·refine hR AY (Moved.trans W.gtrans ((m.mono sub).then_heap (AE _) λb o hb e=>?_) m2) g3
   rw[sb.2 b (λh:b=S=>hb (by rw[h];exact bf))]
   exact e
theorem aCb(a:Value)(h:Q (.ref s.heap.objs.size) {s with heap:=s.heap.push {cls:=.type "set",dict:=none,data:=.set #[] 0 (.fresh 0 0 (!w.params.followText "set-order"))}}):
  codeAny (model prog w) A (.call (.builtin "set.__new__") ⟨[.type "set",a],[]⟩) (wants Q E) s:=by
 refine codeAny_of_tree ?_
 show wpAny _ A.in1 (do checkBuiltinCall "set.__new__" ⟨[.type "set",a],[]⟩;again (.builtin "set.__new__" ⟨[.type "set",a],[]⟩)) _ _ s
 refine ac (AJ (PySem.F.newCall_set_1 a) (ag ⟨FM PySem.F.plain_set_new _,AS PySem.F.entry_set_new ?_⟩))
 rw[C0 PySem.F.plain_set_new _]
 unfold Builtin.«set.__new__» Builtin.Frozenset.newClass
 have LK:=sub_set_self
 obtain⟨hp,g,d,tk,os⟩:=s
 dsimp only
 wp_walk
 refine AT (ag ?_)
 dsimp only
 simp only[newObj]
 exact ac (wpAny_alloc (ag (ag h)))
theorem Zz{l:Addr}{its:List Value}(hh:A.handled=none)(hl:s.heap.IsList l its.toArray)(hi:IntsAre its ns)(hb:its.length+1<scanBound)
  (h:∀(h':Heap)(tk:Nat),SG prog w h' s.heap.objs.size (firstMet (λi=>ns.getD i 0) its.length)->(∀b o,b<s.heap.objs.size->s.heap.get? b=some o->h'.get? b=some o)->Q (.ref s.heap.objs.size) {s with heap:=h',toks:=tk}):
  wpAny (model prog w) A (call (.type "set") [.ref l]) Q E s:=by
 obtain⟨c,tl,W6⟩:=called_set.mro
 have W7:=called_set.made
 have LK:=called_set.sub
 refine AD (codeAny_of_tree ?_)
 show wpAny _ _ (callAny (.type "set") _) _ _ _
 refine ag ⟨Code.quiet_builtin _ (by decide+kernel),AS PySem.F.entry_type_call ?_⟩
 rw[Around.under_plain (weight_type_call_type "set" [.ref l] []) rfl]
 have h1:=called_set.notType
 have h2:=called_set.canCreate
 have W8:=PySem.F.typeCall_set_1 (.ref l)
 repeat (any_goals (first|assumption|wp_step))
 generalize hO:({cls:=.type "set",dict:=none,data:=.set #[] 0 (.fresh 0 0 (!w.params.followText "set-order"))}:Obj)=O0
 refine t8 (aCb (.ref l) (E:=E) (Q:=λobj az=>obj=.ref s.heap.objs.size/\az={s with heap:=s.heap.push O0}) (by rw[hO];exact⟨rfl,rfl⟩)) λr az hr=>?_
 cases r with
 |error e=>exact hr
 |ok fl=>
  cases fl with
  |ret obj=>
   obtain⟨rfl,rfl⟩:=hr
   have cO:O0.cls=.type "set":=by rw[<-hO]
   have hS:(s.heap.push O0).get? s.heap.objs.size=some O0:=cg _ (by rw[<-hO];rfl)
   have hT:Shared.TypeIs {s with heap:=s.heap.push O0} (.ref s.heap.objs.size) "set":=⟨_,hS,cO⟩
   have W9:=called_set.init.lookup
   have W':=called_set.init.bind (.ref s.heap.objs.size)
   repeat (any_goals (first|assumption|wp_step))
   refine t8 (JQ (R:=wants (λr gd=>r=.none/\∃h' tk,gd={s with heap:=h',toks:=tk}/\SG prog w h' s.heap.objs.size (firstMet (λi=>ns.getD i 0) its.length)/\
     (∀b o,b<s.heap.objs.size->s.heap.get? b=some o->h'.get? b=some o)) E) called_set.init.plain PySem.F.entry_set_init (check_set_init_1 hT ?_)) λVH gd IP=>?_
   ·have mv:(s.heap.push O0).IsList l its.toArray:=hl.push _
    obtain⟨ol,zm,js,nl,zn⟩:=hl
    obtain⟨ocls,odict,odata,oslots⟩:=ol
    simp only at js zn
    subst js;subst zn
    have XA:(s.heap.push O0).get? l=some {cls:=.type "list",dict:=odict,data:=.seq its.toArray nl,slots:=oslots}:=bj _ zm
    have XB:=PySem.F.sub_list_set
    have XC:=PySem.F.sub_list_frozenset
    have aw:(Value.type "list"==Value.type "dict")=false:=by decide
    subst hO
    unfold Builtin.«set.__init__» noKeywords Builtin.Frozenset.updateFrom
    generalize hPI:pyIter=PI
    wp_walk
    subst hPI
    refine JD mv ?_
    refine ac (wpAny_runValue ?_)
    have ls:l<s.heap.objs.size:=bg zm
    have h3:A.in1.in1.in1.handled=none:=by simp[hh]
    have nI:l≠(s.heap.push {cls:=.type "set",dict:=none,data:=.set #[] 0 (.fresh 0 0 (!w.params.followText "set-order"))}).objs.size:=by
     rw[ic]
     exact b9 (vt ls)
    have fS:s.heap.objs.size∉[(s.heap.push {cls:=.type "set",dict:=none,data:=.set #[] 0 (.fresh 0 0 (!w.params.followText "set-order"))}).objs.size,l]:=by
     rw[ic]
     simp only[ao,dk,i',B7]
     exact⟨b9 (k8 _),px ls⟩
    have VI:∀(i:Nat)(v:Value),its.toArray[i]?=some v->∃t,v=.int ((λi=>ns.getD i 0) i) t:=λi v hv=>IntsAre.int_at hi i v (by rwa [FJ] at hv)
    refine aDi ((Walks.list h3 _ l nI its.toArray).toS) fS (λi=>ns.getD i 0) VI (by rw[cb];exact hb) (its.toArray.size - 0) 0 _ (by omega) (c8 _) ⟨⟨_,cg _ rfl,rfl,rfl⟩,(mv.push _)⟩ ?_ ?_
    ·refine⟨_,#[],0,.fresh 0 0 (!w.params.followText "set-order"),bj _ hS,?_,?_,λe he=>?_,?_,by decide,rfl,⟨.nil,rfl⟩,rfl⟩
     ·exact⟨rfl,rfl,rfl⟩
     ·rfl
     ·simp at he
     ·exact .nil
    ·intro s' hm xz
     rw[cb] at xz
     obtain⟨h',g',d',n8,AX⟩:=s'
     obtain rfl:g'=s.gens:=hm.gens
     obtain rfl:d'=s.drawn:=hm.drawn
     obtain rfl:AX=s.os:=hm.os
     refine ag (ag ⟨rfl,h',n8,rfl,xz,λb o hb e=>?_⟩)
     refine hm.heap b o ?_ (bj _ (bj _ e))
     simp only[ao,dk,i',B7,ic]
     exact⟨b9 hb,b9 (vt hb)⟩
   ·cases VH with
    |error e=>exact IP
    |ok VJ=>
     cases VJ with
     |ret r=>
      obtain⟨rfl,h',tk,rfl,xz,qm⟩:=IP
      repeat (any_goals (first|assumption|wp_step))
      exact h _ _ xz qm
     |_=>exact IP
  |_=>exact hr
theorem cN:Slot "set_iterator" "__next__" "set_iterator.__next__":=
 .of (owner:="set_iterator") (n:="__next__") (by rw[EW,EX];kernel_rfl) (by decide+kernel) (by decide+kernel) (by decide+kernel) (by first|exact .inl (by decide+kernel)|exact .inr (by decide+kernel)) (by rw[isSubtype_type];kernel_rfl)
theorem pU:Slot "set_iterator" "__iter__" "set_iterator.__iter__":=
 .of (owner:="set_iterator") (n:="__iter__") (by rw[EW,EX];kernel_rfl) (by decide+kernel) (by decide+kernel) (by decide+kernel) (by first|exact .inl (by decide+kernel)|exact .inr (by decide+kernel)) (by rw[isSubtype_type];kernel_rfl)
theorem iU:entryFor table "set_iterator.__next__"=some Builtin.«set_iterator.__next__»:=entryFor_of_tree (by kernel_rfl)
theorem Cp:entryFor table "set_iterator.__iter__"=some Builtin.«dict_keyiterator.__iter__»:=entryFor_alias (id':="dict_keyiterator.__iter__") (by kernel_rfl) rfl (by decide+kernel) (by kernel_rfl)
theorem Cw:entryFor table "set.__iter__"=some Builtin.«frozenset.__iter__»:=entryFor_alias (id':="frozenset.__iter__") (by kernel_rfl) rfl (by decide+kernel) (by kernel_rfl)
theorem iW(a:Value):argsOk "set_iterator.__next__" ⟨[a],[]⟩:=by unfold argsOk;kernel_rfl
theorem Fg(a:Value):argsOk "set_iterator.__iter__" ⟨[a],[]⟩:=by unfold argsOk;kernel_rfl
theorem Js:typeLookup (.type "set") "__len__"=pure (some (.builtin "set.__len__")):=by rw[EW,EX];kernel_rfl
def hU(h:Heap)(I S:Addr)(f:Value)(i n ep:Nat):Prop:=∃o,h.get? I=some o/\o.cls=.type "set_iterator"/\o.data=.fields #[f,.int i 0,.ref S,.int n 0,.int ep 0]
theorem Vc{f:Value}{n:Nat}{t:SetTable}{sl nx:Nat}{x:Value}{Q:Option Value->Shared->Prop}(it:hU s.heap I S (.int sl 0) i n ep)(ho:s.heap.get? S=some o)(hd:o.data=.set es ep t)(hf:t.fits es.size=true)(hn:es.size=n)
  (hN:∀(A:Around)(E:Value->Shared->Prop) (Q:Option (Value×Nat)->Shared->Prop),Q (some (x,nx)) s->wpAny (model prog w) A (setNext S sl i ep) Q E s)
  (h:∀h',hU h' I S (.int nx 0) (i+1) n ep->Heap.SameBut I s.heap h'->Q (some x) {s with heap:=h'}):wpAny (model prog w) A (pyNext (.ref I)) Q E s:=by
 obtain⟨u,hu,cu,du⟩:=id it
 have tI:s.TypeIs (.ref I) "set_iterator":=⟨u,hu,cu⟩
 unfold pyNext
 refine ac (ua (mw (name:=Str.ofString "__next__") tI cN (jg cN tI iU ?_ (iW _))))
 show wpAny _ _ (fieldsOf (.ref I)>>=_) _ _ s
 refine ac (v9 hu du ?_)
 show wpAny _ _ (setEntries S>>=_) _ _ s
 refine ac (C1 ho hd hf ?_)
 have e0:((es.size:Int) !=(n:Int))=false:=by rw[hn];simp
 simp only[e0,qc,jy]
 show wpAny _ _ (setNext S (sl:Int).toNat (i:Int).toNat (ep:Int).toNat>>=_) _ _ s
 rw[fq,fq,fq]
 refine ac (hN _ _ _ ?_)
 refine ac (l0 hu du (by simp) ?_)
 have ED:=oq (Obj.mapFields (·.setIfInBounds 0 (rawInt nx))) hu (ub (kc du _))
 have B1:=kc du (·.setIfInBounds 0 (rawInt nx))
 refine ac (l0 ED B1 (by simp) ?_)
 have BP:=oq (Obj.mapFields (·.setIfInBounds 1 (rawInt ((i:Int)+1)))) ED (ub (kc B1 _))
 have IQ:=kc B1 (·.setIfInBounds 1 (rawInt ((i:Int)+1)))
 refine ag ⟨_,rfl,ag (h _ ⟨_,BP,?_,?_⟩ ((jz ..).trans (jz ..)))⟩
 ·exact(CA ..).trans ((CA ..).trans cu)
 ·rw[IQ]
  rfl
theorem Zb{f:Value}{n:Nat}{t:SetTable}{sl:Nat}{Q:Option Value->Shared->Prop}(hh:A.handled=none)(it:hU s.heap I S (.int sl 0) i n ep)(ho:s.heap.get? S=some o)(hd:o.data=.set es ep t)(hf:t.fits es.size=true)(hn:es.size=n)
  (hN:∀(A:Around)(E:Value->Shared->Prop) (Q:Option (Value×Nat)->Shared->Prop),Q none s->wpAny (model prog w) A (setNext S sl i ep) Q E s)
  (h:∀h',Heap.ExtBut I s.heap h'->Q none {s with heap:=h'}):wpAny (model prog w) A (pyNext (.ref I)) Q E s:=by
 obtain⟨u,hu,cu,du⟩:=id it
 have tI:s.TypeIs (.ref I) "set_iterator":=⟨u,hu,cu⟩
 unfold pyNext
 refine ac (ua (mw (name:=Str.ofString "__next__") tI cN (jg cN tI iU ?_ (iW _))))
 show wpAny _ _ (fieldsOf (.ref I)>>=_) _ _ s
 refine ac (v9 hu du ?_)
 show wpAny _ _ (setEntries S>>=_) _ _ s
 refine ac (C1 ho hd hf ?_)
 have e0:((es.size:Int) !=(n:Int))=false:=by rw[hn];simp
 simp only[e0,qc,jy]
 show wpAny _ _ (setNext S (sl:Int).toNat (i:Int).toNat (ep:Int).toNat>>=_) _ _ s
 rw[fq,fq,fq]
 refine ac (hN _ _ _ ?_)
 refine ac (l0 hu du (by simp) ?_)
 refine ac ?_
 simp only[newExc,newTuple]
 refine ac (ip ?_ (by size_fits))
 refine ac (m:=firstArgMember _ _) (AJ (a:=Value.none) (by first|rfl|(simp only[firstArgMember];rfl)) ?_)
 refine ip ?_ (by size_fits)
 simp only[raiseNew]
 refine ac (CC ?_)
 rw[show A.in1.handled=none from hh]
 refine ac (ag (CD ?_))
 refine ac (AK (T:="StopIteration") (b:=true) ⟨_,cg _ rfl,rfl⟩ ET ?_)
 exact ag (h _ (((jz ..).extBut.push _).push _))
theorem Rs{T:Addr}{n:Nat}{t:SetTable}{ps:List Nat}{e:Int×Value}{Q:Option Value->Shared->Prop}(it:hU s.heap I S (.ref T) i n ep)(ho:s.heap.get? S=some o)(hd:o.data=.set es ep t)(hf:t.fits es.size=true)(hn:es.size=n)
  (hT:s.heap.IsTuple T (ps.map λ(k:Nat)=>rawInt k).toArray) (hp:ps[i]?=some p) (he:es[p]?=some e)
  (h:∀h',hU h' I S (.ref T) (i+1) n ep->Heap.SameBut I s.heap h'->Q (some e.2) {s with heap:=h'}):wpAny (model prog w) A (pyNext (.ref I)) Q E s:=by
 obtain⟨u,hu,cu,du⟩:=id it
 have tI:s.TypeIs (.ref I) "set_iterator":=⟨u,hu,cu⟩
 unfold pyNext
 refine ac (ua (mw (name:=Str.ofString "__next__") tI cN (jg cN tI iU ?_ (iW _))))
 show wpAny _ _ (fieldsOf (.ref I)>>=_) _ _ s
 refine ac (v9 hu du ?_)
 show wpAny _ _ (setEntries S>>=_) _ _ s
 refine ac (C1 ho hd hf ?_)
 have e0:((es.size:Int) !=(n:Int))=false:=by rw[hn];simp
 simp only[e0,qc,jy]
 show wpAny _ _ (seqItems? (.ref T)>>=_) _ _ s
 obtain⟨v,hv,cv,nv,dv⟩:=id hT
 refine ac (E6 hv dv ?_)
 have e1:((ps.map λ(k:Nat)=>rawInt k).toArray)[(i:Int).toNat]?=some (rawInt p):=by
  rw[fq,FJ,a9,hp]
  rfl
 simp only[e1]
 show wpAny _ _ (setNextDrawn S (p:Int).toNat (ep:Int).toNat>>=_) _ _ s
 rw[fq,fq]
 unfold setNextDrawn
 refine ac (ac (yr ho hd hf ?_))
 have e2:(ep !=ep)=false:=by simp
 simp only[e2,qc,jy,he]
 refine ag ?_
 refine ac (l0 hu du (by simp) ?_)
 have BP:=oq (Obj.mapFields (·.setIfInBounds 1 (rawInt ((i:Int)+1)))) hu (ub (kc du _))
 have IQ:=kc du (·.setIfInBounds 1 (rawInt ((i:Int)+1)))
 refine ag ⟨_,rfl,ag (h _ ⟨_,BP,?_,?_⟩ (jz ..))⟩
 ·exact(CA ..).trans cu
 ·rw[IQ]
  rfl
theorem Wn{T:Addr}{n:Nat}{t:SetTable}{ps:List Nat}{Q:Option Value->Shared->Prop}(hh:A.handled=none)(it:hU s.heap I S (.ref T) i n ep)(ho:s.heap.get? S=some o)(hd:o.data=.set es ep t)(hf:t.fits es.size=true)(hn:es.size=n)
  (hT:s.heap.IsTuple T (ps.map λ(k:Nat)=>rawInt k).toArray) (hp:ps[i]?=none)
  (h:∀h',Heap.ExtBut I s.heap h'->Q none {s with heap:=h'}):wpAny (model prog w) A (pyNext (.ref I)) Q E s:=by
 obtain⟨u,hu,cu,du⟩:=id it
 have tI:s.TypeIs (.ref I) "set_iterator":=⟨u,hu,cu⟩
 unfold pyNext
 refine ac (ua (mw (name:=Str.ofString "__next__") tI cN (jg cN tI iU ?_ (iW _))))
 show wpAny _ _ (fieldsOf (.ref I)>>=_) _ _ s
 refine ac (v9 hu du ?_)
 show wpAny _ _ (setEntries S>>=_) _ _ s
 refine ac (C1 ho hd hf ?_)
 have e0:((es.size:Int) !=(n:Int))=false:=by rw[hn];simp
 simp only[e0,qc,jy]
 show wpAny _ _ (seqItems? (.ref T)>>=_) _ _ s
 obtain⟨v,hv,cv,nv,dv⟩:=id hT
 refine ac (E6 hv dv ?_)
 have e1:((ps.map λ(k:Nat)=>rawInt k).toArray)[(i:Int).toNat]?=none:=by
  rw[fq,FJ,a9,hp]
  rfl
 simp only[e1]
 refine ac (l0 hu du (by simp) ?_)
 have ED:=oq (Obj.mapFields (·.setIfInBounds 0 (rawInt 0))) hu (ub (kc du _))
 have B1:=kc du (·.setIfInBounds 0 (rawInt 0))
 refine ac (l0 ED B1 (by simp) ?_)
 refine ac ?_
 simp only[newExc,newTuple]
 refine ac (ip ?_ (by size_fits))
 refine ac (m:=firstArgMember _ _) (AJ (a:=Value.none) (by first|rfl|(simp only[firstArgMember];rfl)) ?_)
 refine ip ?_ (by size_fits)
 simp only[raiseNew]
 refine ac (CC ?_)
 rw[show A.in1.handled=none from hh]
 refine ac (ag (CD ?_))
 refine ac (AK (T:="StopIteration") (b:=true) ⟨_,cg _ rfl,rfl⟩ ET ?_)
 exact ag (h _ ((((jz ..).trans (jz ..)).extBut.push _).push _))
theorem Gj{f:Value}{n:Nat}(it:hU s.heap I S f i n ep)(h:Q (.ref I) s):wpAny (model prog w) A (pyIter (.ref I)) Q E s:=by
 obtain⟨u,hu,cu,du⟩:=id it
 have tI:s.TypeIs (.ref I) "set_iterator":=⟨u,hu,cu⟩
 refine B' tI pU (jg pU tI Cp ?_ (Fg _))
 show wpAny _ _ (ret (.ref I)) _ _ s
 exact ag ⟨_,rfl,"set_iterator",_,tI,cN.lookup,h⟩
theorem qJ:∀{l:List α}{i:Nat}(h:i<l.length),(l[i]::l.eraseIdx i).Perm l
 |[],_,h=>absurd h (ud _)
 |a::r,0,_=>.refl _
 |a::r,i+1,h=>(List.Perm.swap _ _ _).trans ((qJ (l:=r) (Nat.lt_of_succ_lt_succ h)).cons a)
theorem Ob(nx:Nat->Nat):∀(f k:Nat)(l:List α)(out:Array α),l.length=f->(pickOrder.go nx f k l out).toList.Perm (out.toList++l)
 |0,k,l,out,h=>by
  rw[pickOrder.go,FA.mp h,fh]
 |f+1,k,l,out,h=>by
  have hl:nx k % l.length<l.length:=oy _ (by omega)
  rw[pickOrder.go,ay hl]
  refine(Ob nx f (k+1) _ _ (by rw[PP hl,h];rfl)).trans ?_
  rw[PN,ma]
  exact(qJ hl).append_left _
theorem Aw(nx:Nat->Nat)(xs:Array α):(pickOrder nx xs).toList.Perm xs.toList:=by
 have:=Ob nx xs.size 0 xs.toList #[] (d4)
 exact this
theorem Bf:∀(n:Nat)(xs:List α)(s:Shared)(Q:List α->Shared->Prop),xs.length=n->(∀ys d,ys.Perm xs->Q ys {s with drawn:=d})->wpAny (model prog w) A (drawOrder n xs) Q E s
 |0,xs,s,Q,h,q=>by
  rw[drawOrder]
  have z:=q [] s.drawn (by rw[FA.mp h])
  exact ag z
 |n+1,[],s,Q,h,q=>by cases h
 |n+1,x::r,s,Q,h,q=>by
  rw[drawOrder]
  ·refine ac ?_
   have ch:∀{Q':Nat->Shared->Prop},(∀i d,i<(x::r).length->Q' i {s with drawn:=d})->wpAny (model prog w) A (choose .order (x::r).length) Q' E s:=λhq _ _ _=>⟨Nat.succ_ne_zero _,hq _ _ (oy _ (Nat.succ_pos _))⟩
   refine ch λi d hi=>?_
   rw[ay hi]
   refine ac (Bf n _ _ _ (by rw[PP hi];omega) λys d' hp=>?_)
   exact ag (q _ d' ((hp.cons _).trans (qJ hi)))
  ·intro e;cases e
theorem nxT{sl:Nat}{t:SetTable}{Q:Option (Value×Nat)->Shared->Prop}(hb:w.params.followText "set-order"=true)(ho:s.heap.get? S=some o)(hd:o.data=.set es ep t)(hf:t.fits es.size=true)
  (h:Q (((pickOrder (w.params.setOrder S ep) es)[i]?).map λe=>(e.2,sl)) s):wpAny (model prog w) A (setNext S sl i ep) Q E s:=by
 unfold setNext
 refine ac (yr ho hd hf ?_)
 dsimp only
 unfold setsByText
 refine ac (ac (AT (ag ?_)))
 have e1:((model prog w).w.params.followText "set-order")=true:=hb
 rw[af e1]
 have e2:(ep !=ep)=false:=by simp
 simp only[e2,qc,jy]
 unfold setWalk
 refine ac (ac (yr ho hd hf ?_))
 dsimp only
 unfold setsByText
 refine ac (ac (AT (ag ?_)))
 rw[af e1]
 exact ac (AT (ag (ag h)))
theorem nxP{sl:Nat}{t:SetTable}{Q:Option (Value×Nat)->Shared->Prop}(hb:w.params.followText "set-order"=false)(ho:s.heap.get? S=some o)(hd:o.data=.set es ep t)(hf:t.fits es.size=true)(led:t.led=true)(np:(!t.plain && decide (es.size>1))=false)
  (h:Q (match es[SetTable.below t.place sl]?,t.place[SetTable.below t.place sl]? with|some (_,x),some j=>some (x,j+1)|_,_=>none) s):wpAny (model prog w) A (setNext S sl i ep) Q E s:=by
 unfold setNext
 refine ac (yr ho hd hf ?_)
 dsimp only
 unfold setsByText
 refine ac (ac (AT (ag ?_)))
 have e1:¬((model prog w).w.params.followText "set-order")=true:=λz=>by
  have z:w.params.followText "set-order"=true:=z
  rw[hb] at z
  cases z
 rw[ae e1]
 have e2:¬(!t.plain && decide (es.size>1))=true:=by rw[np];exact ca
 show wpAny _ _ (if (!t.plain && decide (es.size>1))=true then _ else _) _ _ _
 rw[ae e2]
 refine ac ?_
 show wpAny _ _ (if (!t.led && !es.isEmpty)=true then _ else _) _ _ _
 rw[led]
 exact ag (ag h)
theorem hU.at{f:Value}{n:Nat}(x:hU h I S f i n ep)(e:∀o,h.get? I=some o->h'.get? I=some o):hU h' I S f i n ep:=by
 obtain⟨o,ho,r⟩:=x
 exact⟨o,e _ ho,r⟩
theorem aBt{t:SetTable}{ord:List Value}{slot:Nat->Nat}(hh:A.handled=none)(IR:S≠I)(hd:o.data=.set es ep t)(hf:t.fits es.size=true)(hn:ord.length=es.size)
  (hN:∀(i:Nat)(x:Value)(s:Shared)(A:Around)(E:Value->Shared->Prop) (Q:Option (Value×Nat)->Shared->Prop),s.heap.get? S=some o->ord[i]?=some x->Q (some (x,slot (i+1))) s->wpAny (model prog w) A (setNext S (slot i) i ep) Q E s)
  (hZ:∀(s:Shared)(A:Around)(E:Value->Shared->Prop) (Q:Option (Value×Nat)->Shared->Prop),s.heap.get? S=some o->Q none s->wpAny (model prog w) A (setNext S (slot es.size) es.size ep) Q E s):
  Walks prog w A I [I,S] [I] es.size (λi v=>ord[i]?=some v) (λi h=>hU h I S (.int (slot i) 0) i es.size ep/\h.get? S=some o) where
 sub:=λb hb=>by simp at hb;simp[hb]
 frame:=λ_ _ _ st hk=>⟨st.1.at λo e=>hk I (by simp) o e,hk S (by simp) o st.2⟩
 item:=λi s Q E hi st hQ=>by
  have ex:ord[i]?=some (ord[i]'(by omega)):=ay (by omega)
  refine Vc (f:=.none) (nx:=slot (i+1)) st.1 st.2 hd hf rfl (λA E Q q=>hN i _ s A E Q st.2 ex q) λh' it sb=>?_
  exact hQ _ h' s.toks ex ⟨it,sb.extBut S o IR st.2⟩ λb o hb e=>sb.extBut b o (λh=>hb (by simp[h])) e
 done:=λs Q E st hQ=>Zb (f:=.none) hh st.1 st.2 hd hf rfl (λA E Q q=>hZ s A E Q st.2 q) λh' he=>hQ h' s.toks λb o hb e=>he b o (λh=>hb (by simp[h])) e
 self:=λ_ _ _ _ st hQ=>Gj st.1 hQ
theorem aFq{T:Addr}{t:SetTable}{ps:List Nat}{ord:List Value}(hh:A.handled=none)(IR:S≠I)(VL:T≠I)(hd:o.data=.set es ep t)(hf:t.fits es.size=true)(hn:ps.length=es.size)
  (ho:∀i p:Nat,ps[i]?=some p->∃e:Int×Value,es[p]?=some e/\ord[i]?=some e.2):
  Walks prog w A I [I,S,T] [I] es.size (λi v=>ord[i]?=some v) (λi h=>hU h I S (.ref T) i es.size ep/\h.get? S=some o/\h.IsTuple T (ps.map λ(k:Nat)=>rawInt k).toArray) where
 sub:=λb hb=>by simp at hb;simp[hb]
 frame:=λ_ _ _ st hk=>⟨st.1.at λo e=>hk I (by simp) o e,hk S (by simp) o st.2.1,st.2.2.at λo e=>hk T (by simp) o e⟩
 item:=λi s Q E hi st hQ=>by
  have ex:ps[i]?=some (ps[i]'(by omega)):=ay (by omega)
  obtain⟨e,e1,e2⟩:=ho i _ ex
  refine Rs st.1 st.2.1 hd hf rfl st.2.2 ex e1 λh' it sb=>?_
  exact hQ _ h' s.toks e2 ⟨it,sb.extBut S o IR st.2.1,st.2.2.extBut sb.extBut VL⟩ λb o hb e=>sb.extBut b o (λh=>hb (by simp[h])) e
 done:=λs Q E st hQ=>Wn hh st.1 st.2.1 hd hf rfl st.2.2 (k9 (by omega)) λh' he=>hQ h' s.toks λb o hb e=>he b o (λh=>hb (by simp[h])) e
 self:=λ_ _ _ _ st hQ=>Gj st.1 hQ
theorem Rl{ks:List Int}{ord:List Value}(hp:(es.toList.map λe=>numOf e.2).Perm ks)(ho:ord.Perm (es.toList.map (·.2))):(ord.map numOf).Perm ks:=(ho.map numOf).trans (by rw[dh];exact hp)
theorem Zf{ks:List Int}(hS:SG prog w s.heap S ks)
  (h:∀(I:Addr)(h':Heap)(d:Drawn)(ord:List Value)(fp:List Addr)(St:Nat->Heap->Prop),(∀A':Around,A'.handled=none->Walks prog w A' I fp [I] ks.length (λi v=>ord[i]?=some v) St)->St 0 h'->(∀b∈fp,b=S\/s.heap.objs.size<=b)->I∈fp->
   ord.length=ks.length->(∀v∈ord,∃n t,v=Value.int n t)->(ord.map numOf).Perm ks->(∀b o,s.heap.get? b=some o->h'.get? b=some o)->s.heap.objs.size<=I->Q (.ref I) {s with heap:=h',drawn:=d}):
  wpAny (model prog w) A (pyIter (.ref S)) Q E s:=by
 obtain⟨o,es,ep,t,ho,hx,hd,mh,hp,hb,hf,tg,ld⟩:=id hS
 have tS:s.TypeIs (.ref S) "set":=⟨o,ho,hx.1⟩
 have kl:ks.length=es.size:=by
  have:=hp.length_eq
  rw[ai,d4] at this
  exact this.symm
 have allI:∀v∈es.toList.map (·.2),∃n t,v=Value.int n t:=λv hv=>by
  obtain⟨e,he,rfl⟩:=a8.mp hv
  obtain⟨⟨k,hk,_⟩,_⟩:=mh e he
  obtain⟨t,et⟩:=JA hk
  exact⟨k,t,et⟩
 have fz:t.place.size=es.size:=by
  unfold SetTable.fits at hf
  rw[cq] at hf
  exact cz.mp hf.1
 refine B' tS PySem.F.slot_set_iter (jg PySem.F.slot_set_iter tS Cw ?_ (PySem.F.args_set_iter_1 _))
 show wpAny _ _ (Builtin.Frozenset.sizeOf S>>=_) _ _ s
 unfold Builtin.Frozenset.sizeOf
 refine ac (ac (C1 ho hd hf (ag ?_)))
 unfold setDrawn
 refine ac (ac (yr ho hd hf ?_))
 dsimp only
 unfold setsByText
 refine ac (ac (AT (ag ?_)))
 refine ag ?_
 have lS:S<s.heap.objs.size:=bg ho
 have fin:∀(f:Value)(az:Shared)(fp:List Addr)(ord:List Value)(St:Nat->Heap->Prop),az.heap.get? S=some o->az.gens=s.gens->az.toks=s.toks->az.os=s.os->(∀b o,s.heap.get? b=some o->az.heap.get? b=some o)->s.heap.objs.size<=az.heap.objs.size->
   (∀A':Around,A'.handled=none->Walks prog w A' az.heap.objs.size fp [az.heap.objs.size] ks.length (λi v=>ord[i]?=some v) St)->(∀h',hU h' az.heap.objs.size S f 0 es.size ep->(∀b o,az.heap.get? b=some o->h'.get? b=some o)->St 0 h')->(∀b∈fp,b=S\/s.heap.objs.size<=b)->az.heap.objs.size∈fp->
   ord.Perm (es.toList.map (·.2))->
   wpAny (model prog w) A.in1 (setEpoch S>>=λe=>newFields "set_iterator" [f,rawInt 0,.ref S,rawInt es.size,rawInt e]>>=λx=>ret x) (λfin s'=>∃v,fin=.done (.ret v)/\∃T' r,s'.TypeIs v T'/\typeLookup (.type T') "__next__"=pure (some r)/\Q v s') (λe s'=>E e s') az:=λf az fp ord St h1 h2 h3 h4 h5 VM h6 h7 h8 h9 di=>by
  unfold setEpoch
  refine ac (ac (yr h1 hd hf (ag ?_)))
  refine ac (ip (ag ⟨_,rfl,"set_iterator",_,⟨_,cg _ rfl,rfl⟩,cN.lookup,?_⟩))
  obtain⟨c6,XD,VN,XE,XF⟩:=az
  dsimp only at h2 h3 h4
  subst h2;subst h3;subst h4
  exact h _ _ VN ord fp St h6 (h7 _ ⟨_,cg _ rfl,rfl,rfl⟩ λb o e=>bj _ e) h8 h9
   (by rw[di.length_eq,ai,d4,kl]) (λv hv=>allI v (di.mem_iff.mp hv)) (Rl hp di) (λb o e=>bj _ (h5 b o e)) VM
 by_cases EE:w.params.followText "set-order"=true
 ·-- by the text's order
  have e1:(!(model prog w).w.params.followText "set-order" && (!t.plain && decide (es.size>1)))=false:=by
   show (!w.params.followText "set-order" && _)=false
   rw[EE]
   rfl
  show wpAny _ _ (if (!(model prog w).w.params.followText "set-order" && (!t.plain && decide (es.size>1)))=true then _ else _) _ _ s
  rw[e1,ae ca]
  refine ac (ag ?_)
  have po:=(Aw (w.params.setOrder S ep) es).map (·.2)
  have pl:=(Aw (w.params.setOrder S ep) es).length_eq
  refine fin (rawInt 0) s [s.heap.objs.size,S] ((pickOrder (w.params.setOrder S ep) es).toList.map (·.2)) (λi h'=>hU h' s.heap.objs.size S (.int ((λ_=>0) i:Nat) 0) i es.size ep/\h'.get? S=some o) ho rfl rfl rfl (λ_ _ e=>e) (ap _) (λA' hA=>?_) (λh' it k=>⟨it,k _ _ ho⟩) (λb hb=>?_) (by simp) po
  ·rw[kl]
   refine aBt (slot:=λ_=>0) hA (b9 lS) hd hf (by rw[ai,pl,d4]) (λi x s A E Q hs ex q=>nxT EE hs hd hf ?_) (λs A E Q hs q=>nxT EE hs hd hf ?_)
   ·rw[a9,m6] at ex
    cases e:(pickOrder (w.params.setOrder S ep) es)[i]? with
    |none=>rw[e] at ex;cases ex
    |some y=>rw[e] at ex;cases ex;exact q
   ·have:(pickOrder (w.params.setOrder S ep) es)[es.size]?=none:=by
     rw[<-m6]
     exact k9 (by rw[pl,d4];exact ap _)
    rw[this]
    exact q
  ·simp only[ao,dk,i'] at hb
   rcases hb with rfl|rfl
   ·exact .inr (ap _)
   ·exact .inl rfl
 ·have EF:w.params.followText "set-order"=false:=by
   cases e:w.params.followText "set-order" with
   |false=>rfl
   |true=>exact absurd e EE
  have led:t.led=true:=by rw[ld,EF];rfl
  cases ir:(!t.plain && decide (es.size>1)) with
  |false=>
   have e1:(!(model prog w).w.params.followText "set-order" && (!t.plain && decide (es.size>1)))=false:=by
    rw[ir,vp]
   show wpAny _ _ (if (!(model prog w).w.params.followText "set-order" && (!t.plain && decide (es.size>1)))=true then _ else _) _ _ s
   rw[e1,ae ca]
   refine ac (ag ?_)
   have sb:∀i,i<=es.size->SetTable.below t.place ((λi=>if i=0 then 0 else t.place.toList.getD (i - 1) 0+1) i)=i:=λi hi=>by
    cases i with
    |zero=>exact Jr tg.ris
    |succ j=>
     have hj:j<t.place.toList.length:=by rw[d4];omega
     have:=Lu tg.ris hj
     show SetTable.below t.place (t.place.toList.getD j 0+1)=j+1
     rw[b8,ay hj]
     exact this
   refine fin (rawInt 0) s [s.heap.objs.size,S] (es.toList.map (·.2)) (λi h'=>hU h' s.heap.objs.size S (.int ((λi=>if i=0 then 0 else t.place.toList.getD (i - 1) 0+1) i:Nat) 0) i es.size ep/\h'.get? S=some o) ho rfl rfl rfl (λ_ _ e=>e) (ap _) (λA' hA=>?_) (λh' it k=>⟨it,k _ _ ho⟩) (λb hb=>?_) (by simp) (List.Perm.refl _)
   ·rw[kl]
    refine aBt (slot:=λi=>if i=0 then 0 else t.place.toList.getD (i - 1) 0+1) hA (b9 lS) hd hf (by rw[ai,d4]) (λi x s A E Q hs ex q=>nxP EF hs hd hf led ir ?_) (λs A E Q hs q=>nxP EF hs hd hf led ir ?_)
    ·have hi:i<es.size:=by
      have:=(bq.mp ex).1
      rwa [ai,d4] at this
     rw[sb i (by omega)]
     rw[a9,m6] at ex
     have e3:t.place[i]?=some (t.place.toList.getD i 0):=by
      rw[<-m6,b8,ay (by rw[d4];omega)]
      rfl
     rw[e3]
     cases e:es[i]? with
     |none=>rw[e] at ex;cases ex
     |some y=>rw[e] at ex;cases ex;exact q
    ·rw[sb es.size (ap _)]
     have:es[es.size]?=none:=by rw[<-m6];exact k9 (by rw[d4];exact ap _)
     rw[this]
     exact q
   ·simp only[ao,dk,i'] at hb
    rcases hb with rfl|rfl
    ·exact .inr (ap _)
    ·exact .inl rfl
  |true=>
   have e1:(!(model prog w).w.params.followText "set-order" && (!t.plain && decide (es.size>1)))=true:=by
    rw[ir,Bool.and_true]
    show (!w.params.followText "set-order")=true
    rw[EF]
    rfl
   show wpAny _ _ (if (!(model prog w).w.params.followText "set-order" && (!t.plain && decide (es.size>1)))=true then _ else _) _ _ s
   rw[e1,af rfl]
   refine ac (Bf es.size _ _ _ AQ λps d cy=>?_)
   refine ac (ip ?_ ?_)
   ·have pl:ps.length=es.size:=by rw[cy.length_eq,AQ]
    have gt:∀i p,ps[i]?=some p->∃e,es[p]?=some e:=λi p e=>by
     have:p<es.size:=EH.mp (cy.mem_iff.mp (d9 e))
     exact⟨_,ES this⟩
    have fm:∀l:List Nat,(∀p∈l,p<es.size)->(l.map λp=>(es.toList.map (·.2)).getD p .none)=l.filterMap λp=>(es.toList.map (·.2))[p]?:=λl hl=>by
     induction l with
     |nil=>rfl
     |cons a r ih=>
      rw[bp,AA,ih λp hp=>hl p (a7 _ hp)]
      have ha:a<(es.toList.map (·.2)).length:=by rw[ai,d4];exact hl a bf
      rw[b8,ay ha]
      rfl
    have op:(ps.map λp=>(es.toList.map (·.2)).getD p .none).Perm (es.toList.map (·.2)):=by
     refine(cy.map _).trans ?_
     rw[fm _ λp hp=>EH.mp hp]
     have:=List.filterMap_getElem?_range_length (es.toList.map (·.2))
     rw[ai,d4] at this
     rw[this]
    refine fin (.ref s.heap.objs.size) {s with heap:=s.heap.push _,drawn:=d} [s.heap.objs.size+1,S,s.heap.objs.size] (ps.map λp=>(es.toList.map (·.2)).getD p .none) (λi h'=>hU h' (s.heap.objs.size+1) S (.ref s.heap.objs.size) i es.size ep/\h'.get? S=some o/\h'.IsTuple s.heap.objs.size (ps.map λ(k:Nat)=>rawInt k).toArray) (bj _ ho) rfl rfl rfl (λ_ _ e=>bj _ e) (by rw[ic];omega) (λA' hA=>?_) (λh' it k=>⟨?_,k _ _ (bj _ ho),⟨_,k _ _ (cg _ rfl),rfl,_,rfl⟩⟩) (λb hb=>?_) ?_ op
    ·rw[kl]
     show Walks prog w A' (s.heap.push _).objs.size _ [(s.heap.push _).objs.size] _ _ _
     rw[ic]
     refine aFq hA (b9 (vt lS)) (b9 (k8 _)) hd hf pl λi p e=>?_
     obtain⟨y,ey⟩:=gt i p e
     refine⟨y,ey,?_⟩
     rw[a9,e]
     show some ((es.toList.map (·.2)).getD p .none)=some y.2
     rw[b8,a9,m6,ey]
     rfl
    ·have it:hU h' (s.heap.push _).objs.size S _ 0 es.size ep:=it
     rw[ic] at it
     exact it
    ·simp only[ao,dk,i'] at hb
     rcases hb with rfl|rfl|rfl
     ·exact .inr (AE _)
     ·exact .inl rfl
     ·exact .inr (ap _)
    ·show (s.heap.push _).objs.size∈_
     rw[ic]
     simp
   ·have C9:scanBound=4096:=rfl
    have hz:es.size<4096:=hb
    have hl:((ps.map λ(k:Nat)=>rawInt k)).length=es.size:=by rw[ai,cy.length_eq,AQ]
    show (ps.map λ(k:Nat)=>rawInt k).toArray.size<=sizeLine
    rw[cb,hl,p8]
    omega
end Br1
namespace L2
open PySem PySem.Spec PyProof.Rows
theorem Td{val:Nat->Int}:∀n:Nat,(firstMet val n).Nodup/\∀x,x∈firstMet val n↔∃i,i<n/\val i=x
 |0=>⟨JL,λx=>⟨λh=>absurd h dk,λ⟨i,h,_⟩=>absurd h (ud _)⟩⟩
 |n+1=>by
  obtain⟨h1,h2⟩:=Td (val:=val) n
  rw[firstMet_succ]
  unfold step_dedup
  have ea:(firstMet val n).any (· ==val n)=true↔val n∈firstMet val n:=by
   rw[m9]
   exact⟨λ⟨x,hx,e⟩=>by rw[<-cz.mp e];exact hx,λh=>⟨_,h,EV _⟩⟩
  split
  ·rename_i e
   refine⟨h1,λx=>?_⟩
   rw[h2]
   constructor
   ·rintro⟨i,hi,e⟩;exact⟨i,by omega,e⟩
   ·rintro⟨i,hi,e'⟩
    by_cases z:i=n
    ·rw[z] at e'
     rw[<-e']
     exact(h2 _).mp (ea.mp e)
    ·exact⟨i,by omega,e'⟩
  ·rename_i e
   refine⟨?_,λx=>?_⟩
   ·rw[J0]
    refine⟨h1,qb.mpr ⟨dk,JL⟩,λa ha b hb z=>?_⟩
    rw[ie.mp hb] at z
    exact e (ea.mpr (by rw[<-z];exact ha))
   ·rw[jp,h2,ie]
    constructor
    ·rintro(⟨i,hi,e'⟩|e')
     ·exact⟨i,by omega,e'⟩
     ·exact⟨n,by omega,e'.symm⟩
    ·rintro⟨i,hi,e'⟩
     by_cases z:i=n
     ·rw[z] at e';exact .inr e'.symm
     ·exact .inl ⟨i,by omega,e'⟩
end L2
namespace Br1
open PySem PySem.Spec PyProof.Rows L2
theorem Hq:∀{vs:List Value},(∀v∈vs,∃n t,v=Value.int n t)->IntsAre vs (vs.map numOf)
 |[],_=>.nil
 |v::r,h=>by
  obtain⟨n,t,rfl⟩:=h _ bf
  exact .cons n t (Hq λv hv=>h v (a7 _ hv))
theorem Kp{ord:List Value}{acc:Array Value}{n:Nat}(h:ItemsOf (λi v=>ord[i]?=some v) acc n)(hn:ord.length=n):acc.toList=ord:=by
 refine FE λi=>?_
 by_cases hi:i<acc.size
 ·have e:acc.toList[i]?=some acc[i]:=by rw[m6];exact ES hi
  rw[e,h.2 i acc[i] (ES hi)]
 ·rw[k9 (by rw[d4];omega),k9 (by rw[hn,<-h.1];omega)]
theorem Ju{ks:List Int}{Q:List Value->Shared->Prop}(hh:A.handled=none)(hS:SG prog w s.heap S ks)(hk:ks.length<scanBound)
  (h:∀(vs:List Value)(h':Heap)(d:Drawn)(tk:Nat),(∀v∈vs,∃n t,v=Value.int n t)->(vs.map numOf).Perm ks->(∀b o,s.heap.get? b=some o->h'.get? b=some o)->s.heap.objs.size<h'.objs.size->Q vs {s with heap:=h',drawn:=d,toks:=tk}):
  wpAny (model prog w) A (collect (.ref S)) Q E s:=by
 obtain⟨o,es,ep,t,ho,hx,_⟩:=id hS
 have lS:S<s.heap.objs.size:=bg ho
 generalize hL:({cls:=.type "list",data:=.seq ([]:List Value).toArray}:Obj)=L0
 have nf:L0.isFreed=false:=by rw[<-hL];rfl
 have e0:(s.heap.push L0).get? S=some o:=bj _ ho
 have tS:Shared.TypeIs {s with heap:=s.heap.push L0} (.ref S) "set":=⟨o,e0,hx.1⟩
 unfold collect
 refine ac (wpAny_runValue (AS PySem.F.entry_proto_collect ?_))
 rw[C0 PySem.F.plain_proto_collect _]
 show wpAny _ A.in1 (newList []>>=λl=>again (.builtin "list.__iadd__" ⟨[l,.ref S],[]⟩)) _ _ s
 refine ac (ip ?_)
 rw[hL]
 refine ag ⟨FM PySem.F.plain_list_iadd _,AS PySem.F.entry_list_iadd ?_⟩
 rw[C0 PySem.F.plain_list_iadd _]
 show wpAny _ A.in1 (Builtin.List.listExtendWith (.ref s.heap.objs.size) (.ref S) (.ref s.heap.objs.size)) _ _ _
 unfold Builtin.List.listExtendWith
 refine ac (B5 tS ?_)
 have h1:Builtin.List.listSameRef (.ref s.heap.objs.size) (.ref S)=false:=by
  show (s.heap.objs.size==S)=false
  exact pi.mpr (px lS)
 rw[ae (by rw[h1];decide)]
 refine ac (Zf (hS.at λo e=>bj _ e) λI c6 d ord fp St W st um hI ol oi op ya gq=>?_)
 refine ac (j7 ?_)
 unfold Builtin.List.listLengthHint
 have IS:Shared.TypeIs {s with heap:=c6,drawn:=d} (.ref S) "set":=⟨o,ya _ _ e0,hx.1⟩
 refine ac (wpAny_specialOf IS Js ?_)
 (generalize IT:("set.__len__":String)=id0;(fail_if_success (clear IT id0));wp_delta;rw[show splitId id0=some ("set","__len__") from by subst IT;decide+kernel];subst IT)
 refine ac (AK (b:=true) IS sub_set_self ?_)
 refine ac (B5 IS ?_)
 refine ag ?_
 rw[af (by decide)]
 refine ac (yj ?_)
 have hD:c6.get? s.heap.objs.size=some L0:=ya _ _ (cg _ nf)
 rw[<-hL] at hD
 refine ac ?_
 show wpAny _ A.in1 (updateSeq s.heap.objs.size (·.push .none)>>=λ_=>updateSeq s.heap.objs.size (·.pop)) _ _ _
 refine ac (wpAny_updateSeq (s:={s with heap:=c6,drawn:=d}) hD rfl ?_)
 have uz:=oq (Obj.mapSeq (·.push Value.none)) hD rfl
 refine wpAny_updateSeq uz rfl ?_
 have og:=oq (Obj.mapSeq (·.pop)) uz rfl
 have mq:∀b o,b≠s.heap.objs.size->c6.get? b=some o->((c6.update s.heap.objs.size (Obj.mapSeq (·.push Value.none))).update s.heap.objs.size (Obj.mapSeq (·.pop))).get? b=some o:=
  λb o hb e=>(vo _ _ (ax hb)).trans ((vo _ _ (ax hb)).trans e)
 have nD:s.heap.objs.size∉fp:=λhm=>by
  rcases um _ hm with e|e
  ·rw[e] at lS
   exact j5 _ lS
  ·have e:(s.heap.push L0).objs.size<=s.heap.objs.size:=e
   rw[ic] at e
   exact j5 _ e
 have h2:A.in1.in1.handled=none:=by simp[hh]
 have Wa:=(W A.in1 (by simp[hh])).toS
 have fr:=Wa.frame 0 {s with heap:=c6,drawn:=d} ((c6.update s.heap.objs.size (Obj.mapSeq (·.push Value.none))).update s.heap.objs.size (Obj.mapSeq (·.pop))) s.toks st (ap _) λb hb o e=>mq b o (λz=>nD (z▸hb)) e
 have nl:ks.length<=sizeLine:=FL hk
 refine ag ⟨FM PySem.F.plain_extend_loop _,codeAny_extend_loopS Wa nl _ nD _ ks.length 0 _ _ _ rfl (c8 _) fr og (ItemsOf.nil _) λs' xh c' hm xz GO=>?_⟩
 show wpAny _ A (load s.heap.objs.size>>=_) _ _ s'
 refine ac (wpAny_load xz ?_)
 obtain⟨h',g',d',n8,AX⟩:=s'
 obtain rfl:g'=s.gens:=hm.gens
 obtain rfl:d'=d:=hm.drawn
 obtain rfl:AX=s.os:=hm.os
 have ea:=Kp GO ol
 refine ag ?_
 show Q xh.toList _
 rw[ea]
 refine h ord h' d' n8 oi op (λb u e=>?_) (bg xz)
 have hb:b<s.heap.objs.size:=bg e
 have nI:I≠b:=λz=>by
  have gq:(s.heap.push L0).objs.size<=I:=gq
  rw[ic,z] at gq
  exact j5 _ (EO hb gq)
 refine hm.heap b u ?_ (mq b u (b9 hb) (ya b u (bj _ e)))
 simp only[ao,dk,i',B7]
 exact⟨b9 hb,λz=>nI z.symm⟩
theorem Pj{ks:List Int}(hh:A.handled=none)(hS:SG prog w s.heap S ks)(hk:ks.length<scanBound)
  (h:∀(D:Addr)(vs:List Value)(ns:List Int)(h':Heap)(d:Drawn)(tk ep:Nat),IntsAre vs ns->ns.Perm ks->ns.Pairwise (· <=·)->s.heap.objs.size<=D->h'.get? D=some (seqObj "list" vs.toArray ep)->(∀b o,s.heap.get? b=some o->h'.get? b=some o)->Q (.ref D) {s with heap:=h',drawn:=d,toks:=tk}):
  wpAny (model prog w) A (call (.builtin "sorted") [.ref S]) Q E s:=by
 refine OK kind_sorted plain_sorted entry_sorted (args_sorted1 _) ?_
 unfold Builtin.«sorted»
 refine ac (m:=checkCount "sorted" 1 1 _) (ag ?_)
 refine ac (Ju (by simp[hh]) hS hk λvs c6 d tk hi hp ya sz=>?_)
 have vl:vs.length=ks.length:=by
  have:=hp.length_eq
  rwa [ai] at this
 have vz:vs.length<=sizeLine:=by rw[vl];exact FL hk
 refine ac (J8 ?_ vz)
 have hD:(c6.push (seqObj "list" vs.toArray 0)).get? c6.objs.size=some (seqObj "list" vs.toArray 0):=cg _ rfl
 refine ac (j7 (jg slot_list_sort ⟨_,hD,rfl⟩ entry_list_sort (list_sort_treeAny hD (Hq hi) vz λout u5 h1 h2 h3=>⟨_,rfl,?_⟩) (args_list_sort _)))
 obtain⟨ep,he⟩:=sortedHeap_at hD (vs:=vs) (out:=out)
 exact ag ⟨_,rfl,h _ out.toList u5 _ d tk ep h1 (h2.trans hp) h3 (B3 sz) he λb o e=>(sortedHeap_old (b9 (bg (ya b o e))) (bg (bj _ (ya b o e)))).trans (bj _ (ya b o e))⟩
theorem drw{σ:List (Option V)}{d:Drawn}(I:L2.aQ X U σ H s):L2.aQ X U σ H {s with drawn:=d}:=⟨I.ok,I.os,I.bare,I.base,I.loc,I.cell,I.free,I.freeC,I.pin,I.hok,I.len⟩
def aHw(u ns:List Int):Prop:=u.Nodup/\(∀x,x∈u↔x∈ns)/\u.Pairwise (· <=·)
def Wd(K:Frag)(te:TE):TE:=fun σ H Q=>dP te gM σ H λvs H1=>∃(a:Addr)(ns:List Int),vs=[.ref a]/\cR K H1 a (ns.map V.int)/\ns.length<=1000/\∀(u:List Int)(p:Addr),aHw u ns->u.length<=ns.length->H1 p=none->Q (.ref p) (upd H1 p (.lst (u.map V.int)))
theorem Jn{p1 p2 B2:Pos}(hc:X.calm=true)(DL:Gl X "sorted")(sk:Gl X "set")(oo:X.mg "sorted"=none)(tw:X.mg "set"=none)(he:PE X e te)
  (j4:starEach [.Call (.Name "set" p2) [e] [] B2] X.env=[(false,eval (.Call (.Name "set" p2) [e] [] B2) X.env)]:=by rfl) (lm:starEach [e] X.env=[(false,eval e X.env)]:=by rfl):PE X (.Call (.Name "sorted" p1) [.Call (.Name "set" p2) [e] [] B2] [] pos) (Wd X.K te):=by
 intro U s σ H Q I h
 refine wpAny_Call_Name_kw (lV I DL oo boot_sorted ?_ (by decide) (by decide))
 refine N0 ?_ j4 rfl
 rw[j4]
 show wpAny _ _ (spliced ((false,eval (.Call (.Name "set" p2) [e] [] B2) X.env)::backTo pos [])) _ _ s
 refine Calls.spliced_cons ?_
 refine wpAny_Call_Name_kw (lV I sk tw boot_set ?_ (by decide) (by decide))
 refine AB (cX ((aA he aE lm) B2 U s σ H _ I h) λus s1 ⟨vs,H1,I1,r1,q1⟩=>?_) lm rfl
 obtain⟨a,ns,rfl,hs,hl,q⟩:=q1
 obtain⟨its,rv,pl,_⟩:=I1.list hs
 rw[bO.ref1 r1]
 have bi:its.length=ns.length:=by rw[<-rv.length,ai]
 have bd:∀n:Nat,n<=1000->n+1<scanBound:=λn hn=>by show n+1<4096;omega
 refine Zz (I1.ok.hd hc) pl.isList rv.ints (bd _ (by omega)) λh' tk hS hk=>?_
 refine Calls.spliced_nil ?_
 have qm:∀b u,s1.heap.get? b=some u->h'.get? b=some u:=λb u e=>hk b u (bg e) e
 have mo:=Td (val:=λi=>ns.getD i 0) its.length
 have ml:=firstMet_length_le (λi=>ns.getD i 0) its.length
 have hm:∀x,x∈firstMet (λi=>ns.getD i 0) its.length↔x∈ns:=λx=>by
  rw[mo.2,bi,ox]
  constructor
  ·rintro⟨i,hi,e⟩
   refine⟨i,?_⟩
   rw[<-e,b8,ay hi]
   rfl
  ·rintro⟨i,e⟩
   exact⟨i,(bq.mp e).1,by show ns.getD i 0=x;rw[b8,e];rfl⟩
 have I2:=(I1.kept (t':=tk) qm)
 refine Pj (I1.ok.hd hc) hS (CU (bd _ (by omega))) λD vs u h2 d VO ep h3 h4 h5 h6 h7 h8=>?_
 have ul:=h4.length_eq
 have hz:(u.map V.int).length<=sizeLine:=by
  rw[ai,ul,p8]
  omega
 have I3:=I2.laid (a:=D) (o:=.lst (u.map V.int)) (t':=VO) h8 h6 ⟨hz,vs,ep,rD h3,h7⟩
 exact⟨.ref D,_,drw (d:=d) I3,rfl,q u D ⟨h4.nodup_iff.mpr mo.1,λx=>(h4.mem_iff).trans (hm x),h5⟩ (by omega) (I2.hok.fresh h6)⟩
def alk(t:TP)(n:Nat):Bool:=Yb (fC t n).cs t.cs
def wQ(t:TP):Nat:=if alk t 1=true then 1 else if alk t 2=true then 2 else 4
variable{K:Frag}
def Ec(CP:Addr):Sp:=λvs H Q _=>∃(b nm:Addr)(g:Int)(t:TP),vs=[.ref b]/\Kk CP H b nm g t/\sA t/\∀H',aK H H'->Q (.int (wQ t:Nat)) H'
theorem Fs:aN ["part","turns"] ["part"] (aG zE):=⟨rfl,rfl,rfl,by decide+kernel,rfl,by decide+kernel,by decide+kernel⟩
theorem Vj(F:fH K "turns_until_alike" "turns_until_alike" zE f fd)(T':Po K CP)(L1:dL P w K mg base "turned_part" bU 4 ["part","turns"] (nL CP)):bV P w K mg base bU 5 f fd ["part"] (Ec CP):=by
 obtain⟨g1,gr,G1,b1,k1,h1⟩:=L1.ex
 refine F.ok Fs (λvs H Q E h=>?_) (λak A outer s H vs Q E hr h=>?_)
 ·obtain⟨b,nm,g,t,rfl,_⟩:=h
  rfl
 ·obtain⟨b,nm,g,t,rfl,ht,tok,k⟩:=h
  have hu:=kH hr
  refine⟨_,aF (eM ke rfl (Jl (eD (aA aI (aA aI aE)))) (bH (i:=1) Fs.nd rfl (Or.inl rfl))
    (aH (eK (gX (aCa hu) (aT (aP G1 hr (by rfl) h1 k1 b1 .nil aX (aA (pv 0) (aA (pv 1) aE))) rfl) (aT (pv 0) rfl) (Ie _ (by decide) (by decide))) (aH (aU (pv 1))) cD)))
   (aH (aU aI)),?_⟩
  refine⟨(by show 2<=sizeLine;decide),λtt K2=>⟨tt,rfl,⟨_,cM.of aB⟩,?_⟩⟩
  have S0:=aK.new (o:=.tup [.int 1,.int 2]) K2
  have e0:upd H tt (.tup [.int 1,.int 2]) tt=some (.tup [.int 1,.int 2]):=aB
  refine Ek (K:=K) (xs:=[.int 1,.int 2]) (λi σ H'=>∃v1,σ=[some (.ref b),v1]/\aK (upd H tt (.tup [.int 1,.int 2])) H'/\(0<i->alk t 1=false)/\(1<i->alk t 2=false)) ⟨none,rfl,λ_ _ e=>e,λz=>absurd z (ud _),λz=>absurd z (by omega)⟩ (λi σ H' _ z=>?_) ?_ ?_
  ·obtain⟨_,_,S,_⟩:=z
   exact cM.of (S _ _ e0)
  ·rintro i x σ H1 ex ⟨v1,rfl,S1,n1,n2⟩
   obtain⟨n,hx,hn⟩:∃n:Nat,x=V.int (n:Int)/\((i=0/\n=1)\/(i=1/\n=2)):=by
    match i,ex with
    |0,ex=>cases ex;exact⟨1,rfl,.inl ⟨rfl,rfl⟩⟩
    |1,ex=>cases ex;exact⟨2,rfl,.inr ⟨rfl,rfl⟩⟩
    |i+2,ex=>cases ex
   subst hx
   have zw:=S0.trans S1
   have VP:Kk CP H1 b nm g t:=by
    obtain⟨dx,c,q1,q2⟩:=ht
    exact⟨dx,c,zw _ _ q1,zw _ _ q2⟩
   refine⟨_,rfl,_,rfl,b,nm,g,t,n,rfl,by omega,VP,tok,λH2 b2 S2 t2=>?_⟩
   obtain⟨mr,c2,q1,q2⟩:=t2
   obtain⟨dx,c,p1,p2⟩:=id ht
   have t7:=zw.trans S2
   refine⟨b2,CP,mr,_,_,rfl,q1,T'.cl,T'.n6,rfl,_,rfl,b,CP,dx,_,_,rfl,t7 _ _ p1,T'.cl,T'.n6,rfl,c2,c,_,_,rfl,rfl,q2,t7 _ _ p2,_,rfl,cE (λe=>?_) (λe=>?_)⟩
   ·have er:wQ t=n:=by
     unfold wQ
     rcases hn with ⟨rfl,rfl⟩|⟨rfl,rfl⟩
     ·exact af e
     ·rw[ae (by rw[n1 (by omega)];exact ca)]
      exact af e
    have:=k H2 t7
    rw[er] at this
    exact⟨_,rfl,this⟩
   ·have e:alk t n=false:=cQ e
    refine⟨_,rfl,S1.trans S2,λz=>?_,λz=>?_⟩
    ·rcases hn with ⟨rfl,rfl⟩|⟨rfl,rfl⟩
     ·exact e
     ·exact n1 (by omega)
    ·rcases hn with ⟨rfl,rfl⟩|⟨rfl,rfl⟩
     ·omega
     ·exact e
  ·rintro σ H1 ⟨v1,rfl,S1,n1,n2⟩
   have er:wQ t=4:=by
    unfold wQ
    rw[ae (by rw[n1 (by decide)];exact ca),ae (by rw[n2 (by decide)];exact ca)]
   have:=k H1 (S0.trans S1)
   rw[er] at this
   exact this
def fE(y:List Int):List Int:=[iN y 4,iN y 3,iN y 2,iN y 0,iN y 1,iN y 5]
def Tl(K:Frag):Sp:=λvs H Q _=>∃(t:Addr)(y:List Int),vs=[.ref t]/\zU H t y/\∀(H':Hp)(u:Addr),aK H H'->Gn H' u (fE y)->Q (.ref u) H'
theorem aD9:aN ["put"] ["put"] (aG sK):=⟨rfl,rfl,rfl,by decide+kernel,rfl,by decide+kernel,by decide+kernel⟩
theorem aCl(F:fH K "plain_order" "plain_order" sK f fd):bV P w K mg base bU 1 f fd ["put"] (Tl K):=by
 refine F.ok aD9 (λvs H Q E h=>?_) (λak A outer s H vs Q E hr h=>?_)
 ·obtain⟨t,y,rfl,_⟩:=h
  rfl
 ·obtain⟨t,y,rfl,⟨ht,hy⟩,k⟩:=h
  obtain⟨a0,a1,a2,a3,a4,a5,rfl⟩:=lQ hy
  have st:=cM.of (K:=K) ht
  refine⟨_,aH (aU (eD (aA (bQ bE (pv 0) aI (λ_ _=>rfl)) (aA (bQ bE (pv 0) aI (λ_ _=>rfl)) (aA (bQ bE (pv 0) aI (λ_ _=>rfl)) (aA (bQ bE (pv 0) aI (λ_ _=>rfl)) (aA (bQ bE (pv 0) aI (λ_ _=>rfl)) (aA (bQ bE (pv 0) aI (λ_ _=>rfl)) aE)))))))),?_⟩
  refine⟨_,rfl,t,_,_,_,rfl,rfl,st,rfl,_,rfl,t,_,_,_,rfl,rfl,st,rfl,_,rfl,t,_,_,_,rfl,rfl,st,rfl,_,rfl,t,_,_,_,rfl,rfl,st,rfl,_,rfl,t,_,_,_,rfl,rfl,st,rfl,_,rfl,t,_,_,_,rfl,rfl,st,rfl,(by show 6<=sizeLine;decide),λu fu=>k _ u (aK.new fu) ?_⟩
  show upd _ _ _ _=_
  rw[aB]
  rfl
def Ar(aa:List aM)(p:Nat):Nat:=match aa[p]? with
 |some pr=>wQ (jM pr)
 |none=>1
theorem Oa(aa:List aM)(p:Nat):0<Ar aa p:=by
 unfold Ar wQ
 split
 ·split
  ·decide
  ·split<;>decide
 ·decide
def Kj(aa:List aM)(y:List Int):List Int:=y.take 5++[iN y 5 % (Ar aa (iN y 0).toNat:Int)]
def aB4(aa:List aM)(ys zs:List (List Int)):Prop:=zs.Perm ((gJ ys).map (Kj aa))/\zs.Pairwise λa b=>Sg (fE b) (fE a)=false
def vI(aa:List aM)(u:List Int):List (dQ×V):=u.map λn=>((.inl n:dQ),V.int (Ar aa n.toNat:Nat))
theorem Gr{n:Int}:∀{u:List Int},n∈u->gL (vI aa u) (.inl n)=some (V.int (Ar aa n.toNat:Nat))
 |[],h=>by cases h
 |a::r,h=>by
  unfold vI
  rw[bp]
  by_cases e:a=n
  ·rw[rM (by rw[e])]
   rw[e]
  ·rw[nR (λz=>e (Sum.inl.inj z))]
   rcases ao.mp h with z|z
   ·exact absurd z.symm e
   ·exact Gr z
theorem Bl{n:Int}:∀{u:List Int},n∉u->gL (vI aa u) (.inl n)=none
 |[],h=>rfl
 |a::r,h=>by
  unfold vI
  rw[bp,nR (λz=>h (by rw[<-Sum.inl.inj z];exact bf))]
  exact Bl λz=>h (a7 _ z)
theorem Tt{n:Int}{u:List Int}(h:n∉u):kJ (vI aa u) (.inl n) (V.int (Ar aa n.toNat:Nat))=vI aa (u++[n]):=by
 rw[sJ _ (Bl h)]
 unfold vI
 rw[b7]
 rfl
theorem Uv{y:List Int}(h:y∈gJ ys):iN y 0∈ys.map λy=>iN y 0:=by
 unfold gJ at h
 split at h
 ·cases h
 ·obtain⟨v,hv,rfl⟩:=a8.mp h
  exact a8.mpr ⟨v,hv,rfl⟩
theorem Sr{g:α->β}:∀{ps:List β}{l:List α},ps.Perm (l.map g)->∃l':List α,l'.Perm l/\l'.map g=ps:=by
 intro ps l h
 generalize hm:l.map g=m at h
 induction h generalizing l with
 |nil=>exact⟨[],by rw[List.map_eq_nil_iff.mp hm],rfl⟩
 | @cons x l1 l2 _ ih=>
  cases l with
  |nil=>cases hm
  |cons a r=>
   rw[bp] at hm
   injection hm with h1 h2
   obtain⟨l',h3,h4⟩:=ih h2
   exact⟨a::l',h3.cons a,by rw[bp,h4,h1]⟩
 | @swap x y l1=>
  match l,hm with
  |a::b::r,hm=>
   simp only[bp,List.cons.injEq] at hm
   exact⟨b::a::r,List.Perm.swap a b r,by rw[bp,bp,hm.1,hm.2.1,hm.2.2]⟩
 | @trans l1 l2 l3 _ _ ih1 ih2=>
  obtain⟨l',h1,h2⟩:=ih2 hm
  obtain⟨VQ,h3,h4⟩:=ih1 h2
  exact⟨VQ,h3.trans h1,h4⟩
theorem aAq(R:Addr->α->Prop)(f:α->List Int){ws:List Addr}{xs:List α}(h:Paired R ws xs){ps:List (List Int×Addr)}(sb:xT (xs.map f) ws ps):∃zs,Paired R (ps.map (·.2)) zs/\zs.Perm xs/\zs.Pairwise λa b=>Sg (f b) (f a)=false:=by
 obtain⟨hp,hs⟩:=sb
 have key:∀(l:List (Addr×α)),(∀q∈l,R q.1 q.2)->Paired R (l.map (·.1)) (l.map (·.2)):=λl=>by
  induction l with
  |nil=>intro _;exact .nil
  |cons q r ih=>intro hq;exact .cons (hq q bf) (ih λx hx=>hq x (a7 _ hx))
 have ez:∀{ws:List Addr}{xs:List α},Paired R ws xs->∃l:List (Addr×α),(∀q∈l,R q.1 q.2)/\l.map (·.1)=ws/\l.map (·.2)=xs/\(xs.map f).zip ws=l.map λq=>(f q.2,q.1):=λh=>by
  induction h with
  |nil=>exact⟨[],(λq hq=>absurd hq dk),rfl,rfl,rfl⟩
  | @cons t x ts xs r rs ih=>
   obtain⟨l,h1,h2,h3,h4⟩:=ih
   refine⟨(t,x)::l,λq hq=>?_,by rw[bp,h2],by rw[bp,h3],?_⟩
   ·rcases ao.mp hq with rfl|hq
    ·exact r
    ·exact h1 q hq
   ·rw[bp,ym,h4]
    rfl
 obtain⟨l,h1,h2,h3,h4⟩:=ez h
 rw[h4] at hp
 obtain⟨l',qg,e⟩:=Sr hp
 refine⟨l'.map (·.2),?_,?_,?_⟩
 ·have:=key l' λq hq=>h1 q (qg.mem_iff.mp hq)
  rw[<-e,dh]
  exact this
 ·rw[<-h3]
  exact qg.map _
 ·rw[<-e,J6] at hs
  rw[J6]
  exact hs
def xG(K:Frag)(CP:Addr):Sp:=λvs H Q _=>∃(pa la:Addr)(bs:List Addr)(aa:List aM) (ys:List (List Int)),vs=[.ref pa,.ref la]/\H pa=some (.lst (bs.map V.ref))/\dS CP H bs aa/\(∀pr∈aa,dI pr)/\xP H la ys/\ys.length<=256/\(∀y∈ys,0<=iN y 0/\(iN y 0).toNat<aa.length)/\
 ∀(H':Hp)(l:Addr) (zs:List (List Int)),aK H H'->xP H' l zs->aB4 aa ys zs->Q (.ref l) H'
abbrev Do:List Str:=["parts","lines","rounds","number","put","plain"]
abbrev aHy(K:Frag):TE:=vF (aB6 K) (tSl (aAc K) (cY 4) Ds (Xs (tC (.int 5)))) (aBb (dP (vF (rI (λ_ j=>0<j) λi j=>.int (i % j)) (vF (gK K) (cY 4) (tC (.int 5))) (Vq (cY 2) (vF (gK K) (cY 4) (tC (.int 0))))) gM))
theorem gT:aN Do ["parts","lines"] (aG mC):=⟨rfl,rfl,rfl,by decide+kernel,rfl,by decide+kernel,by decide+kernel⟩
theorem Qi(F:fH K "plain_lines" "plain_lines" mC f fd)(NG:mg "sorted"=none)(VR:mg "set"=none)(L1:dL P w K mg base "turns_until_alike" bU 5 ["part"] (Ec CP))(L2:dL P w K mg base "moved_home" bU 2 ["lines"] (Li K))(L3:dL P w K mg base "plain_order" bU 1 ["put"] (Tl K)):bV P w K mg base bU 6 f fd ["parts","lines"] (xG K CP):=by
 obtain⟨g1,gr,G1,b1,k1,h1⟩:=L1.ex
 obtain⟨g2,lr,G2,b2,k2,h2⟩:=L2.ex
 obtain⟨g3,DS,G3,b3,k3,h3⟩:=L3.ex
 refine F.ok gT (λvs H Q E h=>?_) (λak A outer s H vs Q E hr h=>?_)
 ·obtain⟨pa,la,bs,aa,ys,rfl,_⟩:=h
  rfl
 ·obtain⟨pa,la,bs,aa,ys,rfl,df,cy,ok,hY,yl,yp,k⟩:=h
  have hu:=kH hr
  have ba:=hr.mono (j:=2) (by decide)
  have i6:=hr.mono (j:=3) (by decide)
  refine⟨_,aF (bI (i:=2) gT.nd rfl (by first|exact Or.inl rfl|exact Or.inr rfl) Wp)
   (aF (eM ke rfl (fV (Jn rfl (by rfl) (by rfl) NG VR (rK (own:=[("put",4)]) (te:=vF (gK K) (cY 4) (tC (.int 0))) rfl gT.nd (fV (pv 1)) (eP (N:=Do) (sc:=aG mC) (by decide+kernel)) (λ_ _ _ _ _=>bH (i:=4) gT.nd rfl (Or.inl rfl)) (λ_ _ _ _ _=>gF) (λ_ _ _ _ _=>bQ (r:=gK K) bE (pv 4) aI (λ_ _=>rfl))))) (bH (i:=3) gT.nd rfl (Or.inl rfl))
    (aH (lP hu (pv 2) (pv 3) (aP G1 hr (by rfl) h1 k1 b1 .nil aX (aA (bQ jR (pv 0) (pv 3) (λ_ _=>rfl)) aE)) rfl)))
   (aF (yN (i:=5) (own:=[("put",4)]) (te:=aHy K) rfl gT.nd rfl rfl rfl (fV (aP G2 ba (by rfl) h2 k2 b2 .nil aX (aA (pv 1) aE))) (eP (N:=Do) (sc:=aG mC) (by decide+kernel)) (λ_ _ _ _ _=>bH (i:=4) gT.nd rfl (Or.inl rfl)) (λ_ _ _ _ _=>gF)
     (λ_ _ _ _ _=>cI Mq (yC Cq (pv 4) Dh (Fh aI)) (eD (aA (cI Vn (bQ (r:=gK K) bE (pv 4) aI (λ_ _=>rfl)) (oX hu (pv 2) (bQ (r:=gK K) bE (pv 4) aI (λ_ _=>rfl)) (λ_ _=>rfl))) aE))))
   (aH (aU (Ky G3 i6 b3 (by rfl) NG (by rfl) h3 (pv 5)))))),?_⟩
  intro R hR
  have bw:=aY
  obtain⟨ts,d8,jx⟩:=id hY
  have jl:ts.length=ys.length:=Paired.length jx
  have S0:aK H (upd H R (.dK [])):=aK.new hR
  have nRla:la≠R:=aD d8 hR
  have nRpa:pa≠R:=aD df hR
  refine⟨_,rfl,la,rfl,⟨_,cR.of (S0 _ _ d8)⟩,λDl c7=>?_⟩
  refine lN (K:=K) (xs:=ts.map V.ref) (λi H'=>aK (upd H R (.dK [])) H'/\H' Dl=some (.lst (((ys.map λy=>iN y 0).take i).map V.int))) ⟨aK.new c7,aB⟩ (λi H' _ z=>cR.of (z.1 _ _ (S0 _ _ d8))) ?_ ?_
  ·rintro i x H1 ex ⟨S1,cn⟩
   have hi:i<ys.length:=by
    have:=(bq.mp ex).1
    rwa [ai,jl] at this
   obtain⟨y,ey⟩:∃y,ys[i]?=some y:=⟨_,ay hi⟩
   obtain⟨t,et,ht,vg⟩:=bY jx ey
   rw[a9,et] at ex
   cases ex
   have IL:Nw (y.map V.int) 0=some (V.int (iN y 0)):=by
    obtain⟨a0,a1,a2,a3,a4,a5,rfl⟩:=lQ vg
    rfl
   refine⟨rfl,_,rfl,t,_,_,_,rfl,rfl,cM.of (S1 _ _ (S0 _ _ ht)),IL,_,cn,?_,?_,?_⟩
   ·rw[ai,fj,ai]
    omega
   ·intro b' o e
    rw[aC (aD e c7)]
    exact S1 _ _ e
   ·have e3:(ys.map λy=>iN y 0)[i]?=some (iN y 0):=by rw[a9,ey];rfl
    rw[aB,jh,e3,b7]
    rfl
  rintro H1 ⟨S1,cn⟩
  rw[ai,jl,wc (by rw[ai];exact ap _)] at cn
  refine⟨Dl,_,rfl,cR.of cn,by rw[ai];omega,λu p us ul fp=>⟨p,rfl,⟨_,cR.of aB⟩,?_⟩⟩
  have un:∀n∈u,0<=n/\n.toNat<aa.length:=λn hn=>by
   obtain⟨y,hy,e⟩:=a8.mp ((us.2.1 n).mp hn)
   rw[<-e]
   exact yp y hy
  have NH:H1 R=some (.dK []):=S1 _ _ aB
  have npR:p≠R:=λz=>by rw[z,NH] at fp;cases fp
  have IU:aK H (upd H1 p (.lst (u.map V.int))):=(S0.trans S1).trans (aK.new fp)
  have jf:upd H1 p (.lst (u.map V.int)) p=some (.lst (u.map V.int)):=aB
  have NI:upd H1 p (.lst (u.map V.int)) R=some (.dK []):=by rw[aC (ax npR)];exact NH
  generalize upd H1 p (.lst (u.map V.int))=Hb at IU jf NI
  have nb:∀b o,H b=some o->b≠R:=λb o e=>aD e hR
  refine wM (K:=K) (xs:=u.map V.int) (λi σ H'=>∃v3,σ=[some (.ref pa),some (.ref la),some (.ref R),v3,none,none]/\SX R Hb H'/\H' R=some (.dK (vI aa (u.take i)))) ⟨none,rfl,SX.refl _ _,NI⟩ (λi σ H' _ z=>?_) ?_ ?_
  ·obtain⟨_,_,S,_⟩:=z
   exact cR.of (S _ _ jf npR)
  ·rintro i x σ H2 ex ⟨v3,rfl,S2,EG⟩
   rw[a9] at ex
   obtain⟨n,en,ex⟩:=rk.mp ex
   subst ex
   have nu:=un n (d9 en)
   obtain⟨pr,jm⟩:∃pr,aa[n.toNat]?=some pr:=⟨_,ay nu.2⟩
   have t7:aK H H2:=λb o e=>S2 _ _ (IU _ _ e) (nb b o e)
   obtain⟨b,eb,DZ,mm⟩:=bY cy jm
   obtain⟨nm,w9⟩:=DZ.pt
   have tok:sA (jM pr):=⟨(Jd (ok pr (d9 jm))).nd,mm.len⟩
   have e0:Nw (bs.map V.ref) n=some (V.ref b):=by
    have:=iO (xs:=bs.map V.ref) (j:=n.toNat) (v:=V.ref b) (by rw[a9,eb];rfl)
    rwa [qf nu.1] at this
   have er:wQ (jM pr)=Ar aa n.toNat:=by
    unfold Ar
    rw[jm]
   have nt:n∉u.take i:=λz=>by
    obtain⟨j,hj⟩:=ox.mp z
    rw[List.getElem?_take] at hj
    split at hj
    ·rename_i am
     obtain⟨VS,DY⟩:=bq.mp hj
     obtain⟨VT,DN⟩:=bq.mp en
     exact(CZ.mp us.1 j i VS VT am) (DY.trans DN.symm)
    ·cases hj
   refine⟨_,rfl,_,rfl,pa,_,_,_,rfl,rfl,cR.of (t7 _ _ df),e0,b,nm,_,jM pr,rfl,w9.same t7,tok,λH3 S3=>?_⟩
   rw[er]
   have VU:=S3 _ _ EG
   have bi:(vI aa (u.take i)).length<sizeLine:=by
    unfold vI
    rw[ai,fj]
    rw[ai] at ul
    omega
   refine⟨_,rfl,_,rfl,R,_,rfl,tK.kk (k:=.inl n) VU bi,_,rfl,λb' o e' n'=>?_,?_⟩
   ·rw[aC n']
    exact S3 _ _ (S2 _ _ e' n')
   ·rw[aB,Tt nt,jh,en]
    rfl
  ·rintro σ H2 ⟨v3,rfl,S2,EG⟩
   rw[ai,ji] at EG
   have t7:aK H H2:=λb o e=>S2 _ _ (IU _ _ e) (nb b o e)
   refine⟨_,rfl,la,ys,rfl,hY.same t7,yl,λH3 l S3 vf=>?_⟩
   obtain⟨vG,hl,pus⟩:=id vf
   have NJ:vG.length=(gJ ys).length:=Paired.length pus
   have pc:(gJ ys).length=ys.length:=Ot
   refine⟨l,rfl,⟨_,cR.of hl⟩,λD2 uz=>?_⟩
   refine lN (K:=K) (xs:=vG.map V.ref) (λj H'=>aK H3 H'/\∃ws:List Addr,H' D2=some (.lst (ws.map V.ref))/\Paired (zU H') ws (((gJ ys).map (Kj aa)).take j)) ⟨aK.new uz,[],aB,.nil⟩ (λj H' _ z=>cR.of (z.1 _ _ hl)) ?_ ?_
   ·rintro j x H4 ex ⟨S4,ws,so,pw⟩
    have hj:j<(gJ ys).length:=by
     have:=(bq.mp ex).1
     rwa [ai,NJ] at this
    obtain⟨y,ey⟩:∃y,(gJ ys)[j]?=some y:=⟨_,ay hj⟩
    obtain⟨t,et,ht,vg⟩:=bY pus ey
    rw[a9,et] at ex
    cases ex
    have yu:iN y 0∈u:=(us.2.1 _).mpr (Uv (d9 ey))
    have VV:H4 R=some (.dK (vI aa u)):=S4 _ _ (S3 _ _ EG)
    have dg:∀H':Hp,H' R=some (.dK (vI aa u))->mW H' R (V.int (iN y 0)) (some (V.int (Ar aa (iN y 0).toNat:Nat))):=λH' e=>by
     have:=mW.kk (k:=.inl (iN y 0)) e
     rw[Gr yu] at this
     exact this
    have rp:=Oa aa (iN y 0).toNat
    have epl:Kj aa y=y.take 5++[iN y 5 % (Ar aa (iN y 0).toNat:Int)]:=rfl
    have wl:ws.length<=256:=by
     have:=Paired.length pw
     rw[fj,ai] at this
     omega
    generalize Ar aa (iN y 0).toNat=rr at dg rp epl
    obtain⟨a0,a1,a2,a3,a4,a5,rfl⟩:=lQ vg
    have NK:=S4 _ _ ht
    refine⟨rfl,_,rfl,_,rfl,t,_,rfl,cM.of NK,λp1 H5 S5 IV=>?_⟩
    have NL:=cM.of (K:=K) (S5 _ _ NK)
    have VW:mW H5 R (V.int a0) (some (V.int (rr:Nat))):=dg H5 (S5 _ _ VV)
    refine⟨_,rfl,t,_,_,_,rfl,rfl,NL,rfl,_,rfl,_,rfl,t,_,_,_,rfl,rfl,NL,rfl,R,_,rfl,VW,_,_,rfl,rfl,(by show (0:Int)<(rr:Int);omega),(by show 1<=sizeLine;decide),λp2 f2=>?_⟩
    have S6:=aK.new (o:=.tup [V.int (a5 % (rr:Int))]) f2
    have e5:vJ [V.int a0,V.int a1,V.int a2,V.int a3,V.int a4,V.int a5] none (some 5)=[V.int a0,V.int a1,V.int a2,V.int a3,V.int a4]:=rfl
    have IV:cM K H5 p1 [V.int a0,V.int a1,V.int a2,V.int a3,V.int a4]:=by rw[<-e5];exact IV
    refine⟨p1,p2,[V.int a0,V.int a1,V.int a2,V.int a3,V.int a4],[V.int (a5 % (rr:Int))],rfl,rfl,S6.seqT IV,cM.of aB,(by intro z;cases z),(by show 6<=sizeLine;decide),(λz=>by cases z),λ_ p3 f3=>?_⟩
    have yb:=(S5.trans S6).trans (aK.new (o:=.tup ([V.int a0,V.int a1,V.int a2,V.int a3,V.int a4]++[V.int (a5 % (rr:Int))])) f3)
    have VX:p3≠D2:=λz=>by
     have:=(S5.trans S6) _ _ so
     rw[<-z,f3] at this
     cases this
    refine⟨_,yb _ _ so,by rw[ai];omega,λb' o e=>?_,ws++[p3],by rw[aB,b7];rfl,?_⟩
    ·rw[aC (aD e uz)]
     exact yb _ _ (S4 _ _ e)
    ·have e2:((gJ ys).map (Kj aa))[j]?=some ([a0,a1,a2,a3,a4,a5].take 5++[a5 % (rr:Int)]):=by rw[a9,ey];exact congrArg some epl
     rw[jh,e2]
     refine Paired.snoc (Paired.mapP pw λv z q=>⟨?_,q.2⟩) ⟨?_,rfl⟩
     ·rw[aC (λe=>by have z1:=q.1;rw[e,so] at z1;cases z1)]
      exact yb _ _ q.1
     ·rw[aC VX,aB]
      rfl
   ·rintro H4 ⟨S4,ws,so,pw⟩
    rw[ai,NJ,wc (by rw[ai];exact ap _)] at pw
    have VY:=(t7.trans S3).trans S4
    have wl:=Paired.length pw
    refine⟨_,rfl,D2,ws,((gJ ys).map (Kj aa)).map fE,rfl,cR.of so,?_,by rw[wl,ai,ai,ai],λkk hk=>?_,λH5 D ps S5 f5 sb=>?_⟩
    ·intro i t kk H5 Q5 e1 e2 S5 q5
     rw[a9] at e2
     obtain⟨y,ey,rfl⟩:=rk.mp e2
     obtain⟨t',et,hp⟩:=bY pw ey
     rw[e1] at et
     cases et
     exact⟨t,y,rfl,⟨S5 _ _ hp.1,hp.2⟩,q5⟩
    ·obtain⟨y,_,rfl⟩:=a8.mp hk
     exact Nat.succ_pos _
    ·obtain⟨zs,pz,e3,e4⟩:=aAq (λt y=>zU H4 t y) fE pw sb
     refine k _ D zs (VY.trans (S5.trans (aK.new f5))) ⟨ps.map (·.2),by rw[aB,dh];rfl,Paired.mapP pz λt y q=>⟨?_,q.2⟩⟩ ⟨e3,e4⟩
     rw[aC (aD (S5 _ _ q.1) f5)]
     exact S5 _ _ q.1
end Br1
namespace Br1
theorem Ay{p:Br.Part}(sh:zO p)(hi:i<p.places.length):p.places[i]?=some (p.at_ (i % p.wide) (i / p.wide % p.deep) (i / p.wide / p.deep)):=by
 have hw:=sh.w
 have hd:=sh.d
 have hl:=sh.l
 have b3:i / p.wide / p.deep<p.high:=by
  rw[FF,Nat.div_lt_iff_lt_mul (CW hw hd)]
  rw[hl,m7 p.deep p.wide] at hi
  exact hi
 have e:(i / p.wide / p.deep * p.deep+i / p.wide % p.deep) * p.wide+i % p.wide=i:=by
  rw[PQ,PQ]
 unfold Br.Part.at_
 rw[af ⟨oy _ hw,oy _ hd,b3⟩,e,b8,ay hi]
 rfl
theorem wN{p q:Br.Part}(hp:zO p)(hq:zO q)(w:p.wide=q.wide)(d:p.deep=q.deep)(h:p.high=q.high)(e:∀x y z,p.at_ x y z=q.at_ x y z):p.places=q.places:=by
 have hl:p.places.length=q.places.length:=by rw[hp.l,hq.l,w,d,h]
 refine FE λi=>?_
 by_cases hi:i<p.places.length
 ·rw[Ay hp hi,Ay hq (by omega),e,w,d]
 ·rw[k9 (by omega),k9 (by omega)]
abbrev fK(p:Br.Part):Nat×Nat×Nat×List Br.Place:=(p.wide,p.deep,p.high,p.places)
theorem Rr{p q:Br.Part}:p.same q=true↔fK p=fK q:=by
 unfold Br.Part.same fK
 simp only[cq,cz,Prod.mk.injEq]
theorem aAb{p q:Br.Part}(h:fK p=fK q)(x y z:Nat):p.at_ x y z=q.at_ x y z:=by
 simp only[fK,Prod.mk.injEq] at h
 unfold Br.Part.at_
 rw[h.1,h.2.1,h.2.2.1,h.2.2.2]
theorem Qj{p q:Br.Part}(h:fK p=fK q):fK p.turn=fK q.turn:=by
 simp only[fK,Prod.mk.injEq] at h
 simp only[fK,Prod.mk.injEq]
 unfold Br.Part.turn
 dsimp only
 rw[h.1,h.2.1,h.2.2.1,h.2.2.2]
 exact⟨rfl,rfl,rfl,rfl⟩
theorem zO.turn{p:Br.Part}(sh:zO p):zO p.turn:=⟨sh.d,sh.w,sh.h,xF⟩
theorem zO.turned{p:Br.Part}(sh:zO p):∀r,zO (p.turned r)
 |0=>sh
 |r+1=>(zO.turned sh r).turn
theorem Wv{p:Br.Part}{x y:Nat}(h:¬(x<p.wide/\y<p.deep/\z<p.high)):p.at_ x y z=.none:=by
 unfold Br.Part.at_
 rw[ae h]
theorem Fx{p:Br.Part}(sh:zO p){x y:Nat}(hx:x<p.wide)(hy:y<p.deep)(hz:z<p.high):p.turn.turn.at_ x y z=p.at_ (p.wide - 1 - x) (p.deep - 1 - y) z:=by
 rw[rL sh.turn (show x<p.turn.deep from hx) (show y<p.turn.wide from hy) (show z<p.turn.high from hz)]
 show p.turn.at_ (p.deep - 1 - y) x z=_
 exact rL sh (by omega) hx hz
theorem aEn{p:Br.Part}(sh:zO p):fK (p.turned 4)=fK p:=by
 have HU:zO p.turn.turn:=sh.turn.turn
 have e:∀x y z,(p.turned 4).at_ x y z=p.at_ x y z:=λx y z=>by
  show p.turn.turn.turn.turn.at_ x y z=_
  by_cases h:x<p.wide/\y<p.deep/\z<p.high
  ·rw[Fx HU (show x<p.turn.turn.wide from h.1) (show y<p.turn.turn.deep from h.2.1) (show z<p.turn.turn.high from h.2.2)]
   show p.turn.turn.at_ (p.wide - 1 - x) (p.deep - 1 - y) z=_
   rw[Fx sh (by omega) (by omega) h.2.2,show p.wide - 1 - (p.wide - 1 - x)=x by omega,show p.deep - 1 - (p.deep - 1 - y)=y by omega]
  ·rw[Wv h,Wv (p:=p.turn.turn.turn.turn) h]
 have:=wN (p:=p.turned 4) (q:=p) (sh.turned 4) sh rfl rfl rfl e
 show ((p.turned 4).wide,(p.turned 4).deep,(p.turned 4).high,(p.turned 4).places)=_
 rw[this]
 rfl
theorem rQ[DecidableEq α]:∀{l m:List α},l.Nodup->(∀x∈l,x∈m)->∃r,m.Perm (l++r)
 |[],m,_,_=>⟨m,.refl _⟩
 |a::l,m,nd,h=>by
  obtain⟨na,nl⟩:=qb.mp nd
  have ha:=h a bf
  obtain⟨r,hr⟩:=rQ (m:=m.erase a) nl λx hx=>(OX (λz=>na (by rw[<-z];exact hx))).mpr (h x (a7 _ hx))
  exact⟨r,(List.perm_cons_erase ha).trans (hr.cons a)⟩
theorem Ts[DecidableEq α]{l m:List α}(nd:l.Nodup)(h:∀x∈l,x∈m)(e:l.length=m.length):∀x∈m,x∈l:=by
 obtain⟨r,hr⟩:=rQ nd h
 have:=hr.length_eq
 rw[b6] at this
 have:r=[]:=yn (by omega)
 rw[this,fh] at hr
 exact λx hx=>hr.mem_iff.mp hx
theorem Up(h:(cs.map (·.1)).Nodup):cs.Nodup:=PJ (S:=(· ≠·)) _ (λa b h z=>h (by rw[z])) h
theorem Yj{ds:CL}(nc:(cs.map (·.1)).Nodup)(nd:(ds.map (·.1)).Nodup):Yb cs ds=true↔∀c,c∈cs↔c∈ds:=by
 unfold Yb
 rw[cq,ck,j8]
 constructor
 ·rintro⟨hl,h⟩ c
  have sub:∀x∈cs,x∈ds:=λx hx=>oR (d7 (h x hx))
  exact⟨sub c,Ts (Up nc) sub hl c⟩
 ·intro h
  refine⟨?_,λx hx=>c9 ((Pc nd).mpr ((h x).mp hx))⟩
  obtain⟨r,hr⟩:=rQ (Up nc) λx hx=>(h x).mp hx
  obtain⟨r',VZ⟩:=rQ (Up nd) λx hx=>(h x).mpr hx
  have h1:=hr.length_eq
  have h2:=VZ.length_eq
  rw[b6] at h1 h2
  omega
theorem aCw{t1 t2:TP}{p1 p2:Br.Part}(r1:Rv t1 p1)(r2:Rv t2 p2):(∀c,c∈t1.cs↔c∈t2.cs)↔∀x y z,p1.at_ x y z=p2.at_ x y z:=by
 have one:∀{t1 t2:TP}{p1 p2:Br.Part},Rv t1 p1->Rv t2 p2->(∀c,c∈t1.cs->c∈t2.cs)->∀x y z,(p1.at_ x y z).isCell=true->p1.at_ x y z=p2.at_ x y z:=λ{t1 t2 p1 p2} r1 r2 h x y z hc=>by
  obtain⟨v,hv,e⟩:=wK (p1.at_ x y z)
  have m1:=(r1.mem (cT (x,y,z)) v).mpr ⟨(x,y,z),rfl,hv,hc,e⟩
  obtain⟨s,es,_,_,e2⟩:=(r2.mem _ v).mp (h _ m1)
  have:=gS es
  subst this
  rw[e]
  exact e2.symm
 constructor
 ·intro h x y z
  by_cases c1:(p1.at_ x y z).isCell=true
  ·exact one r1 r2 (λc hc=>(h c).mp hc) x y z c1
  ·by_cases c2:(p2.at_ x y z).isCell=true
   ·exact(one r2 r1 (λc hc=>(h c).mpr hc) x y z c2).symm
   ·cases e1:p1.at_ x y z with
    |cell a b=>rw[e1] at c1;exact absurd rfl c1
    |none=>
     cases e2:p2.at_ x y z with
     |cell a b=>rw[e2] at c2;exact absurd rfl c2
     |none=>rfl
 ·intro h c
  obtain⟨q,v⟩:=c
  rw[r1.mem,r2.mem]
  constructor
  ·rintro⟨s,h1,h2,h3,h4⟩
   exact⟨s,h1,h2,by rw[<-h];exact h3,by rw[<-h];exact h4⟩
  ·rintro⟨s,h1,h2,h3,h4⟩
   exact⟨s,h1,h2,by rw[h];exact h3,by rw[h];exact h4⟩
theorem Xl{t1 t2:TP}{p1 p2:Br.Part}(r1:Rv t1 p1)(r2:Rv t2 p2)(g1:lH p1)(g2:lH p2)(hh:p1.high=p2.high):Yb t1.cs t2.cs=true↔fK p1=fK p2:=by
 rw[Yj r1.nd r2.nd,aCw r1 r2]
 constructor
 ·intro h
  have wd:p1.wide=p2.wide:=by
   obtain⟨y1,z1,c1⟩:=g1.x1
   obtain⟨y2,z2,c2⟩:=g2.x1
   rw[h] at c1
   rw[<-h] at c2
   have a1:=(pX c1).1
   have a2:=(pX c2).1
   have w1:=r1.sh.w
   have w2:=r2.sh.w
   omega
  have dp:p1.deep=p2.deep:=by
   obtain⟨y1,z1,c1⟩:=g1.y1
   obtain⟨y2,z2,c2⟩:=g2.y1
   rw[h] at c1
   rw[<-h] at c2
   have a1:=(pX c1).2.1
   have a2:=(pX c2).2.1
   have w1:=r1.sh.d
   have w2:=r2.sh.d
   omega
  have:=wN r1.sh r2.sh wd dp hh h
  simp only[fK,Prod.mk.injEq]
  exact⟨wd,dp,hh,this⟩
 ·intro h x y z
  exact aAb h x y z
theorem uP(p:Br.Part):∀n,(p.turned n).high=p.high
 |0=>rfl
 |n+1=>uP p n
theorem Gq(ok:dI pr)(tg:(cA pr).tight=true)(n:Nat):Yb (fC (jM pr) n).cs (jM pr).cs=true↔fK ((cA pr).turned n)=fK (cA pr):=by
 have r0:=Jd ok
 have g0:=Ga r0.sh tg
 exact Xl (pH r0 n) r0 (g0.turned n) g0 (uP _ n)
theorem Kr(a:Nat->α)(st:∀i j,a i=a j->a (i+1)=a (j+1))(h4:a 4=a 0){m:Nat}(hm:(m=1/\a 1=a 0)\/(m=2/\a 1≠a 0/\a 2=a 0)\/(m=4/\a 1≠a 0/\a 2≠a 0)):∀i j,i<4->j<4->(a i=a j↔i % m=j % m):=by
 have n:∀i,i<4->i=0\/i=1\/i=2\/i=3:=by omega
 rcases hm with ⟨rfl,h1⟩|⟨rfl,h1,h2⟩|⟨rfl,h1,h2⟩
 ·have e2:a 2=a 0:=(st 1 0 h1).trans h1
  have e3:a 3=a 0:=(st 2 0 e2).trans h1
  intro i j hi hj
  refine⟨λ_=>by rw[Nat.mod_one,Nat.mod_one],λ_=>?_⟩
  rcases n i hi with rfl|rfl|rfl|rfl<;>rcases n j hj with rfl|rfl|rfl|rfl<;>simp only[h1,e2,e3]
 ·have e3:a 3=a 1:=st 2 0 h2
  intro i j hi hj
  rcases n i hi with rfl|rfl|rfl|rfl<;>rcases n j hj with rfl|rfl|rfl|rfl<;>simp[h1,h2,e3,ax h1]
 ·have e3:a 3≠a 0:=λz=>h1 ((st 3 0 z).symm.trans h4)
  have lw:a 1≠a 2:=λz=>e3 ((st 2 3 (st 1 2 z)).trans h4)
  have NM:a 1≠a 3:=λz=>h2 ((st 1 3 z).trans h4)
  have NN:a 2≠a 3:=λz=>e3 ((st 2 3 z).trans h4)
  intro i j hi hj
  rcases n i hi with rfl|rfl|rfl|rfl<;>rcases n j hj with rfl|rfl|rfl|rfl<;>simp[h1,h2,e3,lw,NM,NN,ax h1,ax h2,ax e3,ax lw,ax NM,ax NN]
end Br1
namespace Br1
open PySem PySem.Spec PyProof.Rows L2
theorem aFi{f:Nat->Bool}{m r:Nat}(hm:m=1\/m=2\/m=4)(hr:r<4)(h:∀i,i<4->(f i=true↔i % m=r % m)):(List.range 4).find? f=some (r % m):=by
 have n:r=0\/r=1\/r=2\/r=3:=by omega
 have fb:∀i,i<4->f i=decide (i % m=r % m):=λi hi=>by
  rw[io,ck]
  exact h i hi
 have f0:=fb 0 (by decide)
 have f1:=fb 1 (by decide)
 have f2:=fb 2 (by decide)
 have f3:=fb 3 (by decide)
 show List.find? f [0,1,2,3]=_
 rw[lf,lf,lf,lf,f0,f1,f2,f3]
 rcases hm with rfl|rfl|rfl<;>rcases n with rfl|rfl|rfl|rfl<;>rfl
theorem Tc(ok:dI pr)(tg:(cA pr).tight=true){r:Nat}(hr:r<4):(List.range 4).find? (λ(i:Nat)=>((cA pr).turned i).same ((cA pr).turned r))=some (r % wQ (jM pr)):=by
 have h1:=Gq ok tg 1
 have h2:=Gq ok tg 2
 have sh:=(Jd ok).sh
 have lt:∀{m:Nat},((m=1/\fK ((cA pr).turned 1)=fK ((cA pr).turned 0))\/(m=2/\fK ((cA pr).turned 1)≠fK ((cA pr).turned 0)/\fK ((cA pr).turned 2)=fK ((cA pr).turned 0))\/(m=4/\fK ((cA pr).turned 1)≠fK ((cA pr).turned 0)/\fK ((cA pr).turned 2)≠fK ((cA pr).turned 0)))->∀i j,i<4->j<4->(fK ((cA pr).turned i)=fK ((cA pr).turned j)↔i % m=j % m):=λhm=>
  Kr (λn=>fK ((cA pr).turned n)) (λi j e=>Qj e) (aEn sh) hm
 have fin:∀{m:Nat},(m=1\/m=2\/m=4)->(∀i j,i<4->j<4->(fK ((cA pr).turned i)=fK ((cA pr).turned j)↔i % m=j % m))->(List.range 4).find? (λ(i:Nat)=>((cA pr).turned i).same ((cA pr).turned r))=some (r % m):=λhm h=>aFi hm hr λi hi=>by rw[Rr];exact h i r hi hr
 unfold wQ alk
 by_cases e1:Yb (fC (jM pr) 1).cs (jM pr).cs=true
 ·rw[af e1]
  exact fin (.inl rfl) (lt (.inl ⟨rfl,h1.mp e1⟩))
 ·rw[ae e1]
  by_cases e2:Yb (fC (jM pr) 2).cs (jM pr).cs=true
  ·rw[af e2]
   exact fin (.inr (.inl rfl)) (lt (.inr (.inl ⟨rfl,λz=>e1 (h1.mpr z),h2.mp e2⟩)))
  ·rw[ae e2]
   exact fin (.inr (.inr rfl)) (lt (.inr (.inr ⟨rfl,λz=>e1 (h1.mpr z),λz=>e2 (h2.mpr z)⟩)))
theorem Dy(ok:∀pr∈aa,dI pr)(tg:∀pr∈aa,(cA pr).tight=true){y:List Int}(h:Xy aa y):Br.Line.plainly (aa.map cA) (fR (rS y))=fR (rS (Kj aa y)):=by
 obtain⟨hl,hn,hp,hr,_⟩:=h
 obtain⟨a,b,c,d,e,f,rfl⟩:=lQ hl
 have hp:a.toNat<aa.length:=hp
 have hr:f<4:=hr
 have hf:0<=f:=hn f (by simp)
 have pm:=o3 hp
 have eg:(aa.map cA).getD a.toNat Br.nothing=cA aa[a.toNat]:=by
  rw[b8,a9,ay hp]
  rfl
 have er:Ar aa a.toNat=wQ (jM aa[a.toNat]):=by
  unfold Ar
  rw[ay hp]
 have fd:=Tc (ok _ pm) (tg _ pm) (r:=f.toNat) (by omega)
 rw[<-er] at fd
 unfold Br.Line.plainly Br.Line.of
 show ({fR (rS [a,b,c,d,e,f]) with r:=((List.range 4).find? λ(r:Nat)=>(((aa.map cA).getD a.toNat Br.nothing).turned r).same (((aa.map cA).getD a.toNat Br.nothing).turned f.toNat)).getD _}:Br.Line)=_
 rw[eg,fd]
 show (⟨a.toNat,b.toNat,c.toNat,d.toNat,e.toNat,f.toNat % Ar aa a.toNat⟩:Br.Line)=⟨a.toNat,b.toNat,c.toNat,d.toNat,e.toNat,(f % (Ar aa a.toNat:Int)).toNat⟩
 have:(f % (Ar aa a.toNat:Int)).toNat=f.toNat % Ar aa a.toNat:=by
  obtain⟨g,rfl⟩:=J4 hf
  rw[<-PR,fq,fq]
 rw[this]
theorem Mi:∀{l m:List Nat},l.length=m.length->Sg (l.map λ(n:Nat)=>(n:Int)) (m.map λ(n:Nat)=>(n:Int))=Br.lesser l m
 |[],[],_=>rfl
 |[],b::y,h=>by cases h
 |a::x,[],h=>by cases h
 |a::x,b::y,h=>by
  have ih:=Mi (l:=x) (m:=y) (by simpa using h)
  unfold Sg at ih ⊢
  rw[bp,bp]
  show (decide ((a:Int)<(b:Int))||(!decide ((b:Int)<(a:Int)) && lexLt itemOrd (kIn (x.map _)) (kIn (y.map _))))=(decide (a<b)||(a==b && Br.lesser x y))
  rw[ih]
  by_cases h1:a<b
  ·rw[c9 h1,c9 (show (a:Int)<(b:Int) by omega)]
   rfl
  ·rw[jn h1,jn (show ¬(a:Int)<(b:Int) by omega)]
   by_cases h2:a=b
   ·rw[jn (show ¬(b:Int)<(a:Int) by omega),cz.mpr h2]
    rfl
   ·rw[c9 (show (b:Int)<(a:Int) by omega),pi.mpr h2]
    rfl
structure Six(y:List Int):Prop where
 l:y.length=6
 n:∀k∈y,0<=k
theorem Of{y:List Int}(h:Six y):fE y=(Br.Line.key (fR (rS y))).map λ(n:Nat)=>(n:Int):=by
 obtain⟨hl,hn⟩:=h
 obtain⟨a,b,c,d,e,f,rfl⟩:=lQ hl
 simp only[ao,dk,i',ug,uh] at hn
 show [e,d,c,a,b,f]=[((e.toNat:Nat):Int),((d.toNat:Nat):Int),((c.toNat:Nat):Int),((a.toNat:Nat):Int),((b.toNat:Nat):Int),((f.toNat:Nat):Int)]
 rw[qf hn.1,qf hn.2.1,qf hn.2.2.1,qf hn.2.2.2.1,qf hn.2.2.2.2.1,qf hn.2.2.2.2.2]
theorem aCg{y z:List Int}(hy:Six y)(hz:Six z):Sg (fE y) (fE z)=Br.lesser (Br.Line.key (fR (rS y))) (Br.Line.key (fR (rS z))):=by
 rw[Of hy,Of hz]
 exact Mi rfl
abbrev Sk(a b:List Int):Prop:=Sg (fE b) (fE a)=false
theorem Xj{a b:List Int}(ha:a.length=6)(hb:b.length=6)(h1:Sk a b)(h2:Sk b a):a=b:=by
 have e:=lex_total (O:=itemOrd) (kIn (fE a)) (kIn (fE b)) h2 h1
 have e:fE a=fE b:=by
  have:=congrArg unK e
  rwa [vL,vL] at this
 obtain⟨a0,a1,a2,a3,a4,a5,rfl⟩:=lQ ha
 obtain⟨b0,b1,b2,b3,b4,b5,rfl⟩:=lQ hb
 have e:[a4,a3,a2,a0,a1,a5]=[b4,b3,b2,b0,b1,b5]:=e
 simp only[List.cons.injEq,and_true] at e ⊢
 omega
theorem Pt{a b c:List Int}(h1:Sk a b)(h2:Sk b c):Sk a c:=by
 unfold Sk at *
 cases e:Sg (fE c) (fE a) with
 |false=>rfl
 |true=>
  rcases lex_negTrans (O:=itemOrd) (kIn (fE c)) (kIn (fE b)) (kIn (fE a)) e with z|z
  ·have h2:lexLt itemOrd (kIn (fE c)) (kIn (fE b))=false:=h2
   rw[h2] at z;cases z
  ·have h1:lexLt itemOrd (kIn (fE b)) (kIn (fE a))=false:=h1
   rw[h1] at z;cases z
theorem Qr{a b:List Int}(h:Sg (fE a) (fE b)=true):Sk a b:=by
 cases e:Sg (fE b) (fE a) with
 |false=>exact e
 |true=>
  have:=lex_trans (O:=itemOrd) (kIn (fE a)) (kIn (fE b)) (kIn (fE a)) h e
  rw[lex_irrefl] at this
  cases this
def Iq(l:List Int):List (List Int)->List (List Int)
 |[]=>[l]
 |m::r=>if Sg (fE m) (fE l)=true then m::Iq l r else l::m::r
theorem yR(l:List Int):∀zs,(Iq l zs).Perm (l::zs)
 |[]=>.refl _
 |m::r=>by
  rw[Iq]
  split
  ·exact((yR l r).cons m).trans (List.Perm.swap l m r)
  ·exact .refl _
theorem wT(l:List Int):∀zs,zs.Pairwise Sk->(Iq l zs).Pairwise Sk
 |[],_=>yq.mpr ⟨(λx hx=>absurd hx dk),List.Pairwise.nil⟩
 |m::r,h=>by
  obtain⟨h1,h2⟩:=yq.mp h
  rw[Iq]
  split
  ·rename_i e
   refine yq.mpr ⟨λx hx=>?_,wT l r h2⟩
   rcases ao.mp ((yR l r).mem_iff.mp hx) with rfl|hx
   ·exact Qr e
   ·exact h1 x hx
  ·rename_i e
   have e:Sk l m:=by
    cases z:Sg (fE m) (fE l) with
    |false=>exact z
    |true=>exact absurd z e
   refine yq.mpr ⟨λx hx=>?_,h⟩
   rcases ao.mp hx with rfl|hx
   ·exact e
   ·exact Pt e (h1 x hx)
def Wo(l:List (List Int)):List (List Int):=l.foldr Iq []
theorem kR:∀l,(Wo l).Perm l
 |[]=>.refl _
 |a::r=>(yR a (Wo r)).trans ((kR r).cons a)
theorem xC:∀l,(Wo l).Pairwise Sk
 |[]=>.nil
 |a::r=>wT a _ (xC r)
def lL(aa:List aM)(ys:List (List Int)):List (List Int):=Wo ((gJ ys).map (Kj aa))
theorem Uc{zs:List (List Int)}(h6:∀y∈gJ ys,y.length=6)(h:aB4 aa ys zs):zs=lL aa ys:=by
 have l6:∀x∈(gJ ys).map (Kj aa),x.length=6:=λx hx=>by
  obtain⟨y,hy,rfl⟩:=a8.mp hx
  unfold Kj
  rw[b6,fj,h6 y hy]
  rfl
 refine List.Perm.eq_of_pairwise (le:=Sk) (λa b ha hb h1 h2=>Xj (l6 a (h.1.mem_iff.mp ha)) (l6 b ((kR _).mem_iff.mp hb)) h1 h2) h.2 (xC _) (h.1.trans (kR _).symm)
theorem Ad:∀{l:List (List Int)},(∀y∈l,Six y)->(l.map λy=>fR (rS y)).foldr Br.putLine []=(Wo l).map λy=>fR (rS y)
 |[],_=>rfl
 |a::r,h=>by
  have ih:=Ad (l:=r) λy hy=>h y (a7 _ hy)
  have ha:=h a bf
  have pl:∀{zs:List (List Int)},(∀y∈zs,Six y)->Br.putLine (fR (rS a)) (zs.map λy=>fR (rS y))=(Iq a zs).map λy=>fR (rS y):=λ{zs} hz=>by
   induction zs with
   |nil=>rfl
   |cons m r ih2=>
    rw[bp,Br.putLine,Iq,<-aCg (hz m bf) ha]
    split
    ·rw[bp,ih2 λy hy=>hz y (a7 _ hy)]
    ·rfl
  rw[bp,List.foldr_cons,ih]
  exact pl λy hy=>h y (a7 _ ((kR r).mem_iff.mp hy))
theorem Ss{y:List Int}(h:Xy aa y):Six (Kj aa y)/\(iN (Kj aa y) 0).toNat<aa.length/\∀k∈Kj aa y,k∈y\/(0<=k/\k<4):=by
 obtain⟨hl,hn,hp,hr,_⟩:=h
 obtain⟨a,b,c,d,e,f,rfl⟩:=lQ hl
 have hr:f<4:=hr
 have rp:=Oa aa a.toNat
 have f0:0<=f % (Ar aa a.toNat:Int):=Int.emod_nonneg _ (by omega)
 have hf:0<=f:=hn f (by simp)
 have f1:f % (Ar aa a.toNat:Int)<=f:=by
  have e1:f=((f.toNat:Nat):Int):=(qf hf).symm
  rw[e1,<-PR]
  exact Int.ofNat_le.mpr (Nat.mod_le _ _)
 have el:Kj aa [a,b,c,d,e,f]=[a,b,c,d,e,f % (Ar aa a.toNat:Int)]:=rfl
 rw[el]
 simp only[ao,dk,i',ug,uh] at hn
 refine⟨⟨rfl,?_⟩,hp,?_⟩
 ·simp only[ao,dk,i',ug,uh]
  exact⟨hn.1,hn.2.1,hn.2.2.1,hn.2.2.2.1,hn.2.2.2.2.1,f0⟩
 ·simp only[ao,dk,i',ug,uh]
  refine⟨by simp,by simp,by simp,by simp,by simp,.inr ⟨f0,by omega⟩⟩
theorem uA(ok:∀pr∈aa,dI pr)(tg:∀pr∈aa,(cA pr).tight=true){d:Br.Build}(h:∀y∈ys,Xy aa y)(hd:d.lines=ys.map λy=>fR (rS y)):
  (d.plain (aa.map cA)).lines=(lL aa ys).map λy=>fR (rS y):=by
 obtain⟨h1,h2⟩:=sX ok tg h hd
 unfold Br.Build.plain
 show ((d.home (aa.map cA)).lines.map (Br.Line.plainly (aa.map cA))).foldr Br.putLine []=_
 rw[h2,dh]
 have e:(gJ ys).map (Br.Line.plainly (aa.map cA)∘λy=>fR (rS y))=((gJ ys).map (Kj aa)).map λy=>fR (rS y):=by
  rw[dh]
  exact we λy hy=>Dy ok tg (h1 y hy)
 rw[e]
 exact Ad λx hx=>by
  obtain⟨y,hy,rfl⟩:=a8.mp hx
  exact(Ss (h1 y hy)).1
variable{K:Frag}
def tZ:Sp:=λvs H Q _=>∃x:Str,vs=[.str x]/\x.length<=1000/\∀(H':Hp)(l:Addr),aK H H'->H l=none->H' l=some (.lst ((Fj x).map V.int))->Q (.ref l) H'
theorem qF:aN ["word","sign"] ["word"] (aG lG):=⟨rfl,rfl,rfl,by decide+kernel,rfl,by decide+kernel,by decide+kernel⟩
abbrev aFa:List V->Hp->VK->Prop:=λxs H Q=>∃x,xs=[.str x]/\x.length=1/\Q (.int (x.cps.getD 0 0:Nat)) H
theorem Lf(F:fH K "spelled" "spelled" lG f fd)(lq:mg "ord"=none):bV P w K mg base bU 2 f fd ["word"] tZ:=by
 refine F.ok qF (λvs H Q E h=>?_) (λak A outer s H vs Q E hr h=>?_)
 ·obtain⟨x,rfl,_⟩:=h
  rfl
 ·obtain⟨x,rfl,hx,k⟩:=h
  refine⟨_,aH (aU (rK (own:=[("sign",1)]) (te:=tCB aFa (dP (cY 1) gM)) rfl qF.nd (Uo (pv 0)) (eP (N:=["word","sign"]) (sc:=aG lG) (by decide+kernel))
   (λ_ _ _ _ _=>bH (i:=1) qF.nd rfl (Or.inl rfl)) (λ_ _ _ _ _=>gF) (λ_ _ _ _ _=>bS (r:=aFa) yU (by rfl) lq boot_ord (aA (pv 1) aE)))),?_⟩
  have bw:=aY
  have hx:x.cps.size<=1000:=hx
  refine⟨_,rfl,x,rfl,λDl c7=>?_⟩
  refine aDr (λi H'=>aK H H'/\H' Dl=some (.lst (((Fj x).take i).map V.int))) ⟨aK.new c7,aB⟩ ?_ ?_
  ·rintro i c H1 ec ⟨S1,cn⟩
   have hi:i<x.cps.size:=(wa.mp ec).1
   refine⟨rfl,_,rfl,_,rfl,rfl,_,cn,?_,?_,?_⟩
   ·rw[ai,fj]
    omega
   ·intro b' o e
    rw[aC (aD e c7)]
    exact S1 _ _ e
   ·have e1:(Fj x)[i]?=some (c:Int):=by
     unfold Fj
     rw[a9,m6,ec]
     rfl
    rw[aB,jh,e1,b7]
    rfl
  ·rintro H1 ⟨S1,cn⟩
   have e:(Fj x).take x.cps.size=Fj x:=wc (by unfold Fj;rw[ai,d4];exact ap _)
   rw[e] at cn
   exact k H1 Dl S1 c7 cn
def aHm(CB:Addr)(H:Hp)(q:Addr)(nm:List Int)(ys:List (List Int)):Prop:=∃(dx na la:Addr)(ts:List Addr),H q=some (.ins CB dx (BdF na la))/\H na=some (.tup (nm.map V.int))/\H la=some (.lst (ts.map V.ref))/\Paired (zU H) ts ys
def Ep(K:Frag)(CB:Addr):Sp:=λvs H Q _=>∃(q D:Addr)(aa:List aM)(nm:List Int) (ys:List (List Int)),vs=[.ref q,.ref D]/\aHm CB H q nm ys/\My H D aa/\(∀y∈ys,YOk aa y)/\(∀pr∈aa,pr.name.length<=8)/\nm.length<=16/\ys.length<=256/\
 ∀(H':Hp)(l:Addr),aK H H'->H l=none->H' l=some (.lst ((Fr (aa.map (·.name)) nm ys).map V.int))->(Fr (aa.map (·.name)) nm ys).length<=100000->Q (.ref l) H'
abbrev aD4:List Str:=["build","names","text","put","number"]
theorem qZ:aN aD4 ["build","names"] (aG jL):=⟨rfl,rfl,rfl,by decide+kernel,rfl,by decide+kernel,by decide+kernel⟩
theorem Ub(F:fH K "build_text" "build_text" jL f fd)(TB:BdT K CB)(DP:mg "list"=none)(L1:dL P w K mg base "spelled" bU 2 ["word"] tZ):bV P w K mg base bU 3 f fd ["build","names"] (Ep K CB):=by
 obtain⟨g1,gr,G1,b1,k1,h1⟩:=L1.ex
 refine F.ok qZ (λvs H Q E h=>?_) (λak A outer s H vs Q E hr h=>?_)
 ·obtain⟨q,D,aa,nm,ys,rfl,_⟩:=h
  rfl
 ·obtain⟨q,D,aa,nm,ys,rfl,⟨dx,na,la,ts,hq,jv,d8,jx⟩,⟨qs,hD,V0⟩,yo,pn,nl,yl,k⟩:=h
  refine⟨_,aF (bI (i:=2) qZ.nd rfl (Or.inl rfl) (cI Cy (cI Cy (aP G1 hr (by rfl) h1 k1 b1 .nil aX (aA eW aE)) (kT qT (by rfl) DP boot_list (aA (aT (pv 0) rfl) aE))) (aP G1 hr (by rfl) h1 k1 b1 .nil aX (aA eW aE))))
   (aF (eM ke rfl (fV (aT (pv 0) rfl)) (bH (i:=3) qZ.nd rfl (Or.inl rfl))
    (aF (cH (nQ plainAttrs_list slot_list_extend type_list_extend tW (pv 2) (aA (cI Cy (aP G1 hr (by rfl) h1 k1 b1 .nil aX (aA eW aE)) (kT qT (by rfl) DP boot_list (aA (bQ jR (pv 1) (bQ bE (pv 3) aI (λ_ _=>rfl)) (λ_ _=>rfl)) aE))) aE)))
    (aF (eM ke rfl (Jl (yC Cq (pv 3) (Fh aI) Dh)) (bH (i:=4) qZ.nd rfl (Or.inl rfl))
     (aH (cH (nQ plainAttrs_list slot_list_extend type_list_extend tW (pv 2) (aA (aP G1 hr (by rfl) h1 k1 b1 .nil aX (aA (Zr (pv 4)) aE)) aE)))))
    (aH (cH (nQ plainAttrs_list slot_list_extend type_list_extend tW (pv 2) (aA (aP G1 hr (by rfl) h1 k1 b1 .nil aX (aA eW aE)) aE)))))))
   (aH (aU (pv 2)))),?_⟩
  have bw:=fU
  have w1:Fj ("build ":Str)=[98,117,105,108,100,32]:=by decide+kernel
  have w2:Fj ("\n":Str)=[10]:=by decide+kernel
  have w3:Fj ("put ":Str)=[112,117,116,32]:=by decide+kernel
  refine⟨("build ":Str),rfl,by decide+kernel,λH1 l1 S1 f1 e1=>?_⟩
  refine⟨_,rfl,q,CB,dx,_,_,rfl,S1 _ _ hq,TB.cl,TB.n1,rfl,na,_,rfl,.inr (cM.of (S1 _ _ jv)),λl2 f2=>?_⟩
  rw[w1] at e1
  have S2:=aK.new (o:=.lst (nm.map V.int)) f2
  refine⟨l1,l2,_,_,rfl,rfl,S2 _ _ e1,aB,(by simp only[ai,bh,lh];omega),λl3 f3=>?_⟩
  have S3:=aK.new (o:=.lst (([98,117,105,108,100,32]:List Int).map V.int++nm.map V.int)) f3
  refine⟨("\n":Str),rfl,by decide+kernel,λH4 l4 S4 f4 e4=>?_⟩
  rw[w2] at e4
  refine⟨l3,l4,_,_,rfl,rfl,S4 _ _ aB,e4,(by simp only[b6,ai,bh,lh];omega),λtx ftx=>?_⟩
  have NO:aK H H4:=((S1.trans S2).trans S3).trans S4
  have SA:=NO.trans (aK.new (o:=.lst ((([98,117,105,108,100,32]:List Int).map V.int++nm.map V.int)++([10]:List Int).map V.int)) ftx)
  have eA:upd H4 tx (.lst ((([98,117,105,108,100,32]:List Int).map V.int++nm.map V.int)++([10]:List Int).map V.int)) tx=some (.lst (([98,117,105,108,100,32]++nm++[10]:List Int).map V.int)):=by rw[aB,b7,b7]
  have ftH:H tx=none:=NO.free ftx
  generalize upd H4 tx (.lst ((([98,117,105,108,100,32]:List Int).map V.int++nm.map V.int)++([10]:List Int).map V.int))=HA at SA eA
  refine⟨_,rfl,q,CB,dx,_,_,rfl,SA _ _ hq,TB.cl,TB.n2,rfl,la,rfl,⟨_,cR.of (SA _ _ d8)⟩,?_⟩
  have jl:ts.length=ys.length:=Paired.length jx
  refine wM (K:=K) (xs:=ts.map V.ref) (λi σ H'=>∃v3 v4,σ=[some (.ref q),some (.ref D),some (.ref tx),v3,v4]/\aK H H'/\H' tx=some (.lst (([98,117,105,108,100,32]++nm++[10]++(ys.take i).flatMap (Xu (aa.map (·.name))):List Int).map V.int)))
   ⟨none,none,rfl,SA,by rw[List.take_zero,J3,fh];exact eA⟩ (λi σ H' _ ⟨_,_,_,z,_⟩=>cR.of (z _ _ d8)) ?_ ?_
  ·rintro i x σ H5 ex ⟨v3,v4,rfl,S5,e5⟩
   have hi:i<ys.length:=by
    have:=(bq.mp ex).1
    rwa [ai,jl] at this
   obtain⟨y,ey⟩:∃y,ys[i]?=some y:=⟨_,ay hi⟩
   obtain⟨t,et,ht,vg⟩:=bY jx ey
   rw[a9,et] at ex
   cases ex
   have yk:=yo y (d9 ey)
   have y0:0<=iN y 0:=by
    unfold iN
    rw[b8,ay (by omega)]
    exact(yk.n _ (o3 _)).1
   obtain⟨pr,jm⟩:∃pr,aa[(iN y 0).toNat]?=some pr:=⟨_,ay yk.p⟩
   obtain⟨qn,eqn,HM⟩:=bY V0 jm
   have pl:=pn pr (d9 jm)
   have ename:(aa.map (·.name)).getD (iN y 0).toNat []=pr.name:=by
    rw[b8,a9,jm]
    rfl
   have V1:Nw (y.map V.int) 0=some (V.int (iN y 0)):=by
    have:(y.map V.int)[0]?=some (V.int (iN y 0)):=by
     unfold iN
     rw[a9,b8,ay (by omega)]
     rfl
    exact iO (j:=0) this
   have V2:Nw (qs.map V.ref) (iN y 0)=some (V.ref qn):=by
    have:=iO (xs:=qs.map V.ref) (j:=(iN y 0).toNat) (v:=V.ref qn) (by rw[a9,eqn];rfl)
    rwa [qf y0] at this
   have bT:=iY (f:=Xu (aa.map (·.name))) (c:=100) (l:=ys.take i) λy hy=>Nd (yo y (FC hy)) pn
   have bL:(ys.take i).length<=256:=by rw[fj];omega
   generalize hP:([98,117,105,108,100,32]++nm++[10]++(ys.take i).flatMap (Xu (aa.map (·.name))):List Int)=A at e5
   have bA:A.length<=30000:=by
    rw[<-hP]
    simp only[b6,bh,lh]
    omega
   refine⟨_,rfl,.inl ⟨rfl,_,cR.of e5⟩,("put ":Str),rfl,by decide+kernel,λH6 l6 S6 f6 e6=>?_⟩
   rw[w3] at e6
   have yb:=S5.trans S6
   refine⟨_,rfl,_,rfl,t,_,_,_,rfl,rfl,cM.of (yb _ _ ht),V1,D,_,_,.ref qn,rfl,rfl,cR.of (yb _ _ hD),V2,qn,_,rfl,.inr (cM.of (yb _ _ HM)),λl7 f7=>?_⟩
   have S7:=aK.new (o:=.lst (pr.name.map V.int)) f7
   refine⟨l6,l7,_,_,rfl,rfl,S7 _ _ e6,aB,(by simp only[ai,bh,lh];omega),λl8 f8=>?_⟩
   have S8:=aK.new (o:=.lst (([112,117,116,32]:List Int).map V.int++pr.name.map V.int)) f8
   have NP:=(S6.trans S7).trans S8
   refine⟨tx,l8,_,_,rfl,rfl,NP _ _ e5,aB,(by simp only[b6,ai,bh,lh];omega),?_⟩
   have S9:aK H (upd (upd (upd H6 l7 (.lst (pr.name.map V.int))) l8 (.lst (([112,117,116,32]:List Int).map V.int++pr.name.map V.int))) tx (.lst (A.map V.int++(([112,117,116,32]:List Int).map V.int++pr.name.map V.int)))):=λb o e=>by
    rw[aC (aD e ftH)]
    exact NP _ _ (S5 _ _ e)
   have e9:upd (upd (upd H6 l7 (.lst (pr.name.map V.int))) l8 (.lst (([112,117,116,32]:List Int).map V.int++pr.name.map V.int))) tx (.lst (A.map V.int++(([112,117,116,32]:List Int).map V.int++pr.name.map V.int))) tx=some (.lst ((A++([112,117,116,32]++pr.name)).map V.int)):=by rw[aB,b7,b7]
   generalize upd (upd (upd H6 l7 (.lst (pr.name.map V.int))) l8 (.lst (([112,117,116,32]:List Int).map V.int++pr.name.map V.int))) tx (.lst (A.map V.int++(([112,117,116,32]:List Int).map V.int++pr.name.map V.int)))=H9 at S9 e9
   refine⟨_,rfl,_,rfl,t,_,rfl,cM.of (S9 _ _ ht),λp FY NQ IW=>?_⟩
   rw[Tu,<-List.map_drop] at IW
   have zk:=NQ _ _ e9
   refine⟨p,rfl,⟨_,IW⟩,?_⟩
   have yd:(y.drop 1).length=5:=by rw[AF,vg]
   refine Ek (K:=K) (xs:=(y.drop 1).map V.int) (λj σ H'=>∃v4,σ=[some (.ref q),some (.ref D),some (.ref tx),some (.ref t),v4]/\aK H H'/\SX tx FY H'/\H' tx=some (.lst ((A++([112,117,116,32]++pr.name)++((y.drop 1).take j).flatMap λn=>32::nX n).map V.int)))
    ⟨_,rfl,S9.trans NQ,SX.refl _ _,by rw[List.take_zero,J3,fh];exact zk⟩ (λj σ H' _ ⟨_,_,_,z,_⟩=>z.seqTl zk IW) ?_ ?_
   ·rintro j x σ LD ex ⟨V3,rfl,IX,NR,k6⟩
    rw[a9] at ex
    cases en:(y.drop 1)[j]? with
    |none=>rw[en] at ex;cases ex
    |some n=>
     rw[en] at ex
     cases ex
     have nn:=yk.n n (FH (d9 en))
     have dl:=wE nn.2
     have sl:(Str.ofString (toString n)).length<=4:=by
      show (Str.ofString (toString n)).cps.size<=4
      rw[<-d4]
      obtain⟨k,rfl⟩:=J4 nn.1
      rw[Mo]
      exact Eg (k:=3) (by omega)
     have bF:=iY (f:=λn=>(32:Int)::nX n) (c:=5) (l:=(y.drop 1).take j) λk hk=>by
      have:=wE (yk.n k (FH (FC hk))).2
      rw[bh]
      omega
     have bK:((y.drop 1).take j).length<=5:=by rw[fj];omega
     have lg:n.natAbs.log2<1920:=by
      by_cases z:n.natAbs=0
      ·rw[z];decide
      ·exact iy ((Nat.log2_lt z).mpr (by show n.natAbs<2 ^ 14;omega)) (by decide)
     refine⟨_,rfl,.inl ⟨rfl,_,cR.of k6⟩,_,rfl,n,rfl,lg,(by show 1+_<=_;omega),_,rfl,?_,λBD IY jw V4 lw=>?_⟩
     ·rw[PySem.strLen_append]
      show 1+_<=1000
      omega
     ·rw[aDl nn.1] at lw
      refine⟨tx,IY,_,_,rfl,rfl,jw _ _ k6,lw,?_,?_⟩
      ·simp only[b6,ai,bh,lh]
       omega
      ·refine⟨_,rfl,λb o e=>?_,λb o e nb=>?_,?_⟩
       ·rw[aC (aD e ftH)]
        exact jw _ _ (IX _ _ e)
       ·rw[aC nb]
        exact jw _ _ (NR _ _ e nb)
       ·rw[aB,Aq en,<-b7]
        simp only[ma]
   ·rintro σ LD ⟨V3,rfl,IX,NR,k6⟩
    rw[ai,ji] at k6
    have bF:=iY (f:=λn=>(32:Int)::nX n) (c:=5) (l:=y.drop 1) λk hk=>by
     have:=wE (yk.n k (FH hk)).2
     rw[bh]
     omega
    refine⟨_,rfl,.inl ⟨rfl,_,cR.of k6⟩,("\n":Str),rfl,by decide+kernel,λBD IY jw V4 lw=>?_⟩
    rw[w2] at lw
    refine⟨tx,IY,_,_,rfl,rfl,jw _ _ k6,lw,?_,?_⟩
    ·simp only[b6,ai,bh,lh]
     omega
    ·refine⟨_,_,rfl,λb o e=>?_,?_⟩
     ·rw[aC (aD e ftH)]
      exact jw _ _ (IX _ _ e)
     ·have eL:Xu (aa.map (·.name)) y=([112,117,116,32]++pr.name)++(y.drop 1).flatMap (λn=>32::nX n)++[10]:=by
       unfold Xu
       rw[ename]
      rw[aB,Aq ey,<-b7,<-hP,eL]
      simp only[ma]
  ·rintro σ H5 ⟨v3,v4,rfl,S5,e5⟩
   rw[ai,jl,ji] at e5
   refine⟨_,rfl,k H5 tx S5 ftH e5 ?_⟩
   have:=iY (f:=Xu (aa.map (·.name))) (c:=100) (l:=ys) λy hy=>Nd (yo y hy) pn
   unfold Fr
   simp only[b6,bh,lh]
   omega
def aFr(aa:List aM)(nm:List Int)(ys:List (List Int)):List Int:=((Fr (aa.map (·.name)) nm ys).length:Int)::Fr (aa.map (·.name)) nm ys
def Cn(K:Frag)(CG CP CB:Addr):Sp:=λvs H Q _=>∃(g la pa q dx rj na IZ:Addr)(rv:V)(rf ft:Int)(bs:List Addr)(aa:List aM)(nm:List Int) (ys:List (List Int)),vs=[.ref g,.ref la]/\H g=some (.ins CG dx (Fk rf ft pa (.ref q) rv))/\H q=some (.ins CB rj (BdF na IZ))/\H na=some (.tup (nm.map V.int))/\
 H pa=some (.lst (bs.map V.ref))/\dS CP H bs aa/\aa.length<=64/\xP H la ys/\(∀y∈ys,YOk aa y)/\(∀pr∈aa,pr.name.length<=8)/\nm.length<=16/\ys.length<=256/\∀(H':Hp)(l:Addr),H' l=some (.lst ((aFr aa nm ys).map V.int))->Q (.ref l) H'
theorem Ic:aN ["given","lines","text"] ["given","lines"] (aG jG):=⟨rfl,rfl,rfl,by decide+kernel,rfl,by decide+kernel,by decide+kernel⟩
theorem Xb(F:fH K "with_lines" "with_lines" jG f fd)(T:GvT K CG)(TB:BdT K CB)(BM:BdM P w K mg base CB)(bi:mg "len"=none)(L1:dL P w K mg base "names_of" bU 1 ["parts"] (pK K CP))(L2:dL P w K mg base "build_text" bU 3 ["build","names"] (Ep K CB)):bV P w K mg base bU 4 f fd ["given","lines"] (Cn K CG CP CB):=by
 obtain⟨g1,gr,G1,b1,k1,h1⟩:=L1.ex
 obtain⟨g2,lr,G2,b2,k2,h2⟩:=L2.ex
 obtain⟨fB,fdB,MB,GB,bB⟩:=BM.ex
 refine F.ok Ic (λvs H Q E h=>?_) (λak A outer s H vs Q E hr h=>?_)
 ·obtain⟨g,la,pa,q,dx,rj,na,IZ,rv,rf,ft,bs,aa,nm,ys,rfl,_⟩:=h
  rfl
 ·obtain⟨g,la,pa,q,dx,rj,na,IZ,rv,rf,ft,bs,aa,nm,ys,rfl,hg,hq,jv,df,cy,EA,jx,yo,pn,nl,yl,k⟩:=h
  have bn:=hr.mono (j:=1) (by decide)
  have ba:=hr.mono (j:=2) (by decide)
  refine⟨_,aF (bI (i:=2) Ic.nd rfl (Or.inl rfl) (aP G2 hr (by rfl) h2 k2 b2 .nil aX (aA (oV MB GB ba (by rfl) BM.mg bB .nil aX (aA (aT (aT (pv 0) rfl) rfl) (aA (pv 1) aE))) (aA (aP G1 bn (by rfl) h1 k1 b1 .nil aX (aA (aT (pv 0) rfl) aE)) aE))))
   (aH (aU (cI Cy (eN (aA (bS bW (by rfl) bi boot_len (aA (pv 2) aE)) aE)) (pv 2)))),?_⟩
  have bw:=fU
  refine⟨_,rfl,g,CG,dx,_,_,rfl,hg,T.cl,T.n4,rfl,q,CB,rj,_,_,rfl,hq,TB.cl,TB.n1,rfl,_,rfl,λx db fx fd fne=>⟨x,db,na,la,rfl,aB,λH1 e1 s1=>⟨rfl,?_⟩⟩⟩
  have S1:aK H H1:=λy o e=>s1 y o (by rw[aC (aD e fx),aC (aD e fd)];exact e) (aD e fx)
  refine⟨_,rfl,g,CG,dx,_,_,rfl,S1 _ _ hg,T.cl,T.n3,rfl,pa,bs,aa,rfl,cR.of (S1 _ _ df),?_,EA,λH2 D S2 fD hD=>?_⟩
  ·exact Paired.mapP cy λ_ _ z=>⟨z.1.same S1,z.2⟩
  ·obtain⟨ts,t1,t2⟩:=jx.same (S1.trans S2)
   refine⟨x,D,aa,nm,ys,rfl,⟨db,na,la,ts,S2 _ _ e1,(S1.trans S2) _ _ jv,t1,t2⟩,hD,yo,pn,nl,yl,λH3 l S3 fl el bl=>?_⟩
   refine⟨_,rfl,l,_,rfl,.inl (cR.of el),by show 1<=sizeLine;omega,λl4 f4=>?_⟩
   refine⟨_,rfl,l4,l,_,_,rfl,rfl,aB,(aK.new f4) _ _ el,(by rw[ai];show 1+_<=_;omega),λl5 f5=>k _ l5 ?_⟩
   rw[aB,ai]
   rfl
def Ej(lc lb:List Int):List Int:=tL (λaa nm ls=>aFr aa nm (lL aa (ls.map xL))) lc lb
theorem Ao{z:List Int}(hz:z∈lL aa ys):∃y∈gJ ys,z=Kj aa y:=by
 obtain⟨y,hy,e⟩:=a8.mp ((kR _).mem_iff.mp hz)
 exact⟨y,hy,e.symm⟩
theorem Lm(hc:Si lc)(hb:Si lb):PyWqasbx.plain lc lb=Ej lc lb:=by
 show BuildsNeutral.shown (BrB.answer (.plain (Jw lc) (Jw lb)))=_
 unfold BrB.answer Ej
 refine Lx hc hb λaa nm ls d R=>?_
 have hd:d.lines=(ls.map xL).map λy=>fR (rS y):=by rw[yG];exact R.dl
 have inr:=Gg R.ok R.ln R.tr R.fr
 have hm:=sX R.ok (tJ R.cw) inr hd
 have pm:=uA R.ok (tJ R.cw) inr hd
 rw[Jt]
 have e3:aW (Br.Build.text (aa.map cA) (d.plain (aa.map cA)))=Fr (aa.map (·.name)) nm (lL aa (ls.map xL)):=by
  refine Kn R.ok (λz hz=>?_) pm R.dn
  obtain⟨y,hy,rfl⟩:=Ao hz
  have:=Ss (hm.1 y hy)
  exact⟨this.1.l,this.2.1⟩
 rw[e3]
 rfl
theorem Xw(ok:∀pr∈aa,dI pr)(EA:aa.length<=64)(hi:∀y∈gJ ys,Xy aa y)(hc:∀y∈gJ ys,Hn y):∀z∈lL aa ys,YOk aa z:=λz hz=>by
 obtain⟨y,hy,rfl⟩:=Ao hz
 obtain⟨h1,h2,h3⟩:=Ss (hi y hy)
 have yo:=aEw ok EA (hi y hy) (hc y hy)
 refine⟨h1.l,λk hk=>?_,h2⟩
 rcases h3 k hk with q|q
 ·exact yo.n k q
 ·omega
def wL(K:Frag):Sp:=λvs H Q _=>∃(c b:Addr)(lc lb:List Int),vs=[.ref c,.ref b]/\Si lc/\Si lb/\cR K H c (lc.map V.int)/\cR K H b (lb.map V.int)/\∀(H':Hp)(l:Addr),H' l=some (.lst ((Ej lc lb).map V.int))->Q (.ref l) H'
theorem Bi:aN ["c","b","given"] ["c","b"] (aG iP):=⟨rfl,rfl,rfl,by decide+kernel,rfl,by decide+kernel,by decide+kernel⟩
theorem Pr(F:fH K "plain" "plain" iP f fd)(T:GvT K CG)(TB:BdT K CB)(L1:dL P w K mg base "read_right" bU 10 ["c","b"] (wW K CG CP CB CM))(L2:dL P w K mg base "plain_lines" bU 6 ["parts","lines"] (xG K CP))(L4:dL P w K mg base "with_lines" bU 4 ["given","lines"] (Cn K CG CP CB)):bV P w K mg base bU 11 f fd ["c","b"] (wL K):=by
 obtain⟨g1,gr,G1,b1,k1,h1⟩:=L1.ex
 obtain⟨g2,lr,G2,b2,k2,h2⟩:=L2.ex
 obtain⟨g4,HC,G4,b4,k4,h4⟩:=L4.ex
 refine F.ok Bi (λvs H Q E h=>?_) (λak A outer s H vs Q E hr h=>?_)
 ·obtain⟨c,b,lc,lb,rfl,_⟩:=h
  rfl
 ·obtain⟨c,b,lc,lb,rfl,bc,bb,hc,hb,k⟩:=h
  have jd:=hr.mono (j:=4) (by decide)
  have IJ:=hr.mono (j:=6) (by decide)
  refine⟨_,aF (bI (i:=2) Bi.nd rfl (Or.inl rfl) (aP G1 hr (by rfl) h1 k1 b1 .nil aX (aA (pv 0) (aA (pv 1) aE))))
   (aF (eK (eB (Mm (aT (pv 2) rfl) aI)) (aH (aU (eN (aA (aT (pv 2) rfl) aE)))) cD)
   (aH (aU (aP G4 jd (by rfl) h4 k4 b4 .nil aX (aA (pv 2) (aA (aP G2 IJ (by rfl) h2 k2 b2 .nil aX (aA (aT (pv 2) rfl) (aA (aT (aT (pv 2) rfl) rfl) aE))) aE)))))),?_⟩
  unfold Ej at k
  refine⟨_,rfl,_,rfl,c,b,lc,lb,rfl,hc,hb,λH1 g S1 BZ hg=>?_⟩
  obtain⟨dxg,pa,bv,rv,rf,ft,hg,alt⟩:=Yk hg
  refine⟨_,rfl,g,CG,dxg,_,_,rfl,hg,T.cl,T.n1,rfl,_,_,rfl,rfl,_,rfl,cE (λe=>?_) (λe=>?_)⟩
  ·have e:rf<0:=d7 e
   rcases alt with ⟨_,hR⟩|⟨h0,_⟩
   ·rw[hR] at k
    exact⟨_,rfl,g,CG,dxg,_,_,rfl,hg,T.cl,T.n1,rfl,by show 1<=sizeLine;decide,λl hl=>k _ l aB⟩
   ·omega
  ·have e:¬rf<0:=λz=>e (c9 z)
   rcases alt with ⟨am,_⟩|⟨h0,aa,nm,ls,q,m,bs,eg,hR,fr,rfl,rfl,df,cy,BL,MZ,pf⟩
   ·exact absurd am e
   ·rw[hR] at k
    obtain⟨ok,cw⟩:=aDh bc bb eg
    have g6:=Fc eg
    have g5:=zC eg
    have gc:=Zl eg
    obtain⟨rj,na,la,ts,hq,jv,d8,xt,NS,V5⟩:=BL
    have hY:=aFw d8 xt
    have inr:=Gg ok g6 g5 fr
    have hd:(aG8 ls).lines=(ls.map xL).map λy=>fR (rS y):=by rw[yG];rfl
    have hm:=sX ok (tJ cw) inr hd
    have co:∀y∈gJ (ls.map xL),Hn y:=Yh λy hy=>by
     obtain⟨x,hx,rfl⟩:=a8.mp hy
     obtain⟨h6,_⟩:=g6 x hx
     have c1:=gc x hx
     obtain⟨a,b,c,d,e,f,rfl⟩:=six h6
     have c1:b<=255:=c1
     show (b:Int)<=255
     omega
    refine⟨_,rfl,_,rfl,g,CG,dxg,_,_,rfl,hg,T.cl,T.n3,rfl,_,rfl,g,CG,dxg,_,_,rfl,hg,T.cl,T.n4,rfl,q,CB,rj,_,_,rfl,hq,TB.cl,TB.n2,rfl,pa,la,bs,aa,ls.map xL,rfl,df,cy,ok,hY,by rw[ai];exact NS,λy hy=>⟨(inr y hy).six0.1,(inr y hy).p⟩,λH2 l2 zs S2 V6 fv=>?_⟩
    obtain rfl:=Uc (λy hy=>(hm.1 y hy).l) fv
    have zl:(lL aa (ls.map xL)).length<=256:=by
     unfold lL
     rw[(kR _).length_eq,ai,Ot,ai]
     exact NS
    exact⟨g,l2,pa,q,dxg,rj,na,la,_,_,_,bs,aa,nm,lL aa (ls.map xL),rfl,S2 _ _ hg,S2 _ _ hq,S2 _ _ jv,S2 _ _ df,Paired.mapP cy (λ_ _ z=>⟨z.1.same S2,z.2⟩),pf,V6,
     Xw ok pf hm.1 co,Sz cy,V5,zl,k⟩
theorem Rx{fa:Addr}(X:K.In h)(G:h.Ns mainGlobals mg)(V7:mg "plain"=some (.ref fa))(k:∀f∈ftC,f.PP K)(k2:∀f∈ftR,f.PP K)(nl:nsIn K mainGlobals "len"=some none)(nm:nsIn K mainGlobals "min"=some none)(nt:nsIn K mainGlobals "list"=some none)(no:nsIn K mainGlobals "ord"=some none)(z7:nsIn K mainGlobals "sorted"=some none)(nse:nsIn K mainGlobals "set"=some none)
  (ks:hJ K "spelled" "spelled" lG) (kb:hJ K "build_text" "build_text" jL) (kw:hJ K "with_lines" "with_lines" jG) (km:hJ K "moved_lines" "moved_lines" oU) (kh:hJ K "moved_home" "moved_home" kI) (ka:hJ K "turns_until_alike" "turns_until_alike" zE) (ko:hJ K "plain_order" "plain_order" sK) (kp:hJ K "plain_lines" "plain_lines" mC) (kj:hJ K "plain" "plain" iP):
  ∃fd:FuncData,(∀(s:Shared)(us:List Value),us.length=(["c","b"]:List Str).length->BindsTo s fd ⟨us,[]⟩ ((["c","b"]:List Str).zip us))/\∀base:Heap,K.In base->base.Ns mainGlobals mg->bV P w K mg base bU 11 fa fd ["c","b"] (wL K):=by
 obtain⟨f,oc,od,kV,br,pm,an,ak,ct,de,a,l,c,kq⟩:=kj
 have e:=V7.symm.trans (mg_of X G a)
 cases e
 have F:=uB (st:=iP) l c kq
 refine⟨fnOf "plain" "plain" (eU iP) (dZ iP) (aG iP) .none kV br pm an ak ct,λs us hu=>(by obtain⟨a,b,rfl⟩:=_root_.L2.vG hu;exact .of_eq rfl),λbase X2 G2=>?_⟩
 have L:=aGs (P:=P) (w:=w) (base:=base) X G k
 have R:=aFk X G L k2
 have nn:∀{x:Str},nsIn K mainGlobals x=some none->mg x=none:=λz=>mg_none_of X G z
 have M1:dL P w K mg base "spelled" bU 2 ["word"] tZ:=hJ.fn0 ks X G (λf fd F=>Lf F (nn no)) λ_ _ _ _ _ _ us hl=>(by obtain⟨a,rfl⟩:=_root_.L2.sP hl;rfl)
 have M2:dL P w K mg base "build_text" bU 3 ["build","names"] (Ep K (dW K "Build")):=hJ.fn0 kb X G (λf fd F=>Ub F L.TB (nn nt) M1) λ_ _ _ _ _ _ us hl=>(by obtain⟨a,b,rfl⟩:=_root_.L2.vG hl;rfl)
 have M3:dL P w K mg base "with_lines" bU 4 ["given","lines"] (Cn K (dW K "Given") (dW K "Part") (dW K "Build")):=hJ.fn0 kw X G (λf fd F=>Xb F L.TG L.TB L.BM (nn nl) L.names M2) λ_ _ _ _ _ _ us hl=>(by obtain⟨a,b,rfl⟩:=_root_.L2.vG hl;rfl)
 have M4:dL P w K mg base "moved_lines" bU 1 ["lines","dx","dy","dz"] (yO K):=hJ.fn0 km X G (λf fd F=>Pn F) λ_ _ _ _ _ _ us hl=>(by obtain⟨a,b,c,d,rfl⟩:=_root_.L2.us4 hl;rfl)
 have M5:dL P w K mg base "moved_home" bU 2 ["lines"] (Li K):=hJ.fn0 kh X G (λf fd F=>aAk F (nn nl) (nn nm) M4) λ_ _ _ _ _ _ us hl=>(by obtain⟨a,rfl⟩:=_root_.L2.sP hl;rfl)
 have M6:dL P w K mg base "turns_until_alike" bU 5 ["part"] (Ec (dW K "Part")):=hJ.fn0 ka X G (λf fd F=>Vj F L.TP R.tpt) λ_ _ _ _ _ _ us hl=>(by obtain⟨a,rfl⟩:=_root_.L2.sP hl;rfl)
 have M7:dL P w K mg base "plain_order" bU 1 ["put"] (Tl K):=hJ.fn0 ko X G (λf fd F=>aCl F) λ_ _ _ _ _ _ us hl=>(by obtain⟨a,rfl⟩:=_root_.L2.sP hl;rfl)
 have M8:dL P w K mg base "plain_lines" bU 6 ["parts","lines"] (xG K (dW K "Part")):=hJ.fn0 kp X G (λf fd F=>Qi F (nn z7) (nn nse) M6 M5 M7) λ_ _ _ _ _ _ us hl=>(by obtain⟨a,b,rfl⟩:=_root_.L2.vG hl;rfl)
 exact Pr F L.TG L.TB R.right M8 M3
end Br1
namespace Br1
open PySem PySem.W
end Br1
namespace Br1
open PySem PySem.Spec PyProof.Rows L2
def hkC:Hook:=aCh asC ftZ
theorem Vz(h:l.all (PySem.W.Codec.inInt 0 255)=true):Si l:=λx hx=>PySem.W.Codec.inInt_iff.mp (j8.mp h x hx)
end Br1
open PySem PySem.W PyProof.Rows
set_option maxHeartbeats 0 in
theorem PySem.Challenge.cw_brickrooms_s10_plain_holds : PySem.Challenge.rw_brickrooms_s10_plain.Holds := by
 refine holds_os (q:=Br1.vwC) (loose:=Br1.Sq) (Xt:=λ_=>true) (XP:=λ_ _=>True) (Yf:=Br1.hkC.obs) (Ya:=Br1.hkC.val) (YP:=Br1.hkC.says) (N:=6378) Br1.aFl Br1.hkC.of Br1.hkC.keeps (λ_ _=>trivial) (λ_ _ _ _ _=>trivial) (by rfl) (by rfl) (by rfl) (λs _=>recFacts_of (s:=s) (by rfl)) os_shapes (by decide+kernel) (by decide+kernel) ⟨rfl,rfl,rfl,rfl,rfl,by decide+kernel⟩ ⟨[.list [],.list []],by decide+kernel,by decide+kernel⟩ ?_
 refine L2.Lg (r:=PySem.Challenge.rw_brickrooms_s10_plain) (k:=11) (CX:=L2.bU) (ps:=["c","b"]) (sp:=Br1.wL) (Good:=λK=>∀f∈Br1.ftZ,f.PP K) (by decide+kernel) rfl rfl ⟨rfl,by decide,by decide⟩ (λw h Y=>Y) ?F ?S (λ_ _ _ _ z=>z)
 case F=>
  intro w K mg fa h g KX G HR
  have k0:∀f∈Br1.ftC,f.PP K:=λf hf=>g f (lx _ hf)
  have g0:=λ(f:Br1.Ft)(hf:f∈_)=>g f (gi _ hf)
  have k1:∀f∈Br1.ftR,f.PP K:=λf hf=>g0 f (lx _ hf)
  have g1:=λ(f:Br1.Ft)(hf:f∈_)=>g0 f (gi _ hf)
  exact Br1.Rx KX G HR k0 k1 (Br1.Ft.nth g1 0 (f:=.no "len") rfl) (Br1.Ft.nth g1 1 (f:=.no "min") rfl) (Br1.Ft.nth g1 2 (f:=.no "list") rfl) (Br1.Ft.nth g1 3 (f:=.no "ord") rfl) (Br1.Ft.nth g1 4 (f:=.no "sorted") rfl) (Br1.Ft.nth g1 5 (f:=.no "set") rfl) (Br1.Ft.nth g1 6 (f:=.fn "spelled" Br1.lG) rfl) (Br1.Ft.nth g1 7 (f:=.fn "build_text" Br1.jL) rfl) (Br1.Ft.nth g1 8 (f:=.fn "with_lines" Br1.jG) rfl) (Br1.Ft.nth g1 9 (f:=.fn "moved_lines" Br1.oU) rfl) (Br1.Ft.nth g1 10 (f:=.fn "moved_home" Br1.kI) rfl) (Br1.Ft.nth g1 11 (f:=.fn "turns_until_alike" Br1.zE) rfl) (Br1.Ft.nth g1 12 (f:=.fn "plain_order" Br1.sK) rfl) (Br1.Ft.nth g1 13 (f:=.fn "plain_lines" Br1.mC) rfl) (Br1.Ft.nth g1 14 (f:=.fn "plain" Br1.iP) rfl)
 case S=>
  intro K H xs a hO u6 XG hx
  cases hx with
  |cons hc rc=>
   cases rc with
   |cons hb rb=>
    cases rb
    cases hc with
    |lst j4 V8=>
     cases hb with
     |lst lm V9=>
      have e1:=L2.Cv a.1 _ V8
      subst e1
      have e2:=L2.Cv a.2.1 _ V9
      subst e2
      have q:((Codec.inLen 0 100000 a.1 && a.1.all (Codec.inInt 0 255)) && ((Codec.inLen 0 17000 a.2.1 && a.2.1.all (Codec.inInt 0 255)) && true))=true:=u6
      simp only[cq] at q
      have bc:=Br1.Vz q.1.2
      have bb:=Br1.Vz q.2.1.2
      refine⟨_,_,a.1,a.2.1,rfl,bc,bb,j4,lm,λH' p hp=>?_⟩
      have m:=Br1.Lm bc bb
      show L2.Dw K H' (.ref p) (.list ((PyWqasbx.plain a.1 a.2.1).map WData.int))
      rw[m]
      exact .lst (L2.cR.of hp) (L2.Pb _)
end
