import PyProof.Rows.All
import Wide.All
import OpenK.AllK
import Wide.FinOn
import PyProof.EqAt
import PyProof.EqKinds
import PyProof.TupleCall
import KE.BitLaws
import Open.SpecLaws
import KE.OsHead
import KE.OsGo
import KE.KDictList
import PyProof.Rows.SetFrom
import PyProof.SetRoads
import PyProof.Rows.CallKwBuiltin
import Open.Line
import Open.Tree
import Open.Boot
import PySem.Challenge.RW_brickrooms_s04_sizes
set_option Elab.async false
set_option linter.all false
set_option maxRecDepth 1000000
set_option maxHeartbeats 8000000
def aa:=@if_neg
def ac:=@if_pos
def af:=@PySem.wpAny_pure
def ah:=@List.length_map
def ao:=@Ne.symm
def ap:=@Nat.le_refl
def aw:=@List.mem_cons
def az:=@List.mem_cons_of_mem
def a6:=@List.mem_map
def a9:=@PySem.Heap.lt_size
def ba:=@List.getElem?_eq_getElem
def bf:=@List.getElem?_map
def bg:=@List.mem_cons_self
def bh:=@List.getElem?_eq_some_iff
def bn:=@List.length_cons
def br:=@PySem.Heap.get?_push_of_some
def bu:=@decide_eq_true_iff
def bz:=@List.map_cons
def b5:=@List.mem_singleton
def b6:=@List.length_append
def ca:=@List.mem_filter
def cb:=@Bool.false_ne_true
def cf:=@PySem.Heap.get?_push_size
def cg:=@Bool.and_eq_true
def ck:=@Bool.not_eq_true'
def cn:=@decide_eq_true
def cp:=@List.map_append
def cy:=@List.getD_eq_getElem?_getD
def cz:=@beq_iff_eq
def c9:=@List.mem_append
def da:=@Nat.zero_le
def de:=@List.size_toArray
def df:=@Nat.ne_of_lt
def dg:=@List.mem_of_getElem?
def dk:=@Prod.ext
def dq:=@of_decide_eq_true
def d4:=@List.map_map
def d6:=@Nat.le_trans
def fk:=@List.mem_append_right
def f7:=@Bool.eq_iff_iff
def f8:=@List.append_nil
def f9:=@List.not_mem_nil
def gm:=@Nat.lt_of_lt_of_le
def gn:=@PySem.wpAny_newObj_type
def gq:=@Option.isSome_map
def gz:=@Bool.true_and
def ij:=@List.length_take
def ik:=@List.take_length
def iy:=@PySem.wpAny_mono
def iz:=@PySem.wpAny_field
def i3:=@List.take_succ
def i4:=@PySem.PassesOwn.never
def i8:=@Nat.lt_irrefl
def i9:=@List.mem_append_left
def ja:=@PySem.Heap.size_push
def jb:=@List.nodup_cons
def jc:=@if_false
def jl:=@Nat.lt_succ_self
def jm:=@Int.toNat_natCast
def jx:=@decide_eq_false
def jy:=@PySem.wpAny_call_entry
def jz:=@Nat.add_comm
def j0:=@decide_eq_false_iff_not
def j8:=@PySem.wpAny_holding
def j9:=@Bool.false_and
def ka:=@Nat.succ_mul
def kb:=@Nat.mul_comm
def kd:=@Nat.zero_add
def lf:=@Option.isSome_iff_exists
def lg:=@PySem.Heap.get?_update_other
def lh:=@List.any_eq_true
def lj:=@List.mem_iff_getElem?
def l9:=@Array.length_toList
def md:=@PySem.wpAny_callSpecial?_slot
def mf:=@List.length_singleton
def mh:=@List.all_eq_true
def mi:=@List.Pairwise.map
def mj:=@List.sum_cons
def ot:=@if_true
def ou:=@PySem.Heap.get?_update_self
def ox:=@List.append_assoc
def oy:=@List.find?_cons
def oz:=@PySem.wpAny_dictEntries
def o1:=@PySem.wpAny_setField
def o3:=@PySem.Obj.data_mapFields
def o4:=@List.mem_map_of_mem
def o5:=@Bool.not_eq_true
def qi:=@Option.map_eq_some_iff
def qj:=@List.all_cons
def qk:=@List.getElem?_eq_none
def qm:=@Bool.or_eq_true
def qo:=@PySem.wpAny_dictEpoch
def qr:=@Array.getElem?_eq_some_iff
def qt:=@List.filter_cons_of_neg
def qu:=@List.contains_iff_mem
def qv:=@PySem.F.plain_max_loop
def sw:=@List.getElem?_set_self
def tj:=@Nat.ne_of_gt
def tm:=@List.mem_filterMap
def tq:=@PySem.sizeLine_eq
def tu:=@List.any_cons
def tw:=@List.lookup_cons
def t7:=@Bool.false_eq_true
def t8:=@PySem.wpAny_loadPart_at
def t9:=@List.filter_cons_of_pos
def ua:=@List.eq_nil_of_length_eq_zero
def vg:=@beq_eq_false_iff_ne
def vi:=@List.getElem?_set_ne
def vj:=@PySem.wpAny_execs_nil
def vk:=@Nat.le_of_eq
def vm:=@List.replicate_succ
def vn:=@List.flatten_cons
def vo:=@List.nodup_nil
def vp:=@PySem.Heap.SameBut.update
def vq:=@Nat.add_mul_mod_self_right
def vt:=@Nat.mod_eq_of_lt
def vw:=@Nat.add_mul_div_right
def vx:=@Nat.div_eq_of_lt
def vy:=@List.getElem?_range
def vz:=@List.mem_flatMap
def xl:=@PySem.wpAny_standAt
def xm:=@PyProof.Rows.callWith_type1
def xo:=@PySem.codeAny_mono
def xp:=@PyProof.Rows.slot_tuple_getitem
def xq:=@List.map_nil
def xr:=@List.length_set
def xt:=@List.length_nil
def xu:=@PySem.F.slot_dict_keyiterator_next
def xw:=@PySem.wpAny_attempt
def xx:=@PySem.wpAny_fieldsOf
def xy:=@PySem.Obj.isFreed_of_fields
def xz:=@Classical.not_not
def x0:=@Bool.not_eq_false
def ya:=@Nat.mul_le_mul_right
def yb:=@PySem.wpAny_letGo
def yc:=@PySem.wpAny_loadPart'
def yd:=@PySem.wpAny_seqItems
def ye:=@Bool.and_false
def yf:=@Nat.mod_lt
def z0:=@List.mem_range
def z5:=@PySem.Calls.spliced_cons
def z6:=@PySem.wpAny_call
def z7:=@List.of_mem_zip
def z8:=@List.getElem?_replicate
def z9:=@PySem.call_meets
def AA:=@List.take_of_length_le
def AB:=@List.any_map
def AC:=@PySem.tupleKind_room_in1
def AD:=@PySem.wpAny_of_eq
def AE:=@PySem.wpAny_typeLookup_exc
def AF:=@Nat.sub_self
def AG:=@PySem.F.slot_dict_itemiterator_next
def AH:=@Nat.not_lt_zero
def AI:=@List.length_eq_zero_iff
def AJ:=@List.length_filter_le
def AK:=@List.length_range
def AL:=@List.nodup_append
def AM:=@List.map_congr_left
def AN:=@Option.any_eq_true
def AO:=@PySem.wpAny_tryCatch
def AQ:=@PySem.plainId_quiet
def AR:=@PySem.F.slot_dict_valueiterator_next
def B9:=@Nat.le_of_lt
def B':=@List.filterMap_cons
def CA:=@Bool.beq_eq_decide_eq
def CC:=@PySem.wpAny_pyIter_tuple
def CD:=@PySem.Calls.spliced_nil
def CF:=@List.getElem?_append_right
def CH:=@List.all_map
def CJ:=@PySem.pushCells_keeps
def CK:=@Nat.le_of_succ_le
def CN:=@Nat.lt_succ_of_lt
def CO:=@Nat.lt_trans
def CQ:=@Array.getElem?_eq_none
def CU:=@PySem.wpAny_pyIter_slot
def CV:=@PySem.wpAny_typeNameOfWhole_keyiter
def CW:=@PySem.wpAny_typeNameOf_keyiter
def CY:=@PySem.wpAny_handled
def CZ:=@PySem.wpAny_throw
def C0:=@PySem.size_of_entries
def C1:=@PySem.wpAny_pyIter_enum
def C2:=@PySem.F.excBase_Exception
def C3:=@List.drop_eq_getElem_cons
def C4:=@Nat.div_add_mod
def C5:=@Nat.mul_le_mul
def C6:=@Nat.sub_zero
def C7:=@PySem.wpAny_typeNameOfWhole_itemiter
def C8:=@PySem.wpAny_typeNameOf_itemiter
def C9:=@PySem.F.slot_dict_items
def DA:=@Nat.add_zero
def DB:=@PySem.F.slot_tuple_iterator_next
def DC:=@Nat.mul_assoc
def DD:=@List.flatMap_append
def DE:=@Nat.mul_pos
def DF:=@List.getElem?_zip_eq_some
def DG:=@List.partition_eq_filter_filter
def DI:=@List.getElem_mem
def DJ:=@List.flatMap_cons
def DK:=@PySem.codeAny_builtin
def DL:=@PySem.F.entry_max_loop
def DM:=@PySem.Around.under_plainId
def DN:=@PySem.wpAny_typeNameOfWhole_valiter
def DO:=@PySem.wpAny_typeNameOf_valiter
def GN:=@Nat.le_succ
def GO:=@List.getElem?_append_left
def GQ:=@List.length_replicate
def GS:=@PyProof.Rows.callWith_builtin1
def GU:=@PySem.SeqAt.EqAt.int_int
def GV:=@PySem.concat_meets
def GW:=@PySem.noFill_tuple_add
def GY:=@PySem.seq_tuple_add
def GZ:=@PySem.wpAny_typeOf
def G0:=@PySem.Calls.callWith_builtin
def G5:=@Array.getElem?_toList
def G6:=@List.length_dropLast
def G7:=@PySem.nums_intItems
def G8:=@List.forIn_nil
def G9:=@PySem.call_meetsIn
def G':=@PySem.wpAny_notOrdered_dict
def HA:=@PySem.Obj.cls_mapFields
def HB:=@PySem.wpAny_isInstance
def HC:=@PySem.isSubtype_stop
def HD:=@List.getElem?_cons_zero
def HE:=@PySem.codeAny_call_builtin
def HF:=@PySem.wpAny_isOneOf_itemiter
def HG:=@PySem.F.plainAttrs_dict
def HH:=@PySem.method_meetsIn
def HI:=@List.zip_cons_cons
def HJ:=@Option.map_some
def HK:=@decide_false
def HL:=@Bool.eq_false_iff
def HM:=@Nat.lt_of_succ_lt
def HN:=@UInt8.toNat_lt
def HP:=@Int.le_refl
def HQ:=@List.flatMap_singleton
def HR:=@Nat.div_div_eq_div_mul
def HU:=@List.Sublist.map
def HV:=@List.filter_sublist
def HW:=@List.nodup_range
def HX:=@List.length_pos_iff
def HY:=@List.filterMap_append
def HZ:=@List.count_eq_zero
def Io:=@List.length_flatMap
def IA:=@List.length_filterMap_le
def IB:=@PySem.wpAny_updateSeq
def IC:=@PySem.wpAny_isOneOf_valiter
def LJ:=@Array.append_assoc
def LK:=@PySem.Calls.Name_function_global
def LL:=@Array.find?_toList
def LM:=@PySem.codeAny_call_function
def LN:=@PySem.wpAny_newFunctionEnv_cells
def LO:=@List.length_drop
def LP:=@List.foldl_cons
def LQ:=@List.range_succ_eq_map
def LR:=@List.forIn_cons
def LS:=@Option.isSome_some
def LU:=@decide_eq_true_eq
def LV:=@PySem.F.entry_dict_keyiterator_next
def LW:=@PySem.F.args_dict_keyiterator_next_1
def LX:=@Array.getElem?_eq_getElem
def LY:=@PySem.wpAny_isOneOf_keyiter
def LZ:=@List.getElem?_cons_succ
def L0:=@PySem.F.slot_dict_keyiterator_iter
def L':=@Nat.succ_ne_self
def MA:=@Nat.le_add_right
def MC:=@Bool.and_eq_true_iff
def MD:=@beq_self_eq_true
def ME:=@PySem.codeAny_handlers_test
def MF:=@PySem.wpAny_excMatches_sub_self
def MH:=@eq_false_of_ne_true
def MI:=@List.find?_eq_none
def MJ:=@PySem.F.slot_dict_items_iter
def MK:=@PySem.F.entry_dict_itemiterator_next
def ML:=@PySem.F.args_dict_itemiterator_next_1
def MN:=@PySem.F.entry_tuple_iterator_next
def MO:=@PySem.F.args_tuple_iterator_next_1
def MQ:=@decide_eq_decide
def MS:=@List.find?_isSome
def MT:=@List.foldl_append
def MU:=@List.mem_of_mem_take
def MV:=@List.findIdx_lt_length_of_exists
def MW:=@UInt8.ofNat_toNat
def MX:=@UInt8.toNat_ofNat'
def MY:=@List.range_succ
def MZ:=@List.ext_getElem?
def M0:=@Nat.div_lt_of_lt_mul
def M':=@List.length_pos_of_mem
def NA:=@List.dropLast_concat
def NB:=@List.map_fst_zip
def NC:=@List.getElem_map
def ND:=@exists_eq_left'
def NE:=@Option.mem_toList
def NF:=@Bool.or_eq_false_iff
def NG:=@List.filter_congr
def NH:=@Nat.le_antisymm
def NI:=@List.pairwise_cons
def NJ:=@List.count_cons
def NK:=@List.count_append
def NL:=@List.sum_eq_zero_iff_forall_eq_nat
def NM:=@List.count_pos_iff
def NN:=@List.flatMap_map
def NO:=@Int.toNat_of_nonneg
def NP:=@List.dropLast_concat_getLast
def NQ:=@List.map_eq_nil_iff
def NR:=@PySem.F.slot_dict_values_iter
def NS:=@PySem.F.entry_dict_valueiterator_next
def NT:=@PySem.F.args_dict_valueiterator_next_1
namespace L2
open PySem PySem.Spec PyProof.Rows
def eP(s:Stmt)(j:Nat):Stmt:=match s with
 |.ClassDef _ _ _ body _ _ _ _ _ _ _=>body.getD j (.Pass ⟨0,0,0,0⟩)
 |_=>.Pass ⟨0,0,0,0⟩
def eO(s:Stmt):Arguments:=match s with
 |.FunctionDef _ a _ _ _ _ _ _ _ _=>a
 |_=>{posonlyargs:=[],args:=[],vararg:=none,kwonlyargs:=[],kw_defaults:=[],kwarg:=none,defaults:=[]}
def dQ(s:Stmt):List Stmt:=match s with
 |.FunctionDef _ _ b _ _ _ _ _ _ _=>b
 |_=>[]
def aH(s:Stmt):Scope:=match s with
 |.FunctionDef _ _ _ _ _ _ sc _ _ _=>sc
 |_=>{kind:=.function,names:=[],isGenerator:=false,isCoroutine:=false}
abbrev Bd:List Value:=[.type "Exception",.type "BaseException",.type "object"]
end L2
namespace Br1
open PySem PySem.Spec PyProof.Rows L2
def hJ(i:Nat):Stmt:=PySem.Challenge.pw_brickrooms_s04_sizes.main.body.getD i (.Pass ⟨0,0,0,0⟩)
abbrev nZ:Stmt:=hJ 3
abbrev rG:Stmt:=hJ 4
abbrev pQ:Stmt:=eP (hJ 2) 0
abbrev Tv:Stmt:=eP (hJ 5) 0
abbrev Bh:Stmt:=eP (hJ 5) 1
abbrev Jr:Stmt:=eP (hJ 5) 2
abbrev Kg:Stmt:=eP (hJ 5) 3
abbrev Bf:Stmt:=eP (hJ 5) 4
abbrev Jq:Stmt:=eP (hJ 5) 5
abbrev Kh:Stmt:=eP (hJ 5) 6
abbrev uH:Stmt:=eP (hJ 5) 7
abbrev Wu:Stmt:=eP (hJ 5) 8
abbrev Cf:Stmt:=eP (hJ 18) 0
abbrev qH:Stmt:=hJ 19
abbrev qP:Stmt:=hJ 20
abbrev Bk:Stmt:=hJ 21
abbrev Aq:Stmt:=hJ 22
abbrev qI:Stmt:=hJ 23
abbrev oC:Stmt:=hJ 24
abbrev kU:Stmt:=hJ 25
def cJ:List Int:=[46,35,115,116,98]
abbrev kH:Stmt:=hJ 26
abbrev lT:Stmt:=hJ 27
abbrev Cl:Stmt:=hJ 28
abbrev Ak:Stmt:=hJ 29
abbrev xR:Stmt:=hJ 30
abbrev Bt:Stmt:=hJ 31
abbrev Cb:Stmt:=hJ 32
abbrev Jw:Stmt:=hJ 33
abbrev lI:Stmt:=hJ 51
abbrev nQ:Stmt:=hJ 52
abbrev uJ:Stmt:=hJ 53
abbrev qA:Stmt:=hJ 54
abbrev uL:Stmt:=eP (hJ 49) 0
abbrev uR:Stmt:=eP (hJ 64) 0
abbrev iP:Stmt:=hJ 65
abbrev nF:Stmt:=hJ 66
abbrev Df:=Arguments×List Stmt×Scope
def Va(st:Stmt):Df:=(eO st,dQ st,aH st)
def fnD(K:PySem.W.Frag)(f:Addr)(x qual:Str):Option Df:=match K.lookup f with
 |some ⟨_,_,.func ⟨nm,q,pa,.stmts b,sc,gl,[],.none,_,_,_,_,cd,_,bl⟩,_⟩=>if (nm==x && (q==qual && (gl==mainGlobals && (bl==builtinsNs && (PySem.W.codeIn K cd qual && PySem.W.keepIn K (.ref f))))))=true then some (pa,b,sc) else none
 |_=>none
def dO(K:PySem.W.Frag)(x:Str):Addr:=match PySem.W.nsIn K mainGlobals x with
 |some (some (.ref a))=>a
 |_=>0
inductive Ft
 |no (x:Str)
 |int (x:Str) (n:Int)
 |fn (x:Str) (st:Stmt)
 |cl (x:Str)
 |at (c f:Str)
 |mt (c m q:Str) (st:Stmt)
 |ints (x:Str) (l:List Int)
 |exc (x q:Str) (st:Stmt)
def Xg:Value->Option Int
 |.int n _=>some n
 |_=>none
def Yo(K:PySem.W.Frag)(C:Addr):Option Addr:=match K.lookup C with
 |some ⟨c,_,.cls ⟨_,_,mro,N,_,hd,_,_,_,_,hdel⟩,sl⟩=>(match sl.toList with
  |[_,_,_,_,some (.builtin b),_]=>if (c==.type "type" && (mro==.ref C::Bd && (hd && (!hdel && (b=="Exception.__new__" && (PySem.W.nsOkIn K N && (PySem.W.nsIn K N "fault"==some none && (PySem.W.nsIn K N "__setattr__"==some none && (PySem.W.nsIn K N "__getattribute__"==some none && (PySem.W.nsIn K N "__getattr__"==some none && PySem.W.keepIn K (.ref C)))))))))))=true then
    (match PySem.W.nsIn K N "__init__" with
    |some (some (.ref f))=>if PySem.W.isFn K (.ref f)=true then some f else none
    |_=>none) else none
  |_=>none)
 |_=>none
def Ft.D(K:PySem.W.Frag):Ft->Bool×Option Df
 |.no x=>(PySem.W.nsIn K mainGlobals x==some none,none)
 |.int x n=>(match PySem.W.nsIn K mainGlobals x with
  |some (some (.int m _))=>m==n
  |_=>false,none)
 |.fn x _=>match PySem.W.nsIn K mainGlobals x with
  |some (some (.ref f))=>(true,fnD K f x x)
  |_=>(false,none)
 |.cl x=>(PySem.W.nsIn K mainGlobals x==some (some (.ref (dO K x))) && (PySem.W.plainGet K (dO K x) Str.empty && (PySem.W.hasDictIn K (dO K x) && (PySem.W.plainOver K (dO K x) && (PySem.W.findIn K (.ref (dO K x)) "__setattr__"==some (some (.builtin "object.__setattr__")) &&
   (PySem.W.makesIn K (dO K x) && PySem.W.keepIn K (.ref (dO K x))))))),none)
 |.at c f=>(PySem.W.findIn K (.ref (dO K c)) f==some none,none)
 |.mt c m q _=>match PySem.W.findIn K (.ref (dO K c)) m with
  |some (some (.ref f))=>(PySem.W.isFn K (.ref f),fnD K f m q)
  |_=>(false,none)
 |.ints x l=>(match PySem.W.nsIn K mainGlobals x with
  |some (some (.ref a))=>(match K.lookup a with
   |some ⟨c,_,.seq its _,_⟩=>c==.type "tuple" && (its.toList.map Xg==l.map some && decide (l.length<=100))
   |_=>false)
  |_=>false,none)
 |.exc x q _=>match Yo K (dO K x) with
  |some f=>(PySem.W.nsIn K mainGlobals x==some (some (.ref (dO K x))),fnD K f "__init__" q)
  |none=>(false,none)
def Ft.X:Ft->Bool×Option Df
 |.fn _ st=>(true,some (Va st))
 |.mt _ _ _ st=>(true,some (Va st))
 |.exc _ _ st=>(true,some (Va st))
 |_=>(true,none)
def frH(as:List Addr)(h:Heap):PySem.W.Frag:=as.filterMap λa=>(h.get? a).map λo=>(a,o)
def ftC:List Ft:=[.cl "Reader",.at "Reader" "text",.at "Reader" "position",.cl "Part",.at "Part" "name",.at "Part" "width",.at "Part" "depth",.at "Part" "height",.at "Part" "weight",.at "Part" "cells",.cl "Build",.at "Build" "name",.at "Build" "lines",.cl "Given",.at "Given" "refusal",.at "Given" "fault",.at "Given" "parts",.at "Given" "build",.at "Given" "room",.ints "SIGNS" cJ,.exc "Stuck" "Stuck.__init__" pQ,.fn "is_letter" nZ,.no "ord",.fn "is_digit" rG,.mt "Reader" "__init__" "Reader.__init__" Tv,.mt "Reader" "ended" "Reader.ended" Bh,.no "len",.int "NO_BYTE" 256,.mt "Reader" "here" "Reader.here" Jr,.mt "Reader" "take" "Reader.take" Kg,.mt "Reader" "read_one_of" "Reader.read_one_of" Bf,.mt "Reader" "read_word" "Reader.read_word" Jq,.mt "Reader" "read_name" "Reader.read_name" Kh,.no "tuple",.mt "Reader" "read_number" "Reader.read_number" uH,.mt "Reader" "read_end" "Reader.read_end" Wu,.mt "Part" "__init__" "Part.__init__" Cf,.mt "Build" "__init__" "Build.__init__" uL,.mt "Given" "__init__" "Given.__init__" uR,.fn "has_stud" qH,.int "STUD" 115,.int "BOTH" 98,.fn "has_tube" qP,.int "TUBE" 116,.fn "above" Bk,.fn "below" Aq,.fn "read_cells" kU,.no "range",.int "NO_CELL" 46,.fn "read_part" oC,.int "LONGEST_PART_NAME" 8,.int "MOST_WIDTH" 16,.int "MOST_DEPTH" 16,.int "MOST_HEIGHT" 18,.int "MOST_WEIGHT" 9999,.fn "read_catalogue" qI,.int "MOST_PARTS" 64,.fn "studs_clear" Cl,.fn "tubes_clear" Ak,.fn "fills_its_box" xR,.no "enumerate",.fn "neighbours" Cb,.fn "hangs_together" Bt,.no "list",.fn "names_grow" Jw,.fn "part_right" lT,.fn "catalogue_right" kH,.no "all",.fn "some_begins" qA,.no "any",.fn "read_part_number" uJ,.fn "read_line" nQ,.int "MOST_COLOUR" 255,.int "ROOM_WIDTH" 64,.int "ROOM_DEPTH" 64,.int "ROOM_HEIGHT" 96,.int "MOST_TURNS" 3,.fn "read_build" lI,.int "LONGEST_BUILD_NAME" 16,.int "MOST_LINES" 256,.fn "names_of" nF,.fn "read_given" iP,.int "MOST_CATALOGUE_BYTES" 1048576,.int "MOST_BUILD_BYTES" 16384]
abbrev uT:Stmt:=hJ 35
abbrev Ld:Stmt:=hJ 36
abbrev uS:Stmt:=hJ 34
abbrev uI:Stmt:=hJ 58
abbrev uU:Stmt:=hJ 57
abbrev Kc:Stmt:=hJ 59
abbrev As:Stmt:=eP (hJ 50) 0
abbrev rE:Stmt:=hJ 60
abbrev pR:Stmt:=hJ 56
abbrev Kn:Stmt:=hJ 55
abbrev lR:Stmt:=hJ 67
def ftR:List Ft:=[.cl "Room",.at "Room" "signs",.at "Room" "owners",.at "Room" "wrong",.mt "Room" "__init__" "Room.__init__" As,.fn "turned_once" Ld,.fn "turned_part" uT,.no "range",.fn "turned_sizes" uS,.fn "beyond_room" uI,.int "ROOM_WIDTH" 64,.int "ROOM_DEPTH" 64,.int "ROOM_HEIGHT" 96,.fn "leaves_room" uU,.fn "cells_in_room" Kc,.fn "blocked_lines" rE,.fn "wrong_with" pR,.no "len",.no "min",.fn "fill_room" Kn,.no "enumerate",.fn "read_right" lR]
abbrev jV:Stmt:=hJ 38
abbrev wN:Stmt:=hJ 40
abbrev nN:Stmt:=hJ 39
abbrev iT:Stmt:=hJ 68
end Br1
namespace Br1
open PySem PySem.W
def uP(tb:String->Option Builtin)(p:Program)(w:World)(v9:Nat)(wa:Option Value):Nat->SharedT->Thread->Option SharedT
 |0,_,_=>none
 |n+1,s,t=>match through t with
  |true=>some s
  |false=>match stepOk v9 wa t with
   |false=>none
   |true=>match stepT (denote tb) p w s t with
    |some (s',t')=>uP tb p w v9 wa n s' t'
    |none=>none
theorem tE{tb:String->Option Builtin}{p:Program}{w:World}{v9:Nat}{wa:Option Value}:∀{n:Nat}{s s':SharedT}{t:Thread},uP tb p w v9 wa n s t=some s'->topRun tb p w v9 wa n s.abs t=some s'.abs
 |0,_,_,_,h=>by cases h
 |n+1,s,s',t,h=>by
  unfold uP at h
  unfold topRun
  cases he:through t with
  |true=>
   rw[he] at h
   cases h
   rfl
  |false=>
   rw[he] at h
   cases hk:stepOk v9 wa t with
   |false=>
    rw[hk] at h
    cases h
   |true=>
    rw[hk] at h
    cases hs:stepT (denote tb) p w s t with
    |none=>
     rw[hs] at h
     cases h
    |some r=>
     obtain⟨dh,UD⟩:=r
     rw[hs] at h
     dsimp only
     rw[stepT_spec hs]
     exact tE h
def Dx:Nat->List Obj->BT->BT
 |_,[],t=>t
 |n,o::r,t=>Dx (n+1) r (t.ins n o)
noncomputable def aBz(P:Params):BT:=Dx 0 (boot_heap P).objs.toList .nil
noncomputable def Xq(P:Params)(os:OsState):SharedT:=⟨aBz P,11,(boot_heap P).life,Array.mk [],boot_drawn,boot_toks,os⟩
theorem Tj(P:Params)(os:OsState):(Xq P os).abs=⟨boot_heap P,Array.mk [],boot_drawn,boot_toks,os⟩:=by kernel_rfl
theorem Ll{p q:Program}{loose:List Str}{Xt:Shared->Bool}{α:Type}{Yf:Shared->α}{Ya:World->α}{N:Nat}{g0:Bool}(e:opening p=plainProg p.main.scope.names)(hN:Nat.ble 600 N=true)(f:∀s,fenceModules? p s=some s)
  (h1:∀w:World,((boot_heap w.params).isNs mainGlobals && (Array.mk ([]:List GenState)).size==0)=true)
  (h:∀(w:World)(os:OsState),(uP treeTable p w (boot_heap w.params).objs.size ((boot_heap w.params).nsMap mainGlobals "__annotations__") N (Xq w.params os) (topStub p)).map (λs=>
   (staticsOk (importedModules p.main.body) (boot_heap w.params) s.abs.heap && namesBound p s.abs.heap && gensDone s.abs && laidKept (boot_heap w.params) s.abs.heap,openSeen q loose (importedModules p.main.body) Xt g0 s.abs,Yf s.abs))=some (true,openGood q loose,Ya w)):LeftO p q loose Xt Yf Ya N g0:=λw=>by
 obtain⟨⟨h0,gs,d,k,os⟩,e0,e'⟩:=qi.mp (boot_open e hN f w)
 obtain⟨rfl,rfl,rfl,rfl⟩:h0=boot_heap w.params/\gs=Array.mk []/\d=boot_drawn/\k=boot_toks:=by simpa using e'
 obtain⟨s',e1,e2⟩:=qi.mp (h w os)
 have e3:=tE e1
 rw[Tj] at e3
 obtain⟨a1,a2⟩:=Prod.mk.inj e2
 unfold openEnds
 rw[e0]
 show (topFrom treeTable p w N _).map _=_
 have e4:topFrom treeTable p w N ⟨boot_heap w.params,Array.mk [],boot_drawn,boot_toks,os⟩=some s'.abs:=by
  unfold topFrom
  rw[show ((⟨boot_heap w.params,Array.mk [],boot_drawn,boot_toks,os⟩:Shared).heap.isNs mainGlobals && (⟨boot_heap w.params,Array.mk [],boot_drawn,boot_toks,os⟩:Shared).gens.size==0)=true from h1 w]
  dsimp only
  rw[e3]
  dsimp only[Option.bind]
  rw[a1]
 rw[e4]
 exact congrArg some a2
end Br1
namespace Br1
open PySem PySem.Spec PyProof.Rows L2
def ftZ:List Ft:=ftC++(ftR++([.no "len",.no "range",.no "set",.no "sum",.no "max",.fn "clutches" jV,.fn "mark_group" wN,.fn "least_of_groups" nN,.fn "sizes" iT]))
def asC:List Addr:=[3,31,30,28,27,41,40,48,47,121,120,62,61,69,68,76,75,83,82,90,89,97,96,104,103,111,110,118,117,126,143,142,140,139,154,153,161,160,168,167,175,174,182,181,189,188,196,195,201,200,208,207,215,214,222,221,227,226,234,233,241,240,248,247,255,254,262,261,269,268,276,275,281,280,288,287,305,304,302,301,326,325,323,322,337,336,344,343,351,350,356,355,363,362,368,367,375,374,382,381,389,388,396,395,413,412,410,409,424,423,429,428,436,435,441,440]
def Pi:List Str:=[.ofString "NO_BYTE",.ofString "Stuck",.ofString "is_letter",.ofString "is_digit",.ofString "Reader",.ofString "MOST_PARTS",.ofString "LONGEST_PART_NAME",.ofString "MOST_WIDTH",.ofString "MOST_DEPTH",.ofString "MOST_HEIGHT",.ofString "MOST_WEIGHT",.ofString "NO_CELL",.ofString "STUD",.ofString "TUBE",.ofString "BOTH",.ofString "SIGNS",.ofString "Part",.ofString "has_stud",.ofString "has_tube",.ofString "above",.ofString "below",.ofString "read_catalogue",.ofString "read_part",.ofString "read_cells",.ofString "catalogue_right",.ofString "part_right",.ofString "studs_clear",.ofString "tubes_clear",.ofString "fills_its_box",.ofString "hangs_together",.ofString "neighbours",.ofString "names_grow",.ofString "turned_sizes",.ofString "turned_part",.ofString "turned_once",.ofString "clutches",.ofString "least_of_groups",.ofString "mark_group",.ofString "ROOM_WIDTH",.ofString "ROOM_DEPTH",.ofString "ROOM_HEIGHT",.ofString "LONGEST_BUILD_NAME",.ofString "MOST_LINES",.ofString "MOST_COLOUR",.ofString "MOST_TURNS",.ofString "Build",.ofString "Room",.ofString "read_build",.ofString "read_line",.ofString "read_part_number",.ofString "some_begins",.ofString "fill_room",.ofString "wrong_with",.ofString "leaves_room",.ofString "beyond_room",.ofString "cells_in_room",.ofString "blocked_lines",.ofString "MOST_CATALOGUE_BYTES",.ofString "MOST_BUILD_BYTES",.ofString "Given",.ofString "read_given",.ofString "names_of",.ofString "read_right"]
def vwC:Program:=PySem.W.view PySem.Challenge.pw_brickrooms_s04_sizes [68]
theorem aCo:PySem.W.LeftO PySem.Challenge.pw_brickrooms_s04_sizes vwC Pi (λ_=>true) (λs=>ftZ.map (Ft.D (frH asC s.heap))) (λ_=>ftZ.map Ft.X) 6102:=by
 refine Ll ?a ?b ?c ?d ?e
 case a=>kernel_rfl
 case b=>decide
 case c=>intro s;kernel_rfl
 case d=>intro w;kernel_rfl
 case e=>intro w os;kernel_rfl
end Br1
namespace L2
open PySem PySem.Spec PyProof.Rows
abbrev dP:=Sum Int Str
def tP:dP->Value->Bool
 |.inl k,v=>Value.isInt k v
 |.inr x,v=>Value.isStrOf x v
def aD9(w:World):dP->Int
 |.inl k=>hashInt k
 |.inr x=>hashStr w x
theorem dF:∀{k:dP}{v:Value},tP k v=true->(∃i t,k=Sum.inl i/\v=Value.int i t)\/(∃x t,k=Sum.inr x/\v=Value.str x t)
 |.inl i,v,h=>by
  obtain⟨t,e⟩:=Value.isInt_shape (k:=i) (v:=v) h
  exact .inl ⟨i,t,rfl,e⟩
 |.inr x,v,h=>by
  obtain⟨t,e⟩:=Value.isStrOf_shape (x:=x) (v:=v) h
  exact .inr ⟨x,t,rfl,e⟩
theorem Lj(i:Int)(t:Tok):tP (.inl i) (.int i t)=true:=by simp[tP,Value.isInt]
theorem Mm(x:Str)(t:Tok):tP (.inr x) (.str x t)=true:=by simp[tP,Value.isStrOf]
theorem aAp(a b:Int):decide ((Sum.inl a:dP)=Sum.inl b)=(a==b):=by
 by_cases e:a=b
 ·subst e;simp
 ·have h:¬(Sum.inl a:dP)=Sum.inl b:=λq=>e (Sum.inl.inj q)
  rw[jx h]
  exact(vg.mpr e).symm
theorem aA1(a b:Str):decide ((Sum.inr a:dP)=Sum.inr b)=decide (a=b):=by
 by_cases e:a=b
 ·subst e;simp
 ·have h:¬(Sum.inr a:dP)=Sum.inr b:=λq=>e (Sum.inr.inj q)
  rw[jx h,jx e]
theorem Yu(a:Int)(b:Str):decide ((Sum.inl a:dP)=Sum.inr b)=false:=jx (λq=>nomatch q)
theorem Yw(a:Str)(b:Int):decide ((Sum.inr a:dP)=Sum.inl b)=false:=jx (λq=>nomatch q)
def dW(prog:Program)(w:World):PySem.KeyKind prog w dP where
 is:=tP
 hash:=aD9 w
 inj:=λv a b ha hb=>by
  rcases dF ha with ⟨i,t,rfl,rfl⟩|⟨x,t,rfl,rfl⟩
  ·rcases dF hb with ⟨j,u,rfl,e⟩|⟨y,u,rfl,e⟩
   ·injection e with e1 _;rw[e1]
   ·exact nomatch e
  ·rcases dF hb with ⟨j,u,rfl,e⟩|⟨y,u,rfl,e⟩
   ·exact nomatch e
   ·injection e with e1 _;rw[e1]
 byValue:=λk v h=>by
  rcases dF h with ⟨i,t,rfl,rfl⟩|⟨x,t,rfl,rfl⟩<;>rfl
 pyHash:=λhv h=>by
  rcases dF hv with ⟨i,t,rfl,rfl⟩|⟨x,t,rfl,rfl⟩
  ·exact wpAny_pyHash_int h
  ·exact wpAny_pyHash_str h
 eqBool:=λhu hv h=>by
  rcases dF hu with ⟨i,t,rfl,rfl⟩|⟨x,t,rfl,rfl⟩
  ·rcases dF hv with ⟨j,u,rfl,rfl⟩|⟨y,u,rfl,rfl⟩
   ·rw[aAp] at h;exact wpAny_eqBool_int h
   ·rw[Yu] at h;exact SeqAt.EqAt.int_str i t y u _ _ _ _ h
  ·rcases dF hv with ⟨j,u,rfl,rfl⟩|⟨y,u,rfl,rfl⟩
   ·rw[Yw] at h;exact SeqAt.EqAt.str_int x t j u _ _ _ _ h
   ·rw[aA1] at h;exact wpAny_eqBool_str h
 «strs»:=λk x t v h=>by
  rcases dF h with ⟨i,u,rfl,e⟩|⟨y,u,rfl,e⟩
  ·exact nomatch e
  ·injection e with e1 _
   subst e1
   cases v<;>rfl
theorem Es(prog:Program)(w:World)(i:Int)(t:Tok):(dW prog w).is (.inl i) (.int i t)=true:=Lj i t
theorem Du(prog:Program)(w:World)(x:Str)(t:Tok):(dW prog w).is (.inr x) (.str x t)=true:=Mm x t
inductive V where
 |non|bl (b:Bool)|int (i:Int)|str (x:Str)|byt (b:Array UInt8)|flt (b:UInt64)|ref (a:Addr)|ty (n:String)
 deriving DecidableEq
def bQ:V->Value->Prop
 |.non,u=>u=Value.none
 |.bl b,u=>u=Value.bool b
 |.int i,u=>∃t,u=Value.int i t
 |.str x,u=>∃t,u=Value.str x t
 |.byt b,u=>∃t,u=Value.bytes b t
 |.flt b,u=>∃t,u=Value.float b t
 |.ref a,u=>u=Value.ref a
 |.ty n,u=>u=Value.type n
abbrev bA:List V->List Value->Prop:=Paired bQ
theorem bA.length{xs:List V}{us:List Value}(r:bA xs us):xs.length=us.length:=Paired.length r
theorem bA.get:∀{xs:List V}{us:List Value}{i:Nat}{x:V},bA xs us->xs[i]?=some x->∃u,us[i]?=some u/\bQ x u
 |_,_,_,_,.nil,e=>by simp at e
 |_,_,0,_,.cons r _,e=>by simp at e;subst e;exact⟨_,rfl,r⟩
 |_,_,i+1,x,.cons _ t,e=>by
  obtain⟨u,h1,h2⟩:=bA.get (i:=i) (x:=x) t (by simpa using e)
  exact⟨u,by simpa using h1,h2⟩
theorem bA.set{x:V}{u:Value}(r:bQ x u):∀{xs:List V}{us:List Value}(i:Nat),bA xs us->bA (xs.set i x) (us.set i u)
 |_,_,_,.nil=>.nil
 |_,_,0,.cons _ t=>.cons r t
 |_,_,i+1,.cons q t=>.cons q (bA.set r i t)
theorem bA.append:∀{xs ys:List V}{us ws:List Value},bA xs us->bA ys ws->bA (xs++ys) (us++ws)
 |_,_,_,_,.nil,s=>s
 |_,_,_,_,.cons r t,s=>.cons r (bA.append t s)
theorem bA.take:∀{xs:List V}{us:List Value}(n:Nat),bA xs us->bA (xs.take n) (us.take n)
 |_,_,0,_=>.nil
 |_,_,_+1,.nil=>.nil
 |_,_,n+1,.cons r t=>.cons r (bA.take n t)
theorem bA.drop:∀{xs:List V}{us:List Value}(n:Nat),bA xs us->bA (xs.drop n) (us.drop n)
 |_,_,0,r=>r
 |_,_,_+1,.nil=>.nil
 |_,_,n+1,.cons _ t=>bA.drop n t
def jP:Option V->Option Value->Prop
 |some v,some u=>bQ v u
 |none,none=>True
 |_,_=>False
def KV{κ:Type}:List (κ×V)->List (κ×Value)->Prop:=Paired λ(p:κ×V)(q:κ×Value)=>p.1=q.1/\bQ p.2 q.2
def kV:dP->V
 |.inl i=>.int i
 |.inr x=>.str x
inductive HO where
  |lst (xs:List V)
  |tup (xs:List V)
  |dK (aI:List (dP×V))|dT (aI:List (List dP×V))
  |set (S:Int->Bool) (n:Nat)
  |ins (C dx:Addr) (fs:List (Str×V))
  |own (x:Addr)
  |xd (fs:List (Str×V))
  |met (f x:Addr)
  |rng (lo hi:Int)
  |frz (o:Obj) (u:HO)
  |tbl (ps:Array Value)
  |ext (φ:Heap->Prop)
abbrev Hp:=Addr->Option HO
def upd(H:Hp)(a:Addr)(o:HO):Hp:=λb=>if b=a then some o else H b
theorem aC{H:Hp}{a:Addr}{o:HO}:upd H a o a=some o:=by unfold upd;rw[ac rfl]
theorem aB{H:Hp}{a b:Addr}{o:HO}(h:b≠a):upd H a o b=H b:=by unfold upd;rw[aa h]
theorem Xf{H:Hp}{a b:Addr}{o u:HO}(h:H a=some o)(h':H b=some u)(d:o≠u):a≠b:=by
 intro e;subst e;rw[h] at h';exact d (Option.some.inj h')
theorem aD{H:Hp}{a b:Addr}{o:HO}(h:H a=some o)(h':H b=none):a≠b:=by
 intro e;subst e;rw[h] at h';cases h'
section
variable (P:Program) (w:World)
def cE(H:Hp)(h:Heap)(a:Addr):HO->Prop
 |.lst xs=>xs.length<=sizeLine/\∃(its:List Value)(n:Nat),bA xs its/\h.get? a=some {cls:=.type "list",data:=.seq its.toArray n}
 |.tup xs=>xs.length<=sizeLine/\∃its:List Value,bA xs its/\IsTup h a its.toArray
 |.dK aI=>aI.length<=sizeLine/\(a==sysModules)=false/\∃vs,KV aI vs/\h.DictOf (dW P w) a vs
 |.dT aI=>aI.length<=sizeLine/\(a==sysModules)=false/\∃xs:List (List dP×Addr×Value),
   Paired (λ(p:List dP×V)(q:List dP×Addr×Value)=>p.1=q.1/\H q.2.1=some (.tup (p.1.map kV))/\bQ p.2 q.2.2) aI xs/\
   ∃o es ep,h.get? a=some o/\o.ExactDict/\o.data=.dict es ep/\es.toList=xs.map (entryOfKey (tupleKind (dW P w)))/\(xs.map (·.1)).Nodup
 |.set S n=>h.SetOf (intKind P w) a S n
 |.ins C dx fs=>H dx=some (.own a)/\fs.length<=1000/\dx≠a/\h.get? a=some (PySem.W.instObj C dx)/\
   ∃mA,h.Ns1 dx mA/\(∀f,jP (fs.lookup f) (mA f))/\PySem.Within mA (fs.map (·.1))
 |.own _=>∃o,h.get? a=some o
 |.xd fs=>∃mA,h.Ns1 a mA/\∀f,jP (fs.lookup f) (mA f)
 |.rng lo hi=>∃t u v,h.get? a=some {cls:=.type "range",data:=.fields #[.int lo t,.int hi u,.int 1 v]}
 |.frz o u=>h.get? a=some o/\cE H h a u
 |.tbl ps=>h.get? a=some {cls:=.none,data:=.fields ps}
 |.met f x=>h.get? a=some (PySem.W.methodObj (.ref f) (.ref x))
 |.ext φ=>φ h/\(∃o,h.get? a=some o)/\∀h1 h2:Heap,φ h1->(∀o,h1.get? a=some o->h2.get? a=some o)->φ h2
def kT(H:Hp)(h:Heap):Prop:=∀a o,H a=some o->cE P w H h a o
end
section
variable {P:Program} {w:World} {H H':Hp} {h h':Heap} {a:Addr} {o:HO}
theorem cE.lt(x:cE P w H h a o):a<h.objs.size:=by
 cases o with
 |lst xs=>obtain⟨_,_,_,_,e⟩:=x;exact a9 e
 |tup xs=>obtain⟨_,_,_,p⟩:=x;exact p.lt
 |dK aI=>obtain⟨_,_,_,_,o,_,_,e,_⟩:=x;exact a9 e
 |dT aI=>obtain⟨_,_,_,_,o,_,_,e,_⟩:=x;exact a9 e
 |set S n=>obtain⟨o,_,_,_,e,_⟩:=x;exact a9 e
 |ins C dx fs=>obtain⟨_,_,_,e,_⟩:=x;exact a9 e
 |own y=>obtain⟨_,e⟩:=x;exact a9 e
 |xd fs=>obtain⟨_,⟨_,_,_,e,_⟩,_⟩:=x;exact a9 e
 |rng lo hi=>obtain⟨_,_,_,e⟩:=x;exact a9 e
 |frz ob u=>obtain⟨e,_⟩:=x;exact a9 e
 |tbl ps=>exact a9 (show h.get? a=some _ from x)
 |met f y=>exact a9 (show h.get? a=some _ from x)
 |ext φ=>obtain⟨_,⟨_,e⟩,_⟩:=x;exact a9 e
theorem Paired.mapP{α β:Type}{F G:α->β->Prop}:∀{ub:List α}{uc:List β},Paired F ub uc->(∀a b,F a b->G a b)->Paired G ub uc
 |_,_,.nil,_=>.nil
 |_,_,.cons r t,f=>.cons (f _ _ r) (Paired.mapP t f)
theorem cE.stay(x:cE P w H h a o)(k:∀b u,(b=a\/H b=some (.own a))->h.get? b=some u->h'.get? b=some u)
  (ho:∀b,H b=some (.own a)->H' b=some (.own a)) (ht:∀b xs,H b=some (.tup xs)->H' b=some (.tup xs)):cE P w H' h' a o:=by
 induction o with
 |lst xs=>obtain⟨z,its,n,r,e⟩:=x;exact⟨z,its,n,r,k _ _ (.inl rfl) e⟩
 |tup xs=>obtain⟨z,its,r,ob,e,c⟩:=x;exact⟨z,its,r,ob,k _ _ (.inl rfl) e,c⟩
 |dK aI=>obtain⟨z,y,vs,r,ob,es,ep,e,c⟩:=x;exact⟨z,y,vs,r,ob,es,ep,k _ _ (.inl rfl) e,c⟩
 |dT aI=>
  obtain⟨z,y,xs,r,ob,es,ep,e,c⟩:=x
  exact⟨z,y,xs,Paired.mapP r λp q z=>⟨z.1,ht _ _ z.2.1,z.2.2⟩,ob,es,ep,k _ _ (.inl rfl) e,c⟩
 |set S n=>obtain⟨ob,es,ep,t,e,c⟩:=x;exact⟨ob,es,ep,t,k _ _ (.inl rfl) e,c⟩
 |ins C dx fs=>
  obtain⟨d,z,ne,e,mA,⟨od,es,ep,e2,c⟩,r⟩:=x
  exact⟨ho _ d,z,ne,k _ _ (.inl rfl) e,mA,⟨od,es,ep,k _ _ (.inr d) e2,c⟩,r⟩
 |own y=>obtain⟨ob,e⟩:=x;exact⟨ob,k _ _ (.inl rfl) e⟩
 |xd fs=>obtain⟨mA,⟨od,es,ep,e,c⟩,r⟩:=x;exact⟨mA,⟨od,es,ep,k _ _ (.inl rfl) e,c⟩,r⟩
 |rng lo hi=>obtain⟨t,u,v,e⟩:=x;exact⟨t,u,v,k _ _ (.inl rfl) e⟩
 |frz ob u ih=>obtain⟨e,q⟩:=x;exact⟨k _ _ (.inl rfl) e,ih q⟩
 |tbl ps=>
  have e:h.get? a=some {cls:=.none,data:=.fields ps}:=x
  show h'.get? a=some {cls:=.none,data:=.fields ps}
  exact k a _ (.inl rfl) e
 |met f y=>
  have e:h.get? a=some (PySem.W.methodObj (.ref f) (.ref y)):=x
  show h'.get? a=some (PySem.W.methodObj (.ref f) (.ref y))
  exact k a _ (.inl rfl) e
 |ext φ=>obtain⟨p,⟨o,e⟩,st⟩:=x;exact⟨st _ _ p λo q=>k _ _ (.inl rfl) q,⟨o,k _ _ (.inl rfl) e⟩,st⟩
theorem kT.lt(x:kT P w H h)(e:H a=some o):a<h.objs.size:=(x a o e).lt
theorem kT.fresh(x:kT P w H h)(e:h.objs.size<=a):H a=none:=by
 cases q:H a with
 |none=>rfl
 |some u=>exact absurd (gm (x.lt q) e) (i8 _)
theorem kT.kept(x:kT P w H h)(k:∀b u,h.get? b=some u->h'.get? b=some u):kT P w H h':=λa o e=>
 (x a o e).stay (λb u _ q=>k b u q) (λ_ q=>q) λ_ _ q=>q
theorem kT.laid(x:kT P w H h)(k:∀b u,h.get? b=some u->h'.get? b=some u)(hp:h.objs.size<=a)(new:cE P w (upd H a o) h' a o):kT P w (upd H a o) h':=λb u e=>by
 have hn:=x.fresh hp
 by_cases hb:b=a
 ·subst hb;rw[aC] at e;cases e;exact new
 ·rw[aB hb] at e
  exact(x b u e).stay (λc v _ q=>k c v q) (λc q=>by rw[aB (aD q hn)];exact q) λc xs q=>by rw[aB (aD q hn)];exact q
end
def Rd(H:Hp)(a:Addr)(u:HO):Prop:=H a=some u\/∃o,H a=some (.frz o u)
theorem Rd.ok{P:Program}{w:World}{H:Hp}{h:Heap}{a:Addr}{u:HO}(r:Rd H a u)(x:kT P w H h):cE P w H h a u:=by
 rcases r with r|⟨o,r⟩
 ·exact x a u r
 ·obtain⟨_,q⟩:=x a _ r
  exact q
def Xv:Option HO->Prop
 |some (.lst _)=>True
 |some (.dK _)=>True
 |some (.dT _)=>True
 |some (.set _ _)=>True
 |some (.ins _ _ _)=>True
 |some (.ext _)=>True
 |_=>False
section
variable {P:Program} {w:World} {H:Hp} {h h':Heap} {x e:Addr} {o':HO}
theorem kT.write(ok:kT P w H h)(mu:Xv (H x))(he:e=x\/H e=some (.own x))(k:∀b u,b≠e->h.get? b=some u->h'.get? b=some u)(wb:∃u,h'.get? e=some u)
  (new:cE P w (upd H x o') h' x o'):kT P w (upd H x o') h':=λb u q=>by
 have ID:∀c y,H c=some (.own y)->c≠x:=λc y r z=>by subst z;rw[r] at mu;exact mu
 have NU:∀c xs,H c=some (.tup xs)->c≠x:=λc xs r z=>by subst z;rw[r] at mu;exact mu
 by_cases hb:b=x
 ·subst hb;rw[aC] at q;cases q;exact new
 ·rw[aB hb] at q
  by_cases jn:b=e
  ·have q':H b=some (.own x):=by
    rcases he with z|z
    ·exact absurd (jn.trans z) hb
    ·rw[jn];exact z
   rw[q] at q';cases q'
   obtain⟨v,hv⟩:=wb
   exact⟨v,by rw[jn];exact hv⟩
  ·refine(ok b u q).stay (λc v hc r=>k c v ?_ r) (λc r=>by rw[aB (ID c b r)];exact r) λc xs r=>by rw[aB (NU c xs r)];exact r
   rcases hc with rfl|hc
   ·exact jn
   ·rintro rfl
    rcases he with z|z
    ·exact ID c b hc z
    ·rw[hc] at z;cases z;exact hb rfl
end
structure Un(fs ex:List Addr)(H H':Hp)(h h':Heap):Prop where
 keep:∀b o,h.get? b=some o->H b=none->b∉fs->b∉ex->h'.get? b=some o
 slot:∀b o,h.get? b=some o->H b=none->b∈fs->b∉ex->∃sl,h'.get? b=some {o with slots:=sl}
 free:∀b o,h.get? b=some o->H b=none->b∉ex->H' b=none
 there:∀b o,h.get? b=some o->b∉ex->∃o',h'.get? b=some o'
 tups:∀b xs,H b=some (.tup xs)->H' b=some (.tup xs)
 frzs:∀b o u,H b=some (.frz o u)->H' b=some (.frz o u)
 tbls:∀b ps,H b=some (.tbl ps)->∃more,H' b=some (.tbl (ps++more))
section
variable {fs wc ex IE:List Addr} {H H1 H2:Hp} {h h1 h2 h':Heap} {a x e:Addr} {o:HO}
theorem Un.any(u:Un fs ex H H1 h h1){b:Addr}{ob:Obj}(q:h.get? b=some ob)(n:H b=none)(hx:b∉ex):∃sl,h1.get? b=some {ob with slots:=sl}:=by
 by_cases hb:b∈fs
 ·exact u.slot b ob q n hb hx
 ·exact⟨ob.slots,u.keep b ob q n hb hx⟩
theorem Un.kept(k:∀b u,h.get? b=some u->h'.get? b=some u):Un fs ex H H h h':=
 ⟨λb ob q _ _ _=>k b ob q,λb ob q _ _ _=>⟨ob.slots,k b ob q⟩,λ_ _ _ n _=>n,λb ob q _=>⟨ob,k b ob q⟩,λ_ _ q=>q,λ_ _ _ q=>q,λ_ ps q=>⟨#[],by rw[q];simp⟩⟩
theorem Un.refl:Un fs ex H H h h:=Un.kept λ_ _ q=>q
theorem Un.laid(k:∀b u,h.get? b=some u->h'.get? b=some u)(hp:h.objs.size<=a)(hn:H a=none):Un fs ex H (upd H a o) h h' where
 keep:=λb u q _ _ _=>k b u q
 slot:=λb u q _ _ _=>⟨u.slots,k b u q⟩
 free:=λb u q n _=>by rw[aB (df (gm (a9 q) hp))];exact n
 there:=λb u q _=>⟨u,k b u q⟩
 tups:=λb xs q=>by rw[aB (aD q hn)];exact q
 frzs:=λb u xs q=>by rw[aB (aD q hn)];exact q
 tbls:=λb ps q=>⟨#[],by rw[aB (aD q hn),q];simp⟩
theorem Un.write(mu:Xv (H x))(he:e=x\/H e=some (.own x))(k:∀b u,b≠e->h.get? b=some u->h'.get? b=some u)(wb:∃u,h'.get? e=some u):Un fs ex H (upd H x o) h h':=by
 have hx:∀b,H b=none->b≠x:=λb n z=>by subst z;rw[n] at mu;exact mu
 have hb:∀b,H b=none->b≠e:=λb n z=>by
  subst z
  rcases he with r|r
  ·exact hx b n r
  ·rw[n] at r;cases r
 have hm:∀b u,H b=some u->¬Xv (some u)->b≠x:=λb u q nm z=>by subst z;rw[q] at mu;exact nm mu
 refine⟨λb u q n _ _=>k b u (hb b n) q,λb u q n _ _=>⟨u.slots,k b u (hb b n) q⟩,λb u q n _=>by rw[aB (hx b n)];exact n,λb u q _=>?_,
  λb xs q=>by rw[aB (hm b _ q λz=>z)];exact q,λb u xs q=>by rw[aB (hm b _ q λz=>z)];exact q,λb ps q=>⟨#[],by rw[aB (hm b _ q λz=>z),q];simp⟩⟩
 by_cases jn:b=e
 ·subst jn;exact wb
 ·exact⟨u,k b u jn q⟩
end
def trk(h:Heap)(H:Hp):List Addr:=(List.range h.objs.size).filter λa=>(H a).isSome
def Bj(h:Heap)(H:Hp):Heap:=PySem.W.hideAll h (trk h H)
theorem Ol(h:Heap)(H:Hp):(Bj h H).objs.size=h.objs.size:=PySem.W.hideAll_size _ _
theorem Pw{h:Heap}{H:Hp}{b:Addr}{o:Obj}(e:h.get? b=some o)(n:H b=none):(Bj h H).get? b=some o:=
 PySem.W.hideAll_get _ e λhm=>by
  have q:(H b).isSome=true:=(ca.mp hm).2
  rw[n] at q;simp at q
theorem Tr{h:Heap}{H:Hp}{b:Addr}{o:Obj}(e:(Bj h H).get? b=some o):h.get? b=some o/\H b=none:=by
 have e':h.get? b=some o:=PySem.W.of_hideAll (trk h H) e
 refine⟨e',?_⟩
 cases q:H b with
 |none=>rfl
 |some x=>
  have hm:b∈trk h H:=ca.mpr ⟨z0.mpr (a9 e'),by simp[q]⟩
  have z:(Bj h H).get? b=none:=PySem.W.hideAll_none (trk h H) hm
  rw[z] at e;cases e
structure Mod(K:PySem.W.Frag)(mg:Str->Option Value)(base:Heap):Prop where
 kin:K.In base
 glob:base.Ns mainGlobals mg
 blt:∃mb,base.Ns builtinsNs mb/\∀x:Str,x≠"__name__"->mb x=bootBuiltins x
 nolimit:base.NoLimit
structure Cx where
 prog:Program
 w:World
 K:PySem.W.Frag
 mg:Str->Option Value
 base:Heap
 A:Around
 N:List Str
 s_0:Shared
 H_0:Hp
 env:Env
 outer:List Env
 stack:List Env
 ex:List Addr
 fn:Str->Bool
 calm:Bool
 pn:List (Addr×Obj)
 xe:Value->Shared->Prop
def zG(l:List Env):List Addr:=l.filterMap (·.frame)
abbrev Cx.fs(X:Cx):List Addr:=zG X.outer
def Vis(sc:Scope)(x:Str):Prop:=sc.names.lookup x=some .local\/sc.names.lookup x=some .cell\/sc.names.lookup x=some .free
def Loc(sc:Scope)(x:Str):Prop:=sc.names.lookup x=some .local\/sc.names.lookup x=some .cell
def aDm(env:Env)(h:Heap)(m:Str->Option Value)(x:Str)(u:Value):Prop:=
 (env.kindOf x=some .local/\m x=some u)\/((env.kindOf x=some .cell\/env.kindOf x=some .free)/\∃c,env.cells.lookup x=some c/\h.IsCell c (some u))
structure Cx.Ok(X:Cx):Prop where
 mod:Mod X.K X.mg X.base
 kind:X.env.scope.kind=.function
 glob:X.env.globals=mainGlobals
 blt:X.env.builtins=builtinsNs
 above:X.s_0.heap.objs.size<=X.env.locals
 inj:∀x y c,X.env.cells.lookup x=some c->X.env.cells.lookup y=some c->x=y
 has:∀x,(X.env.kindOf x=some .cell\/X.env.kindOf x=some .free)->∃c,X.env.cells.lookup x=some c
 cab:∀x c,X.fn x=true->X.env.cells.lookup x=some c->X.s_0.heap.objs.size<=c
 hd:X.calm=true->X.A.handled=none
 frames:X.A.frames=some X.stack
 stk:X.stack=X.outer\/(X.stack=X.env::X.outer/\X.env.frame=some X.env.locals)
 exf:∀b∈X.ex,b≠X.env.locals/\∀x c,X.env.cells.lookup x=some c->c≠b
 bs:∀b o,X.base.get? b=some o->X.s_0.heap.get? b=some o/\X.H_0 b=none
 bsz:X.base.objs.size<=X.s_0.heap.objs.size
 noex:∀b o,X.base.get? b=some o->b∉X.ex
 exfs:∀b∈X.ex,b∉X.fs
 funs:X.s_0.heap.FunFrames X.base X.outer
 frf:∀b∈X.fs,X.H_0 b=none
structure aP(X:Cx)(pins:List (Addr×Obj))(σ:List (Option V))(H:Hp)(s:Shared):Prop where
 ok:X.Ok
 os:s.os=X.s_0.os
 bare:AllBare s.gens
 base:Un X.fs X.ex X.H_0 H X.s_0.heap s.heap
 loc:∃m,s.heap.Ns X.env.locals m/\∀(i:Nat)(x:Str)(v:V),X.N[i]?=some x->σ[i]?=some (some v)->Vis X.env.scope x->∃u,bQ v u/\aDm X.env s.heap m x u
 cell:∀x c,X.env.cells.lookup x=some c->∃v,s.heap.IsCell c v
 free:H X.env.locals=none
 freeC:∀x c,X.env.cells.lookup x=some c->H c=none
 pin:∀p∈X.pn++pins,s.heap.get? p.1=some p.2/\H p.1=none/\p.1≠X.env.locals/\p.1∉X.fs/\∀v,p.2.data≠.cell v
 hok:kT X.prog X.w H s.heap
 len:σ.length=X.N.length
section
variable {X:Cx} {pins:List (Addr×Obj)} {σ:List (Option V)} {H H':Hp} {s:Shared} {h':Heap}
theorem Cx.Ok.nofr(ok:X.Ok){b:Addr}{o:Obj}(e:X.base.get? b=some o):b∉X.fs:=λhb=>by
 have:=(ok.funs.mem hb).1
 rw[e] at this;cases this
theorem aP.bs(I:aP X pins σ H s):∀b o,X.base.get? b=some o->s.heap.get? b=some o/\H b=none:=λb o e=>
 ⟨I.base.keep b o (I.ok.bs b o e).1 (I.ok.bs b o e).2 (I.ok.nofr e) (I.ok.noex b o e),I.base.free b o (I.ok.bs b o e).1 (I.ok.bs b o e).2 (I.ok.noex b o e)⟩
theorem aP.bk(I:aP X pins σ H s):∀b o,X.base.get? b=some o->s.heap.get? b=some o:=λb o e=>(I.bs b o e).1
theorem aP.mod(I:aP X pins σ H s):Mod X.K X.mg X.base:=I.ok.mod
theorem aP.kIn(I:aP X pins σ H s):X.K.In s.heap:=I.ok.mod.kin.keeps I.bk
theorem aP.lt(I:aP X pins σ H s):X.env.locals<s.heap.objs.size:=let ⟨_,hn,_⟩:=I.loc;hn.lt
theorem aP.sz(I:aP X pins σ H s):X.s_0.heap.objs.size<=s.heap.objs.size:=d6 I.ok.above (B9 I.lt)
theorem aP.nofs(I:aP X pins σ H s){a:Addr}(h:s.heap.objs.size<=a):a∉X.fs:=λhb=>by
 obtain⟨_,o,ho,_⟩:=I.ok.funs.mem hb
 exact absurd (gm (a9 ho) (d6 I.sz h)) (i8 _)
theorem aP.cne(I:aP X pins σ H s):∀x c,X.env.cells.lookup x=some c->c≠X.env.locals:=λx c e z=>by
 obtain⟨v,o,ho,hd⟩:=I.cell x c e
 obtain⟨m,⟨o',es,ep,jo,DP,_⟩,_⟩:=I.loc
 rw[z,jo] at ho;cases ho;rw[DP] at hd;cases hd
theorem aP.funs(I:aP X pins σ H s):s.heap.FunFrames X.base X.outer:=by
 have all:∀(l:List Env),(∀b∈zG l,b∈X.fs)->X.s_0.heap.FunFrames X.base l->s.heap.FunFrames X.base l:=by
  intro l
  induction l with
  |nil=>intro _ _;trivial
  |cons env r ih=>
   intro hs hl
   obtain⟨hk,⟨L,o,hf,hn,ho,hd⟩,hr⟩:=hl
   have hL:L∈X.fs:=hs L (by unfold zG;rw[B',hf];exact bg)
   obtain⟨sl,e⟩:=I.base.slot L o ho (I.ok.frf L hL) hL λz=>I.ok.exfs L z hL
   exact⟨hk,⟨L,_,hf,hn,e,hd⟩,ih (λb hb=>hs b (by unfold zG;rw[B',hf];exact az _ hb)) hr⟩
 exact all X.outer (λ_ hb=>hb) I.ok.funs
theorem aP.stack(I:aP X pins σ H s):s.heap.FunFrames X.base X.stack:=by
 rcases I.ok.stk with e|⟨e,hf⟩
 ·rw[e];exact I.funs
 ·rw[e]
  obtain⟨m,hn,_⟩:=I.loc
  refine .cons (by rw[I.ok.kind];decide) hf hn ?_ I.funs
  exact Heap.get?_none_of_le (d6 I.ok.bsz I.ok.above)
theorem aP.stkSub(I:aP X pins σ H s):∀b∈zG X.stack,b∈X.env.locals::X.fs:=λb hb=>by
 rcases I.ok.stk with e|⟨e,hf⟩
 ·rw[e] at hb;exact az _ hb
 ·rw[e] at hb
  unfold zG at hb
  rw[B',hf] at hb
  exact hb
theorem aP.stkFree(I:aP X pins σ H s):∀b∈zG X.stack,H b=none:=λb hb=>by
 rcases aw.mp (I.stkSub b hb) with e|hb
 ·rw[e];exact I.free
 ·obtain⟨_,o,ho,_⟩:=I.ok.funs.mem hb
  exact I.base.free b o ho (I.ok.frf b hb) λz=>I.ok.exfs b z hb
theorem aP.step{g':Array GenState}{t':Nat}{d':Drawn}{ch:List Addr}(I:aP X pins σ H s)
  (gr:∀b∈ch,(b∈X.ex\/X.s_0.heap.objs.size<=b)/\b≠X.env.locals/\(∀x c,X.env.cells.lookup x=some c->c≠b)/\∀p∈X.pn++pins,p.1≠b)
  (keep:∀b o,b≠X.env.locals->b∉X.fs->b∉ch->s.heap.get? b=some o->H b=none->h'.get? b=some o)
  (slot:∀b o,b≠X.env.locals->b∈X.fs->b∉ch->s.heap.get? b=some o->H b=none->∃sl,h'.get? b=some {o with slots:=sl}) (free:∀b o,b∉ch->s.heap.get? b=some o->H b=none->H' b=none)
  (there:∀b o,b∉ch->s.heap.get? b=some o->∃o',h'.get? b=some o')
  (tups:∀b xs,H b=some (.tup xs)->H' b=some (.tup xs)) (frzs:∀b o u,H b=some (.frz o u)->H' b=some (.frz o u)) (tbls:∀b ps,H b=some (.tbl ps)->∃more,H' b=some (.tbl (ps++more)))
  (ns:∀m,s.heap.Ns X.env.locals m->h'.Ns X.env.locals m) (hok:kT X.prog X.w H' h') (hg:AllBare g'):
  aP X pins σ H' {s with heap:=h',gens:=g',drawn:=d',toks:=t'}:=by
 have yg:∀b o,X.s_0.heap.get? b=some o->b≠X.env.locals:=λb o e=>df (gm (a9 e) I.ok.above)
 have o6:∀b o,X.s_0.heap.get? b=some o->b∉X.ex->b∉ch:=λb o e hx hb=>by
  rcases(gr b hb).1 with z|z
  ·exact hx z
  ·exact absurd (gm (a9 e) z) (i8 _)
 have cellK:∀x c,X.env.cells.lookup x=some c->∀v,s.heap.IsCell c v->h'.IsCell c v:=λx c e v ⟨o,ho,hd⟩=>by
  have lm:c∉ch:=λz=>(gr c z).2.2.1 x c e rfl
  by_cases hc:c∈X.fs
  ·obtain⟨sl,q⟩:=slot c o (I.cne x c e) hc lm ho (I.freeC x c e)
   exact⟨_,q,hd⟩
  ·exact⟨o,keep c o (I.cne x c e) hc lm ho (I.freeC x c e),hd⟩
 refine⟨I.ok,I.os,hg,⟨λb o e n hb hx=>?_,λb o e n hb hx=>?_,λb o e n hx=>?_,λb o e hx=>?_,λb xs e=>tups b xs (I.base.tups b xs e),λb o xs e=>frzs b o xs (I.base.frzs b o xs e),λb ps e=>?_⟩,?_,λx c e=>?_,?_,λx c e=>?_,λp hp=>?_,hok,I.len⟩
 ·exact keep b o (yg b o e) hb (o6 b o e hx) (I.base.keep b o e n hb hx) (I.base.free b o e n hx)
 ·obtain⟨sl,e1⟩:=I.base.slot b o e n hb hx
  obtain⟨DQ,e2⟩:=slot b _ (yg b o e) hb (o6 b o e hx) e1 (I.base.free b o e n hx)
  exact⟨DQ,e2⟩
 ·obtain⟨o',e1⟩:=I.base.there b o e hx
  exact free b o' (o6 b o e hx) e1 (I.base.free b o e n hx)
 ·obtain⟨o',e1⟩:=I.base.there b o e hx
  exact there b o' (o6 b o e hx) e1
 ·obtain⟨m1,e1⟩:=I.base.tbls b ps e
  obtain⟨m2,e2⟩:=tbls b _ e1
  exact⟨m1++m2,by rw[e2,LJ]⟩
 ·obtain⟨m,hn,hl⟩:=I.loc
  refine⟨m,ns m hn,λi x v e1 e2 e3=>?_⟩
  obtain⟨u,r,l⟩:=hl i x v e1 e2 e3
  refine⟨u,r,?_⟩
  rcases l with l|⟨k,c,e,z⟩
  ·exact .inl l
  ·exact .inr ⟨k,c,e,cellK x c e _ z⟩
 ·obtain⟨v,z⟩:=I.cell x c e
  exact⟨v,cellK x c e v z⟩
 ·obtain⟨m,⟨o,_,_,ho,_⟩,_⟩:=I.loc
  exact free _ o (λz=>(gr _ z).2.1 rfl) ho I.free
 ·obtain⟨v,o,ho,hd⟩:=I.cell x c e
  exact free c o (λz=>(gr c z).2.2.1 x c e rfl) ho (I.freeC x c e)
 ·obtain⟨e,n,ne,nf,d⟩:=I.pin p hp
  have lm:p.1∉ch:=λz=>(gr p.1 z).2.2.2 p hp rfl
  exact⟨keep p.1 p.2 ne nf lm e n,free p.1 p.2 lm e n,ne,nf,d⟩
theorem aP.un{t':Nat}(I:aP X pins σ H s)(u:Un X.fs [] H H' s.heap h')(hok:kT X.prog X.w H' h'):aP X pins σ H' {s with heap:=h',toks:=t'}:=by
 obtain⟨m,⟨o,es,ep,ho,r⟩,_⟩:=id I.loc
 obtain⟨sl,hL⟩:=u.any ho I.free (by simp)
 exact I.step (g':=s.gens) (d':=s.drawn) (ch:=[]) (λ_ z=>nomatch z) (λb o _ hb _ e n=>u.keep b o e n hb (by simp)) (λb o _ hb _ e n=>u.slot b o e n hb (by simp)) (λb o _ e n=>u.free b o e n (by simp)) (λb o _ e=>u.there b o e (by simp)) u.tups u.frzs u.tbls (λm' hm=>by
  obtain⟨o',ke,kf,jo,r'⟩:=hm
  rw[ho] at jo;cases jo
  exact⟨_,ke,kf,hL,r'⟩) hok I.bare
theorem aP.call{g':Array GenState}{t':Nat}{d':Drawn}{ch:List Addr}(I:aP X pins σ H s)(u:Un (zG X.stack) ch H H' s.heap h')(hok:kT X.prog X.w H' h')(hg:AllBare g')
  (gr:∀b∈ch,(b∈X.ex\/X.s_0.heap.objs.size<=b)/\b≠X.env.locals/\(∀x c,X.env.cells.lookup x=some c->c≠b)/\∀p∈X.pn++pins,p.1≠b):
  aP X pins σ H' {s with heap:=h',gens:=g',drawn:=d',toks:=t'}:=by
 obtain⟨m,⟨o,es,ep,ho,r⟩,_⟩:=id I.loc
 obtain⟨sl,hL⟩:=u.any ho I.free λz=>(gr _ z).2.1 rfl
 exact I.step (ch:=ch) gr (λb o hL hb hc e n=>u.keep b o e n (λz=>(aw.mp (I.stkSub b z)).elim hL hb) hc) (λb o _ _ hc e n=>u.any e n hc) (λb o hc e n=>u.free b o e n hc) (λb o hc e=>u.there b o e hc) u.tups u.frzs u.tbls (λm' hm=>by
  obtain⟨o',ke,kf,jo,r'⟩:=hm
  rw[ho] at jo;cases jo
  exact⟨_,ke,kf,hL,r'⟩) hok hg
theorem aP.turned{t':Nat}{it:Addr}(I:aP X pins σ H s)(k:∀b o,b≠it->s.heap.get? b=some o->h'.get? b=some o)(hn:H it=none)(hL:it≠X.env.locals)
  (h1:it∈X.ex\/X.s_0.heap.objs.size<=it) (h2:∀x c,X.env.cells.lookup x=some c->c≠it) (h3:∀p∈X.pn++pins,p.1≠it):aP X pins σ H {s with heap:=h',toks:=t'}:=by
 have yh:∀b u,H b=some u->b≠it:=λb u e z=>by rw[z,hn] at e;cases e
 refine I.step (g':=s.gens) (d':=s.drawn) (ch:=[it]) (λb hb=>?_) (λb o _ _ hc e _=>k b o (λz=>hc (by simp[z])) e) (λb o _ _ hc e _=>⟨o.slots,k b o (λz=>hc (by simp[z])) e⟩) (λ_ _ _ _ n=>n)
  (λb o hc e=>⟨o,k b o (λz=>hc (by simp[z])) e⟩) (λ_ _ e=>e) (λ_ _ _ e=>e) (λb ps e=>⟨#[],by rw[e];simp⟩) (λm hm=>?_) (λb u e=>?_) I.bare
 ·have e:b=it:=by simpa using hb
  subst e
  exact⟨h1,hL,h2,h3⟩
 ·obtain⟨o,es,ep,ho,r⟩:=hm
  exact⟨o,es,ep,k _ o (ao hL) ho,r⟩
 ·refine(I.hok b u e).stay (λc v hc q=>k c v ?_ q) (λ_ q=>q) λ_ _ q=>q
  rcases hc with z|z
  ·rw[z];exact yh b u e
  ·exact yh c _ z
theorem aP.tok(I:aP X pins σ H s)(t:Nat):aP X pins σ H {s with toks:=t}:=I.un (h':=s.heap) (t':=t) Un.refl I.hok
theorem aP.kept{t':Nat}(I:aP X pins σ H s)(k:∀b u,s.heap.get? b=some u->h'.get? b=some u):aP X pins σ H {s with heap:=h',toks:=t'}:=I.un (Un.kept k) (I.hok.kept k)
theorem aP.laid{a:Addr}{o:HO}{t':Nat}(I:aP X pins σ H s)(k:∀b u,s.heap.get? b=some u->h'.get? b=some u)(hp:s.heap.objs.size<=a)(new:cE X.prog X.w (upd H a o) h' a o):
  aP X pins σ (upd H a o) {s with heap:=h',toks:=t'}:=I.un (Un.laid k hp (I.hok.fresh hp)) (I.hok.laid k hp new)
theorem aP.write{x e:Addr}{o:HO}{t':Nat}(I:aP X pins σ H s)(mu:Xv (H x))(he:e=x\/H e=some (.own x))(k:∀b u,b≠e->s.heap.get? b=some u->h'.get? b=some u)(wb:∃u,h'.get? e=some u)
  (new:cE X.prog X.w (upd H x o) h' x o):aP X pins σ (upd H x o) {s with heap:=h',toks:=t'}:=I.un (Un.write mu he k wb) (I.hok.write mu he k wb new)
theorem aP.weak{ae:List (Option V)}(I:aP X pins σ H s)(hl:ae.length=σ.length)(w:∀(i:Nat) v,ae[i]?=some (some v)->σ[i]?=some (some v)):aP X pins ae H s:=
 ⟨I.ok,I.os,I.bare,I.base,let ⟨m,hn,ud⟩:=I.loc;⟨m,hn,λi x v e1 e2 e3=>ud i x v e1 (w i v e2) e3⟩,I.cell,I.free,I.freeC,I.pin,I.hok,hl.trans I.len⟩
theorem aP.pins_of{ug:List (Addr×Obj)}(I:aP X pins σ H s)(h:∀p∈ug,s.heap.get? p.1=some p.2/\H p.1=none/\p.1≠X.env.locals/\p.1∉X.fs/\∀v,p.2.data≠.cell v):aP X ug σ H s:=
 ⟨I.ok,I.os,I.bare,I.base,I.loc,I.cell,I.free,I.freeC,λp hp=>(c9.mp hp).elim (λz=>I.pin p (i9 _ z)) (h p),I.hok,I.len⟩
theorem wU{N:List Str}(hN:N.Nodup){i j:Nat}{x:Str}(a:N[i]?=some x)(b:N[j]?=some x):i=j:=by
 obtain⟨h1,e1⟩:=bh.mp a
 obtain⟨h2,e2⟩:=bh.mp b
 exact(List.getElem_inj hN).mp (e1.trans e2.symm)
theorem yT{M:Model}{A:Around}{E:Value->Shared->Prop}{i:Nat}{x:Str}{v:V}{u:Value}{Q:Unit->Shared->Prop}(I:aP X pins σ H s)(hN:X.N.Nodup)(hi:X.N[i]?=some x)(hx:Loc X.env.scope x)(r:bQ v u)
  (h:∀s',aP X pins (σ.set i (some v)) H s'->(∃a,Heap.SameBut a s.heap s'.heap/\(a=X.env.locals\/X.env.cells.lookup x=some a))->Q () s') (hf:X.fn x=true\/X.env.scope.names.lookup x=some .local:=by first|exact .inl rfl|exact .inr rfl|assumption):wpAny M A (storeName X.env x u) Q E s:=by
 obtain⟨m,hn,hl⟩:=id I.loc
 have NV:(X.env.scope.kind==.class||(X.env.scope.kind==.module && X.env.locals !=X.env.globals))=false:=by rw[I.ok.kind];rfl
 have IF:i<σ.length:=by rw[I.len];exact(bh.mp hi).1
 have cne:=I.cne
 have tracked:∀{a:Addr}{h':Heap},(∃o,s.heap.get? a=some o/\H a=none)->Heap.SameBut a s.heap h'->kT X.prog X.w H h':=λ{a h'} ha hs b ob e=>by
  obtain⟨_,_,wd⟩:=ha
  refine(I.hok b ob e).stay (λc w' hc q=>(hs.2 c ?_).trans q) (λ_ q=>q) λ_ _ q=>q
  rintro rfl
  rcases hc with rfl|hc
  ·rw[wd] at e;cases e
  ·rw[wd] at hc;cases hc
 rcases hx with hk|hk
 ·refine wpAny_storeName_local hk hn (λh' we hs=>?_) NV
  obtain⟨oL,_,_,o7,_⟩:=id hn
  refine h _ ⟨I.ok,I.os,I.bare,⟨λb o e n hb hx=>?_,λb o e n hb hx=>?_,I.base.free,λb o e hx=>?_,I.base.tups,I.base.frzs,I.base.tbls⟩,⟨_,we,λj y v' e1 e2 e3=>?_⟩,λy c e=>?_,I.free,I.freeC,λp hp=>?_,tracked ⟨oL,o7,I.free⟩ hs,by simpa using I.len⟩ ⟨_,hs,.inl rfl⟩
  ·exact(hs.2 b (df (gm (a9 e) I.ok.above))).trans (I.base.keep b o e n hb hx)
  ·obtain⟨sl,e1⟩:=I.base.slot b o e n hb hx
   exact⟨sl,(hs.2 b (df (gm (a9 e) I.ok.above))).trans e1⟩
  ·obtain⟨o',e1⟩:=I.base.there b o e hx
   exact⟨o',(hs.2 b (df (gm (a9 e) I.ok.above))).trans e1⟩
  ·by_cases hj:j=i
   ·subst hj
    rw[hi] at e1;cases e1
    rw[sw IF] at e2
    cases e2
    exact⟨u,r,.inl ⟨hk,by simp⟩⟩
   ·rw[vi (ao hj)] at e2
    obtain⟨u',r',q⟩:=hl j y v' e1 e2 e3
    refine⟨u',r',?_⟩
    rcases q with ⟨k,e⟩|⟨k,c,e,z⟩
    ·refine .inl ⟨k,?_⟩
     have:y≠x:=λe=>hj (wU hN e1 (e▸hi))
     simp[this,e]
    ·exact .inr ⟨k,c,e,z.sameBut hs (cne y c e)⟩
  ·obtain⟨w',z⟩:=I.cell y c e
   exact⟨w',z.sameBut hs (cne y c e)⟩
  ·obtain⟨e,n,ne,nf,d⟩:=I.pin p hp
   exact⟨(hs.2 p.1 ne).trans e,n,ne,nf,d⟩
 ·have yi:X.fn x=true:=by
   rcases hf with z|z
   ·exact z
   ·rw[z] at hk;cases hk
  obtain⟨c,hc⟩:=I.ok.has x (.inl hk)
  obtain⟨w',z⟩:=I.cell x c hc
  refine wpAny_storeName_cell I.ok.kind hk hc z (λh' mq hs=>?_)
  obtain⟨oc,IG,NW⟩:=id z
  refine h {s with heap:=h'} ⟨I.ok,I.os,I.bare,⟨λb o e n hb hx=>?_,λb o e n hb hx=>?_,I.base.free,λb o e hx=>?_,I.base.tups,I.base.frzs,I.base.tbls⟩,⟨m,hn.sameBut hs (ao (cne x c hc)),λj y v' e1 e2 e3=>?_⟩,λy c' e=>?_,I.free,I.freeC,λp hp=>?_,tracked ⟨oc,IG,I.freeC x c hc⟩ hs,by simpa using I.len⟩ ⟨c,hs,.inr hc⟩
  ·exact(hs.2 b (df (gm (a9 e) (I.ok.cab x c yi hc)))).trans (I.base.keep b o e n hb hx)
  ·obtain⟨sl,e1⟩:=I.base.slot b o e n hb hx
   exact⟨sl,(hs.2 b (df (gm (a9 e) (I.ok.cab x c yi hc)))).trans e1⟩
  ·obtain⟨o',e1⟩:=I.base.there b o e hx
   exact⟨o',(hs.2 b (df (gm (a9 e) (I.ok.cab x c yi hc)))).trans e1⟩
  ·by_cases hj:j=i
   ·subst hj
    rw[hi] at e1;cases e1
    rw[sw IF] at e2
    cases e2
    exact⟨u,r,.inr ⟨.inl hk,c,hc,mq⟩⟩
   ·rw[vi (ao hj)] at e2
    obtain⟨u',r',q⟩:=hl j y v' e1 e2 e3
    refine⟨u',r',?_⟩
    rcases q with q|⟨k,c',e,z'⟩
    ·exact .inl q
    ·refine .inr ⟨k,c',e,z'.sameBut hs ?_⟩
     rintro rfl
     exact hj (wU hN e1 (I.ok.inj _ _ _ e hc▸hi))
  ·by_cases AS:c'=c
   ·subst AS;exact⟨_,mq⟩
   ·obtain⟨w2,z2⟩:=I.cell y c' e
    exact⟨w2,z2.sameBut hs AS⟩
  ·obtain⟨e,n,ne,nf,d⟩:=I.pin p hp
   refine⟨(hs.2 p.1 ?_).trans e,n,ne,nf,d⟩
   intro q
   rw[q,IG] at e
   have q':oc=p.2:=Option.some.inj e
   exact d w' (by rw[<-q'];exact NW)
theorem wV{M:Model}{A:Around}{E:Value->Shared->Prop}{i:Nat}{x:Str}{v:V}{u:Value}{Q:Unit->Shared->Prop}(I:aP X pins σ H s)(hN:X.N.Nodup)(hi:X.N[i]?=some x)(hx:Loc X.env.scope x)(r:bQ v u)
  (h:∀s',aP X pins (σ.set i (some v)) H s'->Q () s') (hf:X.fn x=true\/X.env.scope.names.lookup x=some .local:=by first|exact .inl rfl|exact .inr rfl|assumption):wpAny M A (storeName X.env x u) Q E s:=
 yT I hN hi hx r (λs' I' _=>h s' I') hf
theorem aP.call'{s':Shared}{ch:List Addr}(I:aP X pins σ H s)(ho:s'.os=s.os)(u:Un (zG X.stack) ch H H' s.heap s'.heap)(hok:kT X.prog X.w H' s'.heap)(hg:AllBare s'.gens)
  (gr:∀b∈ch,(b∈X.ex\/X.s_0.heap.objs.size<=b)/\b≠X.env.locals/\(∀x c,X.env.cells.lookup x=some c->c≠b)/\∀p∈X.pn++pins,p.1≠b):aP X pins σ H' s':=by
 obtain⟨h',g',d',t',o'⟩:=s'
 have e:o'=s.os:=ho
 subst e
 exact I.call (g':=g') (t':=t') (d':=d') u hok hg gr
end
abbrev XK:=Value->Option Addr->Hp->Prop
abbrev St:=List (Option V)
abbrev VK:=V->Hp->Prop
abbrev TE:=St->Hp->VK->Prop
abbrev TT:=St->Hp->(Bool->Hp->Prop)->Prop
abbrev TA:=St->Hp->(List V->Hp->Prop)->Prop
structure fY where
 nx:St->Hp->Prop
 rt:VK
 bk:St->Hp->Prop:=λ_ _=>False
 ct:St->Hp->Prop:=λ_ _=>False
abbrev TS:=fY->St->Hp->Prop
def EP(X:Cx)(pins:List (Addr×Obj))(σ:St)(Q:VK)(u:Value)(s':Shared):Prop:=∃v H',aP X pins σ H' s'/\bQ v u/\Q v H'
def TP(X:Cx)(pins:List (Addr×Obj))(σ:St)(Q:Bool->Hp->Prop)(b:Bool)(s':Shared):Prop:=∃H',aP X pins σ H' s'/\Q b H'
def AP(X:Cx)(pins:List (Addr×Obj))(σ:St)(Q:List V->Hp->Prop)(us:List Value)(s':Shared):Prop:=∃vs H',aP X pins σ H' s'/\bA vs us/\Q vs H'
def SP(X:Cx)(pins:List (Addr×Obj))(D:fY)(f:Flow)(s':Shared):Prop:=
 match f with
 |.next=>∃ae H',aP X pins ae H' s'/\D.nx ae H'
 |.brk=>∃ae H',aP X pins ae H' s'/\D.bk ae H'
 |.cont=>∃ae H',aP X pins ae H' s'/\D.ct ae H'
 |.ret u=>∃v ae H',aP X pins ae H' s'/\bQ v u/\D.rt v H'
def PE(X:Cx)(e:Expr)(t:TE):Prop:=
 ∀(pins:List (Addr×Obj)) (s:Shared) (σ:St) (H:Hp) (Q:VK),aP X pins σ H s->t σ H Q->wpAny (model X.prog X.w) X.A (eval e X.env) (EP X pins σ Q) X.xe s
def PT(X:Cx)(e:Expr)(t:TT):Prop:=
 ∀(pins:List (Addr×Obj)) (s:Shared) (σ:St) (H:Hp) (Q:Bool->Hp->Prop),aP X pins σ H s->t σ H Q->wpAny (model X.prog X.w) X.A (isTrue e X.env (eval e X.env)) (TP X pins σ Q) X.xe s
def PW(X:Cx)(e:Expr)(t:TT):Prop:=
 ∀(whole:Sem Value) (pins:List (Addr×Obj)) (s:Shared) (σ:St) (H:Hp) (Q:Bool->Hp->Prop),aP X pins σ H s->t σ H Q->wpAny (model X.prog X.w) X.A (isTrue e X.env whole) (TP X pins σ Q) X.xe s
theorem PW.pt{X:Cx}{e:Expr}{t:TT}(h:PW X e t):PT X e t:=h _
def PA(X:Cx)(es:List Expr)(t:TA):Prop:=
 ∀(pos:Pos) (pins:List (Addr×Obj)) (s:Shared) (σ:St) (H:Hp) (Q:List V->Hp->Prop),aP X pins σ H s->t σ H Q->wpAny (model X.prog X.w) X.A (spliced (backTo pos (starEach es X.env))) (AP X pins σ Q) X.xe s
def PS(X:Cx)(st:Stmt)(t:TS):Prop:=
 ∀(pins:List (Addr×Obj)) (s:Shared) (σ:St) (H:Hp) (D:fY),aP X pins σ H s->t D σ H->wpAny (model X.prog X.w) X.A (exec st X.env) (SP X pins D) X.xe s
def zI(X:Cx)(st:List Stmt)(t:TS):Prop:=
 ∀(pins:List (Addr×Obj)) (s:Shared) (σ:St) (H:Hp) (D:fY),aP X pins σ H s->t D σ H->wpAny (model X.prog X.w) X.A (execs st X.env) (SP X pins D) X.xe s
theorem cD{α:Type}{t:Sem α}{Q Q':α->Shared->Prop}{M:Model}{A:Around}{E:Value->Shared->Prop}{s:Shared}(h:wpAny M A t Q E s)(hQ:∀a s,Q a s->Q' a s):wpAny M A t Q' E s:=iy h hQ λ_ _ x=>x
section
variable {X:Cx}
theorem bin{a b:Expr}{ta tb:TE}(ha:PE X a ta)(hb:PE X b tb){pins:List (Addr×Obj)}{s:Shared}{σ:St}{H:Hp}{R:V->V->Hp->Prop}(I:aP X pins σ H s)(h:ta σ H λx H1=>tb σ H1 λy H2=>R x y H2)
  {α:Type} {Q:α->Shared->Prop} {f:Value->Value->Sem α}
  (hf:∀v u s2 x y H2,aP X pins σ H2 s2->bQ x v->bQ y u->R x y H2->wpAny (model X.prog X.w) X.A (f v u) Q X.xe s2):
  wpAny (model X.prog X.w) X.A (eval a X.env) (λv bp=>wpAny (model X.prog X.w) X.A (eval b X.env) (λu dh=>wpAny (model X.prog X.w) X.A (f v u) Q X.xe dh) X.xe bp) X.xe s:=by
 refine cD (ha pins s σ H _ I h) λv s1 ⟨x,H1,I1,r1,q1⟩=>?_
 refine cD (hb pins s1 σ H1 _ I1 q1) λu s2 ⟨y,H2,I2,r2,q2⟩=>?_
 exact hf v u s2 x y H2 I2 r1 r2 q2
def eF(i:Nat):TE:=fun σ H Q=>∃v,σ[i]?=some (some v)/\Q v H
def tC(v:V):TE:=λ_ H Q=>Q v H
theorem Zt{i:Nat}{x:Str}{pos:Pos}(hN:X.N[i]?=some x)(hv:Vis X.env.scope x)(hd:(x==("__debug__":Str))=false:=by decide)(gt:(x==("__classdict__":Str))=false:=by decide):PE X (.Name x pos) (eF i):=by
 intro pins s σ H Q I h
 obtain⟨v,e,h⟩:=h
 obtain⟨m,hn,hl⟩:=I.loc
 obtain⟨u,r,l⟩:=hl i x v hN e hv
 have fin:EP X pins σ Q u s:=⟨v,H,I,r,h⟩
 rcases l with ⟨hk,hm⟩|⟨hk,c,hc,o8⟩
 ·exact wpAny_Name (wpAny_loadName_local I.ok.kind hk hn hm fin) hd
 ·rcases hk with hk|hk
  ·exact wpAny_Name (wpAny_loadName_cell I.ok.kind hk hc o8 fin) hd
  ·exact wpAny_Name (wpAny_loadName_free I.ok.kind hk hc o8 fin gt) hd
theorem aJ{i j pos}:PE X (.Constant (.int i) j pos) (tC (.int i)):=λ_ _ _ H _ I h=>wpAny_Constant_int ⟨.int i,H,I.tok _,⟨_,rfl⟩,h⟩
theorem mR{b j pos}:PE X (.Constant (.bool b) j pos) (tC (.bl b)):=λ_ _ _ H _ I h=>Constant_bool ⟨.bl b,H,I,rfl,h⟩
theorem vP{j pos}:PE X (.Constant .none j pos) (tC .non):=λ_ _ _ H _ I h=>Constant_none ⟨.non,H,I,rfl,h⟩
theorem gM{x j pos}:PE X (.Constant (.str x) j pos) (tC (.str x)):=λ_ _ _ H _ I h=>Calls.Constant_str ⟨.str x,H,I.tok _,⟨_,rfl⟩,h⟩
def Gl(X:Cx)(x:Str):Prop:=X.env.kindOf x=some .globalImplicit
theorem jD{E:Value->Shared->Prop}{pins:List (Addr×Obj)}{s:Shared}{σ:St}{H:Hp}{x:Str}{u:Value}{pos:Pos}{Q:Value->Shared->Prop}(I:aP X pins σ H s)(hg:Gl X x)(hm:X.mg x=some u)(h:Q u s)
  (hd:(x==("__debug__":Str))=false:=by decide):wpAny (model X.prog X.w) X.A (eval (.Name x pos) X.env) Q E s:=
 LK I.ok.kind hg (Calls.loadGlobal_global (by rw[I.ok.glob];exact I.mod.glob.keeps I.bk) hm h) hd
theorem jR{E:Value->Shared->Prop}{pins:List (Addr×Obj)}{s:Shared}{σ:St}{H:Hp}{x:Str}{u:Value}{pos:Pos}{Q:Value->Shared->Prop}(I:aP X pins σ H s)(hg:Gl X x)(hm:X.mg x=none)(hv:bootBuiltins x=some u)(h:Q u s)
  (hn:x≠"__name__":=by decide) (hd:(x==("__debug__":Str))=false:=by decide):wpAny (model X.prog X.w) X.A (eval (.Name x pos) X.env) Q E s:=by
 obtain⟨mb,h1,h2⟩:=I.mod.blt
 exact LK I.ok.kind hg (Calls.loadGlobal_builtin (by rw[I.ok.glob];exact I.mod.glob.keeps I.bk) hm (by rw[I.ok.blt];exact h1.keeps I.bk) ((h2 x hn).trans hv) h) hd
theorem Cg{x:Str}{v:V}{u:Value}{pos:Pos}(hg:Gl X x)(hm:X.mg x=some u)(r:bQ v u)(hd:(x==("__debug__":Str))=false:=by decide):PE X (.Name x pos) (tC v):=
 λ_ _ _ H _ I h=>jD I hg hm ⟨v,H,I,r,h⟩ hd
def t2I(ta tb:TE)(k:Int->Int->Hp->Prop):St->Hp->Prop:=fun σ H=>ta σ H λx H1=>tb σ H1 λy H2=>∃i j,x=.int i/\y=.int j/\k i j H2
variable {a b:Expr} {ta tb:TE} {pos:Pos}
def PC(X:Cx)(op:CmpOp)(a b:Expr)(t:TE):Prop:=
 ∀(pins:List (Addr×Obj)) (s:Shared) (σ:St) (H:Hp) (Q:VK),aP X pins σ H s->t σ H Q->
  wpAny (model X.prog X.w) X.A (eval a X.env) (λv bp=>wpAny (model X.prog X.w) X.A (eval b X.env) (λu dh=>wpAny (model X.prog X.w) X.A (compareOp op v u) (EP X pins σ Q) X.xe dh) X.xe bp) X.xe s
theorem Qr(b:Expr){op:CmpOp}(h:op≠.In)(h2:op≠.NotIn):behindInMarks op b=false:=by
 have e1:(op==CmpOp.In)=false:=by cases op<;>first|rfl|exact absurd rfl h
 have e2:(op==CmpOp.NotIn)=false:=by cases op<;>first|rfl|exact absurd rfl h2
 cases b<;>simp[behindInMarks,e1,e2]
def Mt(p:Int->Int->Bool)(ta tb:TE):TE:=fun σ H Q=>t2I ta tb (λi j H2=>Q (.bl (p i j)) H2) σ H
abbrev tLt:TE->TE->TE:=Mt λi j=>decide (i<j)
abbrev tLe:TE->TE->TE:=Mt λi j=>decide (i<=j)
abbrev tGt:TE->TE->TE:=Mt λi j=>decide (j<i)
abbrev aEe:TE->TE->TE:=Mt λi j=>decide (i=j)
abbrev aDi:TE->TE->TE:=Mt λi j=> !decide (i=j)
theorem wI{op:CmpOp}{p:Int->Int->Bool}(ha:PE X a ta)(hb:PE X b tb)
  (rule:∀(i j:Int)(t u:Tok)(Q:Value->Shared->Prop)(s:Shared),Q (.bool (p i j)) s->wpAny (model X.prog X.w) X.A (compareOp op (.int i t) (.int j u)) Q X.xe s):PC X op a b (Mt p ta tb):=by
 intro pins s σ H Q I h
 refine bin ha hb I h λv u s2 x y H2 I2 rx ry q=>?_
 obtain⟨i,j,rfl,rfl,q⟩:=q
 obtain⟨t,rfl⟩:=rx
 obtain⟨t',rfl⟩:=ry
 exact rule i j t t' _ s2 ⟨.bl _,H2,I2,rfl,q⟩
theorem Ix(ha:PE X a ta)(hb:PE X b tb):PC X .Lt a b (tLt ta tb):=wI ha hb λ_ _ _ _ _ _ h=>lt_int h
theorem aBf(ha:PE X a ta)(hb:PE X b tb):PC X .LtE a b (tLe ta tb):=wI ha hb λ_ _ _ _ _ _ h=>le_int h
theorem qM(ha:PE X a ta)(hb:PE X b tb):PC X .Gt a b (tGt ta tb):=wI ha hb λ_ _ _ _ _ _ h=>gt_int h
theorem Yx(ha:PE X a ta)(hb:PE X b tb):PC X .Eq a b (aEe ta tb):=wI ha hb λ_ _ _ _ _ _ h=>eq_int (by rw[CA];exact h)
theorem Yp(ha:PE X a ta)(hb:PE X b tb):PC X .NotEq a b (aDi ta tb):=wI ha hb λ_ _ _ _ _ _ h=>ne_int (by rw[bne,CA];exact h)
def tB(t:TE):TT:=fun σ H Q=>t σ H λx H1=>∃c,x=.bl c/\Q c H1
theorem dE{op:CmpOp}{t:TE}(h:PC X op a b t)(h1:behindInMarks op b=false:=by first|exact Qr _ (by decide) (by decide)|rfl):PT X (.Compare a [op] [b] pos) (tB t):=by
 intro pins s σ H Q I hw
 refine wpAny_isTrue_Compare1 (cD (h pins s σ H _ I hw) λv s1 h1=>cD h1 λu s2 h2=>cD h2 λc s3 ⟨x,H1,I1,r1,q1⟩=>?_) h1
 obtain⟨d,rfl,q⟩:=q1
 cases r1
 exact wpAny_truthy_bool ⟨H1,I1,q⟩
theorem dY{e:Expr}{t:TE}(h:PE X e t)(he:∀whole,isTrue e X.env whole=(do let v <-whole;standAt e.pos;holding [v] (truthy v)):=by intro _;rfl):PT X e (tB t):=by
 intro pins s σ H Q I hw
 refine isTrue_plain (cD (h pins s σ H _ I hw) λv s1 ⟨x,H1,I1,r1,q1⟩=>?_) (he _)
 obtain⟨d,rfl,q⟩:=q1
 cases r1
 exact wpAny_truthy_bool ⟨H1,I1,q⟩
variable {tA AT:TT} {rest:List Expr}
def aDe(t u:TT):TT:=fun σ H Q=>t σ H λc H1=>if c=true then u σ H1 Q else Q false H1
def tOr(t u:TT):TT:=fun σ H Q=>t σ H λc H1=>if c=true then Q true H1 else u σ H1 Q
def aEg(t:TT):TT:=fun σ H Q=>t σ H λc H1=>Q (!c) H1
theorem gP(ha:PT X a tA):PW X (.BoolOp .And [a] pos) tA:=by
 intro wh pins s σ H Q I h
 refine isTrue_and (cD (ha pins s σ H Q I h) λc s1 e=>?_)
 cases c with
 |true=>exact isTrue_and_nil e
 |false=>exact e
theorem Bm(ha:PT X a tA):PW X (.BoolOp .Or [a] pos) tA:=by
 intro wh pins s σ H Q I h
 refine isTrue_or (cD (ha pins s σ H Q I h) λc s1 e=>?_)
 cases c with
 |false=>exact isTrue_or_nil e
 |true=>exact e
theorem gA(ha:PT X a tA)(hb:PW X (.BoolOp .And (b::rest) pos) AT):PW X (.BoolOp .And (a::b::rest) pos) (aDe tA AT):=by
 intro wh pins s σ H Q I h
 refine isTrue_and (cD (ha pins s σ H _ I h) λc s1 ⟨H1,I1,q1⟩=>?_)
 cases c with
 |true=>exact hb wh pins s1 σ H1 Q I1 q1
 |false=>exact⟨H1,I1,q1⟩
theorem Kx(ha:PT X a tA)(hb:PW X (.BoolOp .Or (b::rest) pos) AT):PW X (.BoolOp .Or (a::b::rest) pos) (tOr tA AT):=by
 intro wh pins s σ H Q I h
 refine isTrue_or (cD (ha pins s σ H _ I h) λc s1 ⟨H1,I1,q1⟩=>?_)
 cases c with
 |true=>exact⟨H1,I1,q1⟩
 |false=>exact hb wh pins s1 σ H1 Q I1 q1
theorem kX(ha:PT X a tA):PT X (.UnaryOp .Not a pos) (aEg tA):=by
 intro pins s σ H Q I h
 exact isTrue_not (ha pins s σ H (λc H1=>Q (!c) H1) I h)
def aBu(ta tb:TE):TE:=fun σ H Q=>ta σ H λx H1=>∃c,x=.bl c/\if c=true then tb σ H1 Q else Q (.bl false) H1
def aDg(ta tb:TE):TE:=fun σ H Q=>ta σ H λx H1=>∃c,x=.bl c/\if c=true then Q (.bl true) H1 else tb σ H1 Q
def aB7(ta:TE):TE:=fun σ H Q=>ta σ H λx H1=>∃c,x=.bl c/\Q (.bl (!c)) H1
theorem sF{op}{t:TE}(h:PE X a t):PE X (.BoolOp op [a] pos) t:=λpins s σ H Q I hw=>BoolOp_one (h pins s σ H Q I hw)
theorem sK(ha:PE X a ta)(hb:PE X (.BoolOp .And (b::rest) pos) tb):PE X (.BoolOp .And (a::b::rest) pos) (aBu ta tb):=by
 intro pins s σ H Q I h
 refine BoolOp_and (cD (ha pins s σ H _ I h) λv s1 ⟨x,H1,I1,r1,q1⟩=>?_)
 obtain⟨c,rfl,q1⟩:=q1
 cases r1
 refine wpAny_truthy_bool ?_
 cases c with
 |true=>exact hb pins s1 σ H1 Q I1 q1
 |false=>exact⟨.bl false,H1,I1,rfl,q1⟩
theorem Rf(ha:PE X a ta)(hb:PE X (.BoolOp .Or (b::rest) pos) tb):PE X (.BoolOp .Or (a::b::rest) pos) (aDg ta tb):=by
 intro pins s σ H Q I h
 refine BoolOp_or (cD (ha pins s σ H _ I h) λv s1 ⟨x,H1,I1,r1,q1⟩=>?_)
 obtain⟨c,rfl,q1⟩:=q1
 cases r1
 refine wpAny_truthy_bool ?_
 cases c with
 |false=>exact hb pins s1 σ H1 Q I1 q1
 |true=>exact⟨.bl true,H1,I1,rfl,q1⟩
theorem Zz(ha:PE X a ta):PE X (.UnaryOp .Not a pos) (aB7 ta):=by
 intro pins s σ H Q I h
 refine UnaryOp_ (cD (ha pins s σ H _ I h) λv s1 ⟨x,H1,I1,r1,q1⟩=>?_)
 obtain⟨c,rfl,q1⟩:=q1
 cases r1
 exact not_of (wpAny_truthy_bool ⟨.bl (!c),H1,I1,rfl,q1⟩)
def tIf(t:TT)(ta tb:TE):TE:=fun σ H Q=>t σ H λc H1=>if c=true then ta σ H1 Q else tb σ H1 Q
theorem Qo{c:Expr}(hc:PT X c tA)(ha:PE X a ta)(hb:PE X b tb):PE X (.IfExp c a b pos) (tIf tA ta tb):=by
 intro pins s σ H Q I h
 refine wpAny_IfExp (cD (hc pins s σ H _ I h) λd s1 ⟨H1,I1,q1⟩=>?_)
 cases d with
 |true=>exact ha pins s1 σ H1 Q I1 q1
 |false=>exact hb pins s1 σ H1 Q I1 q1
end
def cP(K:PySem.W.Frag)(H:Hp)(a:Addr)(xs:List V):Prop:=
 Rd H a (.lst xs)\/
  ∃(o:Obj)(its:Array Value)(n:Nat),K.lookup a=some o/\o.cls=.type "list"/\o.dict=none/\o.data=.seq its n/\its.size<=sizeLine/\bA xs its.toList
def cN(K:PySem.W.Frag)(H:Hp)(a:Addr)(xs:List V):Prop:=
 Rd H a (.tup xs)\/
  ∃(o:Obj)(its:Array Value)(n:Nat),K.lookup a=some o/\o.cls=.type "tuple"/\o.data=.seq its n/\its.size<=sizeLine/\bA xs its.toList
def aD5:Value->Option V
 |.none=>some .non
 |.bool b=>some (.bl b)
 |.int i _=>some (.int i)
 |.str x _=>some (.str x)
 |.bytes b _=>some (.byt b)
 |.float b _=>some (.flt b)
 |.ref a=>some (.ref a)
 |.type n=>some (.ty n)
 |_=>none
theorem bQ.abs{x:V}{u:Value}(r:bQ x u):aD5 u=some x:=by
 cases x with
 |non=>cases r;rfl
 |bl _=>cases r;rfl
 |int _=>obtain⟨t,rfl⟩:=r;rfl
 |str _=>obtain⟨t,rfl⟩:=r;rfl
 |byt _=>obtain⟨t,rfl⟩:=r;rfl
 |flt _=>obtain⟨t,rfl⟩:=r;rfl
 |ref _=>cases r;rfl
 |ty _=>cases r;rfl
theorem bQ.inj{x y:V}{u:Value}(r:bQ x u)(q:bQ y u):x=y:=Option.some.inj (r.abs.symm.trans q.abs)
theorem bA.inj:∀{xs ys:List V}{us:List Value},bA xs us->bA ys us->xs=ys
 |_,_,_,.nil,.nil=>rfl
 |_,_,_,.cons r t,.cons r' t'=>by rw[r.inj r',bA.inj t t']
section
variable {X:Cx} {pins:List (Addr×Obj)} {σ:St} {H:Hp} {s:Shared} {a:Addr} {xs ys:List V}
theorem cP.of{K:PySem.W.Frag}(h:H a=some (.lst xs)):cP K H a xs:=.inl (.inl h)
theorem cN.of{K:PySem.W.Frag}(h:H a=some (.tup xs)):cN K H a xs:=.inl (.inl h)
theorem aP.list(I:aP X pins σ H s)(h:cP X.K H a xs):∃its:List Value,bA xs its/\PlainL s.heap a its.toArray/\xs.length<=sizeLine:=by
 rcases h with h|⟨o,its,n,hk,hc,hd,hs,hz,r⟩
 ·obtain⟨z,its,n,r,e⟩:=h.ok I.hok
  exact⟨its,r,⟨_,n,e,rfl,rfl,rfl⟩,z⟩
 ·refine⟨its.toList,r,⟨o,n,I.kIn a o hk,hc,hd,by simpa using hs⟩,?_⟩
  have e:=r.length
  simp only[l9] at e
  omega
theorem aP.tuple(I:aP X pins σ H s)(h:cN X.K H a xs):∃its:List Value,bA xs its/\IsTup s.heap a its.toArray/\xs.length<=sizeLine:=by
 rcases h with h|⟨o,its,n,hk,hc,hs,hz,r⟩
 ·obtain⟨z,its,r,p⟩:=h.ok I.hok
  exact⟨its,r,p,z⟩
 ·refine⟨its.toList,r,⟨o,I.kIn a o hk,hc,n,by simpa using hs⟩,?_⟩
  have e:=r.length
  simp only[l9] at e
  omega
theorem aP.list_inj(I:aP X pins σ H s)(h:cP X.K H a xs)(h':cP X.K H a ys):xs=ys:=by
 obtain⟨its,r,⟨o,n,e,_,_,d⟩,_⟩:=I.list h
 obtain⟨its',r',⟨o',n',e',_,_,d'⟩,_⟩:=I.list h'
 rw[e] at e';cases e'
 rw[d] at d'
 injection d' with d1 _
 have:its=its':=by simpa using congrArg Array.toList d1
 subst this
 exact r.inj r'
theorem aP.tuple_inj(I:aP X pins σ H s)(h:cN X.K H a xs)(h':cN X.K H a ys):xs=ys:=by
 obtain⟨its,r,⟨o,e,_,n,d⟩,_⟩:=I.tuple h
 obtain⟨its',r',⟨o',e',_,n',d'⟩,_⟩:=I.tuple h'
 rw[e] at e';cases e'
 rw[d] at d'
 injection d' with d1 _
 have:its=its':=by simpa using congrArg Array.toList d1
 subst this
 exact r.inj r'
end
abbrev Cx.wish(X:Cx)(E:Value->Shared->Prop):Cx:={X with xe:=E}
abbrev Cx.nox(X:Cx):Cx:=X.wish λ_ _=>False
theorem Cx.Ok.wish{X:Cx}(ok:X.Ok)(E:Value->Shared->Prop):(X.wish E).Ok:=
 ⟨ok.mod,ok.kind,ok.glob,ok.blt,ok.above,ok.inj,ok.has,ok.cab,ok.hd,ok.frames,ok.stk,ok.exf,ok.bs,ok.bsz,ok.noex,ok.exfs,ok.funs,ok.frf⟩
theorem Cx.Ok.unwish{X:Cx}{E:Value->Shared->Prop}(ok:(X.wish E).Ok):X.Ok:=
 ⟨ok.mod,ok.kind,ok.glob,ok.blt,ok.above,ok.inj,ok.has,ok.cab,ok.hd,ok.frames,ok.stk,ok.exf,ok.bs,ok.bsz,ok.noex,ok.exfs,ok.funs,ok.frf⟩
section
variable {X:Cx} {pins:List (Addr×Obj)} {σ:St} {H:Hp} {s:Shared} {E:Value->Shared->Prop}
theorem aP.wish(I:aP X pins σ H s)(E:Value->Shared->Prop):aP (X.wish E) pins σ H s:=⟨I.ok.wish E,I.os,I.bare,I.base,I.loc,I.cell,I.free,I.freeC,I.pin,I.hok,I.len⟩
theorem aP.unwish(I:aP (X.wish E) pins σ H s):aP X pins σ H s:=⟨I.ok.unwish,I.os,I.bare,I.base,I.loc,I.cell,I.free,I.freeC,I.pin,I.hok,I.len⟩
theorem SP.unwish{D:fY}{f:Flow}{s':Shared}(h:SP (X.wish E) pins D f s'):SP X pins D f s':=by
 cases f with
 |next=>obtain⟨ae,H',I,q⟩:=h;exact⟨ae,H',I.unwish,q⟩
 |brk=>obtain⟨ae,H',I,q⟩:=h;exact⟨ae,H',I.unwish,q⟩
 |cont=>obtain⟨ae,H',I,q⟩:=h;exact⟨ae,H',I.unwish,q⟩
 |ret u=>obtain⟨v,ae,H',I,r,q⟩:=h;exact⟨v,ae,H',I.unwish,r,q⟩
theorem zI.nox{st:List Stmt}{t:TS}(h:zI X.nox st t):zI X st t:=λpins s σ H D I hw=>
 iy (h pins s σ H D (I.wish _) hw) (λ_ _ q=>q.unwish) λ_ _ z=>False.elim z
end
section
variable {X:Cx} {st:Stmt} {rest:List Stmt} {t u:TS} {e:Expr} {te:TE} {pos:Pos}
def Yb:TS:=λD σ H=>D.nx σ H
def Cu(t u:TS):TS:=λD σ H=>t {D with nx:=u D} σ H
theorem bX:zI X [] Yb:=λ_ _ σ H _ I h=>vj ⟨σ,H,I,h⟩
theorem aE(h1:PS X st t)(h2:zI X rest u):zI X (st::rest) (Cu t u):=by
 intro pins s σ H D I h
 refine wpAny_execs_cons (cD (h1 pins s σ H {D with nx:=u D} I h) λf s1 q=>?_)
 cases f with
 |next=>
  obtain⟨ae,H',I',q⟩:=q
  exact h2 pins s1 ae H' D I' q
 |ret v=>exact q
 |brk=>exact q
 |cont=>exact q
theorem aG(h1:PS X st t):zI X [st] t:=by
 intro pins s σ H D I h
 refine wpAny_execs_cons (cD (h1 pins s σ H D I h) λf s1 q=>?_)
 cases f with
 |next=>exact vj q
 |ret v=>exact q
 |brk=>exact q
 |cont=>exact q
theorem aP.quiet{pins:List (Addr×Obj)}{σ:St}{H:Hp}{s:Shared}(I:aP X pins σ H s):interactive X.env=false:=by simp[interactive,I.ok.kind]
def yZ(te:TE):TS:=λD σ H=>te σ H λ_ H1=>D.nx σ H1
theorem cA(he:PE X e te)(hs:swapsWith e none pos.line X.env=pure false:=by rfl):PS X (.Expr e pos) (yZ te):=by
 intro pins s σ H D I h
 exact wpAny_Expr_any (cD (he pins s σ H _ I h) λv s1 ⟨x,H1,I1,r1,q1⟩=>⟨σ,H1,I1,q1⟩) I.quiet hs
def Zx(te:TE):TS:=λD σ H=>te σ H D.rt
theorem aW(he:PE X e te):PS X (.Return (some e) pos) (Zx te):=by
 intro pins s σ H D I h
 exact wpAny_Return_some (cD (he pins s σ H _ I h) λv s1 ⟨x,H1,I1,r1,q1⟩=>⟨x,σ,H1,I1,r1,q1⟩)
def Za(c:TT)(t u:TS):TS:=λD σ H=>c σ H λb H1=>if b=true then t D σ H1 else u D σ H1
theorem dZ{c:Expr}{a b:List Stmt}{tc:TT}(hc:PT X c tc)(ha:zI X a t)(hb:zI X b u):PS X (.If c a b pos) (Za tc t u):=by
 intro pins s σ H D I h
 refine wpAny_If (cD (hc pins s σ H _ I h) λd s1 ⟨H1,I1,q1⟩=>?_)
 cases d with
 |true=>exact ha pins s1 σ H1 D I1 q1
 |false=>exact hb pins s1 σ H1 D I1 q1
end
abbrev TG:=V->St->Hp->(St->Hp->Prop)->Prop
abbrev TGs:=List V->St->Hp->(St->Hp->Prop)->Prop
def PG(X:Cx)(target:Expr)(t:TG):Prop:=
 ∀(pins:List (Addr×Obj)) (s:Shared) (σ:St) (H:Hp) (v:V) (u:Value) (Q:St->Hp->Prop),aP X pins σ H s->bQ v u->t v σ H Q->
  wpAny (model X.prog X.w) X.A (assign target X.env u) (λ_ s'=>∃ae H',aP X pins ae H' s'/\Q ae H') X.xe s
def PGs(X:Cx)(ts:List Expr)(t:TGs):Prop:=
 ∀(pins:List (Addr×Obj)) (s:Shared) (σ:St) (H:Hp) (vs:List V) (us:List Value) (Q:St->Hp->Prop),aP X pins σ H s->bA vs us->t vs σ H Q->
  wpAny (model X.prog X.w) X.A (assignInOrder ((assignEach ts X.env).map (·.2)) us) (λ_ s'=>∃ae H',aP X pins ae H' s'/\Q ae H') X.xe s
abbrev Yn:=V->V->V->Hp->(Hp->Prop)->Prop
def aCy(X:Cx)(t:Yn):Prop:=
 ∀(pins:List (Addr×Obj)) (s:Shared) (σ:St) (H:Hp) (o i v:V) (ov iv u:Value) (Q:Hp->Prop),aP X pins σ H s->bQ o ov->bQ i iv->bQ v u->t o i v H Q->
  wpAny (model X.prog X.w) X.A (setItem ov iv u) (λ_ s'=>∃H',aP X pins σ H' s'/\Q H') X.xe s
section
variable {X:Cx} {pos:Pos}
def mG(i:Nat):TG:=λv σ H Q=>Q (σ.set i (some v)) H
theorem bH{i:Nat}{x:Str}(hN:X.N.Nodup)(hi:X.N[i]?=some x)(hx:Loc X.env.scope x)(hf:X.fn x=true\/X.env.scope.names.lookup x=some .local:=by first|exact .inl rfl|exact .inr rfl|assumption):PG X (.Name x pos) (mG i):=by
 intro pins s σ H v u Q I r h
 exact wpAny_assign_Name (wV I hN hi hx r (λs' I'=>⟨_,H,I',h⟩) hf)
def aDk:TGs:=λvs σ H Q=>vs=[]/\Q σ H
def aCr(t:TG)(u:TGs):TGs:=λvs σ H Q=>∃v r,vs=v::r/\t v σ H λae H'=>u r ae H' Q
theorem iC:PGs X [] aDk:=by
 intro pins s σ H vs us Q I r h
 obtain⟨e,h⟩:=h
 subst e
 cases r
 exact assignInOrder_nil ⟨σ,H,I,h⟩
theorem cK{e:Expr}{es:List Expr}{t:TG}{u:TGs}(h1:PG X e t)(h2:PGs X es u)
  (hs:(assignEach (e::es) X.env).map (·.2)=assign e X.env::(assignEach es X.env).map (·.2):=by rfl):PGs X (e::es) (aCr t u):=by
 intro pins s σ H vs us Q I r h
 obtain⟨v,vr,e1,h⟩:=h
 subst e1
 cases r with
 |cons r rr=>
  rw[hs]
  refine assignInOrder_cons (cD (h1 pins s σ H _ _ _ I r h) λ_ s1 ⟨wf,H1,I1,q1⟩=>?_)
  exact h2 pins s1 wf H1 _ _ Q I1 rr q1
def aDl(K:PySem.W.Frag)(n:Nat)(t:TGs):TG:=λv σ H Q=>∃a xs,v=.ref a/\cN K H a xs/\xs.length=n/\t xs σ H Q
theorem lG{es:List Expr}{k:Nat}{t:TGs}{n:Nat}(hc:X.calm=true)(h:PGs X es t)
  (hn:(assignEach es X.env).length=n:=by rfl) (b8:(assignEach es X.env).findIdx? (·.1)=none:=by rfl):PG X (.Tuple es k pos) (aDl X.K n t):=by
 intro pins s σ H v u Q I r hw
 obtain⟨a,xs,e1,hq,hl,hw⟩:=hw
 subst e1
 cases r
 obtain⟨its,rv,ht,hz⟩:=I.tuple hq
 refine assign_Tuple_tuple (I.ok.hd hc) ht (by simp[hn,<-hl,rv.length]) b8 λh' hx=>?_
 have I1:aP X pins σ H {s with heap:=h'}:=I.kept (t':=s.toks) λb o e=>hx b o (df (a9 e)) e
 exact h pins _ σ H xs _ Q I1 (by simpa using rv) hw
def aD8(to ti:TE)(t:Yn):TG:=λv σ H Q=>to σ H λo H1=>ti σ H1 λi H2=>t o i v H2 λH3=>Q σ H3
theorem Rm{o i:Expr}{to ti:TE}{t:Yn}(ho:PE X o to)(hi:PE X i ti)(hs:aCy X t)
  (ha:∀v,assign (.Subscript o i pos) X.env v=(do
   let ov <-holding [v] (eval o X.env)
   let iv <-holding [v,ov] (eval i X.env)
   standAt pos
   holding [v,ov,iv] (setItem ov iv v)
   release [v,ov,iv] []):=by intro _;rfl):PG X (.Subscript o i pos) (aD8 to ti t):=by
 intro pins s σ H v u Q I r h
 rw[ha]
 refine wpAny_bind (j8 (cD (ho pins s σ H _ I h) λov s1 ⟨x,H1,I1,r1,q1⟩=>?_))
 refine wpAny_bind (j8 (cD (hi pins s1 σ H1 _ I1 q1) λiv s2 ⟨y,H2,I2,r2,q2⟩=>?_))
 refine wpAny_bind (xl (wpAny_bind (j8 (cD (hs pins s2 σ H2 x y v ov iv u _ I2 r1 r2 r q2) λ_ s3 ⟨H3,I3,q3⟩=>?_))))
 exact wpAny_release ⟨σ,H3,I3,q3⟩
def Cn(te:TE)(g:TG):TS:=λD σ H=>te σ H λx H1=>g x σ H1 D.nx
theorem Si{tg e:Expr}{te:TE}{g:TG}(he:PE X e te)(hg:PG X tg g)(hs:swapsWithSole [tg] e pos.line X.env=pure false:=by rfl)(hw:swappedStores [tg] e X.env=pure none:=by rfl)
  (h1:(assignEach [tg] X.env).map (·.2)=[assign tg X.env]:=by rfl):PS X (.Assign [tg] e pos) (Cn te g):=by
 intro pins s σ H D I h
 refine wpAny_Assign_stores (cD (he pins s σ H _ I h) λv s1 ⟨x,H1,I1,r1,q1⟩=>?_) hs hw
 rw[h1]
 exact cD (hg pins s1 σ H1 x v _ I1 r1 q1) λ_ s2 q=>q
theorem aZ{i:Nat}{x:Str}{e:Expr}{te:TE}{j1:Pos}(hN:X.N.Nodup)(hi:X.N[i]?=some x)(hx:Loc X.env.scope x)(he:PE X e te)(hs:swapsWith e (some (.Name x j1)) pos.line X.env=pure false:=by rfl)(hf:X.fn x=true\/X.env.scope.names.lookup x=some .local:=by first|exact .inl rfl|exact .inr rfl|assumption):
  PS X (.Assign [.Name x j1] e pos) (Cn te (mG i)):=by
 intro pins s σ H D I h
 refine wpAny_Assign_Name (cD (he pins s σ H _ I h) λv s1 ⟨y,H1,I1,r1,q1⟩=>?_) hs
 exact wV I1 hN hi hx r1 (λs2 I2=>⟨_,H1,I2,q1⟩) hf
end
section
variable {X:Cx} {pos:Pos}
def Zo(c:TT)(tb:TS):TS:=λD σ H=>∃W:Nat->St->Hp->Prop,(∃m,W m σ H)/\∀m σ H,W m σ H->
 c σ H λb H1=>if b=true then ∃N:St->Hp->Prop,(∀ae H',N ae H'->∃m',m'<m/\W m' ae H')/\tb {D with nx:=N,ct:=N,bk:=D.nx} σ H1 else D.nx σ H1
theorem iQ{c:Expr}{body:List Stmt}{tc:TT}{tb:TS}(hp:PassesOwn (model X.prog X.w) X.A X.env X.xe)(hc:PT X c tc)(hb:zI X body tb):PS X (.While c body [] pos) (Zo tc tb):=by
 intro pins s σ H D I h
 obtain⟨W,⟨m0,w0⟩,turn⟩:=h
 refine wpAny_While (codeAny_whileLoop (λn s'=>∃ae H',aP X pins ae H' s'/\W n ae H') ?_ m0 ⟨σ,H,I,w0⟩)
 rintro n s1 ⟨wf,H1,I1,w1⟩
 refine wpAny_passesOwn hp (cD (hc pins s1 wf H1 _ I1 (turn n wf H1 w1)) λb s2 ⟨H2,I2,q2⟩=>?_)
 cases b with
 |true=>
  obtain⟨N,hN,q2⟩:=q2
  rw[ac rfl]
  refine wpAny_passesOwn hp (cD (hb pins s2 wf H2 _ I2 q2) λf s3 q3=>?_)
  cases f with
  |next=>
   obtain⟨il,H3,I3,n3⟩:=q3
   obtain⟨m',hm,w3⟩:=hN il H3 n3
   exact⟨m',hm,il,H3,I3,w3⟩
  |cont=>
   obtain⟨il,H3,I3,n3⟩:=q3
   obtain⟨m',hm,w3⟩:=hN il H3 n3
   exact⟨m',hm,il,H3,I3,w3⟩
  |brk=>exact q3
  |ret v=>exact q3
 |false=>
  rw[aa cb]
  exact vj ⟨wf,H2,I2,q2⟩
end
structure It where
 go:Nat->Hp->Prop
 yld:Nat->Hp->V->Hp->Prop
 stop:Nat->Hp->Prop
def tZ(X:Cx)(pins:List (Addr×Obj))(H:Hp)(b:Addr):Prop:=
 H b=none/\b≠X.env.locals/\b∉X.fs/\(b∈X.ex\/X.s_0.heap.objs.size<=b)/\(∀x c,X.env.cells.lookup x=some c->c≠b)/\∀p∈X.pn++pins,p.1≠b
theorem aP.fpOk{X:Cx}{pins:List (Addr×Obj)}{σ:St}{H H':Hp}{s:Shared}{b:Addr}(I:aP X pins σ H s)(hb:s.heap.objs.size<=b)(hn:H' b=none):tZ X pins H' b:=by
 refine⟨hn,tj (gm I.lt hb),I.nofs hb,.inr (d6 I.sz hb),λx c e z=>?_,λp hp z=>?_⟩
 ·obtain⟨v,q⟩:=I.cell x c e
  exact absurd (gm q.lt (by rw[z];exact hb)) (i8 _)
 ·exact absurd (gm (a9 (I.pin p hp).1) (by rw[z];exact hb)) (i8 _)
structure xD(P:Program)(w:World)(K:PySem.W.Frag)(tg:Expr)(J:It)(fp:List Addr)(it:Addr)(tn:Nat->Heap->Prop):Prop where
 mem:it∈fp
 obj:∀i h,tn i h->∀b∈fp,∃o,h.get? b=some o/\∀v,o.data≠.cell v
 keep:∀i h h',tn i h->(∀b∈fp,∀o,h.get? b=some o->h'.get? b=some o)->tn i h'
 item:∀(X:Cx),X.prog=P->X.w=w->X.K=K->X.calm=true->∀(i:Nat) (pins:List (Addr×Obj)) (s:Shared) (σ:St) (H:Hp) (E:Value->Shared->Prop),aP X pins σ H s->(∀b∈fp,tZ X pins H b)->tn i s.heap->J.go i H->
  wpAny (model P w) X.A (pyNext (.ref it)) (λr s1=>∃u,r=some u/\
   wpAny (model P w) X.A (letOwnedTupleGo tg (.ref it) u) (λ_ s2=>∃x H',aP X pins σ H' s2/\bQ x u/\J.yld i H x H'/\tn (i+1) s2.heap/\∀b∈fp,H' b=none) E s1) E s
 done:∀(X:Cx),X.prog=P->X.w=w->X.K=K->X.calm=true->∀(i:Nat) (pins:List (Addr×Obj)) (s:Shared) (σ:St) (H:Hp) (E:Value->Shared->Prop),aP X pins σ H s->(∀b∈fp,tZ X pins H b)->tn i s.heap->J.stop i H->
  wpAny (model P w) X.A (pyNext (.ref it)) (λr s1=>r=none/\aP X pins σ H s1) E s
 self:∀(A:Around)(i:Nat)(s:Shared)(Q:Value->Shared->Prop)(E:Value->Shared->Prop),tn i s.heap->Q (.ref it) s->wpAny (model P w) A (pyIter (.ref it)) Q E s
abbrev TI:=St->Hp->(It->Hp->Prop)->Prop
def PIE(X:Cx)(pins:List (Addr×Obj))(σ:St)(tg:Expr)(R:It->Hp->Prop)(AU:Value)(s2:Shared):Prop:=
 ∃(it:Addr)(fp:List Addr)(tn:Nat->Heap->Prop)(J:It)(H':Hp),AU=.ref it/\aP X pins σ H' s2/\xD X.prog X.w X.K tg J fp it tn/\tn 0 s2.heap/\(∀b∈fp,tZ X pins H' b)/\R J H'
def PI(X:Cx)(tg iter:Expr)(wi:TI):Prop:=
 ∀(pins:List (Addr×Obj)) (s:Shared) (σ:St) (H:Hp) (R:It->Hp->Prop),aP X pins σ H s->wi σ H R->
  wpAny (model X.prog X.w) X.A (eval iter X.env) (λv s1=>wpAny (model X.prog X.w) X.A (pyIter v) (PIE X pins σ tg R) X.xe s1) X.xe s
theorem yR{M:Model}{A:Around}{E:Value->Shared->Prop}{s:Shared}{tg:Expr}{it:Addr}{u:Value}{o:Obj}{n:String}{vs:Array Value}{Q:Unit->Shared->Prop}(ho:s.heap.get? it=some o)(hc:o.cls=.type n)(hd:o.data=.fields vs)
  (hn:["enumerate","zip","dict_itemiterator","dict_reverseitemiterator","odict_iterator","itertools.zip_longest","itertools.pairwise"].contains n=false) (hQ:Q () s):wpAny M A (letOwnedTupleGo tg (.ref it) u) Q E s:=by
 unfold letOwnedTupleGo
 cases tg<;>first
  |exact af hQ
  |(cases u<;>first
    |exact af hQ
    |(refine wpAny_bind (wpAny_load ho ?_)
      rw[hc,hd]
      show wpAny M A (if (["enumerate","zip","dict_itemiterator","dict_reverseitemiterator","odict_iterator","itertools.zip_longest","itertools.pairwise"].contains n && vs[0]?==some (rawInt _))=true then _ else _) Q E s
      rw[aa (by intro h;rw[hn,j9] at h;cases h)]
      exact af hQ))
def Xx(K:PySem.W.Frag)(a:Addr):It:=
 ⟨λi H=>∃xs x,cP K H a xs/\xs[i]?=some x,λi H x H'=>H'=H/\∀xs,cP K H a xs->xs[i]?=some x,λi H=>∃xs,cP K H a xs/\xs.length<=i⟩
def Itt(K:PySem.W.Frag)(a:Addr):It:=
 ⟨λi H=>∃xs x,cN K H a xs/\xs[i]?=some x,λi H x H'=>H'=H/\∀xs,cN K H a xs->xs[i]?=some x,λi H=>∃xs,cN K H a xs/\xs.length<=i⟩
def Ob(lo:Int)(n:Nat):It:=⟨λi _=>i<n,λi H x H'=>H'=H/\x=.int (lo+i),λi _=>n<=i⟩
theorem Ls{P:Program}{w:World}{K:PySem.W.Frag}{tg:Expr}(a it:Addr):xD P w K tg (Xx K a) [it] it (λi h=>h.IsListIter it a i) where
 mem:=by simp
 obj:=λi h st b hb=>by
  have e:b=it:=by simpa using hb
  subst e
  obtain⟨o,e,c,d⟩:=st
  exact⟨o,e,λv z=>by rw[d] at z;cases z⟩
 keep:=λi h h' st k=>st.at λo e=>k it (by simp) o e
 item:=by
  intro X hP hw hK hc i pins s σ H E I hf st hg
  subst hP hw hK
  obtain⟨xs,x,hq,hx⟩:=hg
  obtain⟨its,rv,p,hz⟩:=I.list hq
  obtain⟨u,hu,ru⟩:=rv.get hx
  obtain⟨f0,f1,f2,f3,f4,f5⟩:=hf it (by simp)
  refine wpAny_pyNext_list_item st p.isList (x:=u) (by simpa using hu) λh' io sb=>?_
  have I1:aP X pins σ H {s with heap:=h'}:=I.turned (t':=s.toks) (λb o hb e=>(sb.2 b hb).trans e) f0 f1 f3 f4 f5
  obtain⟨o,e,c,d⟩:=id io
  exact⟨u,rfl,yR (s:={s with heap:=h'}) e c d (by decide) ⟨x,H,I1,ru,⟨rfl,λys hy=>by rw[I.list_inj hy hq];exact hx⟩,io,λb hb=>(hf b hb).1⟩⟩
 done:=by
  intro X hP hw hK hc i pins s σ H E I hf st hg
  subst hP hw hK
  obtain⟨xs,hq,hx⟩:=hg
  obtain⟨its,rv,p,hz⟩:=I.list hq
  obtain⟨f0,f1,f2,f3,f4,f5⟩:=hf it (by simp)
  have hl:=rv.length
  exact wpAny_pyNext_list_end (I.ok.hd hc) st p.isList (by simp;omega) λh' eb=>⟨rfl,I.turned (t':=s.toks) (λb o hb e=>eb b o hb e) f0 f1 f3 f4 f5⟩
 self:=λ_ _ _ _ _ st h=>wpAny_pyIter_listiter st h
theorem Gr{P:Program}{w:World}{K:PySem.W.Frag}{tg:Expr}(a it:Addr):xD P w K tg (Itt K a) [it] it (λi h=>h.IsTupleIter it a i) where
 mem:=by simp
 obj:=λi h st b hb=>by
  have e:b=it:=by simpa using hb
  subst e
  obtain⟨o,e,c,d⟩:=st
  exact⟨o,e,λv z=>by rw[d] at z;cases z⟩
 keep:=λi h h' st k=>st.at λo e=>k it (by simp) o e
 item:=by
  intro X hP hw hK hc i pins s σ H E I hf st hg
  subst hP hw hK
  obtain⟨xs,x,hq,hx⟩:=hg
  obtain⟨its,rv,p,hz⟩:=I.tuple hq
  obtain⟨u,hu,ru⟩:=rv.get hx
  obtain⟨f0,f1,f2,f3,f4,f5⟩:=hf it (by simp)
  refine wpAny_pyNext_tuple_item st (show s.heap.IsTuple a its.toArray from p) (x:=u) (by simpa using hu) λh' io sb=>?_
  have I1:aP X pins σ H {s with heap:=h'}:=I.turned (t':=s.toks) (λb o hb e=>(sb.2 b hb).trans e) f0 f1 f3 f4 f5
  obtain⟨o,e,c,d⟩:=id io
  exact⟨u,rfl,yR (s:={s with heap:=h'}) e c d (by decide) ⟨x,H,I1,ru,⟨rfl,λys hy=>by rw[I.tuple_inj hy hq];exact hx⟩,io,λb hb=>(hf b hb).1⟩⟩
 done:=by
  intro X hP hw hK hc i pins s σ H E I hf st hg
  subst hP hw hK
  obtain⟨xs,hq,hx⟩:=hg
  obtain⟨its,rv,p,hz⟩:=I.tuple hq
  obtain⟨f0,f1,f2,f3,f4,f5⟩:=hf it (by simp)
  have hl:=rv.length
  exact wpAny_pyNext_tuple_end (I.ok.hd hc) st (show s.heap.IsTuple a its.toArray from p) (by simp;omega) λh' eb=>⟨rfl,I.turned (t':=s.toks) (λb o hb e=>eb b o hb e) f0 f1 f3 f4 f5⟩
 self:=λ_ _ _ _ _ st h=>wpAny_pyIter_tupleiter st h
theorem Gu{P:Program}{w:World}{K:PySem.W.Frag}{tg:Expr}(it:Addr)(lo:Int)(n:Nat):xD P w K tg (Ob lo n) [it] it (λi h=>IsRangeIter h it (lo+(i:Nat) * 1) ((n:Int) - (i:Nat)) 1) where
 mem:=by simp
 obj:=λi h st b hb=>by
  have e:b=it:=by simpa using hb
  subst e
  exact⟨_,st,λv z=>by
   have z':Data.fields _=Data.cell v:=z
   cases z'⟩
 keep:=λi h h' st k=>k it (by simp) _ st
 item:=by
  intro X hP hw hK hc i pins s σ H E I hf st hg
  subst hP hw hK
  obtain⟨f0,f1,f2,f3,f4,f5⟩:=hf it (by simp)
  have W:=Walks.range (prog:=X.prog) (w:=X.w) (I.ok.hd hc) it lo 1 n
  refine W.item i s _ _ hg st λv h' tk hv io kk=>?_
  obtain⟨t,rfl⟩:=hv
  have I1:aP X pins σ H {s with heap:=h',toks:=tk}:=I.turned (λb o hb e=>kk b o (by simpa using hb) e) f0 f1 f3 f4 f5
  refine⟨_,rfl,yR (s:={s with heap:=h',toks:=tk}) (n:="range_iterator") io rfl rfl (by decide) ⟨.int (lo+i),H,I1,⟨t,?_⟩,⟨rfl,rfl⟩,io,λb hb=>(hf b hb).1⟩⟩
  rw[Int.mul_one]
 done:=by
  intro X hP hw hK hc i pins s σ H E I hf st hg
  subst hP hw hK
  obtain⟨f0,f1,f2,f3,f4,f5⟩:=hf it (by simp)
  exact wpAny_pyNext_range_end (I.ok.hd hc) st (by have:n<=i:=hg;omega) λh' eb=>⟨rfl,I.turned (t':=s.toks) (λb o hb e=>eb b o hb e) f0 f1 f3 f4 f5⟩
 self:=λ_ _ _ _ _ st h=>wpAny_pyIter_rangeiter st h
section
variable {X:Cx} {tg:Expr}
def aCx(K:PySem.W.Frag)(tl:TE):TI:=fun σ H R=>tl σ H λx H1=>∃a,x=.ref a/\(∃xs,cP K H1 a xs)/\R (Xx K a) H1
def aDx(K:PySem.W.Frag)(tl:TE):TI:=fun σ H R=>tl σ H λx H1=>∃a,x=.ref a/\(∃xs,cN K H1 a xs)/\R (Itt K a) H1
theorem nV{l:Expr}{tl:TE}(hl:PE X l tl):PI X tg l (aCx X.K tl):=by
 intro pins s σ H R I h
 refine cD (hl pins s σ H _ I h) λv s1 ⟨x,H1,I1,r1,q1⟩=>?_
 obtain⟨a,e,⟨xs,hq⟩,q⟩:=q1
 subst e
 cases r1
 obtain⟨its,rv,p,hz⟩:=I1.list hq
 refine wpAny_pyIter_list p.isList ?_
 refine⟨s1.heap.objs.size,[s1.heap.objs.size],_,_,H1,rfl,I1.kept (t':=s1.toks) λb o e=>br _ e,Ls a _,⟨_,cf _ rfl,rfl,rfl⟩,λb hb=>?_,q⟩
 have e:b=s1.heap.objs.size:=by simpa using hb
 subst e
 exact I1.fpOk (ap _) (I1.hok.fresh (ap _))
theorem Yh{l:Expr}{tl:TE}(hl:PE X l tl):PI X tg l (aDx X.K tl):=by
 intro pins s σ H R I h
 refine cD (hl pins s σ H _ I h) λv s1 ⟨x,H1,I1,r1,q1⟩=>?_
 obtain⟨a,e,⟨xs,hq⟩,q⟩:=q1
 subst e
 cases r1
 obtain⟨its,rv,p,hz⟩:=I1.tuple hq
 refine CC (show s1.heap.IsTuple a its.toArray from p) ?_
 refine⟨s1.heap.objs.size,[s1.heap.objs.size],_,_,H1,rfl,I1.kept (t':=s1.toks) λb o e=>br _ e,Gr a _,⟨_,cf _ rfl,rfl,rfl⟩,λb hb=>?_,q⟩
 have e:b=s1.heap.objs.size:=by simpa using hb
 subst e
 exact I1.fpOk (ap _) (I1.hok.fresh (ap _))
theorem Fx{pins:List (Addr×Obj)}{σ:St}{H:Hp}{s:Shared}{R:It->Hp->Prop}{E:Value->Shared->Prop}{lo hi:Int}{t u v:Tok}{tk:Nat}(I:aP X pins σ H s)(h1: -(2 ^ 62)<=lo)(h2:lo<2 ^ 62)(h3: -(2 ^ 62)<=hi)(h4:hi<2 ^ 62)
  (q:R (Ob lo (hi - lo).toNat) H):wpAny (model X.prog X.w) X.A (pyIter (.ref s.heap.objs.size)) (PIE X pins σ tg R) E {s with heap:=s.heap.push {cls:=.type "range",data:=.fields #[.int lo t,.int hi u,.int 1 v]},toks:=tk}:=by
 refine wpAny_pyIter_range (IsRange.new ..) (small_one h1 h2 h3 h4) ?_
 have I1:aP X pins σ H {s with heap:=s.heap.push {cls:=.type "range",data:=.fields #[.int lo t,.int hi u,.int 1 v]},toks:=tk}:=I.kept λb o e=>br _ e
 refine⟨(s.heap.push {cls:=.type "range",data:=.fields #[.int lo t,.int hi u,.int 1 v]}).objs.size,[(s.heap.push {cls:=.type "range",data:=.fields #[.int lo t,.int hi u,.int 1 v]}).objs.size],_,_,H,rfl,
  I1.kept (t':=tk) λb o e=>br _ e,Gu _ lo (hi - lo).toNat,?_,λb hb=>?_,q⟩
 ·have e1:lo+((0:Nat):Int) * 1=lo:=by simp
  have e2:(((hi - lo).toNat:Nat):Int) - ((0:Nat):Int)=Builtin.Range.rangeSize lo hi 1:=by rw[rangeSize_one];split<;>omega
  show IsRangeIter _ _ (lo+((0:Nat):Int) * 1) ((((hi - lo).toNat:Nat):Int) - ((0:Nat):Int)) 1
  rw[e1,e2]
  exact cf _ rfl
 ·have e:b=(s.heap.push {cls:=.type "range",data:=.fields #[.int lo t,.int hi u,.int 1 v]}).objs.size:=by simpa using hb
  subst e
  exact I1.fpOk (ap _) (I1.hok.fresh (ap _))
def aB3(ta:TA):TI:=fun σ H R=>ta σ H λvs H1=>∃j:Int,vs=[.int j]/\ -(2 ^ 62)<=j/\j<2 ^ 62/\R (Ob 0 j.toNat) H1
def aB9(ta:TA):TI:=fun σ H R=>ta σ H λvs H1=>∃i j:Int,vs=[.int i,.int j]/\(-(2 ^ 62)<=i/\i<2 ^ 62/\ -(2 ^ 62)<=j/\j<2 ^ 62)/\R (Ob i (j - i).toNat) H1
theorem iL{a:Expr}{ta:TA}{p pos:Pos}(hg:Gl X "range")(hm:X.mg "range"=none)(ha:PA X [a] ta)(hs:starEach [a] X.env=[(false,eval a X.env)]:=by rfl):PI X tg (.Call (.Name "range" p) [a] [] pos) (aB3 ta):=by
 intro pins s σ H R I h
 refine Call_ (jR I hg hm boot_range (xm (cD (ha pos pins s σ H _ I h) λus s1 ⟨vs,H1,I1,r1,q1⟩=>?_) hs rfl))
 obtain⟨j,e,q1,q2,q⟩:=q1
 subst e
 cases r1 with
 |cons r rr=>
  cases rr
  obtain⟨t,rfl⟩:=r
  exact call_range_1 (Fx I1 (by omega) (by omega) q1 q2 (by simpa using q))
theorem Md{a b:Expr}{ta:TA}{p pos:Pos}(hg:Gl X "range")(hm:X.mg "range"=none)(ha:PA X [a,b] ta)(hs:starEach [a,b] X.env=[(false,eval a X.env),(false,eval b X.env)]:=by rfl)(ia:starEach [b] X.env=[(false,eval b X.env)]:=by rfl):
  PI X tg (.Call (.Name "range" p) [a,b] [] pos) (aB9 ta):=by
 intro pins s σ H R I h
 refine Call_ (jR I hg hm boot_range (xm (cD (ha pos pins s σ H _ I h) λus s1 ⟨vs,H1,I1,r1,q1⟩=>?_) (by rw[hs,ia]) (by rw[ia];rfl)))
 obtain⟨i,j,e,⟨q1,q2,q3,q4⟩,q⟩:=q1
 subst e
 cases r1 with
 |cons r rr=>
  cases rr with
  |cons r' rr=>
   cases rr
   obtain⟨t,rfl⟩:=r
   obtain⟨t',rfl⟩:=r'
   exact call_range_2 (Fx I1 q1 q2 q3 q4 q)
def aEj(wi:TI)(g:TG)(tb:TS):TS:=λD σ H=>wi σ H λJ H1=>∃W:Nat->Nat->St->Hp->Prop,(∃m,W 0 m σ H1)/\∀i m σ H,W i m σ H->
 (J.stop i H/\D.nx σ H)\/(J.go i H/\∃N:St->Hp->Prop,(∀ae H',N ae H'->∃m',m'<m/\W (i+1) m' ae H')/\∀x H',J.yld i H x H'->g x σ H' λau H2=>tb {D with nx:=N,ct:=N,bk:=D.nx} au H2)
def sC(fp:List Addr)(h:Heap):List (Addr×Obj):=fp.filterMap λb=>(h.get? b).map λo=>(b,o)
theorem iU{fp:List Addr}{h:Heap}{b:Addr}{o:Obj}(hb:b∈fp)(e:h.get? b=some o):(b,o)∈sC fp h:=tm.mpr ⟨b,hb,by rw[e];rfl⟩
theorem Np{fp:List Addr}{h:Heap}{p:Addr×Obj}(hp:p∈sC fp h):p.1∈fp/\h.get? p.1=some p.2:=by
 obtain⟨b,hb,e⟩:=tm.mp hp
 cases q:h.get? b with
 |none=>rw[q] at e;cases e
 |some o=>
  rw[q] at e
  have e':(b,o)=p:=Option.some.inj e
  subst e'
  exact⟨hb,q⟩
theorem aP.pinned{pins:List (Addr×Obj)}{σ:St}{H:Hp}{s:Shared}{fp:List Addr}(I:aP X pins σ H s)(hf:∀b∈fp,tZ X pins H b)(ho:∀b∈fp,∃o,s.heap.get? b=some o/\∀v,o.data≠.cell v):aP X (pins++sC fp s.heap) σ H s:=
 I.pins_of λp hp=>(c9.mp hp).elim (λz=>I.pin p (fk _ z)) λz=>by
  obtain⟨hb,e⟩:=Np z
  obtain⟨f0,f1,f2,_⟩:=hf p.1 hb
  obtain⟨o,e',d⟩:=ho p.1 hb
  rw[e] at e';cases e'
  exact⟨e,f0,f1,f2,d⟩
theorem aP.unpinned{pins pl:List (Addr×Obj)}{σ:St}{H:Hp}{s:Shared}(I:aP X (pins++pl) σ H s):aP X pins σ H s:=I.pins_of λp hp=>I.pin p (fk _ (i9 _ hp))
theorem eB{iter:Expr}{body:List Stmt}{wi:TI}{g:TG}{tb:TS}{pos:Pos}(hp:PassesOwn (model X.prog X.w) X.A X.env X.xe)(hc:X.calm=true)(hi:PI X tg iter wi)(hg:PG X tg g)(hb:zI X body tb)
  (hs:∀x,foldedSetIterable iter X.env x=pure x:=by intro _;rfl):PS X (.For tg iter body [] pos) (aEj wi g tb):=by
 intro pins s σ H D I h
 refine wpAny_For (cD (hi pins s σ H _ I h) λv s1 h1=>cD h1 λAU s2 h2=>?_) hs
 obtain⟨it,fp,tn,J,H2,e,I2,T,wg,f2,W,⟨m0,w0⟩,turn⟩:=h2
 subst e
 have stat:∀{H':Hp},(∀b∈fp,H' b=none)->∀b∈fp,tZ X pins H' b:=λhn b hb=>⟨hn b hb,(f2 b hb).2⟩
 refine codeAny_forLoop_any (λn s'=>∃i ae H',aP X pins ae H' s'/\tn i s'.heap/\(∀b∈fp,H' b=none)/\W i n ae H') ?_ m0 ⟨0,σ,H2,I2,wg,λb hb=>(f2 b hb).1,w0⟩
 rintro n s3 ⟨i,il,H3,I3,uh,yj,w3⟩
 rcases turn i n il H3 w3 with ⟨stop,qn⟩|⟨go,N,hN,step⟩
 ·refine wpAny_passesOwn hp (cD (T.done X rfl rfl rfl hc i pins s3 il H3 X.xe I3 (stat yj) uh stop) λr s4 ⟨hr,I4⟩=>?_)
  subst hr
  exact vj ⟨il,H3,I4,qn⟩
 ·refine wpAny_passesOwn hp (cD (T.item X rfl rfl rfl hc i pins s3 il H3 X.xe I3 (stat yj) uh go) λr s4 ⟨u,hr,h4⟩=>?_)
  subst hr
  refine wpAny_passesOwn hp (cD h4 λ_ s5 ⟨x,H5,I5,r5,y5,mr,DR⟩=>?_)
  have DS:=I5.pinned (stat DR) (T.obj _ _ mr)
  refine wpAny_passesOwn hp (cD (hg _ s5 il H5 x u _ DS r5 (step x H5 y5)) λ_ s6 ⟨AV,H6,I6,q6⟩=>?_)
  refine wpAny_passesOwn hp (cD (hb _ s6 AV H6 _ I6 q6) λf s7 q7=>?_)
  have again:∀{d7:St}{H7:Hp},aP X (pins++sC fp s5.heap) d7 H7 s7->N d7 H7->∃m,m<n/\∃i ae H',aP X pins ae H' s7/\tn i s7.heap/\(∀b∈fp,H' b=none)/\W i m ae H':=λ{d7 H7} I7 n7=>by
   obtain⟨m',hm,w7⟩:=hN d7 H7 n7
   refine⟨m',hm,i+1,d7,H7,I7.unpinned,T.keep _ _ _ mr λb hb o e=>(I7.pin (b,o) (fk _ (fk _ (iU hb e)))).1,λb hb=>?_,w7⟩
   obtain⟨o,e,d⟩:=T.obj _ _ mr b hb
   exact(I7.pin (b,o) (fk _ (fk _ (iU hb e)))).2.1
  cases f with
  |next=>obtain⟨d7,H7,I7,n7⟩:=q7;exact again I7 n7
  |cont=>obtain⟨d7,H7,I7,n7⟩:=q7;exact again I7 n7
  |brk=>obtain⟨d7,H7,I7,q7⟩:=q7;exact⟨d7,H7,I7.unpinned,q7⟩
  |ret v=>obtain⟨x7,d7,H7,I7,r7,q7⟩:=q7;exact⟨x7,d7,H7,I7.unpinned,r7,q7⟩
end
theorem Db{K:PySem.W.Frag}{a:Addr}{xs:List V}{g:TG}{tb:TS}{D:fY}{σ:St}{H:Hp}(Pv:Nat->St->Hp->Prop)(h0:Pv 0 σ H)(hl:∀i σ H,i<=xs.length->Pv i σ H->cP K H a xs)
  (hs:∀i x σ H,xs[i]?=some x->Pv i σ H->g x σ H λau H2=>tb {D with nx:=Pv (i+1),ct:=Pv (i+1),bk:=D.nx} au H2) (hd:∀ σ H,Pv xs.length σ H->D.nx σ H):
  ∃W:Nat->Nat->St->Hp->Prop,(∃m,W 0 m σ H)/\∀i m σ H,W i m σ H->
   ((Xx K a).stop i H/\D.nx σ H)\/((Xx K a).go i H/\∃N:St->Hp->Prop,(∀ae H',N ae H'->∃m',m'<m/\W (i+1) m' ae H')/\∀x H',(Xx K a).yld i H x H'->g x σ H' λau H2=>tb {D with nx:=N,ct:=N,bk:=D.nx} au H2):=by
 refine⟨λi m σ H=>m=xs.length - i/\i<=xs.length/\Pv i σ H,⟨xs.length,by simp,da _,h0⟩,?_⟩
 rintro i m σ H ⟨rfl,hi,p⟩
 have q:=hl i σ H hi p
 by_cases aj:i<xs.length
 ·refine .inr ⟨⟨xs,xs[i],q,by simp[aj]⟩,Pv (i+1),λae H' p'=>⟨xs.length - (i+1),by omega,rfl,aj,p'⟩,λx H' y=>?_⟩
  obtain⟨e,y⟩:=y
  subst e
  exact hs i x σ _ (y xs q) p
 ·have e:i=xs.length:=by omega
  subst e
  exact .inl ⟨⟨xs,q,ap _⟩,hd σ H p⟩
theorem Tt{K:PySem.W.Frag}{a:Addr}{xs:List V}{g:TG}{tb:TS}{D:fY}{σ:St}{H:Hp}(Pv:Nat->St->Hp->Prop)(h0:Pv 0 σ H)(hl:∀i σ H,i<=xs.length->Pv i σ H->cN K H a xs)
  (hs:∀i x σ H,xs[i]?=some x->Pv i σ H->g x σ H λau H2=>tb {D with nx:=Pv (i+1),ct:=Pv (i+1),bk:=D.nx} au H2) (hd:∀ σ H,Pv xs.length σ H->D.nx σ H):
  ∃W:Nat->Nat->St->Hp->Prop,(∃m,W 0 m σ H)/\∀i m σ H,W i m σ H->
   ((Itt K a).stop i H/\D.nx σ H)\/((Itt K a).go i H/\∃N:St->Hp->Prop,(∀ae H',N ae H'->∃m',m'<m/\W (i+1) m' ae H')/\∀x H',(Itt K a).yld i H x H'->g x σ H' λau H2=>tb {D with nx:=N,ct:=N,bk:=D.nx} au H2):=by
 refine⟨λi m σ H=>m=xs.length - i/\i<=xs.length/\Pv i σ H,⟨xs.length,by simp,da _,h0⟩,?_⟩
 rintro i m σ H ⟨rfl,hi,p⟩
 have q:=hl i σ H hi p
 by_cases aj:i<xs.length
 ·refine .inr ⟨⟨xs,xs[i],q,by simp[aj]⟩,Pv (i+1),λae H' p'=>⟨xs.length - (i+1),by omega,rfl,aj,p'⟩,λx H' y=>?_⟩
  obtain⟨e,y⟩:=y
  subst e
  exact hs i x σ _ (y xs q) p
 ·have e:i=xs.length:=by omega
  subst e
  exact .inl ⟨⟨xs,q,ap _⟩,hd σ H p⟩
theorem sE{lo:Int}{n:Nat}{g:TG}{tb:TS}{D:fY}{σ:St}{H:Hp}(Pv:Nat->St->Hp->Prop)(h0:Pv 0 σ H)
  (hs:∀i σ H,i<n->Pv i σ H->g (.int (lo+i)) σ H λau H2=>tb {D with nx:=Pv (i+1),ct:=Pv (i+1),bk:=D.nx} au H2) (hd:∀ σ H,Pv n σ H->D.nx σ H):
  ∃W:Nat->Nat->St->Hp->Prop,(∃m,W 0 m σ H)/\∀i m σ H,W i m σ H->
   ((Ob lo n).stop i H/\D.nx σ H)\/((Ob lo n).go i H/\∃N:St->Hp->Prop,(∀ae H',N ae H'->∃m',m'<m/\W (i+1) m' ae H')/\∀x H',(Ob lo n).yld i H x H'->g x σ H' λau H2=>tb {D with nx:=N,ct:=N,bk:=D.nx} au H2):=by
 refine⟨λi m σ H=>m=n - i/\i<=n/\Pv i σ H,⟨n,by simp,da _,h0⟩,?_⟩
 rintro i m σ H ⟨rfl,hi,p⟩
 by_cases aj:i<n
 ·refine .inr ⟨aj,Pv (i+1),λae H' p'=>⟨n - (i+1),by omega,rfl,aj,p'⟩,λx H' y=>?_⟩
  obtain⟨e,y⟩:=y
  subst e y
  exact hs i σ _ aj p
 ·have e:i=n:=by omega
  subst e
  exact .inl ⟨ap _,hd σ H p⟩
abbrev R2:=V->V->Hp->VK->Prop
def tV(X:Cx)(f:Value->Value->Sem Value)(r:R2):Prop:=
 ∀(pins:List (Addr×Obj)) (s:Shared) (σ:St) (H:Hp) (x y:V) (v u:Value) (Q:VK),aP X pins σ H s->bQ x v->bQ y u->r x y H Q->
  wpAny (model X.prog X.w) X.A (f v u) (EP X pins σ Q) X.xe s
def UnR(X:Cx)(f:Value->Sem Value)(r:V->Hp->VK->Prop):Prop:=
 ∀(pins:List (Addr×Obj)) (s:Shared) (σ:St) (H:Hp) (x:V) (v:Value) (Q:VK),aP X pins σ H s->bQ x v->r x H Q->
  wpAny (model X.prog X.w) X.A (f v) (EP X pins σ Q) X.xe s
def mI(X:Cx)(f:Value)(r:List V->Hp->VK->Prop):Prop:=
 ∀(pins:List (Addr×Obj)) (s:Shared) (σ:St) (H:Hp) (xs:List V) (us:List Value) (Q:VK),aP X pins σ H s->bA xs us->r xs H Q->
  wpAny (model X.prog X.w) X.A (call f us) (EP X pins σ Q) X.xe s
def Rc(r:R2)(ta tb:TE):TE:=fun σ H Q=>ta σ H λx H1=>tb σ H1 λy H2=>r x y H2 Q
def tUn(r:V->Hp->VK->Prop)(ta:TE):TE:=fun σ H Q=>ta σ H λx H1=>r x H1 Q
def rI(C:Int->Int->Prop)(g:Int->Int->V):R2:=λx y H Q=>∃i j,x=.int i/\y=.int j/\C i j/\Q (g i j) H
def Ve(g:Int->Int->V):R2:=λx y H Q=>∃i j,x=.int i/\y=.int j/\Q (g i j) H
def rU(g:Int->V):V->Hp->VK->Prop:=λx H Q=>∃i,x=.int i/\Q (g i) H
section
variable {X:Cx} {a b c:Expr} {ta tb tc:TE} {pos:Pos}
theorem aAs(ha:PE X a ta)(hb:PE X b tb){pins:List (Addr×Obj)}{s:Shared}{σ:St}{H:Hp}{R:V->V->Hp->Prop}(I:aP X pins σ H s)
  (h:ta σ H λx H1=>tb σ H1 λy H2=>R x y H2) {Q:Value->Shared->Prop} {f:Value->Value->Sem Value}
  (hf:∀v u s2 x y H2,aP X pins σ H2 s2->bQ x v->bQ y u->R x y H2->wpAny (model X.prog X.w) X.A (f v u) Q X.xe s2):
  wpAny (model X.prog X.w) X.A (eval a X.env) (λv bp=>wpAny (model X.prog X.w) X.A (eval b X.env) (λu dh=>wpAny (model X.prog X.w) X.A (f v u) Q X.xe dh) X.xe bp) X.xe s:=by
 refine cD (ha pins s σ H _ I h) λv s1 ⟨x,H1,I1,r1,q1⟩=>?_
 refine cD (hb pins s1 σ H1 _ I1 q1) λu s2 ⟨y,H2,I2,r2,q2⟩=>?_
 exact hf v u s2 x y H2 I2 r1 r2 q2
theorem cR{op:Operator}{r:R2}(ho:tV X (binaryOp op) r)(ha:PE X a ta)(hb:PE X b tb):PE X (.BinOp a op b pos) (Rc r ta tb):=by
 intro pins s σ H Q I h
 exact wpAny_BinOp (aAs ha hb I h λv u s2 x y H2 I2 rx ry q=>ho pins s2 σ H2 x y v u Q I2 rx ry q)
theorem Eu{op:UnaryOp}{r:V->Hp->VK->Prop}(ho:UnR X (unaryOp op) r)(ha:PE X a ta):PE X (.UnaryOp op a pos) (tUn r ta):=by
 intro pins s σ H Q I h
 exact UnaryOp_ (cD (ha pins s σ H _ I h) λv s1 ⟨x,H1,I1,r1,q1⟩=>ho pins s1 σ H1 x v Q I1 r1 q1)
theorem opI{f:Value->Value->Sem Value}{C:Int->Int->Prop}{g:Int->Int->Int}
  (rule:∀(i j:Int)(t u:Tok)(s:Shared)(Q:Value->Shared->Prop)(E:Value->Shared->Prop),C i j->Q (.int (g i j) s.toks) {s with toks:=s.toks+1}->wpAny (model X.prog X.w) X.A (f (.int i t) (.int j u)) Q E s):
  tV X f (rI C λi j=>.int (g i j)):=by
 intro pins s σ H x y v u Q I rx ry h
 obtain⟨i,j,rfl,rfl,hc,q⟩:=h
 obtain⟨t,rfl⟩:=rx
 obtain⟨t',rfl⟩:=ry
 exact rule i j t t' s _ _ hc ⟨.int (g i j),H,I.tok _,⟨_,rfl⟩,q⟩
theorem aBd{f:Value->Value->Sem Value}{g:Int->Int->Int}
  (rule:∀(i j:Int)(t u:Tok)(s:Shared)(Q:Value->Shared->Prop)(E:Value->Shared->Prop),Q (.int (g i j) s.toks) {s with toks:=s.toks+1}->wpAny (model X.prog X.w) X.A (f (.int i t) (.int j u)) Q E s):
  tV X f (Ve λi j=>.int (g i j)):=by
 intro pins s σ H x y v u Q I rx ry h
 obtain⟨i,j,rfl,rfl,q⟩:=h
 obtain⟨t,rfl⟩:=rx
 obtain⟨t',rfl⟩:=ry
 exact rule i j t t' s _ _ ⟨.int (g i j),H,I.tok _,⟨_,rfl⟩,q⟩
theorem aCh{f:Value->Value->Sem Value}{g:Int->Int->Bool}
  (rule:∀(i j:Int)(t u:Tok)(s:Shared)(Q:Value->Shared->Prop)(E:Value->Shared->Prop),Q (.bool (g i j)) s->wpAny (model X.prog X.w) X.A (f (.int i t) (.int j u)) Q E s):
  tV X f (Ve λi j=>.bl (g i j)):=by
 intro pins s σ H x y v u Q I rx ry h
 obtain⟨i,j,rfl,rfl,q⟩:=h
 obtain⟨t,rfl⟩:=rx
 obtain⟨t',rfl⟩:=ry
 exact rule i j t t' s _ _ ⟨.bl (g i j),H,I,rfl,q⟩
def aAz(i j:Int):Prop:=(-(2 ^ 64)<i/\i<2 ^ 64)\/(-(2 ^ 64)<j/\j<2 ^ 64)
theorem aAz.ok{i j:Int}(h:aAz i j):IntMulOk i j:=by
 rcases h with ⟨h1,h2⟩|⟨h1,h2⟩
 ·exact .of_left (intBits_le_64 h1 h2)
 ·exact .of_right (intBits_le_64 h1 h2)
theorem gH:tV X (binaryOp .Add) (Ve λi j=>.int (i+j)):=aBd λ_ _ _ _ _ _ _ q=>add_int q
theorem eU:tV X (binaryOp .Sub) (Ve λi j=>.int (i - j)):=aBd λ_ _ _ _ _ _ _ q=>sub_int q
theorem Pf:tV X (binaryOp .Mult) (rI aAz λi j=>.int (i * j)):=opI λ_ _ _ _ _ _ _ hc q=>mul_int q hc.ok
theorem Yj:tV X (binaryOp .Mod) (rI (λ_ j=>0<j) λi j=>.int (i % j)):=opI λi j _ _ _ _ _ hc q=>by
 have h1:(0:Int)<j:=hc
 exact mod_int' (by omega) (by rw[Int.fmod_eq_emod_of_nonneg i (by omega)];exact q)
theorem unI{f:Value->Sem Value}{g:Int->Int}
  (rule:∀(i:Int)(t:Tok)(s:Shared)(Q:Value->Shared->Prop)(E:Value->Shared->Prop),Q (.int (g i) s.toks) {s with toks:=s.toks+1}->wpAny (model X.prog X.w) X.A (f (.int i t)) Q E s):
  UnR X f (rU λi=>.int (g i)):=by
 intro pins s σ H x v Q I rx h
 obtain⟨i,rfl,q⟩:=h
 obtain⟨t,rfl⟩:=rx
 exact rule i t s _ _ ⟨.int (g i),H,I.tok _,⟨_,rfl⟩,q⟩
theorem vS:UnR X (unaryOp .USub) (rU λi=>.int (-i)):=unI λ_ _ _ _ _ q=>neg_int q
end
def aBk:V->V->Bool
 |.non,.non=>true|.non,.int _=>true|.int _,.non=>true|.non,.bl _=>true|.bl _,.non=>true|.non,.str _=>true|.str _,.non=>true
 |.int _,.int _=>true|.bl _,.bl _=>true|.str _,.str _=>true|.byt _,.byt _=>true
 |.int _,.str _=>true|.str _,.int _=>true|.bl _,.str _=>true|.str _,.bl _=>true
 |_,_=>false
def rEq:R2:=λx y H Q=>aBk x y=true/\Q (.bl (decide (x=y))) H
def rNe:R2:=λx y H Q=>aBk x y=true/\Q (.bl (!decide (x=y))) H
theorem uX{i j:Int}:decide (V.int i=V.int j)=(i==j):=by
 rw[f7]
 simp
theorem Pu{i j:Bool}:decide (V.bl i=V.bl j)=(i==j):=by
 rw[f7]
 simp
theorem Kr{i j:Str}:decide (V.str i=V.str j)=(i==j):=by
 rw[f7]
 simp
theorem Ke{i j:Array UInt8}:decide (V.byt i=V.byt j)=(i.toList==j.toList):=by
 rw[f7]
 cases i
 cases j
 simp
section
variable {X:Cx} {a b c:Expr} {ta tb tc:TE} {pos:Pos}
theorem cC{pins:List (Addr×Obj)}{σ:St}{H:Hp}{s:Shared}{Q:VK}{k k':Bool}(I:aP X pins σ H s)(q:Q (.bl k) H)(e:k=k'):EP X pins σ Q (.bool k') s:=by
 subst e
 exact⟨.bl k,H,I,rfl,q⟩
theorem pU:tV X (compareOp .Eq) rEq:=by
 intro pins s σ H x y v u Q I rx ry h
 obtain⟨hs,q⟩:=h
 cases x with
 |non=>
  cases rx
  cases y with
  |non=>cases ry;exact PySem.EqNone.eq_none_none (cC I q (by simp))
  |bl j=>cases ry;exact PySem.EqNone.eq_none_bool (cC I q (by simp))
  |int j=>obtain⟨t',rfl⟩:=ry;exact PySem.EqNone.eq_none_int (cC I q (by simp))
  |str j=>obtain⟨t',rfl⟩:=ry;exact PySem.EqNone.eq_none_str (cC I q (by simp))
  |_=>exact absurd (show false=true from hs) cb
 |bl i=>
  cases rx
  cases y with
  |non=>cases ry;exact PySem.EqNone.eq_bool_none (cC I q (by simp))
  |bl j=>cases ry;exact eq_bool (cC I q Pu)
  |str j=>obtain⟨t',rfl⟩:=ry;exact PySem.EqMixed.eq_bool_str (cC I q (by simp))
  |_=>exact absurd (show false=true from hs) cb
 |int i=>
  obtain⟨t,rfl⟩:=rx
  cases y with
  |non=>cases ry;exact PySem.EqNone.eq_int_none (cC I q (by simp))
  |int j=>obtain⟨t',rfl⟩:=ry;exact eq_int (cC I q uX)
  |str j=>obtain⟨t',rfl⟩:=ry;exact PySem.EqMixed.eq_int_str (cC I q (by simp))
  |_=>exact absurd (show false=true from hs) cb
 |str i=>
  obtain⟨t,rfl⟩:=rx
  cases y with
  |non=>cases ry;exact PySem.EqNone.eq_str_none (cC I q (by simp))
  |bl j=>cases ry;exact PySem.EqMixed.eq_str_bool (cC I q (by simp))
  |int j=>obtain⟨t',rfl⟩:=ry;exact PySem.EqMixed.eq_str_int (cC I q (by simp))
  |str j=>obtain⟨t',rfl⟩:=ry;exact eq_str (cC I q Kr)
  |_=>exact absurd (show false=true from hs) cb
 |byt i=>
  obtain⟨t,rfl⟩:=rx
  cases y with
  |byt j=>obtain⟨t',rfl⟩:=ry;exact PySem.W.eq_bytes (cC I q Ke)
  |_=>exact absurd (show false=true from hs) cb
 |_=>cases y<;>exact absurd (show false=true from hs) cb
theorem aBy:tV X (compareOp .NotEq) rNe:=by
 intro pins s σ H x y v u Q I rx ry h
 obtain⟨hs,q⟩:=h
 cases x with
 |non=>
  cases rx
  cases y with
  |non=>cases ry;exact PySem.EqNone.ne_none_none (cC I q (by simp))
  |bl j=>cases ry;exact PySem.EqNone.ne_none_bool (cC I q (by simp))
  |int j=>obtain⟨t',rfl⟩:=ry;exact PySem.EqNone.ne_none_int (cC I q (by simp))
  |str j=>obtain⟨t',rfl⟩:=ry;exact PySem.EqNone.ne_none_str (cC I q (by simp))
  |_=>exact absurd (show false=true from hs) cb
 |bl i=>
  cases rx
  cases y with
  |non=>cases ry;exact PySem.EqNone.ne_bool_none (cC I q (by simp))
  |bl j=>cases ry;exact ne_bool (cC I q (congrArg not Pu))
  |str j=>obtain⟨t',rfl⟩:=ry;exact PySem.EqMixed.ne_bool_str (cC I q (by simp))
  |_=>exact absurd (show false=true from hs) cb
 |int i=>
  obtain⟨t,rfl⟩:=rx
  cases y with
  |non=>cases ry;exact PySem.EqNone.ne_int_none (cC I q (by simp))
  |int j=>obtain⟨t',rfl⟩:=ry;exact ne_int (cC I q (congrArg not uX))
  |str j=>obtain⟨t',rfl⟩:=ry;exact PySem.EqMixed.ne_int_str (cC I q (by simp))
  |_=>exact absurd (show false=true from hs) cb
 |str i=>
  obtain⟨t,rfl⟩:=rx
  cases y with
  |non=>cases ry;exact PySem.EqNone.ne_str_none (cC I q (by simp))
  |bl j=>cases ry;exact PySem.EqMixed.ne_str_bool (cC I q (by simp))
  |int j=>obtain⟨t',rfl⟩:=ry;exact PySem.EqMixed.ne_str_int (cC I q (by simp))
  |str j=>obtain⟨t',rfl⟩:=ry;exact ne_str (cC I q (congrArg not Kr))
  |_=>exact absurd (show false=true from hs) cb
 |byt i=>
  obtain⟨t,rfl⟩:=rx
  cases y with
  |byt j=>obtain⟨t',rfl⟩:=ry;exact PySem.W.ne_bytes (cC I q (congrArg not Ke))
  |_=>exact absurd (show false=true from hs) cb
 |_=>cases y<;>exact absurd (show false=true from hs) cb
theorem Ox:tV X (compareOp .Lt) (Ve λi j=>.bl (decide (i<j))):=aCh λ_ _ _ _ _ _ _ q=>lt_int q
theorem qZ:tV X (compareOp .LtE) (Ve λi j=>.bl (decide (i<=j))):=aCh λ_ _ _ _ _ _ _ q=>le_int q
theorem hU(b:Expr){op:CmpOp}(h:op≠.In:=by decide)(h2:op≠.NotIn:=by decide):behindInMarks op b=false:=by
 have e1:(op==CmpOp.In)=false:=by cases op<;>first|rfl|exact absurd rfl h
 have e2:(op==CmpOp.NotIn)=false:=by cases op<;>first|rfl|exact absurd rfl h2
 cases b<;>simp[behindInMarks,e1,e2]
theorem lP{op:CmpOp}{r:R2}(ho:tV X (compareOp op) r)(ha:PE X a ta)(hb:PE X b tb)(hm:behindInMarks op b=false):PE X (.Compare a [op] [b] pos) (Rc r ta tb):=by
 intro pins s σ H Q I h
 exact wpAny_Compare1 (aAs ha hb I h λv u s2 x y H2 I2 rx ry q=>ho pins s2 σ H2 x y v u Q I2 rx ry q) hm
def Qg(t:TE):TT:=fun σ H Q=>t σ H λx H'=>∃k,x=.bl k/\Q k H'
theorem iB{op:CmpOp}{r:R2}(ho:tV X (compareOp op) r)(ha:PE X a ta)(hb:PE X b tb)(hm:behindInMarks op b=false):PT X (.Compare a [op] [b] pos) (Qg (Rc r ta tb)):=by
 intro pins s σ H Q I h
 refine wpAny_isTrue_Compare1 (cD (ha pins s σ H _ I h) λv s1 ⟨x,H1,I1,r1,q1⟩=>cD (hb pins s1 σ H1 _ I1 q1) λu s2 ⟨y,H2,I2,r2,q2⟩=>
  cD (ho pins s2 σ H2 x y v u _ I2 r1 r2 q2) λc s3 ⟨z,H3,I3,r3,k,e,q3⟩=>?_) hm
 subst e
 cases r3
 exact wpAny_truthy_bool ⟨H3,I3,q3⟩
def Hq(r r':R2)(ta tb tc:TE):TE:=fun σ H Q=>ta σ H λx H1=>tb σ H1 λy H2=>r x y H2 λz H3=>∃k,z=.bl k/\
 (if k=true then tc σ H3 λw' H4=>r' y w' H4 Q else Q (.bl false) H3)
theorem mX{op ui:CmpOp}{r r':R2}(ho:tV X (compareOp op) r)(jo:tV X (compareOp ui) r')(ha:PE X a ta)(hb:PE X b tb)(hc:PE X c tc)
  (hm:lastMarks [op,ui] [b,c]=false:=by with_unfolding_all rfl):PE X (.Compare a [op,ui] [b,c] pos) (Hq r r' ta tb tc):=by
 intro pins s σ H Q I h
 refine Compare_chain (cD (ha pins s σ H _ I h) λv s1 ⟨x,H1,I1,r1,q1⟩=>chain_link (cD (hb pins s1 σ H1 _ I1 q1) λu s2 ⟨y,H2,I2,r2,q2⟩=>
  cD (ho pins s2 σ H2 x y v u _ I2 r1 r2 q2) λd s3 ⟨z,H3,I3,r3,k,e,q3⟩=>?_)) hm
 subst e
 cases r3
 refine wpAny_truthy_bool ?_
 cases k with
 |false=>exact ite_ff ⟨.bl false,H3,I3,rfl,q3⟩
 |true=>exact ite_tt (chain_last (cD (hc pins s3 σ H3 _ I3 q3) λw' s4 ⟨z',H4,I4,r4,q4⟩=>jo pins s4 σ H4 y z' u w' Q I4 r2 r4 q4))
theorem Po{op ui:CmpOp}{r r':R2}(ho:tV X (compareOp op) r)(jo:tV X (compareOp ui) r')(ha:PE X a ta)(hb:PE X b tb)(hc:PE X c tc)
  (hm:lastMarks [op,ui] [b,c]=false:=by with_unfolding_all rfl):PT X (.Compare a [op,ui] [b,c] pos) (Qg (Hq r r' ta tb tc)):=by
 intro pins s σ H Q I h
 refine isTrue_chain (cD (ha pins s σ H _ I h) λv s1 ⟨x,H1,I1,r1,q1⟩=>test_link (cD (hb pins s1 σ H1 _ I1 q1) λu s2 ⟨y,H2,I2,r2,q2⟩=>
  cD (ho pins s2 σ H2 x y v u _ I2 r1 r2 q2) λd s3 ⟨z,H3,I3,r3,k,e,q3⟩=>?_)) hm
 subst e
 cases r3
 refine wpAny_truthy_bool ?_
 cases k with
 |false=>
  obtain⟨k',e',q'⟩:=q3
  cases e'
  exact ite_ff ⟨H3,I3,q'⟩
 |true=>
  refine ite_tt (test_last (cD (hc pins s3 σ H3 _ I3 q3) λw' s4 ⟨z',H4,I4,r4,q4⟩=>cD (jo pins s4 σ H4 y z' u w' _ I4 r2 r4 q4) λd' s5 ⟨z2,H5,I5,r5,k2,e2,q5⟩=>?_))
  subst e2
  cases r5
  exact wpAny_truthy_bool ⟨H5,I5,q5⟩
theorem Ap:(sizeLine:Nat)<2 ^ 63:=by rw[tq];decide
theorem yQ{x:V}{us:List Value}(r:bA [x] us):∃u,us=[u]/\bQ x u:=by
 cases r with
 |cons r1 r2=>cases r2;exact⟨_,rfl,r1⟩
theorem Ew:mI X (.builtin "ord") (λxs H Q=>∃x,xs=[.str x]/\x.length=1/\Q (.int (x.cps.getD 0 0:Nat)) H):=by
 intro pins s σ H xs us Q I r h
 obtain⟨x,rfl,hz,q⟩:=h
 obtain⟨u,rfl,t,rfl⟩:=yQ r
 exact ord_of_one hz ⟨.int _,H,I.tok _,⟨_,rfl⟩,q⟩
end
structure Is(h:Heap)(x dx C:Addr)(mA:Str->Option Value):Prop where
 obj:h.get? x=some (PySem.W.instObj C dx)
 ns:h.Ns1 dx mA
 ne:dx≠x
theorem Lu{h:Heap}{dx:Addr}{mA:Str->Option Value}(n:h.Ns1 dx mA):∃od,h.get? dx=some od/\∀name,PySem.W.lookIn name od=some (mA name):=by
 obtain⟨o,es,ep,ho,hd,hk,_,hm⟩:=n
 refine⟨o,ho,λname=>?_⟩
 have e:=hm name
 unfold nsFind findBy at e
 rw[<-LL] at e
 unfold PySem.W.lookIn
 rw[hd]
 dsimp only
 split
 ·rename_i y q
  rw[q] at e
  exact congrArg some e
 ·rename_i q
  rw[q] at e
  have a:es.toList.any (·.refKey)=false:=by
   rw[List.any_eq_false]
   intro y hy
   obtain⟨z,t,uj⟩:=hk y (Array.mem_toList_iff.mp hy)
   simp[DictEntry.refKey,uj]
  have a':¬es.toList.any (·.refKey)=true:=by rw[a];exact cb
  rw[aa a']
  exact congrArg some e
theorem Is.look{h:Heap}{x dx C:Addr}{mA:Str->Option Value}(I:Is h x dx C mA):∃od,PySem.W.InstAt h x (PySem.W.instObj C dx) C (some od)/\∀name,PySem.W.lookIn name od=some (mA name):=
 let ⟨od,ho,hl⟩:=Lu I.ns
 ⟨od,⟨I.obj,rfl,rfl,ho⟩,hl⟩
section
variable {prog:Program} {w:World} {A:Around} {E:Value->Shared->Prop} {s:Shared} {K:PySem.W.Frag} {x dx C f:Addr} {mA:Str->Option Value} {name:Str} {v:Value}
theorem Xb{expr:Bool}{Q:Value->Shared->Prop}(X:K.In s.heap)(I:Is s.heap x dx C mA)(hg:PySem.W.plainGet K C name=true)(hh:PySem.W.hasDictIn K C=true)
  (ha:PySem.W.findIn K (.ref C) name=some none) (hv:mA name=some v) (AW:PySem.W.handedIn v=true) (h:Q v {s with toks:=s.toks+1}):
  wpAny (model prog w) A (getAttr (.ref x) name expr) Q E s:=by
 obtain⟨od,J,hl⟩:=I.look
 exact PySem.W.get_value X J (PySem.W.plainGet_of hg).1 (PySem.W.findObj_own hh ha rfl (by rw[hl,hv])) AW h
theorem Sc{pl:Sem Bool}{Q:Value×List Value->Shared->Prop}(X:K.In s.heap)(I:Is s.heap x dx C mA)(hg:PySem.W.plainGet K C name=true)
  (hf:PySem.W.findIn K (.ref C) name=some (some (.ref f))) (ht:PySem.W.isFn K (.ref f)=true) (hv:mA name=none) (h:Q (.ref f,[.ref x]) s):
  wpAny (model prog w) A (getMethod (.ref x) name pl) Q E s:=by
 obtain⟨od,J,hl⟩:=I.look
 exact PySem.W.method_fn X J (PySem.W.plainGet_of hg).1 (PySem.W.plainGet_of hg).2 hf (cz.mp ht) (by show (PySem.W.lookIn name od).map (·.isSome)=some false;rw[hl,hv];rfl) h
theorem Tn{ns:List Str}{Q:Unit->Shared->Prop}(X:K.In s.heap)(I:Is s.heap x dx C mA)
  (hs:PySem.W.findIn K (.ref C) "__setattr__"=some (some (.builtin "object.__setattr__"))) (hp:PySem.W.plainOver K C=true) (ht:PySem.W.takerIn K C name=some none) (hh:PySem.W.hasDictIn K C=true)
  (hw:PySem.Within mA ns) (hsz:ns.length<=sizeLine)
  (h:∀h',Is h' x dx C (λy=>if y=name then some v else mA y)->Heap.SameBut dx s.heap h'->Q () {s with heap:=h',toks:=s.toks+2}):
  wpAny (model prog w) A (setAttr (.ref x) name v) Q E s:=by
 obtain⟨od,J,hl⟩:=I.look
 refine PySem.W.set_plain X J hs (PySem.W.osa_open (s:={s with toks:=s.toks+1}) (r:=none) X J hp ht λb=>?_)
 obtain⟨cd,hc,DP⟩:=PySem.W.any_some hh
 have hx:s.heap.get? x=some ⟨.ref C,some dx,.plain,#[]⟩:=I.obj
 refine wpAny_bind (af (wpAny_bind (wpAny_bind (wpAny_loadPart hx (wpAny_bind (PySem.W.Looks.here (s:={s with toks:=s.toks+1}) (PySem.W.looks_clsIn X hc) ?_))))))
 rw[DP]
 refine af (a:=some dx) (wpAny_bind (af (wpAny_bind ?_)))
 refine wpAny_nsSet1 (s:={s with toks:=s.toks+1}) I.ns λh' kg ia=>?_
 obtain⟨oD,NX,NY,DT,AX,AY⟩:=kg.count (PySem.Within.cons name v hw)
 refine wpAny_bind (wpAny_lookBehind DT (by rw[AX];exact pastItsLine_dict (d6 AY (by rw[bn];omega))) ?_)
 exact af (h _ ⟨(ia.2 _ (ao I.ne)).trans I.obj,kg,I.ne⟩ ia)
theorem Ei{R:Result->Shared->Prop}{vs:List Value}{kw:List (Str×Value)}(X:K.In s.heap)(hm:PySem.W.makesIn K C=true)
  (hi:PySem.W.findIn K (.ref C) "__init__"=some (some (.ref f))) (hf:PySem.W.typeIn K (.ref f)=some (.type "function"))
  (h:codeAny (model prog w) (A.under (.builtin "type.__call__" ⟨.ref C::vs,kw⟩)) (.call (.ref f) ⟨.ref (s.heap.objs.size+1)::vs,kw⟩) (PySem.W.InitBack (s.heap.objs.size+1) R)
   {s with heap:=(s.heap.push PySem.W.emptyDict).push (PySem.W.instObj C s.heap.objs.size)}):
  codeAny (model prog w) A (.call (.ref C) ⟨vs,kw⟩) R s:=by
 obtain⟨hh,g,d,t,os⟩:=s
 exact PySem.W.make_core (PySem.W.makes_of X hm) (PySem.W.looks_findIn X hi) (λself=>PySem.W.bind_fn X self hf) (.inl rfl) h
end
def mC(f:Str)(v:V):List (Str×V)->List (Str×V)
 |[]=>[(f,v)]
 |(g,x)::r=>if g=f then (g,v)::r else (g,x)::mC f v r
theorem mE(f g:Str)(v:V):∀fs:List (Str×V),(mC f v fs).lookup g=if g=f then some v else fs.lookup g
 |[]=>by
  show List.lookup g [(f,v)]=_
  by_cases h:g=f
  ·have hb:(g==f)=true:=cz.mpr h
   simp only[List.lookup,hb,ac h]
  ·have hb:(g==f)=false:=vg.mpr h
   simp only[List.lookup,hb,aa h]
 |(k,x)::r=>by
  have ih:=mE f g v r
  rw[show mC f v ((k,x)::r)=(if k=f then (k,v)::r else (k,x)::mC f v r) from rfl]
  by_cases hk:k=f
  ·rw[ac hk]
   by_cases h:g=k
   ·have hb:(g==k)=true:=cz.mpr h
    simp only[List.lookup,hb,ac (h.trans hk)]
   ·have hb:(g==k)=false:=vg.mpr h
    simp only[List.lookup,hb,aa (λe:g=f=>h (e.trans hk.symm))]
  ·rw[aa hk]
   by_cases h:g=k
   ·have hb:(g==k)=true:=cz.mpr h
    simp only[List.lookup,hb,aa (λe:g=f=>hk (h.symm.trans e))]
   ·have hb:(g==k)=false:=vg.mpr h
    simp only[List.lookup,hb]
    exact ih
theorem sL(f:Str)(v:V):∀fs:List (Str×V),f∈(mC f v fs).map (·.1)/\∀g,g∈fs.map (·.1)->g∈(mC f v fs).map (·.1)
 |[]=>⟨by simp[mC],λg h=>by simp at h⟩
 |(k,x)::r=>by
  obtain⟨i1,i2⟩:=sL f v r
  rw[show mC f v ((k,x)::r)=(if k=f then (k,v)::r else (k,x)::mC f v r) from rfl]
  by_cases hk:k=f
  ·rw[ac hk]
   subst hk
   exact⟨by simp,λg h=>by simpa using h⟩
  ·rw[aa hk]
   refine⟨?_,λg h=>?_⟩
   ·rw[bz]
    exact az _ i1
   ·rw[bz] at h ⊢
    rcases aw.mp h with e|e
    ·exact aw.mpr (.inl e)
    ·exact az _ (i2 g e)
theorem tK(f:Str)(v:V):∀fs:List (Str×V),(mC f v fs).length<=fs.length+1
 |[]=>by simp[mC]
 |(k,x)::r=>by
  have ih:=tK f v r
  rw[show mC f v ((k,x)::r)=(if k=f then (k,v)::r else (k,x)::mC f v r) from rfl]
  by_cases hk:k=f
  ·rw[ac hk,bn,bn];omega
  ·rw[aa hk,bn,bn];omega
theorem jP.some_of{v:V}{o:Option Value}(r:jP (some v) o):∃u,o=some u/\bQ v u:=by
 cases o with
 |none=>exact(show False from r).elim
 |some u=>exact⟨u,rfl,r⟩
theorem jP.none_of{o:Option Value}(r:jP none o):o=none:=by
 cases o with
 |none=>rfl
 |some u=>exact(show False from r).elim
theorem Mi{v:V}{u:Value}(r:bQ v u):PySem.W.handedIn u=true:=by
 cases v with
 |non=>cases (show u=Value.none from r);rfl
 |bl b=>cases (show u=Value.bool b from r);rfl
 |int i=>obtain⟨t,e⟩:=(show ∃t,u=Value.int i t from r);cases e;rfl
 |str x=>obtain⟨t,e⟩:=(show ∃t,u=Value.str x t from r);cases e;rfl
 |byt b=>obtain⟨t,e⟩:=(show ∃t,u=Value.bytes b t from r);cases e;rfl
 |flt b=>obtain⟨t,e⟩:=(show ∃t,u=Value.float b t from r);cases e;rfl
 |ref a=>cases (show u=Value.ref a from r);rfl
 |ty n=>cases (show u=Value.type n from r);rfl
section
variable {P:Program} {w:World} {H H':Hp} {h h':Heap} {a C dx:Addr} {fs wc:List (Str×V)}
theorem Ck(hok:kT P w H h)(e:H a=some (.ins C dx fs)):∃mA,Is h a dx C mA/\(∀f,jP (fs.lookup f) (mA f))/\PySem.Within mA (fs.map (·.1))/\fs.length<=1000/\H dx=some (.own a):=by
 obtain⟨d,z,ne,ob,mA,n,r,q⟩:=(show cE P w H h a (.ins C dx fs) from hok a _ e)
 exact⟨mA,⟨ob,n,ne⟩,r,q,z,d⟩
end
structure Gf(K:PySem.W.Frag)(C:Addr):Prop where
 pg:PySem.W.plainGet K C Str.empty=true
 hd:PySem.W.hasDictIn K C=true
 po:PySem.W.plainOver K C=true
 sa:PySem.W.findIn K (.ref C) "__setattr__"=some (some (.builtin "object.__setattr__"))
theorem Gf.get{K:PySem.W.Frag}{C:Addr}(c:Gf K C)(f:Str):PySem.W.plainGet K C f=true:=c.pg
def dC(K:PySem.W.Frag)(C:Addr)(f:Str):Prop:=PySem.W.findIn K (.ref C) f=some none
theorem dC.taker{K:PySem.W.Frag}{C:Addr}{f:Str}(n:dC K C f):PySem.W.takerIn K C f=some none:=by
 unfold PySem.W.takerIn
 rw[show PySem.W.findIn K (.ref C) f=some none from n]
 rfl
structure Wh(K:PySem.W.Frag)(C:Addr)(m:Str)(f:Addr):Prop where
 at_:PySem.W.findIn K (.ref C) m=some (some (.ref f))
 fn:PySem.W.isFn K (.ref f)=true
 kp:PySem.W.keepIn K (.ref f)=true
section
variable {X:Cx} {pins:List (Addr×Obj)} {σ:St} {H:Hp} {s:Shared} {a C dx:Addr} {fs:List (Str×V)} {f:Str} {v:V} {A:Around} {E:Value->Shared->Prop}
theorem vK{b:Bool}{Q:Value->Shared->Prop}(I:aP X pins σ H s)(e:H a=some (.ins C dx fs))(c:Gf X.K C)(n:dC X.K C f)(l:fs.lookup f=some v)
  (h:∀u s',aP X pins σ H s'->bQ v u->Q u s'):wpAny (model X.prog X.w) A (getAttr (.ref a) f b) Q E s:=by
 obtain⟨mA,O,r,_,_,_⟩:=Ck I.hok e
 obtain⟨u,hu,ru⟩:=jP.some_of (v:=v) (o:=mA f) (by rw[<-l];exact r f)
 exact Xb I.kIn O (c.get f) c.hd n hu (Mi ru) (h u _ (I.tok _) ru)
theorem wR{m:Str}{g:Addr}{pl:Sem Bool}{Q:Value×List Value->Shared->Prop}(I:aP X pins σ H s)(e:H a=some (.ins C dx fs))(c:Gf X.K C)(k:Wh X.K C m g)(l:fs.lookup m=none)
  (h:Q (.ref g,[.ref a]) s):wpAny (model X.prog X.w) A (getMethod (.ref a) m pl) Q E s:=by
 obtain⟨mA,O,r,_,_,_⟩:=Ck I.hok e
 have hn:mA m=none:=jP.none_of (by rw[<-l];exact r m)
 exact Sc I.kIn O (c.get m) k.at_ k.fn hn h
theorem xV{y:V}{u:Value}{Q:Unit->Shared->Prop}(I:aP X pins σ H s)(e:H a=some (.ins C dx fs))(c:Gf X.K C)(n:dC X.K C f)(hl:fs.length<1000)(ry:bQ y u)
  (h:∀s',aP X pins σ (upd H a (.ins C dx (mC f y fs))) s'->Q () s'):wpAny (model X.prog X.w) A (setAttr (.ref a) f u) Q E s:=by
 obtain⟨mA,O,r,wi,_,ho⟩:=Ck I.hok e
 have hz:(fs.map (·.1)).length<=sizeLine:=by rw[ah,tq];omega
 refine Tn I.kIn O c.sa c.po n.taker c.hd wi hz λh' O' sb=>h _ ?_
 have hd:∃o,h'.get? dx=some o:=let ⟨o,_,_,e',_⟩:=O'.ns;⟨o,e'⟩
 refine I.write (x:=a) (e:=dx) (by rw[e];exact True.intro) (.inr ho) (λb q hb z=>(sb.2 b hb).trans z) hd ?_
 refine⟨by rw[aB O.ne];exact ho,?_,O.ne,O'.obj,_,O'.ns,λg=>?_,λg hg=>?_⟩
 ·have:=tK f y fs;omega
 ·show jP ((mC f y fs).lookup g) (if g=f then some u else mA g)
  rw[mE]
  by_cases q:g=f
  ·rw[ac q,ac q];exact ry
  ·rw[aa q,aa q];exact r g
 ·by_cases q:g=f
  ·rw[q];exact(sL f y fs).1
  ·refine(sL f y fs).2 g (wi g λz=>hg ?_)
   show (if g=f then some u else mA g)=none
   rw[aa q];exact z
theorem aP.made(I:aP X pins σ H s):aP X pins σ (upd (upd H s.heap.objs.size (.own (s.heap.objs.size+1))) (s.heap.objs.size+1) (.ins C s.heap.objs.size []))
  {s with heap:=(s.heap.push PySem.W.emptyDict).push (PySem.W.instObj C s.heap.objs.size)}:=by
 have e1:(s.heap.push PySem.W.emptyDict).get? s.heap.objs.size=some PySem.W.emptyDict:=cf s.heap rfl
 have e2:((s.heap.push PySem.W.emptyDict).push (PySem.W.instObj C s.heap.objs.size)).get? (s.heap.objs.size+1)=some (PySem.W.instObj C s.heap.objs.size):=by
  have:=cf (s.heap.push PySem.W.emptyDict) (o:=PySem.W.instObj C s.heap.objs.size) rfl
  rwa [ja] at this
 have e3:(s.heap.push PySem.W.emptyDict).Ns s.heap.objs.size (λ_=>none):=⟨PySem.W.emptyDict,#[],_,e1,rfl,(λe he=>absurd he (by simp)),λ_=>rfl⟩
 have I1:=I.laid (a:=s.heap.objs.size) (o:=.own (s.heap.objs.size+1)) (h':=s.heap.push PySem.W.emptyDict) (t':=s.toks) (λb u q=>br _ q) (ap _) ⟨_,e1⟩
 refine I1.laid (a:=s.heap.objs.size+1) (o:=.ins C s.heap.objs.size []) (t':=s.toks) (λb u q=>br _ q) (vk (ja _ _)) ?_
 have ne:s.heap.objs.size≠s.heap.objs.size+1:=df (jl _)
 refine⟨by rw[aB ne,aC],da _,ne,e2,λ_=>none,(Heap.Ns1.of_empty e3).at λo q=>br _ q,λ_=>True.intro,λy hy=>absurd rfl hy⟩
theorem Ku{prog:Program}{w:World}{env:Env}{e:Expr}{f:Str}{pos:Pos}{s:Shared}{Q:Value->Shared->Prop}(hb:attributeBase e f env (eval e env)=eval e env)
  (h:wpAny (model prog w) A (eval e env) (λo bp=>wpAny (model prog w) A (getAttr o f true) Q E bp) E s):wpAny (model prog w) A (eval (.Attribute e f pos) env) Q E s:=
 Attribute_any_ h (by rw[arm_eval_Attribute,hb])
end
def Le(K:PySem.W.Frag)(ta:TE)(f:Str):TE:=fun σ H Q=>ta σ H λx H1=>∃a C dx fs v,x=.ref a/\H1 a=some (.ins C dx fs)/\Gf K C/\dC K C f/\fs.lookup f=some v/\Q v H1
def Zc(K:PySem.W.Frag)(ta tv:TE)(f:Str):TS:=λD σ H=>tv σ H λy H1=>ta σ H1 λx H2=>∃a C dx fs,x=.ref a/\H2 a=some (.ins C dx fs)/\Gf K C/\dC K C f/\fs.length<1000/\
 D.nx σ (upd H2 a (.ins C dx (mC f y fs)))
def aCs(X:Cx)(op:Operator)(rd:V->V->Hp->VK->Prop):Prop:=
 ∀(pins:List (Addr×Obj)) (s:Shared) (σ:St) (H:Hp) (x y:V) (u v:Value) (Q:VK),aP X pins σ H s->bQ x u->bQ y v->rd x y H Q->wpAny (model X.prog X.w) X.A (inplaceOp op u v) (EP X pins σ Q) X.xe s
def Uq(K:PySem.W.Frag)(ta tv:TE)(rd:V->V->Hp->VK->Prop)(f:Str):TS:=λD σ H=>ta σ H λx H1=>∃a C dx fs v,x=.ref a/\H1 a=some (.ins C dx fs)/\Gf K C/\dC K C f/\fs.lookup f=some v/\
 tv σ H1 λy H2=>rd v y H2 λz H3=>∃DU wc,H3 a=some (.ins C DU wc)/\wc.length<1000/\D.nx σ (upd H3 a (.ins C DU (mC f z wc)))
section
variable {X:Cx} {o e value:Expr} {f:Str} {pos j1 gc:Pos} {ta tv:TE}
theorem aO(he:PE X e ta)(hb:attributeBase e f X.env (eval e X.env)=eval e X.env):PE X (.Attribute e f pos) (Le X.K ta f):=by
 intro pins s σ H Q I h
 refine Ku hb (cD (he pins s σ H _ I h) λu s1 ⟨x,H1,I1,rx,a,C,dx,fs,v,ex,ea,c,n,l,q⟩=>?_)
 subst ex
 obtain rfl:u=Value.ref a:=rx
 exact vK I1 ea c n l λu' s2 I2 ru=>⟨v,H1,I2,ru,q⟩
theorem dS(ha:PE X o ta)(hv:PE X value tv)(hs:swapsWith value (some (.Attribute o f j1)) pos.line X.env=pure false):PS X (.Assign [.Attribute o f j1] value pos) (Zc X.K ta tv f):=by
 intro pins s σ H D I h
 refine plainObj_wpAny_Assign_Attribute (cD (hv pins s σ H _ I h) λu s1 ⟨y,H1,I1,ry,q⟩=>cD (ha pins s1 σ H1 _ I1 q) λov s2 ⟨x,H2,I2,rx,a,C,dx,fs,ex,ea,c,n,l,q2⟩=>?_) hs
 subst ex
 obtain rfl:ov=Value.ref a:=rx
 exact xV I2 ea c n l ry λs3 I3=>⟨σ,_,I3,q2⟩
theorem Nu{op:Operator}{rd:V->V->Hp->VK->Prop}(ha:PE X o ta)(hv:PE X value tv)(NZ:aCs X op rd):PS X (.AugAssign (.Attribute o f gc) op value pos) (Uq X.K ta tv rd f):=by
 intro pins s σ H D I h
 refine wpAny_AugAssign_AttributeAny (cD (ha pins s σ H _ I h) λov s1 ⟨x,H1,I1,rx,a,C,dx,fs,v,ex,ea,c,n,l,q⟩=>?_)
 subst ex
 obtain rfl:ov=Value.ref a:=rx
 refine vK I1 ea c n l λu s2 I2 ru=>cD (hv pins s2 σ H1 _ I2 q) λw3 s3 ⟨y,H2,I3,ry,q3⟩=>cD (NZ pins s3 σ H2 v y u w3 _ I3 ru ry q3) λw4 s4 ⟨z,H3,I4,rz,DU,wc,AZ,l',q4⟩=>?_
 exact xV I4 AZ c n l' rz λs5 I5=>⟨σ,_,I5,q4⟩
def aDn:V->V->Hp->VK->Prop:=λx y H Q=>∃i j,x=.int i/\y=.int j/\Q (.int (i+j)) H
theorem Ze:aCs X .Add aDn:=by
 rintro pins s σ H x y u v Q I rx ry ⟨i,j,rfl,rfl,q⟩
 obtain⟨t,rfl⟩:=(show ∃t,u=Value.int i t from rx)
 obtain⟨t',rfl⟩:=(show ∃t',v=Value.int j t' from ry)
 exact PyProof.Rows.iadd_int ⟨.int (i+j),H,I.tok _,⟨_,rfl⟩,q⟩
end
section
variable {X:Cx} {pins:List (Addr×Obj)} {σ:St} {H:Hp} {s:Shared} {A:Around} {E:Value->Shared->Prop} {Q:Value->Shared->Prop} {c:Value} {b:Bool}
end
structure fX(k:Nat)(A:Around):Prop where
 hd:A.handled=none
 dp:A.depth+3 * k+5<recursionLimit
 un:A.units+16 * k+200<cLine
theorem fX.mono{j k:Nat}{A:Around}(r:fX k A)(h:j<=k):fX j A:=⟨r.hd,by have:=r.dp;omega,by have:=r.un;omega⟩
theorem fX.deeper{k:Nat}{A:Around}(r:fX (k+1) A)(env:Env):fX k (A.deeper env):=
 ⟨r.hd,by have:=r.dp;show A.depth+1+3 * k+5<_;omega,by have:=r.un;show A.units+3+16 * k+200<_;omega⟩
theorem vT{A:Around}{C:Addr}{us:List Value}{kw:List (Str×Value)}:(A.under (.builtin "type.__call__" ⟨.ref C::us,kw⟩)).depth=A.depth+1:=by
 first|rfl|simp[Around.under,Code.weight,Code.isCreation,Code.isGuard,Code.isCaller,Code.frames,Code.isFrame,guardIds]
theorem wY{A:Around}{C:Addr}{us:List Value}{kw:List (Str×Value)}:(A.under (.builtin "type.__call__" ⟨.ref C::us,kw⟩)).units=A.units+1:=by
 first|rfl|simp[Around.under,Code.cUnits,Code.frames,Code.isFrame]
theorem fX.make{k:Nat}{A:Around}(r:fX (k+1) A)(C:Addr)(us:List Value)(kw:List (Str×Value)):fX k (A.under (.builtin "type.__call__" ⟨.ref C::us,kw⟩)):=
 ⟨r.hd,by have:=r.dp;rw[vT];omega,by have:=r.un;rw[wY];omega⟩
theorem fX.depth{k:Nat}{A:Around}(r:fX k A):A.depth<recursionLimit:=by have:=r.dp;omega
theorem fX.units{k:Nat}{A:Around}(r:fX k A):A.units+64<cLine:=by have:=r.un;omega
def gY:TA:=λ_ H Q=>Q [] H
def eR(ta:TE)(tr:TA):TA:=fun σ H Q=>ta σ H λx H1=>tr σ H1 λxs H2=>Q (x::xs) H2
section
variable {X:Cx} {e:Expr} {es:List Expr} {te:TE} {t:TA} {pos:Pos}
theorem aF:PA X [] gY:=λ_ _ _ _ H Q I h=>CD ⟨[],H,I,.nil,h⟩
theorem aA(ha:PE X e te)(hr:PA X es t)(hs:starEach (e::es) X.env=(false,eval e X.env)::starEach es X.env:=by rfl):PA X (e::es) (eR te t):=by
 intro pos pins s σ H Q I h
 rw[hs]
 show wpAny _ _ (spliced ((false,eval e X.env)::backTo pos (starEach es X.env))) _ _ s
 refine z5 (cD (ha pins s σ H _ I h) λu s1 ⟨x,H1,I1,r1,q1⟩=>?_)
 exact cD (hr pos pins s1 σ H1 _ I1 q1) λus s2 ⟨xs,H2,I2,r2,q2⟩=>⟨x::xs,H2,I2,.cons r1 r2,q2⟩
def aB1(t:TA):TE:=fun σ H Q=>t σ H λxs H1=>xs.length<=sizeLine/\∀p,H1 p=none->Q (.ref p) (upd H1 p (.tup xs))
def aCc(t:TA):TE:=fun σ H Q=>t σ H λxs H1=>xs.length<=sizeLine/\∀p,H1 p=none->Q (.ref p) (upd H1 p (.lst xs))
theorem eN{x1}(h:PA X es t):PE X (.Tuple es x1 pos) (aB1 t):=by
 intro pins s σ H Q I hq
 refine wpAny_Tuple_spliced (cD (h pos pins s σ H _ I hq) λus s1 ⟨xs,H1,I1,r,z,q⟩=>⟨by rw[<-r.length];exact z,?_⟩)
 have hf:H1 s1.heap.objs.size=none:=I1.hok.fresh (ap _)
 refine⟨.ref s1.heap.objs.size,upd H1 s1.heap.objs.size (.tup xs),I1.laid (t':=s1.toks) (λb u e=>br _ e) (ap _) ?_,rfl,q _ hf⟩
 exact⟨z,us,r,⟨_,cf _ rfl,rfl,_,rfl⟩⟩
theorem dU(h:PA X es t):PE X (.List es pos) (aCc t):=by
 intro pins s σ H Q I hq
 refine wpAny_List_spliced (cD (h pos pins s σ H _ I hq) λus s1 ⟨xs,H1,I1,r,z,q⟩=>⟨by rw[<-r.length];exact z,?_⟩)
 have hf:H1 s1.heap.objs.size=none:=I1.hok.fresh (ap _)
 refine⟨.ref s1.heap.objs.size,upd H1 s1.heap.objs.size (.lst xs),I1.laid (t':=s1.toks) (λb u e=>br _ e) (ap _) ?_,rfl,q _ hf⟩
 exact⟨z,us,0,r,cf _ rfl⟩
end
abbrev Sp:=List V->Hp->VK->XK->Prop
abbrev Gg:=List Env->Hp->Shared->XK->Value->Shared->Prop
structure Fv(P:Program)(w:World)(K:PySem.W.Frag)(mg:Str->Option Value)(base:Heap)(A:Around)(outer:List Env)(s:Shared)(H:Hp):Prop where
 frames:A.frames=some outer
 mod:Mod K mg base
 bs:∀b o,base.get? b=some o->s.heap.get? b=some o/\H b=none
 bsz:base.objs.size<=s.heap.objs.size
 funs:s.heap.FunFrames base outer
 frf:∀b∈zG outer,H b=none
 hok:kT P w H s.heap
 bare:AllBare s.gens
def CE(outer:List Env)(P:Program)(w:World)(H:Hp)(s:Shared)(Q:VK)(u:Value)(s':Shared):Prop:=
 ∃v H',s'.os=s.os/\AllBare s'.gens/\Un (zG outer) [] H H' s.heap s'.heap/\kT P w H' s'.heap/\bQ v u/\Q v H'
def CR(CX:Gg)(outer:List Env)(P:Program)(w:World)(H:Hp)(s:Shared)(Q:VK)(E:XK)(r:Result)(s':Shared):Prop:=
 match r with
 |.ok (.ret u)=>CE outer P w H s Q u s'
 |.ok _=>False
 |.error e=>CX outer H s E e s'
structure bT(P:Program)(w:World)(K:PySem.W.Frag)(mg:Str->Option Value)(base:Heap)(CX:Gg)(k:Nat)(f:Addr)(fd:FuncData)(ps:List Str)(sp:Sp):Prop where
 len:∀vs H Q E,sp vs H Q E->vs.length=ps.length
 run:∀(A:Around)(outer:List Env)(s:Shared)(H:Hp)(args:Args)(us:List Value)(vs:List V)(Q:VK)(E:XK),fX k A->Fv P w K mg base A outer s H->BindsTo s fd args (ps.zip us)->bA vs us->sp vs H Q E->
  codeAny (model P w) A (.call (.ref f) args) (CR CX outer P w H s Q E) s
theorem Fv.make{P:Program}{w:World}{K:PySem.W.Frag}{mg:Str->Option Value}{base:Heap}{A:Around}{outer:List Env}{s:Shared}{H:Hp}(e:Fv P w K mg base A outer s H)(C:Addr)(us:List Value)(kw:List (Str×Value)):
  Fv P w K mg base (A.under (.builtin "type.__call__" ⟨.ref C::us,kw⟩)) outer s H:=⟨by first|exact e.frames|(simpa[Around.under,Code.envs,Code.isFrame,pushEnvs] using e.frames),e.mod,e.bs,e.bsz,e.funs,e.frf,e.hok,e.bare⟩
section
variable {X:Cx} {pins:List (Addr×Obj)} {σ:St} {H:Hp} {s s':Shared}
theorem aP.env0(I:aP X pins σ H s):Fv X.prog X.w X.K X.mg X.base X.A X.stack s H:=
 ⟨I.ok.frames,I.ok.mod,I.bs,d6 I.ok.bsz I.sz,I.stack,I.stkFree,I.hok,I.bare⟩
theorem aP.after{Q:VK}{u:Value}(I:aP X pins σ H s)(h:CE X.stack X.prog X.w H s Q u s'):EP X pins σ Q u s':=by
 obtain⟨v,H',os,bare,un,hok,r,q⟩:=h
 obtain⟨hh,g,d,t,N0⟩:=s'
 obtain rfl:N0=s.os:=os
 exact⟨v,H',I.call (h':=hh) (g':=g) (d':=d) (t':=t) (ch:=[]) un hok bare (λb z=>absurd z (by simp)),r,q⟩
end
def Ej(sp:Sp)(d8:List V)(E:XK)(t:TA):TE:=fun σ H Q=>t σ H λvs H1=>sp (vs++d8) H1 Q E
def mH(C:Addr)(m:Str)(sp:Sp)(d8:List V)(E:XK)(ta:TE)(t:TA):TE:=fun σ H Q=>ta σ H λx H1=>∃a dx fs,x=.ref a/\H1 a=some (.ins C dx fs)/\fs.lookup m=none/\
 t σ H1 λvs H2=>sp (x::(vs++d8)) H2 Q E
def Jv(C:Addr)(sp:Sp)(d8:List V)(E:XK)(t:TA):TE:=fun σ H Q=>t σ H λvs H1=>∀x dx,H1 x=none->H1 dx=none->dx≠x->
 sp (.ref x::(vs++d8)) (upd (upd H1 dx (.own x)) x (.ins C dx [])) (λv H2=>v=.non/\Q (.ref x) H2) E
def eY(K:PySem.W.Frag)(fd:FuncData)(ps:List Str)(ds:List Value):Prop:=
 ∀(s:Shared)(us:List Value),K.In s.heap->(us++ds).length=ps.length->BindsTo s fd ⟨us,[]⟩ (ps.zip (us++ds))
theorem eY.all{K:PySem.W.Frag}{fd:FuncData}{ps:List Str}(h:∀us:List Value,us.length=ps.length->bindArgs fd ⟨us,[]⟩=pure (ps.zip us)):eY K fd ps []:=λs us _ hl=>by
 rw[f8] at hl ⊢
 exact .of_eq (h us hl)
def iO(CX:Gg)(X:Cx)(E:XK):Prop:=∀(pins:List (Addr×Obj)) (σ:St) (H:Hp) (s:Shared) (e:Value) (s':Shared),aP X pins σ H s->CX X.stack H s E e s'->X.xe e s'
section
variable {X:Cx} {CX:Gg} {k:Nat} {f C:Addr} {fd:FuncData} {ps:List Str} {sp:Sp} {d8:List V} {ds:List Value} {E:XK} {x m:Str} {p pos cx:Pos} {e o:Expr} {es:List Expr} {ta:TE} {t:TA}
theorem Ic{pins:List (Addr×Obj)}{σ:St}{H:Hp}{s:Shared}{Q:VK}{us:List Value}{vs:List V}(F:bT X.prog X.w X.K X.mg X.base CX k f fd ps sp)(hr:fX k X.A)(hb:eY X.K fd ps ds)(hd:bA d8 ds)(hx:iO CX X E)
  (I:aP X pins σ H s) (r:bA vs us) (h:sp (vs++d8) H Q E):wpAny (model X.prog X.w) X.A (call (.ref f) us) (EP X pins σ Q) X.xe s:=by
 have r2:bA (vs++d8) (us++ds):=r.append hd
 have hl:(us++ds).length=ps.length:=by rw[<-r2.length];exact F.len _ _ _ _ h
 refine z6 (xo (F.run X.A X.stack s H ⟨us,[]⟩ (us++ds) (vs++d8) Q E hr I.env0 (hb s us I.kIn hl) r2 h) λr s' hq=>?_)
 cases r with
 |error e=>exact hx pins σ H s e s' I hq
 |ok fl=>
  cases fl with
  |ret u=>exact I.after hq
  |next=>exact False.elim hq
  |brk=>exact False.elim hq
  |cont=>exact False.elim hq
theorem aT(F:bT X.prog X.w X.K X.mg X.base CX k f fd ps sp)(hr:fX k X.A)(hg:Gl X x)(hm:X.mg x=some (.ref f))(hk:PySem.W.keepIn X.K (.ref f)=true)(hb:eY X.K fd ps ds)(hd:bA d8 ds)(hx:iO CX X E)
  (ha:PA X (e::es) t) (fq:(x==("__debug__":Str))=false:=by decide) (he:starEach (e::es) X.env=(false,eval e X.env)::starEach es X.env:=by rfl) (d9:(backTo pos (starEach es X.env)).any (·.1)=false:=by rfl):
  PE X (.Call (.Name x p) (e::es) [] pos) (Ej sp d8 E t):=by
 intro pins s σ H Q I h
 refine wpAny_Call_Name_kw (jD I hg hm ?_ fq)
 refine PySem.W.callWith_K (h₀:=X.base) I.ok.mod.kin hk (cD (ha pos pins s σ H _ I h) λus s1 ⟨vs,H1,I1,r,q⟩=>⟨I1.kIn,?_⟩) he d9
 exact Ic F hr hb hd hx I1 r q
theorem cX{pl:Sem Bool}(he:PE X o ta)(c:Gf X.K C)(hm:Wh X.K C m f)(F:bT X.prog X.w X.K X.mg X.base CX k f fd ps sp)(hr:fX k X.A)(hb:eY X.K fd ps ds)(hd:bA d8 ds)(hx:iO CX X E)(ha:PA X (e::es) t)
  (b8:starEach (e::es) X.env=(false,eval e X.env)::starEach es X.env:=by rfl) (d9:(backTo pos (starEach es X.env)).any (·.1)=false:=by rfl)
  (ht:eval (.Call (.Attribute o m cx) (e::es) [] pos) X.env=(do
   let ov <-eval o X.env
   standAt cx.atName
   let (f,first) <-holding [ov] (getMethod ov m pl)
   callWith pos f first (backTo pos (starEach (e::es) X.env)) (backToKw pos (keywordEach [] X.env))):=by rfl):
  PE X (.Call (.Attribute o m cx) (e::es) [] pos) (mH C m sp d8 E ta t):=by
 intro pins s σ H Q I h
 refine PySem.W.methodCall_KW (pl:=pl) (cD (he pins s σ H _ I h) λu s1 ⟨x,H1,I1,rx,a,dx,fs,ex,ea,l,q⟩=>?_) ht
 subst ex
 obtain rfl:u=Value.ref a:=rx
 refine wR I1 ea c hm l ?_
 refine PySem.W.callWith_K (first:=[.ref a]) (h₀:=X.base) I.ok.mod.kin hm.kp (cD (ha pos pins s1 σ H1 _ I1 q) λus s2 ⟨vs,H2,I2,r,q2⟩=>⟨I2.kIn,?_⟩) b8 d9
 exact Ic (us:=.ref a::us) (vs:=.ref a::vs) F hr hb hd hx I2 (.cons rfl r) q2
theorem cB{pl:Sem Bool}(he:PE X o ta)(c:Gf X.K C)(hm:Wh X.K C m f)(F:bT X.prog X.w X.K X.mg X.base CX k f fd ps sp)(hr:fX k X.A)(hb:eY X.K fd ps ds)(hd:bA d8 ds)(hx:iO CX X E)
  (ht:eval (.Call (.Attribute o m cx) [] [] pos) X.env=(do
   let ov <-eval o X.env
   standAt cx.atName
   let (f,first) <-holding [ov] (getMethod ov m pl)
   callWith pos f first (backTo pos (starEach [] X.env)) (backToKw pos (keywordEach [] X.env))):=by rfl):
  PE X (.Call (.Attribute o m cx) [] [] pos) (mH C m sp d8 E ta gY):=by
 intro pins s σ H Q I h
 refine PySem.W.methodCall_KW (pl:=pl) (cD (he pins s σ H _ I h) λu s1 ⟨x,H1,I1,rx,a,dx,fs,ex,ea,l,q⟩=>?_) ht
 subst ex
 obtain rfl:u=Value.ref a:=rx
 refine wR I1 ea c hm l ?_
 exact PySem.W.callWith_K0 (first:=[.ref a]) I1.kIn hm.kp (Ic (us:=[.ref a]) (vs:=[.ref a]) F hr hb hd hx I1 (.cons rfl .nil) q)
structure Mk(K:PySem.W.Frag)(C f:Addr):Prop where
 makes:PySem.W.makesIn K C=true
 init:PySem.W.findIn K (.ref C) "__init__"=some (some (.ref f))
 fn:PySem.W.isFn K (.ref f)=true
 kp:PySem.W.keepIn K (.ref C)=true
theorem Ct{pins:List (Addr×Obj)}{σ:St}{H:Hp}{s:Shared}{Q:VK}{us:List Value}{vs:List V}(M:Mk X.K C f)(F:bT X.prog X.w X.K X.mg X.base CX k f fd ps sp)(hr:fX (k+1) X.A)(hb:eY X.K fd ps ds)(hd:bA d8 ds)
  (hx:iO CX X E) (I:aP X pins σ H s) (r:bA vs us)
  (h:∀x dx,H x=none->H dx=none->dx≠x->sp (.ref x::(vs++d8)) (upd (upd H dx (.own x)) x (.ins C dx [])) (λv H2=>v=.non/\Q (.ref x) H2) E):
  wpAny (model X.prog X.w) X.A (call (.ref C) us) (EP X pins σ Q) X.xe s:=by
 have hq:=h (s.heap.objs.size+1) s.heap.objs.size (I.hok.fresh (GN _)) (I.hok.fresh (ap _)) (df (jl _))
 have I2:=aP.made (C:=C) I
 have r2:bA (V.ref (s.heap.objs.size+1)::(vs++d8)) (Value.ref (s.heap.objs.size+1)::(us++ds)):=.cons rfl (r.append hd)
 have hl:(Value.ref (s.heap.objs.size+1)::us++ds).length=ps.length:=by
  have e:=r2.length
  rw[F.len _ _ _ _ hq] at e
  exact e.symm
 refine z6 (Ei (f:=f) I.kIn M.makes M.init (cz.mp M.fn) (xo (F.run _ X.stack _ _ ⟨Value.ref (s.heap.objs.size+1)::us,[]⟩ (Value.ref (s.heap.objs.size+1)::(us++ds)) _ _ E (hr.make C us [])
  (I2.env0.make C us []) (hb _ (Value.ref (s.heap.objs.size+1)::us) I2.kIn hl) r2 hq) λr s' gd=>?_))
 cases r with
 |error e=>exact hx pins σ _ _ e s' I2 gd
 |ok fl=>
  cases fl with
  |ret u=>
   obtain⟨v,H',I3,rv,ev,q3⟩:=I2.after gd
   subst ev
   exact⟨rv,⟨V.ref (s.heap.objs.size+1),H',I3,rfl,q3⟩⟩
  |next=>exact False.elim gd
  |brk=>exact False.elim gd
  |cont=>exact False.elim gd
theorem qK(M:Mk X.K C f)(F:bT X.prog X.w X.K X.mg X.base CX k f fd ps sp)(hr:fX (k+1) X.A)(hg:Gl X x)(hm:X.mg x=some (.ref C))(hb:eY X.K fd ps ds)(hd:bA d8 ds)(hx:iO CX X E)
  (ha:PA X (e::es) t) (fq:(x==("__debug__":Str))=false:=by decide) (he:starEach (e::es) X.env=(false,eval e X.env)::starEach es X.env:=by rfl) (d9:(backTo pos (starEach es X.env)).any (·.1)=false:=by rfl):
  PE X (.Call (.Name x p) (e::es) [] pos) (Jv C sp d8 E t):=by
 intro pins s σ H Q I h
 refine wpAny_Call_Name_kw (jD I hg hm ?_ fq)
 refine PySem.W.callWith_K (h₀:=X.base) I.ok.mod.kin M.kp (cD (ha pos pins s σ H _ I h) λus s1 ⟨vs,H1,I1,r,q⟩=>⟨I1.kIn,?_⟩) he d9
 exact Ct M F hr hb hd hx I1 r q
theorem Qy(M:Mk X.K C f)(F:bT X.prog X.w X.K X.mg X.base CX k f fd ps sp)(hr:fX (k+1) X.A)(hg:Gl X x)(hm:X.mg x=some (.ref C))(hb:eY X.K fd ps ds)(hd:bA d8 ds)(hx:iO CX X E)
  (fq:(x==("__debug__":Str))=false:=by decide):PE X (.Call (.Name x p) [] [] pos) (Jv C sp d8 E gY):=by
 intro pins s σ H Q I h
 refine wpAny_Call_Name_kw (jD I hg hm ?_ fq)
 exact PySem.W.callWith_K0 I.kIn M.kp (Ct (us:=[]) M F hr hb hd hx I .nil h)
end
section
variable {X:Cx} {CX:Gg} {k:Nat} {f C:Addr} {fd:FuncData} {ps ks:List Str} {sp:Sp} {E:XK} {x m:Str} {p pos cx UE:Pos} {e o:Expr} {es:List Expr} {UF:List Keyword} {te ta:TE} {t tk:TA} {nm:Option Str}
variable {g:List Value->List Value->List Value} {gV:List V->List V->List V}
end
structure aQ(N P:List Str)(sc:Scope):Prop where
 kind:sc.kind=.function
 co:sc.isCoroutine=false
 gen:sc.isGenerator=false
 nd:N.Nodup
 pre:N.take P.length=P
 par:∀x∈P,sc.names.lookup x=some .local\/sc.names.lookup x=some .cell
 nofree:∀y∈sc.names,y.2≠.free
theorem zZ{kindOf:Str->Option NameKind}{x:Str}:∀{binds:List (Str×Value)} {m:Str->Option Value},(∀v,(x,v)∉binds)->bindL kindOf binds m x=m x
 |[],_,_=>rfl
 |(n,v)::r,m,h=>by
  unfold bindL
  rw[zZ λw hw=>h w (az _ hw)]
  split
  ·have:x≠n:=by rintro rfl;exact h v bg
   simp[this]
  ·rfl
theorem yP{kindOf:Str->Option NameKind}{x:Str}:∀{binds:List (Str×Value)} {m:Str->Option Value},(∀v,(x,v)∉binds)->bindC kindOf binds m x=m x
 |[],_,_=>rfl
 |(n,v)::r,m,h=>by
  unfold bindC
  rw[yP λw hw=>h w (az _ hw)]
  split
  ·rfl
  ·have:x≠n:=by rintro rfl;exact h v bg
   simp[this]
theorem zE{kindOf:Str->Option NameKind}{x:Str}{v:Value}:∀{P:List Str}{vs:List Value}{i:Nat}{m:Str->Option Value},P.Nodup->P[i]?=some x->vs[i]?=some v->kindOf x=some .local->
  bindL kindOf (P.zip vs) m x=some v
 |[],_,_,_,_,h,_,_=>by simp at h
 |_::_,[],_,_,_,_,h,_=>by simp at h
 |p::P,w::vs,0,m,nd,h1,h2,hk=>by
  simp at h1 h2;subst h1;subst h2
  show bindL kindOf ((p,w)::P.zip vs) m p=_
  unfold bindL
  rw[zZ λv hv=>(jb.mp nd).1 (z7 hv).1,ac hk]
  simp
 |p::P,w::vs,i+1,m,nd,h1,h2,hk=>by
  show bindL kindOf ((p,w)::P.zip vs) m x=_
  unfold bindL
  exact zE (i:=i) (jb.mp nd).2 (by simpa using h1) (by simpa using h2) hk
theorem yS{kindOf:Str->Option NameKind}{x:Str}{v:Value}:∀{P:List Str}{vs:List Value}{i:Nat}{m:Str->Option Value},P.Nodup->P[i]?=some x->vs[i]?=some v->kindOf x≠some .local->
  bindC kindOf (P.zip vs) m x=some v
 |[],_,_,_,_,h,_,_=>by simp at h
 |_::_,[],_,_,_,_,h,_=>by simp at h
 |p::P,w::vs,0,m,nd,h1,h2,hk=>by
  simp at h1 h2;subst h1;subst h2
  show bindC kindOf ((p,w)::P.zip vs) m p=_
  unfold bindC
  rw[yP λv hv=>(jb.mp nd).1 (z7 hv).1,aa hk]
  simp
 |p::P,w::vs,i+1,m,nd,h1,h2,hk=>by
  show bindC kindOf ((p,w)::P.zip vs) m x=_
  unfold bindC
  exact yS (i:=i) (jb.mp nd).2 (by simpa using h1) (by simpa using h2) hk
def lW(N:List Str)(vs:List V):St:=vs.map some++List.replicate (N.length - vs.length) none
def Ar(CX:Gg)(P:Program)(w:World)(K:PySem.W.Frag)(mg:Str->Option Value)(base:Heap)(N:List Str)(qual:Str)(scope:Scope)(f:Addr)(cd:Value)(A:Around)(outer:List Env)(s:Shared)(H:Hp)(E:XK):Cx where
 prog:=P
 w:=w
 K:=K
 mg:=mg
 base:=base
 A:=A.deeper (envOfC qual scope s.heap.objs.size f cd)
 N:=N
 s_0:=s
 H_0:=H
 env:=envOfC qual scope s.heap.objs.size f cd
 outer:=outer
 stack:=envOfC qual scope s.heap.objs.size f cd::outer
 ex:=[]
 calm:=true
 fn:=λ_=>true
 pn:=[]
 xe:=λe s'=>wpAny (model P w) (A.deeper (envOfC qual scope s.heap.objs.size f cd)) (leaving (envOfC qual scope s.heap.objs.size f cd) e) (λ_ DV=>CX outer H s E e DV) (λe' DV=>CX outer H s E e' DV) s'
theorem Fi{sc:Scope}{n:Nat}{x:Str}(h:sc.names.lookup x=some .cell):∃c,(cellsFrom n sc.names []).lookup x=some c:=by
 have q:=PySem.W.cellsFrom_some sc.names n [] (.inl h)
 exact lf.mp q
theorem zA{CX:Gg}{P:Program}{w:World}{K:PySem.W.Frag}{mg:Str->Option Value}{base:Heap}{N ps:List Str}{qual:Str}{scope:Scope}{f:Addr}{cd:Value}{A:Around}{outer:List Env}{s s1:Shared}{H:Hp}{E:XK}{us:List Value}{vs:List V}
  (S:aQ N ps scope) (hd:A.handled=none) (e0:Fv P w K mg base A outer s H) (hl:vs.length=ps.length) (r:bA vs us)
  (x:InCallC s s.heap.objs.size (bindL (envOfC qual scope s.heap.objs.size f cd).kindOf (ps.zip us) λ_=>none) (cellsFrom (s.heap.objs.size+1) scope.names []) (bindC (envOfC qual scope s.heap.objs.size f cd).kindOf (ps.zip us) λ_=>none) s1):
  aP (Ar CX P w K mg base N qual scope f cd A outer s H E) [] (lW N vs) H s1:=by
 have d9:ps.length<=N.length:=by have:=congrArg List.length S.pre;rw[ij] at this;omega
 obtain⟨h1,tk,rfl,hk⟩:=x.done
 have wj:∀b:Addr,b∉(Ar CX P w K mg base N qual scope f cd A outer s H E).ex:=λb z=>absurd (show b∈([]:List Addr) from z) (by simp)
 refine⟨⟨e0.mod,S.kind,rfl,rfl,ap _,λy z c h1 h2=>?_,λy hy=>?_,λy c _ h=>?_,λ_=>hd,Around.frames_deeper e0.frames,.inr ⟨rfl,rfl⟩,λb z=>absurd z (wj b),e0.bs,e0.bsz,λb _ _=>wj b,λb z=>absurd z (wj b),e0.funs,e0.frf⟩,
  rfl,e0.bare,Un.kept hk,⟨_,x.toInCall.ns,λi y v h1 h2 h3=>?_⟩,λy c h=>⟨_,x.cell y c h⟩,e0.hok.fresh (ap _),λy c h=>?_,λp hp=>absurd (show p∈([]:List (Addr×Obj)) from hp) (by simp),e0.hok.kept hk,?_⟩
 ·exact name_of_addr x.apart (PySem.mem_of_lookup h1) (PySem.mem_of_lookup h2)
 ·have hy:scope.names.lookup y=some .cell\/scope.names.lookup y=some .free:=hy
  rcases hy with hy|hy
  ·exact Fi hy
  ·exact absurd rfl (S.nofree _ (PySem.mem_of_lookup hy))
 ·exact B9 (x.above y c (PySem.mem_of_lookup h))
 ·have hi:i<vs.length:=by
   unfold lW at h2
   by_cases hi:i<vs.length
   ·exact hi
   ·rw[CF (by simpa using hi)] at h2
    rw[z8] at h2
    split at h2<;>cases h2
  have ha:vs[i]?=some v:=by
   unfold lW at h2
   rw[GO (by simpa using hi),bf] at h2
   cases e:vs[i]? with
   |none=>rw[e] at h2;cases h2
   |some a=>rw[e] at h2;cases h2;rfl
  obtain⟨u,hu,rv⟩:=r.get ha
  have hp:ps[i]?=some y:=by
   rw[<-S.pre,List.getElem?_take_of_lt (by omega)];exact h1
  have IH:ps.Nodup:=by rw[<-S.pre];exact S.nd.sublist (List.take_sublist _ _)
  refine⟨u,rv,?_⟩
  rcases S.par y (dg hp) with k|k
  ·exact .inl ⟨k,zE IH hp hu k⟩
  ·obtain⟨c,e⟩:=Fi (n:=s.heap.objs.size+1) k
   refine .inr ⟨.inl k,c,e,?_⟩
   have q:=x.cell y c e
   rw[yS IH hp hu (by show scope.names.lookup y≠_;rw[k];decide)] at q
   exact q
 ·exact e0.hok.fresh (B9 (x.above y c (PySem.mem_of_lookup h)))
 ·unfold lW
  show _=N.length
  rw[b6,ah,GQ]
  omega
theorem Xk{CX:Gg}{P:Program}{w:World}{K:PySem.W.Frag}{mg:Str->Option Value}{base:Heap}{k:Nat}{f:Addr}{name qual:Str}{params:Arguments}{body:List Stmt}{scope:Scope}{dV kV bo pm ai ct oc:Value}{an od:Option Addr}
  {cq:Array (Option Value)} {N ps:List Str} {sp:Sp} (lk:K.lookup f=some ⟨oc,od,.func (PySem.W.fnOf name qual params body scope dV kV bo pm an ai ct),cq⟩) (gt:PySem.W.codeIn K ai qual=true) (S:aQ N ps scope)
  (len:∀vs H Q E,sp vs H Q E->vs.length=ps.length)
  (uk:∀(A:Around)(outer:List Env)(s:Shared)(H:Hp)(vs:List V)(Q:VK)(E:XK),fX k (A.deeper (envOfC qual scope s.heap.objs.size f ai))->sp vs H Q E->
   ∃t,zI (Ar CX P w K mg base N qual scope f ai A outer s H E) body t/\t {nx:=λ_ H'=>Q .non H',rt:=Q} (lW N vs) H):
  bT P w K mg base CX (k+1) f (PySem.W.fnOf name qual params body scope dV kV bo pm an ai ct) ps sp:=by
 refine⟨len,λA outer s H args us vs Q E hr e0 hb r j2=>?_⟩
 have hl:=len _ _ _ _ j2
 have KX:K.In s.heap:=e0.mod.kin.keeps λb o e=>(e0.bs b o e).1
 have lim:s.heap.NoLimit:=e0.mod.nolimit.keeps λb o e=>(e0.bs b o e).1
 have DW:∀y∈ps.zip us,scope.names.lookup y.1=some .local\/(scope.names.lookup y.1=some .cell/\((cellsFrom (s.heap.objs.size+1) scope.names []).lookup y.1).isSome=true):=λ⟨n,v⟩ hy=>by
  rcases S.par n (z7 hy).1 with q|q
  ·exact .inl q
  ·exact .inr ⟨q,PySem.W.cellsFrom_some _ _ _ (.inl q)⟩
 refine LM hr.depth (KX _ _ lk) rfl S.co S.gen rfl (PySem.W.codeRec_of KX gt) (hb _ _ _ _ ?_)
 refine LN S.kind DW λenv he s1 x=>?_
 subst he
 refine⟨lim.keeps x.toInCall.keep,codeAny_func ?_⟩
 obtain⟨t,ht,hq⟩:=uk A outer s H vs Q E (hr.deeper _) j2
 have I:aP (Ar CX P w K mg base N qual scope f ai A outer s H E) [] (lW N vs) H s1:=zA S hr.hd e0 hl r x
 refine iy (ht [] s1 (lW N vs) H _ I hq) (λfl s' hs=>?_) λe s' hs=>hs
 have fin:∀{ae:St}{H':Hp}{v:V}{u:Value},aP (Ar CX P w K mg base N qual scope f ai A outer s H E) [] ae H' s'->bQ v u->Q v H'->CE outer P w H s Q u s':=
  λ{ae H' v u} J rv q=>⟨v,H',J.os,J.bare,J.base,J.hok,rv,q⟩
 cases fl with
 |ret u=>
  obtain⟨v,ae,H',J,rv,q⟩:=hs
  exact fin J rv q
 |next=>
  obtain⟨ae,H',J,q⟩:=hs
  exact fin (v:=V.non) (u:=Value.none) J rfl q
 |brk=>
  obtain⟨_,_,_,q⟩:=hs
  exact False.elim q
 |cont=>
  obtain⟨_,_,_,q⟩:=hs
  exact False.elim q
section
variable {X:Cx} {x:Str} {p pos:Pos} {e:Expr} {es:List Expr} {t:TA} {id T:String} {r:List V->Hp->VK->Prop}
def tCB(r:List V->Hp->VK->Prop)(t:TA):TE:=fun σ H Q=>t σ H λvs H1=>r vs H1 Q
theorem bK(hc:mI X (.builtin id) r)(hg:Gl X x)(hm:X.mg x=none)(hv:bootBuiltins x=some (.builtin id))(ha:PA X (e::es) t)(hn:x≠"__name__":=by decide)(fq:(x==("__debug__":Str))=false:=by decide)
  (he:starEach (e::es) X.env=(false,eval e X.env)::starEach es X.env:=by rfl) (d9:(backTo pos (starEach es X.env)).any (·.1)=false:=by rfl):PE X (.Call (.Name x p) (e::es) [] pos) (tCB r t):=by
 intro pins s σ H Q I h
 refine wpAny_Call_Name_kw (jR I hg hm hv ?_ hn fq)
 exact GS (cD (ha pos pins s σ H _ I h) λus s1 ⟨vs,H1,I1,r1,q1⟩=>hc pins s1 σ H1 vs us Q I1 r1 q1) he d9
theorem sN(hc:mI X (.type T) r)(hg:Gl X x)(hm:X.mg x=none)(hv:bootBuiltins x=some (.type T))(ha:PA X (e::es) t)(hn:x≠"__name__":=by decide)(fq:(x==("__debug__":Str))=false:=by decide)
  (he:starEach (e::es) X.env=(false,eval e X.env)::starEach es X.env:=by rfl) (d9:(backTo pos (starEach es X.env)).any (·.1)=false:=by rfl):PE X (.Call (.Name x p) (e::es) [] pos) (tCB r t):=by
 intro pins s σ H Q I h
 refine wpAny_Call_Name_kw (jR I hg hm hv ?_ hn fq)
 exact xm (cD (ha pos pins s σ H _ I h) λus s1 ⟨vs,H1,I1,r1,q1⟩=>hc pins s1 σ H1 vs us Q I1 r1 q1) he d9
end
end L2
namespace HT
open PySem PyProof.Rows
theorem Ro(A:Around)(s:Shared)(a:Int)(t:Tok)(c:Int)(u:Tok):∃e,SeqAt.EqAt A s (.int a t) (.int c u) e/\(e=true↔a=c):=
 ⟨(a==c),GU a t c u,by simp⟩
section
open PySem.SeqAt
open PySem.AutoSeq1 (wpAny_loadPart')
open PySem.MeetsSeq PySem.MeetsSeq2 PySem.MeetsSeq3
end
section
variable {prog:Program} {w:World} {A:Around} {E:Value->Shared->Prop} {s:Shared}
theorem Wt{t b:Addr}{vs ws:List Value}{Q:Value->Shared->Prop}(ht:IsTup s.heap t vs.toArray)(hb:IsTup s.heap b ws.toArray)(hv:vs≠[])
  (h1:ws=[]->Q (.ref t) s) (h2:ws≠[]->Q (.ref s.heap.objs.size) {s with heap:=s.heap.push {cls:=.type "tuple",data:=.seq (vs++ws).toArray}})
  (hsz:vs.length+ws.length<=sizeLine):wpAny (model prog w) A (binaryOp .Add (.ref t) (.ref b)) Q E s:=by
 obtain⟨⟨cls,dd,data,sl⟩,ho,hc,n,hd⟩:=id ht
 obtain⟨⟨II,qw,data2,qx⟩,kh,di,n2,dv⟩:=id hb
 simp only at hc hd di dv
 subst hc hd di dv
 have e:vs.toArray++ws.toArray=(vs++ws).toArray:=by simp
 by_cases hw:ws=[]
 ·exact GV ⟨_,ho,rfl⟩ ⟨_,kh,rfl⟩ GW GY PySem.F.slot_tuple_add PySem.F.entry_tuple_add (PySem.F.args_tuple_add_2 _ _)
   (tuple_addW1 t b vs.toArray ws.toArray n n2 dd qw sl qx (by simpa using hv) (by simp[hw])) ⟨ho,kh,h1 hw⟩
 ·refine GV ⟨_,ho,rfl⟩ ⟨_,kh,rfl⟩ GW GY PySem.F.slot_tuple_add PySem.F.entry_tuple_add (PySem.F.args_tuple_add_2 _ _)
   (tuple_addW2 t b vs.toArray ws.toArray n n2 dd qw sl qx (by simpa using hv) (by simpa using hw) (by rw[de,de];exact hsz)) ⟨ho,kh,?_⟩
  rw[e]
  exact h2 hw
def hZ(n d:Nat):Option Int->Nat
 |none=>d
 |some v=>if v<0 then (v+(n:Int)).toNat else min v.toNat n
theorem Pc(n d:Nat):hZ n d none=d:=rfl
theorem Vi(n d k:Nat):hZ n d (some (k:Int))=min k n:=by
 show (if (k:Int)<0 then ((k:Int)+(n:Int)).toNat else min (k:Int).toNat n)=min k n
 rw[aa (by omega),jm]
theorem Zw(n d:Nat)(hd:d<=n)(o:Option Int):hZ n d o<=n:=by
 cases o with
 |none=>exact hd
 |some v=>
  show (if v<0 then (v+(n:Int)).toNat else min v.toNat n)<=n
  by_cases hv:v<0
  ·rw[ac hv];omega
  ·rw[aa hv];exact Nat.min_le_right _ _
theorem Jg(v:Int)(n d:Nat):(if v<0 then max (v+(n:Int)) 0 else min v (n:Int))=((hZ n d (some v):Nat):Int):=by
 show (if v<0 then max (v+(n:Int)) 0 else min v (n:Int))=(((if v<0 then (v+(n:Int)).toNat else min v.toNat n):Nat):Int)
 by_cases hv:v<0
 ·simp only[ac hv];omega
 ·simp only[aa hv];omega
theorem Hi(lo hi:Option Int)(n:Nat):Builtin.Slice.sliceAdjust lo hi 1 (n:Int)=(((hZ n 0 lo:Nat):Int),((hZ n n hi:Nat):Int)):=by
 have h1:¬((1:Int)<0):=by omega
 unfold Builtin.Slice.sliceAdjust
 simp only[h1,jc]
 refine dk ?_ ?_
 ·cases lo with
  |none=>rfl
  |some v=>exact Jg v n 0
 ·cases hi with
  |none=>rfl
  |some v=>exact Jg v n n
theorem Gn(i j:Nat):Builtin.Slice.slicePlaces (i:Int) (j:Int) 1=j - i:=by
 unfold Builtin.Slice.slicePlaces
 have h1:(1:Int)>0:=by omega
 simp only[h1,ot,Int.ediv_one]
 split<;>omega
theorem vF{v:Value}{o:Option Int}{Q:Option Int->Shared->Prop}(p:IsPart v o)(h:Q o s):wpAny (model prog w) A (Builtin.Slice.slicePartIndex v) Q E s:=by
 cases p with
 |none=>exact slicePart_none h
 |int i t=>exact slicePart_int h
theorem kM{sl:Addr}{vl vu:Value}{lo hi:Option Int}{n:Nat}{Q:Int×Int×Nat->Shared->Prop}(hs:s.heap.IsSliceOf sl vl vu .none)(pl:IsPart vl lo)(pu:IsPart vu hi)
  (h:Q (((hZ n 0 lo:Nat):Int),1,hZ n n hi - hZ n 0 lo) s):wpAny (model prog w) A (Builtin.Slice.sliceApplied (.ref sl) (pure (n:Int))) Q E s:=by
 obtain⟨os,dz,mv,o9⟩:=id hs
 unfold Builtin.Slice.sliceApplied Builtin.Slice.sliceFields
 refine wpAny_bind (wpAny_bind (iz dz o9 (x:=vl) rfl (wpAny_bind (iz dz o9 (x:=vu) rfl (wpAny_bind (iz dz o9 (x:=.none) rfl (af ?_)))))))
 refine wpAny_bind (slicePart_none ?_)
 show wpAny _ _ (if ((1:Int)==0)=true then _ else _) _ _ s
 rw[aa (by decide)]
 refine wpAny_bind (vF pl (wpAny_bind (vF pu (wpAny_bind (af ?_)))))
 show wpAny _ _ (match Builtin.Slice.sliceAdjust lo hi 1 (n:Int) with|(lo,hi)=>pure (lo,(1:Int),Builtin.Slice.slicePlaces lo hi 1)) _ _ s
 rw[Hi lo hi n]
 show wpAny _ _ (pure (((hZ n 0 lo:Nat):Int),(1:Int),Builtin.Slice.slicePlaces ((hZ n 0 lo:Nat):Int) ((hZ n n hi:Nat):Int) 1)) _ _ s
 rw[Gn]
 exact af h
theorem Ou(xs:Array Value)(i k:Nat):((List.range k).filterMap λ(m:Nat)=>xs[((i:Int)+(m:Int) * 1).toNat]?).toArray=((xs.toList.drop i).take k).toArray:=by
 have e:(λ(m:Nat)=>xs[((i:Int)+(m:Int) * 1).toNat]?)=λm=>xs[i+m]?:=by
  funext m
  have:((i:Int)+(m:Int) * 1).toNat=i+m:=by omega
  rw[this]
 rw[e]
 have:=pick_run xs i k
 rw[List.filterMap_map] at this
 have e2:((λx=>xs[x]?)∘λx=>i+x)=λm=>xs[i+m]?:=rfl
 rw[e2] at this
 rw[this]
theorem pY{t sl:Addr}{items:Array Value}{vl vu:Value}{lo hi:Option Int}{Q:Value->Shared->Prop}(ht:IsTup s.heap t items)(hs:s.heap.IsSliceOf sl vl vu .none)(pl:IsPart vl lo)(pu:IsPart vu hi)
  (hw:¬(hZ items.size 0 lo=0/\hZ items.size items.size hi=items.size))
  (h:Q (.ref s.heap.objs.size) {s with heap:=s.heap.push {cls:=.type "tuple",data:=.seq ((items.toList.drop (hZ items.size 0 lo)).take (hZ items.size items.size hi - hZ items.size 0 lo)).toArray}})
  (hsz:items.size<=sizeLine):wpAny (model prog w) A (getItem (.ref t) (.ref sl)) Q E s:=by
 have A0:sizeOk (.seq ((items.toList.drop (hZ items.size 0 lo)).take (hZ items.size items.size hi - hZ items.size 0 lo)).toArray):=by
  show ((items.toList.drop (hZ items.size 0 lo)).take (hZ items.size items.size hi - hZ items.size 0 lo)).toArray.size<=sizeLine
  rw[de,ij,LO,l9]
  omega
 have hj:hZ items.size items.size hi<=items.size:=Zw _ _ (ap _) hi
 obtain⟨os,dz,mv,o9⟩:=id hs
 have yk:s.TypeIs (.ref sl) "slice":=⟨os,dz,mv⟩
 unfold getItem
 try with_reducible refine j8 ?_
 first|refine wpAny_bind (af ?_)|skip
 refine wpAny_bind (wpAny_sequenceKey ht.typeIs (by decide) ?_)
 refine wpAny_bind (md (name:=Str.ofString "__getitem__") ht.typeIs xp
  (jy xp ht.typeIs entry_tuple_getitem ?_ (args_tuple_getitem _ _)))
 show wpAny _ _ (Builtin.Tuple.tupleItemsOf (.ref t)>>=_) _ _ s
 refine wpAny_bind (tupleItemsOf_ ht ?_)
 refine wpAny_bind (GZ yk ?_)
 rw[ac (by decide)]
 refine wpAny_bind (kM hs pl pu ?_)
 have b7:¬((((hZ items.size 0 lo:Nat):Int)==0 && (1:Int)==1 && (hZ items.size items.size hi - hZ items.size 0 lo)==items.size)=true):=by
  intro q
  rw[cg,cg] at q
  have q1:((hZ items.size 0 lo:Nat):Int)=0:=eq_of_beq q.1.1
  have q2:hZ items.size items.size hi - hZ items.size 0 lo=items.size:=eq_of_beq q.2
  exact hw ⟨by omega,by omega⟩
 show wpAny _ _ (if (((hZ items.size 0 lo:Nat):Int)==0 && (1:Int)==1 && (hZ items.size items.size hi - hZ items.size 0 lo)==items.size)=true then _ else _) _ _ s
 rw[aa b7,Ou]
 first
  |exact wpAny_bind (m:=Builtin.Tuple.tupleExact _) (gn (af ⟨_,rfl,af h⟩) A0)
  |exact wpAny_bind (m:=Builtin.Tuple.tupleExact _) (gn (wpAny_bind (af (af ⟨_,rfl,af h⟩))) A0)
  |exact wpAny_bind (wpAny_bind (m:=Builtin.Tuple.tupleExact _) (gn (af (af ⟨_,rfl,af h⟩)) A0))
  |exact wpAny_bind (wpAny_bind (m:=Builtin.Tuple.tupleExact _) (gn (af ⟨_,rfl,af h⟩) A0))
end
end HT
namespace L2
open PySem PySem.Spec PyProof.Rows
abbrev TO:=St->Hp->(Option Int->Hp->Prop)->Prop
def PO(X:Cx)(e:Option Expr)(t:TO):Prop:=
 ∀(pins:List (Addr×Obj)) (s:Shared) (σ:St) (H:Hp) (Q:Option Int->Hp->Prop),aP X pins σ H s->t σ H Q->
  wpAny (model X.prog X.w) X.A (evalPart e X.env) (λu s'=>∃o H',aP X pins σ H' s'/\IsPart u o/\Q o H') X.xe s
def Jk:TO:=λ_ H Q=>Q none H
def Xj(t:TE):TO:=fun σ H Q=>t σ H λx H1=>∃i,x=.int i/\Q (some i) H1
theorem fN{ns:List Int}:∀{us:List Value},bA (ns.map V.int) us->IntsAre us ns:=by
 induction ns with
 |nil=>intro us r;rw[xq] at r;cases r;exact .nil
 |cons n ns ih=>
  intro us r
  rw[bz] at r
  cases r with
  |cons r1 r2=>
   obtain⟨t,e⟩:=r1
   subst e
   exact .cons n t (ih r2)
section
variable {X:Cx} {e:Expr} {te:TE} {lo hi:Option Expr} {tl th:TO} {pos p2:Pos}
theorem Wx:PO X none Jk:=by
 intro pins s σ H Q I h
 rw[evalPart_none]
 exact af ⟨none,H,I,.none,h⟩
theorem Wi(h:PE X e te):PO X (some e) (Xj te):=by
 intro pins s σ H Q I hw
 rw[evalPart_some]
 refine cD (h pins s σ H _ I hw) λu s1 ⟨x,H1,I1,r1,q1⟩=>?_
 obtain⟨i,rfl,q⟩:=q1
 obtain⟨t,rfl⟩:=r1
 exact⟨some i,H1,I1,.int i t,q⟩
def SlR(X:Cx)(r:V->Option Int->Option Int->Hp->VK->Prop):Prop:=
 ∀(pins:List (Addr×Obj)) (s:Shared) (σ:St) (H:Hp) (x:V) (v vl vu:Value) (lo hi:Option Int) (sl:Addr) (Q:VK),aP X pins σ H s->bQ x v->s.heap.IsSliceOf sl vl vu .none->IsPart vl lo->IsPart vu hi->r x lo hi H Q->
  ∃T id,typeLookup (.type T) "__getitem__"=pure (some (.builtin id))/\s.TypeIs v T/\wpAny (model X.prog X.w) X.A (getItem v (.ref sl)) (EP X pins σ Q) X.xe s
def tSl(r:V->Option Int->Option Int->Hp->VK->Prop)(te:TE)(tl th:TO):TE:=fun σ H Q=>te σ H λx H1=>tl σ H1 λl H2=>th σ H2 λu H3=>r x l u H3 Q
theorem Qi{r:V->Option Int->Option Int->Hp->VK->Prop}(hr:SlR X r)(he:PE X e te)(hl:PO X lo tl)(hu:PO X hi th):PE X (.Subscript e (.Slice lo hi none p2) pos) (tSl r te tl th):=by
 intro pins s σ H Q I h
 refine Subscript_ (cD (he pins s σ H _ I h) λv s1 ⟨x,H1,I1,r1,q1⟩=>?_)
 refine wpAny_Slice (cD (hl pins s1 σ H1 _ I1 q1) λvl s2 ⟨l,H2,I2,pl,q2⟩=>cD (hu pins s2 σ H2 _ I2 q2) λvu s3 ⟨u,H3,I3,pu,q3⟩=>?_)
 rw[evalPart_none]
 refine af ?_
 have I4:aP X pins σ H3 {s3 with heap:=s3.heap.push {cls:=.type "slice",data:=.fields #[vl,vu,.none]}}:=I3.kept (t':=s3.toks) λb ob q=>br _ q
 obtain⟨T,id,hT,ht,hg⟩:=hr pins {s3 with heap:=s3.heap.push {cls:=.type "slice",data:=.fields #[vl,vu,.none]}} σ H3 x v vl vu l u s3.heap.objs.size Q I4 r1 (Heap.IsSliceOf.new ..) pl pu q3
 show wpAny (model X.prog X.w) X.A (subscriptTail e (.Slice lo hi none p2) v (.ref s3.heap.objs.size)) (EP X pins σ Q) X.xe {s3 with heap:=s3.heap.push {cls:=.type "slice",data:=.fields #[vl,vu,.none]}}
 exact tail_any (ops:=[.ref s3.heap.objs.size,v]) ht hT hg (by with_unfolding_all rfl)
def Co(xs:List V)(lo hi:Option Int):List V:=(xs.drop (HT.hZ xs.length 0 lo)).take (HT.hZ xs.length xs.length hi - HT.hZ xs.length 0 lo)
theorem Ee(xs:List V)(lo hi:Option Int):(Co xs lo hi).length<=xs.length:=by
 unfold Co
 rw[ij,LO]
 omega
def aD3(K:PySem.W.Frag):V->Option Int->Option Int->Hp->VK->Prop:=λx lo hi H Q=>∃a xs,x=.ref a/\cN K H a xs/\
 ¬(HT.hZ xs.length 0 lo=0/\HT.hZ xs.length xs.length hi=xs.length)/\∀p,H p=none->Q (.ref p) (upd H p (.tup (Co xs lo hi)))
theorem Ym:SlR X (aD3 X.K):=by
 intro pins s σ H x v vl vu lo hi sl Q I rx hs pl pu h
 obtain⟨a,xs,rfl,hx,hw,q⟩:=h
 cases rx
 obtain⟨its,r,ht,hz⟩:=I.tuple hx
 have ax:its.toArray.size=xs.length:=by rw[de];exact r.length.symm
 refine⟨"tuple",_,xp.lookup,ht.typeIs,?_⟩
 refine HT.pY ht hs pl pu (by rw[ax];exact hw) ?_ (by rw[ax];exact hz)
 rw[ax]
 refine⟨.ref s.heap.objs.size,_,I.laid (t':=s.toks) (o:=.tup (Co xs lo hi)) (λb ob q=>br _ q) (ap _) ?_,rfl,q _ (I.hok.fresh (ap _))⟩
 exact⟨d6 (Ee xs lo hi) hz,_,(r.drop (HT.hZ xs.length 0 lo)).take (HT.hZ xs.length xs.length hi - HT.hZ xs.length 0 lo),IsTup.new _ _⟩
def aCn(K:PySem.W.Frag):R2:=λx y H Q=>∃a b xs ys,x=.ref a/\y=.ref b/\cN K H a xs/\cN K H b ys/\xs≠[]/\xs.length+ys.length<=sizeLine/\
 (ys=[]->Q (.ref a) H)/\(ys≠[]->∀p,H p=none->Q (.ref p) (upd H p (.tup (xs++ys))))
theorem bA.nil_iff{xs:List V}{us:List Value}(r:bA xs us):us=[]↔xs=[]:=by
 cases r with
 |nil=>simp
 |cons _ _=>simp
theorem Uo:tV X (binaryOp .Add) (aCn X.K):=by
 intro pins s σ H x y v u Q I rx ry h
 obtain⟨a,b,xs,ys,rfl,rfl,ha,hb,hx,hz,q1,q2⟩:=h
 cases rx
 cases ry
 obtain⟨its,r1,p1,_⟩:=I.tuple ha
 obtain⟨A1,r2,p2,_⟩:=I.tuple hb
 refine HT.Wt p1 p2 (λz=>hx (r1.nil_iff.mp z)) (λz=>⟨.ref a,H,I,rfl,q1 (r2.nil_iff.mp z)⟩) (λz=>?_) (by rw[<-r1.length,<-r2.length];exact hz)
 refine⟨.ref s.heap.objs.size,_,I.laid (t':=s.toks) (o:=.tup (xs++ys)) (λb ob q=>br _ q) (ap _) ?_,rfl,q2 (λw=>z (r2.nil_iff.mpr w)) _ (I.hok.fresh (ap _))⟩
 exact⟨by rw[b6];exact hz,_,r1.append r2,IsTup.new _ _⟩
end
def Vu(n:Nat)(i:Int):Option Nat:=if 0<=i then (if i<n then some i.toNat else none) else if -(n:Int)<=i then some (i+n).toNat else none
def Sg{α:Type}(xs:List α)(i:Int):Option α:=(Vu xs.length i).bind λj=>xs[j]?
theorem Jf{n:Nat}{i:Int}{j:Nat}(h:Vu n i=some j):seqIndex? i n=some j/\j<n/\ -(n:Int)<=i/\i<n:=by
 unfold Vu at h
 by_cases h0:0<=i
 ·rw[ac h0] at h
  by_cases h1:i<n
  ·rw[ac h1] at h
   have e:i.toNat=j:=Option.some.inj h
   exact⟨by rw[seqIndex_of h0 h1,e],by omega,by omega,h1⟩
  ·rw[aa h1] at h;cases h
 ·rw[aa h0] at h
  by_cases h1: -(n:Int)<=i
  ·rw[ac h1] at h
   have e:(i+n).toNat=j:=Option.some.inj h
   exact⟨by rw[seqIndex_neg (by omega) h1,e],by omega,h1,by omega⟩
  ·rw[aa h1] at h;cases h
theorem Lb{α:Type}{xs:List α}{i:Int}{v:α}(h:Sg xs i=some v):∃j,seqIndex? i xs.length=some j/\xs[j]?=some v/\j<xs.length/\ -(xs.length:Int)<=i/\i<xs.length:=by
 unfold Sg at h
 cases e:Vu xs.length i with
 |none=>rw[e] at h;cases h
 |some j=>
  rw[e] at h
  obtain⟨h1,h2,h3,h4⟩:=Jf e
  exact⟨j,h1,h,h2,h3,h4⟩
theorem fZ{α:Type}{xs:List α}{j:Nat}{v:α}(h:xs[j]?=some v):Sg xs (j:Int)=some v:=by
 have hj:j<xs.length:=(bh.mp h).1
 have e:Vu xs.length (j:Int)=some j:=by
  unfold Vu
  rw[ac (by omega),ac (by omega)];simp
 unfold Sg;rw[e];exact h
def Up(b:Expr):Prop:=∀o i,subscripted b false o i=operate [o,i] (getItem o i)
def IxR(X:Cx)(r:R2):Prop:=
 ∀(value slice:Expr) (pins:List (Addr×Obj)) (s:Shared) (σ:St) (H:Hp) (x y:V) (v u:Value) (Q:VK),aP X pins σ H s->bQ x v->bQ y u->r x y H Q->
  subscripted slice false v u=operate [v,u] (getItem v u)->wpAny (model X.prog X.w) X.A (subscriptTail value slice v u) (EP X pins σ Q) X.xe s
def MtR(X:Cx)(id:String)(r:V->List V->Hp->VK->Prop):Prop:=
 ∀(pins:List (Addr×Obj)) (s:Shared) (σ:St) (H:Hp) (x:V) (xs:List V) (v:Value) (us:List Value) (Q:VK),aP X pins σ H s->bQ x v->bA xs us->r x xs H Q->
  wpAny (model X.prog X.w) X.A (call (.builtin id) (v::us)) (EP X pins σ Q) X.xe s
section
variable {X:Cx} {a b:Expr} {ta tb:TE} {pos:Pos}
theorem bS{r:R2}(hr:IxR X r)(ha:PE X a ta)(hb:PE X b tb)(hs:Up b):PE X (.Subscript a b pos) (Rc r ta tb):=by
 intro pins s σ H Q I h
 exact Subscript_ (aAs ha hb I h λv u s2 x y H2 I2 rx ry q=>hr a b pins s2 σ H2 x y v u Q I2 rx ry q (hs _ _))
def Yl(K:PySem.W.Frag):R2:=λx y H Q=>∃p xs i v,x=.ref p/\y=.int i/\cP K H p xs/\Sg xs i=some v/\Q v H
def Hd(K:PySem.W.Frag):R2:=λx y H Q=>∃p xs i v,x=.ref p/\y=.int i/\cN K H p xs/\Sg xs i=some v/\Q v H
theorem fJ:IxR X (Yl X.K):=by
 intro value slice pins s σ H x y v u Q I rx ry h hs
 obtain⟨p,xs,i,z,rfl,rfl,hq,he,q⟩:=h
 cases rx
 obtain⟨t,rfl⟩:=ry
 obtain⟨its,r,pl,hz⟩:=I.list hq
 obtain⟨j,h1,h2,h3,h4,h5⟩:=Lb he
 obtain⟨w,ew,lq⟩:=r.get h2
 have hl:=r.length
 have hn:=Ap
 have fin:EP X pins σ Q w s:=⟨z,H,I,lq,q⟩
 by_cases h0:0<=i
 ·have hj:i.toNat=j:=by
   rw[seqIndex_of h0 h5] at h1
   exact Option.some.inj h1
  exact item_listR pl.isList h0 (by omega) (by rw[hj];simpa using ew) fin hs
 ·have hj:(i+(its.toArray.size:Int)).toNat=j:=by
   rw[seqIndex_neg (by omega) h4] at h1
   rw[de,<-hl]
   exact Option.some.inj h1
  exact subscriptTail_builtinR (x:=w) pl.isList.typeIs slot_list_getitem.lookup
   (wpAny_getItem_list_neg (Q:=λr s'=>r=w/\EP X pins σ Q r s') pl.isList (by omega) (by rw[de]<;>omega) (by omega) (by rw[hj];simpa using ew) ⟨rfl,fin⟩) hs
theorem bO:IxR X (Hd X.K):=by
 intro value slice pins s σ H x y v u Q I rx ry h hs
 obtain⟨p,xs,i,z,rfl,rfl,hq,he,q⟩:=h
 cases rx
 obtain⟨t,rfl⟩:=ry
 obtain⟨its,r,pl,hz⟩:=I.tuple hq
 obtain⟨j,h1,h2,h3,h4,h5⟩:=Lb he
 obtain⟨w,ew,lq⟩:=r.get h2
 have hl:=r.length
 have hn:=Ap
 have fin:EP X pins σ Q w s:=⟨z,H,I,lq,q⟩
 exact subscriptTail_builtinR (x:=w) pl.typeIs slot_tuple_getitem.lookup
  (getItem_tuple (j:=j) (Q:=λr s'=>r=w/\EP X pins σ Q r s') pl (by omega) (by omega) (by rw[de,<-hl];exact h1) (by simpa using ew) ⟨rfl,fin⟩) hs
theorem Hy(its:List Value)(n j:Nat)(u:Value):Obj.mapSeq (·.setIfInBounds j u) {cls:=.type "list",data:=.seq its.toArray n}={cls:=.type "list",data:=.seq (its.set j u).toArray n}:=by
 simp[Obj.mapSeq]
theorem aP.lst{pins:List (Addr×Obj)}{σ:St}{H:Hp}{s:Shared}{p:Addr}{xs:List V}(I:aP X pins σ H s)(h:H p=some (.lst xs)):
  ∃(its:List Value)(n:Nat),bA xs its/\s.heap.get? p=some {cls:=.type "list",data:=.seq its.toArray n}/\xs.length<=sizeLine:=by
 obtain⟨z,its,n,r,e⟩:=I.hok p _ h
 exact⟨its,n,r,e,z⟩
theorem aP.lstUpd{pins:List (Addr×Obj)}{σ:St}{H:Hp}{s:Shared}{p:Addr}{xs ys:List V}{its its':List Value}{n n':Nat}{f:Obj->Obj}(I:aP X pins σ H s)(h:H p=some (.lst xs))
  (ho:s.heap.get? p=some {cls:=.type "list",data:=.seq its.toArray n}) (hf:f {cls:=.type "list",data:=.seq its.toArray n}={cls:=.type "list",data:=.seq its'.toArray n'}) (r:bA ys its') (hz:ys.length<=sizeLine) (t:Nat):
  aP X pins σ (upd H p (.lst ys)) {s with heap:=s.heap.update p f,toks:=t}:=by
 have e:(s.heap.update p f).get? p=some {cls:=.type "list",data:=.seq its'.toArray n'}:=by
  rw[ou f ho (by rw[hf]<;>rfl),hf]
 refine I.write (x:=p) (e:=p) (by rw[h];trivial) (.inl rfl) (λb u hb q=>(lg _ _ (ao hb)).trans q) ⟨_,e⟩ ?_
 exact⟨hz,its',n',r,e⟩
def aCv:V->V->V->Hp->(Hp->Prop)->Prop:=λo i v H Q=>∃p xs k j,o=.ref p/\i=.int k/\H p=some (.lst xs)/\Vu xs.length k=some j/\Q (upd H p (.lst (xs.set j v)))
theorem Cv:aCy X aCv:=by
 intro pins s σ H o i v ov iv u Q I ro ri rv h
 obtain⟨p,xs,k,j,rfl,rfl,hp,hj,q⟩:=h
 cases ro
 obtain⟨t,rfl⟩:=ri
 obtain⟨its,n,r,ho,hz⟩:=I.lst hp
 obtain⟨h1,h2,h3,h4⟩:=Jf hj
 have hl:=r.length
 have hn:=Ap
 have I':aP X pins σ (upd H p (.lst (xs.set j v))) {s with heap:=s.heap.update p (Obj.mapSeq (·.setIfInBounds j u))}:=
  I.lstUpd hp ho (Hy its n j u) (r.set rv j) (by rw[xr];exact hz) s.toks
 by_cases h0:0<=k
 ·have hk:k.toNat=j:=by
   rw[seqIndex_of h0 h4] at h1
   exact Option.some.inj h1
  exact PySem.W.ki_setAt ho h0 (by omega) (by rw[de,<-hl];exact h4) (by rw[hk];exact⟨_,I',q⟩)
 ·have hk:(k+(its.toArray.size:Int)).toNat=j:=by
   rw[seqIndex_neg (by omega) h3] at h1
   rw[de,<-hl]
   exact Option.some.inj h1
  exact PySem.W.ki_setBack ho (by omega) (by rw[de,<-hl];exact h3) (by omega) (by rw[hk];exact⟨_,I',q⟩)
def oS:V->Bool
 |.non=>true
 |.bl _=>true
 |.int _=>true
 |.str _=>true
 |_=>false
def Yd:V->V->Bool
 |.non,.non=>true
 |.bl a,.bl b=>a==b
 |.bl a,.int b=>(if a then 1 else 0)==b
 |.int a,.bl b=>a==(if b then 1 else 0)
 |.int a,.int b=>a==b
 |.str a,.str b=>a==b
 |_,_=>false
theorem Zb{A:Around}{s:Shared}{y x:V}{u v:Value}(ry:bQ y u)(rx:bQ x v)(fy:oS y=true)(fx:oS x=true):SeqAt.EqAt A s u v (Yd y x):=by
 cases y with
 |non=>
  cases ry
  cases x with
  |non=>cases rx;exact SeqAt.EqAt.same _
  |bl b=>cases rx;exact SeqAt.EqAt.none_bool b
  |int b=>obtain⟨t,rfl⟩:=rx;exact SeqAt.EqAt.none_int b t
  |str b=>obtain⟨t,rfl⟩:=rx;exact SeqAt.EqAt.none_str b t
  |_=>exact absurd (show false=true from fx) cb
 |bl a=>
  cases ry
  cases x with
  |non=>cases rx;exact SeqAt.EqAt.bool_none a
  |bl b=>cases rx;exact SeqAt.EqAt.bool_bool a b
  |int b=>obtain⟨t,rfl⟩:=rx;exact SeqAt.EqAt.bool_int a b t
  |str b=>obtain⟨t,rfl⟩:=rx;exact SeqAt.EqAt.bool_str a b t
  |_=>exact absurd (show false=true from fx) cb
 |int a=>
  obtain⟨t',rfl⟩:=ry
  cases x with
  |non=>cases rx;exact SeqAt.EqAt.int_none a t'
  |bl b=>cases rx;exact SeqAt.EqAt.int_bool a t' b
  |int b=>obtain⟨t,rfl⟩:=rx;exact GU a t' b t
  |str b=>obtain⟨t,rfl⟩:=rx;exact SeqAt.EqAt.int_str a t' b t
  |_=>exact absurd (show false=true from fx) cb
 |str a=>
  obtain⟨t',rfl⟩:=ry
  cases x with
  |non=>cases rx;exact SeqAt.EqAt.str_none a t'
  |bl b=>cases rx;exact SeqAt.EqAt.str_bool a t' b
  |int b=>obtain⟨t,rfl⟩:=rx;exact SeqAt.EqAt.str_int a t' b t
  |str b=>obtain⟨t,rfl⟩:=rx;exact SeqAt.EqAt.str_str a t' b t
  |_=>exact absurd (show false=true from fx) cb
 |_=>exact absurd (show false=true from fy) cb
def Wl(x:V)(u:Value):Bool:=match u with
 |.none=>Yd .non x
 |.bool b=>Yd (.bl b) x
 |.int i _=>Yd (.int i) x
 |.str z _=>Yd (.str z) x
 |_=>false
theorem Qw{x y:V}{u:Value}(r:bQ y u)(f:oS y=true):Wl x u=Yd y x:=by
 cases y with
 |non=>cases r;rfl
 |bl b=>cases r;rfl
 |int i=>obtain⟨t,rfl⟩:=r;rfl
 |str z=>obtain⟨t,rfl⟩:=r;rfl
 |_=>exact absurd (show false=true from f) cb
theorem Bc{x:V}:∀{xs:List V}{us:List Value},bA xs us->xs.all oS=true->us.any (Wl x)=xs.any λy=>Yd y x
 |_,_,.nil,_=>rfl
 |y::xs,u::us,.cons r t,f=>by
  rw[qj,cg] at f
  rw[tu,tu,Qw r f.1,Bc t f.2]
theorem vE{A:Around}{s:Shared}{x:V}{v:Value}(rx:bQ x v)(fx:oS x=true):∀{xs:List V}{us:List Value},bA xs us->xs.all oS=true->∀u∈us,SeqAt.EqAt A s u v (Wl x u)
 |_,_,.nil,_=>λu hu=>by cases hu
 |y::xs,u::us,.cons r t,f=>λu' hu=>by
  rw[qj,cg] at f
  rcases aw.mp hu with rfl|hu
  ·rw[Qw r f.1];exact Zb r rx f.1 fx
  ·exact vE rx fx t f.2 u' hu
def Sw(x:V)(xs:List V):Bool:=xs.any λy=>Yd y x
def rIn(K:PySem.W.Frag)(neg:Bool):R2:=λx y H Q=>∃p xs,y=.ref p/\(cP K H p xs\/cN K H p xs)/\oS x=true/\xs.all oS=true/\Q (.bl (if neg then !Sw x xs else Sw x xs)) H
theorem kY:tV X (compareOp .NotIn) (rIn X.K true):=by
 intro pins s σ H x y v u Q I rx ry h
 obtain⟨p,xs,rfl,hq,fx,fs,q⟩:=h
 cases ry
 rcases hq with hq|hq
 ·obtain⟨its,r,pl,hz⟩:=I.list hq
  refine SeqAt.notIn_listAt (Wl x) pl.isList (λw hw=>vE rx fx r fs w (by simpa using hw)) ⟨.bl _,H,I,rfl,?_⟩
  rw[show its.toArray.any (Wl x)=its.any (Wl x) by simp,Bc r fs]
  exact q
 ·obtain⟨its,r,pl,hz⟩:=I.tuple hq
  refine SeqAt.notIn_tupleAt (Wl x) pl (λw hw=>vE rx fx r fs w (by simpa using hw)) ⟨.bl _,H,I,rfl,?_⟩
  rw[show its.toArray.any (Wl x)=its.any (Wl x) by simp,Bc r fs]
  exact q
theorem bI:mI X (.builtin "len") (λxs H Q=>∃p ys,xs=[.ref p]/\(cP X.K H p ys\/cN X.K H p ys)/\Q (.int ys.length) H):=by
 intro pins s σ H xs us Q I r h
 obtain⟨p,ys,rfl,hq,q⟩:=h
 obtain⟨u,rfl,rx⟩:=yQ r
 cases rx
 have hn:=Ap
 rcases hq with hq|hq
 ·obtain⟨its,r',pl,hz⟩:=I.list hq
  have ax:=r'.length
  exact Calls.call_len_list pl.isList (by simp only[de]<;>omega) ⟨.int ys.length,H,I.tok _,⟨s.toks+1,by rw[de,ax]⟩,q⟩
 ·obtain⟨its,r',pl,hz⟩:=I.tuple hq
  have ax:=r'.length
  exact len_tuple pl (by simp only[de]<;>omega) ⟨.int ys.length,H,I.tok _,⟨s.toks+1,by rw[de,ax]⟩,q⟩
theorem oQ:mI X (.type "tuple") (λxs H Q=>∃p ys,xs=[.ref p]/\((cP X.K H p ys/\∀l,H l=none->Q (.ref l) (upd H l (.tup ys)))\/(cN X.K H p ys/\Q (.ref p) H))):=by
 intro pins s σ H xs us Q I r h
 obtain⟨p,ys,rfl,h⟩:=h
 obtain⟨u,rfl,rx⟩:=yQ r
 cases rx
 rcases h with ⟨hq,q⟩|⟨hq,q⟩
 ·obtain⟨its,r',pl,hz⟩:=I.list hq
  have ax:=r'.length
  refine call_tuple_list pl.isList (λh' kp=>?_) (by simp only[de]<;>omega)
  have I1:aP X pins σ H {s with heap:=h'}:=I.kept (t':=s.toks) kp
  have I2:aP X pins σ (upd H h'.objs.size (.tup ys)) {s with heap:=h'.push {cls:=.type "tuple",data:=.seq its.toArray}}:=
   I1.laid (t':=s.toks) (λb o e=>br _ e) (ap _) (show cE X.prog X.w _ _ _ (.tup ys) from ⟨hz,its,r',IsTup.new _ _⟩)
  exact⟨.ref h'.objs.size,_,I2,rfl,q _ (I1.hok.fresh (ap _))⟩
 ·obtain⟨its,r',pl,hz⟩:=I.tuple hq
  exact call_tuple_same pl ⟨.ref p,H,I,rfl,q⟩
def tyV(K:PySem.W.Frag)(T:String)(x:V)(H:Hp):Prop:=match x with
 |.str _=>T="str"
 |.int _=>T="int"
 |.ref p=>(T="list"/\∃xs,cP K H p xs)\/(T="tuple"/\∃o,K.lookup p=some o/\o.cls=.type "tuple"/\o.dict=none)\/
   (T="dict"/\((∃aI,H p=some (.dK aI))\/∃aI,H p=some (.dT aI)))\/(T="set"/\∃S n,H p=some (.set S n))
 |_=>False
theorem Pb{pins:List (Addr×Obj)}{σ:St}{H:Hp}{s:Shared}{T:String}{x:V}{v:Value}(I:aP X pins σ H s)(r:bQ x v)(ty:tyV X.K T x H):
  s.TypeIs v T/\∀a,v=.ref a->∃ob,s.heap.get? a=some ob/\ob.dict=none:=by
 cases x with
 |str z=>
  obtain⟨t,rfl⟩:=r
  cases (show T="str" from ty)
  exact⟨typeIs_str s z t,λ_ e=>nomatch e⟩
 |int i=>
  obtain⟨t,rfl⟩:=r
  cases (show T="int" from ty)
  exact⟨typeIs_int s i t,λ_ e=>nomatch e⟩
 |ref p=>
  cases r
  rcases ty with ⟨rfl,xs,hq⟩|⟨rfl,o,hk,hc,hd⟩|⟨rfl,hk⟩|⟨rfl,S,n,hk⟩
  ·obtain⟨its,_,pl,_⟩:=I.list hq
   refine⟨pl.isList.typeIs,λa e=>?_⟩
   cases e
   obtain⟨o,n,e,c,hd,_⟩:=pl
   exact⟨o,e,hd⟩
  ·refine⟨⟨o,I.kIn p o hk,hc⟩,λa e=>?_⟩
   cases e
   exact⟨o,I.kIn _ o hk,hd⟩
  ·have z:∃o,s.heap.get? p=some o/\o.ExactDict:=by
    rcases hk with ⟨aI,hk⟩|⟨aI,hk⟩
    ·obtain⟨_,_,_,_,o,_,_,e,ex,_⟩:=I.hok p _ hk
     exact⟨o,e,ex⟩
    ·obtain⟨_,_,_,_,o,_,_,e,ex,_⟩:=I.hok p _ hk
     exact⟨o,e,ex⟩
   obtain⟨o,e,ex⟩:=z
   refine⟨⟨o,e,ex.1⟩,λa e2=>?_⟩
   cases e2
   exact⟨o,e,ex.2.1⟩
  ·obtain⟨o,_,_,_,e,ex,_⟩:=I.hok p _ hk
   refine⟨⟨o,e,ex.1⟩,λa e2=>?_⟩
   cases e2
   exact⟨o,e,ex.2.1⟩
 |_=>exact False.elim ty
def aD4(K:PySem.W.Frag)(T:String)(r:V->List V->Hp->VK->Prop)(to:TE):TE:=fun σ H Q=>to σ H λx H1=>tyV K T x H1/\r x [] H1 Q
def tBM(K:PySem.W.Frag)(T:String)(r:V->List V->Hp->VK->Prop)(to:TE)(t:TA):TE:=fun σ H Q=>to σ H λx H1=>tyV K T x H1/\t σ H1 λxs H2=>r x xs H2 Q
variable {o e:Expr} {es:List Expr} {to:TE} {t:TA} {name:Str} {cx b9:Pos} {T id:String} {r:V->List V->Hp->VK->Prop}
theorem Pd(pa:PlainAttrs T)(slot:Slot T name id)(gf:typeOf (.builtin id)=pure (.type "method_descriptor"))(hm:MtR X id r)(ho:PE X o to)
  (lr:attributeBase o name X.env (eval o X.env)=eval o X.env:=by rfl) (pc:(cx.endLine==b9.line)=true:=by rfl):PE X (.Call (.Attribute o name cx) [] [] b9) (aD4 X.K T r to):=by
 intro pins s σ H Q I h
 refine wpAny_Call_method0_late lr pc (cD (ho pins s σ H _ I h) λv s1 ⟨x,H1,I1,r1,ty,q1⟩=>?_)
 obtain⟨h1,h2⟩:=Pb I1 r1 ty
 exact⟨T,id,pa,slot,gf,h1,h2,G0 rfl (PySem.evalArgs_none (hm pins s1 σ H1 x [] v [] Q I1 r1 .nil q1))⟩
theorem mW(pa:PlainAttrs T)(slot:Slot T name id)(gf:typeOf (.builtin id)=pure (.type "method_descriptor"))(hm:MtR X id r)(ho:PE X o to)(ha:PA X (e::es) t)
  (lr:attributeBase o name X.env (eval o X.env)=eval o X.env:=by rfl)
  (N1:((backTo b9 (starEach (e::es) X.env)).all (λx=> !x.1) && (backToKw b9 (keywordEach [] X.env)).all (λx=>x.1.isSome)
   && decide ((e::es).length+([]:List Keyword).length+(if ([]:List Keyword).isEmpty then 0 else 1)<30))=true:=by rfl)
  (pc:(cx.endLine==b9.line)=true:=by rfl) (hs:starEach (e::es) X.env=(false,eval e X.env)::starEach es X.env:=by rfl) (N2:(backTo b9 (starEach es X.env)).any (·.1)=false:=by rfl):
  PE X (.Call (.Attribute o name cx) (e::es) [] b9) (tBM X.K T r to t):=by
 intro pins s σ H Q I h
 refine wpAny_Call_method_late lr N1 pc rfl (cD (ho pins s σ H _ I h) λv s1 ⟨x,H1,I1,r1,ty,q1⟩=>?_)
 obtain⟨h1,h2⟩:=Pb I1 r1 ty
 refine⟨T,id,pa,slot,gf,h1,h2,?_⟩
 have hA:=ha b9 pins s1 σ H1 _ I1 q1
 rw[hs] at hA ⊢
 refine G0 (by show (false||(backTo b9 (starEach es X.env)).any (·.1))=false;rw[N2]<;>rfl) (Calls.evalArgs_plain ?_)
 exact cD hA λus s2 ⟨vs,H2,I2,r2,q2⟩=>hm pins s2 σ H2 x vs v us Q I2 r1 r2 q2
end
def MtM(X:Cx)(id:String)(r:V->List V->Hp->VK->Prop):Prop:=
 ∀(pins:List (Addr×Obj)) (s:Shared) (σ:St) (H:Hp) (x:V) (xs:List V) (v:Value) (us:List Value) (Q:VK),aP X pins σ H s->bQ x v->bA xs us->r x xs H Q->
  wpAny (model X.prog X.w) X.A (call (.builtin id) (v::us)) (EP X pins σ Q) X.xe s
theorem bA.one:∀{x:V}{us:List Value},bA [x] us->∃u,us=[u]/\bQ x u
 |_,_,.cons r .nil=>⟨_,rfl,r⟩
theorem bA.zero:∀{us:List Value},bA [] us->us=[]
 |_,.nil=>rfl
theorem bA.dropLast{xs:List V}{us:List Value}(h:bA xs us):bA xs.dropLast us.dropLast:=by
 induction h with
 |nil=>exact .nil
 |cons r t ih=>
  cases t with
  |nil=>exact .nil
  |cons q t'=>exact .cons r ih
theorem bA.rep{xs:List V}{us:List Value}(h:bA xs us):∀k:Nat,bA (List.replicate k xs).flatten (List.replicate k us).flatten
 |0=>.nil
 |k+1=>by
  rw[vm,vm,vn,vn]
  exact bA.append h (bA.rep h k)
theorem Hx{α:Type}(l:List α):l.eraseIdx (l.length - 1)=l.dropLast:=by
 induction l with
 |nil=>rfl
 |cons a r ih=>
  cases r with
  |nil=>rfl
  |cons b r=>
   have e:(a::b::r).length - 1=((b::r).length - 1)+1:=by
    have h1:(a::b::r).length=r.length+2:=rfl
    have h2:(b::r).length=r.length+1:=rfl
    omega
   rw[e,List.eraseIdx_cons_succ,ih]
   all_goals rfl
theorem yL(its:List Value):∀(k:Nat)(acc:List Value),
  List.foldl (λx1 x2=>x1++x2) acc.toArray (List.replicate k its.toArray)=(acc++(List.replicate k its).flatten).toArray
 |0,acc=>by simp
 |k+1,acc=>by
  have e:acc.toArray++its.toArray=(acc++its).toArray:=by simp
  have e2:(acc++its)++(List.replicate k its).flatten=acc++(List.replicate (k+1) its).flatten:=by
   rw[vm,vn,ox]
  rw[<-e2,<-yL its k (acc++its),<-e,vm,LP]
section
variable {X:Cx} {pins:List (Addr×Obj)} {σ:St} {H:Hp} {s:Shared} {l b:Addr} {xs ys zs:List V}
theorem aP.lset{its its':List Value}{n:Nat}{f:Array Value->Array Value}{t':Nat}(I:aP X pins σ H s)(hH:H l=some (.lst xs))
  (e:s.heap.get? l=some {cls:=.type "list",data:=.seq its.toArray n}) (hf:f its.toArray=its'.toArray) (hv:bA ys its') (hz:ys.length<=sizeLine):
  aP X pins σ (upd H l (.lst ys)) {s with heap:=s.heap.update l (Obj.mapSeq f),toks:=t'}:=by
 have q:=PySem.IsL.update e f
 rw[hf] at q
 refine I.write (x:=l) (e:=l) (by rw[hH];exact trivial) (.inl rfl) (λb' u hb hu=>(lg s.heap (Obj.mapSeq f) (ao hb)).trans hu) ⟨_,q⟩ ?_
 exact⟨hz,its',_,hv,q⟩
theorem aP.lnew{its:List Value}{t':Nat}(I:aP X pins σ H s)(hv:bA ys its)(hz:ys.length<=sizeLine):
  aP X pins σ (upd H s.heap.objs.size (.lst ys)) {s with heap:=s.heap.push {cls:=.type "list",data:=.seq its.toArray},toks:=t'}:=
 I.laid (λ_ _ q=>br _ q) (ap _) ⟨hz,its,0,hv,cf _ rfl⟩
theorem aP.fresh(I:aP X pins σ H s):H s.heap.objs.size=none:=I.hok.fresh (ap _)
theorem aP.lstM(I:aP X pins σ H s)(hH:H l=some (.lst xs)):xs.length<=sizeLine/\∃(its:List Value)(n:Nat),bA xs its/\xs.length=its.length/\s.heap.get? l=some {cls:=.type "list",data:=.seq its.toArray n}:=by
 obtain⟨z,its,n,r,e⟩:=I.hok l _ hH
 exact⟨z,its,n,r,r.length,e⟩
theorem Oz{n:Nat}(h:n<=sizeLine):Builtin.List.listTooLong n=false:=by
 unfold Builtin.List.listTooLong
 exact jx (by omega)
end
section
variable {X:Cx}
def Kd:V->List V->Hp->VK->Prop:=λx vs H Q=>∃l xs y,x=.ref l/\vs=[y]/\H l=some (.lst xs)/\xs.length<sizeLine/\Q .non (upd H l (.lst (xs++[y])))
theorem eM:MtM X "list.append" Kd:=by
 intro pins s σ H x vs v us Q I rx rv h
 obtain⟨l,xs,y,rfl,rfl,hH,hz,q⟩:=h
 cases rx
 obtain⟨u,rfl,ru⟩:=rv.one
 obtain⟨z,its,n,r,hl,e⟩:=I.lstM hH
 refine z9 F.slot_list_append ⟨_,e,rfl⟩ F.entry_list_append (F.args_list_append_2 _ _) (PySem.list_append l its.toArray n u (by rw[de];omega)) ⟨e,?_⟩
 refine⟨.non,_,I.lset (its':=its++[u]) hH e (by simp) (r.append (.cons ru .nil)) ?_,rfl,q⟩
 rw[b6,mf]
 omega
def aDv:V->List V->Hp->VK->Prop:=λx vs H Q=>∃l xs y,x=.ref l/\vs=[]/\H l=some (.lst xs)/\xs[xs.length - 1]?=some y/\Q y (upd H l (.lst xs.dropLast))
theorem Rh:MtM X "list.pop" aDv:=by
 intro pins s σ H x vs v us Q I rx rv h
 obtain⟨l,xs,y,rfl,rfl,hH,hy,q⟩:=h
 cases rx
 have N3:=rv.zero
 subst N3
 obtain⟨z,its,n,r,hl,e⟩:=I.lstM hH
 obtain⟨u,hu,ru⟩:=r.get hy
 have A2:its.toArray[its.toArray.size - 1]?=some u:=by
  show its.toArray[its.length - 1]?=some u
  rw[<-G5,<-hl]
  exact hu
 refine z9 F.slot_list_pop ⟨_,e,rfl⟩ F.entry_list_pop (F.args_list_pop_1 _) (MeetsSeq.list_pop_last l its.toArray n u A2 (by rw[de];omega)) ⟨e,?_⟩
 refine⟨y,_,I.lset (its':=its.dropLast) hH e ?_ r.dropLast ?_,ru,q⟩
 ·show its.toArray.eraseIdxIfInBounds (its.toArray.size - 1)=its.dropLast.toArray
  rw[de,List.eraseIdxIfInBounds_toArray,Hx]
 ·rw[G6]
  omega
def aDu:R2:=λx y H Q=>∃l k xs,x=.ref l/\y=.int k/\H l=some (.lst xs)/\ -(2 ^ 63)<=k/\k<2 ^ 63/\xs.length * k.toNat<=sizeLine/\
 ∀p,H p=none->Q (.ref p) (upd H p (.lst (List.replicate k.toNat xs).flatten))
theorem Wv{α:Type}(xs:List α)(k:Nat):(List.replicate k xs).flatten.length=k * xs.length:=by
 induction k with
 |zero=>simp
 |succ k ih=>rw[vm,vn,b6,ih,ka,jz]
theorem Zg:tV X (binaryOp .Mult) aDu:=by
 intro pins s σ H x y v u Q I rx ry h
 obtain⟨l,k,xs,rfl,rfl,hH,h1,h2,hz,q⟩:=h
 cases rx
 obtain⟨t,rfl⟩:=ry
 obtain⟨z,its,n,r,hl,e⟩:=I.lstM hH
 have ax:its.toArray.size * k.toNat<=sizeLine:=by rw[de,<-hl];exact hz
 have N4:¬its.toArray.size * k.toNat>(2 ^ 63 - 1) / 8:=by
  have:(sizeLine:Nat)<=(2 ^ 63 - 1) / 8:=by decide
  omega
 have DX:¬(!Builtin.List.listFitsIndex k)=true:=by
  rw[fitsIndex_both h1 h2]
  exact cb
 have N5:¬Builtin.List.listTooLong (its.toArray.size * k.toNat)=true:=by
  rw[Oz ax]
  exact cb
 have A3:List.foldl (λx1 x2=>x1++x2) #[] (List.replicate (if its.toArray.isEmpty=true then 0 else k.toNat) its.toArray)=(List.replicate k.toNat its).flatten.toArray:=by
  have f0:∀m:Nat,List.foldl (λx1 x2=>x1++x2) #[] (List.replicate m its.toArray)=(List.replicate m its).flatten.toArray:=λm=>by
   have:=yL its m []
   rw[List.nil_append] at this
   exact this
  rw[f0]
  cases its with
  |nil=>simp
  |cons a r'=>rw[aa (by simp)]
 refine wpAny_binaryOp_repeat_ref (T:="list") (U:="int") (by decide) ⟨_,e,rfl⟩ (λs'=>typeIs_int s' k t) noFill_list_mul F.fills_int_mul F.slot_int_rmul repeat_list F.slot_int_index.lookup
  (z9 F.slot_int_rmul (typeIs_int s k t) F.entry_int_rmul (F.args_int_rmul_2 _ _) (int___rmul___int_list k t l its.toArray n)
   ⟨e,rfl,⟨_,e,rfl⟩,z9 F.slot_list_mul ⟨_,e,rfl⟩ F.entry_list_mul (F.args_list_mul_2 _ _) (AutoListH.list___mul___list_int_3 l its.toArray n k t DX N4 N5) ⟨e,?_⟩⟩)
 rw[A3]
 exact⟨.ref _,_,I.lnew (t':=s.toks) (r.rep k.toNat) (by rw[Wv,kb];exact hz),rfl,q _ I.fresh⟩
end
section
variable {prog:Program} {w:World} {A:Around} {E:Value->Shared->Prop} {s:Shared}
end
section
variable {X:Cx}
end
theorem bA.ints:∀{ns:List Int}{us:List Value},bA (ns.map V.int) us->IntsAre us ns
 |[],us,h=>by
  rw[xq] at h
  cases h
  exact IntsAre.nil
 |n::ns,us,h=>by
  rw[bz] at h
  cases h with
  |cons r t=>
   obtain⟨k,rfl⟩:=r
   exact IntsAre.cons n k (bA.ints t)
theorem bA.bls:∀{bs:List Bool}{us:List Value},bA (bs.map V.bl) us->us=bs.map Value.bool
 |[],us,h=>by
  rw[xq] at h
  cases h
  rfl
 |b::bs,us,h=>by
  rw[bz] at h
  cases h with
  |cons r t=>
   cases r
   rw[bA.bls t,bz]
theorem bA.ref1{a:Addr}{us:List Value}(r:bA [V.ref a] us):us=[Value.ref a]:=by
 cases r with
 |cons r t=>
  cases t
  cases r
  rfl
section
variable {prog:Program} {w:World} {A:Around} {E:Value->Shared->Prop} {s:Shared} {l:Addr} {its:List Value} {ns:List Int} {Q:Value->Shared->Prop}
theorem Wz(hh:A.handled=none)(hl:s.heap.IsList l its.toArray)(hi:IntsAre its ns)
  (h:∀h' tk t',(∀b o,s.heap.get? b=some o->h'.get? b=some o)->Q (.int ns.sum t') {s with heap:=h',toks:=tk}):wpAny (model prog w) A (call (.builtin "sum") [.ref l]) Q E s:=by
 obtain⟨xs,e⟩:=hi.allInts.items
 have hn:numsOf (intItems xs).toList=ns:=by rw[<-e];exact hi.numsOf
 rw[G7] at hn
 rw[e] at hl
 refine PySem.sum_intListG hh hl λh' tk t' hk=>?_
 have:=h h' tk t' hk
 rw[preSum_eq,AA (by simp),hn];exact this
theorem Us(hh:A.handled=none)(hl:s.heap.IsList l its.toArray)(hi:IntsAre its ns)(ak:0<ns.length)
  (h:∀h' tk M t',(∀b o,s.heap.get? b=some o->h'.get? b=some o)->M∈ns->(∀a,a∈ns->M<=a)->Q (.int M t') {s with heap:=h',toks:=tk}):wpAny (model prog w) A (call (.builtin "min") [.ref l]) Q E s:=by
 obtain⟨xs,e⟩:=hi.allInts.items
 have hn:numsOf (intItems xs).toList=ns:=by rw[<-e];exact hi.numsOf
 rw[G7] at hn
 subst hn
 rw[e] at hl
 have hsz:0<xs.size:=by simpa using ak
 refine PySem.min_intList hh hl hsz λv h' tk hv hk=>?_
 obtain⟨t,rfl⟩:=intItems_at hv
 obtain⟨h1,h2⟩:=argBest_lt (numAt xs) (xs.size - 1)
 refine h h' tk _ t hk ?_ λa ha=>?_
 ·rw[numAt_eq];exact PySem.getD_mem (by rw[ah,l9];omega)
 ·obtain⟨j,hj,rfl⟩:=mem_getD ha
  rw[ah,l9] at hj
  rw[<-numAt_eq];exact h2 j (by omega)
end
section
variable {X:Cx}
def aDb(K:PySem.W.Frag):List V->Hp->VK->Prop:=λvs H Q=>∃(a:Addr)(ns:List Int),vs=[V.ref a]/\cP K H a (ns.map V.int)/\Q (.int ns.sum) H
def aDa(K:PySem.W.Frag):List V->Hp->VK->Prop:=λvs H Q=>∃(a:Addr)(ns:List Int),vs=[V.ref a]/\cP K H a (ns.map V.int)/\0<ns.length/\∀m,m∈ns->(∀y,y∈ns->m<=y)->Q (.int m) H
theorem aAj(hc:X.calm=true):mI X (.builtin "sum") (aDb X.K):=by
 intro pins s σ H vs us Q I r h
 obtain⟨a,ns,rfl,hs,q⟩:=h
 obtain⟨its,rv,hl,_⟩:=I.list hs
 rw[bA.ref1 r]
 exact Wz (I.ok.hd hc) hl.isList rv.ints λh' tk t' hk=>⟨.int _,H,I.kept hk,⟨_,rfl⟩,q⟩
theorem Qt(hc:X.calm=true):mI X (.builtin "min") (aDa X.K):=by
 intro pins s σ H vs us Q I r h
 obtain⟨a,ns,rfl,hs,ak,q⟩:=h
 obtain⟨its,rv,hl,_⟩:=I.list hs
 rw[bA.ref1 r]
 exact Us (I.ok.hd hc) hl.isList rv.ints ak λh' tk m t' hk h1 h2=>⟨.int _,H,I.kept hk,⟨_,rfl⟩,q m h1 h2⟩
end
section
variable {X:Cx}
end
section
variable {X:Cx}
end
theorem Et{prog:Program}{w:World}{A:Around}{E:Value->Shared->Prop}{s:Shared}{l:Addr}{items:Array Value}{Q:Value->Shared->Prop}(hl:s.heap.IsList l items)
  (h:∀dh:Shared,dh={s with heap:=s.heap.push {cls:=.type "list_iterator",data:=.fields #[.ref l,.int 0 0]}}->
   (dh.heap.IsListIter s.heap.objs.size l 0/\dh.heap.IsList l items)->l≠s.heap.objs.size->Q (.ref s.heap.objs.size) dh):wpAny (model prog w) A (pyIter (.ref l)) Q E s:=by
 have aj:l<s.heap.objs.size:=by obtain⟨_,e,_⟩:=hl;exact a9 e
 exact wpAny_pyIter_list hl (h _ rfl ⟨⟨_,cf _ rfl,rfl,rfl⟩,hl.push _⟩ (df aj))
theorem sY{prog:Program}{w:World}{A:Around}{bs:List Bool}{its:List Value}(e:its=bs.map Value.bool):
  TruthOf prog w A (λi v=>its.toArray[i]?=some v) (λi=>bs.getD i false):=λi v s Q E hv hq=>by
 have AW:its[i]?=some v:=by simpa using hv
 rw[e,bf] at AW
 obtain⟨b,hb,rfl⟩:=qi.mp AW
 have hg:bs.getD i false=b:=by rw[cy,hb]<;>rfl
 have gd:Q (bs.getD i false) s:=hq
 rw[hg] at gd
 exact wpAny_truthy_bool gd
theorem zR:∀bs:List Bool,(List.range bs.length).any (λi=>bs.getD i false)=bs.any id
 |[]=>rfl
 |b::bs=>by
  rw[bn,LQ,tu,AB,tu,<-zR bs]
  all_goals rfl
theorem Ae:∀bs:List Bool,(List.range bs.length).all (λi=>bs.getD i false)=bs.all id
 |[]=>rfl
 |b::bs=>by
  rw[bn,LQ,qj,CH,qj,<-Ae bs]
  all_goals rfl
section
variable {X:Cx}
def aDo(K:PySem.W.Frag):List V->Hp->VK->Prop:=λvs H Q=>∃(a:Addr)(bs:List Bool),vs=[V.ref a]/\cP K H a (bs.map V.bl)/\Q (.bl (bs.any id)) H
def aD6(K:PySem.W.Frag):List V->Hp->VK->Prop:=λvs H Q=>∃(a:Addr)(bs:List Bool),vs=[V.ref a]/\cP K H a (bs.map V.bl)/\Q (.bl (bs.all id)) H
theorem Zy(hc:X.calm=true):mI X (.builtin "any") (aDo X.K):=by
 intro pins s σ H vs us Q I r h
 obtain⟨a,bs,rfl,hs,q⟩:=h
 obtain⟨its,rv,hl,_⟩:=I.list hs
 rw[bA.ref1 r]
 have hb:=rv.bls
 refine call_any_walk (Et hl.isList λdh e2 st ak=>?_)
 subst e2
 refine⟨_,_,_,_,_,_,_,rfl,Walks.list (A:=X.A.in1) (I.ok.hd hc) _ a ak its.toArray,st,sY hb,λh' tk hk=>?_⟩
 refine⟨.bl _,H,I.kept λb o eo=>hk b o (λul=>?_) (br _ eo),?_,q⟩
 ·rcases aw.mp ul with e1|ul
  ·exact absurd (e1▸a9 eo) (i8 _)
  ·cases ul
 ·show Value.bool _=Value.bool _
  rw[<-zR,hb,de,ah]
theorem aAk(hc:X.calm=true):mI X (.builtin "all") (aD6 X.K):=by
 intro pins s σ H vs us Q I r h
 obtain⟨a,bs,rfl,hs,q⟩:=h
 obtain⟨its,rv,hl,_⟩:=I.list hs
 rw[bA.ref1 r]
 have hb:=rv.bls
 refine call_all_walk (Et hl.isList λdh e2 st ak=>?_)
 subst e2
 refine⟨_,_,_,_,_,_,_,rfl,Walks.list (A:=X.A.in1) (I.ok.hd hc) _ a ak its.toArray,st,sY hb,λh' tk hk=>?_⟩
 refine⟨.bl _,H,I.kept λb o eo=>hk b o (λul=>?_) (br _ eo),?_,q⟩
 ·rcases aw.mp ul with e1|ul
  ·exact absurd (e1▸a9 eo) (i8 _)
  ·cases ul
 ·show Value.bool _=Value.bool _
  rw[<-Ae,hb,de,ah]
end
mutual
inductive Dp(K:PySem.W.Frag)(H:Hp):V->PyData->Prop
 |non:Dp K H .non .none
 |bl (b:Bool):Dp K H (.bl b) (.bool b)
 |int (i:Int):Dp K H (.int i) (.int i)
 |str (x:Str):Dp K H (.str x) (.str x)
 |lst {a:Addr} {xs:List V} {ds:List PyData}:cP K H a xs->yN K H xs ds->Dp K H (.ref a) (.list ds)
 |tup {a:Addr} {xs:List V} {ds:List PyData}:cN K H a xs->yN K H xs ds->Dp K H (.ref a) (.tuple ds)
inductive yN(K:PySem.W.Frag)(H:Hp):List V->List PyData->Prop
 |nil:yN K H [] []
 |cons {v:V} {vs:List V} {d:PyData} {ds:List PyData}:Dp K H v d->yN K H vs ds->yN K H (v::vs) (d::ds)
end
section
variable {X:Cx} {pins:List (Addr×Obj)} {σ:St} {H:Hp} {s:Shared}
mutual
theorem Dp.reads(I:aP X pins σ H s):∀(d:PyData)(v:V)(u:Value),Dp X.K H v d->bQ v u->∃as,Reads s.heap u d as
 |.none,_,_,h,r=>by
  cases h
  cases r
  exact⟨_,Reads.none⟩
 |.bool b,_,_,h,r=>by
  cases h
  cases r
  exact⟨_,Reads.bool b⟩
 |.int i,_,_,h,r=>by
  cases h
  obtain⟨t,rfl⟩:=r
  exact⟨_,Reads.int i t⟩
 |.str x,_,_,h,r=>by
  cases h
  obtain⟨t,rfl⟩:=r
  exact⟨_,Reads.str x t⟩
 |.list ds,_,_,h,r=>by
  cases h with
  |lst hs ha=>
   cases r
   obtain⟨its,rv,⟨o,n,ho,hc,_,hd⟩,_⟩:=I.list hs
   obtain⟨as,hr⟩:=Dp.readsAll I ds _ its ha rv
   exact⟨_,Reads.list ho hc hd hr⟩
 |.tuple ds,_,_,h,r=>by
  cases h with
  |tup hs ha=>
   cases r
   obtain⟨its,rv,⟨o,ho,hc,n,hd⟩,_⟩:=I.tuple hs
   obtain⟨as,hr⟩:=Dp.readsAll I ds _ its ha rv
   exact⟨_,Reads.tuple ho hc hd hr⟩
 |.dict _,_,_,h,_=>by cases h
theorem Dp.readsAll(I:aP X pins σ H s):∀(ds:List PyData)(vs:List V)(us:List Value),yN X.K H vs ds->bA vs us->∃as,ReadsAll s.heap us ds as
 |[],_,_,h,r=>by
  cases h
  cases r
  exact⟨_,ReadsAll.nil⟩
 |d::ds,_,_,h,r=>by
  cases h with
  |cons h1 h2=>
   cases r with
   |cons r1 r2=>
    obtain⟨as,q1⟩:=Dp.reads I d _ _ h1 r1
    obtain⟨bs,q2⟩:=Dp.readsAll I ds _ _ h2 r2
    exact⟨_,ReadsAll.cons q1 q2⟩
end
end
section
variable {X:Cx}
end
abbrev Qn(h:Heap)(c:Addr)(v:Option Value):Prop:=h.IsCell c v
def aEf(scope sc:Scope):Scope:=
 {scope with names:=scope.names.map λ(n,k)=>if (k==.free && sc.kind==.function && sc.names.lookup n==some .cell) then (n,.cell) else (n,k)}
def cW(cells:List (Str×Addr)):List (Str×NameKind)->List (Str×Addr)->List (Str×Addr)
 |[],acc=>acc
 |(n,k)::r,acc=>if k==.free then cW cells r ((n,(cells.lookup n).getD 0)::acc) else cW cells r acc
theorem rD(env:Env)(f:Str×NameKind->List (Str×Addr)->Sem (ForInStep (List (Str×Addr))))
  (hf:∀n k c,f (n,k) c=if k==.free then (do let a <-cellOf env n;pure (.yield ((n,a)::c))) else pure (.yield c)):
  ∀(names:List (Str×NameKind)) (acc:List (Str×Addr)),(∀y∈names,y.2=.free->∃c,env.cells.lookup y.1=some c)->forIn names acc f=pure (cW env.cells names acc)
 |[],acc,_=>by rw[G8];rfl
 |(n,k)::r,acc,h=>by
  rw[LR,hf]
  have ih:=λacc=>rD env f hf r acc λy hy=>h y (az _ hy)
  unfold cW
  by_cases hk:(k==NameKind.free)=true
  ·rw[ac hk,ac hk]
   obtain⟨c,hc⟩:=h (n,k) bg (by simpa using hk)
   have e:cellOf env n=pure c:=by unfold cellOf;rw[hc]
   rw[e]
   have e2:(env.cells.lookup n).getD 0=c:=by rw[hc];rfl
   rw[e2]
   exact ih _
  ·rw[aa hk,aa hk]
   exact ih _
theorem Gz{scope:Scope}{env:Env}(h:∀y∈scope.names,y.2=.free->∃c,env.cells.lookup y.1=some c):closureFor scope env=pure (cW env.cells scope.names []):=by
 simp only[closureFor]
 rw[rD env _ (λn k c=>rfl) scope.names [] h]
 rfl
theorem pN{α:Type}:∀{l:List (Str×α)} {n:Str} {c:α},(n,c)∈l->∃c',l.lookup n=some c'
 |(k,v)::r,n,c,h=>by
  rw[tw]
  cases hb:n==k with
  |true=>exact⟨_,rfl⟩
  |false=>
   rcases aw.mp h with e|h
   ·cases e;simp at hb
   ·exact pN h
theorem jF{cells:List (Str×Addr)}:∀{names:List (Str×NameKind)} {acc:List (Str×Addr)} {n:Str} {c:Addr},(n,c)∈cW cells names acc->(n,c)∈acc\/((n,.free)∈names/\c=(cells.lookup n).getD 0)
 |[],_,_,_,h=>.inl h
 |(m,k)::r,acc,n,c,h=>by
  unfold cW at h
  split at h
  ·rename_i hk
   have hk:k=.free:=by simpa using hk
   rcases jF h with h|⟨h1,h2⟩
   ·rcases aw.mp h with e|h
    ·cases e;exact .inr ⟨hk▸bg,rfl⟩
    ·exact .inl h
   ·exact .inr ⟨az _ h1,h2⟩
  ·rcases jF h with h|⟨h1,h2⟩
   ·exact .inl h
   ·exact .inr ⟨az _ h1,h2⟩
theorem nH{cells:List (Str×Addr)}:∀{names:List (Str×NameKind)} {acc:List (Str×Addr)} {p:Str×Addr},p∈acc->p∈cW cells names acc
 |[],_,_,h=>h
 |(m,k)::r,acc,p,h=>by
  unfold cW
  split
  ·exact nH (az _ h)
  ·exact nH h
theorem mS{cells:List (Str×Addr)}:∀{names:List (Str×NameKind)} {acc:List (Str×Addr)} {n:Str},(n,.free)∈names->(n,(cells.lookup n).getD 0)∈cW cells names acc
 |(m,k)::r,acc,n,h=>by
  unfold cW
  rcases aw.mp h with e|h
  ·cases e
   exact nH bg
  ·split
   ·exact mS h
   ·exact mS h
theorem kK:∀{names:List (Str×NameKind)} {h:Heap} {acc:List (Str×Addr)} {x:Str} {c:Addr},(x,c)∈cellsFrom h.objs.size names acc->
  (x,c)∈acc\/((x,.cell)∈names/\h.objs.size<=c/\Qn (pushCells h names) c none)
 |[],_,_,_,_,h=>.inl h
 |(n,k)::r,h,acc,x,c,hm=>by
  unfold cellsFrom at hm
  unfold pushCells
  split at hm
  ·rename_i hk
   rw[ac hk]
   have hk:k=.cell:=by simpa using hk
   rw[<-ja h {cls:=.type "cell",data:=.cell none}] at hm
   rcases kK hm with hm|⟨h1,h2,h3⟩
   ·rcases aw.mp hm with e|hm
    ·cases e
     exact .inr ⟨hk▸bg,ap _,_,CJ r _ _ _ (cf _ rfl),rfl⟩
    ·exact .inl hm
   ·rw[ja] at h2
    exact .inr ⟨az _ h1,CK h2,h3⟩
  ·rename_i hk
   rw[aa hk]
   rcases kK hm with hm|⟨h1,h2,h3⟩
   ·exact .inl hm
   ·exact .inr ⟨az _ h1,h2,h3⟩
theorem nO:∀{names:List (Str×NameKind)} {n:Nat} {acc:List (Str×Addr)} {p:Str×Addr},p∈acc->p∈cellsFrom n names acc
 |[],_,_,_,h=>h
 |(m,k)::r,n,acc,p,h=>by
  unfold cellsFrom
  split
  ·exact nO (az _ h)
  ·exact nO h
theorem sI:∀{names:List (Str×NameKind)} {n:Nat} {acc:List (Str×Addr)} {x:Str},(x,.cell)∈names->∃c,(x,c)∈cellsFrom n names acc
 |(m,k)::r,n,acc,x,h=>by
  unfold cellsFrom
  rcases aw.mp h with e|h
  ·cases e
   exact⟨n,nO bg⟩
  ·split
   ·exact sI h
   ·exact sI h
theorem rS:∀{names:List (Str×NameKind)} {h:Heap} {acc:List (Str×Addr)} {x y:Str} {c:Addr},(∀p∈acc,p.2<h.objs.size)->(∀x y c,(x,c)∈acc->(y,c)∈acc->x=y)->
  (x,c)∈cellsFrom h.objs.size names acc->(y,c)∈cellsFrom h.objs.size names acc->x=y
 |[],_,_,_,_,_,_,hi,h1,h2=>hi _ _ _ h1 h2
 |(n,k)::r,h,acc,x,y,c,hl,hi,h1,h2=>by
  unfold cellsFrom at h1 h2
  split at h1
  ·rename_i hk
   rw[ac hk] at h2
   rw[<-ja h {cls:=.type "cell",data:=.cell none}] at h1 h2
   refine rS (h:=h.push _) (λp hp=>?_) (λx y c a b=>?_) h1 h2
   ·rw[ja]
    rcases aw.mp hp with rfl|hp
    ·exact jl _
    ·exact CN (hl p hp)
   ·rcases aw.mp a with e|a<;>rcases aw.mp b with e'|b
    ·cases e;cases e';rfl
    ·cases e;exact absurd (hl _ b) (i8 _)
    ·cases e';exact absurd (hl _ a) (i8 _)
    ·exact hi _ _ _ a b
  ·rename_i hk
   rw[aa hk] at h2
   exact rS hl hi h1 h2
theorem Cz{M:Model}{A:Around}{E:Value->Shared->Prop}{s:Shared}{scope:Scope}{globals:Addr}{closure:List (Str×Addr)}{qual:Str}{func:Option Addr}{code:Value}{around:Env}{builtins:Addr}{Q:Env->Shared->Prop}
  (h:Q (newEnv scope s.heap.objs.size globals (cellsFrom (s.heap.objs.size+1) scope.names closure) qual func code (some around) builtins)
   {s with heap:=pushCells (s.heap.push {cls:=.type "dict",data:=.dict #[]}) scope.names}):
  wpAny M A (newFunctionEnv scope globals closure [] qual func code (some around) builtins) Q E s:=by
 simp only[newFunctionEnv,LS,ot]
 refine wpAny_bind (wpAny_alloc ?_)
 refine wpAny_bind (wpAny_layCells _ (λn k c=>rfl) scope.names closure _ _ ?_)
 rw[show ({s with heap:=s.heap.push {cls:=.type "dict",data:=.dict #[]}}:Shared).heap.objs.size=s.heap.objs.size+1 from ja ..]
 rw[G8]
 exact wpAny_bind (af (af h))
theorem mZ{sc:Scope}:∀{names:List (Str×NameKind)} {x:Str} {k:NameKind},
  (names.map λ(n,k)=>if (k==NameKind.free && sc.kind==.function && sc.names.lookup n==some .cell) then (n,NameKind.cell) else (n,k)).lookup x=some k->
  ∃k',names.lookup x=some k'/\(k=k'\/(k'=.free/\k=.cell))
 |[],_,_,h=>by simp at h
 |(n,k₀)::r,x,k,h=>by
  have ih:= @mZ sc r x k
  have h':List.lookup x ((if (k₀==NameKind.free && sc.kind==.function && sc.names.lookup n==some .cell)=true then (n,NameKind.cell) else (n,k₀))::(r.map _))=some k:=h
  cases hx:x==n with
  |true=>
   simp only[tw,hx]
   by_cases hc:(k₀==NameKind.free && sc.kind==.function && sc.names.lookup n==some .cell)=true
   ·rw[ac hc] at h'
    simp only[tw,hx] at h'
    cases h'
    simp only[cg,cz] at hc
    exact⟨k₀,rfl,.inr ⟨hc.1.1,rfl⟩⟩
   ·rw[aa hc] at h'
    simp only[tw,hx] at h'
    cases h'
    exact⟨_,rfl,.inl rfl⟩
  |false=>
   simp only[tw,hx]
   by_cases hc:(k₀==NameKind.free && sc.kind==.function && sc.names.lookup n==some .cell)=true
   ·rw[ac hc] at h'
    simp only[tw,hx] at h'
    exact ih h'
   ·rw[aa hc] at h'
    simp only[tw,hx] at h'
    exact ih h'
structure Fj(N:List Str)(sc scope:Scope)(own:List (Str×Nat)):Prop where
 kind:scope.kind=.function
 uniq:∀y∈scope.names,scope.names.lookup y.1=some y.2
 ix:∀p∈own,N[p.2]?=some p.1
 free:∀y∈scope.names,y.2=.free->sc.names.lookup y.1=some .cell\/sc.names.lookup y.1=some .free
 own:∀y∈scope.names,y.2=.local\/y.2=.cell->y.1∈own.map (·.1)\/y.1∉N
def fL(σ:St):List Nat->St
 |[]=>σ
 |v::vs=>(fL σ vs).set v none
theorem nB(σ:St):∀vs:List Nat,(fL σ vs).length=σ.length
 |[]=>rfl
 |v::vs=>by unfold fL;rw[xr,nB σ vs]
theorem sG{σ:St}{i:Nat}{x:V}:∀{vs:List Nat},(fL σ vs)[i]?=some (some x)->σ[i]?=some (some x)/\i∉vs
 |[],h=>⟨h,by simp⟩
 |v::vs,h=>by
  unfold fL at h
  by_cases hi:v=i
  ·subst hi
   by_cases hv:v<(fL σ vs).length
   ·rw[sw hv] at h;cases h
   ·rw[qk (by simpa using hv)] at h;cases h
  ·rw[vi hi] at h
   obtain⟨h1,h2⟩:=sG h
   exact⟨h1,by simp only[aw,not_or];exact⟨λe=>hi e.symm,h2⟩⟩
abbrev Cx.blk(X:Cx)(s:Shared)(H:Hp)(scope:Scope)(c6:Env)(fp:List Addr):Cx:={X with s_0:=s,H_0:=H,env:=c6,outer:=X.stack,ex:=fp,fn:=λx=>scope.names.lookup x==some .cell,pn:=[],xe:=λ_ _=>False}
section
variable {X:Cx} {pins:List (Addr×Obj)} {σ:St} {H:Hp} {s:Shared}
theorem Ek{scope:Scope}{own:List (Str×Nat)}{fp:List Addr}(I:aP X pins σ H s)(ok:Fj X.N X.env.scope scope own)(hN:X.N.Nodup)(pd:∀b∈fp,tZ X pins H b/\b<s.heap.objs.size):
  aP (X.blk s H scope (compEnvC scope (cellsFrom (s.heap.objs.size+1) scope.names (cW X.env.cells scope.names [])) s.heap.objs.size X.env) fp) [] (fL σ (own.map (·.2))) H {s with heap:=pushCells (s.heap.push {cls:=.type "dict",data:=.dict #[]}) scope.names}:=by
 have wd:∀y∈scope.names,y.2=.free->∃c,X.env.cells.lookup y.1=some c:=λy hy e=>by
  rcases ok.free y hy e with k|k
  ·exact I.ok.has _ (.inl k)
  ·exact I.ok.has _ (.inr k)
 generalize hcenv:compEnvC scope (cellsFrom (s.heap.objs.size+1) scope.names (cW X.env.cells scope.names [])) s.heap.objs.size X.env=c6
 have kp:∀b o,s.heap.get? b=some o->(pushCells (s.heap.push {cls:=.type "dict",data:=.dict #[]}) scope.names).get? b=some o:=λb o e=>CJ _ _ _ _ (br _ e)
 have hL:c6.locals=s.heap.objs.size:=by rw[<-hcenv];rfl
 have jp:c6.cells=cellsFrom (s.heap.objs.size+1) scope.names (cW X.env.cells scope.names []):=by rw[<-hcenv];rfl
 have DY:c6.scope=aEf scope X.env.scope:=by rw[<-hcenv];rfl
 rw[<-ja s.heap {cls:=.type "dict",data:=.dict #[]}] at jp
 have cm:∀{y c},(y,c)∈cW X.env.cells scope.names []->X.env.cells.lookup y=some c/\c<s.heap.objs.size:=λ{y c} hm=>by
  rcases jF hm with hm|⟨h1,rfl⟩
  ·cases hm
  ·obtain⟨c,hc⟩:=wd _ h1 rfl
   rw[hc]
   obtain⟨w,z⟩:=I.cell _ _ hc
   exact⟨rfl,z.lt⟩
 have mem:∀{y c},c6.cells.lookup y=some c->(X.env.cells.lookup y=some c/\c<s.heap.objs.size)\/(s.heap.objs.size+1<=c/\Qn (pushCells (s.heap.push {cls:=.type "dict",data:=.dict #[]}) scope.names) c none):=λ{y c} e=>by
  rw[jp] at e
  rcases kK (PySem.mem_of_lookup e) with hm|⟨_,h2,h3⟩
  ·exact .inl (cm hm)
  ·rw[ja] at h2;exact .inr ⟨h2,h3⟩
 have look:∀{y},scope.names.lookup y=some .free->∃c,c6.cells.lookup y=some c/\X.env.cells.lookup y=some c:=λ{y} hl=>by
  have hy:(y,NameKind.free)∈scope.names:=PySem.mem_of_lookup hl
  obtain⟨c',e'⟩:=pN (nO (names:=scope.names) (n:=(s.heap.push {cls:=.type "dict",data:=.dict #[]}).objs.size) (mS (cells:=X.env.cells) (acc:=[]) hy))
  rw[<-jp] at e'
  refine⟨c',e',?_⟩
  rw[jp] at e'
  rcases kK (PySem.mem_of_lookup e') with hm|⟨h1,_,_⟩
  ·exact(cm hm).1
  ·have:=ok.uniq _ h1
   rw[hl] at this;cases this
 have Sx:(X.blk s H scope c6 fp).Ok:=by
  refine⟨I.ok.mod,by show c6.scope.kind=_;rw[DY];exact ok.kind,by show c6.globals=_;rw[<-hcenv];exact I.ok.glob,by show c6.builtins=_;rw[<-hcenv];exact I.ok.blt,by show s.heap.objs.size<=c6.locals;rw[hL];exact ap _,
   λy z c e1 e2=>?_,λy hy=>?_,λy c z e=>?_,I.ok.hd,I.ok.frames,.inl rfl,λb hb=>⟨?_,λy c e z=>?_⟩,I.bs,d6 I.ok.bsz I.sz,λb o e hb=>?_,λb hb z=>?_,I.stack,I.stkFree⟩
  ·have e1:c6.cells.lookup y=some c:=e1
   have e2:c6.cells.lookup z=some c:=e2
   rw[jp] at e1 e2
   refine rS (λp hp=>?_) (λy z c a b=>I.ok.inj y z c (cm a).1 (cm b).1) (PySem.mem_of_lookup e1) (PySem.mem_of_lookup e2)
   rw[ja]
   exact CN (cm (y:=p.1) (c:=p.2) hp).2
  ·show ∃c,c6.cells.lookup y=some c
   have key:∀k,c6.kindOf y=some k->(k=.cell\/k=.free)->∃c,c6.cells.lookup y=some c:=λk hk ip=>by
    unfold Env.kindOf at hk
    rw[DY] at hk
    obtain⟨k',e,r⟩:=mZ hk
    have:k'=.cell\/k'=.free:=by
     rcases r with rfl|⟨rfl,_⟩
     ·exact ip
     ·exact .inr rfl
    rcases this with rfl|rfl
    ·obtain⟨c,hm⟩:=sI (n:=(s.heap.push {cls:=.type "dict",data:=.dict #[]}).objs.size) (acc:=cW X.env.cells scope.names []) (PySem.mem_of_lookup e)
     obtain⟨c',e'⟩:=pN hm
     exact⟨c',by rw[jp];exact e'⟩
    ·obtain⟨c,h1,_⟩:=look e
     exact⟨c,h1⟩
   rcases hy with hy|hy
   ·exact key _ hy (.inl rfl)
   ·exact key _ hy (.inr rfl)
  ·have z:(scope.names.lookup y==some NameKind.cell)=true:=z
   have z:scope.names.lookup y=some .cell:=by simpa using z
   have e:c6.cells.lookup y=some c:=e
   rw[jp] at e
   rcases kK (PySem.mem_of_lookup e) with hm|⟨_,h2,_⟩
   ·rcases jF hm with hm|⟨h1,_⟩
    ·cases hm
    ·have q:=ok.uniq _ h1
     rw[z] at q;cases q
   ·rw[ja] at h2
    exact CK h2
  ·show b≠c6.locals
   rw[hL];exact df (pd b hb).2
  ·have e:c6.cells.lookup y=some c:=e
   rcases mem e with ⟨h1,_⟩|⟨h1,_⟩
   ·exact(pd b hb).1.2.2.2.2.1 y c h1 z
   ·have h2:s.heap.objs.size+1<=b:=by rw[<-z];exact h1
    exact absurd (gm (pd b hb).2 (CK h2)) (i8 _)
  ·rcases(pd b hb).1.2.2.2.1 with z|z
   ·exact I.ok.noex b o e z
   ·exact absurd (gm (a9 e) (d6 I.ok.bsz z)) (i8 _)
  ·rcases aw.mp (I.stkSub b z) with z|z
   ·exact(pd b hb).1.2.1 z
   ·exact(pd b hb).1.2.2.1 z
 refine⟨Sx,rfl,I.bare,Un.kept kp,⟨λ_=>none,?_,λi y av e1 e2 e3=>?_⟩,λy c e=>?_,?_,λy c e=>?_,λp hp=>?_,I.hok.kept kp,by rw[nB];exact I.len⟩
 ·show Heap.Ns _ c6.locals _
  rw[hL]
  exact Heap.Ns.keeps (Heap.Ns.new ..) λb o e=>CJ _ _ _ _ e
 ·obtain⟨e2,ak⟩:=sG e2
  have fh:scope.names.lookup y=some .free/\(c6.kindOf y=some .cell\/c6.kindOf y=some .free):=by
   have key:∀k,c6.scope.names.lookup y=some k->k=.local\/k=.cell\/k=.free->scope.names.lookup y=some .free/\(c6.kindOf y=some .cell\/c6.kindOf y=some .free):=λk hk ip=>by
    have IJ:=hk
    rw[DY] at hk
    obtain⟨k',e,r⟩:=mZ hk
    have no:¬(k'=.local\/k'=.cell):=λhh=>by
     rcases ok.own _ (PySem.mem_of_lookup e) hh with e'|e'
     ·obtain⟨p,hp,N6⟩:=a6.mp e'
      have e3:=ok.ix p hp
      have:p.1=y:=N6
      rw[this] at e3
      exact ak (a6.mpr ⟨p,hp,wU hN e3 e1⟩)
     ·exact e' (dg e1)
    rcases r with rfl|⟨rfl,rfl⟩
    ·rcases ip with rfl|rfl|rfl
     ·exact absurd (.inl rfl) no
     ·exact absurd (.inr rfl) no
     ·exact⟨e,.inr IJ⟩
    ·exact⟨e,.inl IJ⟩
   have e3:Vis c6.scope y:=e3
   rcases e3 with e3|e3|e3
   ·exact key _ e3 (.inl rfl)
   ·exact key _ e3 (.inr (.inl rfl))
   ·exact key _ e3 (.inr (.inr rfl))
  obtain⟨m,hn,hl⟩:=I.loc
  have N7:Vis X.env.scope y:=(ok.free _ (PySem.mem_of_lookup fh.1) rfl).elim (λk=>.inr (.inl k)) (λk=>.inr (.inr k))
  obtain⟨w,r,q⟩:=hl i y av e1 e2 N7
  refine⟨w,r,.inr ⟨fh.2,?_⟩⟩
  obtain⟨c,h1,h2⟩:=look fh.1
  rcases q with ⟨k,_⟩|⟨_,c',e',z⟩
  ·have k:X.env.scope.names.lookup y=some .local:=k
   rcases ok.free _ (PySem.mem_of_lookup fh.1) rfl with k'|k'<;>rw[show X.env.scope.names.lookup y=_ from k'] at k<;>cases k
  ·rw[h2] at e';cases e'
   exact⟨c,h1,z.keeps kp⟩
 ·have e:c6.cells.lookup y=some c:=e
  rcases mem e with ⟨h1,_⟩|⟨_,z⟩
  ·obtain⟨w,z⟩:=I.cell y c h1
   exact⟨w,z.keeps kp⟩
  ·exact⟨_,z⟩
 ·show H c6.locals=none
  rw[hL];exact I.hok.fresh (ap _)
 ·have e:c6.cells.lookup y=some c:=e
  rcases mem e with ⟨h1,_⟩|⟨h1,_⟩
  ·exact I.freeC y c h1
  ·exact I.hok.fresh (CK h1)
 ·exact absurd (show p∈([]:List (Addr×Obj))++[] from hp) (by simp)
theorem Yr{E:Value->Shared->Prop}{D:Addr}{xs:List V}{y:V}{v:Value}{Q:Value->Shared->Prop}(I:aP X pins σ H s)(hD:H D=some (.lst xs))(hz:xs.length<sizeLine)(r:bQ y v)
  (h:∀s',aP X pins σ (upd H D (.lst (xs++[y]))) s'->Q .none s'):wpAny (model X.prog X.w) X.A (call (.builtin "list.append") [.ref D,v]) Q E s:=by
 obtain⟨UG,its,n,ri,e⟩:=I.hok D _ hD
 have hl:=ri.length
 refine append_at (hsz:=by rw[de];omega) e λh' sb jo=>?_
 refine h {s with heap:=h'} (I.write (t':=s.toks) (by rw[hD];trivial) (.inl rfl) (λb u hb q=>(sb.2 b hb).trans q) ⟨_,jo⟩ ⟨by rw[b6];exact hz,its++[v],n+1,ri.append (.cons r .nil),?_⟩)
 rw[jo]
 simp
def PTs(X:Cx)(ifs:List Expr)(t:TT):Prop:=
 ∀(pins:List (Addr×Obj)) (s:Shared) (σ:St) (H:Hp) (Q:Bool->Hp->Prop),aP X pins σ H s->t σ H Q->
  wpAny (model X.prog X.w) X.A (forIn ifs true λc r=>if r=true then do let ok <-isTrue c X.env (eval c X.env);pure (ForInStep.yield ok) else pure (ForInStep.yield r)) (TP X pins σ Q) X.xe s
def aDj:TT:=λ_ H Q=>Q true H
theorem lO:PTs X [] aDj:=λ_ _ _ H _ I h=>wpAny_tests_nil ⟨H,I,h⟩
theorem Tu{c:Expr}{t:TT}(h:PT X c t):PTs X [c] t:=λpins s σ H Q I hw=>wpAny_tests_one (h pins s σ H Q I hw)
end
theorem Lr{α:Type}{t:Sem α}{Q Q':α->Shared->Prop}{M:Model}{A:Around}{E:Value->Shared->Prop}{s:Shared}(h:wpAny M A t Q (λ_ _=>False) s)(hQ:∀a s,Q a s->Q' a s):wpAny M A t Q' E s:=iy h hQ λ_ _ z=>False.elim z
theorem Bs{prog:Program}{w:World}{A:Around}{R:Result->Shared->Prop}{s:Shared}{ir target iter:Expr}{ifs:List Expr}{scope:Scope}{pos:Pos}{it acc:Value}{env:Env}(I:Nat->Shared->Prop)
  (turn:∀n s,I n s->wpAny (model prog w) A (pyNext it) (λr bp=>match r with
   |none=>R (.ok .next) bp
   |some v=>wpAny (model prog w) A (letOwnedTupleGo target it v) (λ_ IK=>wpAny (model prog w) A (assign target env v) (λ_ dh=>
     wpAny (model prog w) A (forIn ifs true λc r=>if r=true then do let ok <-isTrue c env (eval c env);pure (ForInStep.yield ok) else pure (ForInStep.yield r)) (λok wk=>
      if ok=true then wpAny (model prog w) A (eval ir env) (λx IL=>
       wpAny (model prog w) A (call (.builtin "list.append") [acc,x]) (λ_ IM=>∃m,m<n/\I m IM) (notedBy (model prog w) A env λe s'=>R (.error e) s') IL) (notedBy (model prog w) A env λe s'=>R (.error e) s') wk
      else ∃m,m<n/\I m wk) (notedBy (model prog w) A env λe s'=>R (.error e) s') dh) (notedBy (model prog w) A env λe s'=>R (.error e) s') IK) (notedBy (model prog w) A env λe s'=>R (.error e) s') bp) (notedBy (model prog w) A env λe s'=>R (.error e) s') s)
  (n:Nat) (h:I n s):
  codeAny (model prog w) A (.compLoop (.ListComp ir [⟨target,iter,ifs,0⟩] scope pos) 0 it acc env) R s:=by
 refine codeAny_loop rfl I (λn s hI=>?_) n h
 show wpAny _ A ((compTurn (.ListComp ir [⟨target,iter,ifs,0⟩] scope pos) 0 it acc env).onRaise (λx=>do noteFrame x env;theTreesLotGoes x)) _ _ s
 refine wpAny_noted ?_
 rw[compTurn_list]
 refine wpAny_bind (xl (wpAny_bind (iy (turn n s hI) (λr bp fc=>?_) λ_ _ h'=>h')))
 cases r with
 |none=>exact af fc
 |some v=>
  refine wpAny_bind (iy fc (λ_ IK N8=>?_) λ_ _ h'=>h')
  refine wpAny_bind (iy N8 (λ_ dh yl=>wpAny_bind (iy yl (λok wk A4=>?_) λ_ _ h'=>h')) λ_ _ h'=>h')
  cases ok with
  |false=>exact af ⟨rfl,A4⟩
  |true=>
   exact wpAny_bind (wpAny_bind (iy A4 (λx IL N9=>wpAny_bind (iy N9 (λ_ IM N'=>af (af ⟨rfl,N'⟩)) λ_ _ h'=>h')) λ_ _ h'=>h'))
section
variable {X:Cx}
def tLc(wi:TI)(g:TG)(tt:TT)(te:TE)(vs:List Nat):TE:=fun σ H Q=>wi σ H λJ H1=>∀D,H1 D=none->∃W:Nat->Nat->Hp->Prop,(∃m,W 0 m (upd H1 D (.lst [])))/\∀i m H,W i m H->
 (J.stop i H/\Q (.ref D) H)\/(J.go i H/\∃Nx:Hp->Prop,(∀H',Nx H'->∃m',m'<m/\W (i+1) m' H')/\∀x H',J.yld i H x H'->g x (fL σ vs) H' λau H2=>fL au vs=fL σ vs/\tt au H2 λb H3=>
  if b=true then te au H3 λy H4=>∃acc,H4 D=some (.lst acc)/\acc.length<sizeLine/\Nx (upd H4 D (.lst (acc++[y]))) else Nx H3)
theorem La{pins:List (Addr×Obj)}{s:Shared}{σ:St}{H:Hp}{Q:VK}{ir tg iter:Expr}{ifs:List Expr}{scope:Scope}{own:List (Str×Nat)}{pos j1:Pos}{wi:TI}{g:TG}{tt:TT}{te:TE}{use:Option (Value->Sem Unit)}{Qf:Value->Shared->Prop}
  (hc:X.calm=true) (hN:X.N.Nodup) (I:aP X pins σ H s) (hi:PI X tg iter wi) (ok:Fj X.N X.env.scope scope own)
  (hg:∀(s:Shared)(H:Hp)(C:Addr) (cl:List (Str×Addr)) (fp:List Addr),PG (X.blk s H scope (compEnvC scope cl C X.env) fp) tg g) (ht:∀(s:Shared)(H:Hp)(C:Addr) (cl:List (Str×Addr)) (fp:List Addr),PTs (X.blk s H scope (compEnvC scope cl C X.env) fp) ifs tt)
  (he:∀(s:Shared)(H:Hp)(C:Addr) (cl:List (Str×Addr)) (fp:List Addr),PE (X.blk s H scope (compEnvC scope cl C X.env) fp) ir te) (hs:∀x,foldedSetIterable iter X.env x=pure x)
  (h:tLc wi g tt te (own.map (·.2)) σ H Q)
  (OA:∀D C s' m H',aP X pins σ H' s'->Q (.ref D) H'->s'.heap.Ns C m->tZ X pins H' C->compPost (model X.prog X.w) X.A X.xe use Qf (.ref D) C (.ok .next) s'):
  wpAny (model X.prog X.w) X.A (comprehension (.ListComp ir [⟨tg,iter,ifs,0⟩] scope pos) scope X.env j1 (newList []) false (eval iter X.env) use) Qf X.xe s:=by
 have wd:∀y∈scope.names,y.2=.free->∃c,X.env.cells.lookup y.1=some c:=λy hy e=>by
  rcases ok.free y hy e with k|k
  ·exact I.ok.has _ (.inl k)
  ·exact I.ok.has _ (.inr k)
 refine wpAny_comprehension_free (use:=use) rfl hs (Gz wd) ok.kind (λy hy e=>by rw[ok.uniq y hy,e])
  (cD (hi pins s σ H _ I h) λxv s1 hx=>cD hx λAU s2 h2=>?_)
 obtain⟨it,fp,tn,J,H2,e,I2,T,wg,f2,q⟩:=h2
 subst e
 refine gn (Cz ?_) (by show 0<=sizeLine;decide)
 generalize hD:s2.heap.objs.size=D
 have OB:H2 D=none:=I2.hok.fresh (vk hD)
 obtain⟨W,⟨m0,w0⟩,turn⟩:=q D OB
 generalize jq:({s2 with heap:=s2.heap.push {cls:=.type "list",data:=.seq ([]:List Value).toArray}}:Shared)=s3
 have I3:aP X pins σ (upd H2 D (.lst [])) s3:=by
  rw[<-jq]
  refine I2.laid (t':=s2.toks) (λb o e=>br _ e) (vk hD) ⟨da _,[],0,.nil,?_⟩
  rw[<-hD]
  exact cf _ rfl
 have h3:s3.heap=s2.heap.push {cls:=.type "list",data:=.seq ([]:List Value).toArray}:=by rw[<-jq]
 have sz:∀b∈fp,b<s2.heap.objs.size:=λb hb=>by
  obtain⟨o,e,_⟩:=T.obj _ _ wg b hb
  exact a9 e
 have f3:∀b∈fp,tZ X pins (upd H2 D (.lst [])) b/\b<s3.heap.objs.size:=λb hb=>by
  have aj:=sz b hb
  refine⟨⟨?_,(f2 b hb).2⟩,by rw[h3,ja];exact CN aj⟩
  rw[aB (by rw[<-hD];exact df aj)]
  exact(f2 b hb).1
 have uh:tn 0 s3.heap:=T.keep _ _ _ wg λb _ o e=>by rw[h3];exact br _ e
 have I4:=Ek I3 ok hN f3
 have pg:=hg s3 (upd H2 D (.lst [])) s3.heap.objs.size (cellsFrom (s3.heap.objs.size+1) scope.names (cW X.env.cells scope.names [])) fp
 have pt:=ht s3 (upd H2 D (.lst [])) s3.heap.objs.size (cellsFrom (s3.heap.objs.size+1) scope.names (cW X.env.cells scope.names [])) fp
 have pe:=he s3 (upd H2 D (.lst [])) s3.heap.objs.size (cellsFrom (s3.heap.objs.size+1) scope.names (cW X.env.cells scope.names [])) fp
 show codeAny _ _ (.compStart (.ListComp ir [⟨tg,iter,ifs,0⟩] scope pos) 0 (.ref it) (.ref D) (compEnvC scope (cellsFrom (s3.heap.objs.size+1) scope.names (cW X.env.cells scope.names [])) s3.heap.objs.size X.env)) (compPost (model X.prog X.w) X.A X.xe use Qf (.ref D) s3.heap.objs.size) {s3 with heap:=pushCells (s3.heap.push {cls:=.type "dict",data:=.dict #[]}) scope.names}
 have IN:∀b∈fp,(upd H2 D (.lst [])) b=none:=λb hb=>(f3 b hb).1.1
 generalize hce:compEnvC scope (cellsFrom (s3.heap.objs.size+1) scope.names (cW X.env.cells scope.names [])) s3.heap.objs.size X.env=ce at I4 pg pt pe ⊢
 have cL:ce.locals=s3.heap.objs.size:=by subst hce;rfl
 generalize hH3:upd H2 D (.lst [])=H3 at I3 I4 pg pt pe w0 IN f3
 generalize ki:({s3 with heap:=pushCells (s3.heap.push {cls:=.type "dict",data:=.dict #[]}) scope.names}:Shared)=s4 at I4 ⊢
 have IP:tn 0 s4.heap:=T.keep _ _ _ uh λb _ o e=>by rw[<-ki];exact CJ _ _ _ _ (br _ e)
 have stat:∀{ae:St}{H':Hp}{s':Shared},aP (X.blk s3 H3 scope ce fp) [] ae H' s'->(∀b∈fp,H' b=none)->∀b∈fp,tZ (X.blk s3 H3 scope ce fp) [] H' b:=λ{ae H' s'} I' hn b hb=>
  ⟨hn b hb,(I'.ok.exf b hb).1,I'.ok.exfs b hb,.inl hb,λx c e=>(I'.ok.exf b hb).2 x c e,λp hp=>absurd (show p∈([]:List (Addr×Obj))++[] from hp) (by simp)⟩
 have loop:codeAny (model X.prog X.w) X.A (.compLoop (.ListComp ir [⟨tg,iter,ifs,0⟩] scope pos) 0 (.ref it) (.ref D) ce) (compPost (model X.prog X.w) X.A X.xe use Qf (.ref D) s3.heap.objs.size) s4:=by
  refine Bs (λn s'=>∃i H',aP (X.blk s3 H3 scope ce fp) [] (fL σ (own.map (·.2))) H' s'/\tn i s'.heap/\(∀b∈fp,H' b=none)/\W i n H') ?_ m0 ⟨0,H3,I4,IP,IN,w0⟩
  rintro n s5 ⟨i,H5,I5,mr,n5,w5⟩
  rcases turn i n H5 w5 with ⟨stop,qq⟩|⟨go,Nx,OC,step⟩
  ·have td:=T.done (X.blk s3 H3 scope ce fp) rfl rfl rfl hc i [] s5 _ H5 (λ_ _=>False) I5 (stat I5 n5) mr stop
   refine Lr td λr s6 ⟨hr,I6⟩=>?_
   subst hr
   have I7:aP X pins σ H5 s6:=I3.call' (ch:=fp) I6.os I6.base I6.hok I6.bare λb hb=>⟨(f3 b hb).1.2.2.2.1,(f3 b hb).1.2.1,(f3 b hb).1.2.2.2.2.1,(f3 b hb).1.2.2.2.2.2⟩
   have nC:H5 s3.heap.objs.size=none:=by
    have z:H5 ce.locals=none:=I6.free
    rw[cL] at z
    exact z
   obtain⟨m,hn,_⟩:=I6.loc
   have hn:s6.heap.Ns ce.locals m:=hn
   rw[cL] at hn
   exact OA D s3.heap.objs.size s6 m H5 I7 qq hn (I3.fpOk (ap _) nC)
  ·have ti:=T.item (X.blk s3 H3 scope ce fp) rfl rfl rfl hc i [] s5 _ H5 (λ_ _=>False) I5 (stat I5 n5) mr go
   refine Lr ti λr s6 ⟨u,hr,h6⟩=>?_
   subst hr
   refine Lr h6 λ_ s7 ⟨x,H7,I7,r7,y7,DZ,n7⟩=>?_
   have OD:=I7.pinned (stat I7 n7) (T.obj _ _ DZ)
   refine Lr (pg _ s7 _ H7 x u _ OD r7 (step x H7 y7)) λ_ s8 ⟨A5,H8,I8,IQ,q8⟩=>?_
   refine Lr (pt _ s8 A5 H8 _ I8 q8) λb s9 ⟨H9,I9,q9⟩=>?_
   have fin:∀{s':Shared}{H':Hp},aP (X.blk s3 H3 scope ce fp) ([]++sC fp s7.heap) A5 H' s'->Nx H'->∃m,m<n/\∃i H',aP (X.blk s3 H3 scope ce fp) [] (fL σ (own.map (·.2))) H' s'/\tn i s'.heap/\(∀b∈fp,H' b=none)/\W i m H':=λ{s' H'} I' nx=>by
    obtain⟨m',hm,w'⟩:=OC H' nx
    have IR:∀b∈fp,∀o,s7.heap.get? b=some o->s'.heap.get? b=some o/\H' b=none:=λb hb o e=>
     let z:=I'.pin (b,o) (fk _ (fk _ (iU hb e)))
     ⟨z.1,z.2.1⟩
    have hl:(fL σ (own.map (·.2))).length=A5.length:=by rw[<-IQ,nB]
    refine⟨m',hm,i+1,H',(I'.unpinned (pins:=[])).weak hl (λj v e=>?_),T.keep _ _ _ DZ λb hb o e=>(IR b hb o e).1,λb hb=>?_,w'⟩
    ·rw[<-IQ] at e
     exact(sG e).1
    ·obtain⟨o,e,_⟩:=T.obj _ _ DZ b hb
     exact(IR b hb o e).2
   cases b with
   |false=>
    simp only[t7,jc] at q9 ⊢
    exact fin I9 q9
   |true=>
    simp only[ot] at q9 ⊢
    refine Lr (pe _ s9 A5 H9 _ I9 q9) λz wm ⟨yv,OE,OF,OG,acc,OH,OI,nx⟩=>?_
    exact Yr (X:=X.blk s3 H3 scope ce fp) OF OH OI OG λqy OJ=>fin OJ nx
 exact codeAny_compStart_list loop (T.self X.A 0 _ _ _ IP loop)
theorem Ga{ir tg iter:Expr}{ifs:List Expr}{scope:Scope}{own:List (Str×Nat)}{pos:Pos}{wi:TI}{g:TG}{tt:TT}{te:TE}(hc:X.calm=true)(hN:X.N.Nodup)(hi:PI X tg iter wi)(ok:Fj X.N X.env.scope scope own)
  (hg:∀(s:Shared)(H:Hp)(C:Addr) (cl:List (Str×Addr)) (fp:List Addr),PG (X.blk s H scope (compEnvC scope cl C X.env) fp) tg g) (ht:∀(s:Shared)(H:Hp)(C:Addr) (cl:List (Str×Addr)) (fp:List Addr),PTs (X.blk s H scope (compEnvC scope cl C X.env) fp) ifs tt)
  (he:∀(s:Shared)(H:Hp)(C:Addr) (cl:List (Str×Addr)) (fp:List Addr),PE (X.blk s H scope (compEnvC scope cl C X.env) fp) ir te) (hs:∀x,foldedSetIterable iter X.env x=pure x:=by intro _;rfl):
  PE X (.ListComp ir [⟨tg,iter,ifs,0⟩] scope pos) (tLc wi g tt te (own.map (·.2))):=by
 intro pins s σ H Q I h
 rw[eval_ListComp]
 refine La hc hN I hi ok hg ht he hs h λD C s' m H' I' q hn f=>⟨m,hn,λic sb=>?_⟩
 obtain⟨f0,f1,f2,f3,f4,f5⟩:=f
 exact⟨.ref D,H',I'.turned (t':=s'.toks) (λb o hb e=>(sb.2 b hb).trans e) f0 f1 f3 f4 f5,rfl,q⟩
theorem xM{i:Nat}{y:Str}{py:Pos}{ir tg iter:Expr}{ifs:List Expr}{scope:Scope}{own:List (Str×Nat)}{pos spos:Pos}{wi:TI}{g:TG}{tt:TT}{te:TE}(hc:X.calm=true)(hN:X.N.Nodup)(hy:X.N[i]?=some y)(IS:X.env.scope.names.lookup y=some .local)
  (OK:swapsWith (.ListComp ir [⟨tg,iter,ifs,0⟩] scope pos) (some (.Name y py)) spos.line X.env=pure true) (hi:PI X tg iter wi) (ok:Fj X.N X.env.scope scope own)
  (hg:∀(s:Shared)(H:Hp)(C:Addr) (cl:List (Str×Addr)) (fp:List Addr),PG (X.blk s H scope (compEnvC scope cl C X.env) fp) tg g) (ht:∀(s:Shared)(H:Hp)(C:Addr) (cl:List (Str×Addr)) (fp:List Addr),PTs (X.blk s H scope (compEnvC scope cl C X.env) fp) ifs tt)
  (he:∀(s:Shared)(H:Hp)(C:Addr) (cl:List (Str×Addr)) (fp:List Addr),PE (X.blk s H scope (compEnvC scope cl C X.env) fp) ir te) (hs:∀x,foldedSetIterable iter X.env x=pure x:=by intro _;rfl):
  PS X (.Assign [.Name y py] (.ListComp ir [⟨tg,iter,ifs,0⟩] scope pos) spos) (Cn (tLc wi g tt te (own.map (·.2))) (mG i)):=by
 intro pins s σ H D I h
 rw[exec_Assign_Name_used _ _ _ _ OK]
 refine wpAny_bind (xl (wpAny_bind ?_))
 show wpAny _ X.A (do let _ <-comprehension (.ListComp ir [⟨tg,iter,ifs,0⟩] scope pos) scope X.env (firstIterPos [⟨tg,iter,ifs,0⟩] pos) (newList []) false (eval iter X.env) (some (assign (.Name y py) X.env))) _ _ s
 have h:tLc wi g tt te (own.map (·.2)) σ H (λx H1=>mG i x σ H1 D.nx):=h
 refine wpAny_bind (cD (La (Qf:=λ_ s'=>SP X pins D .next s') hc hN I hi ok hg ht he hs h λL C s' m H' I' q hn f=>?_) λ_ s' hq=>af (af hq))
 show wpAny _ _ (assign (.Name y py) X.env (.ref L)) _ _ _
 refine wpAny_assign_Name (yT (v:=V.ref L) I' hN hy (.inl IS) rfl (λs2 I2 ⟨a,sb,ha⟩=>?_) (.inr IS))
 obtain⟨f0,f1,f2,f3,f4,f5⟩:=f
 have OL:C≠a:=by
  rcases ha with z|z
  ·rw[z];exact f1
  ·exact λe=>f4 y a z e.symm
 refine⟨m,hn.sameBut sb OL,λh3 OM=>?_⟩
 exact⟨_,H',I2.turned (t':=s2.toks) (λb o hb e=>(OM.2 b hb).trans e) f0 f1 f3 f4 f5,q⟩
end
theorem Sj{lo:Int}{n:Nat}{g:TG}{tt:TT}{te:TE}{vs:List Nat}{σ:St}{H1:Hp}{D:Addr}{Qd:Hp->Prop}(Pv:Nat->Hp->Prop)(h0:Pv 0 (upd H1 D (.lst [])))
  (hs:∀i H,i<n->Pv i H->g (.int (lo+i)) (fL σ vs) H λau H2=>fL au vs=fL σ vs/\tt au H2 λb H3=>
   if b=true then te au H3 λy H4=>∃acc,H4 D=some (.lst acc)/\acc.length<sizeLine/\Pv (i+1) (upd H4 D (.lst (acc++[y]))) else Pv (i+1) H3) (hd:∀H,Pv n H->Qd H):
  ∃W:Nat->Nat->Hp->Prop,(∃m,W 0 m (upd H1 D (.lst [])))/\∀i m H,W i m H->
   ((Ob lo n).stop i H/\Qd H)\/((Ob lo n).go i H/\∃Nx:Hp->Prop,(∀H',Nx H'->∃m',m'<m/\W (i+1) m' H')/\∀x H',(Ob lo n).yld i H x H'->g x (fL σ vs) H' λau H2=>fL au vs=fL σ vs/\tt au H2 λb H3=>
    if b=true then te au H3 λy H4=>∃acc,H4 D=some (.lst acc)/\acc.length<sizeLine/\Nx (upd H4 D (.lst (acc++[y]))) else Nx H3):=by
 refine⟨λi m H=>m=n - i/\i<=n/\Pv i H,⟨n,by simp,da _,h0⟩,?_⟩
 rintro i m H ⟨rfl,hi,p⟩
 by_cases aj:i<n
 ·refine .inr ⟨aj,Pv (i+1),λH' p'=>⟨n - (i+1),by omega,rfl,aj,p'⟩,λx H' y=>?_⟩
  obtain⟨e,y⟩:=y
  subst e y
  exact hs i _ aj p
 ·have e:i=n:=by omega
  subst e
  exact .inl ⟨ap _,hd H p⟩
theorem uK{K:PySem.W.Frag}{a:Addr}{xs:List V}{g:TG}{tt:TT}{te:TE}{vs:List Nat}{σ:St}{H1:Hp}{D:Addr}{Qd:Hp->Prop}(Pv:Nat->Hp->Prop)(h0:Pv 0 (upd H1 D (.lst [])))(hl:∀i H,i<=xs.length->Pv i H->cP K H a xs)
  (hs:∀i x H,xs[i]?=some x->Pv i H->g x (fL σ vs) H λau H2=>fL au vs=fL σ vs/\tt au H2 λb H3=>
   if b=true then te au H3 λy H4=>∃acc,H4 D=some (.lst acc)/\acc.length<sizeLine/\Pv (i+1) (upd H4 D (.lst (acc++[y]))) else Pv (i+1) H3) (hd:∀H,Pv xs.length H->Qd H):
  ∃W:Nat->Nat->Hp->Prop,(∃m,W 0 m (upd H1 D (.lst [])))/\∀i m H,W i m H->
   ((Xx K a).stop i H/\Qd H)\/((Xx K a).go i H/\∃Nx:Hp->Prop,(∀H',Nx H'->∃m',m'<m/\W (i+1) m' H')/\∀x H',(Xx K a).yld i H x H'->g x (fL σ vs) H' λau H2=>fL au vs=fL σ vs/\tt au H2 λb H3=>
    if b=true then te au H3 λy H4=>∃acc,H4 D=some (.lst acc)/\acc.length<sizeLine/\Nx (upd H4 D (.lst (acc++[y]))) else Nx H3):=by
 refine⟨λi m H=>m=xs.length - i/\i<=xs.length/\Pv i H,⟨xs.length,by simp,da _,h0⟩,?_⟩
 rintro i m H ⟨rfl,hi,p⟩
 have q:=hl i H hi p
 by_cases aj:i<xs.length
 ·refine .inr ⟨⟨xs,xs[i],q,by simp[aj]⟩,Pv (i+1),λH' p'=>⟨xs.length - (i+1),by omega,rfl,aj,p'⟩,λx H' y=>?_⟩
  obtain⟨e,y⟩:=y
  subst e
  exact hs i x _ (y xs q) p
 ·have e:i=xs.length:=by omega
  subst e
  exact .inl ⟨⟨xs,q,ap _⟩,hd H p⟩
def aB0(N:List Str)(sc scope:Scope)(own:List (Str×Nat)):Bool:=
 (match scope.kind with|.function=>true|_=>false) && (scope.names.all λy=>decide (scope.names.lookup y.1=some y.2)) && (own.all λp=>decide (N[p.2]?=some p.1)) &&
  (scope.names.all λy=>match y.2 with
   |.free=>(match sc.names.lookup y.1 with|some .cell=>true|some .free=>true|_=>false)
   |.local=>decide (y.1∈own.map (·.1))||decide (y.1∉N)
   |.cell=>decide (y.1∈own.map (·.1))||decide (y.1∉N)
   |_=>true)
theorem gU{N:List Str}{sc scope:Scope}{own:List (Str×Nat)}(h:aB0 N sc scope own=true):Fj N sc scope own:=by
 unfold aB0 at h
 simp only[cg,mh,LU] at h
 obtain⟨⟨⟨h1,h2⟩,h3⟩,h4⟩:=h
 refine⟨?_,h2,h3,λy hy e=>?_,λy hy e=>?_⟩
 ·split at h1
  ·assumption
  ·cases h1
 ·have q:=h4 y hy
  simp only[e] at q
  split at q<;>first|exact .inl (by assumption)|exact .inr (by assumption)|cases q
 ·have q:=h4 y hy
  rcases e with e|e<;>(simp only[e,qm,LU] at q;exact q)
section
variable {prog:Program} {w:World} {A:Around} {R:Result->Shared->Prop} {s:Shared} {ir t0 i0 t1 i1:Expr} {UH UI:List Expr} {scope:Scope} {pos:Pos} {it acc:Value} {env:Env}
end
section
variable {X:Cx}
end
section
variable {κ:Type} [DecidableEq κ]
def jA(aI:List (κ×V))(k:κ):Option V:=(aI.find? λkv=>decide (kv.1=k)).map (·.2)
def jQ(aI:List (κ×V))(k:κ)(v:V):List (κ×V):=
 if (aI.any λkv=>decide (kv.1=k))=true then aI.map (λkv=>if kv.1=k then (kv.1,v) else kv) else aI++[(k,v)]
theorem qR{p:κ×V}{r:List (κ×V)}{k:κ}(e:p.1=k):jA (p::r) k=some p.2:=by simp[jA,oy,e]
theorem qF{p:κ×V}{r:List (κ×V)}{k:κ}(e:¬p.1=k):jA (p::r) k=jA r k:=by simp[jA,oy,e]
theorem pZ(k:κ):∀aI:List (κ×V),(aI.any λkv=>decide (kv.1=k))=(jA aI k).isSome
 |[]=>rfl
 |p::r=>by
  rw[tu]
  by_cases e:p.1=k
  ·simp only[qR e,cn e,Bool.true_or,LS]
  ·rw[qF e,jx e,Bool.false_or];exact pZ k r
theorem tI(aI:List (κ×V))(k:κ)(v:V):(jQ aI k v).length<=aI.length+1:=by
 unfold jQ
 split
 ·rw[ah];omega
 ·rw[b6,bn,xt];omega
theorem rF{aI:List (κ×V)}{k:κ}(v:V)(h:jA aI k=none):jQ aI k v=aI++[(k,v)]:=by
 unfold jQ
 rw[pZ,h]
 exact aa (by decide)
theorem jP.isSome_eq{o:Option V}{u:Option Value}(r:jP o u):o.isSome=u.isSome:=by
 cases o with
 |none=>cases u with
  |none=>rfl
  |some _=>exact(show False from r).elim
 |some _=>cases u with
  |none=>exact(show False from r).elim
  |some _=>rfl
theorem jP.getD{o:Option V}{u:Option Value}{d:V}{d':Value}(r:jP o u)(rd:bQ d d'):bQ (o.getD d) (u.getD d'):=by
 cases o with
 |none=>cases u with
  |none=>exact rd
  |some _=>exact(show False from r).elim
 |some _=>cases u with
  |none=>exact(show False from r).elim
  |some _=>exact r
theorem KV.val{aI:List (κ×V)}{vs:List (κ×Value)}(r:KV aI vs)(k:κ):jP (jA aI k) (valueAt vs k):=by
 unfold KV at r
 induction r with
 |nil=>exact True.intro
 | @cons p q ps qs h t ih=>
  obtain⟨h1,h2⟩:=h
  by_cases e:p.1=k
  ·have e':q.1=k:=h1.symm.trans e
   have b:valueAt (q::qs) k=some q.2:=by simp[valueAt,oy,e']
   rw[qR e,b];exact h2
  ·have e':¬q.1=k:=λz=>e (h1.trans z)
   have b:valueAt (q::qs) k=valueAt qs k:=by simp[valueAt,oy,e']
   rw[qF e,b];exact ih
theorem KV.any{aI:List (κ×V)}{vs:List (κ×Value)}(r:KV aI vs)(k:κ):(aI.any λkv=>decide (kv.1=k))=vs.any λkv=>decide (kv.1=k):=by
 unfold KV at r
 induction r with
 |nil=>rfl
 |cons h t ih=>rw[tu,tu,ih,h.1]
theorem KV.repl{aI:List (κ×V)}{vs:List (κ×Value)}(r:KV aI vs)(k:κ){y:V}{u:Value}(ry:bQ y u):
  KV (aI.map λkv=>if kv.1=k then (kv.1,y) else kv) (vs.map λkv=>if kv.1=k then (kv.1,u) else kv):=by
 unfold KV at r ⊢
 induction r with
 |nil=>exact .nil
 | @cons p q ps qs h t ih=>
  rw[bz,bz]
  refine .cons ?_ ih
  obtain⟨h1,h2⟩:=h
  by_cases e:p.1=k
  ·rw[ac e,ac (h1.symm.trans e)];exact⟨h1,ry⟩
  ·rw[aa e,aa (λz=>e (h1.trans z))];exact⟨h1,h2⟩
theorem KV.put{aI:List (κ×V)}{vs:List (κ×Value)}(r:KV aI vs)(k:κ){y:V}{u:Value}(ry:bQ y u):KV (jQ aI k y) (stored vs k u):=by
 unfold jQ stored
 rw[r.any k]
 by_cases e:(vs.any λkv=>decide (kv.1=k))=true
 ·rw[ac e,ac e];exact r.repl k ry
 ·rw[aa e,aa e];exact Paired.snoc r ⟨rfl,ry⟩
theorem KV.length{aI:List (κ×V)}{vs:List (κ×Value)}(r:KV aI vs):aI.length=vs.length:=Paired.length r
end
theorem yF{P:Program}{w:World}{k:dP}{u:Value}(r:bQ (kV k) u):(dW P w).is k u=true:=by
 cases k with
 |inl i=>obtain⟨t,e⟩:=(show ∃t,u=Value.int i t from r);subst e;exact Es P w i t
 |inr x=>obtain⟨t,e⟩:=(show ∃t,u=Value.str x t from r);subst e;exact Du P w x t
theorem zU{P:Program}{w:World}:∀{ks:List dP}{us:List Value},bA (ks.map kV) us->ItemsAre (dW P w) ks us
 |[],_,r=>by rw[xq] at r;cases r;exact .nil
 |k::ks,_,r=>by
  rw[bz] at r
  cases r with
  |cons h t=>exact .cons (yF h) (zU t)
abbrev KT(H:Hp):List (List dP×V)->List (List dP×Addr×Value)->Prop:=Paired λp q=>p.1=q.1/\H q.2.1=some (.tup (p.1.map kV))/\bQ p.2 q.2.2
theorem KT.val{H:Hp}{aI:List (List dP×V)}{xs:List (List dP×Addr×Value)}(r:KT H aI xs)(k:List dP):jP (jA aI k) ((atKey xs k).map (·.2)):=by
 induction r with
 |nil=>exact True.intro
 | @cons p q ps qs h t ih=>
  obtain⟨h1,_,h2⟩:=h
  by_cases e:p.1=k
  ·have e':q.1=k:=h1.symm.trans e
   have b:atKey (q::qs) k=some q.2:=by simp[atKey,oy,e']
   rw[qR e,b];exact h2
  ·have e':¬q.1=k:=λz=>e (h1.trans z)
   have b:atKey (q::qs) k=atKey qs k:=by simp[atKey,oy,e']
   rw[qF e,b];exact ih
theorem KT.repl{H:Hp}{aI:List (List dP×V)}{xs:List (List dP×Addr×Value)}(r:KT H aI xs)(k:List dP){y:V}{u:Value}(ry:bQ y u):
  KT H (aI.map λkv=>if kv.1=k then (kv.1,y) else kv) (xs.map (putAt k u)):=by
 induction r with
 |nil=>exact .nil
 | @cons p q ps qs h t ih=>
  rw[bz,bz]
  refine .cons ?_ ih
  obtain⟨h1,h2,h3⟩:=h
  unfold putAt
  by_cases e:p.1=k
  ·rw[ac e,ac (h1.symm.trans e)];exact⟨h1,h2,ry⟩
  ·rw[aa e,aa (λz=>e (h1.trans z))];exact⟨h1,h2,h3⟩
theorem KT.put{H:Hp}{aI:List (List dP×V)}{xs:List (List dP×Addr×Value)}(r:KT H aI xs)(k:List dP){b:Addr}{y:V}{u:Value}(hb:H b=some (.tup (k.map kV)))(ry:bQ y u):
  KT H (jQ aI k y) (storedH xs k b u):=by
 have e:(aI.any λkv=>decide (kv.1=k))=(atKey xs k).isSome:=by
  rw[pZ,(r.val k).isSome_eq,gq]
 unfold jQ storedH
 rw[e]
 by_cases q:(atKey xs k).isSome=true
 ·rw[ac q,ac q];exact r.repl k ry
 ·rw[aa q,aa q];exact Paired.snoc r ⟨rfl,hb,ry⟩
theorem KT.keeps{H H':Hp}{aI:List (List dP×V)}{xs:List (List dP×Addr×Value)}(r:KT H aI xs)(ht:∀b ys,H b=some (.tup ys)->H' b=some (.tup ys)):KT H' aI xs:=
 Paired.mapP r λ_ _ z=>⟨z.1,ht _ _ z.2.1,z.2.2⟩
section
variable {P:Program} {w:World} {H:Hp} {h:Heap} {a:Addr}
theorem Qm{u:HO}(ok:kT P w H h)(e:Rd H a u):cE P w H h a u:=e.ok ok
theorem vV{aI:List (dP×V)}(ok:kT P w H h)(e:Rd H a (.dK aI)):aI.length<=sizeLine/\(a==sysModules)=false/\∃vs,KV aI vs/\h.DictOf (dW P w) a vs:=
 show cE P w H h a (.dK aI) from Qm ok e
theorem aBw{aI:List (dP×V)}(ok:kT P w H h)(e:H a=some (.dK aI)):aI.length<=sizeLine/\(a==sysModules)=false/\∃vs,KV aI vs/\h.DictOf (dW P w) a vs:=vV ok (.inl e)
theorem pD{ks:List dP}(ok:kT P w H h)(e:H a=some (.tup (ks.map kV))):(tupleKind (dW P w)).is h ks a:=by
 obtain⟨_,its,r,o,h1,h2,n,h3⟩:=(show cE P w H h a (.tup (ks.map kV)) from ok a _ e)
 exact⟨o,its.toArray,n,h1,h2,h3,by simpa using zU r⟩
theorem wH{aI:List (List dP×V)}(ok:kT P w H h)(e:Rd H a (.dT aI)):aI.length<=sizeLine/\(a==sysModules)=false/\
  ∃xs,KT H aI xs/\h.DictOfH (tupleKind (dW P w)) a xs:=by
 obtain⟨z,y,xs,r,o,es,ep,h1,h2,h3,h4,h5⟩:=(show cE P w H h a (.dT aI) from Qm ok e)
 refine⟨z,y,xs,r,o,es,ep,h1,h2,h3,h4,λx hx=>?_,h5⟩
 have all:∀{l:List (List dP×V)} {m:List (List dP×Addr×Value)},KT H l m->∀x∈m,(tupleKind (dW P w)).is h x.1 x.2.1:=by
  intro l m q
  induction q with
  |nil=>intro x hx;exact nomatch hx
  | @cons p q ps qs hq t ih=>
   intro x hx
   rcases aw.mp hx with e|hx
   ·subst e
    exact pD ok (by rw[<-hq.1];exact hq.2.1)
   ·exact ih x hx
 exact all r x hx
theorem Xh{aI:List (List dP×V)}(ok:kT P w H h)(e:H a=some (.dT aI)):aI.length<=sizeLine/\(a==sysModules)=false/\
  ∃xs,KT H aI xs/\h.DictOfH (tupleKind (dW P w)) a xs:=wH ok (.inl e)
end
def mT(H:Hp)(a:Addr)(y:V)(r:Option V):Prop:=
 (∃aI k,Rd H a (.dK aI)/\y=kV k/\r=jA aI k)\/∃aI k b,Rd H a (.dT aI)/\y=.ref b/\H b=some (.tup (k.map kV))/\r=jA aI k
def wS(H:Hp)(a:Addr)(y v:V)(H':Hp):Prop:=
 (∃aI k,H a=some (.dK aI)/\y=kV k/\aI.length<sizeLine/\H'=upd H a (.dK (jQ aI k v)))\/
 ∃aI k b,H a=some (.dT aI)/\y=.ref b/\H b=some (.tup (k.map kV))/\aI.length<sizeLine/\H'=upd H a (.dT (jQ aI k v))
theorem mT.t{H:Hp}{a b:Addr}{aI:List (List dP×V)}{k:List dP}(e:H a=some (.dT aI))(eb:H b=some (.tup (k.map kV))):mT H a (.ref b) (jA aI k):=.inr ⟨aI,k,b,.inl e,rfl,eb,rfl⟩
theorem wS.t{H:Hp}{a b:Addr}{aI:List (List dP×V)}{k:List dP}{v:V}(e:H a=some (.dT aI))(eb:H b=some (.tup (k.map kV)))(hl:aI.length<sizeLine):
  wS H a (.ref b) v (upd H a (.dT (jQ aI k v))):=.inr ⟨aI,k,b,e,rfl,eb,hl,rfl⟩
section
variable {X:Cx} {pins:List (Addr×Obj)} {σ:St} {H:Hp} {s:Shared} {a:Addr} {y v:V} {u r:Value} {o:Option V} {A:Around} {E:Value->Shared->Prop}
theorem aP.big(I:aP X pins σ H s):sysModules<s.heap.objs.size:=by
 have h:mainGlobals<s.heap.objs.size:=(I.mod.glob.keeps I.bk).lt
 exact CO (by decide) h
theorem Ni{Q:Value->Shared->Prop}(hu:A.units+1<cLine)(I:aP X pins σ H s)(g:mT H a y (some v))(ry:bQ y u)(h:∀w' s',aP X pins σ H s'->bQ v w'->Q w' s'):
  wpAny (model X.prog X.w) A (getItem (.ref a) u) Q E s:=by
 rcases g with ⟨aI,k,e,ey,l⟩|⟨aI,k,b,e,ey,eb,l⟩
 ·subst ey
  obtain⟨z,hd,vs,rel,dd⟩:=vV I.hok e
  obtain⟨w',hw,lq⟩:=jP.some_of (v:=v) (o:=valueAt vs k) (by rw[l];exact rel.val k)
  exact wpAny_getItem_of (yF ry) dd.mapOf hw (h w' _ (I.tok _) lq)
 ·subst ey
  cases (show u=Value.ref b from ry)
  obtain⟨z,hd,xs,rel,dd⟩:=wH I.hok e
  obtain⟨w',hw,lq⟩:=jP.some_of (v:=v) (o:=(atKey xs k).map (·.2)) (by rw[l];exact rel.val k)
  obtain⟨p,hp,A6⟩:=qi.mp hw
  refine wpAny_getItem_heap (AC hu) (pD I.hok eb) dd hp ?_
  rw[A6]
  exact h w' _ (I.tok _) lq
theorem aDy{Q:Value->Shared->Prop}(hu:A.units+1<cLine)(I:aP X pins σ H s)(g:mT H a y o)(ry:bQ y u)(h:∀s',aP X pins σ H s'->Q (.bool o.isSome) s'):
  wpAny (model X.prog X.w) A (compareOp .In u (.ref a)) Q E s:=by
 rcases g with ⟨aI,k,e,ey,l⟩|⟨aI,k,b,e,ey,eb,l⟩
 ·subst ey
  obtain⟨z,hd,vs,rel,dd⟩:=vV I.hok e
  refine wpAny_in_of (yF ry) hd dd.mapOf ?_
  rw[<-(rel.val k).isSome_eq,<-l]
  exact h _ (I.tok _)
 ·subst ey
  cases (show u=Value.ref b from ry)
  obtain⟨z,hd,xs,rel,dd⟩:=wH I.hok e
  refine wpAny_in_heap (AC hu) (pD I.hok eb) hd dd ?_
  have q:=(rel.val k).isSome_eq
  rw[gq] at q
  rw[<-q,<-l]
  exact h _ (I.tok _)
theorem Vt{Q:Value->Shared->Prop}(hu:A.units+1<cLine)(I:aP X pins σ H s)(g:mT H a y o)(ry:bQ y u)(h:∀s',aP X pins σ H s'->Q (.bool (!o.isSome)) s'):
  wpAny (model X.prog X.w) A (compareOp .NotIn u (.ref a)) Q E s:=by
 rcases g with ⟨aI,k,e,ey,l⟩|⟨aI,k,b,e,ey,eb,l⟩
 ·subst ey
  obtain⟨z,hd,vs,rel,dd⟩:=vV I.hok e
  refine wpAny_notIn_of (yF ry) hd dd.mapOf ?_
  rw[<-(rel.val k).isSome_eq,<-l]
  exact h _ (I.tok _)
 ·subst ey
  cases (show u=Value.ref b from ry)
  obtain⟨z,hd,xs,rel,dd⟩:=wH I.hok e
  refine wpAny_notIn_heap (AC hu) (pD I.hok eb) hd dd ?_
  have q:=(rel.val k).isSome_eq
  rw[gq] at q
  rw[<-q,<-l]
  exact h _ (I.tok _)
theorem Ba{h':Heap}{t':Nat}{ob:HO}(I:aP X pins σ H s)(mu:Xv (H a))(hs:Heap.SameBut a s.heap h')(he:∃q,h'.get? a=some q)(new:cE X.prog X.w (upd H a ob) h' a ob):
  aP X pins σ (upd H a ob) {s with heap:=h',toks:=t'}:=
 I.write (x:=a) (e:=a) mu (.inl rfl) (λb q hb z=>(hs.2 b hb).trans z) he new
theorem Yz{P:Program}{w:World}{H':Hp}{h':Heap}{aI:List (dP×V)}{vs:List (dP×Value)}(z:aI.length<=sizeLine)(hd:(a==sysModules)=false)(rel:KV aI vs)(dd:h'.DictOf (dW P w) a vs):
  cE P w H' h' a (.dK aI):=⟨z,hd,vs,rel,dd⟩
theorem Lm{H':Hp}{Q:Unit->Shared->Prop}(hu:A.units+1<cLine)(I:aP X pins σ H s)(g:wS H a y v H')(ry:bQ y u)(rv:bQ v r)(h:∀s',aP X pins σ H' s'->Q () s'):
  wpAny (model X.prog X.w) A (setItem (.ref a) u r) Q E s:=by
 rcases g with ⟨aI,k,e,ey,l,eH⟩|⟨aI,k,b,e,ey,eb,l,eH⟩
 ·subst ey eH
  obtain⟨z,hd,vs,rel,dd⟩:=aBw I.hok e
  have hz:vs.length<=sizeLine:=by rw[<-rel.length];exact z
  have hl:(jQ aI k v).length<=sizeLine:=by have:=tI aI k v;omega
  refine wpAny_setItem_pairs (hsz:=hz) (yF ry) dd λh' wn hs=>h _ ?_
  have he:∃q,h'.get? a=some q:=let ⟨q,_,_,hq,_⟩:=wn;⟨q,hq⟩
  exact Ba I (by rw[e];exact True.intro) hs he (Yz hl hd (rel.put k rv) wn)
 ·subst ey eH
  cases (show u=Value.ref b from ry)
  obtain⟨z,hd,xs,rel,dd⟩:=Xh I.hok e
  have hz:xs.length<=sizeLine:=by rw[<-Paired.length rel];exact z
  have hl:(jQ aI k v).length<=sizeLine:=by have:=tI aI k v;omega
  refine wpAny_setItem_heap (hsz:=hz) (AC hu) (pD I.hok eb) dd λh' wn hs=>h _ ?_
  obtain⟨q,es,ep,hq,h2,h3,h4,_,h5⟩:=wn
  refine Ba I (by rw[e];exact True.intro) hs ⟨q,hq⟩ ⟨hl,hd,_,(rel.put k eb rv).keeps λc ys ec=>?_,q,es,ep,hq,h2,h3,h4,h5⟩
  rw[aB (Xf ec e (λz=>nomatch z))]
  exact ec
end
section
variable {X:Cx} {pins:List (Addr×Obj)} {σ:St} {H:Hp} {s:Shared} {a:Addr} {aI:List (dP×V)} {k:dP} {u:Value} {A:Around} {E:Value->Shared->Prop}
end
def aCp(i:Expr):Prop:=∀ov iv,subscripted i false ov iv=operate [ov,iv] (getItem ov iv)
theorem Wp{prog:Program}{w:World}{A:Around}{E:Value->Shared->Prop}{s:Shared}{env:Env}{value slice:Expr}{pos:Pos}{T id:String}{Q:Value->Shared->Prop}
  (hl:typeLookup (.type T) "__getitem__"=pure (some (.builtin id))) (hs:aCp slice)
  (h:wpAny (model prog w) A (eval value env) (λo bp=>wpAny (model prog w) A (eval slice env) (λi dh=>dh.TypeIs o T/\wpAny (model prog w) A (getItem o i) Q E dh) E bp) E s):
  wpAny (model prog w) A (eval (.Subscript value slice pos) env) Q E s:=by
 refine Subscript_ (iy h (λo bp fc=>iy fc (λi dh yl=>?_) λ_ _ x=>x) λ_ _ x=>x)
 obtain⟨hT,yl⟩:=yl
 unfold subscriptTail
 refine wpAny_bind ?_
 rw[getitemInPython_of_ne hT.not_modules]
 refine wpAny_bind (wpAny_specialOf hT hl ?_)
 have fin:wpAny (model prog w) A (subscripted slice false o i) (λr wk=>wpAny (model prog w) A (letTemporaryGo value o r>>=λ_=>pure r) Q E wk) E dh:=by
  rw[hs o i]
  exact wpAny_operating (iy yl (λr wk A4=>wpAny_bind (wpAny_letTemporaryGo (af A4))) λ_ _ x=>x)
 first
  |exact af (wpAny_bind fin)
  |exact wpAny_bind (af (wpAny_bind fin))
  |exact wpAny_bind fin
theorem Dh{X:Cx}{pins:List (Addr×Obj)}{σ:St}{H:Hp}{s:Shared}{a:Addr}{y:V}{o:Option V}(I:aP X pins σ H s)(g:mT H a y o):s.TypeIs (.ref a) "dict":=by
 rcases g with ⟨aI,k,e,_,_⟩|⟨aI,k,b,e,_,_,_⟩
 ·obtain⟨_,_,vs,_,dd⟩:=vV I.hok e
  exact dd.typeIs
 ·obtain⟨_,_,xs,_,dd⟩:=wH I.hok e
  exact dd.typeIs
def Xr(td ty:TE):TE:=fun σ H Q=>td σ H λx H1=>ty σ H1 λy H2=>∃a v,x=.ref a/\mT H2 a y (some v)/\Q v H2
def aC0(ty td:TE):TE:=fun σ H Q=>ty σ H λy H1=>td σ H1 λx H2=>∃a o,x=.ref a/\mT H2 a y o/\Q (.bl o.isSome) H2
def Wq(ty td:TE):TE:=fun σ H Q=>ty σ H λy H1=>td σ H1 λx H2=>∃a o,x=.ref a/\mT H2 a y o/\Q (.bl (!o.isSome)) H2
def Xs(td ty tv:TE):TS:=λD σ H=>tv σ H λv H1=>td σ H1 λx H2=>ty σ H2 λy H3=>∃a H4,x=.ref a/\wS H3 a y v H4/\D.nx σ H4
section
variable {X:Cx} {o i e value:Expr} {pos j1 gc:Pos} {td ty tv:TE}
theorem jI(hu:X.A.units+1<cLine)(ho:PE X o td)(hi:PE X i ty)(hs:aCp i):PE X (.Subscript o i pos) (Xr td ty):=by
 intro pins s σ H Q I h
 refine Wp PySem.F.slot_dict_getitem.lookup hs (cD (ho pins s σ H _ I h) λu s1 ⟨x,H1,I1,rx,q1⟩=>cD (hi pins s1 σ H1 _ I1 q1) λiv s2 ⟨y,H2,I2,ry,a,v,ex,g,q2⟩=>?_)
 subst ex
 obtain rfl:u=Value.ref a:=rx
 exact⟨Dh I2 g,Ni hu I2 g ry λw' s3 I3 lq=>⟨v,H2,I3,lq,q2⟩⟩
theorem pA(hu:X.A.units+1<cLine)(hi:PE X i ty)(ho:PE X o td):PC X .In i o (aC0 ty td):=by
 intro pins s σ H Q I h
 refine cD (hi pins s σ H _ I h) λiv s1 ⟨y,H1,I1,ry,q1⟩=>cD (ho pins s1 σ H1 _ I1 q1) λu s2 ⟨x,H2,I2,rx,a,ov,ex,g,q2⟩=>?_
 subst ex
 obtain rfl:u=Value.ref a:=rx
 exact aDy hu I2 g ry λs3 I3=>⟨.bl ov.isSome,H2,I3,rfl,q2⟩
theorem Nz(hu:X.A.units+1<cLine)(hi:PE X i ty)(ho:PE X o td):PC X .NotIn i o (Wq ty td):=by
 intro pins s σ H Q I h
 refine cD (hi pins s σ H _ I h) λiv s1 ⟨y,H1,I1,ry,q1⟩=>cD (ho pins s1 σ H1 _ I1 q1) λu s2 ⟨x,H2,I2,rx,a,ov,ex,g,q2⟩=>?_
 subst ex
 obtain rfl:u=Value.ref a:=rx
 exact Vt hu I2 g ry λs3 I3=>⟨.bl (!ov.isSome),H2,I3,rfl,q2⟩
theorem lN(hu:X.A.units+1<cLine)(ho:PE X o td)(hi:PE X i ty)(hv:PE X value tv)(hs:swapsWith value (some (.Subscript o i j1)) pos.line X.env=pure false):
  PS X (.Assign [.Subscript o i j1] value pos) (Xs td ty tv):=by
 intro pins s σ H D I h
 refine wpAny_Assign_Subscript (cD (hv pins s σ H _ I h) λr s1 ⟨v,H1,I1,rv,q1⟩=>cD (ho pins s1 σ H1 _ I1 q1) λu s2 ⟨x,H2,I2,rx,q2⟩=>cD (hi pins s2 σ H2 _ I2 q2) λiv s3 ⟨y,H3,I3,ry,a,H4,ex,g,q3⟩=>?_) hs
 subst ex
 obtain rfl:u=Value.ref a:=rx
 exact Lm hu I3 g ry rv λs4 I4=>⟨σ,H4,I4,q3⟩
end
theorem Fb{P:Program}{w:World}{H:Hp}(h:Heap)(hb:sysModules<h.objs.size):cE P w H (h.push {cls:=.type "dict",data:=.dict #[]}) h.objs.size (.dT []):=
 ⟨da _,vg.mpr (ao (df hb)),[],.nil,_,#[],0,cf _ rfl,⟨rfl,rfl,rfl⟩,rfl,rfl,vo⟩
def Yq:TE:=λ_ H Q=>∀p,H p=none->Q (.ref p) (upd H p (.dT []))
section
variable {X:Cx} {pos:Pos}
theorem kF:PE X (.Dict [] [] pos) Yq:=λpins s σ H Q I h=>
 wpAny_Dict_empty ⟨.ref s.heap.objs.size,_,I.laid (a:=s.heap.objs.size) (o:=.dT []) (t':=s.toks) (λ_ _ q=>br _ q) (ap _) (Fb s.heap I.big),rfl,h _ (I.hok.fresh (ap _))⟩
end
structure M2(X:Cx)(o:Expr)(m:Str)(cx:Pos)(e f:Expr)(b9:Pos):Prop where
 base:attributeBase o m X.env (eval o X.env)=eval o X.env
 few:((backTo b9 (starEach [e,f] X.env)).all (λx=> !x.1) && (backToKw b9 (keywordEach [] X.env)).all (λx=>x.1.isSome)
  && decide (([e,f]:List Expr).length+([]:List Keyword).length+(if ([]:List Keyword).isEmpty then 0 else 1)<30))=true
 line:(cx.endLine==b9.line)=true
 trees:backTo b9 (starEach [e,f] X.env)=[(false,eval e X.env),(false,eval f X.env)]
def IsD(H:Hp)(a:Addr):Prop:=(∃aI,Rd H a (.dK aI))\/∃aI,Rd H a (.dT aI)
theorem aA2{X:Cx}{pins:List (Addr×Obj)}{σ:St}{H:Hp}{s:Shared}{a:Addr}(I:aP X pins σ H s)(d:IsD H a):
  s.TypeIs (.ref a) "dict"/\(∀b,Value.ref a=.ref b->∃ob,s.heap.get? b=some ob/\ob.dict=none)/\(a==sysModules)=false:=by
 rcases d with ⟨aI,e⟩|⟨aI,e⟩
 ·obtain⟨_,hd,vs,_,dd⟩:=vV I.hok e
  refine⟨dd.typeIs,λb q=>?_,hd⟩
  cases q
  obtain⟨ob,_,_,h1,h2,_⟩:=dd
  exact⟨ob,h1,h2.2.1⟩
 ·obtain⟨_,hd,xs,_,dd⟩:=wH I.hok e
  refine⟨dd.typeIs,λb q=>?_,hd⟩
  cases q
  obtain⟨ob,_,_,h1,h2,_⟩:=dd
  exact⟨ob,h1,h2.2.1⟩
section
variable {X:Cx} {pins:List (Addr×Obj)} {σ:St} {H:Hp} {s:Shared} {a:Addr} {y d:V} {u r:Value} {o:Option V} {A:Around} {E:Value->Shared->Prop}
theorem aAh{Q:Value->Shared->Prop}(hu:A.units+1<cLine)(I:aP X pins σ H s)(g:mT H a y o)(ry:bQ y u)(rd:bQ d r)(h:∀w' s',aP X pins σ H s'->bQ (o.getD d) w'->Q w' s'):
  wpAny (model X.prog X.w) A (call (.builtin "dict.get") [.ref a,u,r]) Q E s:=by
 rcases g with ⟨aI,k,e,ey,l⟩|⟨aI,k,b,e,ey,eb,l⟩
 ·subst ey
  obtain⟨z,hd,vs,rel,dd⟩:=vV I.hok e
  refine G9 PySem.F.slot_dict_get dd.typeIs PySem.F.entry_dict_get (PySem.F.args_dict_get_3 _ _ _) (meets_dict_get_default (dW X.prog X.w) a (yF ry) hd r) ⟨_,dd.mapOf,h _ _ (I.tok _) ?_⟩
  rw[l]
  exact(rel.val k).getD rd
 ·subst ey
  cases (show u=Value.ref b from ry)
  obtain⟨z,hd,xs,rel,dd⟩:=wH I.hok e
  refine G9 PySem.F.slot_dict_get dd.typeIs PySem.F.entry_dict_get (PySem.F.args_dict_get_3 _ _ _) (meetsH_dict_get_default (tupleKind (dW X.prog X.w)) a b hd r) ⟨AC hu,k,xs,pD I.hok eb,dd,h _ _ (I.tok _) ?_⟩
  rw[l]
  exact(rel.val k).getD rd
end
def Zp(td ty tx:TE):TE:=fun σ H Q=>td σ H λx H1=>∃a,x=.ref a/\IsD H1 a/\ty σ H1 λy H2=>tx σ H2 λz H3=>∃o,mT H3 a y o/\Q (o.getD z) H3
section
variable {X:Cx} {o e f:Expr} {cx b9:Pos} {td ty tx:TE}
theorem So(hu:X.A.units+1<cLine)(ho:PE X o td)(he:PE X e ty)(hf:PE X f tx)(m:M2 X o "get" cx e f b9):PE X (.Call (.Attribute o "get" cx) [e,f] [] b9) (Zp td ty tx):=by
 intro pins s σ H Q I h
 refine wpAny_Call_method m.base m.few m.line PySem.F.plainAttrs_dict PySem.F.slot_dict_get PySem.F.type_dict_get (cD (ho pins s σ H _ I h) λu s1 ⟨x,H1,I1,rx,a,ex,d,q1⟩=>?_)
 subst ex
 obtain rfl:u=Value.ref a:=rx
 obtain⟨t1,t2,_⟩:=aA2 I1 d
 refine⟨t1,t2,?_⟩
 rw[m.trees]
 refine G0 rfl (Calls.evalArgs_plain (z5 (cD (he pins s1 σ H1 _ I1 q1) λiv s2 ⟨y,H2,I2,ry,q2⟩=>
  z5 (cD (hf pins s2 σ H2 _ I2 q2) λfv s3 ⟨z,H3,I3,rz,ov,g,q3⟩=>CD ?_))))
 exact aAh hu I3 g ry rz λw' s4 I4 lq=>⟨_,H3,I4,lq,q3⟩
end
section
variable {X:Cx} {pins:List (Addr×Obj)} {σ:St} {H:Hp} {s:Shared} {a:Addr} {aI:List (dP×V)} {A:Around} {E:Value->Shared->Prop}
end
section
variable {X:Cx} {pins:List (Addr×Obj)} {σ:St} {H:Hp} {s:Shared} {a:Addr} {y:V} {u:Value} {A:Around} {E:Value->Shared->Prop}
end
section
variable {prog:Program} {w:World} {A:Around} {E:Value->Shared->Prop}
end
section
variable {X:Cx}
end
section
variable {X:Cx} {pins:List (Addr×Obj)} {σ:St} {H:Hp} {s:Shared} {h':Heap}
theorem aP.turnedNew{t':Nat}{ch:List Addr}{T:Addr}{ob:HO}(I:aP X pins σ H s)(k:∀b o,b∉ch->s.heap.get? b=some o->h'.get? b=some o)(hf:∀b∈ch,tZ X pins H b)(hT:s.heap.objs.size<=T)
  (new:cE X.prog X.w (upd H T ob) h' T ob):aP X pins σ (upd H T ob) {s with heap:=h',toks:=t'}:=by
 have hn:H T=none:=I.hok.fresh hT
 have yh:∀b u,H b=some u->b∉ch:=λb u e z=>by
  have q:=(hf b z).1
  rw[q] at e;cases e
 refine I.step (g':=s.gens) (d':=s.drawn) (ch:=ch) (λb hb=>⟨(hf b hb).2.2.2.1,(hf b hb).2.1,(hf b hb).2.2.2.2.1,(hf b hb).2.2.2.2.2⟩) (λb o _ _ hc e _=>k b o hc e) (λb o _ _ hc e _=>⟨o.slots,k b o hc e⟩)
  (λb o _ e n=>?_) (λb o hc e=>⟨o,k b o hc e⟩) (λb xs e=>?_) (λb o u e=>?_) (λb ps e=>⟨#[],?_⟩) (λm hm=>?_) (λb u e=>?_) I.bare
 ·rw[aB (df (gm (a9 e) hT))];exact n
 ·rw[aB (aD e hn)];exact e
 ·rw[aB (aD e hn)];exact e
 ·rw[aB (aD e hn),e];simp
 ·obtain⟨o,es,ep,ho,r⟩:=hm
  exact⟨o,es,ep,k _ o (λz=>(hf _ z).2.1 rfl) ho,r⟩
 ·by_cases hb:b=T
  ·subst hb
   rw[aC] at e
   cases e
   exact new
  ·rw[aB hb] at e
   refine(I.hok b u e).stay (λc v hc q=>k c v ?_ q) (λc q=>by rw[aB (aD q hn)];exact q) λc xs q=>by rw[aB (aD q hn)];exact q
   rcases hc with z|z
   ·rw[z];exact yh b u e
   ·exact yh c _ z
theorem aP.lock{d:Addr}{u:HO}(I:aP X pins σ H s)(h:H d=some u)(mu:Xv (some u)):∃od,aP X pins σ (upd H d (.frz od u)) s:=by
 have x:=I.hok d u h
 have ex:∃od,s.heap.get? d=some od:=by
  cases u with
  |lst xs=>obtain⟨_,_,_,_,e⟩:=x;exact⟨_,e⟩
  |dK aI=>obtain⟨_,_,_,_,o,_,_,e,_⟩:=x;exact⟨o,e⟩
  |dT aI=>obtain⟨_,_,_,_,o,_,_,e,_⟩:=x;exact⟨o,e⟩
  |set S n=>obtain⟨o,_,_,_,e,_⟩:=x;exact⟨o,e⟩
  |ins C dx fs=>obtain⟨_,_,_,e,_⟩:=x;exact⟨_,e⟩
  |ext φ=>obtain⟨_,⟨_,e⟩,_⟩:=x;exact⟨_,e⟩
  |_=>exact False.elim mu
 obtain⟨od,e⟩:=ex
 have new:cE X.prog X.w (upd H d (.frz od u)) s.heap d (.frz od u):=by
  refine⟨e,x.stay (λb v _ q=>q) (λb q=>?_) λb xs q=>?_⟩
  ·rw[aB (λz=>by rw[z,h] at q;cases q;exact mu)];exact q
  ·rw[aB (λz=>by rw[z,h] at q;cases q;exact mu)];exact q
 exact⟨od,I.write (x:=d) (e:=d) (t':=s.toks) (h':=s.heap) (by rw[h];exact mu) (.inl rfl) (λb v _ q=>q) ⟨od,e⟩ new⟩
theorem aP.nofrz{d:Addr}{u:HO}(I:aP X pins σ H s)(h:H d=some u)(mu:Xv (some u)):∀o' u',X.H_0 d≠some (.frz o' u'):=λo' u' e=>by
 have q:=I.base.frzs d o' u' e
 rw[h] at q
 cases q
 exact mu
theorem aP.unlock{d:Addr}{od:Obj}{u:HO}(I:aP X pins σ H s)(h:H d=some (.frz od u))(hn:∀o' u',X.H_0 d≠some (.frz o' u')):aP X pins σ (upd H d u) s:=by
 have wo:∀b o,H b=some o->(∀o' u',o≠.frz o' u')->b≠d:=λb o e ak z=>by
  rw[z,h] at e
  cases e
  exact ak _ _ rfl
 have neN:∀b,H b=none->b≠d:=λb e z=>by rw[z,h] at e;cases e
 refine⟨I.ok,I.os,I.bare,⟨I.base.keep,I.base.slot,λb o e n hx=>?_,I.base.there,λb xs e=>?_,λb o x e=>?_,λb ps e=>?_⟩,I.loc,I.cell,?_,λx c e=>?_,λp hp=>?_,λb o e=>?_,I.len⟩
 ·rw[aB (neN b (I.base.free b o e n hx))];exact I.base.free b o e n hx
 ·have q:=I.base.tups b xs e
  rw[aB (wo b _ q (λ_ _ z=>nomatch z))];exact q
 ·have q:=I.base.frzs b o x e
  rw[aB (λz=>by rw[z] at e;exact hn _ _ e)];exact q
 ·obtain⟨m,q⟩:=I.base.tbls b ps e
  exact⟨m,by rw[aB (wo b _ q (λ_ _ z=>nomatch z))];exact q⟩
 ·rw[aB (neN _ I.free)];exact I.free
 ·rw[aB (neN c (I.freeC x c e))];exact I.freeC x c e
 ·obtain⟨e,n,r⟩:=I.pin p hp
  exact⟨e,by rw[aB (neN _ n)];exact n,r⟩
 ·by_cases hb:b=d
  ·rw[hb,aC] at e
   cases e
   rw[hb]
   obtain⟨_,x⟩:=I.hok d _ h
   exact x.stay (λc v _ q=>q) (λc q=>by rw[aB (wo c _ q (λ_ _ z=>nomatch z))];exact q) λc xs q=>by rw[aB (wo c _ q (λ_ _ z=>nomatch z))];exact q
  ·rw[aB hb] at e
   exact(I.hok b o e).stay (λc v _ q=>q) (λc q=>by rw[aB (wo c _ q (λ_ _ z=>nomatch z))];exact q) λc xs q=>by rw[aB (wo c _ q (λ_ _ z=>nomatch z))];exact q
end
def aBr(t:TS):TS:=λD σ H=>∃d u,H d=some u/\Xv (some u)/\∀od,t ⟨λae H'=>H' d=some (.frz od u)/\D.nx ae (upd H' d u),λv H'=>H' d=some (.frz od u)/\D.rt v (upd H' d u),λae H'=>H' d=some (.frz od u)/\D.bk ae (upd H' d u),λae H'=>H' d=some (.frz od u)/\D.ct ae (upd H' d u)⟩ σ (upd H d (.frz od u))
section
variable {X:Cx}
theorem gQ{st:Stmt}{t:TS}(h:PS X st t):PS X st (aBr t):=by
 intro pins s σ H D I hw
 obtain⟨d,u,hd,mu,hw⟩:=hw
 obtain⟨od,I1⟩:=I.lock hd mu
 refine cD (h pins s σ _ _ I1 (hw od)) λf s1 q=>?_
 cases f with
 |next=>obtain⟨ae,H',I2,e,q⟩:=q;exact⟨ae,_,I2.unlock e (I.nofrz hd mu),q⟩
 |brk=>obtain⟨ae,H',I2,e,q⟩:=q;exact⟨ae,_,I2.unlock e (I.nofrz hd mu),q⟩
 |cont=>obtain⟨ae,H',I2,e,q⟩:=q;exact⟨ae,_,I2.unlock e (I.nofrz hd mu),q⟩
 |ret v=>obtain⟨x,ae,H',I2,r,e,q⟩:=q;exact⟨x,ae,_,I2.unlock e (I.nofrz hd mu),r,q⟩
theorem rT{tg:Expr}{pins:List (Addr×Obj)}{σ:St}{H:Hp}{s:Shared}{R:It->Hp->Prop}{J:It}{tn:Nat->Heap->Prop}{tk:Nat}(I:aP X pins σ H s)(o:Obj)
  (T:xD X.prog X.w X.K tg J [s.heap.objs.size] s.heap.objs.size tn) (st:tn 0 (s.heap.push o)) (q:R J H):PIE X pins σ tg R (.ref s.heap.objs.size) {s with heap:=s.heap.push o,toks:=tk}:=by
 refine⟨s.heap.objs.size,[s.heap.objs.size],tn,J,H,rfl,I.kept λb ob e=>br _ e,T,st,λb hb=>?_,q⟩
 have e:b=s.heap.objs.size:=by simpa using hb
 subst e
 exact I.fpOk (ap _) (I.hok.fresh (ap _))
end
section
variable {X:Cx} {tg:Expr}
end
section
variable {X:Cx} {tg:Expr}
end
def Its(x:Str):It:=⟨λi _=>i<x.cps.size,λi H v H'=>H'=H/\∃c,x.cps[i]?=some c/\v=.str ⟨#[c]⟩,λi _=>x.cps.size<=i⟩
theorem Fz{P:Program}{w:World}{K:PySem.W.Frag}{tg:Expr}(it:Addr)(x:Str)(t:Tok)(ty:String)(gf:ty="str_ascii_iterator"\/ty="str_iterator"):
  xD P w K tg (Its x) [it] it (λi h=>h.IsStrIter it ty x t i) where
 mem:=by simp
 obj:=λi h st b hb=>by
  have e:b=it:=by simpa using hb
  subst e
  obtain⟨o,e,c,d⟩:=st
  exact⟨o,e,λv z=>by rw[d] at z;cases z⟩
 keep:=λi h h' st k=>let ⟨o,ho,r⟩:=st;⟨o,k it (by simp) o ho,r⟩
 item:=by
  intro X hP hw hK hc i pins s σ H E I hf st hg
  subst hP hw hK
  obtain⟨f0,f1,f2,f3,f4,f5⟩:=hf it (by simp)
  have W:Walks X.prog X.w X.A it [it] [it] x.cps.size (SignAt x) (λi h=>h.IsStrIter it ty x t i):=by
   rcases gf with e|e
   ·rw[e];exact Walks.strAscii (I.ok.hd hc) it x t
   ·rw[e];exact Walks.strWide (I.ok.hd hc) it x t
  have b7:["enumerate","zip","dict_itemiterator","dict_reverseitemiterator","odict_iterator","itertools.zip_longest","itertools.pairwise"].contains ty=false:=by
   rcases gf with e|e
   ·rw[e];decide
   ·rw[e];decide
  refine W.item i s _ _ hg st λv h' tk hv io kk=>?_
  obtain⟨c,u,ON,rfl⟩:=hv
  have I1:aP X pins σ H {s with heap:=h',toks:=tk}:=I.turned (λb o hb e=>kk b o (by simpa using hb) e) f0 f1 f3 f4 f5
  obtain⟨oi,e,cc,dd⟩:=id io
  exact⟨_,rfl,yR (s:={s with heap:=h',toks:=tk}) e cc dd b7 ⟨.str ⟨#[c]⟩,H,I1,⟨u,rfl⟩,⟨rfl,c,ON,rfl⟩,io,λb hb=>(hf b hb).1⟩⟩
 done:=by
  intro X hP hw hK hc i pins s σ H E I hf st hg
  subst hP hw hK
  obtain⟨f0,f1,f2,f3,f4,f5⟩:=hf it (by simp)
  have hx:x.cps[i]?=none:=CQ hg
  rcases gf with e|e
  ·rw[e] at st
   exact wpAny_pyNext_ascii_end (I.ok.hd hc) st hx λh' eb=>⟨rfl,I.turned (t':=s.toks) (λb o hb e=>eb b o hb e) f0 f1 f3 f4 f5⟩
  ·rw[e] at st
   exact wpAny_pyNext_wide_end (I.ok.hd hc) st hx λh' eb=>⟨rfl,I.turned (t':=s.toks) (λb o hb e=>eb b o hb e) f0 f1 f3 f4 f5⟩
 self:=λA i s Q E st h=>by
  rcases gf with e|e
  ·rw[e] at st;exact wpAny_pyIter_striter_ascii st h
  ·rw[e] at st;exact wpAny_pyIter_striter_wide st h
def aDt(te:TE):TI:=fun σ H R=>te σ H λv H1=>∃x,v=.str x/\R (Its x) H1
theorem aAd{X:Cx}{tg e:Expr}{te:TE}(he:PE X e te):PI X tg e (aDt te):=by
 intro pins s σ H R I h
 refine cD (he pins s σ H _ I h) λv s1 ⟨y,H1,I1,r1,x,ex,q⟩=>?_
 subst ex
 obtain⟨t,rfl⟩:=r1
 cases ha:x.cps.all (· <128)
 ·exact wpAny_pyIter_wide ha (rT (tk:=s1.toks) I1 _ (Fz _ x t "str_iterator" (.inr rfl)) ⟨_,cf _ rfl,rfl,rfl⟩ q)
 ·exact wpAny_pyIter_ascii ha (rT (tk:=s1.toks) I1 _ (Fz _ x t "str_ascii_iterator" (.inl rfl)) ⟨_,cf _ rfl,rfl,rfl⟩ q)
section
variable {prog:Program} {w:World} {A:Around} {E:Value->Shared->Prop} {s:Shared}
theorem rP{d:Addr}{o:Obj}{es:Array DictEntry}{ep:Nat}{Q:Value->Shared->Prop}(hd:(d==sysModules)=false)(ho:s.heap.get? d=some o)(hc:o.ExactDict)(ie:o.data=.dict es ep)
  (hQ:Q (.ref s.heap.objs.size) {s with heap:=s.heap.push {cls:=.type "dict_keyiterator",data:=.fields #[.ref d,.int 0 0,.int es.size 0,.int ep 0]}}):
  wpAny (model prog w) A (pyIter (.ref d)) Q E s:=by
 have hT:s.TypeIs (.ref d) "dict":=⟨o,ho,hc.1⟩
 refine CU hT F.slot_dict_iter (jy F.slot_dict_iter hT F.entry_dict_iter ?_ (F.args_dict_iter_1 _))
 unfold Builtin.«dict.__iter__»
 refine wpAny_bind ?_
 unfold Builtin.Dict.dictSlotNone
 refine wpAny_bind (G' hT ?_)
 show wpAny _ _ (pure (Value.ref d)) _ _ s
 refine af ?_
 show wpAny _ _ (Builtin.Dict.showsAll d>>=_) _ _ s
 unfold Builtin.Dict.showsAll
 rw[aa (by rw[hd];exact cb)]
 refine wpAny_bind (af ?_)
 refine wpAny_bind (oz ho ie ?_)
 refine wpAny_bind (qo ho ie ?_)
 refine wpAny_bind (gn (af ⟨_,rfl,"dict_keyiterator",_,⟨_,cf _ rfl,rfl⟩,xu.lookup,?_⟩))
 simpa[rawInt] using hQ
theorem oR{it d:Addr}{i n ep:Nat}{od:Obj}{es:Array DictEntry}{en:DictEntry}{Q:Option Value->Shared->Prop}(a8:s.heap.IsKeyIter it d i n ep)(dw:s.heap.get? d=some od)(gg:od.data=.dict es ep)
  (hsz:es.size=n) (hx:es[i]?=some en) (hQ:∀h',h'.IsKeyIter it d (i+1) n ep->Heap.SameBut it s.heap h'->Q (some en.key) {s with heap:=h'}):wpAny (model prog w) A (pyNext (.ref it)) Q E s:=by
 obtain⟨o,ho,hc,hd⟩:=id a8
 unfold pyNext
 refine wpAny_bind (xw (md (name:=Str.ofString "__next__") a8.typeIs xu
  (jy xu a8.typeIs LV ?_ (LW _))))
 refine wpAny_bind (af ?_)
 refine wpAny_bind ?_
 refine wpAny_bind ?_
 first|refine wpAny_bind (CV a8.typeIs (af ?_))|refine wpAny_bind (CW a8.typeIs (af ?_))
 refine wpAny_bind (xx ho hd ?_)
 have jd:Builtin.Dict_items.ownsTuple "dict_keyiterator"=false:=by decide
 simp only[jd,t7,jc]
 show wpAny _ _ (if (Value.ref d==Value.none)=true then _ else _) _ _ s
 rw[aa (show ¬((Value.ref d==Value.none)=true) from cb)]
 refine wpAny_bind (af ?_)
 refine wpAny_bind (oz dw gg ?_)
 rw[aa (by rw[hsz];simp)]
 refine wpAny_bind (af ?_)
 refine wpAny_bind (qo dw gg ?_)
 rw[aa (by simp)]
 refine af ?_
 obtain⟨OO,lu⟩:=qr.mp hx
 simp only[show ¬((i:Int)<0) from by omega,jc,jm,LX OO]
 refine wpAny_bind ?_
 first|refine wpAny_bind (CV a8.typeIs (af ?_))|refine wpAny_bind (CW a8.typeIs (af ?_))
 refine wpAny_bind (LY a8.typeIs ?_)
 show wpAny _ _ (setField (.ref it) 1 (rawInt ((i:Int)+1))>>=_) _ _ s
 refine wpAny_bind (o1 ho hd (by simp) ?_)
 have jr:(s.heap.update it (Obj.mapFields (·.setIfInBounds 1 (rawInt ((i:Int)+1))))).IsKeyIter it d (i+1) n ep:=
  ⟨_,ou _ ho (xy (o3 hd _)),(HA ..).trans hc,by rw[o3 hd];simp[rawInt]⟩
 refine wpAny_bind (j8 ?_)
 refine wpAny_bind (LY (s:={s with heap:=s.heap.update it (Obj.mapFields (·.setIfInBounds 1 (rawInt ((i:Int)+1))))}) jr.typeIs ?_)
 show wpAny _ _ (pure es[i].key) _ _ _
 rw[lu]
 exact af (af ⟨_,rfl,af (hQ _ jr (vp ..))⟩)
theorem lF{it d:Addr}{i n ep:Nat}{od:Obj}{es:Array DictEntry}{Q:Option Value->Shared->Prop}(hh:A.handled=none)(a8:s.heap.IsKeyIter it d i n ep)(dw:s.heap.get? d=some od)(gg:od.data=.dict es ep)
  (hsz:es.size=n) (um:n<=i) (hQ:∀h',Heap.ExtBut it s.heap h'->Q none {s with heap:=h'}):wpAny (model prog w) A (pyNext (.ref it)) Q E s:=by
 obtain⟨o,ho,hc,hd⟩:=id a8
 unfold pyNext
 refine wpAny_bind (xw (md (name:=Str.ofString "__next__") a8.typeIs xu
  (jy xu a8.typeIs LV ?_ (LW _))))
 refine wpAny_bind (af ?_)
 refine wpAny_bind ?_
 refine wpAny_bind ?_
 first|refine wpAny_bind (CV a8.typeIs (af ?_))|refine wpAny_bind (CW a8.typeIs (af ?_))
 refine wpAny_bind (xx ho hd ?_)
 have jd:Builtin.Dict_items.ownsTuple "dict_keyiterator"=false:=by decide
 simp only[jd,t7,jc]
 show wpAny _ _ (if (Value.ref d==Value.none)=true then _ else _) _ _ s
 rw[aa (show ¬((Value.ref d==Value.none)=true) from cb)]
 refine wpAny_bind (af ?_)
 refine wpAny_bind (oz dw gg ?_)
 rw[aa (by rw[hsz];simp)]
 refine wpAny_bind (af ?_)
 refine wpAny_bind (qo dw gg ?_)
 rw[aa (by simp)]
 refine af ?_
 have OP:es.size<=i:=by rw[hsz];exact um
 simp only[show ¬((i:Int)<0) from by omega,jc,jm,CQ OP]
 refine wpAny_bind ?_
 first|refine wpAny_bind (CV a8.typeIs (af ?_))|refine wpAny_bind (CW a8.typeIs (af ?_))
 show wpAny _ _ (setField (.ref it) 0 .none>>=_) _ _ s
 refine wpAny_bind (o1 ho hd (by simp) ?_)
 show wpAny _ _ (newExc (.type "StopIteration") []>>=_) _ _ _
 refine wpAny_bind ?_
 simp only[newExc,newTuple]
 refine wpAny_bind (gn ?_ (by size_fits))
 refine wpAny_bind (m:=firstArgMember _ _) (AD (a:=Value.none) (by first|rfl|(simp only[firstArgMember];rfl)) ?_)
 refine gn ?_ (by size_fits)
 simp only[raiseNew]
 refine wpAny_bind (CY ?_)
 rw[show A.in1.handled=none from hh]
 refine wpAny_bind (af (CZ ?_))
 refine wpAny_bind (HB (T:="StopIteration") (b:=true) ⟨_,cf _ rfl,rfl⟩ HC ?_)
 exact af (hQ _ (((vp ..).extBut.push _).push _))
end
theorem Zv{κ:Type}{aI:List (κ×V)}{vs:List (κ×Value)}(h:KV aI vs):∀{i:Nat}{k:κ}{v:V},aI[i]?=some (k,v)->∃u,vs[i]?=some (k,u)/\bQ v u:=by
 unfold KV at h
 induction h with
 |nil=>intro i k v e;simp at e
 | @cons a b ub uc r t ih=>
  intro i k v e
  cases i with
  |zero=>
   simp only[HD,Option.some.injEq] at e
   subst e
   refine⟨b.2,?_,r.2⟩
   simp only[HD]
   exact congrArg some (dk r.1.symm rfl)
  |succ j=>
   simp only[LZ] at e ⊢
   exact ih e
theorem lJ{α β:Type}{G:α->β->Prop}{ub:List α}{uc:List β}(h:Paired G ub uc):∀{i:Nat}{a:α},ub[i]?=some a->∃b,uc[i]?=some b/\G a b:=by
 induction h with
 |nil=>intro i a e;simp at e
 | @cons a b ub uc r t ih=>
  intro i a' e
  cases i with
  |zero=>
   simp only[HD,Option.some.injEq] at e
   subst e
   exact⟨b,rfl,r⟩
  |succ j=>
   simp only[LZ] at e ⊢
   exact ih e
theorem Tk{k:dP}{u:Value}(h:tP k u=true):bQ (kV k) u:=by
 rcases dF h with ⟨i,t,rfl,rfl⟩|⟨x,t,rfl,rfl⟩
 ·exact⟨t,rfl⟩
 ·exact⟨t,rfl⟩
section
variable {X:Cx} {pins:List (Addr×Obj)} {σ:St} {H:Hp} {s:Shared} {d:Addr} {o:Obj}
theorem aP.frzK{aI:List (dP×V)}(I:aP X pins σ H s)(h:H d=some (.frz o (.dK aI))):
  (d==sysModules)=false/\s.heap.get? d=some o/\o.ExactDict/\∃(es:Array DictEntry)(ep:Nat) (vs:List (dP×Value)),o.data=.dict es ep/\es.size=aI.length/\KV aI vs/\s.heap.DictAt (dW X.prog X.w) d vs ep:=by
 obtain⟨hd,z,hs,vs,kv,o',es,ep,ho,hx,bq,r⟩:=I.hok d _ h
 rw[hd] at ho
 cases ho
 refine⟨hs,hd,hx,es,ep,vs,bq,?_,kv,o,es,hd,hx,bq,r⟩
 have l1:=r.2.1.length
 have l2:aI.length=vs.length:=Paired.length kv
 rw[l9] at l1
 omega
theorem aP.frzT{aI:List (List dP×V)}(I:aP X pins σ H s)(h:H d=some (.frz o (.dT aI))):
  (d==sysModules)=false/\s.heap.get? d=some o/\o.ExactDict/\∃(es:Array DictEntry)(ep:Nat),o.data=.dict es ep/\es.size=aI.length/\
   ∀(i:Nat)(k:List dP)(v:V),aI[i]?=some (k,v)->∃(en:DictEntry)(q:Addr),es[i]?=some en/\en.key=.ref q/\H q=some (.tup (k.map kV)):=by
 obtain⟨hd,z,hs,xs,pr,o',es,ep,ho,hx,bq,he,_⟩:=I.hok d _ h
 rw[hd] at ho
 cases ho
 refine⟨hs,hd,hx,es,ep,bq,?_,λi k v e=>?_⟩
 ·have l1:es.size=xs.length:=C0 he
  have l2:aI.length=xs.length:=Paired.length pr
  omega
 ·obtain⟨b,hb,e1,e2,_⟩:=lJ pr e
  have q:=entry_at he i
  rw[hb] at q
  exact⟨_,b.2.1,q,rfl,e2⟩
end
def Itk(d:Addr)(o:Obj)(aI:List (dP×V)):It:=
 ⟨λi H=>H d=some (.frz o (.dK aI))/\i<aI.length,λi H x H'=>H'=H/\∃k v,aI[i]?=some (k,v)/\x=kV k,λi H=>H d=some (.frz o (.dK aI))/\aI.length<=i⟩
def Fm(d:Addr)(o:Obj)(aI:List (List dP×V)):It:=
 ⟨λi H=>H d=some (.frz o (.dT aI))/\i<aI.length,λi H x H'=>H'=H/\∃(k:List dP)(v:V)(q:Addr),aI[i]?=some (k,v)/\x=.ref q/\H q=some (.tup (k.map kV)),λi H=>H d=some (.frz o (.dT aI))/\aI.length<=i⟩
theorem oE{o:Obj}{es ke:Array DictEntry}{ep kf:Nat}(h:o.data=.dict es ep)(h':o.data=.dict ke kf):ke=es/\kf=ep:=by
 rw[h] at h'
 cases h'
 exact⟨rfl,rfl⟩
section
variable {P:Program} {w:World} {K:PySem.W.Frag} {tg:Expr} {d:Addr} {o:Obj} {es:Array DictEntry} {ep:Nat}
theorem Mo{aI:List (dP×V)}(it:Addr)(dw:o.data=.dict es ep):xD P w K tg (Itk d o aI) [it] it (λi h=>h.IsKeyIter it d i aI.length ep) where
 mem:=by simp
 obj:=λi h st b hb=>by
  have e:b=it:=by simpa using hb
  subst e
  obtain⟨oi,e,c,dd⟩:=st
  exact⟨oi,e,λv z=>by rw[dd] at z;cases z⟩
 keep:=λi h h' st k=>st.at λoi e=>k it (by simp) oi e
 item:=by
  intro X hP hw hK hc i pins s σ H E I hf st hg
  subst hP hw hK
  obtain⟨hd,hi⟩:=hg
  obtain⟨f0,f1,f2,f3,f4,f5⟩:=hf it (by simp)
  obtain⟨hs,c7,hx,ke,kf,vs,bq,hsz,kv,hm⟩:=I.frzK hd
  obtain⟨rfl,rfl⟩:=oE dw bq
  obtain⟨⟨k,v⟩,ko⟩:∃p,aI[i]?=some p:=⟨aI[i],ba hi⟩
  obtain⟨u,hu,ru⟩:=Zv kv ko
  have hl:aI.length=vs.length:=Paired.length kv
  rw[hl] at st
  refine wpAny_pyNext_dict_item st hm hu λkey h' uj io sb=>?_
  have I1:aP X pins σ H {s with heap:=h'}:=I.turned (t':=s.toks) (λb ob hb e=>(sb.2 b hb).trans e) f0 f1 f3 f4 f5
  obtain⟨oi,e,c,dd⟩:=id io
  refine⟨key,rfl,yR (s:={s with heap:=h'}) e c dd (by decide) ⟨kV k,H,I1,Tk (show tP k key=true from uj),⟨rfl,k,v,ko,rfl⟩,?_,λb hb=>(hf b hb).1⟩⟩
  show h'.IsKeyIter it d (i+1) aI.length _
  rw[hl]
  exact io
 done:=by
  intro X hP hw hK hc i pins s σ H E I hf st hg
  subst hP hw hK
  obtain⟨hd,hi⟩:=hg
  obtain⟨f0,f1,f2,f3,f4,f5⟩:=hf it (by simp)
  obtain⟨hs,c7,hx,ke,kf,vs,bq,hsz,kv,hm⟩:=I.frzK hd
  obtain⟨rfl,rfl⟩:=oE dw bq
  exact lF (I.ok.hd hc) st c7 bq hsz hi λh' eb=>⟨rfl,I.turned (t':=s.toks) (λb ob hb e=>eb b ob hb e) f0 f1 f3 f4 f5⟩
 self:=λA i s Q E st h=>wpAny_pyIter_keyiter st h
theorem Ia{aI:List (List dP×V)}(it:Addr)(dw:o.data=.dict es ep):xD P w K tg (Fm d o aI) [it] it (λi h=>h.IsKeyIter it d i aI.length ep) where
 mem:=by simp
 obj:=λi h st b hb=>by
  have e:b=it:=by simpa using hb
  subst e
  obtain⟨oi,e,c,dd⟩:=st
  exact⟨oi,e,λv z=>by rw[dd] at z;cases z⟩
 keep:=λi h h' st k=>st.at λoi e=>k it (by simp) oi e
 item:=by
  intro X hP hw hK hc i pins s σ H E I hf st hg
  subst hP hw hK
  obtain⟨hd,hi⟩:=hg
  obtain⟨f0,f1,f2,f3,f4,f5⟩:=hf it (by simp)
  obtain⟨hs,c7,hx,ke,kf,bq,hsz,kq⟩:=I.frzT hd
  obtain⟨rfl,rfl⟩:=oE dw bq
  obtain⟨⟨k,v⟩,ko⟩:∃p,aI[i]?=some p:=⟨aI[i],ba hi⟩
  obtain⟨en,q,lu,uj,hq⟩:=kq i k v ko
  refine oR st c7 bq hsz lu λh' io sb=>?_
  have I1:aP X pins σ H {s with heap:=h'}:=I.turned (t':=s.toks) (λb ob hb e=>(sb.2 b hb).trans e) f0 f1 f3 f4 f5
  obtain⟨oi,e,c,dd⟩:=id io
  exact⟨en.key,rfl,yR (s:={s with heap:=h'}) e c dd (by decide) ⟨.ref q,H,I1,uj,⟨rfl,k,v,q,ko,rfl,hq⟩,io,λb hb=>(hf b hb).1⟩⟩
 done:=by
  intro X hP hw hK hc i pins s σ H E I hf st hg
  subst hP hw hK
  obtain⟨hd,hi⟩:=hg
  obtain⟨f0,f1,f2,f3,f4,f5⟩:=hf it (by simp)
  obtain⟨hs,c7,hx,ke,kf,bq,hsz,kq⟩:=I.frzT hd
  obtain⟨rfl,rfl⟩:=oE dw bq
  exact lF (I.ok.hd hc) st c7 bq hsz hi λh' eb=>⟨rfl,I.turned (t':=s.toks) (λb ob hb e=>eb b ob hb e) f0 f1 f3 f4 f5⟩
 self:=λA i s Q E st h=>by
  refine CU st.typeIs L0 (jy L0 st.typeIs F.entry_dict_keyiterator_iter ?_ (F.args_dict_keyiterator_iter_1 _))
  show wpAny _ _ (ret (.ref it)) _ _ s
  exact af ⟨_,rfl,"dict_keyiterator",_,st.typeIs,xu.lookup,h⟩
end
def aCu(td:TE):TI:=fun σ H R=>td σ H λx H1=>∃d o,x=.ref d/\((∃aI,H1 d=some (.frz o (.dK aI))/\R (Itk d o aI) H1)\/∃aI,H1 d=some (.frz o (.dT aI))/\R (Fm d o aI) H1)
section
variable {X:Cx} {tg e:Expr} {td:TE} {cx b9:Pos}
theorem uM(he:PE X e td):PI X tg e (aCu td):=by
 intro pins s σ H R I h
 refine cD (he pins s σ H _ I h) λu s1 ⟨x,H1,I1,rx,d,o,ex,q⟩=>?_
 subst ex
 obtain rfl:u=Value.ref d:=rx
 rcases q with ⟨aI,hd,q⟩|⟨aI,hd,q⟩
 ·obtain⟨hs,c7,hx,es,ep,vs,bq,hsz,kv,hm⟩:=I1.frzK hd
  refine rP hs c7 hx bq (rT (tk:=s1.toks) I1 _ (Mo _ bq) ⟨_,cf _ rfl,rfl,?_⟩ q)
  rw[hsz]<;>rfl
 ·obtain⟨hs,c7,hx,es,ep,bq,hsz,kq⟩:=I1.frzT hd
  refine rP hs c7 hx bq (rT (tk:=s1.toks) I1 _ (Ia _ bq) ⟨_,cf _ rfl,rfl,?_⟩ q)
  rw[hsz]<;>rfl
end
def Ite(K:PySem.W.Frag)(a:Addr):It:=
 ⟨λi H=>∃(xs:List V)(x:V),cP K H a xs/\xs[i]?=some x,λi H v H'=>∃T x,v=.ref T/\H T=none/\H'=upd H T (.tup [.int (i:Nat),x])/\∀xs,cP K H a xs->xs[i]?=some x,λi H=>∃xs:List V,cP K H a xs/\xs.length<=i⟩
theorem Li{P:Program}{w:World}{K:PySem.W.Frag}{iu:List Expr}{kk:Nat}{gc:Pos}(a e it:Addr):
  xD P w K (.Tuple iu kk gc) (Ite K a) [e,it] e (λi h=>(∃old,IsEnum h e it ((i:Nat):Int) old)/\h.IsListIter it a i/\e≠it) where
 mem:=by simp
 obj:=λi h st b hb=>by
  obtain⟨⟨old,he⟩,⟨o,ho,hc,hd⟩,_⟩:=st
  have e':b=e\/b=it:=by simpa using hb
  rcases e' with z|z
  ·rw[z];exact⟨_,he,λv q=>nomatch q⟩
  ·rw[z];exact⟨o,ho,λv q=>by rw[hd] at q;cases q⟩
 keep:=λi h h' st k=>let ⟨⟨old,he⟩,hi,ak⟩:=st;⟨⟨old,k e (by simp) _ he⟩,hi.at λo q=>k it (by simp) o q,ak⟩
 item:=by
  intro X hP hw hK hc i pins s σ H E I hf st hg
  subst hP hw hK
  obtain⟨⟨old,he⟩,a8,ak⟩:=st
  obtain⟨xs,x,hq,hx⟩:=hg
  obtain⟨its,rv,p,hz⟩:=I.list hq
  obtain⟨u,hu,ru⟩:=rv.get hx
  have wp:e<s.heap.objs.size:=a9 he
  have qz:it<s.heap.objs.size:=by obtain⟨_,q,_⟩:=a8;exact a9 q
  refine wpAny_pyNext_enum_item he a8 p.isList (x:=u) (by simpa using hu) ak λh' ho jr hT hsz hk=>?_
  refine⟨_,rfl,wpAny_letOwnedTupleGo_enum (s:={s with heap:=h',toks:=s.toks+1}) ho λic pf sb=>?_⟩
  have ym:ic.get? s.heap.objs.size=some {cls:=.type "tuple",data:=.seq #[.int i s.toks,u]}:=(sb.2 _ (tj wp)).trans hT
  have new:cE X.prog X.w (upd H s.heap.objs.size (.tup [.int (i:Nat),x])) ic s.heap.objs.size (.tup [.int (i:Nat),x]):=
   ⟨by show 2<=sizeLine;decide,[.int i s.toks,u],.cons ⟨_,rfl⟩ (.cons ru .nil),⟨_,ym,rfl,_,rfl⟩⟩
  have I1:aP X pins σ (upd H s.heap.objs.size (.tup [.int (i:Nat),x])) {s with heap:=ic,toks:=s.toks+1}:=
   I.turnedNew (ch:=[e,it]) (λb ob hb q=>(sb.2 b (λz=>hb (by simp[z]))).trans (hk b ob (λz=>hb (by simp[z])) (λz=>hb (by simp[z])) q)) hf (ap _) new
  refine⟨.ref s.heap.objs.size,_,I1,rfl,⟨_,x,rfl,I.hok.fresh (ap _),rfl,λys hy=>by rw[I.list_inj hy hq];exact hx⟩,⟨⟨u,?_⟩,jr.at λo q=>(sb.2 it (ao ak)).trans q,ak⟩,λb hb=>?_⟩
  ·have e1:((i+1:Nat):Int)=(i:Int)+1:=by omega
   rw[e1];exact pf
  ·have j3:b<s.heap.objs.size:=by
    have e':b=e\/b=it:=by simpa using hb
    rcases e' with z|z
    ·rw[z];exact wp
    ·rw[z];exact qz
   rw[aB (df j3)]
   exact(hf b hb).1
 done:=by
  intro X hP hw hK hc i pins s σ H E I hf st hg
  subst hP hw hK
  obtain⟨⟨old,he⟩,a8,ak⟩:=st
  obtain⟨xs,hq,hx⟩:=hg
  obtain⟨its,rv,p,hz⟩:=I.list hq
  obtain⟨f0,f1,f2,f3,f4,f5⟩:=hf it (by simp)
  have hl:=rv.length
  exact wpAny_pyNext_enum_end (I.ok.hd hc) he a8 p.isList (by simp;omega) λh' eb=>⟨rfl,I.turned (t':=s.toks) (λb o hb q=>eb b o hb q) f0 f1 f3 f4 f5⟩
 self:=λA i s Q E st h=>let ⟨⟨_,he⟩,_⟩:=st;C1 he h
def aCf(K:PySem.W.Frag)(ta:TA):TI:=fun σ H R=>ta σ H λvs H1=>∃a xs,vs=[.ref a]/\cP K H1 a xs/\R (Ite K a) H1
theorem Uj{X:Cx}{e:Expr}{ta:TA}{p pos gc:Pos}{iu:List Expr}{kk:Nat}(hg:Gl X "enumerate")(hm:X.mg "enumerate"=none)(ha:PA X [e] ta)(hs:starEach [e] X.env=[(false,eval e X.env)]:=by rfl):
  PI X (.Tuple iu kk gc) (.Call (.Name "enumerate" p) [e] [] pos) (aCf X.K ta):=by
 intro pins s σ H R I h
 refine Call_ (jR I hg hm boot_enumerate (xm (cD (ha pos pins s σ H _ I h) λus s1 ⟨vs,H1,I1,r1,q1⟩=>?_) hs rfl))
 obtain⟨a,xs,ex,hq,q⟩:=q1
 subst ex
 cases r1 with
 |cons r rr=>
  cases rr
  cases r
  obtain⟨its,rv,p',hz⟩:=I1.list hq
  refine call_enumerate_list p'.isList λh' he a8 hsz hk=>C1 he ?_
  have I2:aP X pins σ H1 {s1 with heap:=h'}:=I1.kept (t':=s1.toks) hk
  refine⟨s1.heap.objs.size+1,[s1.heap.objs.size+1,s1.heap.objs.size],_,_,H1,rfl,I2,Li a (s1.heap.objs.size+1) s1.heap.objs.size,⟨⟨.none,he⟩,a8,L' _⟩,λb hb=>?_,q⟩
  have e':b=s1.heap.objs.size+1\/b=s1.heap.objs.size:=by simpa using hb
  have fu:s1.heap.objs.size<=b:=by
   rcases e' with z|z
   ·rw[z];exact MA _ _
   ·rw[z];exact ap _
  exact I1.fpOk fu (I1.hok.fresh fu)
end L2
section
namespace Bits
open PySem PyProof.Rows
end Bits
end
section
namespace TL
open PySem PySem.Builtin PySem.Builtin.Str PySem.StrLaws
end TL
end
namespace L2
open PySem PySem.Spec PyProof.Rows
section
variable {X:Cx} {pins:List (Addr×Obj)} {σ:St} {H:Hp} {s:Shared} {Q:VK}
end
section
variable {X:Cx}
end
section
variable {X:Cx} {o e:Expr} {to te:TE}
end
section
variable {X:Cx}
end
end L2
namespace Att
open PySem PySem.W PySem.Calls PyProof.Rows
section
variable {prog:Program} {w:World} {A:Around} {E:Value->Shared->Prop} {s:Shared} {K:Frag}
end
end Att
namespace L2
open PySem PySem.Spec PyProof.Rows
abbrev bU:Gg:=λ_ _ _ _ _ _=>False
abbrev E0:XK:=λ_ _ _=>False
theorem aY{X:Cx}:iO bU X E0:=λ_ _ _ _ _ _ _ h=>h.elim
structure fH(K:PySem.W.Frag)(x qual:Str)(st:Stmt)(f:Addr)(fd:FuncData):Prop where
 ex:∃(oc:Value)(od:Option Addr)(kV bo pm:Value)(an:Option Addr)(ai ct:Value) (cq:Array (Option Value)),
  fd=PySem.W.fnOf x qual (eO st) (dQ st) (aH st) .none kV bo pm an ai ct/\K.lookup f=some ⟨oc,od,.func fd,cq⟩/\PySem.W.codeIn K ai qual=true
 kp:PySem.W.keepIn K (.ref f)=true
section
variable {P:Program} {w:World} {K:PySem.W.Frag} {mg:Str->Option Value} {base:Heap}
theorem fH.ok{x qual:Str}{st:Stmt}{f:Addr}{fd:FuncData}{N ps:List Str}{k:Nat}{sp:Sp}(F:fH K x qual st f fd)(S:aQ N ps (aH st))(len:∀vs H Q E,sp vs H Q E->vs.length=ps.length)
  (uk:∀(ai:Value)(A:Around)(outer:List Env)(s:Shared)(H:Hp)(vs:List V)(Q:VK)(E:XK),fX k (A.deeper (envOfC qual (aH st) s.heap.objs.size f ai))->sp vs H Q E->
   ∃t,zI (Ar bU P w K mg base N qual (aH st) f ai A outer s H E).nox (dQ st) t/\t {nx:=λ_ H'=>Q .non H',rt:=Q} (lW N vs) H):bT P w K mg base bU (k+1) f fd ps sp:=by
 obtain⟨oc,od,kV,bo,pm,an,ai,ct,cq,rfl,lk,gt⟩:=F.ex
 refine Xk lk gt S len λA outer s H vs Q E hr j2=>?_
 obtain⟨t,h,q⟩:=uk ai A outer s H vs Q E hr j2
 exact⟨t,h.nox,q⟩
theorem fH.binds{x qual:Str}{st:Stmt}{f:Addr}{fd:FuncData}{ps:List Str}(F:fH K x qual st f fd)
  (h:∀(kV bo pm:Value)(an:Option Addr)(ai ct:Value)(us:List Value),us.length=ps.length->bindArgs (PySem.W.fnOf x qual (eO st) (dQ st) (aH st) .none kV bo pm an ai ct) ⟨us,[]⟩=pure (ps.zip us)):eY K fd ps []:=by
 obtain⟨oc,od,kV,bo,pm,an,ai,ct,cq,rfl,lk,gt⟩:=F.ex
 exact .all (h kV bo pm an ai ct)
theorem rM{x qual:Str}{st:Stmt}{f:Addr}{oc:Value}{od an:Option Addr}{cq:Array (Option Value)}{kV bo pm ai ct:Value}(l:K.lookup f=some ⟨oc,od,.func (PySem.W.fnOf x qual (eO st) (dQ st) (aH st) .none kV bo pm an ai ct),cq⟩)
  (c:PySem.W.codeIn K ai qual=true) (k:PySem.W.keepIn K (.ref f)=true):fH K x qual st f (PySem.W.fnOf x qual (eO st) (dQ st) (aH st) .none kV bo pm an ai ct):=⟨⟨oc,od,kV,bo,pm,an,ai,ct,cq,rfl,l,c⟩,k⟩
end
theorem jY{A:Around}{k:Nat}(hr:fX k A):A.units+1<cLine:=Nat.lt_of_le_of_lt (Nat.add_le_add_left (by decide:1<=64) _) hr.units
section
variable {X:Cx}
theorem pv(i:Nat){x:Str}{pos:Pos}(hN:X.N[i]?=some x:=by rfl)(hv:Vis X.env.scope x:=by first|exact Or.inl rfl|exact Or.inr (Or.inl rfl)|exact Or.inr (Or.inr rfl))(hd:(x==("__debug__":Str))=false:=by decide)
  (gt:(x==("__classdict__":Str))=false:=by decide):PE X (.Name x pos) (eF i):=Zt hN hv hd gt
end
theorem pO{A B:Prop}(h:B):if false=true then A else B:=by
 rw[aa cb]
 exact h
theorem Rs{A B:Prop}(h:A):if true=true then A else B:=by
 rw[ac rfl]
 exact h
theorem bY{c A B:Prop}[Decidable c](h1:c->A)(h2:¬c->B):if c then A else B:=by
 by_cases h:c
 ·rw[ac h]
  exact h1 h
 ·rw[aa h]
  exact h2 h
def aK(H H':Hp):Prop:=∀b o,H b=some o->H' b=some o
theorem aK.trans{H H1 H2:Hp}(a:aK H H1)(b:aK H1 H2):aK H H2:=λc o h=>b c o (a c o h)
theorem aK.free{H H':Hp}(e:aK H H'){l:Addr}(h:H' l=Option.none):H l=Option.none:=by
 cases q:H l with
 |none=>rfl
 |some o=>
  rw[e l o q] at h
  cases h
theorem aK.seq{K:PySem.W.Frag}{H H':Hp}{a:Addr}{xs:List V}(e:aK H H')(h:cP K H a xs):cP K H' a xs:=by
 rcases h with (h|⟨o,h⟩)|h
 ·exact .inl (.inl (e _ _ h))
 ·exact .inl (.inr ⟨o,e _ _ h⟩)
 ·exact .inr h
section
variable {κ:Type} [DecidableEq κ]
end
end L2
section
namespace L2
open PySem PySem.Spec PyProof.Rows
open PySem.W (WData Codec OpenSpec Well WellAll ReadsW ReadsAllW)
mutual
inductive Dw(K:PySem.W.Frag)(H:Hp):V->WData->Prop
 |non:Dw K H .non .none
 |bl (b:Bool):Dw K H (.bl b) (.bool b)
 |int (i:Int):Dw K H (.int i) (.int i)
 |str (x:Str):Dw K H (.str x) (.str x)
 |byt (b:Array UInt8):Dw K H (.byt b) (.bytes b.toList)
 |lst {a:Addr} {xs:List V} {ds:List WData}:cP K H a xs->mO K H xs ds->Dw K H (.ref a) (.list ds)
 |tup {a:Addr} {xs:List V} {ds:List WData}:cN K H a xs->mO K H xs ds->Dw K H (.ref a) (.tuple ds)
inductive mO(K:PySem.W.Frag)(H:Hp):List V->List WData->Prop
 |nil:mO K H [] []
 |cons {v:V} {vs:List V} {d:WData} {ds:List WData}:Dw K H v d->mO K H vs ds->mO K H (v::vs) (d::ds)
end
theorem Jh{K:PySem.W.Frag}{H:Hp}:∀ns:List Int,mO K H (ns.map V.int) (ns.map WData.int)
 |[]=>.nil
 |n::r=>.cons (.int n) (Jh r)
theorem Bl{K:PySem.W.Frag}{H:Hp}:∀(ns:List Int)(xs:List V),mO K H xs (ns.map WData.int)->xs=ns.map V.int
 |[],xs,h=>by
  cases h
  rfl
 |n::r,xs,h=>by
  cases h with
  |cons h1 h2=>
   cases h1
   rw[Bl r _ h2]<;>rfl
section
variable {P:Program} {w:World} {K:PySem.W.Frag} {H:Hp} {h:Heap} {R:PySem.W.WRecords} {cl:Str->Option Addr}
theorem Zh{a:Addr}{xs:List V}(hok:kT P w H h)(KX:K.In h)(q:cP K H a xs):∃(its:List Value)(o:Obj)(n:Nat),bA xs its/\h.get? a=some o/\o.cls=.type "list"/\o.data=.seq its.toArray n:=by
 rcases q with q|⟨o,its,n,e,hc,_,hd,_,hv⟩
 ·obtain⟨_,its,n,hv,e⟩:=(show cE P w H h a (.lst xs) from q.ok hok)
  exact⟨its,_,n,hv,e,rfl,rfl⟩
 ·exact⟨its.toList,o,n,hv,KX _ _ e,hc,by simp[hd]⟩
theorem aAv{a:Addr}{xs:List V}(hok:kT P w H h)(KX:K.In h)(q:cN K H a xs):∃(its:List Value)(o:Obj)(n:Nat),bA xs its/\h.get? a=some o/\o.cls=.type "tuple"/\o.data=.seq its.toArray n:=by
 rcases q with q|⟨o,its,n,e,hc,hd,_,hv⟩
 ·obtain⟨_,its,hv,o,e,hc,n,hd⟩:=(show cE P w H h a (.tup xs) from q.ok hok)
  exact⟨its,o,n,hv,e,hc,hd⟩
 ·exact⟨its.toList,o,n,hv,KX _ _ e,hc,by simp[hd]⟩
mutual
theorem Dw.reads(hok:kT P w H h)(KX:K.In h):∀(d:WData)(v:V)(u:Value),Dw K H v d->bQ v u->∃as,ReadsW R cl h u d as
 |.none,_,_,x,r=>by
  cases x
  cases r
  exact⟨_,ReadsW.none⟩
 |.bool b,_,_,x,r=>by
  cases x
  cases r
  exact⟨_,ReadsW.bool b⟩
 |.int i,_,_,x,r=>by
  cases x
  obtain⟨t,rfl⟩:=r
  exact⟨_,ReadsW.int i t⟩
 |.str s,_,_,x,r=>by
  cases x
  obtain⟨t,rfl⟩:=r
  exact⟨_,ReadsW.str s t⟩
 |.bytes b,_,_,x,r=>by
  cases x
  obtain⟨t,rfl⟩:=r
  exact⟨_,ReadsW.bytes _ t⟩
 |.list ds,_,_,x,r=>by
  cases x with
  |lst hs ha=>
   cases r
   obtain⟨its,o,n,rv,ho,hc,hd⟩:=Zh hok KX hs
   obtain⟨as,hr⟩:=Dw.readsAll hok KX ds _ its ha rv
   exact⟨_,ReadsW.list ho hc hd hr⟩
 |.tuple ds,_,_,x,r=>by
  cases x with
  |tup hs ha=>
   cases r
   obtain⟨its,o,n,rv,ho,hc,hd⟩:=aAv hok KX hs
   obtain⟨as,hr⟩:=Dw.readsAll hok KX ds _ its ha rv
   exact⟨_,ReadsW.tuple ho hc hd hr⟩
 |.float _,_,_,x,_=>by cases x
 |.dict _,_,_,x,_=>by cases x
 |.bytearray _,_,_,x,_=>by cases x
 |.set _,_,_,x,_=>by cases x
 |.frozenset _,_,_,x,_=>by cases x
 |.obj _ _,_,_,x,_=>by cases x
theorem Dw.readsAll(hok:kT P w H h)(KX:K.In h):∀(ds:List WData)(vs:List V)(us:List Value),mO K H vs ds->bA vs us->∃as,ReadsAllW R cl h us ds as
 |[],_,_,x,r=>by
  cases x
  cases r
  exact⟨_,ReadsAllW.nil⟩
 |d::ds,_,_,x,r=>by
  cases x with
  |cons h1 h2=>
   cases r with
   |cons r1 r2=>
    obtain⟨as,q1⟩:=Dw.reads hok KX d _ _ h1 r1
    obtain⟨bs,q2⟩:=Dw.readsAll hok KX ds _ _ h2 r2
    exact⟨_,ReadsAllW.cons q1 q2⟩
end
end
mutual
def Ko:WData->Bool
 |.none=>true
 |.bool _=>true
 |.int _=>true
 |.str _=>true
 |.bytes _=>true
 |.list xs=>uC xs
 |.tuple xs=>uC xs
 |_=>false
def uC:List WData->Bool
 |[]=>true
 |x::r=>Ko x && uC r
end
theorem Dy{α:Type}{f:α->WData}(h:∀a,Ko (f a)=true):∀l:List α,uC (l.map f)=true
 |[]=>rfl
 |x::r=>by
  show (Ko (f x) && uC (r.map f))=true
  rw[h x,Dy h r]<;>rfl
theorem mL:∀(c:Codec)(a:c.denote),Ko (c.enc a)=true
 |.unit,_=>rfl
 |.bool,_=>rfl
 |.int _ _,_=>rfl
 |.nat _ _,_=>rfl
 |.u8,_=>rfl
 |.bytes _ _,_=>rfl
 |.text _ _ _ _,_=>rfl
 |.list _ _ c,a=>Dy (λx=>mL c x) a
 |.pair c d,a=>by
  show (Ko (c.enc a.1) && (Ko (d.enc a.2) && true))=true
  rw[mL c a.1,mL d a.2]<;>rfl
 |.triple c d e,a=>by
  show (Ko (c.enc a.1) && (Ko (d.enc a.2.1) && (Ko (e.enc a.2.2) && true)))=true
  rw[mL c a.1,mL d a.2.1,mL e a.2.2]<;>rfl
 |.option c,none=>rfl
 |.option c,some x=>mL c x
theorem Ab:∀(cs:List Codec)(a:Codec.denoteAll cs),uC (Codec.encAll cs a)=true
 |[],_=>rfl
 |c::cs,a=>by
  show (Ko (c.enc a.1) && uC (Codec.encAll cs a.2))=true
  rw[mL c a.1,Ab cs a.2]<;>rfl
theorem pC:∀{xs:List WData}{d:WData},d∈xs->d.weight<=WData.weightAll xs
 |[],d,h=>absurd h (by simp)
 |x::r,d,h=>by
  show d.weight<=x.weight+1+WData.weightAll r
  rcases aw.mp h with e|m
  ·rw[e]
   omega
  ·have z:=pC m
   omega
def Di:Value->V
 |.none=>.non
 |.bool b=>.bl b
 |.int i _=>.int i
 |.str x _=>.str x
 |.bytes b _=>.byt b
 |.ref a=>.ref a
 |_=>.non
def Mp(A:List Addr):Value->Prop
 |.none=>True
 |.bool _=>True
 |.int _ _=>True
 |.str _ _=>True
 |.bytes _ _=>True
 |.ref a=>a∈A
 |_=>False
theorem Mp.mono{A B:List Addr}(h:∀a∈A,a∈B):∀{u:Value},Mp A u->Mp B u:=λ{u} x=>by
 cases u with
 |ref a=>exact h a x
 |none=>trivial
 |bool b=>trivial
 |int i t=>trivial
 |str s t=>trivial
 |bytes b t=>trivial
 |_=>exact False.elim x
theorem Pj{A:List Addr}{u:Value}(x:Mp A u):bQ (Di u) u:=by
 cases u with
 |ref a=>rfl
 |none=>rfl
 |bool b=>rfl
 |int i t=>exact⟨t,rfl⟩
 |str s t=>exact⟨t,rfl⟩
 |bytes b t=>exact⟨t,rfl⟩
 |_=>exact False.elim x
theorem jZ{A:List Addr}:∀{vs:List Value},(∀u∈vs,Mp A u)->bA (vs.map Di) vs
 |[],_=>.nil
 |u::r,h=>.cons (Pj (h u (bg ..))) (jZ λx hx=>h x (az _ hx))
def lZ(h:Heap)(A:List Addr)(a:Addr):Prop:=∃vs:List Value,vs.length<=sizeLine/\(∀u∈vs,Mp A u)/\
 (h.get? a=some {cls:=.type "list",data:=.seq vs.toArray}\/h.get? a=some {cls:=.type "tuple",data:=.seq vs.toArray})
theorem lZ.mono{h:Heap}{A B:List Addr}{a:Addr}(k:∀a∈A,a∈B)(x:lZ h A a):lZ h B a:=by
 obtain⟨vs,h1,h2,h3⟩:=x
 exact⟨vs,h1,λu hu=>(h2 u hu).mono k,h3⟩
theorem jJ{P:Params}{h:Heap}:∀{vs:List Value}{ds:List WData},WellAll P h vs ds->vs.length=ds.length
 |_,_,.nil=>rfl
 |_,_,.cons _ b=>by
  show _+1=_+1
  rw[jJ b]
theorem Af{P:Params}{h:Heap}{v:Value}{ds:List WData}(x:Well P h v (.list ds)):∃(a:Addr)(vs:List Value),v=.ref a/\h.get? a=some {cls:=.type "list",data:=.seq vs.toArray}/\WellAll P h vs ds:=by
 cases x with
 |list ho je=>exact⟨_,_,rfl,ho,je⟩
theorem xI{P:Params}{h:Heap}{v:Value}{ds:List WData}(x:Well P h v (.tuple ds)):∃(a:Addr)(vs:List Value),v=.ref a/\h.get? a=some {cls:=.type "tuple",data:=.seq vs.toArray}/\WellAll P h vs ds:=by
 cases x with
 |tuple ho je=>exact⟨_,_,rfl,ho,je⟩
theorem Aa{P:Params}{h:Heap}{us:List Value}{d:WData}{ds:List WData}(x:WellAll P h us (d::ds)):∃(v:Value)(vs:List Value),us=v::vs/\Well P h v d/\WellAll P h vs ds:=by
 cases x with
 |cons a b=>exact⟨_,_,rfl,a,b⟩
theorem Ji{n:Nat}(h:n<=1048576):n<=sizeLine:=d6 h (by decide)
section
variable {P:Params} {h:Heap}
mutual
theorem Px:∀(d:WData)(v:Value),Well P h v d->Ko d=true->d.weight<=1048576->∃A:List Addr,Mp A v/\∀a∈A,lZ h A a
 |.none,_,x,_,_=>by
  cases x
  exact⟨[],trivial,λa m=>absurd m (by simp)⟩
 |.bool b,_,x,_,_=>by
  cases x
  exact⟨[],trivial,λa m=>absurd m (by simp)⟩
 |.int i,_,x,_,_=>by
  cases x
  exact⟨[],trivial,λa m=>absurd m (by simp)⟩
 |.str s,_,x,_,_=>by
  cases x
  exact⟨[],trivial,λa m=>absurd m (by simp)⟩
 |.bytes b,_,x,_,_=>by
  cases x
  exact⟨[],trivial,λa m=>absurd m (by simp)⟩
 |.list ds,_,x,p,z=>by
  obtain⟨a,vs,rfl,ho,je⟩:=Af x
  have z2:WData.weightAll ds<=1048576:=z
  obtain⟨A,h1,h2⟩:=qX ds _ je p λd hd=>d6 (pC hd) z2
  have k:∀b∈A,b∈a::A:=λb hb=>az _ hb
  refine⟨a::A,bg ..,λb hb=>?_⟩
  rcases aw.mp hb with e|m
  ·rw[e]
   exact⟨vs,Ji (by rw[jJ je];exact d6 (PySem.W.length_le_weightAllW ds) z2),λu hu=>(h1 u hu).mono k,.inl ho⟩
  ·exact(h2 b m).mono k
 |.tuple ds,_,x,p,z=>by
  obtain⟨a,vs,rfl,ho,je⟩:=xI x
  have z2:WData.weightAll ds<=1048576:=z
  obtain⟨A,h1,h2⟩:=qX ds _ je p λd hd=>d6 (pC hd) z2
  have k:∀b∈A,b∈a::A:=λb hb=>az _ hb
  refine⟨a::A,bg ..,λb hb=>?_⟩
  rcases aw.mp hb with e|m
  ·rw[e]
   exact⟨vs,Ji (by rw[jJ je];exact d6 (PySem.W.length_le_weightAllW ds) z2),λu hu=>(h1 u hu).mono k,.inr ho⟩
  ·exact(h2 b m).mono k
 |.float _,_,_,p,_=>Bool.noConfusion (show false=true from p)
 |.dict _,_,_,p,_=>Bool.noConfusion (show false=true from p)
 |.bytearray _,_,_,p,_=>Bool.noConfusion (show false=true from p)
 |.set _,_,_,p,_=>Bool.noConfusion (show false=true from p)
 |.frozenset _,_,_,p,_=>Bool.noConfusion (show false=true from p)
 |.obj _ _,_,_,p,_=>Bool.noConfusion (show false=true from p)
theorem qX:∀(ds:List WData)(vs:List Value),WellAll P h vs ds->uC ds=true->(∀d∈ds,d.weight<=1048576)->∃A:List Addr,(∀u∈vs,Mp A u)/\∀a∈A,lZ h A a
 |[],_,x,_,_=>by
  cases x
  exact⟨[],λu m=>absurd m (by simp),λa m=>absurd m (by simp)⟩
 |d::ds,_,x,p,z=>by
  obtain⟨v,vs,rfl,x1,x2⟩:=Aa x
  have q:Ko d=true/\uC ds=true:=MC.mp p
  obtain⟨A,a1,a2⟩:=Px d v x1 q.1 (z d (bg ..))
  obtain⟨B,b1,b2⟩:=qX ds vs x2 q.2 λe he=>z e (az _ he)
  have kA:∀b∈A,b∈A++B:=λb hb=>c9.mpr (.inl hb)
  have kB:∀b∈B,b∈A++B:=λb hb=>c9.mpr (.inr hb)
  refine⟨A++B,λu hu=>?_,λb hb=>?_⟩
  ·rcases aw.mp hu with e|m
   ·rw[e]
    exact a1.mono kA
   ·exact(b1 u m).mono kB
  ·rcases c9.mp hb with m|m
   ·exact(a2 b m).mono kA
   ·exact(b2 b m).mono kB
end
end
def Tw(o:Obj):Option HO:=match o.data with
 |.seq vs _=>if (o.cls==Value.type "list")=true then some (.frz o (.lst (vs.toList.map Di))) else some (.frz o (.tup (vs.toList.map Di)))
 |_=>none
def lH(K:PySem.W.Frag)(h:Heap)(A:List Addr):Hp:=λb=>if b∈A then (if (K.lookup b).isNone=true then (h.get? b).bind Tw else none) else none
def Jy(H:Hp):Prop:=∀b,H b=none\/∃o u,H b=some (.frz o u)
theorem Cr(vs:List Value):Tw {cls:=.type "list",data:=.seq vs.toArray}=some (.frz {cls:=.type "list",data:=.seq vs.toArray} (.lst (vs.map Di))):=by
 show (if (Value.type "list"==Value.type "list")=true then some (HO.frz {cls:=.type "list",data:=.seq vs.toArray} (.lst (vs.toArray.toList.map Di))) else some (HO.frz {cls:=.type "list",data:=.seq vs.toArray} (.tup (vs.toArray.toList.map Di))))=_
 rw[ac (MD _)]
theorem Fe(vs:List Value):Tw {cls:=.type "tuple",data:=.seq vs.toArray}=some (.frz {cls:=.type "tuple",data:=.seq vs.toArray} (.tup (vs.map Di))):=by
 show (if (Value.type "tuple"==Value.type "list")=true then some (HO.frz {cls:=.type "tuple",data:=.seq vs.toArray} (.lst (vs.toArray.toList.map Di))) else some (HO.frz {cls:=.type "tuple",data:=.seq vs.toArray} (.tup (vs.toArray.toList.map Di))))=_
 rw[aa (by decide)]
section
variable {P:Program} {w:World} {K:PySem.W.Frag} {h:Heap} {A:List Addr}
theorem uO{b:Addr}{o:Obj}(hb:b∈A)(hk:K.lookup b=none)(e:h.get? b=some o):lH K h A b=Tw o:=by
 unfold lH
 rw[ac hb,hk,ac (show (none:Option Obj).isNone=true from rfl),e]<;>rfl
theorem Wb{b:Addr}{u:HO}(q:lH K h A b=some u):b∈A/\K.lookup b=none:=by
 unfold lH at q
 by_cases hb:b∈A
 ·rw[ac hb] at q
  cases hk:K.lookup b with
  |none=>exact⟨hb,rfl⟩
  |some o=>
   rw[hk,aa (by simp)] at q
   cases q
 ·rw[aa hb] at q
  cases q
theorem uQ(ar:∀a∈A,lZ h A a){b:Addr}{u:HO}(q:lH K h A b=some u):K.lookup b=none/\∃vs:List Value,vs.length<=sizeLine/\(∀u∈vs,Mp A u)/\
  ((h.get? b=some {cls:=.type "list",data:=.seq vs.toArray}/\u=.frz {cls:=.type "list",data:=.seq vs.toArray} (.lst (vs.map Di)))\/
   (h.get? b=some {cls:=.type "tuple",data:=.seq vs.toArray}/\u=.frz {cls:=.type "tuple",data:=.seq vs.toArray} (.tup (vs.map Di)))):=by
 obtain⟨hb,hk⟩:=Wb q
 obtain⟨vs,h1,h2,h3⟩:=ar b hb
 refine⟨hk,vs,h1,h2,?_⟩
 rcases h3 with e|e
 ·rw[uO hb hk e,Cr] at q
  exact .inl ⟨e,(Option.some.inj q).symm⟩
 ·rw[uO hb hk e,Fe] at q
  exact .inr ⟨e,(Option.some.inj q).symm⟩
theorem Nm(ar:∀a∈A,lZ h A a):Jy (lH K h A):=λb=>by
 cases q:lH K h A b with
 |none=>exact .inl rfl
 |some u=>
  obtain⟨_,vs,_,_,⟨_,e⟩|⟨_,e⟩⟩:=uQ ar q
  ·exact .inr ⟨_,_,by rw[e]⟩
  ·exact .inr ⟨_,_,by rw[e]⟩
theorem Uz(ar:∀a∈A,lZ h A a):kT P w (lH K h A) h:=λb u q=>by
 obtain⟨_,vs,h1,h2,⟨e,rfl⟩|⟨e,rfl⟩⟩:=uQ ar q
 ·exact⟨e,by rw[ah];exact h1,vs,_,jZ h2,e⟩
 ·exact⟨e,by rw[ah];exact h1,vs,jZ h2,_,e,rfl,_,rfl⟩
theorem uD{c c':Value}{vs us:List Value}(e:(some {cls:=c,data:=.seq vs.toArray}:Option Obj)=some {cls:=c',data:=.seq us.toArray}):c=c'/\vs=us:=by
 have e1:=Option.some.inj e
 have e2:c=c':=congrArg Obj.cls e1
 have e3:Data.seq vs.toArray=Data.seq us.toArray:=congrArg Obj.data e1
 injection e3 with e4
 refine⟨e2,?_⟩
 have e5:=congrArg Array.toList e4
 simpa using e5
theorem aDd(KX:K.In h)(ar:∀a∈A,lZ h A a){a:Addr}{vs:List Value}(ha:a∈A)(e:h.get? a=some {cls:=.type "list",data:=.seq vs.toArray}):(∀u∈vs,Mp A u)/\cP K (lH K h A) a (vs.map Di):=by
 obtain⟨us,h1,h2,h3⟩:=ar a ha
 have hu:us=vs:=by
  rcases h3 with q|q
  ·rw[e] at q
   exact(uD q).2.symm
  ·rw[e] at q
   exact absurd (Value.type.inj (uD q).1) (by decide)
 subst hu
 refine⟨h2,?_⟩
 cases hk:K.lookup a with
 |none=>exact .inl (.inr ⟨_,by rw[uO ha hk e,Cr]⟩)
 |some o=>
  have e2:=KX a o hk
  rw[e] at e2
  obtain rfl:=Option.some.inj e2
  exact .inr ⟨_,us.toArray,_,hk,rfl,rfl,rfl,by rw[de];exact h1,by simpa using jZ h2⟩
theorem aDz(KX:K.In h)(ar:∀a∈A,lZ h A a){a:Addr}{vs:List Value}(ha:a∈A)(e:h.get? a=some {cls:=.type "tuple",data:=.seq vs.toArray}):(∀u∈vs,Mp A u)/\cN K (lH K h A) a (vs.map Di):=by
 obtain⟨us,h1,h2,h3⟩:=ar a ha
 have hu:us=vs:=by
  rcases h3 with q|q
  ·rw[e] at q
   exact absurd (Value.type.inj (uD q).1) (by decide)
  ·rw[e] at q
   exact(uD q).2.symm
 subst hu
 refine⟨h2,?_⟩
 cases hk:K.lookup a with
 |none=>exact .inl (.inr ⟨_,by rw[uO ha hk e,Fe]⟩)
 |some o=>
  have e2:=KX a o hk
  rw[e] at e2
  obtain rfl:=Option.some.inj e2
  exact .inr ⟨_,us.toArray,_,hk,rfl,rfl,by rw[de];exact h1,by simpa using jZ h2⟩
mutual
theorem Yg{Pm:Params}(KX:K.In h)(ar:∀a∈A,lZ h A a):∀(d:WData)(v:Value),Well Pm h v d->Ko d=true->Mp A v->Dw K (lH K h A) (Di v) d
 |.none,_,x,_,_=>by
  cases x
  exact .non
 |.bool b,_,x,_,_=>by
  cases x
  exact .bl b
 |.int i,_,x,_,_=>by
  cases x
  exact .int i
 |.str s,_,x,_,_=>by
  cases x
  exact .str s
 |.bytes b,_,x,_,_=>by
  cases x
  have z:=Dw.byt (K:=K) (H:=lH K h A) b.toArray
  exact z
 |.list ds,_,x,p,hu=>by
  obtain⟨a,vs,rfl,ho,je⟩:=Af x
  obtain⟨h2,hs⟩:=aDd KX ar hu ho
  exact .lst hs (Bx KX ar ds _ je p h2)
 |.tuple ds,_,x,p,hu=>by
  obtain⟨a,vs,rfl,ho,je⟩:=xI x
  obtain⟨h2,hs⟩:=aDz KX ar hu ho
  exact .tup hs (Bx KX ar ds _ je p h2)
 |.float _,_,_,p,_=>Bool.noConfusion (show false=true from p)
 |.dict _,_,_,p,_=>Bool.noConfusion (show false=true from p)
 |.bytearray _,_,_,p,_=>Bool.noConfusion (show false=true from p)
 |.set _,_,_,p,_=>Bool.noConfusion (show false=true from p)
 |.frozenset _,_,_,p,_=>Bool.noConfusion (show false=true from p)
 |.obj _ _,_,_,p,_=>Bool.noConfusion (show false=true from p)
theorem Bx{Pm:Params}(KX:K.In h)(ar:∀a∈A,lZ h A a):∀(ds:List WData)(vs:List Value),WellAll Pm h vs ds->uC ds=true->(∀u∈vs,Mp A u)->mO K (lH K h A) (vs.map Di) ds
 |[],_,x,_,_=>by
  cases x
  exact .nil
 |d::ds,_,x,p,hu=>by
  obtain⟨v,vs,rfl,x1,x2⟩:=Aa x
  have q:Ko d=true/\uC ds=true:=MC.mp p
  exact .cons (Yg KX ar d v x1 q.1 (hu _ (bg ..))) (Bx KX ar ds vs x2 q.2 λu m=>hu u (az _ m))
end
end
theorem Mf{P:Program}{w:World}{K:PySem.W.Frag}{mg mb:Str->Option Value}{CX:Gg}{k:Nat}{fa:Addr}{fd:FuncData}{ps:List Str}{sp:Sp}{bp:Shared}{mw:List Value}{ds:List WData}{R:PySem.W.WRecords}{cl:Str->Option Addr}{d0:WData}
  (KX:K.In bp.heap) (wu:bp.heap.Ns mainGlobals mg) (hb:bp.heap.Ns builtinsNs mb) (OQ:∀x:Str,x≠"__name__"->mb x=bootBuiltins x) (OR:bp.heap.NoLimit) (hg:bp.gens=#[])
  (yn:WellAll w.params bp.heap mw ds) (d9:uC ds=true) (OS:∀d∈ds,d.weight<=1048576) (hr:fX k callerA)
  (F:∀base:Heap,K.In base->base.Ns mainGlobals mg->bT P w K mg base CX k fa fd ps sp) (OT:∀(s:Shared)(us:List Value),us.length=ps.length->BindsTo s fd ⟨us,[]⟩ (ps.zip us)) (ax:ds.length=ps.length)
  (j2:∀(H:Hp)(xs:List V),Jy H->mO K H xs ds->sp xs H (λv H'=>Dw K H' v d0) λ_ _ _=>False)
  (D3:∀H e s',CX [] H bp (λ_ _ _=>False) e s'->False):
  codeAny (model P w) callerA (.call (.ref fa) ⟨mw,[]⟩) (λr s'=>∃u as,r=.ok (.ret u)/\ReadsW R cl s'.heap u d0 as/\OldK bp.heap s'.heap/\s'.os=bp.os/\AllBare s'.gens) bp:=by
 obtain⟨A,ho,ar⟩:=qX ds mw yn d9 OS
 have hO:Jy (lH K bp.heap A):=Nm ar
 have hok:kT P w (lH K bp.heap A) bp.heap:=Uz ar
 have hS:=Bx KX ar ds mw yn d9 ho
 have hV:=jZ ho
 have hK:∀b u,lH K bp.heap A b=some u->K.lookup b=none:=λb u q=>(uQ ar q).1
 have wj:∀{b:Addr}{o:Obj}{es:Array DictEntry}{ep:Nat},bp.heap.get? b=some o->o.data=.dict es ep->lH K bp.heap A b=none:=λ{b o es ep} e d=>by
  cases q:lH K bp.heap A b with
  |none=>rfl
  |some u=>
   obtain⟨_,vs,_,_,⟨e2,_⟩|⟨e2,_⟩⟩:=uQ ar q
   ·rw[e2] at e
    cases e
    have d':Data.seq vs.toArray _=Data.dict es ep:=d
    cases d'
   ·rw[e2] at e
    cases e
    have d':Data.seq vs.toArray _=Data.dict es ep:=d
    cases d'
 generalize lH K bp.heap A=H at hO hok hS hK wj
 have base_of:∀{b:Addr}{o:Obj},bp.heap.get? b=some o->H b=none->(Bj bp.heap H).get? b=some o:=λe n=>Pw e n
 have nsK:∀{b:Addr}{m:Str->Option Value},bp.heap.Ns b m->(Bj bp.heap H).Ns b m:=λ{b m} ⟨o,es,ep,e,d,r⟩=>⟨o,es,ep,base_of e (wj e d),d,r⟩
 have nK:∀b o,K.lookup b=some o->H b=none:=λb o e=>by
  cases q:H b with
  |none=>rfl
  |some u=>
   rw[hK b u q] at e
   cases e
 have IT:K.In (Bj bp.heap H):=λb o e=>base_of (KX b o e) (nK b o e)
 have hM:Mod K mg (Bj bp.heap H):=⟨IT,nsK wu,⟨mb,nsK hb,OQ⟩,let ⟨mc,h1,h2⟩:=OR;⟨mc,nsK h1,h2⟩⟩
 have e0:Fv P w K mg (Bj bp.heap H) callerA [] bp H:=⟨rfl,hM,λb o e=>Tr e,vk (Ol _ _),trivial,λb hb=>absurd (show b∈([]:List Addr) from hb) (by simp),hok,.of_eq hg⟩
 have hl:mw.length=ps.length:=by rw[jJ yn];exact ax
 refine xo ((F _ IT (nsK wu)).run callerA [] bp H ⟨mw,[]⟩ mw (mw.map Di) _ _ hr e0 (OT bp mw hl) hV (j2 H _ hO hS)) λr s' x=>?_
 cases r with
 |error e=>exact(D3 H e s' x).elim
 |ok fl=>
  cases fl with
  |next=>exact False.elim x
  |brk=>exact False.elim x
  |cont=>exact False.elim x
  |ret u=>
   obtain⟨v,H',os,bare,un,IU,r',q⟩:=x
   have kept:∀b o,bp.heap.get? b=some o->s'.heap.get? b=some o:=λb o e=>by
    cases q2:H b with
    |none=>exact un.keep b o e q2 (by intro z;exact absurd (show b∈([]:List Addr) from z) (by simp)) (by simp)
    |some u2=>
     rcases hO b with z|⟨ob,u3,z⟩
     ·rw[q2] at z
      cases z
     ·have z2:=un.frzs b ob _ z
      obtain⟨e1,_⟩:=hok b _ z
      obtain⟨e2,_⟩:=IU b _ z2
      rw[e] at e1
      cases e1
      exact e2
   have OU:K.In s'.heap:=λb o e=>kept b o (KX b o e)
   obtain⟨as,IV⟩:=Dw.reads (R:=R) (cl:=cl) IU OU d0 v u q r'
   exact⟨u,as,rfl,IV,OldK.of_keep kept,os,bare⟩
theorem vZ{ds:List WData}(h:WData.layableAll ds=true):∀d∈ds,d.weight<=1048576:=λd hd=>
 (PySem.W.layableW_iff.mp (mh.mp h d hd)).2.2
theorem xE:∀(cs:List Codec)(a:Codec.denoteAll cs),(Codec.encAll cs a).length=cs.length
 |[],_=>rfl
 |c::cs,a=>by
  show (Codec.encAll cs a.2).length+1=cs.length+1
  rw[xE cs a.2]
end L2
end
namespace L2
open PySem PySem.Spec PyProof.Rows
structure Fq(fr:List Addr)(e T0 T:Addr)(h h':Heap):Prop where
 keep:∀b o,b∉fr->b≠e->b≠T0->h.get? b=some o->h'.get? b=some o
 slot:∀b o,b∈fr->h.get? b=some o->∃sl,h'.get? b=some {o with slots:=sl}
 big:h.objs.size<=T
 self:∀oe vs,h.get? e=some oe->oe.data=.fields vs->1<vs.size->∃ph ra,h'.get? e=some ph/\ph.cls=oe.cls/\ph.dict=oe.dict/\ph.data=.fields ra/\ra.size=vs.size/\ra[1]?=some (.ref T)
 head:∃oT ts,h'.get? T=some oT/\oT.data=.fields ts/\ts[3]?=some .none
 old:∀o,h.get? T0=some o->∃o',h'.get? T0=some o'
theorem lV(o:Obj)(f:Array Value->Array Value):(o.mapFields f).cls=o.cls/\(o.mapFields f).dict=o.dict:=by
 obtain⟨c,d,dt,sl⟩:=o
 cases dt<;>exact⟨rfl,rfl⟩
section
variable {M:Model} {A:Around} {E:Value->Shared->Prop} {s:Shared}
theorem wF{base:Heap}{env:Env}{outer:List Env}{L e:Addr}{oe:Obj}{vs:Array Value}{head:Value}{OV:Bool}{Q:Unit->Shared->Prop}
  (fh:A.frames=some (env::outer)) (hl:s.heap.FunFrames base (env::outer)) (hf:env.frame=some L)
  (he:s.heap.get? e=some oe) (hd:oe.data=.fields vs) (hsz:1<vs.size)
  (h:∀h' T,Fq ((env::outer).filterMap (·.frame)) e e T s.heap h'->Q () {s with heap:=h'}):
  wpAny M A (do let a <-frameOf env;let pl <-entryPlaceOf L OV;let b <-EntryCells.newEntry head a .none (rawInt L) .none pl;setField (.ref e) 1 b) (λ_ s'=>wpAny M A (setFlight (.ref e) none) Q E s') E s:=by
 have D4:e∉(env::outer).filterMap (·.frame):=λhm=>by
  obtain⟨_,o,ho,uo⟩:=hl.mem hm
  rw[he] at ho;injection ho with ho;subst ho;exact uo vs hd
 refine wpAny_bind (wpAny_frameOf_fun fh hl hf λfc A7=>?_)
 refine wpAny_bind (wpAny_entryPlaceOf λpl d9=>?_)
 unfold EntryCells.newEntry newFields
 refine wpAny_bind (gn ?_ (d9.sizeOk5 _ _ _ _ _))
 have IW:fc.get? e=some oe:=(A7.2.1 e D4).trans he
 have IX:=br (h:=fc) {cls:=.type "traceback",dict:=none,data:=.fields ([head,.ref L,.none,rawInt L,.none]++(if pl.isEmpty then List.replicate 6 Value.none else pl)).toArray} IW
 refine o1 IX hd hsz ?_
 have j4:fc.objs.size≠e:=tj (a9 IW)
 have D5:=o3 hd (·.setIfInBounds 1 (Value.ref fc.objs.size))
 have IY:=ou (Obj.mapFields (·.setIfInBounds 1 (Value.ref fc.objs.size))) IX (xy D5)
 have IZ:=(lg (fc.push {cls:=.type "traceback",dict:=none,data:=.fields ([head,.ref L,.none,rawInt L,.none]++(if pl.isEmpty then List.replicate 6 Value.none else pl)).toArray})
  (Obj.mapFields (·.setIfInBounds 1 (Value.ref fc.objs.size))) (ao j4)).trans (cf fc rfl)
 unfold setFlight
 refine wpAny_bind (iz IY D5 (x:=.ref fc.objs.size) (by simp[hsz]) ?_)
 rw[ac (show (Value.ref fc.objs.size !=Value.none)=true from by simp)]
 refine o1 IZ rfl (by simp only[de,b6,bn,xt]<;>(clear j4 D4 hsz;omega)) (h _ fc.objs.size ?_)
 have keep:∀b o,b≠e->fc.get? b=some o->
   (((fc.push {cls:=.type "traceback",dict:=none,data:=.fields ([head,.ref L,.none,rawInt L,.none]++(if pl.isEmpty then List.replicate 6 Value.none else pl)).toArray}).update e (Obj.mapFields (·.setIfInBounds 1 (Value.ref fc.objs.size)))).update fc.objs.size
    (Obj.mapFields (·.setIfInBounds 3 ((none:Option Addr).elim Value.none λf=>rawInt f)))).get? b=some o:=λb o jn hb=>by
  have D6:fc.objs.size≠b:=tj (a9 hb)
  rw[lg _ _ D6,lg _ _ (ao jn)]
  exact br _ hb
 have JA:=(lg ((fc.push {cls:=.type "traceback",dict:=none,data:=.fields ([head,.ref L,.none,rawInt L,.none]++(if pl.isEmpty then List.replicate 6 Value.none else pl)).toArray}).update e (Obj.mapFields (·.setIfInBounds 1 (Value.ref fc.objs.size))))
  (Obj.mapFields (·.setIfInBounds 3 ((none:Option Addr).elim Value.none λf=>rawInt f))) j4).trans IY
 refine⟨λb o hb jn _ lv=>keep b o jn ((A7.2.1 b hb).trans lv),λb o hb lv=>?_,vk A7.1.symm,λph ra h1 h2 _=>?_,?_,λo ho=>⟨_,JA⟩⟩
 ·obtain⟨sl,hs⟩:=A7.2.2 b o lv
  exact⟨sl,keep b _ (λq=>D4 (q▸hb)) hs⟩
 ·rw[he] at h1;cases h1
  rw[hd] at h2;cases h2
  exact⟨_,_,JA,(lV _ _).1,(lV _ _).2,D5,by simp,by simp[hsz]⟩
 ·exact⟨_,_,ou _ IZ (xy (o3 rfl _)),o3 rfl _,by first|(simp;done)|(rcases d9 with rfl|⟨_,_,_,_,_,_,_,rfl⟩<;>simp)⟩
theorem Hu{base:Heap}{env:Env}{outer:List Env}{L e:Addr}{oe:Obj}{vs:Array Value}{Q:Unit->Shared->Prop}
  (fh:A.frames=some (env::outer)) (hl:s.heap.FunFrames base (env::outer)) (hf:env.frame=some L)
  (he:s.heap.get? e=some oe) (hd:oe.data=.fields vs) (h1:vs[1]?=some .none)
  (h:∀h' T,Fq ((env::outer).filterMap (·.frame)) e e T s.heap h'->Q () {s with heap:=h'}):
  wpAny M A (noteFrame (.ref e) env) (λ_ s'=>wpAny M A (setFlight (.ref e) none) Q E s') E s:=by
 unfold noteFrame
 simp only[hf]
 refine wpAny_bind (iz he hd h1 ?_)
 rw[aa (by decide)]
 exact wF fh hl hf he hd (qr.mp h1).1 h
theorem zF{base:Heap}{env:Env}{outer:List Env}{L e T oeT:Addr}{oe oT:Obj}{vs ts:Array Value}{Q:Unit->Shared->Prop}
  (fh:A.frames=some (env::outer)) (hl:s.heap.FunFrames base (env::outer)) (hf:env.frame=some L)
  (he:s.heap.get? e=some oe) (hd:oe.data=.fields vs) (h1:vs[1]?=some (.ref T)) (j4:T≠e) (hT:s.heap.get? T=some oT) (A8:oT.data=.fields ts) (h3:ts[3]?=some .none)
  (h:∀h' T',Fq ((env::outer).filterMap (·.frame)) e T T' s.heap h'->Q () {s with heap:=h'}):
  wpAny M A (noteFrame (.ref e) env) (λ_ s'=>wpAny M A (setFlight (.ref e) none) Q E s') E s:=by
 unfold noteFrame
 simp only[hf]
 refine wpAny_bind (iz he hd h1 ?_)
 rw[ac (show (Value.ref T !=Value.none)=true from by simp)]
 refine wpAny_bind (iz hT A8 h3 ?_)
 rw[aa (show ¬((Value.none==rawInt L)=true) from by simp[rawInt])]
 refine wpAny_bind (o1 hT A8 (qr.mp h3).1 ?_)
 have other:∀b,b≠T->(s.heap.update T (Obj.mapFields (·.setIfInBounds 3 Value.none))).get? b=s.heap.get? b:=λb hb=>lg _ _ (ao hb)
 have noRecord:∀b o,s.heap.get? b=some o->(∀vs,o.data≠.fields vs)->b≠T:=λb o hb uo q=>by
  rw[q,hT] at hb;injection hb with hb;subst hb;exact uo ts A8
 have JB:∀b∈(env::outer).filterMap (·.frame),b≠T:=λb hb=>by
  obtain⟨_,o,ho,uo⟩:=hl.mem hb
  exact noRecord b o ho uo
 have OW:=ou (Obj.mapFields (·.setIfInBounds 3 Value.none)) hT (xy (o3 A8 _))
 refine wF (base:=base) fh (hl.of_keeps λb o hb uo=>⟨o,(other b (noRecord b o hb uo)).trans hb,rfl⟩) hf ((other e (ao j4)).trans he) hd (qr.mp h1).1 λh' T' N=>h h' T' ?_
 refine⟨λb o hb jn D6 lv=>N.keep b o hb jn jn ((other b D6).trans lv),λb o hb lv=>N.slot b o hb ((other b (JB b hb)).trans lv),?_,λph ra q1 q2 q3=>N.self ph ra ((other e (ao j4)).trans q1) q2 q3,N.head,λo _=>?_⟩
 ·have:=N.big
  rwa [Heap.size_after_update] at this
 ·by_cases hb:T∈(env::outer).filterMap (·.frame)
  ·exact absurd rfl (JB T hb)
  ·exact⟨_,N.keep T _ hb j4 j4 OW⟩
end
section
variable {X:Cx} {pins:List (Addr×Obj)} {σ:List (Option V)} {H H':Hp} {s:Shared} {h':Heap}
theorem aP.step2{g':Array GenState}{t':Nat}{d':Drawn}{ch:List Addr}(I:aP X pins σ H s)
  (gr:∀b∈ch,(b∈X.ex\/X.s_0.heap.get? b=none)/\b≠X.env.locals/\(∀x c,X.env.cells.lookup x=some c->c≠b)/\∀p∈X.pn++pins,p.1≠b)
  (keep:∀b o,b≠X.env.locals->b∉X.fs->b∉ch->s.heap.get? b=some o->H b=none->h'.get? b=some o)
  (slot:∀b o,b≠X.env.locals->b∈X.fs->b∉ch->s.heap.get? b=some o->H b=none->∃sl,h'.get? b=some {o with slots:=sl}) (free:∀b o,b∉ch->s.heap.get? b=some o->H b=none->H' b=none)
  (there:∀b o,b∉ch->s.heap.get? b=some o->∃o',h'.get? b=some o')
  (tups:∀b xs,H b=some (.tup xs)->H' b=some (.tup xs)) (frzs:∀b o u,H b=some (.frz o u)->H' b=some (.frz o u)) (tbls:∀b ps,H b=some (.tbl ps)->∃more,H' b=some (.tbl (ps++more)))
  (ns:∀m,s.heap.Ns X.env.locals m->h'.Ns X.env.locals m) (hok:kT X.prog X.w H' h') (hg:AllBare g'):
  aP X pins σ H' {s with heap:=h',gens:=g',drawn:=d',toks:=t'}:=by
 have yg:∀b o,X.s_0.heap.get? b=some o->b≠X.env.locals:=λb o e=>df (gm (a9 e) I.ok.above)
 have o6:∀b o,X.s_0.heap.get? b=some o->b∉X.ex->b∉ch:=λb o e hx hb=>by
  rcases(gr b hb).1 with z|z
  ·exact hx z
  ·rw[e] at z;cases z
 have cellK:∀x c,X.env.cells.lookup x=some c->∀v,s.heap.IsCell c v->h'.IsCell c v:=λx c e v ⟨o,ho,hd⟩=>by
  have lm:c∉ch:=λz=>(gr c z).2.2.1 x c e rfl
  by_cases hc:c∈X.fs
  ·obtain⟨sl,q⟩:=slot c o (I.cne x c e) hc lm ho (I.freeC x c e)
   exact⟨_,q,hd⟩
  ·exact⟨o,keep c o (I.cne x c e) hc lm ho (I.freeC x c e),hd⟩
 refine⟨I.ok,I.os,hg,⟨λb o e n hb hx=>?_,λb o e n hb hx=>?_,λb o e n hx=>?_,λb o e hx=>?_,λb xs e=>tups b xs (I.base.tups b xs e),λb o xs e=>frzs b o xs (I.base.frzs b o xs e),λb ps e=>?_⟩,?_,λx c e=>?_,?_,λx c e=>?_,λp hp=>?_,hok,I.len⟩
 ·exact keep b o (yg b o e) hb (o6 b o e hx) (I.base.keep b o e n hb hx) (I.base.free b o e n hx)
 ·obtain⟨sl,e1⟩:=I.base.slot b o e n hb hx
  obtain⟨DQ,e2⟩:=slot b _ (yg b o e) hb (o6 b o e hx) e1 (I.base.free b o e n hx)
  exact⟨DQ,e2⟩
 ·obtain⟨o',e1⟩:=I.base.there b o e hx
  exact free b o' (o6 b o e hx) e1 (I.base.free b o e n hx)
 ·obtain⟨o',e1⟩:=I.base.there b o e hx
  exact there b o' (o6 b o e hx) e1
 ·obtain⟨m1,e1⟩:=I.base.tbls b ps e
  obtain⟨m2,e2⟩:=tbls b _ e1
  exact⟨m1++m2,by rw[e2,LJ]⟩
 ·obtain⟨m,hn,hl⟩:=I.loc
  refine⟨m,ns m hn,λi x v e1 e2 e3=>?_⟩
  obtain⟨u,r,l⟩:=hl i x v e1 e2 e3
  refine⟨u,r,?_⟩
  rcases l with l|⟨k,c,e,z⟩
  ·exact .inl l
  ·exact .inr ⟨k,c,e,cellK x c e _ z⟩
 ·obtain⟨v,z⟩:=I.cell x c e
  exact⟨v,cellK x c e v z⟩
 ·obtain⟨m,⟨o,_,_,ho,_⟩,_⟩:=I.loc
  exact free _ o (λz=>(gr _ z).2.1 rfl) ho I.free
 ·obtain⟨v,o,ho,hd⟩:=I.cell x c e
  exact free c o (λz=>(gr c z).2.2.1 x c e rfl) ho (I.freeC x c e)
 ·obtain⟨e,n,ne,nf,d⟩:=I.pin p hp
  have lm:p.1∉ch:=λz=>(gr p.1 z).2.2.2 p hp rfl
  exact⟨keep p.1 p.2 ne nf lm e n,free p.1 p.2 lm e n,ne,nf,d⟩
end
structure Xn(C:Addr)(H:Hp)(h h0:Heap)(e:Addr)(n:Int)(tb:Value):Prop where
 at_:∃oe vs d mA,h.get? e=some oe/\oe.cls=.ref C/\oe.dict=some d/\oe.data=.fields vs/\vs[1]?=some tb/\h.Ns1 d mA/\(∀f,jP (([("fault",V.int n)]:List (Str×V)).lookup f) (mA f))/\H d=none/\h0.get? d=none/\d≠e
 he:H e=none
 lo:h0.get? e=none
def tR(C:Addr)(H:Hp)(h h0:Heap)(e:Addr)(n:Int):Prop:=
 ∃T,Xn C H h h0 e n (.ref T)/\T≠e/\h0.get? T=none/\H T=none/\∃oT ts,h.get? T=some oT/\oT.data=.fields ts/\ts[3]?=some .none
def Sub(h0 h1:Heap):Prop:=∀b o,h0.get? b=some o->∃o',h1.get? b=some o'
theorem Sub.no{h0 h1:Heap}(x:Sub h0 h1){b:Addr}(e:h1.get? b=none):h0.get? b=none:=by
 cases q:h0.get? b with
 |none=>rfl
 |some o=>
  obtain⟨o',z⟩:=x b o q
  rw[e] at z;cases z
theorem Xn.mono{C:Addr}{H:Hp}{h h0 h1:Heap}{e:Addr}{n:Int}{tb:Value}(x:Xn C H h h1 e n tb)(hl:Sub h0 h1):Xn C H h h0 e n tb:=by
 obtain⟨oe,vs,d,mA,g1,g2,g3,g4,g5,g6,g7,g8,g9,OX⟩:=x.at_
 exact⟨⟨oe,vs,d,mA,g1,g2,g3,g4,g5,g6,g7,g8,hl.no g9,OX⟩,x.he,hl.no x.lo⟩
theorem tR.mono{C:Addr}{H:Hp}{h h0 h1:Heap}{e:Addr}{n:Int}(x:tR C H h h1 e n)(hl:Sub h0 h1):tR C H h h0 e n:=by
 obtain⟨T,x,g1,g2,g3⟩:=x
 exact⟨T,x.mono hl,g1,hl.no g2,g3⟩
def iX(C:Addr)(P:Program)(w:World):Gg:=λouter H s E e s'=>
 ∃(ea:Addr)(n:Int)(H':Hp),e=.ref ea/\s'.os=s.os/\AllBare s'.gens/\Un (zG outer) [] H H' s.heap s'.heap/\kT P w H' s'.heap/\tR C H' s'.heap s.heap ea n/\E (.int n 0) none H'
section
variable {X:Cx} {pins:List (Addr×Obj)} {σ:St} {H:Hp} {s:Shared} {h' h0:Heap} {e T0 T:Addr}
structure Eo(X:Cx)(pins:List (Addr×Obj))(h0:Heap):Prop where
 s0:∀b o,X.s_0.heap.get? b=some o->b∉X.ex->∃o',h0.get? b=some o'
 loc:∃o,h0.get? X.env.locals=some o
 cell:∀x c,X.env.cells.lookup x=some c->∃o,h0.get? c=some o
 pin:∀p∈X.pn++pins,∃o,h0.get? p.1=some o
 fr:∀b∈zG X.stack,∃o,h0.get? b=some o
theorem eK{h0:Heap}{a b:Addr}(x:∃o,h0.get? a=some o)(e:h0.get? b=none):a≠b:=by
 rintro rfl
 obtain⟨o,q⟩:=x
 rw[e] at q;cases q
theorem aP.below(I:aP X pins σ H s):Eo X pins s.heap where
 s0:=I.base.there
 loc:=let ⟨_,⟨o,_,_,ho,_⟩,_⟩:=I.loc;⟨o,ho⟩
 cell:=λx c e=>let ⟨_,o,z,_⟩:=I.cell x c e;⟨o,z⟩
 pin:=λp hp=>⟨_,(I.pin p hp).1⟩
 fr:=λb hb=>let ⟨_,o,ho,_⟩:=I.stack.mem hb;⟨o,ho⟩
theorem aP.noted(I:aP X pins σ H s)(N:Fq (zG X.stack) e T0 T s.heap h')(B:Eo X pins h0)(he:h0.get? e=none)(ht:h0.get? T0=none)(ne:H e=none)(nt:H T0=none):aP X pins σ H {s with heap:=h'}:=by
 have gr:∀b∈[e,T0],h0.get? b=none:=λb hb=>by
  rcases aw.mp hb with rfl|hb
  ·exact he
  ·rw[b5.mp hb];exact ht
 have keep:∀b o,b∉zG X.stack->b∉[e,T0]->s.heap.get? b=some o->h'.get? b=some o:=λb o h1 h2 h3=>N.keep b o h1 (λz=>h2 (by simp[z])) (λz=>h2 (by simp[z])) h3
 have any:∀b o,b∉[e,T0]->s.heap.get? b=some o->∃sl,h'.get? b=some {o with slots:=sl}:=λb o h2 h3=>by
  by_cases hb:b∈zG X.stack
  ·exact N.slot b o hb h3
  ·exact⟨o.slots,keep b o hb h2 h3⟩
 refine I.step2 (g':=s.gens) (d':=s.drawn) (t':=s.toks) (ch:=[e,T0]) (λb hb=>?_) (λb o h1 h2 h3 h4 _=>?_) (λb o _ _ h3 h4 _=>any b o h3 h4) (λ_ _ _ _ n=>n) (λb o h3 h4=>?_) (λ_ _ q=>q) (λ_ _ _ q=>q) (λb ps q=>⟨#[],by rw[q];simp⟩) (λm hm=>?_) (λb u q=>?_) I.bare
 ·have hb:=gr b hb
  refine⟨?_,ao (eK B.loc hb),λx c q=>eK (B.cell x c q) hb,λp hp=>eK (B.pin p hp) hb⟩
  by_cases hx:b∈X.ex
  ·exact .inl hx
  ·refine .inr ?_
   cases q:X.s_0.heap.get? b with
   |none=>rfl
   |some o=>exact absurd rfl (eK (B.s0 b o q hx) hb)
 ·refine keep b o (λz=>?_) h3 h4
  rcases aw.mp (I.stkSub b z) with z|z
  ·exact h1 z
  ·exact h2 z
 ·obtain⟨sl,q⟩:=any b o h3 h4
  exact⟨_,q⟩
 ·obtain⟨o,es,ep,ho,hd,r⟩:=hm
  obtain⟨sl,q⟩:=any X.env.locals o (λz=>absurd rfl (eK B.loc (gr _ z))) ho
  exact⟨_,es,ep,q,hd,r⟩
 ·have tr:∀c v,H c=some v->c∉zG X.stack/\c∉[e,T0]:=λc v q=>by
   refine⟨λz=>?_,λz=>?_⟩
   ·rw[I.stkFree c z] at q;cases q
   ·rcases aw.mp z with rfl|z
    ·rw[ne] at q;cases q
    ·rw[b5.mp z,nt] at q;cases q
  refine(I.hok b u q).stay (λc v hc r=>?_) (λ_ z=>z) λ_ _ z=>z
  rcases hc with rfl|hc
  ·exact keep c v (tr c u q).1 (tr c u q).2 r
  ·exact keep c v (tr c _ hc).1 (tr c _ hc).2 r
theorem Xn.noted{C:Addr}{n:Int}{tb:Value}(I:aP X pins σ H s)(N:Fq (zG X.stack) e T0 T s.heap h')(B:Eo X pins h0)(hs:Sub h0 s.heap)(x:Xn C H s.heap h0 e n tb)(hk:∀o es ep,s.heap.get? T0=some o->o.data≠.dict es ep):tR C H h' h0 e n:=by
 obtain⟨oe,vs,d,mA,h1,h2,h3,h4,h5,h6,h7,h8,h9,du⟩:=x.at_
 obtain⟨ph,ra,g1,g2,g3,g4,g5,g6⟩:=N.self oe vs h1 h4 (qr.mp h5).1
 have yk:e<s.heap.objs.size:=a9 h1
 refine⟨T,⟨⟨ph,ra,d,mA,g1,g2.trans h2,g3.trans h3,g4,g6,h6.at λo q=>N.keep d o (λz=>absurd rfl (eK (B.fr d z) h9)) du (λz=>?_) q,h7,h8,h9,du⟩,x.he,x.lo⟩,λz=>?_,hs.no (Heap.get?_none_of_le N.big),I.hok.fresh N.big,N.head⟩
 ·obtain⟨o',es,ep,q1,q2,_⟩:=h6
  rw[z] at q1
  exact hk o' es ep q1 q2
 ·exact absurd (gm yk N.big) (by rw[z];exact i8 _)
end
structure Pn(C:Addr)(X:Cx)(E:XK):Prop where
 pass:iO (iX C X.prog X.w) X E
 new:∀(pins:List (Addr×Obj)) (σ:St) (H:Hp) (s:Shared) (ea:Addr) (n:Int) (h0:Heap),aP X pins σ H s->Eo X pins h0->Sub h0 s.heap->Xn C H s.heap h0 ea n .none->E (.int n 0) none H->X.xe (.ref ea) s
 own:PassesOwn (model X.prog X.w) X.A X.env X.xe
theorem aN{C:Addr}{P:Program}{w:World}{K:PySem.W.Frag}{mg:Str->Option Value}{base:Heap}{N:List Str}{qual:Str}{scope:Scope}{f:Addr}{cd:Value}{A:Around}{outer:List Env}{s:Shared}{H:Hp}{E:XK}:
  Pn C (Ar (iX C P w) P w K mg base N qual scope f cd A outer s H E) E where
 pass:=by
  intro pins σ H1 s1 e s' I ⟨ea,n,H',he,dz,hb,un,hok,fl,hE⟩
  subst he
  have I':=I.call' (ch:=[]) dz un hok hb (λ_ z=>nomatch z)
  have B:=I.below
  obtain⟨T,x,j4,A9,A',oT,ts,t1,t2,t3⟩:=fl
  obtain⟨oe,vs,d,mA,h1,h2,h3,h4,h5,h6,h7,h8,h9,du⟩:=id x.at_
  show wpAny _ _ (leaving _ _) _ _ _
  unfold leaving
  refine wpAny_bind (zF (oeT:=0) I'.ok.frames I'.stack rfl h1 h4 h5 j4 t1 t2 t3 λh' T' Nt=>?_)
  have I2:=I'.noted Nt B x.lo A9 x.he A'
  have yo:=Xn.noted (C:=C) I' Nt B (λb o q=>un.there b o q (by simp)) x (λo es ep q z=>by rw[t1] at q;cases q;rw[t2] at z;cases z)
  exact⟨ea,n,H',rfl,I2.os,I2.bare,I2.base,I2.hok,(yo.mono λb o q=>B.s0 b o q (λz=>nomatch (show b∈([]:List Addr) from z))),hE⟩
 new:=by
  intro pins σ H1 s1 ea n h0 I B hs x hE
  obtain⟨oe,vs,d,mA,h1,h2,h3,h4,h5,h6,h7,h8,h9,du⟩:=id x.at_
  show wpAny _ _ (leaving _ _) _ _ _
  unfold leaving
  refine wpAny_bind (Hu I.ok.frames I.stack rfl h1 h4 h5 λh' T' Nt=>?_)
  have I2:=I.noted Nt B x.lo x.lo x.he x.he
  have yo:=Xn.noted (C:=C) I Nt B hs x (λo es ep q z=>by rw[h1] at q;cases q;rw[h4] at z;cases z)
  exact⟨ea,n,H1,rfl,I2.os,I2.bare,I2.base,I2.hok,(yo.mono λb o q=>B.s0 b o q (λz=>nomatch (show b∈([]:List Addr) from z))),hE⟩
 own:=PassesOwn.leaving
section
open Builtin Builtin.ObjectAttr
variable {prog:Program} {w:World} {A:Around} {E:Value->Shared->Prop} {h:Heap} {g:Array GenState} {d:Drawn} {t:Nat} {os:OsState}
variable {nm q:Str} {C N x:Addr} {bs bm:List Value} {sn:List Str} {sub:List Value} {ab:Bool} {col:Option Bool} {dd:Option Addr} {k0 k1 k2 k3 k5:Option Value} {B newId sa owner:String}
 {mN:Str->Option Value} {name:Str} {v:Value} {o:Obj}
structure yU(h h':Heap)(x:Addr)(o:Obj)(name:Str)(v:Value):Prop where
 obj:h'.get? x=some {o with dict:=some h.objs.size}
 ns:h'.Ns1 h.objs.size (λy=>if y=name then some v else none)
 keep:∀b ob,b≠x->h.get? b=some ob->h'.get? b=some ob
theorem Fl{tk:Tok}{Q:Fin->Shared->Prop}(SF:StoreFacts B bm sa owner)
  (hC:h.get? C=some (excClassObj nm q C N bs bm true sn sub ab col dd k0 k1 k2 k3 k5 newId)) (hn:h.Ns N mN) (lx:mN name=none)
  (hB:typeLookup (.type B) name=pure none) (hx:h.get? x=some o) (hc:o.cls=.ref C) (pi:∀c,o.data≠.cls c) (kr:o.dict=none)
  (hq:∀h' re,yU h h' x o name v->Q (.done (.ret .none)) ⟨h',g,d,re,os⟩):
  wpAny (model prog w) A (Builtin.«object.__setattr__» ⟨[.ref x,.str name tk,v],[]⟩) Q E ⟨h,g,d,t,os⟩:=by
 have OY:=SF.passes (.ref x)
 unfold Builtin.«object.__setattr__»
 repeat (first|rw[refuse_eq]|(rw[refuseLoop_ref,OY])|(with_reducible refine t8 hx ?_;rw[hc])|with_reducible refine wpAny_mroOf_exc hC ?_|(with_reducible refine AE hC hn SF.mro hB ?_;rw[lx])|wp_step)
 rw[kr,aa (by simp[typeHasDict])]
 split
 ·rename_i gt
  cases gt
 split
 ·rename_i c gt
  exact absurd gt (pi c)
 ·have D7:(h.push {cls:=.type "dict",data:=.dict #[]}).get? x=some o:=br _ hx
  have JC:x≠h.objs.size:=df (a9 hx)
  refine wpAny_bind (wpAny_alloc' (wpAny_bind (wpAny_update' D7 (af ?_))))
  have c7:((h.push {cls:=.type "dict",data:=.dict #[]}).update x λo=>{cls:=o.cls,dict:=some h.objs.size,data:=o.data,slots:=o.slots}).get? h.objs.size
    =some {cls:=.type "dict",data:=.dict #[]}:=(Heap.get?_update_ne _ _ _ _ JC.symm).trans (Heap.get?_push_at rfl rfl)
  have wv:((h.push {cls:=.type "dict",data:=.dict #[]}).update x λo=>{cls:=o.cls,dict:=some h.objs.size,data:=o.data,slots:=o.slots}).Ns h.objs.size (λ_=>none):=
   ⟨_,#[],_,c7,rfl,λe he=>absurd he (by simp),λ_=>rfl⟩
  show wpAny _ _ (storeInDict h.objs.size (.str name tk) name v) _ _ _
  unfold storeInDict newKeyGuard
  refine wpAny_bind (af (wpAny_bind (wpAny_nsSet1 (Heap.Ns1.of_empty wv) λh' we hs=>?_)))
  obtain⟨oD,NX,NY,DT,AX,AY⟩:=we.count (Within.cons name v Within.nil)
  refine wpAny_bind (wpAny_lookBehind DT (by rw[AX];exact pastItsLine_dict (d6 AY (by rw[bn,xt,tq];(clear AY;omega)))) ?_)
  wp_walk
  refine hq h' _ ⟨?_,we,λb ob OZ hb=>(hs.2 b (df (a9 hb))).trans ((Heap.get?_update_ne _ _ _ _ OZ).trans (br _ hb))⟩
  refine(hs.2 x JC).trans (ou _ D7 ?_)
  have fh:=(Heap.get?_some_iff.mp hx).2
  obtain⟨oc,od,odt,cq⟩:=o
  cases odt<;>first|rfl|exact fh
theorem Gw{Q:Unit->Shared->Prop}(SF:StoreFacts B bm sa owner)
  (hC:h.get? C=some (excClassObj nm q C N bs bm true sn sub ab col dd k0 k1 k2 k3 k5 newId)) (hn:h.Ns N mN) (wu:mN "__setattr__"=none) (lx:mN name=none)
  (hB:typeLookup (.type B) name=pure none) (hx:h.get? x=some o) (hc:o.cls=.ref C) (pi:∀c,o.data≠.cls c) (kr:o.dict=none)
  (hq:∀h' re,yU h h' x o name v->Q () ⟨h',g,d,re,os⟩):
  wpAny (model prog w) A (setAttr (.ref x) name v) Q E ⟨h,g,d,t,os⟩:=by
 have f3:=SF.slot.bind (.ref x)
 unfold setAttr callSpecial? specialOf
 repeat (any_goals (first|assumption|(with_reducible refine t8 hx ?_;rw[hc])|(with_reducible refine AE hC hn SF.mro SF.slot.lookup ?_;rw[wu])|wp_step))
 refine HE SF.slot.plain SF.entry (wpAny_check_sa SF hC hx hc (Fl SF hC hn lx hB hx hc pi kr λh' re I'=>?_))
 repeat (any_goals (first|assumption|wp_step))
 exact hq h' re I'
end
section
open Builtin Builtin.ObjectAttr
variable {prog:Program} {w:World} {A:Around} {E:Value->Shared->Prop} {h:Heap} {g:Array GenState} {d:Drawn} {t:Nat} {os:OsState}
variable {nm q:Str} {C N x dx:Addr} {bs bm:List Value} {sn:List Str} {sub:List Value} {ab:Bool} {col:Option Bool} {dd:Option Addr} {k0 k1 k2 k3 k5:Option Value} {B newId:String}
 {mN mA:Str->Option Value} {name:Str} {v:Value} {o:Obj}
theorem Mq{tk:Tok}{Q:Fin->Shared->Prop}(FB:ExcAttrBase B bm)
  (hC:h.get? C=some (excClassObj nm q C N bs bm true sn sub ab col dd k0 k1 k2 k3 k5 newId)) (hn:h.Ns N mN) (lx:mN name=none)
  (hB:typeLookup (.type B) name=pure none) (hx:h.get? x=some o) (hc:o.cls=.ref C) (pi:∀c,o.data≠.cls c) (pj:o.dict=some dx) (hA:h.Ns1 dx mA) (hv:mA name=some v) (hq:Q (.done (.ret v)) ⟨h,g,d,t,os⟩):
  wpAny (model prog w) A (Builtin.«object.__getattribute__» ⟨[.ref x,.str name tk],[]⟩) Q E ⟨h,g,d,t,os⟩:=by
 unfold Builtin.«object.__getattribute__»
 repeat (first|(with_reducible refine t8 hx ?_;rw[hc])|(with_reducible refine AE hC hn FB.mro hB ?_;rw[lx])|wp_step)
 split
 ·rename_i c gt
  exact absurd gt (pi c)
 unfold instanceDict
 repeat (first|(with_reducible refine t8 hx ?_;rw[hc])|with_reducible refine t8 hC ?_|wp_step)
 rw[pj]
 repeat (first|(with_reducible refine wpAny_nsGet hA.ns ?_;rw[hv])|wp_step)
 exact hq
theorem Zd{tk:Tok}{fill expr:Bool}{Q:Value->Shared->Prop}(FB:ExcAttrBase B bm)
  (hC:h.get? C=some (excClassObj nm q C N bs bm true sn sub ab col dd k0 k1 k2 k3 k5 newId)) (hn:h.Ns N mN) (D8:mN "__getattribute__"=none) (D9:mN "__getattr__"=none) (lx:mN name=none)
  (hB:typeLookup (.type B) name=pure none) (hx:h.get? x=some o) (hc:o.cls=.ref C) (pi:∀c,o.data≠.cls c) (pj:o.dict=some dx) (hA:h.Ns1 dx mA) (hv:mA name=some v) (hh:handedOut v=pure v) (hq:Q v ⟨h,g,d,t,os⟩):
  wpAny (model prog w) A (getAttrBy (.ref x) (.str name tk) fill expr) Q E ⟨h,g,d,t,os⟩:=by
 have f3:=FB.ga.bind (.ref x)
 have rg:(expr && onTheHeap (Value.builtin "BaseException.__getattribute__"))=false:=by cases expr<;>rfl
 have O0:(Value.builtin "BaseException.__getattribute__"==Value.builtin "object.__getattribute__")=false:=by decide+kernel
 have D7:(onTheHeap (Value.ref C) && Value.builtin "BaseException.__getattribute__"==Value.builtin "object.__getattribute__")=false:=by rw[O0];rfl
 repeat (any_goals (first|assumption|(with_reducible refine t8 hx ?_;rw[hc])|(with_reducible refine AE hC hn FB.mro FB.ga.lookup ?_;rw[D8])|(with_reducible refine AE hC hn FB.mro FB.noGetattr ?_;rw[D9])|wp_step))
 refine HE FB.ga.plain F.entry_bexc_ga (wpAny_check_ga_own FB hC .base hx hc (Mq FB hC hn lx hB hx hc pi pj hA hv ?_))
 repeat (any_goals (first|assumption|wp_step))
theorem Sf{expr:Bool}{Q:Value->Shared->Prop}(FB:ExcAttrBase B bm)
  (hC:h.get? C=some (excClassObj nm q C N bs bm true sn sub ab col dd k0 k1 k2 k3 k5 newId)) (hn:h.Ns N mN) (D8:mN "__getattribute__"=none) (D9:mN "__getattr__"=none) (lx:mN name=none)
  (hB:typeLookup (.type B) name=pure none) (hx:h.get? x=some o) (hc:o.cls=.ref C) (pi:∀c,o.data≠.cls c) (pj:o.dict=some dx) (hA:h.Ns1 dx mA) (hv:mA name=some v) (hh:handedOut v=pure v) (hq:Q v ⟨h,g,d,t+1,os⟩):
  wpAny (model prog w) A (getAttr (.ref x) name expr) Q E ⟨h,g,d,t,os⟩:=by
 unfold getAttr
 repeat (any_goals (first|assumption|with_reducible apply Zd FB hC hn D8 D9 lx hB hx hc pi pj hA hv hh|wp_step))
end
structure Bq(K:PySem.W.Frag)(C fI:Addr):Prop where
 cls:∃nm q N bs sn sub ab col dd k0 k1 k2 k3 k5,K.lookup C=some (excClassObj nm q C N bs Bd true sn sub ab col dd k0 k1 k2 k3 k5 "Exception.__new__")/\PySem.W.nsOkIn K N=true/\PySem.W.nsIn K N "__init__"=some (some (.ref fI))/\
  PySem.W.nsIn K N "fault"=some none/\PySem.W.nsIn K N "__setattr__"=some none/\PySem.W.nsIn K N "__getattribute__"=some none/\PySem.W.nsIn K N "__getattr__"=some none
 fn:PySem.W.isFn K (.ref fI)=true
 kp:PySem.W.keepIn K (.ref C)=true
theorem Vx{K:PySem.W.Frag}{h:Heap}{N:Addr}{m:Str->Option Value}{x:Str}{v:Value}(X:K.In h)(G:h.Ns N m)(e:PySem.W.nsIn K N x=some (some v)):m x=some v:=by
 obtain⟨o,es,ep,ho,hd,_,hf⟩:=G
 unfold PySem.W.nsIn at e
 split at e
 ·rename_i q
  have z:=X _ _ q
  rw[ho] at z
  cases z
  cases hd
  split at e
  ·rename_i en he
   cases e
   rw[<-hf]
   unfold nsFind findBy
   rw[<-LL,he]
   rfl
  ·split at e<;>cases e
 ·cases e
theorem uZ:typeLookup (.type "Exception") "fault"=pure none:=by rw[typeLookup_type,builtinLookup_eq_fast];kernel_rfl
theorem Yy{K:PySem.W.Frag}{f:Addr}(h:PySem.W.isFn K (.ref f)=true):∃o,K.lookup f=some o/\o.cls=.type "function":=by
 have h:((K.lookup f).map (·.cls)==some (.type "function"))=true:=h
 cases q:K.lookup f with
 |none=>rw[q] at h;cases h
 |some o=>
  rw[q] at h
  exact⟨o,rfl,Option.some.inj (cz.mp h)⟩
theorem cE.there{P:Program}{w:World}{H:Hp}{h:Heap}{a:Addr}{o:HO}(x:cE P w H h a o):∃ob,h.get? a=some ob:=by
 cases o with
 |lst xs=>obtain⟨_,_,_,_,e⟩:=x;exact⟨_,e⟩
 |tup xs=>obtain⟨_,_,_,o,e,_⟩:=x;exact⟨_,e⟩
 |dK aI=>obtain⟨_,_,_,_,o,_,_,e,_⟩:=x;exact⟨_,e⟩
 |dT aI=>obtain⟨_,_,_,_,o,_,_,e,_⟩:=x;exact⟨_,e⟩
 |set S n=>obtain⟨o,_,_,_,e,_⟩:=x;exact⟨_,e⟩
 |ins C dx fs=>obtain⟨_,_,_,e,_⟩:=x;exact⟨_,e⟩
 |own y=>exact x
 |xd fs=>obtain⟨_,⟨_,_,_,e,_⟩,_⟩:=x;exact⟨_,e⟩
 |rng lo hi=>obtain⟨_,_,_,e⟩:=x;exact⟨_,e⟩
 |frz ob u=>obtain⟨e,_⟩:=x;exact⟨_,e⟩
 |tbl ps=>exact⟨_,(show h.get? a=some _ from x)⟩
 |met f y=>exact⟨_,(show h.get? a=some _ from x)⟩
 |ext φ=>obtain⟨_,e,_⟩:=x;exact e
theorem kT.none_of{P:Program}{w:World}{H:Hp}{h:Heap}{a:Addr}(x:kT P w H h)(e:h.get? a=none):H a=none:=by
 cases q:H a with
 |none=>rfl
 |some o=>
  obtain⟨ob,z⟩:=(x a o q).there
  rw[e] at z;cases z
section
variable {X:Cx} {pins:List (Addr×Obj)} {σ:St} {H H':Hp} {s:Shared} {h':Heap} {a:Addr} {o:HO}
theorem aP.laidN{t':Nat}(I:aP X pins σ H s)(k:∀b u,s.heap.get? b=some u->h'.get? b=some u)(hp:s.heap.get? a=none)(new:cE X.prog X.w (upd H a o) h' a o):
  aP X pins σ (upd H a o) {s with heap:=h',toks:=t'}:=by
 have hn:=I.hok.none_of hp
 have ne:∀b u,s.heap.get? b=some u->b≠a:=λb u q z=>by rw[z,hp] at q;cases q
 refine I.un ⟨λb u q _ _ _=>k b u q,λb u q _ _ _=>⟨u.slots,k b u q⟩,λb u q n _=>by rw[aB (ne b u q)];exact n,λb u q _=>⟨u,k b u q⟩,
  λb xs q=>by rw[aB (aD q hn)];exact q,λb u xs q=>by rw[aB (aD q hn)];exact q,λb ps q=>⟨#[],by rw[aB (aD q hn),q];simp⟩⟩ λb u q=>?_
 by_cases hb:b=a
 ·subst hb;rw[aC] at q;cases q;exact new
 ·rw[aB hb] at q
  exact(I.hok b u q).stay (λc v _ z=>k c v z) (λc z=>by rw[aB (aD z hn)];exact z) λc xs z=>by rw[aB (aD z hn)];exact z
theorem aP.untrack{O1:List (Addr×Obj)}{O2:St}{s0:Shared}(I:aP X pins σ H' s)(I0:aP X O1 O2 H s0)(sub:∀b o,H b=some o->H' b=some o)
  (own:∀b a,H' b=some (.own a)->H b=some (.own a)) (tup:∀b xs,H' b=some (.tup xs)->H b=some (.tup xs)):aP X pins σ H s:=by
 have no:∀b,H' b=none->H b=none:=λb e=>by
  cases q:H b with
  |none=>rfl
  |some o=>rw[sub b o q] at e;cases e
 refine⟨I.ok,I.os,I.bare,⟨I.base.keep,I.base.slot,λb o e n hx=>no b (I.base.free b o e n hx),I.base.there,I0.base.tups,I0.base.frzs,I0.base.tbls⟩,I.loc,I.cell,no _ I.free,λx c e=>no c (I.freeC x c e),λp hp=>?_,λb o e=>?_,I.len⟩
 ·obtain⟨h1,h2,h3⟩:=I.pin p hp
  exact⟨h1,no _ h2,h3⟩
 ·exact(I.hok b o (sub b o e)).stay (λ_ _ _ q=>q) (λc q=>own c b q) λc xs q=>tup c xs q
end
def XO(C t e:Addr)(od:Option Addr):HO:=.ext λh=>h.get? e=some {cls:=.ref C,dict:=od,data:=.fields #[.ref t,.none,.none,.none,.bool false,.none]}
theorem XO.ok{P:Program}{w:World}{H:Hp}{h:Heap}{C t e:Addr}{od:Option Addr}(q:h.get? e=some {cls:=.ref C,dict:=od,data:=.fields #[.ref t,.none,.none,.none,.bool false,.none]}):cE P w H h e (XO C t e od):=
 ⟨q,⟨_,q⟩,λ_ _ z k=>k _ z⟩
def Zu(C:Addr):Sp:=λvs H Q _=>∃e t n,vs=[.ref e,.int n]/\H e=some (XO C t e none)/\∀d,H d=none->d≠e->Q .non (upd (upd H d (.xd [("fault",.int n)])) e (XO C t e (some d)))
def sXF(C:Addr)(ta tv:TE):TS:=λD σ H=>tv σ H λy H1=>ta σ H1 λx H2=>∃e t n,y=.int n/\x=.ref e/\H2 e=some (XO C t e none)/\∀d,H2 d=none->d≠e->D.nx σ (upd (upd H2 d (.xd [("fault",.int n)])) e (XO C t e (some d)))
theorem Vl{X:Cx}{o value:Expr}{pos j1:Pos}{ta tv:TE}{C fI:Addr}(T:Bq X.K C fI)(ha:PE X o ta)(hv:PE X value tv)(hs:swapsWith value (some (.Attribute o "fault" j1)) pos.line X.env=pure false):
  PS X (.Assign [.Attribute o "fault" j1] value pos) (sXF C ta tv):=by
 intro pins s σ H D I h
 refine plainObj_wpAny_Assign_Attribute (cD (hv pins s σ H _ I h) λu s1 ⟨y,H1,I1,ry,q⟩=>cD (ha pins s1 σ H1 _ I1 q) λov s2 ⟨x,H2,I2,rx,e,t,n,ey,ex,ee,q2⟩=>?_) hs
 subst ex ey
 obtain rfl:ov=Value.ref e:=rx
 obtain⟨tk,rfl⟩:=(show ∃t,u=Value.int n t from ry)
 obtain⟨nm,qn,N,bs,sn,sub,ab,col,dd,k0,k1,k2,k3,k5,lk,ur,ni,nf,ns,ng,nh⟩:=T.cls
 have hC:=I2.kIn _ _ lk
 have hN:s2.heap.Ns N (s2.heap.nsMap N):=.of_isNs (PySem.W.isNs_of_in I2.kIn ur)
 obtain⟨obj,_,_⟩:=(show cE X.prog X.w H2 s2.heap e (XO C t e none) from I2.hok e _ ee)
 obtain⟨hp,g,dr,ut,os⟩:=s2
 refine Gw F.store_Exception hC hN (PySem.W.ns_none_of I2.kIn hN ns) (PySem.W.ns_none_of I2.kIn hN nf) uZ obj rfl (λc z=>nomatch z) rfl λh' re A=>?_
 have rh:hp.objs.size≠e:=tj (a9 obj)
 have kr:H2 hp.objs.size=none:=I2.hok.fresh (ap _)
 refine⟨σ,_,?_,q2 hp.objs.size kr rh⟩
 have nb:∀b (u:Obj),H2 b=none->b≠e:=λb u z y=>by rw[y,ee] at z;cases z
 have nd:∀b u,hp.get? b=some u->b≠hp.objs.size:=λb u z=>df (a9 z)
 have other:∀b u,H2 b=some u->b≠e->upd (upd H2 hp.objs.size (.xd [("fault",.int n)])) e (XO C t e (some hp.objs.size)) b=some u:=λb u z y=>by
  rw[aB y,aB (aD z kr)];exact z
 refine I2.un (t':=re) ⟨λb u z y _ _=>A.keep b u (nb b u y) z,λb u z y _ _=>⟨u.slots,A.keep b u (nb b u y) z⟩,λb u z y _=>by rw[aB (nb b u y),aB (nd b u z)];exact y,λb u z _=>?_,λb xs z=>other b _ z ?_,λb u xs z=>other b _ z ?_,λb ps z=>⟨#[],by rw[other b _ z (by rintro rfl;rw[ee] at z;cases z)];simp⟩⟩ λb u z=>?_
 ·by_cases y:b=e
  ·exact⟨_,by rw[y];exact A.obj⟩
  ·exact⟨u,A.keep b u y z⟩
 ·rintro rfl;rw[ee] at z;cases z
 ·rintro rfl;rw[ee] at z;cases z
 ·by_cases y:b=e
  ·subst y
   rw[aC] at z
   cases z
   exact XO.ok A.obj
  ·rw[aB y] at z
   by_cases y2:b=hp.objs.size
   ·subst y2
    rw[aC] at z
    cases z
    refine⟨_,A.ns,λf=>?_⟩
    show jP ((mC "fault" (V.int n) []).lookup f) (if f="fault" then some (Value.int n tk) else none)
    rw[mE]
    by_cases y3:f="fault"
    ·rw[ac y3,ac y3];exact⟨tk,rfl⟩
    ·rw[aa y3,aa y3];exact True.intro
   ·rw[aB y2] at z
    refine(I2.hok b u z).stay (λc v hc q=>A.keep c v ?_ q) (λc q=>other c _ q ?_) λc xs q=>other c _ q ?_
    ·rcases hc with rfl|hc
     ·exact y
     ·rintro rfl;rw[ee] at hc;cases hc
    ·rintro rfl;rw[ee] at q;cases q
    ·rintro rfl;rw[ee] at q;cases q
section
variable {M:Model} {A:Around} {E:Value->Shared->Prop} {env:Env}
variable {nm q:Str} {C N:Addr} {bs bm:List Value} {hdct:Bool} {sn:List Str} {sub:List Value} {ab:Bool} {col:Option Bool} {dd:Option Addr} {k0 k1 k2 k3 k5:Option Value} {newId:String}
theorem Hn{s:Shared}{x:Sem Value}{Q:Flow->Shared->Prop}(lr:bm.contains (.type "BaseException")=true)(hh:A.handled=none)
  (h:wpAny M A x (λv s1=>∃e oe vs,v=.ref e/\s1.heap.get? C=some (excClassObj nm q C N bs bm hdct sn sub ab col dd k0 k1 k2 k3 k5 newId)/\s1.heap.get? e=some oe/\oe.cls=.ref C/\oe.data=.fields vs/\vs[1]?=some .none/\E (.ref e) s1) E s):
  wpAny M A (raiseStmt env (some x) none) Q E s:=by
 have O3:(Value.ref C::bm).contains (.type "BaseException")=true:=by rw[List.contains_cons,lr,Bool.or_true]
 unfold raiseStmt
 refine wpAny_bind (iy h (λv s1 h1=>?_) λ_ _ x=>x)
 obtain⟨e,oe,vs,rfl,hC,he,jp,hd,h1,hE⟩:=h1
 obtain⟨hp,g,d,tk,os⟩:=s1
 repeat (first|(with_reducible refine t8 he ?_;rw[jp])|with_reducible refine t8 hC ?_|(with_reducible refine wpAny_isSubtype_exc hC ?_;rw[O3])|with_reducible refine iz he hd h1 ?_|wp_step)
 exact wpAny_raiseNew_none hh hE
end
def Yt(E:XK):List V->Hp->Prop:=λvs H=>match vs with
 |[x]=>∃n,x=.int n/\E (.int n 0) none H
 |_=>False
def aAo(E:XK)(te:TE):TS:=λ_ σ H=>te σ H λv H1=>∃n,v=.int n/\E (.int n 0) none H1
theorem mV{X:Cx}{C fI:Addr}{fd:FuncData}{k:Nat}{E:XK}{x:Str}{np b9 pos:Pos}{e:Expr}{te:TE}(L:Pn C X E)(hc:X.calm=true)(T:Bq X.K C fI)
  (G:bT X.prog X.w X.K X.mg X.base bU k fI fd ["self","fault"] (Zu C)) (hr:fX (k+1) X.A) (hg:Gl X x) (hm:X.mg x=some (.ref C)) (hb:eY X.K fd ["self","fault"] []) (he:PE X e te)
  (fq:(x==("__debug__":Str))=false:=by decide) (b8:starEach [e] X.env=(false,eval e X.env)::starEach [] X.env:=by rfl):
  PS X (.Raise (some (.Call (.Name x np) [e] [] b9)) none pos) (aAo E te):=by
 intro pins s σ H D I h
 have ha:PA X [e] (eR te gY):=aA he aF b8
 have h':eR te gY σ H (Yt E):=h
 obtain⟨nm,qn,N,bs,sn,sub,ab,col,dd,k0,k1,k2,k3,k5,lk,ur,ni,nf,ns,ng,nh⟩:=id T.cls
 rw[arm_exec_Raise]
 refine wpAny_bind (xl (Hn (C:=C) (nm:=nm) (q:=qn) (N:=N) (bs:=bs) (bm:=Bd) (hdct:=true) (sn:=sn) (sub:=sub) (ab:=ab) (col:=col) (dd:=dd) (k0:=k0) (k1:=k1) (k2:=k2) (k3:=k3) (k5:=k5) (newId:="Exception.__new__")
  C2.hasBase (I.ok.hd hc) (wpAny_bind (cD (Q:=λv s3=>∃ea oe vs,v=.ref ea/\s3.heap.get? C=some (excClassObj nm qn C N bs Bd true sn sub ab col dd k0 k1 k2 k3 k5 "Exception.__new__")/\s3.heap.get? ea=some oe/\oe.cls=.ref C/\oe.data=.fields vs/\vs[1]?=some .none/\X.xe (.ref ea) s3) ?_ λv s3 h3=>wpAny_bind (xl (af h3))))))
 refine wpAny_Call_Name_kw (jD I hg hm ?_ fq)
 refine PySem.W.callWith_K (h₀:=X.base) I.ok.mod.kin T.kp (cD (ha b9 pins s σ H _ I h') λus s1 ⟨vs,H1,I1,r,q⟩=>⟨I1.kIn,?_⟩) b8 rfl
 match vs,r,q with
 |[x1],.cons (b:=u) r1 .nil,q=>
  obtain⟨n,rfl,hE⟩:=q
  obtain⟨tk,rfl⟩:=(show ∃t,u=Value.int n t from r1)
  obtain⟨oI,O4,O5⟩:=Yy T.fn
  have hC:=I1.kIn _ _ lk
  have hN:s1.heap.Ns N (s1.heap.nsMap N):=.of_isNs (PySem.W.isNs_of_in I1.kIn ur)
  have B:=I1.below
  obtain⟨hp,g,dr,ut,os⟩:=s1
  refine wpAny_call_exc_init C2 hC hN (Vx I1.kIn hN ni) (I1.kIn _ _ O4) O5 (λh1 ea hm=>?_)
  obtain⟨t,ht,UJ,UK⟩:=hm.there
  have I2:aP X pins σ (upd H1 ea (XO C t ea none)) ⟨h1,g,dr,ut,os⟩:=I1.laidN (t':=ut) hm.keeps hm.new (XO.ok ht)
  refine z6 (xo (G.run (X.A.under (.builtin "type.__call__" ⟨.ref C::[.int n tk],[]⟩)) X.stack ⟨h1,g,dr,ut,os⟩ (upd H1 ea (XO C t ea none)) ⟨.ref ea::[.int n tk],[]⟩ [.ref ea,.int n tk] [.ref ea,.int n]
   (λv H2=>v=.non/\∃d,d≠ea/\H1 d=none/\H2=upd (upd (upd H1 ea (XO C t ea none)) d (.xd [("fault",.int n)])) ea (XO C t ea (some d))) E0 (hr.make C [.int n tk] []) (I2.env0.make C [.int n tk] [])
   (hb _ [.ref ea,.int n tk] I2.kIn rfl) (.cons rfl (.cons ⟨tk,rfl⟩ .nil)) ⟨ea,t,n,rfl,aC,λd hd rh=>⟨rfl,d,rh,by rw[aB rh] at hd;exact hd,rfl⟩⟩) λr s' gd=>?_)
  cases r with
  |error e=>exact False.elim gd
  |ok fl=>
   cases fl with
   |ret u=>
    obtain⟨v,H',dz,yp,un,hok,rv,ev,d,rh,kr,hH⟩:=gd
    subst ev
    have I3:aP X pins σ H' s':=I2.call' (ch:=[]) dz un hok yp (λ_ z=>nomatch z)
    have JD:=(show cE X.prog X.w H' s'.heap ea (XO C t ea (some d)) from I3.hok ea _ (by rw[hH];exact aC)).1
    refine⟨rv,ea,_,_,rfl,I3.kIn _ _ lk,JD,rfl,rfl,rfl,?_⟩
    have JE:H1 ea=none:=I1.hok.none_of hm.new
    have BA:H' d=some (.xd [("fault",.int n)]):=by rw[hH,aB rh,aC]
    have JF:H' ea=some (XO C t ea (some d)):=by rw[hH];exact aC
    have my:∀b,b≠ea->b≠d->H' b=H1 b:=λb z1 z2=>by rw[hH,aB z1,aB z2,aB z1]
    have A3:h1.get? d=none:=by
     cases z:h1.get? d with
     |none=>rfl
     |some ob=>
      have y:=un.free d ob z (by rw[aB rh];exact kr) (by simp)
      rw[BA] at y;cases y
    have mz:hp.get? d=none:=by
     cases z:hp.get? d with
     |none=>rfl
     |some ob=>rw[hm.keeps d ob z] at A3;cases A3
    have I4:aP X pins σ H1 s':=I3.untrack I1 (λb o z=>by rw[my b (aD z JE) (aD z kr)];exact z)
     (λb a z=>by rw[<-my b (by rintro rfl;rw[JF] at z;cases z) (by rintro rfl;rw[BA] at z;cases z)];exact z)
     (λb a z=>by rw[<-my b (by rintro rfl;rw[JF] at z;cases z) (by rintro rfl;rw[BA] at z;cases z)];exact z)
    obtain⟨mA,ly,rel⟩:=(show cE X.prog X.w H' s'.heap d (.xd [("fault",.int n)]) from I3.hok d _ BA)
    exact L.new pins σ H1 s' ea n hp I4 B (λb o z=>un.there b o (hm.keeps b o z) (by simp)) ⟨⟨_,_,d,mA,JD,rfl,rfl,rfl,rfl,ly,rel,kr,mz,rh⟩,JE,hm.new⟩ hE
   |next=>exact False.elim gd
   |brk=>exact False.elim gd
   |cont=>exact False.elim gd
abbrev Cx.tryIn(X:Cx)(xe:Value->Shared->Prop)(pn:List (Addr×Obj)):Cx:={X with xe:=xe,pn:=pn}
abbrev Cx.inH(X:Cx)(ea:Addr):Cx:={X with A:=X.A.mark (some (.ref ea)),calm:=false,xe:=λ_ _=>False}
section
variable {X:Cx} {pins ug:List (Addr×Obj)} {σ:St} {H:Hp} {s:Shared} {xe:Value->Shared->Prop} {ea:Addr}
theorem Cx.Ok.tryIn(ok:X.Ok)(xe:Value->Shared->Prop)(pn:List (Addr×Obj)):(X.tryIn xe pn).Ok:=
 ⟨ok.mod,ok.kind,ok.glob,ok.blt,ok.above,ok.inj,ok.has,ok.cab,ok.hd,ok.frames,ok.stk,ok.exf,ok.bs,ok.bsz,ok.noex,ok.exfs,ok.funs,ok.frf⟩
theorem Cx.Ok.inH(ok:X.Ok)(ea:Addr):(X.inH ea).Ok:=
 ⟨ok.mod,ok.kind,ok.glob,ok.blt,ok.above,ok.inj,ok.has,ok.cab,(λz=>nomatch (show false=true from z)),ok.frames,ok.stk,ok.exf,ok.bs,ok.bsz,ok.noex,ok.exfs,ok.funs,ok.frf⟩
theorem aP.tryIn(I:aP X pins σ H s)(xe:Value->Shared->Prop):aP (X.tryIn xe (X.pn++pins)) [] σ H s:=
 ⟨I.ok.tryIn _ _,I.os,I.bare,I.base,I.loc,I.cell,I.free,I.freeC,λp hp=>I.pin p (by rw[f8] at hp;exact hp),I.hok,I.len⟩
theorem aP.untry(ok:X.Ok)(I:aP (X.tryIn xe (X.pn++pins)) ug σ H s):aP X pins σ H s:=
 ⟨ok,I.os,I.bare,I.base,I.loc,I.cell,I.free,I.freeC,λp hp=>I.pin p (i9 _ hp),I.hok,I.len⟩
theorem aP.inH(I:aP X pins σ H s)(ea:Addr):aP (X.inH ea) pins σ H s:=⟨I.ok.inH ea,I.os,I.bare,I.base,I.loc,I.cell,I.free,I.freeC,I.pin,I.hok,I.len⟩
theorem aP.outH(ok:X.Ok)(I:aP (X.inH ea) pins σ H s):aP X pins σ H s:=⟨ok,I.os,I.bare,I.base,I.loc,I.cell,I.free,I.freeC,I.pin,I.hok,I.len⟩
theorem SP.untry{D:fY}{f:Flow}(ok:X.Ok)(h:SP (X.tryIn xe (X.pn++pins)) ug D f s):SP X pins D f s:=by
 cases f with
 |next=>obtain⟨ae,H',I,q⟩:=h;exact⟨ae,H',I.untry ok,q⟩
 |brk=>obtain⟨ae,H',I,q⟩:=h;exact⟨ae,H',I.untry ok,q⟩
 |cont=>obtain⟨ae,H',I,q⟩:=h;exact⟨ae,H',I.untry ok,q⟩
 |ret u=>obtain⟨v,ae,H',I,r,q⟩:=h;exact⟨v,ae,H',I.untry ok,r,q⟩
theorem SP.outH{D:fY}{f:Flow}(ok:X.Ok)(h:SP (X.inH ea) pins D f s):SP X pins D f s:=by
 cases f with
 |next=>obtain⟨ae,H',I,q⟩:=h;exact⟨ae,H',I.outH ok,q⟩
 |brk=>obtain⟨ae,H',I,q⟩:=h;exact⟨ae,H',I.outH ok,q⟩
 |cont=>obtain⟨ae,H',I,q⟩:=h;exact⟨ae,H',I.outH ok,q⟩
 |ret u=>obtain⟨v,ae,H',I,r,q⟩:=h;exact⟨v,ae,H',I.outH ok,r,q⟩
theorem tH{C:Addr}{Q:Shared->Prop}{E:Value->Shared->Prop}{H':Hp}{s':Shared}{n:Int}(b8:X.stack=X.env::X.outer)(fh:X.env.frame=some X.env.locals)(I:aP X pins σ H s)(dz:s'.os=s.os)(hb:AllBare s'.gens)
  (un:Un (zG X.stack) [] H H' s.heap s'.heap) (hok:kT X.prog X.w H' s'.heap) (fl:tR C H' s'.heap s.heap ea n)
  (h:∀s3,aP X pins σ H' s3->tR C H' s3.heap s.heap ea n->Q s3):
  wpAny (model X.prog X.w) X.A (noteFrame (.ref ea) X.env) (λ_ s2=>wpAny (model X.prog X.w) X.A (setFlight (.ref ea) none) (λ_ s3=>Q s3) E s2) E s':=by
 have I':=I.call' (ch:=[]) dz un hok hb (λ_ z=>nomatch z)
 have B:=I.below
 obtain⟨T,x,j4,A9,A',oT,ts,t1,t2,t3⟩:=fl
 obtain⟨oe,vs,d,mA,h1,h2,h3,h4,h5,h6,h7,h8,h9,du⟩:=id x.at_
 have fe:zG X.stack=(X.env::X.outer).filterMap (·.frame):=by rw[b8];rfl
 refine zF (outer:=X.outer) (base:=X.base) (oeT:=0) (by rw[I'.ok.frames,b8]) (by rw[<-b8];exact I'.stack) fh h1 h4 h5 j4 t1 t2 t3 λh' T' Nt=>?_
 rw[<-fe] at Nt
 have I2:=I'.noted Nt B x.lo A9 x.he A'
 have yo:=Xn.noted (C:=C) I' Nt B (λb o q=>un.there b o q (by simp)) x (λo es ep q z=>by rw[t1] at q;cases q;rw[t2] at z;cases z)
 exact h _ I2 yo
theorem sV{M:Model}{A:Around}{C:Addr}{h0:Heap}{n:Int}{Q:Unit->Shared->Prop}{E:Value->Shared->Prop}(fl:tR C H s.heap h0 ea n)(h:Q () s):wpAny M A (setFlight (.ref ea) none) Q E s:=by
 obtain⟨T,x,j4,A9,A',oT,ts,t1,t2,t3⟩:=fl
 obtain⟨oe,vs,d,mA,h1,h2,h3,h4,h5,h6,h7,h8,h9,du⟩:=id x.at_
 refine wpAny_setFlight_none h1 h4 h5 t1 t2 (qr.mp t3).1 ?_
 rw[Heap.update_setField_same s.heap T oT ts 3 .none t1 t2 t3]
 exact h
end
def aEc(n:Nat)(tb:XK->TS)(ts:TS):TS:=λD σ H=>tb (λ_ _ H'=>∀ae:St,ae.length=n->ts D ae H') D σ H
theorem aAl{X:Cx}{C fI:Addr}{x:Str}{np D' pos:Pos}{body:List Stmt}{b0:Stmt}{suite:List Stmt}{tb:XK->TS}{ts:TS}(T:Bq X.K C fI)(b8:X.stack=X.env::X.outer)(fh:X.env.frame=some X.env.locals)(hg:Gl X x)(hm:X.mg x=some (.ref C))
  (hb:∀xe pn E',iO (iX C X.prog X.w) (X.tryIn xe pn) E'->zI (X.tryIn xe pn) body (tb E')) (hs:∀ea,zI (X.inH ea) (b0::suite) ts) (fq:(x==("__debug__":Str))=false:=by decide):
  PS X (.Try body [.ExceptHandler (some (.Name x np)) none (b0::suite) D'] [] [] pos) (aEc X.N.length tb ts):=by
 intro pins s σ H D I h
 have ok:=I.ok
 refine wpAny_Try_except (cD (hb _ (X.pn++pins) _ ?_ [] s σ H D (I.tryIn _) h) λf s1 q=>?_)
 ·intro ug ae H1 s1 e s' I1 ⟨ea,n,H',he,dz,yp,un,hok,fl,hE⟩
  subst he
  refine tH b8 fh (I1.untry ok) dz yp un hok fl λs3 I3 yq=>?_
  obtain⟨nm,qn,N,bs,sn,sub,ab,col,dd,k0,k1,k2,k3,k5,lk,ur,ni,nf,ns,ng,nh⟩:=id T.cls
  refine wpAny_handleBy_cons (ME (jD (X:=X.inH ea) (I3.inH ea) hg hm ?_ fq)) (λz=>nomatch z)
  obtain⟨oe,vs,d,mA,h1,h2,h3,h4,h5,h6⟩:=yq.choose_spec.1.at_
  have hC:=I3.kIn _ _ lk
  obtain⟨hp,g,dr,ut,os⟩:=s3
  refine MF hC h1 h2 C2.hasBase ?_
  refine codeAny_handlers_suite (sV yq ?_)
  exact iy (hs ea pins _ ae H' D (I3.inH ea) (hE ae I3.len)) (λf s4 q=>q.outH ok) λ_ _ z=>False.elim z
 ·have q':=q.untry ok
  cases f with
  |next=>exact vj q'
  |brk=>exact q'
  |cont=>exact q'
  |ret u=>exact q'
section
variable {X:Cx} {pins:List (Addr×Obj)} {σ:St} {H:Hp} {s:Shared} {h' h0:Heap} {a:Addr} {o:HO}
theorem aP.track(I:aP X pins σ H s)(B:Eo X pins h0)(hn:h0.get? a=none)(hH:H a=none)(ok:cE X.prog X.w (upd H a o) s.heap a o):aP X pins σ (upd H a o) s:=by
 refine⟨I.ok,I.os,I.bare,⟨I.base.keep,I.base.slot,λb ob e n hx=>?_,I.base.there,λb xs e=>?_,λb ob xs e=>?_,λb ps e=>?_⟩,I.loc,I.cell,?_,λx c e=>?_,λp hp=>?_,λb u e=>?_,I.len⟩
 ·rw[aB (eK (B.s0 b ob e hx) hn)]
  exact I.base.free b ob e n hx
 ·have e:=I.base.tups b xs e
  rw[aB (aD e hH)];exact e
 ·have e:=I.base.frzs b ob xs e
  rw[aB (aD e hH)];exact e
 ·obtain⟨m,e⟩:=I.base.tbls b ps e
  exact⟨m,by rw[aB (aD e hH)];exact e⟩
 ·rw[aB (eK B.loc hn)];exact I.free
 ·rw[aB (eK (B.cell x c e) hn)];exact I.freeC x c e
 ·obtain⟨h1,h2,h3⟩:=I.pin p hp
  exact⟨h1,by rw[aB (eK (B.pin p hp) hn)];exact h2,h3⟩
 ·by_cases hb:b=a
  ·subst hb;rw[aC] at e;cases e;exact ok
  ·rw[aB hb] at e
   exact(I.hok b u e).stay (λ_ _ _ q=>q) (λc q=>by rw[aB (aD q hH)];exact q) λc xs q=>by rw[aB (aD q hH)];exact q
theorem aP.forget{m':Str->Option Value}{t':Nat}(I:aP X pins σ H s)(hn:h'.Ns X.env.locals m')(hs:Heap.SameBut X.env.locals s.heap h'):aP X pins (List.replicate X.N.length none) H {s with heap:=h',toks:=t'}:=by
 have old:∀b ob,X.s_0.heap.get? b=some ob->b≠X.env.locals:=λb ob e=>df (gm (a9 e) I.ok.above)
 refine⟨I.ok,I.os,I.bare,⟨λb ob e n hb hx=>(hs.2 b (old b ob e)).trans (I.base.keep b ob e n hb hx),λb ob e n hb hx=>?_,I.base.free,λb ob e hx=>?_,I.base.tups,I.base.frzs,I.base.tbls⟩,⟨_,hn,λj y v e1 e2 e3=>?_⟩,λy c e=>?_,I.free,I.freeC,λp hp=>?_,λb ob e=>?_,by simp⟩
 ·obtain⟨sl,e1⟩:=I.base.slot b ob e n hb hx
  exact⟨sl,(hs.2 b (old b ob e)).trans e1⟩
 ·obtain⟨o',e1⟩:=I.base.there b ob e hx
  exact⟨o',(hs.2 b (old b ob e)).trans e1⟩
 ·rw[z8] at e2
  split at e2<;>cases e2
 ·obtain⟨w',z⟩:=I.cell y c e
  exact⟨w',z.sameBut hs (I.cne y c e)⟩
 ·obtain⟨e,n,ne,nf,d⟩:=I.pin p hp
  exact⟨(hs.2 p.1 ne).trans e,n,ne,nf,d⟩
 ·refine(I.hok b ob e).stay (λc w' hc q=>(hs.2 c ?_).trans q) (λ_ q=>q) λ_ _ q=>q
  rintro rfl
  rcases hc with rfl|hc
  ·rw[I.free] at e;cases e
  ·rw[I.free] at hc;cases hc
end
def XR(C d e:Addr):HO:=.ext λh=>∃oe vs,h.get? e=some oe/\oe.cls=.ref C/\oe.dict=some d/\oe.data=.fields vs
theorem XR.ok{P:Program}{w:World}{H:Hp}{h:Heap}{C d e:Addr}{oe:Obj}{vs:Array Value}(h1:h.get? e=some oe)(h2:oe.cls=.ref C)(h3:oe.dict=some d)(h4:oe.data=.fields vs):cE P w H h e (XR C d e):=
 ⟨⟨oe,vs,h1,h2,h3,h4⟩,⟨_,h1⟩,λ_ _ ⟨oe,vs,z,r⟩ k=>⟨oe,vs,k _ z,r⟩⟩
def aBc(C:Addr)(ta:TE):TE:=fun σ H Q=>ta σ H λx H1=>∃e d n,x=.ref e/\H1 e=some (XR C d e)/\H1 d=some (.xd [("fault",.int n)])/\Q (.int n) H1
theorem Vr{X:Cx}{C fI:Addr}{e:Expr}{pos:Pos}{ta:TE}(T:Bq X.K C fI)(he:PE X e ta)(hb:attributeBase e "fault" X.env (eval e X.env)=eval e X.env):PE X (.Attribute e "fault" pos) (aBc C ta):=by
 intro pins s σ H Q I h
 refine Ku hb (cD (he pins s σ H _ I h) λu s1 ⟨x,H1,I1,rx,ea,d,n,ex,h1,h2,q⟩=>?_)
 subst ex
 obtain rfl:u=Value.ref ea:=rx
 obtain⟨nm,qn,N,bs,sn,sub,ab,col,dd,k0,k1,k2,k3,k5,lk,ur,ni,nf,ns,ng,nh⟩:=id T.cls
 have hC:=I1.kIn _ _ lk
 have hN:s1.heap.Ns N (s1.heap.nsMap N):=.of_isNs (PySem.W.isNs_of_in I1.kIn ur)
 obtain⟨⟨oe,vs,g1,g2,g3,g4⟩,_,_⟩:=(show cE X.prog X.w H1 s1.heap ea (XR C d ea) from I1.hok ea _ h1)
 obtain⟨mA,ly,rel⟩:=(show cE X.prog X.w H1 s1.heap d (.xd [("fault",.int n)]) from I1.hok d _ h2)
 obtain⟨uf,hf,re,rfl⟩:=jP.some_of (v:=V.int n) (o:=mA "fault") (rel "fault")
 have I2:=I1.tok (s1.toks+1)
 obtain⟨hp,g,dr,ut,os⟩:=s1
 exact Sf F.attrBase_Exception hC hN (PySem.W.ns_none_of I1.kIn hN ng) (PySem.W.ns_none_of I1.kIn hN nh) (PySem.W.ns_none_of I1.kIn hN nf) uZ g1 g2 (λc z=>by rw[g4] at z;cases z) g3 ly hf rfl ⟨.int n,H1,I2,⟨_,rfl⟩,q⟩
def aAn(C:Addr)(i n:Nat)(tb:XK->TS)(ts:TS):TS:=λD σ H=>tb (λv _ H'=>∃f,v=.int f 0/\∀(ae:St)(e d:Addr),ae.length=n->H' e=none->H' d=none->d≠e->
 ts {nx:=λ_ _=>False,rt:=D.rt} (ae.set i (some (.ref e))) (upd (upd H' d (.xd [("fault",.int f)])) e (XR C d e))) D σ H
theorem Pa{X:Cx}{C fI:Addr}{x y:Str}{i:Nat}{np D' pos:Pos}{body:List Stmt}{b0:Stmt}{suite:List Stmt}{tb:XK->TS}{ts:TS}(T:Bq X.K C fI)(b8:X.stack=X.env::X.outer)(fh:X.env.frame=some X.env.locals)(hg:Gl X x)(hm:X.mg x=some (.ref C))
  (hN:X.N.Nodup) (hi:X.N[i]?=some y) (hy:X.env.kindOf y=some .local)
  (hb:∀xe pn E',iO (iX C X.prog X.w) (X.tryIn xe pn) E'->zI (X.tryIn xe pn) body (tb E')) (hs:∀ea,zI (X.inH ea) (b0::suite) ts) (fq:(x==("__debug__":Str))=false:=by decide):
  PS X (.Try body [.ExceptHandler (some (.Name x np)) (some y) (b0::suite) D'] [] [] pos) (aAn C i X.N.length tb ts):=by
 intro pins s σ H D I h
 have ok:=I.ok
 refine wpAny_Try_except (cD (hb _ (X.pn++pins) _ ?_ [] s σ H D (I.tryIn _) h) λf s1 q=>?_)
 ·intro ug ae H1 s1 e s' I1 ⟨ea,n,H',he,dz,yp,un,hok,fl,fn,yi,hE⟩
  subst he
  obtain rfl:n=fn:=by cases yi;rfl
  have B:=(I1.untry ok).below
  refine tH b8 fh (I1.untry ok) dz yp un hok fl λs3 I3 yq=>?_
  obtain⟨nm,qn,N,bs,sn,sub,ab,col,dd,k0,k1,k2,k3,k5,lk,ur,ni,nf,ns,ng,nh⟩:=id T.cls
  refine wpAny_handleBy_cons (ME (jD (X:=X.inH ea) (I3.inH ea) hg hm ?_ fq)) (λz=>nomatch z)
  have O6:=yq
  obtain⟨TT,xn,_⟩:=O6
  obtain⟨oe,vs,d,mA,h1,h2,h3,h4,h5,h6,h7,h8,h9,du⟩:=id xn.at_
  have hC:=I3.kIn _ _ lk
  have It:aP X pins ae (upd (upd H' d (.xd [("fault",.int n)])) ea (XR C d ea)) s3:=by
   have J:=I3.track (a:=d) (o:=.xd [("fault",.int n)]) B h9 h8 ?_
   ·exact J.track (a:=ea) (o:=XR C d ea) B xn.lo (by rw[aB (ao du)];exact xn.he) (XR.ok h1 h2 h3 h4)
   ·exact⟨mA,h6,h7⟩
  obtain⟨hp,g,dr,ut,os⟩:=s3
  refine MF hC h1 h2 C2.hasBase ?_
  refine codeAny_handlers_suite_as (sV yq ?_)
  refine wV (X:=X.inH ea) (v:=.ref ea) (It.inH ea) hN hi (.inl hy) rfl (λs4 I4=>?_) (.inr hy)
  refine iy (hs ea pins _ _ _ _ I4 (hE ae ea d I3.len xn.he h8 du)) (λf s5 q=>?_) λ_ _ z=>False.elim z
  cases f with
  |next=>obtain⟨_,_,_,z⟩:=q;exact False.elim z
  |brk=>obtain⟨_,_,_,z⟩:=q;exact False.elim z
  |cont=>obtain⟨_,_,_,z⟩:=q;exact False.elim z
  |ret u=>
   obtain⟨v,AV,H6,I6,r,q⟩:=q
   have I6:=I6.outH ok
   obtain⟨m,wu,_⟩:=id I6.loc
   refine wpAny_nameGoes hy wu (by rw[ok.kind];rfl) λh' m' we m5=>?_
   exact⟨v,_,H6,I6.forget we m5,r,q⟩
 ·have q':=q.untry ok
  cases f with
  |next=>exact vj q'
  |brk=>exact q'
  |cont=>exact q'
  |ret u=>exact q'
structure iA(k:Nat)(A:Around):Prop where
 dp:A.depth+3 * k+5<recursionLimit
 un:A.units+16 * k+200<cLine
theorem fX.n{k:Nat}{A:Around}(r:fX k A):iA k A:=⟨r.dp,r.un⟩
theorem iA.mark{k:Nat}{A:Around}(r:iA k A)(h:Option Value):iA k (A.mark h):=⟨r.dp,r.un⟩
theorem iA.make{k:Nat}{A:Around}(r:iA (k+1) A)(C:Addr)(us:List Value)(kw:List (Str×Value)):iA k (A.under (.builtin "type.__call__" ⟨.ref C::us,kw⟩)):=
 ⟨by have:=r.dp;rw[vT];omega,by have:=r.un;rw[wY];omega⟩
theorem iA.deeper{k:Nat}{A:Around}(r:iA (k+1) A)(env:Env):iA k (A.deeper env):=
 ⟨by have:=r.dp;show A.depth+1+3 * k+5<_;omega,by have:=r.un;show A.units+3+16 * k+200<_;omega⟩
theorem iA.depth{k:Nat}{A:Around}(r:iA k A):A.depth<recursionLimit:=by have:=r.dp;omega
structure yW(P:Program)(w:World)(K:PySem.W.Frag)(mg:Str->Option Value)(base:Heap)(CX:Gg)(k:Nat)(f:Addr)(fd:FuncData)(ps:List Str)(sp:Sp):Prop where
 len:∀vs H Q E,sp vs H Q E->vs.length=ps.length
 run:∀(A:Around)(outer:List Env)(s:Shared)(H:Hp)(args:Args)(us:List Value)(vs:List V)(Q:VK)(E:XK),iA k A->Fv P w K mg base A outer s H->BindsTo s fd args (ps.zip us)->bA vs us->sp vs H Q E->
  codeAny (model P w) A (.call (.ref f) args) (CR CX outer P w H s Q E) s
abbrev cxN(P:Program)(w:World)(K:PySem.W.Frag)(mg:Str->Option Value)(base:Heap)(N:List Str)(qual:Str)(scope:Scope)(f:Addr)(cd:Value)(A:Around)(outer:List Env)(s:Shared)(H:Hp)(E:XK):Cx:=
 {Ar bU P w K mg base N qual scope f cd A outer s H E with calm:=false}
theorem fH.okN{P:Program}{w:World}{K:PySem.W.Frag}{mg:Str->Option Value}{base:Heap}{x qual:Str}{st:Stmt}{f:Addr}{fd:FuncData}{N ps:List Str}{k:Nat}{sp:Sp}(F:fH K x qual st f fd)(S:aQ N ps (aH st))
  (len:∀vs H Q E,sp vs H Q E->vs.length=ps.length)
  (uk:∀(ai:Value)(A:Around)(outer:List Env)(s:Shared)(H:Hp)(vs:List V)(Q:VK)(E:XK),iA k (A.deeper (envOfC qual (aH st) s.heap.objs.size f ai))->sp vs H Q E->
   ∃t,zI (cxN P w K mg base N qual (aH st) f ai A outer s H E).nox (dQ st) t/\t {nx:=λ_ H'=>Q .non H',rt:=Q} (lW N vs) H):yW P w K mg base bU (k+1) f fd ps sp:=by
 obtain⟨oc,od,kV,bo,pm,an,ai,ct,cq,rfl,lk,gt⟩:=F.ex
 refine⟨len,λA outer s H args us vs Q E hr e0 hb r j2=>?_⟩
 have hl:=len _ _ _ _ j2
 have KX:K.In s.heap:=e0.mod.kin.keeps λb o e=>(e0.bs b o e).1
 have lim:s.heap.NoLimit:=e0.mod.nolimit.keeps λb o e=>(e0.bs b o e).1
 have DW:∀y∈ps.zip us,(aH st).names.lookup y.1=some .local\/((aH st).names.lookup y.1=some .cell/\((cellsFrom (s.heap.objs.size+1) (aH st).names []).lookup y.1).isSome=true):=λ⟨n,v⟩ hy=>by
  rcases S.par n (z7 hy).1 with q|q
  ·exact .inl q
  ·exact .inr ⟨q,PySem.W.cellsFrom_some _ _ _ (.inl q)⟩
 refine LM hr.depth (KX _ _ lk) rfl S.co S.gen rfl (PySem.W.codeRec_of KX gt) (hb _ _ _ _ ?_)
 refine LN S.kind DW λenv he s1 x=>?_
 subst he
 refine⟨lim.keeps x.toInCall.keep,codeAny_func ?_⟩
 obtain⟨t,ht,hq⟩:=uk ai A outer s H vs Q E (hr.deeper _) j2
 have I0:=zA (CX:=bU) (P:=P) (w:=w) (K:=K) (mg:=mg) (base:=base) (N:=N) (qual:=qual) (f:=f) (cd:=ai) (A:={A with handled:=none}) (outer:=outer) (H:=H) (E:=E) S rfl ⟨e0.frames,e0.mod,e0.bs,e0.bsz,e0.funs,e0.frf,e0.hok,e0.bare⟩ hl r x
 have ok:=I0.ok
 have I:aP (cxN P w K mg base N qual (aH st) f ai A outer s H E).nox [] (lW N vs) H s1:=
  ⟨⟨ok.mod,ok.kind,ok.glob,ok.blt,ok.above,ok.inj,ok.has,ok.cab,(λz=>nomatch (show false=true from z)),ok.frames,ok.stk,ok.exf,ok.bs,ok.bsz,ok.noex,ok.exfs,ok.funs,ok.frf⟩,I0.os,I0.bare,I0.base,I0.loc,I0.cell,I0.free,I0.freeC,I0.pin,I0.hok,I0.len⟩
 refine iy (ht [] s1 (lW N vs) H _ I hq) (λfl s' hs=>?_) λe s' hs=>False.elim hs
 have fin:∀{ae:St}{H':Hp}{v:V}{u:Value},aP (cxN P w K mg base N qual (aH st) f ai A outer s H E).nox [] ae H' s'->bQ v u->Q v H'->CE outer P w H s Q u s':=
  λ{ae H' v u} J rv q=>⟨v,H',J.os,J.bare,J.base,J.hok,rv,q⟩
 cases fl with
 |ret u=>
  obtain⟨v,ae,H',J,rv,q⟩:=hs
  exact fin J rv q
 |next=>
  obtain⟨ae,H',J,q⟩:=hs
  exact fin (v:=V.non) (u:=Value.none) J rfl q
 |brk=>
  obtain⟨_,_,_,q⟩:=hs
  exact False.elim q
 |cont=>
  obtain⟨_,_,_,q⟩:=hs
  exact False.elim q
section
variable {X:Cx} {k:Nat} {f C:Addr} {fd:FuncData} {ps:List Str} {sp:Sp} {x:Str} {p pos:Pos} {e:Expr} {es:List Expr} {t:TA}
theorem mJ(M:Mk X.K C f)(F:yW X.prog X.w X.K X.mg X.base bU k f fd ps sp)(hr:iA (k+1) X.A)(hg:Gl X x)(hm:X.mg x=some (.ref C))(hb:eY X.K fd ps [])
  (ha:PA X (e::es) t) (fq:(x==("__debug__":Str))=false:=by decide) (he:starEach (e::es) X.env=(false,eval e X.env)::starEach es X.env:=by rfl) (d9:(backTo pos (starEach es X.env)).any (·.1)=false:=by rfl):
  PE X (.Call (.Name x p) (e::es) [] pos) (Jv C sp [] E0 t):=by
 intro pins s σ H Q I h
 refine wpAny_Call_Name_kw (jD I hg hm ?_ fq)
 refine PySem.W.callWith_K (h₀:=X.base) I.ok.mod.kin M.kp (cD (ha pos pins s σ H _ I h) λus s1 ⟨vs,H1,I1,r,q⟩=>⟨I1.kIn,?_⟩) he d9
 have hq:=q (s1.heap.objs.size+1) s1.heap.objs.size (I1.hok.fresh (GN _)) (I1.hok.fresh (ap _)) (df (jl _))
 rw[f8] at hq
 have I2:=aP.made (C:=C) I1
 have r2:bA (V.ref (s1.heap.objs.size+1)::vs) (Value.ref (s1.heap.objs.size+1)::us):=.cons rfl r
 have hl:(Value.ref (s1.heap.objs.size+1)::us++[]).length=ps.length:=by
  have e:=r2.length
  rw[F.len _ _ _ _ hq] at e
  rw[f8]
  exact e.symm
 have i5:=hb _ (Value.ref (s1.heap.objs.size+1)::us) I2.kIn hl
 rw[f8] at i5
 refine z6 (Ei (f:=f) I1.kIn M.makes M.init (cz.mp M.fn) (xo (F.run _ X.stack _ _ ⟨Value.ref (s1.heap.objs.size+1)::us,[]⟩ (Value.ref (s1.heap.objs.size+1)::us) _ _ E0 (hr.make C us [])
  (I2.env0.make C us []) i5 r2 hq) λr s' gd=>?_))
 cases r with
 |error e=>exact False.elim gd
 |ok fl=>
  cases fl with
  |ret u=>
   obtain⟨v,H',I3,rv,ev,q3⟩:=I2.after gd
   subst ev
   exact⟨rv,⟨V.ref (s1.heap.objs.size+1),H',I3,rfl,q3⟩⟩
  |next=>exact False.elim gd
  |brk=>exact False.elim gd
  |cont=>exact False.elim gd
end
theorem fH.okX{P:Program}{w:World}{K:PySem.W.Frag}{mg:Str->Option Value}{base:Heap}{C:Addr}{x qual:Str}{st:Stmt}{f:Addr}{fd:FuncData}{N ps:List Str}{k:Nat}{sp:Sp}(F:fH K x qual st f fd)(S:aQ N ps (aH st))
  (len:∀vs H Q E,sp vs H Q E->vs.length=ps.length)
  (uk:∀(ai:Value)(A:Around)(outer:List Env)(s:Shared)(H:Hp)(vs:List V)(Q:VK)(E:XK),fX k (A.deeper (envOfC qual (aH st) s.heap.objs.size f ai))->sp vs H Q E->
   ∃t,zI (Ar (iX C P w) P w K mg base N qual (aH st) f ai A outer s H E) (dQ st) t/\t {nx:=λ_ H'=>Q .non H',rt:=Q} (lW N vs) H):bT P w K mg base (iX C P w) (k+1) f fd ps sp:=by
 obtain⟨oc,od,kV,bo,pm,an,ai,ct,cq,rfl,lk,gt⟩:=F.ex
 exact Xk lk gt S len λA outer s H vs Q E hr j2=>uk ai A outer s H vs Q E hr j2
theorem jC{X:Cx}{x:Str}(n:Int){j:Nat}{p pp pos:Pos}(hm:X.mg "ord"=none)(hg:Gl X "ord":=by rfl)(hl:x.length=1:=by decide+kernel)(hn:((x.cps.getD 0 0:Nat):Int)=n:=by decide+kernel)
  (he:starEach [.Constant (.str x) j pp] X.env=(false,eval (.Constant (.str x) j pp) X.env)::starEach [] X.env:=by rfl):PE X (.Call (.Name "ord" p) [.Constant (.str x) j pp] [] pos) (tC (.int n)):=by
 intro pins s σ H Q I h
 refine bK (r:=λxs H Q=>∃x,xs=[.str x]/\x.length=1/\Q (.int (x.cps.getD 0 0:Nat)) H) Ew hg hm boot_ord (aA gM aF he) (by decide) (by decide) he rfl pins s σ H Q I ?_
 refine⟨x,rfl,hl,?_⟩
 rw[hn]
 exact h
end L2
namespace Br1
open PySem PySem.Spec PyProof.Rows L2
section
variable {P:Program} {w:World} {K:PySem.W.Frag} {mg:Str->Option Value} {base:Heap}
def jW(b:Int):Bool:=decide (97<=b) && decide (b<=122)
def jM(b:Int):Bool:=decide (48<=b) && decide (b<=57)
def pM:Sp:=λvs H Q _=>∃b:Int,vs=[.int b]/\Q (.bl (jW b)) H
def nM:Sp:=λvs H Q _=>∃b:Int,vs=[.int b]/\Q (.bl (jM b)) H
theorem Em:aQ ["byte"] ["byte"] (aH nZ):=⟨rfl,rfl,rfl,by decide+kernel,rfl,by decide+kernel,by decide+kernel⟩
theorem Dk{f:Addr}{fd:FuncData}(F:fH K "is_letter" "is_letter" nZ f fd)(kt:mg "ord"=none):bT P w K mg base bU 1 f fd ["byte"] pM:=by
 refine F.ok Em (λvs H Q E h=>?_) (λai A outer s H vs Q E hr h=>?_)
 ·obtain⟨b,rfl,_⟩:=h
  rfl
 ·obtain⟨b,rfl,k⟩:=h
  refine⟨_,aG (aW (mX qZ qZ (jC 97 kt) (pv 0) (jC 122 kt))),?_⟩
  refine⟨_,rfl,_,_,rfl,rfl,_,rfl,bY (λh1=>⟨_,_,rfl,rfl,?_⟩) (λh1=>?_)⟩
  ·have e:jW b=decide (b<=122):=by unfold jW;rw[h1,gz]
   rw[e] at k
   exact k
  ·have e:jW b=false:=by unfold jW;rw[MH h1,j9]
   rw[e] at k
   exact k
theorem Ho:aQ ["byte"] ["byte"] (aH rG):=⟨rfl,rfl,rfl,by decide+kernel,rfl,by decide+kernel,by decide+kernel⟩
theorem Ht{f:Addr}{fd:FuncData}(F:fH K "is_digit" "is_digit" rG f fd)(kt:mg "ord"=none):bT P w K mg base bU 1 f fd ["byte"] nM:=by
 refine F.ok Ho (λvs H Q E h=>?_) (λai A outer s H vs Q E hr h=>?_)
 ·obtain⟨b,rfl,_⟩:=h
  rfl
 ·obtain⟨b,rfl,k⟩:=h
  refine⟨_,aG (aW (mX qZ qZ (jC 48 kt) (pv 0) (jC 57 kt))),?_⟩
  refine⟨_,rfl,_,_,rfl,rfl,_,rfl,bY (λh1=>⟨_,_,rfl,rfl,?_⟩) (λh1=>?_)⟩
  ·have e:jM b=decide (b<=57):=by unfold jM;rw[h1,gz]
   rw[e] at k
   exact k
  ·have e:jM b=false:=by unfold jM;rw[MH h1,j9]
   rw[e] at k
   exact k
end
def RdF(a:Addr)(p:Int):List (Str×V):=[("text",.ref a),("position",.int p)]
theorem Fu(a:Addr)(p:Int):(RdF a p).lookup ("text":Str)=some (V.ref a):=rfl
theorem gS(a:Addr)(p:Int):(RdF a p).lookup ("position":Str)=some (V.int p):=rfl
def iG(CR:Addr)(H:Hp)(r a:Addr)(p:Nat):Prop:=∃dx,H r=some (.ins CR dx (RdF a p))
def SX(r:Addr)(H H':Hp):Prop:=∀b o,H b=some o->b≠r->H' b=some o
theorem SX.refl(r:Addr)(H:Hp):SX r H H:=λ_ _ e _=>e
theorem SX.trans{r:Addr}{H H1 H2:Hp}(a:SX r H H1)(b:SX r H1 H2):SX r H H2:=λc o e n=>b c o (a c o e n) n
theorem SX.upd{r:Addr}{H:Hp}(o:HO):SX r H (upd H r o):=λb u e n=>by rw[aB n];exact e
theorem aK.sx{r:Addr}{H H':Hp}(s:aK H H'):SX r H H':=λb o e _=>s b o e
theorem SX.seq{K:PySem.W.Frag}{r a:Addr}{H H':Hp}{xs:List V}{C dx:Addr}{fs:List (Str×V)}(s:SX r H H')(hr:H r=some (.ins C dx fs))(h:cP K H a xs):cP K H' a xs:=by
 rcases h with (h|⟨o,h⟩)|h
 ·exact .inl (.inl (s _ _ h (by rintro rfl;rw[hr] at h;cases h)))
 ·exact .inl (.inr ⟨o,s _ _ h (by rintro rfl;rw[hr] at h;cases h)⟩)
 ·exact .inr h
theorem SX.seqT{K:PySem.W.Frag}{r a:Addr}{H H':Hp}{xs:List V}{C dx:Addr}{fs:List (Str×V)}(s:SX r H H')(hr:H r=some (.ins C dx fs))(h:cN K H a xs):cN K H' a xs:=by
 rcases h with (h|⟨o,h⟩)|h
 ·exact .inl (.inl (s _ _ h (by rintro rfl;rw[hr] at h;cases h)))
 ·exact .inl (.inr ⟨o,s _ _ h (by rintro rfl;rw[hr] at h;cases h)⟩)
 ·exact .inr h
structure Gh(K:PySem.W.Frag)(CR:Addr):Prop where
 cl:Gf K CR
 nT:dC K CR "text"
 nP:dC K CR "position"
def aR(l:List Int)(p:Nat):Int:=(l[p]?).getD 256
structure jU(K:PySem.W.Frag)(CR:Addr)(H:Hp)(r a:Addr)(l:List Int)(p:Nat):Prop where
 rd:iG CR H r a p
 tx:cP K H a (l.map V.int)
 le:p<=l.length
theorem jU.same{K:PySem.W.Frag}{CR:Addr}{H H':Hp}{r a:Addr}{l:List Int}{p q:Nat}(x:jU K CR H r a l p)(s:SX r H H')(hr:iG CR H' r a q)(hq:q<=l.length):jU K CR H' r a l q:=
 let ⟨_,e⟩:=x.rd
 ⟨hr,s.seq e x.tx,hq⟩
section
variable {P:Program} {w:World} {K:PySem.W.Frag} {mg:Str->Option Value} {base:Heap}
theorem Oc:aQ ["self","fault"] ["self","fault"] (aH pQ):=⟨rfl,rfl,rfl,by decide+kernel,rfl,by decide+kernel,by decide+kernel⟩
theorem Mj{f C:Addr}{fd:FuncData}(F:fH K "__init__" "Stuck.__init__" pQ f fd)(T:Bq K C f):bT P w K mg base bU 1 f fd ["self","fault"] (Zu C):=by
 refine F.ok Oc (λvs H Q E h=>?_) (λai A outer s H vs Q E hr h=>?_)
 ·obtain⟨e,t,n,rfl,_⟩:=h
  rfl
 ·obtain⟨e,t,n,rfl,he,k⟩:=h
  refine⟨_,aG (Vl T (pv 0) (pv 1) rfl),?_⟩
  exact⟨_,rfl,_,rfl,e,t,n,rfl,rfl,he,k⟩
def aCl(CR:Addr):Sp:=λvs H Q _=>∃r dx a:Addr,vs=[.ref r,.ref a]/\H r=some (.ins CR dx [])/\∀H':Hp,iG CR H' r a 0->SX r H H'->Q .non H'
theorem aA4:aQ ["self","text"] ["self","text"] (aH Tv):=⟨rfl,rfl,rfl,by decide+kernel,rfl,by decide+kernel,by decide+kernel⟩
theorem Zl{f CR:Addr}{fd:FuncData}(F:fH K "__init__" "Reader.__init__" Tv f fd)(T:Gh K CR):bT P w K mg base bU 1 f fd ["self","text"] (aCl CR):=by
 refine F.ok aA4 (λvs H Q E h=>?_) (λai A outer s H vs Q E hr h=>?_)
 ·obtain⟨r,dx,a,rfl,_⟩:=h
  rfl
 ·obtain⟨r,dx,a,rfl,hp,k⟩:=h
  refine⟨_,aE (dS (pv 0) (pv 1) rfl) (aG (dS (pv 0) aJ rfl)),?_⟩
  refine⟨_,rfl,_,rfl,r,CR,dx,[],rfl,hp,T.cl,T.nT,(by show 0<1000;decide),?_⟩
  refine⟨_,rfl,r,CR,dx,_,rfl,aC,T.cl,T.nP,(by show 1<1000;decide),?_⟩
  exact k _ ⟨dx,aC⟩ λb o e hb=>by rw[aB hb,aB hb];exact e
def oG(K:PySem.W.Frag)(CR:Addr):Sp:=λvs H Q _=>∃(r a:Addr)(l:List Int)(p:Nat),vs=[.ref r]/\jU K CR H r a l p/\Q (.bl (decide (p=l.length))) H
theorem Qj:aQ ["self"] ["self"] (aH Bh):=⟨rfl,rfl,rfl,by decide+kernel,rfl,by decide+kernel,by decide+kernel⟩
theorem Pt{f CR:Addr}{fd:FuncData}(F:fH K "ended" "Reader.ended" Bh f fd)(T:Gh K CR)(ax:mg "len"=none):bT P w K mg base bU 1 f fd ["self"] (oG K CR):=by
 refine F.ok Qj (λvs H Q E h=>?_) (λai A outer s H vs Q E hr h=>?_)
 ·obtain⟨r,a,l,p,rfl,_⟩:=h
  rfl
 ·obtain⟨r,a,l,p,rfl,⟨⟨dx,h1⟩,tx,le⟩,k⟩:=h
  refine⟨_,aG (aW (lP pU (aO (pv 0) rfl) (bK bI (by rfl) ax PySem.boot_len (aA (aO (pv 0) rfl) aF)) (hU _))),?_⟩
  refine⟨_,rfl,r,CR,dx,_,_,rfl,h1,T.cl,T.nP,gS _ _,_,rfl,r,CR,dx,_,_,rfl,h1,T.cl,T.nT,Fu _ _,a,_,rfl,.inl tx,rfl,?_⟩
  have e:decide (V.int (p:Int)=V.int ((l.map V.int).length:Int))=decide (p=l.length):=by
   rw[ah,uX,f7,cz,bu]
   (clear le;omega)
  show Q (.bl (decide (V.int (p:Int)=V.int ((l.map V.int).length:Int)))) H
  rw[e]
  exact k
structure nI(P:Program)(w:World)(K:PySem.W.Frag)(mg:Str->Option Value)(base:Heap)(CR:Addr)(m:Str)(CX:Gg)(k:Nat)(ps:List Str)(sp:Sp):Prop where
 ex:∃f fd,Wh K CR m f/\bT P w K mg base CX k f fd ps sp/\eY K fd ps []
def oZ(K:PySem.W.Frag)(CR:Addr):Sp:=λvs H Q _=>∃(r a:Addr)(l:List Int)(p:Nat),vs=[.ref r]/\jU K CR H r a l p/\Q (.int (aR l p)) H
theorem Vo:aQ ["self"] ["self"] (aH Jr):=⟨rfl,rfl,rfl,by decide+kernel,rfl,by decide+kernel,by decide+kernel⟩
theorem Tz{f CR:Addr}{fd:FuncData}{tk:Tok}(F:fH K "here" "Reader.here" Jr f fd)(T:Gh K CR)(b7:mg "NO_BYTE"=some (.int 256 tk))(M:nI P w K mg base CR "ended" bU 1 ["self"] (oG K CR)):bT P w K mg base bU 2 f fd ["self"] (oZ K CR):=by
 obtain⟨fe,fde,me,Ge,be⟩:=M.ex
 refine F.ok Vo (λvs H Q E h=>?_) (λai A outer s H vs Q E hr h=>?_)
 ·obtain⟨r,a,l,p,rfl,_⟩:=h
  rfl
 ·obtain⟨r,a,l,p,rfl,x,k⟩:=h
  obtain⟨⟨dx,h1⟩,tx,le⟩:=id x
  refine⟨_,aE (dZ (dY (cB (pv 0) T.cl me Ge hr be .nil aY)) (aG (aW (Cg (v:=.int 256) (by rfl) b7 ⟨tk,rfl⟩))) bX) (aG (aW (bS fJ (aO (pv 0) rfl) (aO (pv 0) rfl) (λ_ _=>rfl)))),?_⟩
  refine⟨_,rfl,r,dx,_,rfl,h1,rfl,r,a,l,p,rfl,x,_,rfl,bY (λhc=>?_) (λhc=>?_)⟩
  ·have e:p=l.length:=dq hc
   have e2:aR l p=256:=by unfold aR;rw[qk (vk e.symm)];rfl
   rw[e2] at k
   exact k
  ·have e:p<l.length:=Nat.lt_of_le_of_ne le λz=>hc (cn z)
   refine⟨_,rfl,r,CR,dx,_,_,rfl,h1,T.cl,T.nT,Fu _ _,_,rfl,r,CR,dx,_,_,rfl,h1,T.cl,T.nP,gS _ _,a,_,_,_,rfl,rfl,tx,fZ (j:=p) (v:=V.int (aR l p)) ?_,k⟩
   unfold aR
   rw[bf,ba e]
   rfl
def pL(K:PySem.W.Frag)(CR:Addr):Sp:=λvs H Q _=>∃(r a:Addr)(l:List Int)(p:Nat),vs=[.ref r]/\jU K CR H r a l p/\∀H':Hp,iG CR H' r a (p+1)->SX r H H'->Q (.int (aR l p)) H'
theorem Iv:aQ ["self","byte"] ["self"] (aH Kg):=⟨rfl,rfl,rfl,by decide+kernel,rfl,by decide+kernel,by decide+kernel⟩
theorem Vg{f CR:Addr}{fd:FuncData}(F:fH K "take" "Reader.take" Kg f fd)(T:Gh K CR)(M:nI P w K mg base CR "here" bU 2 ["self"] (oZ K CR)):bT P w K mg base bU 3 f fd ["self"] (pL K CR):=by
 obtain⟨fe,fde,me,Ge,be⟩:=M.ex
 refine F.ok Iv (λvs H Q E h=>?_) (λai A outer s H vs Q E hr h=>?_)
 ·obtain⟨r,a,l,p,rfl,_⟩:=h
  rfl
 ·obtain⟨r,a,l,p,rfl,x,k⟩:=h
  obtain⟨⟨dx,h1⟩,tx,le⟩:=id x
  refine⟨_,aE (aZ (i:=1) Iv.nd rfl (Or.inl rfl) (cB (pv 0) T.cl me Ge hr be .nil aY)) (aE (Nu (pv 0) aJ Ze) (aG (aW (pv 1)))),?_⟩
  refine⟨_,rfl,r,dx,_,rfl,h1,rfl,r,a,l,p,rfl,x,?_⟩
  refine⟨_,rfl,r,CR,dx,_,_,rfl,h1,T.cl,T.nP,gS _ _,_,_,rfl,rfl,dx,_,h1,(by show 2<1000;decide),?_⟩
  refine⟨_,rfl,k _ ⟨dx,?_⟩ (SX.upd _)⟩
  rw[aC]
  rfl
end
structure Zn(P:Program)(w:World)(K:PySem.W.Frag)(mg:Str->Option Value)(base:Heap)(C:Addr):Prop where
 ex:∃f fd,Bq K C f/\bT P w K mg base bU 1 f fd ["self","fault"] (Zu C)/\eY K fd ["self","fault"] []
 mg:mg "Stuck"=some (.ref C)
theorem gD{l:List Int}{p:Nat}(h:aR l p≠256):p<l.length:=by
 by_cases z:p<l.length
 ·exact z
 ·refine absurd ?_ h
  unfold aR
  rw[qk (Nat.le_of_not_lt z)]
  rfl
theorem iM(x:Int):∀l:List Int,Sw (.int x) (l.map V.int)=decide (x∈l)
 |[]=>by simp[Sw]
 |y::r=>by
  have ih:=iM x r
  unfold Sw at ih ⊢
  rw[bz,tu,ih,f7]
  show ((y==x)||decide (x∈r))=true↔_
  rw[qm,cz,bu,bu,aw]
  constructor
  ·rintro(h|h)
   ·exact .inl h.symm
   ·exact .inr h
  ·rintro(h|h)
   ·exact .inl h.symm
   ·exact .inr h
theorem zJ:∀l:List Int,(l.map V.int).all oS=true
 |[]=>rfl
 |_::r=>by rw[bz,qj,zJ r];rfl
section
variable {P:Program} {w:World} {K:PySem.W.Frag} {mg:Str->Option Value} {base:Heap} {C CR:Addr}
def rA(K:PySem.W.Frag)(CR:Addr):Sp:=λvs H Q E=>∃(r a g:Addr)(l sl:List Int)(p:Nat),vs=[.ref r,.ref g]/\jU K CR H r a l p/\cN K H g (sl.map V.int)/\256∉sl/\
 (aR l p∈sl->∀H':Hp,iG CR H' r a (p+1)->SX r H H'->Q (.int (aR l p)) H')/\(aR l p∉sl->E (.int p 0) none H)
theorem Ot:aQ ["self","signs"] ["self","signs"] (aH Bf):=⟨rfl,rfl,rfl,by decide+kernel,rfl,by decide+kernel,by decide+kernel⟩
theorem Rt{f:Addr}{fd:FuncData}(F:fH K "read_one_of" "Reader.read_one_of" Bf f fd)(T:Gh K CR)(S:Zn P w K mg base C)(M1:nI P w K mg base CR "here" bU 2 ["self"] (oZ K CR))(M2:nI P w K mg base CR "take" bU 3 ["self"] (pL K CR)):
  bT P w K mg base (iX C P w) 4 f fd ["self","signs"] (rA K CR):=by
 obtain⟨f1,m6,m1,G1,b1⟩:=M1.ex
 obtain⟨f2,uu,m2,G2,b2⟩:=M2.ex
 obtain⟨fx,yr,XT,GX,bx⟩:=S.ex
 refine F.okX Ot (λvs H Q E h=>?_) (λai A outer s H vs Q E hr h=>?_)
 ·obtain⟨r,a,g,l,sl,p,rfl,_⟩:=h
  rfl
 ·obtain⟨r,a,g,l,sl,p,rfl,x,hg,jf,k1,k2⟩:=h
  obtain⟨⟨dx,h1⟩,tx,le⟩:=id x
  have ay:=hr.mono (j:=2) (by decide)
  refine⟨_,aE (dZ (iB kY (cB (pv 0) T.cl m1 G1 ay b1 .nil aY) (pv 1) (by with_unfolding_all rfl)) (aG (mV aN rfl XT GX ay (by rfl) S.mg bx (aO (pv 0) rfl))) bX)
   (aG (aW (cB (pv 0) T.cl m2 G2 hr b2 .nil aY))),?_⟩
  refine⟨_,rfl,r,dx,_,rfl,h1,rfl,r,a,l,p,rfl,x,_,rfl,g,_,rfl,.inr hg,rfl,zJ sl,_,rfl,bY (λhc=>?_) (λhc=>?_)⟩
  ·have hc:(!Sw (.int (aR l p)) (sl.map V.int))=true:=hc
   rw[iM,ck,j0] at hc
   exact⟨_,rfl,r,CR,dx,_,_,rfl,h1,T.cl,T.nP,gS _ _,_,rfl,k2 hc⟩
  ·have hc:¬(!Sw (.int (aR l p)) (sl.map V.int))=true:=hc
   rw[iM,ck,j0,xz] at hc
   exact⟨_,rfl,r,dx,_,rfl,h1,rfl,r,a,l,p,rfl,x,k1 hc⟩
end
end Br1
namespace L2
open PySem PySem.Spec PyProof.Rows
theorem Wg{x:Str}{g:TG}{tb:TS}{D:fY}{σ:St}{H:Hp}(Pv:Nat->St->Hp->Prop)(h0:Pv 0 σ H)
  (hs:∀i c σ H,x.cps[i]?=some c->Pv i σ H->g (.str ⟨#[c]⟩) σ H λau H2=>tb {D with nx:=Pv (i+1),ct:=Pv (i+1),bk:=D.nx} au H2) (hd:∀ σ H,Pv x.cps.size σ H->D.nx σ H):
  ∃W:Nat->Nat->St->Hp->Prop,(∃m,W 0 m σ H)/\∀i m σ H,W i m σ H->
   ((Its x).stop i H/\D.nx σ H)\/((Its x).go i H/\∃N:St->Hp->Prop,(∀ae H',N ae H'->∃m',m'<m/\W (i+1) m' ae H')/\∀v H',(Its x).yld i H v H'->g v σ H' λau H2=>tb {D with nx:=N,ct:=N,bk:=D.nx} au H2):=by
 refine⟨λi m σ H=>m=x.cps.size - i/\i<=x.cps.size/\Pv i σ H,⟨x.cps.size,by simp,da _,h0⟩,?_⟩
 rintro i m σ H ⟨rfl,hi,p⟩
 by_cases aj:i<x.cps.size
 ·refine .inr ⟨aj,Pv (i+1),λae H' p'=>⟨x.cps.size - (i+1),by (clear hi;omega),rfl,aj,p'⟩,λv H' y=>?_⟩
  obtain⟨e,c,hc,rfl⟩:=y
  subst e
  exact hs i c σ _ hc p
 ·have e:i=x.cps.size:=by omega
  subst e
  exact .inl ⟨ap _,hd σ H p⟩
end L2
namespace Br1
open PySem PySem.Spec PyProof.Rows L2
def aU(l:List Int):Nat->List Nat->Except Nat Nat
 |p,[]=>.ok p
 |p,c::r=>if aR l p=c then aU l (p+1) r else .error p
def gX(b:Int):Bool:=jW b||jM b
def bE(l:List Int):Nat->Nat->List Int
 |_,0=>[]
 |p,n+1=>if gX (aR l p)=true then aR l p::bE l (p+1) n else []
def dA(l:List Int)(hi:Int):Nat->Nat->Int->Int×Nat
 |0,p,v=>(v,p)
 |n+1,p,v=>if 0<v/\jM (aR l p)=true/\v * 10+aR l p - 48<=hi then dA l hi n (p+1) (v * 10+aR l p - 48) else (v,p)
def jN(l:List Int)(p:Nat)(lo hi:Int):Prop:=jM (aR l p)=true/\lo<=aR l p - 48/\aR l p - 48<=hi
def eD(l:List Int)(p:Nat)(hi:Int):Int×Nat:=dA l hi (l.length - (p+1)) (p+1) (aR l p - 48)
theorem Sl{l:List Int}{p:Nat}(h:gX (aR l p)=true):p<l.length:=gD λz=>by rw[z] at h;revert h;decide
theorem Oy{l:List Int}{p:Nat}(h:jM (aR l p)=true):p<l.length:=gD λz=>by rw[z] at h;revert h;decide
theorem iK{b:Int}(h:jM b=true):48<=b/\b<=57:=by
 unfold jM at h
 rw[cg,bu,bu] at h
 exact h
section
variable {P:Program} {w:World} {K:PySem.W.Frag} {mg:Str->Option Value} {base:Heap} {C CR:Addr}
def lD(K:PySem.W.Frag)(CR:Addr):Sp:=λvs H Q E=>∃(r a:Addr)(l:List Int)(p:Nat)(x:Str),vs=[.ref r,.str x]/\jU K CR H r a l p/\(∀c∈x.cps.toList,c<256)/\
 match aU l p x.cps.toList with
 |.ok p'=>∀H':Hp,iG CR H' r a p'->p'<=l.length->SX r H H'->Q .non H'
 |.error i=>∀H':Hp,SX r H H'->E (.int i 0) none H'
theorem Lc:aQ ["self","word","sign"] ["self","word"] (aH Jq):=⟨rfl,rfl,rfl,by decide+kernel,rfl,by decide+kernel,by decide+kernel⟩
theorem Xd{f:Addr}{fd:FuncData}(F:fH K "read_word" "Reader.read_word" Jq f fd)(T:Gh K CR)(kt:mg "ord"=none)(M1:nI P w K mg base CR "read_one_of" (iX C P w) 4 ["self","signs"] (rA K CR)):
  bT P w K mg base (iX C P w) 5 f fd ["self","word"] (lD K CR):=by
 obtain⟨f1,m6,m1,G1,b1⟩:=M1.ex
 refine F.okX Lc (λvs H Q E h=>?_) (λai A outer s H vs Q E hr h=>?_)
 ·obtain⟨r,a,l,p,x,rfl,_⟩:=h
  rfl
 ·obtain⟨r,a,l,p,x,rfl,tx,hx,k⟩:=h
  refine⟨_,aG (eB aN.own rfl (aAd (pv 1)) (bH (i:=2) Lc.nd rfl (Or.inl rfl))
   (aG (cA (cX (pv 0) T.cl m1 G1 hr b1 .nil aN.pass (aA (eN (aA (bK Ew (by rfl) kt boot_ord (aA (pv 2) aF)) aF)) aF))))),?_⟩
  refine⟨_,rfl,x,rfl,Wg (λi σ H'=>∃v2:Option V,σ=[some (.ref r),some (.str x),v2]/\SX r H H'/\jU K CR H' r a l (p+i)/\aU l p x.cps.toList=aU l (p+i) (x.cps.toList.drop i))
   ⟨none,rfl,SX.refl r H,tx,rfl⟩ ?_ ?_⟩
  ·rintro i c σ H1 hc ⟨v2,rfl,s1,x1,e1⟩
   have jp:x.cps.toList[i]?=some c:=by rw[G5];exact hc
   have i6:x.cps.toList.drop i=c::x.cps.toList.drop (i+1):=by
    obtain⟨aj,e⟩:=bh.mp jp
    rw[<-e]
    exact C3 aj
   rw[i6] at e1
   have UL:c<256:=hx c (dg jp)
   obtain⟨⟨dx,h1⟩,_,_⟩:=id x1
   refine⟨_,rfl,r,dx,_,rfl,h1,rfl,⟨_,rfl,⟨#[c]⟩,rfl,rfl,(by show 1<=sizeLine;decide),λg hg=>?_⟩⟩
   have sg:aK H1 (upd H1 g (.tup [.int c])):=λb o e=>by rw[aB (aD e hg)];exact e
   have x2:jU K CR (upd H1 g (.tup [.int c])) r a l (p+i):=x1.same (aK.sx sg) ⟨dx,sg _ _ h1⟩ x1.le
   refine⟨r,a,g,l,[(c:Int)],p+i,rfl,x2,.inl (.inl aC),by simp;omega,λaq H2 ay s2=>?_,λaq=>?_⟩
   ·have aq:aR l (p+i)=c:=by simpa using aq
    have lt:p+i<l.length:=gD (by rw[aq];(clear aq;omega))
    refine⟨_,rfl,(s1.trans (aK.sx sg)).trans s2,x2.same s2 ay lt,?_⟩
    rw[e1]
    show (if aR l (p+i)=c then _ else _)=_
    rw[ac aq]
    rfl
   ·have aq:¬aR l (p+i)=c:=by simpa using aq
    have e2:aU l p x.cps.toList=.error (p+i):=by
     rw[e1]
     show (if aR l (p+i)=c then _ else _)=_
     rw[aa aq]
    rw[e2] at k
    exact k _ (s1.trans (aK.sx sg))
  ·rintro σ H1 ⟨v2,rfl,s1,x1,e1⟩
   have e2:aU l p x.cps.toList=.ok (p+x.cps.size):=by
    rw[e1,List.drop_eq_nil_of_le (by simp)]
    rfl
   rw[e2] at k
   exact k H1 x1.rd x1.le s1
def yO(K:PySem.W.Frag)(CR:Addr):Sp:=λvs H Q E=>∃(r a:Addr)(l:List Int)(p:Nat),vs=[.ref r]/\jU K CR H r a l p/\(p=l.length->Q .non H)/\(p≠l.length->E (.int p 0) none H)
theorem Yi:aQ ["self"] ["self"] (aH Wu):=⟨rfl,rfl,rfl,by decide+kernel,rfl,by decide+kernel,by decide+kernel⟩
theorem aA0{f:Addr}{fd:FuncData}(F:fH K "read_end" "Reader.read_end" Wu f fd)(T:Gh K CR)(S:Zn P w K mg base C)(M1:nI P w K mg base CR "ended" bU 1 ["self"] (oG K CR)):
  bT P w K mg base (iX C P w) 3 f fd ["self"] (yO K CR):=by
 obtain⟨f1,m6,m1,G1,b1⟩:=M1.ex
 obtain⟨fx,yr,XT,GX,bx⟩:=S.ex
 refine F.okX Yi (λvs H Q E h=>?_) (λai A outer s H vs Q E hr h=>?_)
 ·obtain⟨r,a,l,p,rfl,_⟩:=h
  rfl
 ·obtain⟨r,a,l,p,rfl,x,k1,k2⟩:=h
  obtain⟨⟨dx,h1⟩,tx,le⟩:=id x
  refine⟨_,aG (dZ (kX (dY (cB (pv 0) T.cl m1 G1 (hr.mono (by decide)) b1 .nil aY))) (aG (mV aN rfl XT GX hr (by rfl) S.mg bx (aO (pv 0) rfl))) bX),?_⟩
  refine⟨_,rfl,r,dx,_,rfl,h1,rfl,r,a,l,p,rfl,x,_,rfl,bY (λhc=>?_) (λhc=>?_)⟩
  ·rw[ck,j0] at hc
   exact⟨_,rfl,r,CR,dx,_,_,rfl,h1,T.cl,T.nP,gS _ _,_,rfl,k2 hc⟩
  ·rw[ck,j0,xz] at hc
   exact k1 hc
end
theorem bJ:20000<sizeLine:=by rw[tq];decide
theorem cZ{b:Bool}(h:¬b=true):b=false:=by cases b<;>simp_all
section
variable {P:Program} {w:World} {K:PySem.W.Frag} {mg:Str->Option Value} {base:Heap} {C CR:Addr}
structure dL(P:Program)(w:World)(K:PySem.W.Frag)(mg:Str->Option Value)(base:Heap)(x:Str)(CX:Gg)(k:Nat)(ps:List Str)(sp:Sp):Prop where
 ex:∃f fd,bT P w K mg base CX k f fd ps sp/\eY K fd ps []/\PySem.W.keepIn K (.ref f)=true/\mg x=some (.ref f)
theorem Am{l:List Int}{p i n:Nat}{xs:List Int}(e:bE l p (i+(n+1))=xs++bE l (p+i) (n+1))(h:gX (aR l (p+i))=true):bE l p (i+(n+1))=(xs++[aR l (p+i)])++bE l (p+(i+1)) n:=by
 rw[e,ox]
 congr 1
 show (if gX (aR l (p+i))=true then _ else _)=_
 rw[ac h]
 rfl
def Kv(CR:Addr)(H:Hp)(r a q:Addr)(l:List Int)(p L:Nat)(m:Nat)(σ:List (Option V))(H':Hp):Prop:=
 ∃i,m+i=L/\∃xs:List Int,σ=[some (.ref r),some (.int L),some (.ref q)]/\xs.length=i/\SX r H H'/\iG CR H' r a (p+i)/\p+i<=l.length/\H' q=some (.lst (xs.map V.int))/\bE l p L=xs++bE l (p+i) m
theorem yV{H H1:Hp}{r a q:Addr}{l:List Int}{p i n:Nat}{xs:List Int}{D:fY}(x:jU K CR H r a l p)(hq:H q=none)(lz:r≠q)(l0:xs.length=i)(hL:i+(n+1)<=1000)(s1:SX r H H1)(a7:iG CR H1 r a (p+i))(gu:p+i<=l.length)
  (m7:H1 q=some (.lst (xs.map V.int))) (e1:bE l p (i+(n+1))=xs++bE l (p+i) (n+1)) (ha:gX (aR l (p+i))=true) (hD:∀ σ H',Kv CR H r a q l p (i+(n+1)) n σ H'->D.nx σ H'):
  yZ (tBM K "list" Kd (eF 2) (eR (mH CR "take" (pL K CR) [] E0 (eF 0) gY) gY)) D [some (.ref r),some (.int ((i+(n+1):Nat):Int)),some (.ref q)] H1:=by
 have lt:=Sl ha
 obtain⟨jg,g1⟩:=id a7
 refine⟨_,rfl,.inl ⟨rfl,_,cP.of m7⟩,_,rfl,r,jg,_,rfl,g1,rfl,r,a,l,p+i,rfl,x.same s1 a7 gu,λH2 ay s2=>?_⟩
 have cu:H2 q=some (.lst (xs.map V.int)):=s2 _ _ m7 (ao lz)
 refine⟨q,_,_,rfl,rfl,cu,?_,?_⟩
 ·rw[ah]
  have:=bJ
  (clear lt gu;omega)
 ·obtain⟨l3,g2⟩:=ay
  have s3:SX r H (upd H2 q (.lst (xs.map V.int++[V.int (aR l (p+i))]))):=λb o e hb=>by
   rw[aB (aD e hq)]
   exact s2 b o (s1 b o e hb) hb
  refine hD _ _ ⟨i+1,by (clear lt gu hL l0;omega),xs++[aR l (p+i)],rfl,by simp[l0],s3,⟨l3,by rw[aB lz];exact g2⟩,lt,?_,Am e1 ha⟩
  rw[aC,cp]
  rfl
def oW(K:PySem.W.Frag)(CR:Addr):Sp:=λvs H Q E=>∃(r a:Addr)(l:List Int)(p L:Nat),vs=[.ref r,.int L]/\jU K CR H r a l p/\L<=1000/\
 (jW (aR l p)=true->∀(H':Hp)(q:Addr),iG CR H' r a (p+(bE l p L).length)->p+(bE l p L).length<=l.length->SX r H H'->H' q=some (.tup ((bE l p L).map V.int))->Q (.ref q) H')/\
 (jW (aR l p)=false->E (.int p 0) none H)
theorem Jd:aQ ["self","longest","name"] ["self","longest"] (aH Kh):=⟨rfl,rfl,rfl,by decide+kernel,rfl,by decide+kernel,by decide+kernel⟩
theorem Vj{f:Addr}{fd:FuncData}(F:fH K "read_name" "Reader.read_name" Kh f fd)(T:Gh K CR)(S:Zn P w K mg base C)(ax:mg "len"=none)(yt:mg "tuple"=none)
  (M1:nI P w K mg base CR "here" bU 2 ["self"] (oZ K CR)) (M2:nI P w K mg base CR "take" bU 3 ["self"] (pL K CR)) (L1:dL P w K mg base "is_letter" bU 1 ["byte"] pM) (L2:dL P w K mg base "is_digit" bU 1 ["byte"] nM):
  bT P w K mg base (iX C P w) 4 f fd ["self","longest"] (oW K CR):=by
 obtain⟨f1,m6,m1,G1,b1⟩:=M1.ex
 obtain⟨f2,uu,m2,G2,b2⟩:=M2.ex
 obtain⟨g1,gh,GL,bL,kL,hL⟩:=L1.ex
 obtain⟨g2,ku,GD,bD,kD,hD⟩:=L2.ex
 obtain⟨fx,yr,XT,GX,bx⟩:=S.ex
 refine F.okX Jd (λvs H Q E h=>?_) (λai A outer s H vs Q E hr h=>?_)
 ·obtain⟨r,a,l,p,L,rfl,_⟩:=h
  rfl
 ·obtain⟨r,a,l,p,L,rfl,x,yu,k1,k2⟩:=h
  obtain⟨⟨dx,h1⟩,tx,le⟩:=id x
  have ay:=hr.mono (j:=2) (by decide)
  have a7:=hr.mono (j:=1) (by decide)
  refine⟨_,aE (dZ (kX (dY (aT GL a7 (by rfl) hL kL bL .nil aY (aA (cB (pv 0) T.cl m1 G1 ay b1 .nil aY) aF)))) (aG (mV aN rfl XT GX ay (by rfl) S.mg bx (aO (pv 0) rfl))) bX)
   (aE (aZ (i:=2) Jd.nd rfl (Or.inl rfl) (dU aF))
   (aE (iQ aN.own (gA (dE (Ix (bK bI (by rfl) ax PySem.boot_len (aA (pv 2) aF)) (pv 1)))
     (gP (Kx (dY (aT GL a7 (by rfl) hL kL bL .nil aY (aA (cB (pv 0) T.cl m1 G1 ay b1 .nil aY) aF))) (Bm (dY (aT GD a7 (by rfl) hD kD bD .nil aY (aA (cB (pv 0) T.cl m1 G1 ay b1 .nil aY) aF))))).pt)).pt
    (aG (cA (mW PySem.F.plainAttrs_list PySem.F.slot_list_append PySem.F.type_list_append eM (pv 2) (aA (cB (pv 0) T.cl m2 G2 hr b2 .nil aY) aF)))))
   (aG (aW (sN oQ (by rfl) yt boot_tuple (aA (pv 2) aF)))))),?_⟩
  refine⟨_,rfl,r,dx,_,rfl,h1,rfl,r,a,l,p,rfl,x,_,rfl,_,rfl,bY (λhc=>?_) (λhc=>?_)⟩
  ·rw[ck] at hc
   exact⟨_,rfl,r,CR,dx,_,_,rfl,h1,T.cl,T.nP,gS _ _,_,rfl,k2 hc⟩
  ·rw[ck,x0] at hc
   refine⟨da _,λq hq=>?_⟩
   have sq:aK H (upd H q (.lst [])):=λb o e=>by rw[aB (aD e hq)];exact e
   have lz:r≠q:=aD h1 hq
   refine⟨Kv CR H r a q l p L,⟨L,0,rfl,[],rfl,rfl,aK.sx sq,⟨dx,sq _ _ h1⟩,le,aC,rfl⟩,?_⟩
   rintro m σ H1 ⟨i,UM,xs,rfl,l0,s1,a7,gu,m7,e1⟩
   have x1:=x.same s1 a7 gu
   obtain⟨jg,g1⟩:=id a7
   have fin:bE l p L=xs->∀t,H1 t=none->Q (.ref t) (upd H1 t (.tup (xs.map V.int))):=by
    intro e2 t ht
    have st:aK H1 (upd H1 t (.tup (xs.map V.int))):=λb o e=>by rw[aB (aD e ht)];exact e
    refine k1 hc _ t ⟨jg,?_⟩ ?_ (s1.trans (aK.sx st)) ?_
    ·rw[e2,l0];exact st _ _ g1
    ·rw[e2,l0];exact gu
    ·rw[e2];exact aC
   refine⟨_,rfl,q,_,rfl,.inl (cP.of m7),_,rfl,_,_,rfl,rfl,_,rfl,bY (λaj=>?_) (λaj=>?_)⟩
   ·have aj:((xs.map V.int).length:Int)<(L:Int):=dq aj
    rw[ah] at aj
    obtain⟨n,rfl⟩:∃n,m=n+1:=⟨m - 1,by (clear gu le yu;omega)⟩
    obtain rfl:L=i+(n+1):=by (clear aj gu l0 le yu;omega)
    refine⟨_,rfl,r,jg,_,rfl,g1,rfl,r,a,l,p+i,rfl,x1,_,rfl,_,rfl,bY (λhl=>Rs ?_) (λhl=>?_)⟩
    ·exact⟨Kv CR H r a q l p (i+(n+1)) n,λ_ _ z=>⟨n,jl n,z⟩,yV x hq lz l0 yu s1 a7 gu m7 e1 (by unfold gX;rw[hl];rfl) λ_ _ z=>z⟩
    ·refine⟨_,rfl,r,jg,_,rfl,g1,rfl,r,a,l,p+i,rfl,x1,_,rfl,_,rfl,bY (λhd=>?_) (λhd=>?_)⟩
     ·exact⟨Kv CR H r a q l p (i+(n+1)) n,λ_ _ z=>⟨n,jl n,z⟩,yV x hq lz l0 yu s1 a7 gu m7 e1 (by unfold gX;rw[hd,Bool.or_true]) λ_ _ z=>z⟩
     ·refine⟨_,rfl,q,_,rfl,.inl ⟨cP.of m7,fin ?_⟩⟩
      rw[e1]
      show xs++(if gX (aR l (p+i))=true then _ else _)=xs
      rw[aa (by unfold gX;rw[cZ hl,cZ hd];decide),f8]
   ·have aj:¬((xs.map V.int).length:Int)<(L:Int):=λz=>aj (cn z)
    rw[ah] at aj
    refine pO ⟨_,rfl,q,_,rfl,.inl ⟨cP.of m7,fin ?_⟩⟩
    rw[e1,show m=0 by (clear gu le yu;omega)]
    exact f8 _
end
section
variable {P:Program} {w:World} {K:PySem.W.Frag} {mg:Str->Option Value} {base:Heap} {C CR:Addr}
def aB2(CR:Addr)(H:Hp)(r a:Addr)(l:List Int)(p:Nat)(lo hi:Int)(m:Nat)(σ:List (Option V))(H':Hp):Prop:=
 ∃(q:Nat)(v:Int),m+q=l.length/\σ=[some (.ref r),some (.int lo),some (.int hi),some (.int v)]/\SX r H H'/\iG CR H' r a q/\0<=v/\v<=hi/\eD l p hi=dA l hi m q v
def kI(K:PySem.W.Frag)(CR:Addr):Sp:=λvs H Q E=>∃(r a:Addr)(l:List Int)(p:Nat)(lo hi:Int),vs=[.ref r,.int lo,.int hi]/\jU K CR H r a l p/\0<=lo/\hi<=100000/\
 (jN l p lo hi->∀H':Hp,iG CR H' r a (eD l p hi).2->(eD l p hi).2<=l.length->0<=(eD l p hi).1->(eD l p hi).1<=hi->SX r H H'->Q (.int (eD l p hi).1) H')/\(¬jN l p lo hi->E (.int p 0) none H)
theorem rX:aQ ["self","least","most","value"] ["self","least","most"] (aH uH):=⟨rfl,rfl,rfl,by decide+kernel,rfl,by decide+kernel,by decide+kernel⟩
theorem Ms{f:Addr}{fd:FuncData}(F:fH K "read_number" "Reader.read_number" uH f fd)(T:Gh K CR)(S:Zn P w K mg base C)(kt:mg "ord"=none)
  (M1:nI P w K mg base CR "here" bU 2 ["self"] (oZ K CR)) (M2:nI P w K mg base CR "take" bU 3 ["self"] (pL K CR)) (L2:dL P w K mg base "is_digit" bU 1 ["byte"] nM):
  bT P w K mg base (iX C P w) 4 f fd ["self","least","most"] (kI K CR):=by
 obtain⟨f1,m6,m1,G1,b1⟩:=M1.ex
 obtain⟨f2,uu,m2,G2,b2⟩:=M2.ex
 obtain⟨g2,ku,GD,bD,kD,hD⟩:=L2.ex
 obtain⟨fx,yr,XT,GX,bx⟩:=S.ex
 refine F.okX rX (λvs H Q E h=>?_) (λai A outer s H vs Q E hr h=>?_)
 ·obtain⟨r,a,l,p,lo,hi,rfl,_⟩:=h
  rfl
 ·obtain⟨r,a,l,p,lo,hi,rfl,x,bi,dy,k1,k2⟩:=h
  obtain⟨⟨dx,h1⟩,tx,le⟩:=id x
  have ay:=hr.mono (j:=2) (by decide)
  have a7:=hr.mono (j:=1) (by decide)
  refine⟨_,aE (dZ (Kx (kX (dY (aT GD a7 (by rfl) hD kD bD .nil aY (aA (cB (pv 0) T.cl m1 G1 ay b1 .nil aY) aF))))
     (Bm (kX (Po qZ qZ (pv 1) (cR eU (cB (pv 0) T.cl m1 G1 ay b1 .nil aY) (jC 48 kt)) (pv 2))))).pt (aG (mV aN rfl XT GX ay (by rfl) S.mg bx (aO (pv 0) rfl))) bX)
   (aE (aZ (i:=3) rX.nd rfl (Or.inl rfl) (cR eU (cB (pv 0) T.cl m2 G2 hr b2 .nil aY) (jC 48 kt)))
   (aE (iQ aN.own (gA (dE (qM (pv 3) aJ)) (gA (dY (aT GD a7 (by rfl) hD kD bD .nil aY (aA (cB (pv 0) T.cl m1 G1 ay b1 .nil aY) aF)))
     (gP (dE (aBf (cR eU (cR gH (cR Pf (pv 3) aJ) (cB (pv 0) T.cl m1 G1 ay b1 .nil aY)) (jC 48 kt)) (pv 2)))))).pt
    (aG (aZ (i:=3) rX.nd rfl (Or.inl rfl) (cR eU (cR gH (cR Pf (pv 3) aJ) (cB (pv 0) T.cl m2 G2 hr b2 .nil aY)) (jC 48 kt)))))
   (aG (aW (pv 3))))),?_⟩
  refine⟨_,rfl,r,dx,_,rfl,h1,rfl,r,a,l,p,rfl,x,_,rfl,_,rfl,bY (λhc=>Rs ?_) (λhc=>?_)⟩
  ·rw[ck] at hc
   exact⟨_,rfl,r,CR,dx,_,_,rfl,h1,T.cl,T.nP,gS _ _,_,rfl,k2 λz=>by rw[z.1] at hc;cases hc⟩
  ·rw[ck,x0] at hc
   refine⟨_,rfl,_,rfl,r,dx,_,rfl,h1,rfl,r,a,l,p,rfl,x,_,_,rfl,rfl,_,_,rfl,rfl,_,rfl,bY (λh3=>⟨_,rfl,_,_,rfl,rfl,_,rfl,bY (λh4=>?_) (λh4=>?_)⟩) (λh3=>⟨_,rfl,Rs ?_⟩)⟩
   ·rw[ck,j0] at h4
    exact⟨_,rfl,r,CR,dx,_,_,rfl,h1,T.cl,T.nP,gS _ _,_,rfl,k2 λz=>h4 z.2.2⟩
   ·rw[ck,j0,xz] at h4
    have h3:=dq h3
    have hn:jN l p lo hi:=⟨hc,h3,h4⟩
    have lt:=Oy hc
    have dr:=iK hc
    refine⟨_,rfl,r,dx,_,rfl,h1,rfl,r,a,l,p,rfl,x,λH1 a7 s1=>⟨_,_,rfl,rfl,?_⟩⟩
    refine⟨aB2 CR H r a l p lo hi,⟨l.length - (p+1),p+1,aR l p - 48,by (clear dr h3 h4 le dy bi;omega),rfl,s1,a7,by (clear dr lt h4 le dy;omega),h4,rfl⟩,?_⟩
    rintro m σ H2 ⟨q,v,yw,rfl,s2,ay,v0,vh,e2⟩
    have x2:=x.same s2 ay (by (clear vh v0 dr lt h3 h4 le dy bi;omega))
    obtain⟨l3,g2⟩:=id ay
    have fin:eD l p hi=(v,q)->Q (.int v) H2:=λe3=>by
     have z:=k1 hn H2
     rw[e3] at z
     exact z ay (by show q<=l.length;(clear vh v0 dr lt h3 h4 le dy bi;omega)) v0 vh s2
    refine⟨_,rfl,_,_,rfl,rfl,_,rfl,bY (λh5=>?_) (λh5=>pO ⟨_,rfl,fin ?_⟩)⟩
    ·have h5:=dq h5
     refine⟨_,rfl,r,l3,_,rfl,g2,rfl,r,a,l,q,rfl,x2,_,rfl,_,rfl,bY (λh6=>?_) (λh6=>pO ⟨_,rfl,fin ?_⟩)⟩
     ·have ww:=Oy h6
      have wx:=iK h6
      obtain⟨n,rfl⟩:∃n,m=n+1:=⟨m - 1,by (clear wx h5 vh v0 dr lt h3 h4 le dy bi;omega)⟩
      refine⟨_,rfl,_,_,rfl,rfl,.inl ⟨by (clear yw wx ww h5 vh dr lt h3 h4 le dy bi;omega),by (clear yw wx ww h5 v0 dr lt h3 h4 le bi;omega)⟩,_,rfl,r,l3,_,rfl,g2,rfl,r,a,l,q,rfl,x2,_,_,rfl,rfl,_,_,rfl,rfl,_,rfl,_,_,rfl,rfl,_,rfl,bY (λh7=>?_) (λh7=>⟨_,rfl,fin ?_⟩)⟩
      ·have h7:=dq h7
       refine⟨aB2 CR H r a l p lo hi n,λ_ _ z=>⟨n,jl n,z⟩,?_⟩
       refine⟨_,rfl,_,_,rfl,rfl,.inl ⟨by (clear h7 yw wx ww h5 vh dr lt h3 h4 le dy bi;omega),by (clear h7 yw wx ww h5 v0 dr lt h3 h4 le bi;omega)⟩,_,rfl,r,l3,_,rfl,g2,rfl,r,a,l,q,rfl,x2,λH3 ig s3=>⟨_,_,rfl,rfl,_,_,rfl,rfl,?_⟩⟩
       refine⟨q+1,v * 10+aR l q - 48,by (clear h7 wx ww h5 vh v0 dr lt h3 h4 le dy bi;omega),rfl,s2.trans s3,ig,by (clear h7 yw ww h5 vh dr lt h3 h4 le dy bi;omega),h7,?_⟩
       rw[e2]
       show (if _ then _ else _)=_
       rw[ac ⟨h5,h6,h7⟩]
      ·rw[e2]
       show (if _ then _ else _)=_
       rw[aa λz=>h7 (cn z.2.2)]
     ·rw[e2]
      cases m with
      |zero=>rfl
      |succ n=>
       show (if _ then _ else _)=_
       rw[aa λz=>h6 z.2.1]
    ·rw[e2]
     cases m with
     |zero=>rfl
     |succ n=>
      show (if _ then _ else _)=_
      rw[aa λz=>h5 (cn z.1)]
   ·exact⟨_,rfl,r,CR,dx,_,_,rfl,h1,T.cl,T.nP,gS _ _,_,rfl,k2 λz=>h3 (cn z.2.1)⟩
end
def gG{α:Type}(x:α):Except Nat (List α×Nat)->Except Nat (List α×Nat)
 |.ok r=>.ok (x::r.1,r.2)
 |.error i=>.error i
def bV(l:List Int):Nat->Nat->Except Nat (List Int×Nat)
 |0,p=>.ok ([],p)
 |n+1,p=>if aR l p∈cJ then gG (aR l p) (bV l n (p+1)) else .error p
def fC(l:List Int)(w p:Nat):Except Nat (List Int×Nat):=match bV l w p with
 |.ok r=>if aR l r.2=10 then .ok (r.1,r.2+1) else .error r.2
 |.error i=>.error i
def bN(l:List Int)(w:Nat):Nat->Nat->Except Nat (List (List Int)×Nat)
 |0,p=>.ok ([],p)
 |n+1,p=>match fC l w p with
  |.ok r=>gG r.1 (bN l w n r.2)
  |.error i=>.error i
def fV{α:Type}(xs:List α):Except Nat (List α×Nat)->Except Nat (List α×Nat)
 |.ok r=>.ok (xs++r.1,r.2)
 |.error i=>.error i
theorem kR{α:Type}(r:Except Nat (List α×Nat)):fV [] r=r:=by cases r<;>rfl
theorem iR{α:Type}(xs:List α)(x:α)(r:Except Nat (List α×Nat)):fV xs (gG x r)=fV (xs++[x]) r:=by
 cases r with
 |error i=>rfl
 |ok r=>unfold fV gG;simp
abbrev eI(x y z:Int):List dP:=[Sum.inl x,Sum.inl y,Sum.inl z]
def eZ(y z:Nat):Nat->List Int->List (List dP×V)
 |_,[]=>[]
 |x,s::r=>(if s=46 then [] else [(eI x y z,V.int s)])++eZ y z (x+1) r
def dR(d:Nat):Nat->List (List Int)->List (List dP×V)
 |_,[]=>[]
 |j,r::rs=>eZ (j % d) (j / d) 0 r++dR d (j+1) rs
theorem vH(y z:Nat)(s:Int):∀(xs:List Int)(x:Nat),eZ y z x (xs++[s])=eZ y z x xs++(if s=46 then [] else [(eI ((x+xs.length:Nat):Int) y z,V.int s)])
 |[],x=>by simp[eZ]
 |a::r,x=>by
  show _++eZ y z (x+1) (r++[s])=(_++eZ y z (x+1) r)++_
  rw[vH y z s r (x+1),<-ox,bn,show x+1+r.length=x+(r.length+1) by omega]
theorem tL(d:Nat)(r:List Int):∀(rs:List (List Int)) (j:Nat),dR d j (rs++[r])=dR d j rs++eZ ((j+rs.length) % d) ((j+rs.length) / d) 0 r
 |[],j=>by simp[dR]
 |a::rs,j=>by
  show _++dR d (j+1) (rs++[r])=(_++dR d (j+1) rs)++_
  rw[tL d r rs (j+1),<-ox,bn,show j+1+rs.length=j+(rs.length+1) by omega]
theorem rV{y z:Nat}{kv:List dP×V}:∀{xs:List Int}{x:Nat},kv∈eZ y z x xs->∃x':Nat,kv.1=eI x' y z/\x<=x'/\x'<x+xs.length
 |[],x,h=>by simp[eZ] at h
 |a::r,x,h=>by
  have h:kv∈(if a=46 then [] else [(eI x y z,V.int a)])++eZ y z (x+1) r:=h
  rcases c9.mp h with h|h
  ·split at h
   ·cases h
   ·rw[b5.mp h]
    exact⟨x,rfl,ap _,by simp⟩
  ·obtain⟨x',e,h1,h2⟩:=rV h
   exact⟨x',e,by (clear h2;omega),by rw[bn];(clear h1;omega)⟩
theorem wP{d:Nat}{kv:List dP×V}:∀{rs:List (List Int)} {j:Nat},kv∈dR d j rs->∃x' j':Nat,kv.1=eI x' ((j' % d:Nat):Int) ((j' / d:Nat):Int)/\j<=j'/\j'<j+rs.length
 |[],j,h=>by simp[dR] at h
 |a::rs,j,h=>by
  have h:kv∈eZ (j % d) (j / d) 0 a++dR d (j+1) rs:=h
  rcases c9.mp h with h|h
  ·obtain⟨x',e,_⟩:=rV h
   exact⟨x',j,e,ap _,by simp⟩
  ·obtain⟨x',j',e,h1,h2⟩:=wP h
   exact⟨x',j',e,by (clear h2;omega),by rw[bn];(clear h1;omega)⟩
theorem sA(y z:Nat):∀(xs:List Int)(x:Nat),(eZ y z x xs).length<=xs.length
 |[],x=>by simp[eZ]
 |a::r,x=>by
  show (_++eZ y z (x+1) r).length<=_
  rw[b6,bn]
  have:=sA y z r (x+1)
  split<;>simp<;>omega
theorem pB(d w:Nat):∀(rs:List (List Int)) (j:Nat),(∀r∈rs,r.length=w)->(dR d j rs).length<=rs.length * w
 |[],j,_=>by simp[dR]
 |a::rs,j,h=>by
  show (eZ (j % d) (j / d) 0 a++dR d (j+1) rs).length<=_
  have h1:=sA (j % d) (j / d) a 0
  have h2:=pB d w rs (j+1) λr hr=>h r (az _ hr)
  have h3:=h a bg
  rw[b6,bn,ka]
  omega
theorem Mw{κ:Type}[DecidableEq κ]{aI:List (κ×V)}{k:κ}(h:∀kv∈aI,kv.1≠k):jA aI k=none:=by
 unfold jA
 rw[MI.mpr λkv ko=>by simpa using h kv ko]
 rfl
theorem Vm{d:Nat}{rs:List (List Int)}{xs:List Int}(hd:0<d):jA (dR d 0 rs++eZ (rs.length % d) (rs.length / d) 0 xs) (eI (xs.length:Int) ((rs.length % d:Nat):Int) ((rs.length / d:Nat):Int))=none:=by
 refine Mw λkv ko e=>?_
 rcases c9.mp ko with h|h
 ·obtain⟨x',j',e',h1,h2⟩:=wP h
  rw[e'] at e
  simp only[eI,List.cons.injEq,Sum.inl.injEq,and_true] at e
  obtain⟨_,e1,e2⟩:=e
  have q1:=C4 j' d
  have q2:=C4 rs.length d
  have EA:j' % d=rs.length % d:=by (clear q2 q1 e2 h2 h1 hd;omega)
  have JG:j' / d=rs.length / d:=by (clear EA q2 q1 e1 h2 h1 hd;omega)
  rw[EA,JG] at q1
  (clear JG EA e2 e1 h1 hd;omega)
 ·obtain⟨x',e',h1,h2⟩:=rV h
  rw[e'] at e
  simp only[eI,List.cons.injEq,Sum.inl.injEq,and_true] at e
  obtain⟨e1,_⟩:=e
  (clear h1 hd;omega)
section
variable {P:Program} {w:World} {K:PySem.W.Frag} {mg:Str->Option Value} {base:Heap} {C CR CP:Addr}
def CI(mg:Str->Option Value)(x:Str)(n:Int):Prop:=∃tk,mg x=some (.int n tk)
theorem eV{X:Cx}{x:Str}{n:Int}{pos:Pos}(h:CI X.mg x n)(hg:Gl X x:=by rfl)(hd:(x==("__debug__":Str))=false:=by decide):PE X (.Name x pos) (tC (.int n)):=by
 obtain⟨tk,h⟩:=h
 exact Cg hg h ⟨tk,rfl⟩ hd
def eA(s:Int):Bool:=decide (s=115)||decide (s=98)
def dD(s:Int):Bool:=decide (s=116)||decide (s=98)
def rQ:Sp:=λvs H Q _=>∃s:Int,vs=[.int s]/\Q (.bl (eA s)) H
def rW:Sp:=λvs H Q _=>∃s:Int,vs=[.int s]/\Q (.bl (dD s)) H
theorem gZ(i j:Int):decide (V.int i=V.int j)=decide (i=j):=by rw[uX,CA]
theorem Uf:aQ ["sign"] ["sign"] (aH qH):=⟨rfl,rfl,rfl,by decide+kernel,rfl,by decide+kernel,by decide+kernel⟩
theorem Ut{f:Addr}{fd:FuncData}(F:fH K "has_stud" "has_stud" qH f fd)(h1:CI mg "STUD" 115)(h2:CI mg "BOTH" 98):bT P w K mg base bU 1 f fd ["sign"] rQ:=by
 refine F.ok Uf (λvs H Q E h=>?_) (λai A outer s H vs Q E hr h=>?_)
 ·obtain⟨b,rfl,_⟩:=h
  rfl
 ·obtain⟨b,rfl,k⟩:=h
  refine⟨_,aG (aW (Rf (lP pU (pv 0) (eV h1) (hU _)) (sF (lP pU (pv 0) (eV h2) (hU _))))),?_⟩
  unfold eA at k
  rw[<-gZ,<-gZ] at k
  refine⟨_,rfl,rfl,_,rfl,bY (λh=>?_) (λh=>⟨_,rfl,rfl,?_⟩)⟩
  ·rw[h] at k;exact k
  ·rw[cZ h] at k;exact k
theorem Vc:aQ ["sign"] ["sign"] (aH qP):=⟨rfl,rfl,rfl,by decide+kernel,rfl,by decide+kernel,by decide+kernel⟩
theorem Vz{f:Addr}{fd:FuncData}(F:fH K "has_tube" "has_tube" qP f fd)(h1:CI mg "TUBE" 116)(h2:CI mg "BOTH" 98):bT P w K mg base bU 1 f fd ["sign"] rW:=by
 refine F.ok Vc (λvs H Q E h=>?_) (λai A outer s H vs Q E hr h=>?_)
 ·obtain⟨b,rfl,_⟩:=h
  rfl
 ·obtain⟨b,rfl,k⟩:=h
  refine⟨_,aG (aW (Rf (lP pU (pv 0) (eV h1) (hU _)) (sF (lP pU (pv 0) (eV h2) (hU _))))),?_⟩
  unfold dD at k
  rw[<-gZ,<-gZ] at k
  refine⟨_,rfl,rfl,_,rfl,bY (λh=>?_) (λh=>⟨_,rfl,rfl,?_⟩)⟩
  ·rw[h] at k;exact k
  ·rw[cZ h] at k;exact k
def lQ:Sp:=λvs H Q _=>∃(g:Addr)(x y z:Int),vs=[.ref g]/\H g=some (.tup [.int x,.int y,.int z])/\∀q,H q=none->Q (.ref q) (upd H q (.tup [.int x,.int y,.int (z+1)]))
def nX:Sp:=λvs H Q _=>∃(g:Addr)(x y z:Int),vs=[.ref g]/\H g=some (.tup [.int x,.int y,.int z])/\∀q,H q=none->Q (.ref q) (upd H q (.tup [.int x,.int y,.int (z - 1)]))
theorem Rv:aQ ["place"] ["place"] (aH Bk):=⟨rfl,rfl,rfl,by decide+kernel,rfl,by decide+kernel,by decide+kernel⟩
theorem Qx{f:Addr}{fd:FuncData}(F:fH K "above" "above" Bk f fd):bT P w K mg base bU 1 f fd ["place"] lQ:=by
 refine F.ok Rv (λvs H Q E h=>?_) (λai A outer s H vs Q E hr h=>?_)
 ·obtain⟨g,x,y,z,rfl,_⟩:=h
  rfl
 ·obtain⟨g,x,y,z,rfl,hg,k⟩:=h
  refine⟨_,aG (aW (eN (aA (bS bO (pv 0) aJ (λ_ _=>rfl)) (aA (bS bO (pv 0) aJ (λ_ _=>rfl)) (aA (cR gH (bS bO (pv 0) aJ (λ_ _=>rfl)) aJ) aF))))),?_⟩
  refine⟨_,rfl,g,_,_,_,rfl,rfl,cN.of hg,rfl,_,rfl,g,_,_,_,rfl,rfl,cN.of hg,rfl,_,rfl,g,_,_,_,rfl,rfl,cN.of hg,rfl,_,_,rfl,rfl,(by show 3<=sizeLine;decide),k⟩
theorem Tg:aQ ["place"] ["place"] (aH Aq):=⟨rfl,rfl,rfl,by decide+kernel,rfl,by decide+kernel,by decide+kernel⟩
theorem Rw{f:Addr}{fd:FuncData}(F:fH K "below" "below" Aq f fd):bT P w K mg base bU 1 f fd ["place"] nX:=by
 refine F.ok Tg (λvs H Q E h=>?_) (λai A outer s H vs Q E hr h=>?_)
 ·obtain⟨g,x,y,z,rfl,_⟩:=h
  rfl
 ·obtain⟨g,x,y,z,rfl,hg,k⟩:=h
  refine⟨_,aG (aW (eN (aA (bS bO (pv 0) aJ (λ_ _=>rfl)) (aA (bS bO (pv 0) aJ (λ_ _=>rfl)) (aA (cR eU (bS bO (pv 0) aJ (λ_ _=>rfl)) aJ) aF))))),?_⟩
  refine⟨_,rfl,g,_,_,_,rfl,rfl,cN.of hg,rfl,_,rfl,g,_,_,_,rfl,rfl,cN.of hg,rfl,_,rfl,g,_,_,_,rfl,rfl,cN.of hg,rfl,_,_,rfl,rfl,(by show 3<=sizeLine;decide),k⟩
def On(nm:Addr)(W D Hh g:Int)(cells:Addr):List (Str×V):=[("name",.ref nm),("width",.int W),("depth",.int D),("height",.int Hh),("weight",.int g),("cells",.ref cells)]
structure Nn(K:PySem.W.Frag)(CP:Addr):Prop where
 cl:Gf K CP
 n1:dC K CP "name"
 n2:dC K CP "width"
 n3:dC K CP "depth"
 n4:dC K CP "height"
 n5:dC K CP "weight"
 n6:dC K CP "cells"
def Ky(CP:Addr):Sp:=λvs H Q _=>∃(r dx nm cells:Addr)(W D Hh g:Int),vs=[.ref r,.ref nm,.int W,.int D,.int Hh,.int g,.ref cells]/\H r=some (.ins CP dx [])/\∀H':Hp,H' r=some (.ins CP dx (On nm W D Hh g cells))->SX r H H'->Q .non H'
theorem Pg:aQ ["self","name","width","depth","height","weight","cells"] ["self","name","width","depth","height","weight","cells"] (aH Cf):=⟨rfl,rfl,rfl,by decide+kernel,rfl,by decide+kernel,by decide+kernel⟩
theorem Su{f:Addr}{fd:FuncData}(F:fH K "__init__" "Part.__init__" Cf f fd)(T:Nn K CP):bT P w K mg base bU 1 f fd ["self","name","width","depth","height","weight","cells"] (Ky CP):=by
 refine F.ok Pg (λvs H Q E h=>?_) (λai A outer s H vs Q E hr h=>?_)
 ·obtain⟨r,dx,nm,cells,W,D,Hh,g,rfl,_⟩:=h
  rfl
 ·obtain⟨r,dx,nm,cells,W,D,Hh,g,rfl,hp,k⟩:=h
  refine⟨_,aE (dS (pv 0) (pv 1) rfl) (aE (dS (pv 0) (pv 2) rfl) (aE (dS (pv 0) (pv 3) rfl) (aE (dS (pv 0) (pv 4) rfl) (aE (dS (pv 0) (pv 5) rfl) (aG (dS (pv 0) (pv 6) rfl)))))),?_⟩
  refine⟨_,rfl,_,rfl,r,CP,dx,_,rfl,hp,T.cl,T.n1,(by show 0<1000;decide),?_⟩
  refine⟨_,rfl,_,rfl,r,CP,dx,_,rfl,aC,T.cl,T.n2,(by show 1<1000;decide),?_⟩
  refine⟨_,rfl,_,rfl,r,CP,dx,_,rfl,aC,T.cl,T.n3,(by show 2<1000;decide),?_⟩
  refine⟨_,rfl,_,rfl,r,CP,dx,_,rfl,aC,T.cl,T.n4,(by show 3<1000;decide),?_⟩
  refine⟨_,rfl,_,rfl,r,CP,dx,_,rfl,aC,T.cl,T.n5,(by show 4<1000;decide),?_⟩
  refine⟨_,rfl,_,rfl,r,CP,dx,_,rfl,aC,T.cl,T.n6,(by show 5<1000;decide),?_⟩
  exact k _ aC λb o e hb=>by rw[aB hb,aB hb,aB hb,aB hb,aB hb,aB hb];exact e
end
end Br1
namespace L2
open PySem PySem.Spec PyProof.Rows
theorem lL{n:Nat}{g:TG}{tb:TS}{D:fY}{σ:St}{H:Hp}(Pv:Nat->St->Hp->Prop)(h0:Pv 0 σ H)
  (hs:∀i σ H,i<n->Pv i σ H->g (.int (i:Int)) σ H λau H2=>tb {D with nx:=Pv (i+1),ct:=Pv (i+1),bk:=D.nx} au H2) (hd:∀ σ H,Pv n σ H->D.nx σ H):
  ∃W:Nat->Nat->St->Hp->Prop,(∃m,W 0 m σ H)/\∀i m σ H,W i m σ H->
   ((Ob 0 ((n:Int)).toNat).stop i H/\D.nx σ H)\/((Ob 0 ((n:Int)).toNat).go i H/\∃N:St->Hp->Prop,(∀ae H',N ae H'->∃m',m'<m/\W (i+1) m' ae H')/\∀x H',(Ob 0 ((n:Int)).toNat).yld i H x H'->g x σ H' λau H2=>tb {D with nx:=N,ct:=N,bk:=D.nx} au H2):=by
 rw[jm]
 refine sE (lo:=0) (n:=n) Pv h0 (λi σ H hi p=>?_) hd
 rw[Int.zero_add]
 exact hs i σ H hi p
end L2
namespace Br1
open PySem PySem.Spec PyProof.Rows L2
theorem Nv{l:List Int}{w n pr i:Nat}{rs:List (List Int)}(h:bV l w pr=.error i):fV rs (bN l w (n+1) pr)=.error i:=by
 have e:fC l w pr=.error i:=by
  unfold fC
  rw[h]
 unfold bN
 rw[e]
 rfl
theorem Tm{l:List Int}{w n pr q:Nat}{rs:List (List Int)}{xs:List Int}(h:bV l w pr=.ok (xs,q))(h2:¬aR l q=10):fV rs (bN l w (n+1) pr)=.error q:=by
 have e:fC l w pr=.error q:=by
  unfold fC
  rw[h]
  exact aa h2
 unfold bN
 rw[e]
 rfl
theorem Zj{l:List Int}{w n pr q:Nat}{rs:List (List Int)}{xs:List Int}(h:bV l w pr=.ok (xs,q))(h2:aR l q=10):fV rs (bN l w (n+1) pr)=fV (rs++[xs]) (bN l w n (q+1)):=by
 have e:fC l w pr=.ok (xs,q+1):=by
  unfold fC
  rw[h]
  exact ac h2
 rw[<-iR]
 show fV rs (bN l w (n+1) pr)=_
 rw[bN,e]
theorem qE:("\n":Str).cps.toList=[10]:=by decide+kernel
section
variable {P:Program} {w:World} {K:PySem.W.Frag} {mg:Str->Option Value} {base:Heap} {C CR CP:Addr}
def Bg(K:PySem.W.Frag)(CR:Addr):Sp:=λvs H Q E=>∃(r a:Addr)(l:List Int)(p W D Hh:Nat),vs=[.ref r,.int W,.int D,.int Hh]/\jU K CR H r a l p/\W<=16/\D<=16/\Hh<=18/\0<D/\
 match bN l W (D * Hh) p with
 |.ok q=>∀(H':Hp)(c:Addr),iG CR H' r a q.2->q.2<=l.length->SX r H H'->H c=none->H' c=some (.dT (dR D 0 q.1))->(∀x∈q.1,x.length=W)->Q (.ref c) H'
 |.error i=>∀H':Hp,SX r H H'->E (.int i 0) none H'
structure CS(CR:Addr)(H:Hp)(r a c:Addr)(l:List Int)(d:Nat)(rs:List (List Int))(xs:List Int)(p':Nat)(H':Hp):Prop where
 sx:SX r H H'
 rd:iG CR H' r a p'
 le:p'<=l.length
 dc:H' c=some (.dT (dR d 0 rs++eZ (rs.length % d) (rs.length / d) 0 xs))
def SgC(r c:Addr)(W D Hh z y:Nat)(v7 v8:Option V):List (Option V):=[some (.ref r),some (.int W),some (.int D),some (.int Hh),some (.ref c),some (.int z),some (.int y),v7,v8]
abbrev aAg(K:PySem.W.Frag)(CR aS:Addr)(E:XK):TS:=Cu (Cn (mH CR "read_one_of" (rA K CR) [] E (eF 0) (eR (tC (.ref aS)) gY)) (mG 8)) (Za (Qg (Rc rNe (eF 8) (tC (.int 46)))) (Xs (eF 4) (aB1 (eR (eF 7) (eR (eF 6) (eR (eF 5) gY)))) (eF 8)) Yb)
theorem Gx{H H1:Hp}{r a c aS:Addr}{l:List Int}{p W D Hh z y i pr p':Nat}{rs:List (List Int)}{xs:List Int}{v8:Option V}{E:XK}{Dn:fY}(x:jU K CR H r a l p)(hc:H c=none)(yx:r≠c)(hS:∀H,cN K H aS (cJ.map V.int))(hW:W<=16)
  (BB:rs.length<=300) (kx:∀q∈rs,q.length=W) (hD:0<D) (hz:z=rs.length / D) (hy:y=rs.length % D) (hi:i<W) (hx:xs.length=i) (cs:CS CR H r a c l D rs xs p' H1) (e1:bV l W pr=fV xs (bV l (W - i) p'))
  (kE:∀q,bV l W pr=.error q->∀H',SX r H H'->E (.int q 0) none H')
  (kN:∀(v8:Option V)(H':Hp)(yy:List Int)(q:Nat),yy.length=i+1->CS CR H r a c l D rs yy q H'->bV l W pr=fV yy (bV l (W - (i+1)) q)->Dn.nx (SgC r c W D Hh z y (some (.int i)) v8) H'):
  aAg K CR aS E Dn (SgC r c W D Hh z y (some (.int i)) v8) H1:=by
 subst hz hy
 obtain⟨dx,h1⟩:=id cs.rd
 have x1:=x.same cs.sx cs.rd cs.le
 obtain⟨n,hn⟩:∃n,W - i=n+1:=⟨W - i - 1,by (clear hx hD BB hW;omega)⟩
 have kg:W - (i+1)=n:=by (clear hx hi hD BB hW;omega)
 rw[hn] at e1
 refine⟨_,rfl,r,dx,_,rfl,h1,rfl,⟨r,a,aS,l,cJ,p',rfl,x1,hS H1,by decide,λaq H2 ay s2=>?_,λaq=>?_⟩⟩
 ·have lt:p'<l.length:=gD λq=>by rw[q] at aq;revert aq;decide
  have e2:bV l W pr=fV (xs++[aR l p']) (bV l n (p'+1)):=by
   rw[e1,<-iR]
   show fV xs (if aR l p'∈cJ then _ else _)=_
   rw[ac aq]
  have c2:H2 c=some (.dT (dR D 0 rs++eZ (rs.length % D) (rs.length / D) 0 xs)):=s2 _ _ cs.dc (ao yx)
  have ls:(xs++[aR l p']).length=i+1:=by simp[hx]
  have ek:=vH (rs.length % D) (rs.length / D) (aR l p') xs 0
  rw[kd] at ek
  refine⟨_,rfl,rfl,_,rfl,bY (λak=>?_) (λak=>?_)⟩
  ·have ak:¬aR l p'=46:=by
    intro q
    rw[q] at ak
    revert ak
    decide
   rw[aa ak,hx] at ek
   refine⟨_,rfl,_,rfl,_,rfl,_,rfl,_,rfl,(by show 3<=sizeLine;decide),λg hg=>?_⟩
   have sg:aK H2 (upd H2 g (.tup [.int i,.int ((rs.length % D:Nat):Int),.int ((rs.length / D:Nat):Int)])):=λb o e=>by rw[aB (aD e hg)];exact e
   refine⟨c,_,rfl,wS.t (k:=eI i ((rs.length % D:Nat):Int) ((rs.length / D:Nat):Int)) (sg _ _ c2) aC ?_,?_⟩
   ·have h1:=pB D W rs 0 kx
    have h2:=sA (rs.length % D) (rs.length / D) xs 0
    have h3:rs.length * W<=300 * 16:=C5 BB hW
    have:=bJ
    rw[b6]
    (clear ak ls lt kg hn hD BB;omega)
   ·have kn:=Vm (d:=D) (rs:=rs) (xs:=xs) hD
    rw[hx] at kn
    have kp:=rF (V.int (aR l p')) kn
    refine kN _ _ (xs++[aR l p']) (p'+1) ls ⟨λb o e hb=>?_,?_,lt,?_⟩ (by rw[kg];exact e2)
    ·rw[aB (aD e hc)]
     exact sg b o (s2 b o (cs.sx b o e hb) hb)
    ·obtain⟨l3,g2⟩:=ay
     exact⟨l3,by rw[aB yx];exact sg _ _ g2⟩
    ·rw[aC,kp,ox,ek]
  ·have ak:aR l p'=46:=by
    refine Classical.byContradiction λq=>ak ?_
    show (!decide (V.int (aR l p')=V.int 46))=true
    rw[gZ,jx q]
    rfl
   rw[ac ak,f8] at ek
   refine kN _ _ (xs++[aR l p']) (p'+1) ls ⟨cs.sx.trans s2,ay,lt,?_⟩ (by rw[kg];exact e2)
   rw[ek]
   exact c2
 ·refine kE p' ?_ _ cs.sx
  rw[e1]
  show fV xs (if aR l p'∈cJ then _ else _)=_
  rw[aa aq]
  rfl
end
theorem Ad{l:List Int}:∀{n p:Nat}{r:List Int×Nat},bV l n p=.ok r->r.1.length=n
 |0,p,r,h=>by cases h;rfl
 |n+1,p,r,h=>by
  rw[bV] at h
  split at h
  ·cases e:bV l n (p+1) with
   |error i=>rw[e] at h;cases h
   |ok q=>
    rw[e] at h
    cases h
    show (_::q.1).length=n+1
    rw[bn,Ad e]
  ·cases h
section
variable {P:Program} {w:World} {K:PySem.W.Frag} {mg:Str->Option Value} {base:Heap} {C CR CP:Addr}
theorem kG:aQ ["reader","width","depth","height","cells","z","y","x","sign"] ["reader","width","depth","height"] (aH kU):=⟨rfl,rfl,rfl,by decide+kernel,rfl,by decide+kernel,by decide+kernel⟩
theorem Qk{f aS:Addr}{fd:FuncData}(F:fH K "read_cells" "read_cells" kU f fd)(T:Gh K CR)(m8:mg "range"=none)(hS:∀H,cN K H aS (cJ.map V.int))(O7:mg "SIGNS"=some (.ref aS))(O8:CI mg "NO_CELL" 46)
  (M1:nI P w K mg base CR "read_one_of" (iX C P w) 4 ["self","signs"] (rA K CR)) (M2:nI P w K mg base CR "read_word" (iX C P w) 5 ["self","word"] (lD K CR)):
  bT P w K mg base (iX C P w) 6 f fd ["reader","width","depth","height"] (Bg K CR):=by
 obtain⟨f1,m6,m1,G1,b1⟩:=M1.ex
 obtain⟨f2,uu,m2,G2,b2⟩:=M2.ex
 refine F.okX kG (λvs H Q E h=>?_) (λai A outer s H vs Q E hr h=>?_)
 ·obtain⟨r,a,l,p,W,D,Hh,rfl,_⟩:=h
  rfl
 ·obtain⟨r,a,l,p,W,D,Hh,rfl,x,hW,hD,hH,jh,k⟩:=h
  obtain⟨⟨dx,h1⟩,tx,le⟩:=id x
  have gv:=hr.mono (j:=4) (by decide)
  have hu:=jY hr
  refine⟨_,aE (aZ (i:=4) kG.nd rfl (Or.inl rfl) kF)
   (aE (eB aN.own rfl (iL rfl m8 (aA (pv 3) aF)) (bH (i:=5) kG.nd rfl (Or.inl rfl))
    (aG (eB aN.own rfl (iL rfl m8 (aA (pv 2) aF)) (bH (i:=6) kG.nd rfl (Or.inl rfl))
     (aE (eB aN.own rfl (iL rfl m8 (aA (pv 1) aF)) (bH (i:=7) kG.nd rfl (Or.inl rfl))
      (aE (aZ (i:=8) kG.nd rfl (Or.inl rfl) (cX (pv 0) T.cl m1 G1 gv b1 .nil aN.pass (aA (Cg (v:=.ref aS) (by rfl) O7 rfl) aF)))
      (aG (dZ (iB aBy (pv 8) (eV O8) (hU _)) (aG (lN hu (pv 4) (eN (aA (pv 7) (aA (pv 6) (aA (pv 5) aF)))) (pv 8) rfl)) bX))))
     (aG (cA (cX (pv 0) T.cl m2 G2 hr b2 .nil aN.pass (aA gM aF))))))))
   (aG (aW (pv 4)))),?_⟩
  intro c hc
  have yx:r≠c:=aD h1 hc
  have JH:aK H (upd H c (.dT [])):=λb o e=>by rw[aB (aD e hc)];exact e
  refine⟨_,rfl,_,rfl,by (clear hu le jh hH hD hW;omega),by (clear hu le jh hD hW;omega),lL (n:=Hh) (λz σ H'=>∃(rs:List (List Int)) (p':Nat) (v5 v6 v7 v8:Option V),σ=[some (.ref r),some (.int W),some (.int D),some (.int Hh),some (.ref c),v5,v6,v7,v8]/\
   rs.length=z * D/\(∀q∈rs,q.length=W)/\CS CR H r a c l D rs [] p' H'/\bN l W (D * Hh) p=fV rs (bN l W (D * Hh - z * D) p'))
   ⟨[],p,none,none,none,none,rfl,by simp,(λq hq=>nomatch hq),⟨aK.sx JH,⟨dx,JH _ _ h1⟩,le,aC⟩,by rw[kR,Nat.zero_mul,C6]⟩ ?_ ?_⟩
  ·rintro z σ H1 hz ⟨rs,p1,v5,v6,v7,v8,rfl,ji,kx,cs,e1⟩
   have zD:z * D+D<=D * Hh:=by
    rw[kb D Hh,<-ka]
    exact ya D hz
   have DH:D * Hh<=16 * 18:=C5 hD hH
   refine⟨_,rfl,_,rfl,by (clear DH zD ji hz hu le jh hH hD hW;omega),by (clear DH zD ji hz hu le jh hH hW;omega),lL (n:=D) (λy σ H'=>∃(rs:List (List Int)) (p':Nat) (v6 v7 v8:Option V),σ=[some (.ref r),some (.int W),some (.int D),some (.int Hh),some (.ref c),some (.int z),v6,v7,v8]/\
    rs.length=z * D+y/\(∀q∈rs,q.length=W)/\CS CR H r a c l D rs [] p' H'/\bN l W (D * Hh) p=fV rs (bN l W (D * Hh - (z * D+y)) p'))
    ⟨rs,p1,v6,v7,v8,rfl,ji,kx,cs,e1⟩ ?_ ?_⟩
   ·rintro y σ H2 hy ⟨rs,pr,v6,v7,v8,rfl,ji,kx,cs,e1⟩
    obtain⟨n,hn⟩:∃n,D * Hh - (z * D+y)=n+1:=⟨D * Hh - (z * D+y) - 1,by (clear ji DH hz hu le jh hH hD hW;omega)⟩
    have kg:D * Hh - (z * D+(y+1))=n:=by (clear ji hy DH zD hz hu le jh hH hD hW;omega)
    rw[hn] at e1
    have ey:y=rs.length % D:=by
     rw[ji,jz,vq,vt hy]
    have ez:z=rs.length / D:=by
     rw[ji,jz,vw _ _ jh,vx hy,kd]
    have kE:∀q,bN l W (D * Hh) p=.error q->∀H',SX r H H'->E (.int q 0) none H':=λq e H' s'=>by
     rw[e] at k
     exact k H' s'
    refine⟨_,rfl,_,rfl,by (clear ez ey kg hn ji hy DH zD hz hu le jh hH hD hW;omega),by (clear ez ey kg hn ji hy DH zD hz hu le jh hH hD;omega),lL (n:=W) (λi σ H'=>∃(xs:List Int)(p':Nat)(v7 v8:Option V),σ=SgC r c W D Hh z y v7 v8/\xs.length=i/\CS CR H r a c l D rs xs p' H'/\bV l W pr=fV xs (bV l (W - i) p'))
     ⟨[],pr,v7,v8,rfl,rfl,cs,by rw[kR,C6]⟩ ?_ ?_⟩
    ·rintro i σ H3 hi ⟨xs,p',v7,v8,rfl,hx,cs,e2⟩
     exact Gx x hc yx hS hW (by (clear hx hi ez ey kg hn hz hu le jh hH hD hW;omega)) kx jh ez ey hi hx cs e2 (λq e H' s'=>kE q (by rw[e1];exact Nv e) H' s') λv8 H' yy q g1 g2 g3=>⟨yy,q,_,v8,rfl,g1,g2,g3⟩
    ·rintro σ H3 ⟨xs,p',v7,v8,rfl,hx,cs,e2⟩
     have e3:bV l W pr=.ok (xs,p'):=by
      rw[e2,AF]
      show Except.ok (xs++[],p')=_
      rw[f8]
     obtain⟨BC,g3⟩:=id cs.rd
     refine⟨_,rfl,r,BC,_,rfl,g3,rfl,r,a,l,p',"\n",rfl,x.same cs.sx cs.rd cs.le,?_,?_⟩
     ·rw[qE]
      intro q hq
      rw[b5.mp hq]
      decide
     ·rw[qE]
      have ew:aU l p' [10]=if aR l p'=10 then .ok (p'+1) else .error p':=rfl
      rw[ew]
      by_cases du:aR l p'=10
      ·rw[ac du]
       intro H4 gv JI s4
       have c4:H4 c=some (.dT (dR D 0 rs++eZ (rs.length % D) (rs.length / D) 0 xs)):=s4 _ _ cs.dc (ao yx)
       refine⟨rs++[xs],p'+1,_,v7,v8,rfl,by simp[ji];(clear JI du hx ez ey kg hn ji hy DH zD hz hu le jh hH hD hW;omega),λq hq=>?_,⟨cs.sx.trans s4,gv,JI,?_⟩,?_⟩
       ·rcases c9.mp hq with hq|hq
        ·exact kx q hq
        ·rw[b5.mp hq];exact hx
       ·have ek:=tL D xs rs 0
        rw[kd] at ek
        rw[ek,c4]
        show _=some (HO.dT ((_++_)++[]))
        rw[f8]
       ·rw[e1,Zj e3 du,kg]
      ·rw[aa du]
       intro H4 s4
       exact kE p' (by rw[e1];exact Tm e3 du) H4 (cs.sx.trans s4)
   ·rintro σ H2 ⟨rs,p',v6,v7,v8,rfl,ji,kx,cs,e1⟩
    exact⟨rs,p',_,v6,v7,v8,rfl,by rw[ji,ka],kx,cs,by rw[ka];exact e1⟩
  ·rintro σ H1 ⟨rs,p',v5,v6,v7,v8,rfl,ji,kx,cs,e1⟩
   have e2:bN l W (D * Hh) p=.ok (rs,p'):=by
    rw[e1,kb Hh D,AF]
    show Except.ok (rs++[],p')=_
    rw[f8]
   rw[e2] at k
   refine⟨_,rfl,k H1 c cs.rd cs.le cs.sx hc ?_ kx⟩
   rw[cs.dc]
   show some (HO.dT (_++[]))=_
   rw[f8]
end
def eG{α β:Type}(r:Except Nat α)(f:α->Except Nat β):Except Nat β:=match r with
 |.ok a=>f a
 |.error i=>.error i
theorem bZ{α β:Type}(a:α)(f:α->Except Nat β):eG (.ok a) f=f a:=rfl
theorem Cd{α β:Type}(i:Nat)(f:α->Except Nat β):eG (.error i) f=.error i:=rfl
instance {l:List Int} {p:Nat} {lo hi:Int}:Decidable (jN l p lo hi):=by unfold jN;infer_instance
def gE(l:List Int)(p L:Nat):Except Nat (List Int×Nat):=if jW (aR l p)=true then .ok (bE l p L,p+(bE l p L).length) else .error p
def iY(l:List Int)(p:Nat)(lo hi:Int):Except Nat (Nat×Nat):=if jN l p lo hi then .ok ((eD l p hi).1.toNat,(eD l p hi).2) else .error p
structure aM where
 name:List Int
 w:Nat
 d:Nat
 h:Nat
 g:Nat
 rows:List (List Int)
def dN(l:List Int)(p:Nat):Except Nat (aM×Nat):=
 eG (aU l p [112,97,114,116,32]) λp1=>eG (gE l p1 8) λnm=>eG (aU l nm.2 [32]) λp3=>eG (iY l p3 1 16) λw=>eG (aU l w.2 [32]) λp5=>eG (iY l p5 1 16) λd=>
 eG (aU l d.2 [32]) λp7=>eG (iY l p7 1 18) λh=>eG (aU l h.2 [32]) λp9=>eG (iY l p9 1 9999) λg=>eG (aU l g.2 [10]) λwy=>eG (bN l w.1 (d.1 * h.1) wy) λrs=>.ok (⟨nm.1,w.1,d.1,h.1,g.1,rs.1⟩,rs.2)
theorem Lh:("part ":Str).cps.toList=[112,97,114,116,32]:=by decide+kernel
theorem iS:(" ":Str).cps.toList=[32]:=by decide+kernel
theorem Qu:∀{l:List Int}{hi:Int}{n p:Nat}{v:Int},1<=v->1<=(dA l hi n p v).1
 |l,hi,0,p,v,h=>h
 |l,hi,n+1,p,v,h=>by
  rw[dA]
  split
  ·rename_i q
   have:=iK q.2.1
   exact Qu (by (clear q;omega))
  ·exact h
theorem Wf{l:List Int}{p:Nat}{lo hi:Int}(h:jN l p lo hi):iY l p lo hi=.ok ((eD l p hi).1.toNat,(eD l p hi).2):=ac h
theorem Rj{l:List Int}{p:Nat}{lo hi:Int}(h:¬jN l p lo hi):iY l p lo hi=.error p:=aa h
section
variable {P:Program} {w:World} {K:PySem.W.Frag} {mg:Str->Option Value} {base:Heap} {C CR CP:Addr}
theorem yK{H:Hp}{r a:Addr}{l:List Int}{p:Nat}{x:Str}{cs:List Nat}{Q:V->Hp->Prop}{E:XK}(hx:x.cps.toList=cs)(jf:∀c∈cs,c<256)(tx:jU K CR H r a l p)
  (k1:∀p',aU l p cs=.ok p'->∀H',jU K CR H' r a l p'->SX r H H'->Q .non H') (k2:∀i,aU l p cs=.error i->∀H',SX r H H'->E (.int i 0) none H'):lD K CR [.ref r,.str x] H Q E:=by
 refine⟨r,a,l,p,x,rfl,tx,by rw[hx];exact jf,?_⟩
 rw[hx]
 cases e:aU l p cs with
 |ok p'=>exact λH' hr hl s=>k1 p' e H' (tx.same s hr hl) s
 |error i=>exact λH' s=>k2 i e H' s
theorem Dt{H:Hp}{r a:Addr}{l:List Int}{p:Nat}{lo:Int}{hi:Nat}{Q:V->Hp->Prop}{E:XK}(tx:jU K CR H r a l p)(bi:0<=lo)(dy:hi<=100000)
  (k1:∀v:Nat×Nat,iY l p lo hi=.ok v->v.1<=hi->(1<=lo->1<=v.1)->∀H',jU K CR H' r a l v.2->SX r H H'->Q (.int v.1) H') (k2:iY l p lo hi=.error p->E (.int p 0) none H):kI K CR [.ref r,.int lo,.int hi] H Q E:=by
 refine⟨r,a,l,p,lo,hi,rfl,tx,bi,by (clear bi;omega),λok H' hr hl h0 hh s=>?_,λno=>k2 (Rj no)⟩
 have e:=k1 _ (Wf ok) (by show (eD l p hi).1.toNat<=hi;(clear h0 hl dy bi;omega)) (λh1=>by
  have z:=Qu (l:=l) (hi:=hi) (n:=l.length - (p+1)) (p:=p+1) (v:=aR l p - 48) (by have:=ok.2.1;(clear hh h0 hl dy bi;omega))
  show 1<=(eD l p hi).1.toNat
  unfold eD
  (clear h1 hh h0 hl dy bi;omega)) H' (tx.same s hr hl) s
 have z:(((eD l p hi).1.toNat:Nat):Int)=(eD l p hi).1:=by (clear hh hl dy bi;omega)
 rw[<-z]
 exact e
def dX(CP:Addr)(H:Hp)(b:Addr)(pr:aM):Prop:=∃dx nm c,H b=some (.ins CP dx (On nm pr.w pr.d pr.h pr.g c))/\H nm=some (.tup (pr.name.map V.int))/\H c=some (.dT (dR pr.d 0 pr.rows))
structure rY(pr:aM):Prop where
 w1:1<=pr.w
 w2:pr.w<=16
 d1:1<=pr.d
 d2:pr.d<=16
 h1:1<=pr.h
 h2:pr.h<=18
 g2:pr.g<=9999
 rw:∀q∈pr.rows,q.length=pr.w
 rl:pr.rows.length=pr.d * pr.h
 nm:pr.name.length<=8
def Ha(K:PySem.W.Frag)(CR CP:Addr):Sp:=λvs H Q E=>∃(r a:Addr)(l:List Int)(p:Nat),vs=[.ref r]/\jU K CR H r a l p/\
 match dN l p with
 |.ok q=>∀(H':Hp)(b:Addr),jU K CR H' r a l q.2->SX r H H'->H b=none->dX CP H' b q.1->rY q.1->Q (.ref b) H'
 |.error i=>∀H':Hp,SX r H H'->E (.int i 0) none H'
theorem Ez{l:List Int}{w:Nat}:∀{n p:Nat} {r:List (List Int)×Nat},bN l w n p=.ok r->r.1.length=n
 |0,p,r,h=>by cases h;rfl
 |n+1,p,r,h=>by
  rw[bN] at h
  cases e:fC l w p with
  |error i=>rw[e] at h;cases h
  |ok q=>
   rw[e] at h
   cases e2:bN l w n q.2 with
   |error i=>
    have h:gG q.1 (bN l w n q.2)=.ok r:=h
    rw[e2] at h;cases h
   |ok q2=>
    have h:gG q.1 (bN l w n q.2)=.ok r:=h
    rw[e2] at h
    cases h
    show (_::q2.1).length=n+1
    rw[bn,Ez e2]
theorem sX{l:List Int}:∀{n p:Nat},(bE l p n).length<=n
 |0,p=>ap _
 |n+1,p=>by
  rw[bE]
  split
  ·rw[bn];exact Nat.succ_le_succ sX
  ·exact da _
theorem nL:aQ ["reader","name","width","depth","height","weight"] ["reader"] (aH oC):=⟨rfl,rfl,rfl,by decide+kernel,rfl,by decide+kernel,by decide+kernel⟩
end
section
variable {P:Program} {w:World} {K:PySem.W.Frag} {mg:Str->Option Value} {base:Heap} {C CR CP:Addr}
theorem zK{H:Hp}{r a:Addr}{l:List Int}{p L:Nat}{Q:V->Hp->Prop}{E:XK}(tx:jU K CR H r a l p)(hL:L<=1000)
  (k1:∀v:List Int×Nat,gE l p L=.ok v->∀(H':Hp)(q:Addr),jU K CR H' r a l v.2->SX r H H'->H' q=some (.tup (v.1.map V.int))->v.1.length<=L->Q (.ref q) H') (k2:gE l p L=.error p->E (.int p 0) none H):oW K CR [.ref r,.int L] H Q E:=by
 refine⟨r,a,l,p,L,rfl,tx,hL,λok H' q hr hl s hq=>?_,λno=>k2 ?_⟩
 ·exact k1 (bE l p L,p+(bE l p L).length) (ac ok) H' q (tx.same s hr hl) s hq sX
 ·exact aa (by rw[no];decide)
theorem eS{t u:TS}{D:fY}{σ:List (Option V)}{H:Hp}(h:t {D with nx:=u D} σ H):Cu t u D σ H:=h
theorem iF{H:Hp}{r a:Addr}{l:List Int}{p:Nat}{x:Str}{cs:List Nat}{D:fY}{σ:List (Option V)}{E:XK}(js:σ[0]?=some (some (.ref r)))(hx:x.cps.toList=cs)(jf:∀c∈cs,c<256)(tx:jU K CR H r a l p)
  (k2:∀i,aU l p cs=.error i->∀H',SX r H H'->E (.int i 0) none H') (k1:∀p',aU l p cs=.ok p'->∀H',jU K CR H' r a l p'->SX r H H'->D.nx σ H'):yZ (mH CR "read_word" (lD K CR) [] E (eF 0) (eR (tC (.str x)) gY)) D σ H:=by
 obtain⟨⟨dx,h1⟩,_,_⟩:=id tx
 exact⟨_,js,r,dx,_,rfl,h1,rfl,yK (Q:=λ_ H1=>D.nx σ H1) hx jf tx (λp' e H' x' s'=>k1 p' e H' x' s') k2⟩
theorem Ci{H:Hp}{r a:Addr}{l:List Int}{p i:Nat}{lo hiI:Int}{hi:Nat}{D:fY}{σ:List (Option V)}{E:XK}(hh:hiI=(hi:Int))(js:σ[0]?=some (some (.ref r)))(tx:jU K CR H r a l p)(bi:0<=lo)(dy:hi<=100000)
  (k2:iY l p lo hiI=.error p->E (.int p 0) none H) (k1:∀v:Nat×Nat,iY l p lo hiI=.ok v->v.1<=hi->(1<=lo->1<=v.1)->∀H',jU K CR H' r a l v.2->SX r H H'->D.nx (σ.set i (some (.int v.1))) H'):
  Cn (mH CR "read_number" (kI K CR) [] E (eF 0) (eR (tC (.int lo)) (eR (tC (.int hiI)) gY))) (mG i) D σ H:=by
 subst hh
 obtain⟨⟨dx,h1⟩,_,_⟩:=id tx
 exact⟨_,js,r,dx,_,rfl,h1,rfl,Dt (Q:=λy H1=>D.nx (σ.set i (some y)) H1) tx bi dy (λv e g1 g2 H' x' s'=>k1 v e g1 g2 H' x' s') k2⟩
theorem Uc{H:Hp}{r a:Addr}{l:List Int}{p L i:Nat}{D:fY}{σ:List (Option V)}{E:XK}(js:σ[0]?=some (some (.ref r)))(tx:jU K CR H r a l p)(hL:L<=1000)(k2:gE l p L=.error p->E (.int p 0) none H)
  (k1:∀v:List Int×Nat,gE l p L=.ok v->∀(H':Hp)(q:Addr),jU K CR H' r a l v.2->SX r H H'->H' q=some (.tup (v.1.map V.int))->v.1.length<=L->D.nx (σ.set i (some (.ref q))) H'):
  Cn (mH CR "read_name" (oW K CR) [] E (eF 0) (eR (tC (.int L)) gY)) (mG i) D σ H:=by
 obtain⟨⟨dx,h1⟩,_,_⟩:=id tx
 exact⟨_,js,r,dx,_,rfl,h1,rfl,zK (Q:=λy H1=>D.nx (σ.set i (some y)) H1) tx hL (λv e H' q x' s' g1 g2=>k1 v e H' q x' s' g1 g2) k2⟩
theorem SX.tup{CR r q:Addr}{H H':Hp}{xs:List V}{a:Addr}{p:Nat}(s:SX r H H')(hr:iG CR H r a p)(h:H q=some (.tup xs)):H' q=some (.tup xs):=by
 obtain⟨dx,g⟩:=hr
 exact s _ _ h (by rintro rfl;rw[g] at h;cases h)
theorem b32:∀c∈([32]:List Nat),c<256:=by decide
theorem b10:∀c∈([10]:List Nat),c<256:=by decide
structure PtM(P:Program)(w:World)(K:PySem.W.Frag)(mg:Str->Option Value)(base:Heap)(CP:Addr):Prop where
 ex:∃f fd,Mk K CP f/\bT P w K mg base bU 1 f fd ["self","name","width","depth","height","weight","cells"] (Ky CP)/\eY K fd ["self","name","width","depth","height","weight","cells"] []
 mg:mg "Part"=some (.ref CP)
theorem Wd{f:Addr}{fd:FuncData}(F:fH K "read_part" "read_part" oC f fd)(T:Gh K CR)(PM:PtM P w K mg base CP)(c1:CI mg "LONGEST_PART_NAME" 8)(c2:CI mg "MOST_WIDTH" 16)(c3:CI mg "MOST_DEPTH" 16)(c4:CI mg "MOST_HEIGHT" 18)(c5:CI mg "MOST_WEIGHT" 9999)
  (M1:nI P w K mg base CR "read_word" (iX C P w) 5 ["self","word"] (lD K CR)) (M2:nI P w K mg base CR "read_name" (iX C P w) 4 ["self","longest"] (oW K CR)) (M3:nI P w K mg base CR "read_number" (iX C P w) 4 ["self","least","most"] (kI K CR))
  (L1:dL P w K mg base "read_cells" (iX C P w) 6 ["reader","width","depth","height"] (Bg K CR)):bT P w K mg base (iX C P w) 7 f fd ["reader"] (Ha K CR CP):=by
 obtain⟨f1,m6,m1,G1,b1⟩:=M1.ex
 obtain⟨f2,uu,m2,G2,b2⟩:=M2.ex
 obtain⟨f3,JJ,m3,G3,b3⟩:=M3.ex
 obtain⟨g1,gh,GC,bC,kC,hC⟩:=L1.ex
 obtain⟨fp,fdp,MP,GP,bP⟩:=PM.ex
 refine F.okX nL (λvs H Q E h=>?_) (λai A outer s H vs Q E hr h=>?_)
 ·obtain⟨r,a,l,p,rfl,_⟩:=h
  rfl
 ·obtain⟨r,a,l,p,rfl,x,k⟩:=h
  have i7:=hr.mono (j:=5) (by decide)
  have gv:=hr.mono (j:=4) (by decide)
  have ay:=hr.mono (j:=2) (by decide)
  refine⟨_,aE (cA (cX (pv 0) T.cl m1 G1 i7 b1 .nil aN.pass (aA gM aF)))
   (aE (aZ (i:=1) nL.nd rfl (Or.inl rfl) (cX (pv 0) T.cl m2 G2 gv b2 .nil aN.pass (aA (eV c1) aF)))
   (aE (cA (cX (pv 0) T.cl m1 G1 i7 b1 .nil aN.pass (aA gM aF)))
   (aE (aZ (i:=2) nL.nd rfl (Or.inl rfl) (cX (pv 0) T.cl m3 G3 gv b3 .nil aN.pass (aA aJ (aA (eV c2) aF))))
   (aE (cA (cX (pv 0) T.cl m1 G1 i7 b1 .nil aN.pass (aA gM aF)))
   (aE (aZ (i:=3) nL.nd rfl (Or.inl rfl) (cX (pv 0) T.cl m3 G3 gv b3 .nil aN.pass (aA aJ (aA (eV c3) aF))))
   (aE (cA (cX (pv 0) T.cl m1 G1 i7 b1 .nil aN.pass (aA gM aF)))
   (aE (aZ (i:=4) nL.nd rfl (Or.inl rfl) (cX (pv 0) T.cl m3 G3 gv b3 .nil aN.pass (aA aJ (aA (eV c4) aF))))
   (aE (cA (cX (pv 0) T.cl m1 G1 i7 b1 .nil aN.pass (aA gM aF)))
   (aE (aZ (i:=5) nL.nd rfl (Or.inl rfl) (cX (pv 0) T.cl m3 G3 gv b3 .nil aN.pass (aA aJ (aA (eV c5) aF))))
   (aE (cA (cX (pv 0) T.cl m1 G1 i7 b1 .nil aN.pass (aA gM aF)))
   (aG (aW (qK MP GP ay (by rfl) PM.mg bP .nil aY (aA (pv 1) (aA (pv 2) (aA (pv 3) (aA (pv 4) (aA (pv 5)
    (aA (aT GC hr (by rfl) hC kC bC .nil aN.pass (aA (pv 0) (aA (pv 2) (aA (pv 3) (aA (pv 4) aF))))) aF))))))))))))))))))),?_⟩
  unfold dN at k
  refine eS (iF rfl Lh (by decide) x (λi e1 H' s1=>by rw[e1] at k;exact k H' s1) λp1 e1 H1 x1 s1=>?_)
  rw[e1,bZ] at k
  refine eS (Uc (L:=8) rfl x1 (by decide) (λe2=>by rw[e2] at k;exact k _ s1) λnm e2 H2 qn x2 s2 hn O9=>?_)
  rw[e2,bZ] at k
  have s2:=s1.trans s2
  refine eS (iF rfl iS b32 x2 (λi e3 H' s3=>by rw[e3] at k;exact k H' (s2.trans s3)) λp3 e3 H3 x3 s3=>?_)
  rw[e3,bZ] at k
  have EB:=s3.tup x2.rd hn
  have s3:=s2.trans s3
  refine eS (Ci (lo:=1) (hiI:=16) (hi:=16) rfl rfl x3 (by decide) (by decide) (λe4=>by rw[e4] at k;exact k _ s3) λW e4 JK PB H4 x4 s4=>?_)
  rw[e4,bZ] at k
  have PD:=s4.tup x3.rd EB
  have s4:=s3.trans s4
  refine eS (iF rfl iS b32 x4 (λi e5 H' s5=>by rw[e5] at k;exact k H' (s4.trans s5)) λp5 e5 H5 x5 s5=>?_)
  rw[e5,bZ] at k
  have rj:=s5.tup x4.rd PD
  have s5:=s4.trans s5
  refine eS (Ci (lo:=1) (hiI:=16) (hi:=16) rfl rfl x5 (by decide) (by decide) (λe6=>by rw[e6] at k;exact k _ s5) λD e6 yz gw H6 x6 s6=>?_)
  rw[e6,bZ] at k
  have PF:=s6.tup x5.rd rj
  have s6:=s5.trans s6
  refine eS (iF rfl iS b32 x6 (λi e7 H' s7=>by rw[e7] at k;exact k H' (s6.trans s7)) λp7 e7 H7 x7 s7=>?_)
  rw[e7,bZ] at k
  have PH:=s7.tup x6.rd PF
  have s7:=s6.trans s7
  refine eS (Ci (lo:=1) (hiI:=18) (hi:=18) rfl rfl x7 (by decide) (by decide) (λe8=>by rw[e8] at k;exact k _ s7) λHh e8 JL PJ H8 x8 s8=>?_)
  rw[e8,bZ] at k
  have PK:=s8.tup x7.rd PH
  have s8:=s7.trans s8
  refine eS (iF rfl iS b32 x8 (λi e9 H' s9=>by rw[e9] at k;exact k H' (s8.trans s9)) λp9 e9 H9 x9 s9=>?_)
  rw[e9,bZ] at k
  have PL:=s9.tup x8.rd PK
  have s9:=s8.trans s9
  refine eS (Ci (lo:=1) (hiI:=9999) (hi:=9999) rfl rfl x9 (by decide) (by decide) (λEC=>by rw[EC] at k;exact k _ s9) λg EC uv JM OE JN wm=>?_)
  rw[EC,bZ] at k
  have PN:=wm.tup x9.rd PL
  have wm:=s9.trans wm
  refine eS (iF rfl qE b10 JN (λi rk H' qy=>by rw[rk] at k;exact k H' (wm.trans qy)) λwy rk UN JO qy=>?_)
  rw[rk,bZ] at k
  have ED:=qy.tup JN.rd PN
  have qy:=wm.trans qy
  obtain⟨⟨dx,h1⟩,_,_⟩:=id JO
  have jh:=gw (by decide)
  refine⟨_,rfl,_,rfl,_,rfl,_,rfl,_,rfl,_,rfl,_,rfl,_,rfl,_,rfl,r,a,l,wy,W.1,D.1,Hh.1,rfl,JO,JK,yz,JL,jh,?_⟩
  cases y0:bN l W.1 (D.1 * Hh.1) wy with
  |error i=>
   intro H' s'
   rw[y0] at k
   exact k H' (qy.trans s')
  |ok q=>
   intro EE c PP PQ JP hc AS kx
   rw[y0,bZ] at k
   have PR:=JP _ _ ED (by rintro rfl;rw[h1] at ED;cases ED)
   have JQ:=qy.trans JP
   intro b db hb fq ak
   obtain⟨PU,JR⟩:=id PP
   refine⟨b,db,qn,c,W.1,D.1,Hh.1,g.1,rfl,aC,λEF y1 PV=>⟨rfl,?_⟩⟩
   have up:∀y o,EE y=some o->upd (upd EE db (.own b)) b (.ins CP db []) y=some o:=λy o e=>by rw[aB (aD e hb),aB (aD e fq)];exact e
   have uw:∀y o,EE y=some o->EF y=some o:=λy o e=>PV y o (up y o e) (aD e hb)
   have sH:SX r H EF:=λy o e hy=>uw y o (JQ y o e hy)
   have EG:H b=none:=by
    cases z:H b with
    |none=>rfl
    |some o=>
     have:=JQ b o z (by rintro rfl;rw[JR] at hb;cases hb)
     rw[hb] at this;cases this
   refine k EF b (x.same sH ⟨PU,uw _ _ JR⟩ PQ) sH EG ⟨db,qn,c,y1,uw _ _ PR,uw _ _ AS⟩ ⟨PB (by decide),JK,jh,yz,PJ (by decide),JL,uv,kx,Ez y0,O9⟩
end
def cM(l:List Int):Nat->Nat->Except Nat (List aM×Nat)
 |0,p=>.ok ([],p)
 |n+1,p=>if p=l.length then .ok ([],p) else eG (dN l p) λq=>gG q.1 (cM l n q.2)
def hX(l:List Int):Except Nat (List aM):=eG (dN l 0) λq=>eG (cM l 63 q.2) λr=>if r.2=l.length then .ok (q.1::r.1) else .error r.2
theorem dX.keep{CP:Addr}{H H':Hp}{b:Addr}{pr:aM}(h:dX CP H b pr)(k:∀y o,H y=some o->(y=b\/(∃xs,o=.tup xs)\/∃aI,o=.dT aI)->H' y=some o):dX CP H' b pr:=by
 obtain⟨dx,nm,c,h1,h2,h3⟩:=h
 exact⟨dx,nm,c,k _ _ h1 (.inl rfl),k _ _ h2 (.inr (.inl ⟨_,rfl⟩)),k _ _ h3 (.inr (.inr ⟨_,rfl⟩))⟩
theorem dX.same{CP:Addr}{H H':Hp}{b:Addr}{pr:aM}(h:dX CP H b pr)(s:aK H H'):dX CP H' b pr:=h.keep λy o e _=>s y o e
theorem dX.sx{CP CR r a:Addr}{p:Nat}{H H':Hp}{b:Addr}{pr:aM}(h:dX CP H b pr)(hb:b≠r)(hr:iG CR H r a p)(s:SX r H H'):dX CP H' b pr:=by
 obtain⟨dx,g⟩:=hr
 refine h.keep λy o e z=>s y o e ?_
 rintro rfl
 rw[g] at e
 cases e
 rcases z with z|⟨_,z⟩|⟨_,z⟩
 ·exact hb z.symm
 ·cases z
 ·cases z
theorem dX.list{CP q:Addr}{H:Hp}{b:Addr}{pr:aM}{xs ys:List V}(h:dX CP H b pr)(hq:H q=some (.lst xs)):dX CP (upd H q (.lst ys)) b pr:=by
 have hb:b≠q:=by
  obtain⟨dx,nm,c,h1,_⟩:=h
  rintro rfl
  rw[h1] at hq
  cases hq
 refine h.keep λy o e z=>?_
 rw[aB ?_]
 ·exact e
 ·rintro rfl
  rw[hq] at e
  cases e
  rcases z with z|⟨_,z⟩|⟨_,z⟩
  ·exact hb z.symm
  ·cases z
  ·cases z
def eC(CP:Addr)(H:Hp)(bs:List Addr)(prs:List aM):Prop:=Paired (λb pr=>dX CP H b pr/\rY pr) bs prs
section
variable {P:Program} {w:World} {K:PySem.W.Frag} {mg:Str->Option Value} {base:Heap} {C CR CP:Addr}
def Ks(K:PySem.W.Frag)(CP:Addr):Sp:=λvs H Q E=>∃(a:Addr)(l:List Int),vs=[.ref a]/\cP K H a (l.map V.int)/\
 match hX l with
 |.ok prs=>∀(H':Hp)(q:Addr)(bs:List Addr),aK H H'->H' q=some (.lst (bs.map V.ref))->eC CP H' bs prs->prs.length<=64->1<=prs.length->Q (.ref q) H'
 |.error i=>∀H':Hp,aK H H'->E (.int i 0) none H'
theorem Hk:aQ ["c","reader","parts"] ["c"] (aH qI):=⟨rfl,rfl,rfl,by decide+kernel,rfl,by decide+kernel,by decide+kernel⟩
structure RdK(P:Program)(w:World)(K:PySem.W.Frag)(mg:Str->Option Value)(base:Heap)(CR:Addr):Prop where
 ex:∃f fd,Mk K CR f/\bT P w K mg base bU 1 f fd ["self","text"] (aCl CR)/\eY K fd ["self","text"] []
 mg:mg "Reader"=some (.ref CR)
def aB6(CR CP:Addr)(H:Hp)(r a q:Addr)(l:List Int)(p0 m:Nat)(PX:aM)(σ:List (Option V))(H':Hp):Prop:=
 ∃(ps:List aM)(bs:List Addr)(p':Nat),σ=[some (.ref a),some (.ref r),some (.ref q)]/\ps.length+m=63/\p'<=l.length/\aK H H'/\iG CR H' r a p'/\H' q=some (.lst (bs.map V.ref))/\
  Paired (λb pr=>b≠r/\dX CP H' b pr/\rY pr) bs (PX::ps)/\cM l 63 p0=fV ps (cM l m p')
theorem Zf{f:Addr}{fd:FuncData}(F:fH K "read_catalogue" "read_catalogue" qI f fd)(T:Gh K CR)(RK:RdK P w K mg base CR)(ax:mg "len"=none)(c1:CI mg "MOST_PARTS" 64)(M1:nI P w K mg base CR "ended" bU 1 ["self"] (oG K CR))
  (M2:nI P w K mg base CR "read_end" (iX C P w) 3 ["self"] (yO K CR)) (L1:dL P w K mg base "read_part" (iX C P w) 7 ["reader"] (Ha K CR CP)):bT P w K mg base (iX C P w) 8 f fd ["c"] (Ks K CP):=by
 obtain⟨f1,m6,m1,G1,b1⟩:=M1.ex
 obtain⟨f2,uu,m2,G2,b2⟩:=M2.ex
 obtain⟨g1,gh,GP,bP,kP,hP⟩:=L1.ex
 obtain⟨fr,fdr,MR,GR,bR⟩:=RK.ex
 refine F.okX Hk (λvs H Q E h=>?_) (λai A outer s H vs Q E hr h=>?_)
 ·obtain⟨a,l,rfl,_⟩:=h
  rfl
 ·obtain⟨a,l,rfl,tx,k⟩:=h
  have ig:=hr.mono (j:=3) (by decide)
  have ay:=hr.mono (j:=2) (by decide)
  have a7:=hr.mono (j:=1) (by decide)
  refine⟨_,aE (aZ (i:=1) Hk.nd rfl (Or.inl rfl) (qK MR GR ay (by rfl) RK.mg bR .nil aY (aA (pv 0) aF)))
   (aE (aZ (i:=2) Hk.nd rfl (Or.inl rfl) (dU (aA (aT GP hr (by rfl) hP kP bP .nil aN.pass (aA (pv 1) aF)) aF)))
   (aE (iQ aN.own (gA (dE (Ix (bK bI (by rfl) ax PySem.boot_len (aA (pv 2) aF)) (eV c1))) (gP (kX (dY (cB (pv 1) T.cl m1 G1 a7 b1 .nil aY))))).pt
    (aG (cA (mW PySem.F.plainAttrs_list PySem.F.slot_list_append PySem.F.type_list_append eM (pv 2) (aA (aT GP hr (by rfl) hP kP bP .nil aN.pass (aA (pv 1) aF)) aF)))))
   (aE (cA (cB (pv 1) T.cl m2 G2 ig b2 .nil aN.pass))
   (aG (aW (pv 2)))))),?_⟩
  refine⟨_,rfl,λr dr nr ndr ndrr=>?_⟩
  refine⟨r,dr,a,rfl,aC,λH1 a7 s1=>⟨rfl,?_⟩⟩
  have up:∀y o,H y=some o->H1 y=some o:=λy o e=>s1 y o (by rw[aB (aD e nr),aB (aD e ndr)];exact e) (aD e nr)
  have S1:aK H H1:=up
  have x1:jU K CR H1 r a l 0:=⟨a7,S1.seq tx,da _⟩
  have rn:∀{H2:Hp},SX r H1 H2->aK H H2:=λs2 y o e=>s2 y o (S1 y o e) (aD e nr)
  unfold hX at k
  refine⟨_,rfl,r,a,l,0,rfl,x1,?_⟩
  cases e1:dN l 0 with
  |error i=>
   intro H' s'
   rw[e1] at k
   exact k H' (rn s')
  |ok q0=>
   intro H2 b0 x2 s2 JS PY PZ
   rw[e1,bZ] at k
   refine⟨by show 1<=sizeLine;decide,λq hq=>?_⟩
   have EG:b0≠r:=λz=>by rw[z] at JS;obtain⟨dx,g⟩:=a7;rw[JS] at g;cases g
   have sq:aK H2 (upd H2 q (.lst [.ref b0])):=λb o e=>by rw[aB (aD e hq)];exact e
   have EH:H q=none:=(rn s2).free hq
   obtain⟨l3,g2⟩:=x2.rd
   refine⟨λm=>aB6 CR CP H r a q l q0.2 m q0.1,⟨63,[],[b0],q0.2,rfl,rfl,x2.le,(rn s2).trans sq,⟨l3,sq _ _ g2⟩,aC,.cons ⟨EG,PY.same sq,PZ⟩ .nil,by rw[kR]⟩,?_⟩
   rintro m σ H3 ⟨ps,bs,p',rfl,hm,lp,S3,ig,ff,pp,e3⟩
   have x3:jU K CR H3 r a l p':=⟨ig,S3.seq tx,lp⟩
   obtain⟨BC,g3⟩:=id ig
   have gx:bs.length=ps.length+1:=by
    have:=Paired.length pp
    rw[bn] at this
    exact this
   have lz:r≠q:=λz=>by rw[z,ff] at g3;cases g3
   have fin:cM l m p'=.ok ([],p')->Cu (yZ (mH CR "read_end" (yO K CR) [] E (eF 1) gY)) (Zx (eF 2)) {nx:=λ_ H'=>Q .non H',rt:=Q} [some (.ref a),some (.ref r),some (.ref q)] H3:=by
    intro e4
    have e5:cM l 63 q0.2=.ok (ps,p'):=by
     rw[e3,e4]
     show Except.ok (ps++[],p')=_
     rw[f8]
    rw[e5,bZ] at k
    refine⟨_,rfl,r,BC,_,rfl,g3,rfl,r,a,l,p',rfl,x3,λhe=>⟨_,rfl,?_⟩,λhe=>?_⟩
    ·have he:p'=l.length:=he
     rw[ac he] at k
     refine k H3 q bs S3 ff (Paired.mapP pp λ_ _ z=>z.2) ?_ ?_
     ·show (q0.1::ps).length<=64
      rw[bn]
      (clear he gx lp;omega)
     ·show 1<=(q0.1::ps).length
      rw[bn]
      (clear he gx lp hm;omega)
    ·have he:¬p'=l.length:=he
     rw[aa he] at k
     exact k H3 S3
   refine⟨_,rfl,q,_,rfl,.inl (cP.of ff),_,_,rfl,rfl,_,rfl,bY (λaj=>?_) (λaj=>pO (fin ?_))⟩
   ·have aj:((bs.map V.ref).length:Int)<64:=dq aj
    rw[ah] at aj
    obtain⟨n,rfl⟩:∃n,m=n+1:=⟨m - 1,by (clear lp;omega)⟩
    refine⟨_,rfl,r,BC,_,rfl,g3,rfl,r,a,l,p',rfl,x3,_,rfl,bY (λak=>?_) (λak=>fin ?_)⟩
    ·rw[ck,j0] at ak
     refine⟨aB6 CR CP H r a q l q0.2 n q0.1,λ_ _ z=>⟨n,jl n,z⟩,?_⟩
     refine⟨_,rfl,.inl ⟨rfl,_,cP.of ff⟩,_,rfl,r,a,l,p',rfl,x3,?_⟩
     have e4:cM l (n+1) p'=eG (dN l p') λq=>gG q.1 (cM l n q.2):=aa ak
     cases e5:dN l p' with
     |error i=>
      intro H' s'
      have e6:cM l 63 q0.2=.error i:=by
       rw[e3,e4,e5]
       rfl
      rw[e6] at k
      exact k H' λy o e=>s' y o (S3 y o e) (aD e nr)
     |ok q1=>
      intro H4 b4 x4 s4 BD P0 P1
      have ux:H4 q=some (.lst (bs.map V.ref)):=s4 _ _ ff (ao lz)
      refine⟨q,_,_,rfl,rfl,ux,?_,?_⟩
      ·rw[ah]
       have:=bJ
       (clear ak hm gx lp;omega)
      ·have P3:b4≠r:=λz=>by rw[z,g3] at BD;cases BD
       obtain⟨y4,g4⟩:=x4.rd
       refine⟨ps++[q1.1],bs++[b4],q1.2,rfl,by simp;(clear ak aj gx lp;omega),x4.le,λy o e=>?_,⟨y4,by rw[aB lz];exact g4⟩,by rw[aC,cp];rfl,?_,?_⟩
       ·have e7:=S3 y o e
        have e8:=s4 y o e7 (aD e nr)
        rw[aB (aD e EH)]
        exact e8
       ·have P4:Paired (λb pr=>b≠r/\dX CP (upd H4 q (.lst (bs.map V.ref++[V.ref b4]))) b pr/\rY pr) bs (q0.1::ps):=Paired.mapP pp λb pr z=>⟨z.1,(z.2.1.sx z.1 ig s4).list ux,z.2.2⟩
        exact Paired.snoc P4 ⟨P3,P0.list ux,P1⟩
       ·rw[e3,e4,e5,bZ,iR]
    ·rw[ck,j0,xz] at ak
     exact ac ak
   ·have aj:¬((bs.map V.ref).length:Int)<64:=λz=>aj (cn z)
    rw[ah] at aj
    rw[show m=0 by (clear lp;omega)]
    rfl
end
end Br1
namespace L2
open PySem PySem.Spec PyProof.Rows
section
variable {prog:Program} {w:World} {A:Around} {E:Value->Shared->Prop} {s:Shared} {d:Addr} {o:Obj} {es:Array DictEntry} {ep:Nat}
theorem zH(hs:(d==sysModules)=false):MeetsIn prog w (Builtin.«dict.items» ⟨[.ref d],[]⟩) (λ_ R s=>s.TypeIs (.ref d) "dict"/\
  R (.ok (.ret (.ref s.heap.objs.size))) {s with heap:=s.heap.push {cls:=.type "dict_items",data:=.fields #[.ref d]}}):=
 .of_wp λA R s ⟨hm,h⟩=>by
  unfold Builtin.«dict.items» Builtin.Dict.noArgs
  refine wpAny_bind (wpAny_bind (G' hm ?_))
  show wpAny _ _ (pure d) _ _ s
  refine af ?_
  show wpAny _ _ (Builtin.Dict.showsAll d>>=_) _ _ s
  unfold Builtin.Dict.showsAll
  rw[aa (by rw[hs];exact cb)]
  exact wpAny_bind (af (wpAny_bind (gn (af ⟨_,rfl,h⟩))))
theorem Cq{v:Addr}{n:Nat}{Q:Value->Shared->Prop}(hv:s.heap.IsItemsView v d)(ho:s.heap.get? d=some o)(ie:o.data=.dict es ep)(hn:es.size=n)
  (hQ:Q (.ref s.heap.objs.size) {s with heap:=s.heap.push {cls:=.type "dict_itemiterator",data:=.fields #[.none,.bool false,.ref d,.int 0 0,.int n 0,.int ep 0,.none,.none]}}):
  wpAny (model prog w) A (pyIter (.ref v)) Q E s:=by
 obtain⟨ov,EI,P5,EJ⟩:=id hv
 refine CU hv.typeIs MJ (jy MJ hv.typeIs F.entry_dict_items_iter ?_ (F.args_dict_items_iter_1 _))
 unfold Builtin.«dict_items.__iter__»
 refine wpAny_bind (af (wpAny_bind ?_))
 unfold Builtin.Dict_items.dictOf
 refine wpAny_bind (iz EI EJ (x:=.ref d) rfl (af (wpAny_bind ?_)))
 unfold Builtin.Dict_items.newIterator
 refine wpAny_bind (oz ho ie (wpAny_bind (qo ho ie ?_)))
 have jd:Builtin.Dict_items.ownsTuple "dict_itemiterator"=true:=by decide
 simp only[jd,ot]
 refine gn (af ⟨_,rfl,"dict_itemiterator",_,⟨_,cf _ rfl,rfl⟩,AG.lookup,?_⟩)
  (by simp only[sizeOk,Builtin.Dict_items.ownedTupleFields,de,b6,bn,xt,tq];(clear hn;omega))
 simpa[rawInt,hn,Builtin.Dict_items.ownedTupleFields] using hQ
theorem Th{it:Addr}{i n:Nat}{en:DictEntry}{ok ov:Value}{Q:Option Value->Shared->Prop}(a8:IsItemIter s.heap it d i n ep ok ov)(dw:s.heap.get? d=some o)(gg:o.data=.dict es ep)(hsz:es.size=n)(lu:es[i]?=some en)
  (hQ:∀h',IsItemIterOut h' it d (i+1) n ep en.key en.val s.heap.objs.size->h'.get? s.heap.objs.size=some {cls:=.type "tuple",data:=.seq #[en.key,en.val]}->
   (∀b ob,b≠it->s.heap.get? b=some ob->h'.get? b=some ob)->Q (some (.ref s.heap.objs.size)) {s with heap:=h'}):
  wpAny (model prog w) A (pyNext (.ref it)) Q E s:=by
 obtain⟨hp,g,dr,tk,os⟩:=s
 have hT:Shared.TypeIs ⟨hp,g,dr,tk,os⟩ (.ref it) "dict_itemiterator":=⟨_,a8,rfl⟩
 obtain⟨aj,P6⟩:=qr.mp lu
 unfold pyNext
 refine wpAny_bind (xw (md (name:=Str.ofString "__next__") hT AG
  (jy AG hT MK ?_ (ML _))))
 refine wpAny_bind (af (wpAny_bind (wpAny_bind ?_)))
 first|refine wpAny_bind (C7 hT (af ?_))|refine wpAny_bind (C8 hT (af ?_))
 refine wpAny_bind (xx a8 rfl ?_)
 have jd:Builtin.Dict_items.ownsTuple "dict_itemiterator"=true:=by decide
 simp only[jd,ot]
 show wpAny _ _ (if (Value.ref d==Value.none)=true then _ else _) _ _ _
 rw[aa (show ¬((Value.ref d==Value.none)=true) from cb)]
 refine wpAny_bind (af (wpAny_bind (oz dw gg ?_)))
 rw[aa (by rw[hsz];simp)]
 refine wpAny_bind (af (wpAny_bind (qo dw gg ?_)))
 rw[aa (by simp)]
 refine af ?_
 simp only[show ¬((i:Int)<0) from by (clear hsz;omega),jc,jm,lu]
 refine wpAny_bind ?_
 first|refine wpAny_bind (C7 hT (af ?_))|refine wpAny_bind (C8 hT (af ?_))
 refine wpAny_bind (HF hT ?_)
 show wpAny _ _ (setField (.ref it) 3 (rawInt ((i:Int)+1))>>=_) _ _ ⟨hp,g,dr,tk,os⟩
 refine wpAny_bind (wpAny_setField_rec a8 (by simp) λh1 y6 gy=>?_)
 replace gy:Heap.SameBut it hp h1:=gy
 replace y6:IsItemIter h1 it d (i+1) n ep ok ov:=by
  have e:((i+1:Nat):Int)=(i:Int)+1:=by (clear hsz;omega)
  unfold IsItemIter;rw[e];simpa[rawInt] using y6
 have wz:Shared.TypeIs ⟨h1,g,dr,tk,os⟩ (.ref it) "dict_itemiterator":=⟨_,y6,rfl⟩
 refine wpAny_bind (j8 (wpAny_bind (HF wz (wpAny_bind (HF wz ?_)))))
 show wpAny _ _ (Builtin.Dict_items.pairFromOwner (.ref it) 6 en.key en.val) _ _ ⟨h1,g,dr,tk,os⟩
 unfold Builtin.Dict_items.pairFromOwner
 refine wpAny_bind (wpAny_newTuple ?_)
 have y8:IsItemIter (h1.push {cls:=.type "tuple",data:=.seq #[en.key,en.val]}) it d (i+1) n ep ok ov:=br _ y6
 generalize m9:h1.push {cls:=.type "tuple",data:=.seq #[en.key,en.val]}=h2 at y8
 have EK:h1.objs.size=hp.objs.size:=gy.1
 have qz:it<hp.objs.size:=a9 a8
 have nc:h2.get? hp.objs.size=some {cls:=.type "tuple",data:=.seq #[en.key,en.val]}:=by rw[<-m9,<-EK];exact cf _ rfl
 have y9:∀b ob,b≠it->hp.get? b=some ob->h2.get? b=some ob:=λb ob hb e=>by rw[<-m9];exact br _ (gy.extBut b ob hb e)
 show wpAny _ _ (Builtin.Dict_items.ownedTupleIsFree (.ref it)>>=_) _ _ ⟨h2,g,dr,tk,os⟩
 rw[EK]
 clear m9 y6 gy wz EK h1
 refine wpAny_bind ?_
 unfold Builtin.Dict_items.ownedTupleIsFree
 refine wpAny_bind (iz y8 rfl (x:=.none) rfl (af ?_))
 simp only[ot]
 refine wpAny_bind (iz y8 rfl (x:=ok) rfl (wpAny_bind (iz y8 rfl (x:=ov) rfl ?_)))
 refine wpAny_bind (wpAny_setField_rec y8 (by simp) λh3 EL jq=>?_)
 replace jq:Heap.SameBut it h2 h3:=jq
 replace EL:IsItemIter h3 it d (i+1) n ep en.key ov:=EL
 refine wpAny_bind (wpAny_setField_rec EL (by simp) λh4 EM ki=>?_)
 replace ki:Heap.SameBut it h3 h4:=ki
 replace EM:IsItemIter h4 it d (i+1) n ep en.key en.val:=EM
 refine wpAny_bind (wpAny_setField_rec EM (by simp) λh5 EN fz=>?_)
 replace fz:Heap.SameBut it h4 h5:=fz
 replace EN:IsItemIterOut h5 it d (i+1) n ep en.key en.val hp.objs.size:=EN
 refine wpAny_bind (wpAny_setField_rec EN (by simp) λh6 EO uz=>?_)
 replace uz:Heap.SameBut it h5 h6:=uz
 replace EO:IsItemIterOut h6 it d (i+1) n ep en.key en.val hp.objs.size:=EO
 have keep:∀b ob,b≠it->h2.get? b=some ob->h6.get? b=some ob:=λb ob hb e=>uz.extBut b ob hb (fz.extBut b ob hb (ki.extBut b ob hb (jq.extBut b ob hb e)))
 exact wpAny_bind (yb (af (af ⟨_,rfl,af (hQ h6 EO (keep _ _ (tj qz) nc) λb ob hb e=>keep b ob hb (y9 b ob hb e))⟩)))
theorem To{it:Addr}{i n:Nat}{ok ov:Value}{Q:Option Value->Shared->Prop}(hh:A.handled=none)(a8:IsItemIter s.heap it d i n ep ok ov)(dw:s.heap.get? d=some o)(gg:o.data=.dict es ep)(hsz:es.size=n)(um:n<=i)
  (hQ:∀h',Heap.ExtBut it s.heap h'->Q none {s with heap:=h'}):wpAny (model prog w) A (pyNext (.ref it)) Q E s:=by
 have hT:s.TypeIs (.ref it) "dict_itemiterator":=⟨_,a8,rfl⟩
 unfold pyNext
 refine wpAny_bind (xw (md (name:=Str.ofString "__next__") hT AG
  (jy AG hT MK ?_ (ML _))))
 refine wpAny_bind (af (wpAny_bind (wpAny_bind ?_)))
 first|refine wpAny_bind (C7 hT (af ?_))|refine wpAny_bind (C8 hT (af ?_))
 refine wpAny_bind (xx a8 rfl ?_)
 have jd:Builtin.Dict_items.ownsTuple "dict_itemiterator"=true:=by decide
 simp only[jd,ot]
 show wpAny _ _ (if (Value.ref d==Value.none)=true then _ else _) _ _ s
 rw[aa (show ¬((Value.ref d==Value.none)=true) from cb)]
 refine wpAny_bind (af (wpAny_bind (oz dw gg ?_)))
 rw[aa (by rw[hsz];simp)]
 refine wpAny_bind (af (wpAny_bind (qo dw gg ?_)))
 rw[aa (by simp)]
 refine af ?_
 have b7:es.size<=i:=by rw[hsz];exact um
 simp only[show ¬((i:Int)<0) from by (clear b7 um hsz;omega),jc,jm,CQ b7]
 refine wpAny_bind ?_
 first|refine wpAny_bind (C7 hT (af ?_))|refine wpAny_bind (C8 hT (af ?_))
 show wpAny _ _ (setField (.ref it) 2 .none>>=_) _ _ s
 refine wpAny_bind (o1 a8 rfl (by simp) ?_)
 show wpAny _ _ (newExc (.type "StopIteration") []>>=_) _ _ _
 refine wpAny_bind ?_
 simp only[newExc,newTuple]
 refine wpAny_bind (gn ?_ (by size_fits))
 refine wpAny_bind (m:=firstArgMember _ _) (AD (a:=Value.none) (by first|rfl|(simp only[firstArgMember];rfl)) ?_)
 refine gn ?_ (by size_fits)
 simp only[raiseNew]
 refine wpAny_bind (CY ?_)
 rw[show A.in1.handled=none from hh]
 refine wpAny_bind (af (CZ ?_))
 refine wpAny_bind (HB (T:="StopIteration") (b:=true) ⟨_,cf _ rfl,rfl⟩ HC ?_)
 exact af (hQ _ (((vp ..).extBut.push _).push _))
end
section
variable {X:Cx} {pins:List (Addr×Obj)} {σ:St} {H:Hp} {s:Shared} {d:Addr} {o:Obj}
theorem aP.frzT2{aI:List (List dP×V)}(I:aP X pins σ H s)(h:H d=some (.frz o (.dT aI))):
  (d==sysModules)=false/\s.heap.get? d=some o/\o.ExactDict/\∃(es:Array DictEntry)(ep:Nat),o.data=.dict es ep/\es.size=aI.length/\
   ∀(i:Nat)(k:List dP)(v:V),aI[i]?=some (k,v)->∃(en:DictEntry)(q:Addr),es[i]?=some en/\en.key=.ref q/\H q=some (.tup (k.map kV))/\bQ v en.val:=by
 obtain⟨hd,z,hs,xs,pr,o',es,ep,ho,hx,bq,he,_⟩:=I.hok d _ h
 rw[hd] at ho
 cases ho
 refine⟨hs,hd,hx,es,ep,bq,?_,λi k v e=>?_⟩
 ·have l1:es.size=xs.length:=C0 he
  have l2:aI.length=xs.length:=Paired.length pr
  (clear z;omega)
 ·obtain⟨b,hb,e1,e2,e3⟩:=lJ pr e
  have q:=entry_at he i
  rw[hb] at q
  exact⟨_,b.2.1,q,rfl,e2,e3⟩
end
def Gm(d:Addr)(o:Obj)(aI:List (List dP×V)):It:=
 ⟨λi H=>H d=some (.frz o (.dT aI))/\i<aI.length,λi H x H'=>∃T k v q,aI[i]?=some (k,v)/\x=.ref T/\H T=none/\H q=some (.tup (k.map kV))/\H'=upd H T (.tup [.ref q,v]),λi H=>H d=some (.frz o (.dT aI))/\aI.length<=i⟩
theorem tD{P:Program}{w:World}{K:PySem.W.Frag}{d:Addr}{o:Obj}{es:Array DictEntry}{ep:Nat}{aI:List (List dP×V)}{iu:List Expr}{kk:Nat}{gc:Pos}(it:Addr)(dw:o.data=.dict es ep):
  xD P w K (.Tuple iu kk gc) (Gm d o aI) [it] it (λi h=>∃ok ov,IsItemIter h it d i aI.length ep ok ov) where
 mem:=by simp
 obj:=λi h st b hb=>by
  have e:b=it:=by simpa using hb
  subst e
  obtain⟨ok,ov,e⟩:=st
  exact⟨_,e,λv z=>nomatch z⟩
 keep:=λi h h' st k=>let ⟨ok,ov,e⟩:=st;⟨ok,ov,k it (by simp) _ e⟩
 item:=by
  intro X hP hw hK hc i pins s σ H E I hf st hg
  subst hP hw hK
  obtain⟨hd,hi⟩:=hg
  obtain⟨hs,c7,hx,ke,kf,bq,hsz,kq⟩:=I.frzT2 hd
  obtain⟨rfl,rfl⟩:=oE dw bq
  obtain⟨⟨k,v⟩,ko⟩:∃p,aI[i]?=some p:=⟨aI[i],ba hi⟩
  obtain⟨en,q,lu,uj,hq,ru⟩:=kq i k v ko
  obtain⟨ok,ov,he⟩:=st
  have aj:it<s.heap.objs.size:=a9 he
  refine Th he c7 bq hsz lu λh' ho hT hk=>?_
  refine⟨_,rfl,wpAny_letOwnedTupleGo_items (s:={s with heap:=h'}) ho λic pf sb=>?_⟩
  have ym:ic.get? s.heap.objs.size=some {cls:=.type "tuple",data:=.seq #[en.key,en.val]}:=(sb.2 _ (tj aj)).trans hT
  have new:cE X.prog X.w (upd H s.heap.objs.size (.tup [.ref q,v])) ic s.heap.objs.size (.tup [.ref q,v]):=
   ⟨by show 2<=sizeLine;decide,[en.key,en.val],.cons uj (.cons ru .nil),⟨_,ym,rfl,_,rfl⟩⟩
  have I1:aP X pins σ (upd H s.heap.objs.size (.tup [.ref q,v])) {s with heap:=ic}:=
   I.turnedNew (t':=s.toks) (ch:=[it]) (λb ob hb e=>(sb.2 b (by simpa using hb)).trans (hk b ob (by simpa using hb) e)) hf (ap _) new
  refine⟨.ref s.heap.objs.size,_,I1,rfl,⟨_,k,v,q,ko,rfl,I.hok.fresh (ap _),hq,rfl⟩,⟨en.key,en.val,pf⟩,λb hb=>?_⟩
  have e:b=it:=by simpa using hb
  rw[e,aB (df aj)]
  exact(hf it (by simp)).1
 done:=by
  intro X hP hw hK hc i pins s σ H E I hf st hg
  subst hP hw hK
  obtain⟨hd,hi⟩:=hg
  obtain⟨f0,f1,f2,f3,f4,f5⟩:=hf it (by simp)
  obtain⟨hs,c7,hx,ke,kf,bq,hsz,kq⟩:=I.frzT2 hd
  obtain⟨rfl,rfl⟩:=oE dw bq
  obtain⟨ok,ov,he⟩:=st
  exact To (I.ok.hd hc) he c7 bq hsz hi λh' eb=>⟨rfl,I.turned (t':=s.toks) (λb ob hb e=>eb b ob hb e) f0 f1 f3 f4 f5⟩
 self:=λA i s Q E st h=>let ⟨_,_,e⟩:=st;PySem.W.kcp_self e h
def Ux(td:TE):TI:=fun σ H R=>td σ H λx H1=>∃d o aI,x=.ref d/\H1 d=some (.frz o (.dT aI))/\R (Gm d o aI) H1
theorem iJ{X:Cx}{e:Expr}{td:TE}{cx b9:Pos}{iu:List Expr}{kk:Nat}{gc:Pos}(he:PE X e td)(lr:attributeBase e "items" X.env (eval e X.env)=eval e X.env:=by rfl)(pc:(cx.endLine==b9.line)=true:=by rfl):
  PI X (.Tuple iu kk gc) (.Call (.Attribute e "items" cx) [] [] b9) (Ux td):=by
 intro pins s σ H R I h
 refine wpAny_Call_method (T:="dict") (id:="dict.items") lr rfl pc HG C9 F.type_dict_items (cD (he pins s σ H _ I h) λu s1 ⟨x,H1,I1,rx,d,o,aI,ex,hd,q⟩=>?_)
 subst ex
 obtain rfl:u=Value.ref d:=rx
 obtain⟨hs,c7,hx,es,ep,bq,hsz,kq⟩:=I1.frzT2 hd
 have gf:s1.TypeIs (.ref d) "dict":=⟨o,c7,hx.1⟩
 refine⟨gf,λb q=>by cases q;exact⟨o,c7,hx.2.1⟩,?_⟩
 have I2:aP X pins σ H1 {s1 with heap:=s1.heap.push {cls:=.type "dict_items",data:=.fields #[.ref d]}}:=I1.kept (t':=s1.toks) λb ob q=>br _ q
 have fin:wpAny (model X.prog X.w) X.A (pyIter (.ref s1.heap.objs.size)) (PIE X pins σ (.Tuple iu kk gc) R) X.xe {s1 with heap:=s1.heap.push {cls:=.type "dict_items",data:=.fields #[.ref d]}}:=
  Cq (d:=d) (n:=aI.length) ⟨_,cf _ rfl,rfl,rfl⟩ (br _ c7) bq hsz (rT (tk:=s1.toks) I2 _ (tD _ bq) ⟨.none,.none,cf _ rfl⟩ q)
 show wpAny _ _ (callWith b9 (.builtin "dict.items") [.ref d] [] []) _ X.xe s1
 exact HH C9 F.entry_dict_items rfl (PySem.evalArgs_none ⟨rfl,gf,F.args_dict_items_1 _,_,zH hs,gf,fin⟩)
section
variable {prog:Program} {w:World} {A:Around} {E:Value->Shared->Prop} {s:Shared} {d:Addr} {o:Obj} {es:Array DictEntry} {ep:Nat}
theorem yE(hd:(d==sysModules)=false):MeetsIn prog w (Builtin.«dict.__len__» ⟨[.ref d],[]⟩) (λ_ R s=>∃o es ep,s.heap.get? d=some o/\o.data=.dict es ep/\R (.ok (.ret (.int es.size s.toks))) {s with toks:=s.toks+1}):=
 .of_wp λA R s ⟨o,es,ep,ho,ie,h⟩=>by
  show wpAny _ _ (dictSize d>>=_) _ _ s
  unfold dictSize
  refine wpAny_bind (wpAny_bind (oz ho ie (af ?_)))
  show wpAny _ _ (Builtin.Dict.pendingCount d>>=_) _ _ s
  refine wpAny_bind (wpAny_pendingCount_other hd (wpAny_ret_mkInt ?_))
  rw[DA]
  exact h
theorem Ud{Q:Value->Shared->Prop}(hd:(d==sysModules)=false)(ho:s.heap.get? d=some o)(hx:o.ExactDict)(ie:o.data=.dict es ep)(DX:(es.size:Int)<2 ^ 63)
  (h:Q (.int es.size (s.toks+1)) {s with toks:=s.toks+1+1}):wpAny (model prog w) A (call (.builtin "len") [.ref d]) Q E s:=by
 have hT:s.TypeIs (.ref d) "dict":=⟨o,ho,hx.1⟩
 refine Calls.call_function_entry kind_len plain_len entry_len (args_len1 _) ?_
 unfold Builtin.«len»
 refine wpAny_bind (m:=oneArg "len" _) (af ?_)
 refine wpAny_bind (m:=callSpecial? (.ref d) (Str.ofString "__len__")) (md (name:=Str.ofString "__len__") hT F.slot_dict_len
  (G9 F.slot_dict_len hT F.entry_dict_len (F.args_dict_len_1 _) (yE hd) ⟨o,es,ep,ho,ie,?_⟩))
 show wpAny _ _ _ _ _ {s with toks:=s.toks+1}
 refine wpAny_bind (j8 (af (wpAny_bind (yb ?_))))
 show wpAny _ _ (if ((es.size:Nat):Int)<0 then _ else _) _ _ _
 rw[aa (by (clear DX;omega))]
 show wpAny _ _ (if ((es.size:Nat):Int)≥2 ^ 63 then _ else _) _ _ _
 rw[aa (by omega)]
 exact wpAny_bind (wpAny_mkInt (af ⟨_,rfl,h⟩))
theorem Ry(hh:A.handled=none)(I:Addr)(ak:d≠I)(ie:o.data=.dict es ep):Walks prog w A I [I,d] [I] es.size (λi v=>∃en,es[i]?=some en/\v=en.key) (λi h=>h.IsKeyIter I d i es.size ep/\h.get? d=some o) where
 sub:=λb hb=>by simp at hb;simp[hb]
 frame:=λ_ _ _ st hk=>⟨st.1.at λo e=>hk I (by simp) o e,hk d (by simp) o st.2⟩
 item:=λi s Q E hi st hQ=>by
  refine oR (en:=es[i]) st.1 st.2 ie rfl (by simp[hi]) λh' jr m5=>?_
  exact hQ _ h' s.toks ⟨_,by simp[hi],rfl⟩ ⟨jr,m5.extBut d o ak st.2⟩ λb o hb e=>m5.extBut b o (λh=>hb (by simp[h])) e
 done:=λs Q E st hQ=>lF hh st.1 st.2 ie rfl (ap _) λh' pf=>hQ h' s.toks λb o hb e=>pf b o (λh=>hb (by simp[h])) e
 self:=λ_ _ _ _ st hQ=>wpAny_pyIter_keyiter st.1 hQ
theorem Wo(lo:(d==sysModules)=false)(hx:o.ExactDict)(ie:o.data=.dict es ep):PySem.W.KdlSrc prog w "dict" d d es.size (λi v=>∃en,es[i]?=some en/\v=en.key) (λh=>h.get? d=some o) where
 type:=λ_ hm=>⟨o,hm,hx.1⟩
 there:=λ_ hm=>⟨a9 hm,a9 hm⟩
 keep:=λ_ _ hm hk=>hk d (.inl rfl) o hm
 notList:=by decide
 notTuple:=by decide
 hint:=λ_ _ _ _ hm hq=>PySem.W.kdl_hint_dict ⟨o,hm,hx.1⟩ hq
 iter:=λ_ _ hh hm=>⟨_,_,(λ_ _ hq=>rP lo hm hx ie hq),Ry hh _ (df (a9 hm)) ie,⟨⟨_,cf _ rfl,rfl,rfl⟩,br _ hm⟩⟩
end
section
variable {X:Cx} {pins:List (Addr×Obj)} {σ:St} {H:Hp} {s:Shared} {d:Addr} {o:Obj}
theorem aP.rawT{aI:List (List dP×V)}(I:aP X pins σ H s)(h:Rd H d (.dT aI)):
  (d==sysModules)=false/\aI.length<=sizeLine/\∃(o:Obj)(es:Array DictEntry)(ep:Nat),s.heap.get? d=some o/\o.ExactDict/\o.data=.dict es ep/\es.size=aI.length/\
   ∀(i:Nat)(k:List dP)(v:V),aI[i]?=some (k,v)->∃(en:DictEntry)(q:Addr),es[i]?=some en/\en.key=.ref q/\H q=some (.tup (k.map kV)):=by
 obtain⟨z,hs,xs,pr,o,es,ep,ho,hx,bq,he,_⟩:=Qm I.hok h
 refine⟨hs,z,o,es,ep,ho,hx,bq,?_,λi k v e=>?_⟩
 ·have l1:es.size=xs.length:=C0 he
  have l2:aI.length=xs.length:=Paired.length pr
  (clear z;omega)
 ·obtain⟨b,hb,e1,e2,e3⟩:=lJ pr e
  have q:=entry_at he i
  rw[hb] at q
  exact⟨_,b.2.1,q,rfl,e2⟩
theorem oH:mI X (.builtin "len") (λxs H Q=>∃a aI,xs=[V.ref a]/\Rd H a (.dT aI)/\Q (.int aI.length) H):=by
 intro pins s σ H xs us Q I r h
 obtain⟨a,aI,rfl,ha,q⟩:=h
 obtain⟨u,rfl,ru⟩:=yQ r
 cases ru
 obtain⟨hs,z,o,es,ep,ho,hx,bq,hsz,_⟩:=I.rawT ha
 refine Ud hs ho hx bq (by rw[hsz];rw[tq] at z;(clear hsz;omega)) ⟨.int es.size,H,I.tok _,⟨_,rfl⟩,?_⟩
 rw[hsz]
 exact q
theorem Hm(hc:X.calm=true):mI X (.type "list") (λxs H Q=>∃a aI,xs=[V.ref a]/\Rd H a (.dT aI)/\
  ∀l ps,H l=none->Paired (λ(p:Addr)(kv:List dP×V)=>H p=some (.tup (kv.1.map kV))) ps aI->Q (.ref l) (upd H l (.lst (ps.map V.ref)))):=by
 intro pins s σ H xs us Q I r h
 obtain⟨a,aI,rfl,ha,q⟩:=h
 obtain⟨u,rfl,ru⟩:=yQ r
 cases ru
 obtain⟨hs,z,o,es,ep,ho,hx,bq,hsz,kq⟩:=I.rawT ha
 refine PySem.W.kdl_call (Wo hs hx bq) (I.ok.hd hc) ho (by rw[hsz];exact z) λh' tk za c' hk hl P7=>?_
 obtain⟨hn,hp⟩:=P7
 have key:∀(aI:List (List dP×V)) (vs:List Value),vs.length=aI.length->(∀(i:Nat)(k:List dP)(v:V),aI[i]?=some (k,v)->∃q:Addr,vs[i]?=some (Value.ref q)/\H q=some (.tup (k.map kV)))->
   ∃ps:List Addr,vs=ps.map Value.ref/\Paired (λ(p:Addr)(kv:List dP×V)=>H p=some (.tup (kv.1.map kV))) ps aI:=by
  intro aI
  induction aI with
  |nil=>
   intro vs hl _
   cases vs with
   |nil=>exact⟨[],rfl,.nil⟩
   |cons _ _=>cases hl
  |cons kv r ih=>
   intro vs hl hh
   cases vs with
   |nil=>cases hl
   |cons v vr=>
    obtain⟨q,e1,e2⟩:=hh 0 kv.1 kv.2 rfl
    cases e1
    obtain⟨ps,e3,e4⟩:=ih vr (by simpa using hl) λi k v e=>hh (i+1) k v e
    exact⟨q::ps,by rw[e3];rfl,.cons e2 e4⟩
 obtain⟨ps,e1,e2⟩:=key aI za.toList (by rw[l9,hn,hsz]) λi k v e=>by
  obtain⟨en,q,g1,g2,g3⟩:=kq i k v e
  have hi:i<aI.length:=(bh.mp e).1
  have BE:i<za.size:=by rw[hn,hsz];exact hi
  obtain⟨P8,g4,g5⟩:=hp i za[i] (by simp[BE])
  rw[g1] at g4
  cases g4
  refine⟨q,?_,g3⟩
  rw[G5]
  simp[BE,g5,g2]
 have fr:H s.heap.objs.size=none:=I.hok.fresh (ap _)
 have rv:bA (ps.map V.ref) za.toList:=by
  rw[e1]
  clear e1 e2 hp hn hl
  induction ps with
  |nil=>exact .nil
  |cons p r ih=>exact .cons rfl ih
 refine⟨.ref s.heap.objs.size,_,I.laid (o:=.lst (ps.map V.ref)) hk (ap _) ⟨?_,za.toList,c',rv,by simpa using hl⟩,rfl,q _ ps fr e2⟩
 rw[ah,Paired.length e2]
 exact z
end
open AutoSeq1 (wpAny_loadPart')
section
variable {prog:Program} {w:World} {A:Around} {E:Value->Shared->Prop} {s:Shared}
theorem vL(l:Addr)(items:Array Value)(n:Nat)(dct:Option Addr)(sl:Array (Option Value)):
  Meets (Builtin.«enumerate.__new__» ⟨[.type "enumerate",.ref l],[]⟩) (λ_ R s=>s.heap.get? l=some {cls:=.type "tuple",dict:=dct,data:=.seq items n,slots:=sl}/\
   R (.ok (.ret (.ref (s.heap.push {cls:=.type "tuple_iterator",data:=.fields #[.ref l,.int 0 0]}).objs.size)))
    {s with heap:=(s.heap.push {cls:=.type "tuple_iterator",data:=.fields #[.ref l,.int 0 0]}).push {cls:=.type "enumerate",data:=.fields #[.none,.bool false,.ref s.heap.objs.size,rawInt 0,.none,.none]}}):=
 .of_wp λprog w A R s h=>by
  obtain⟨hp,g,d,tk,os⟩:=s;obtain⟨hl,h⟩:=h
  have UO:=sub_enumerate
  have hL:Heap.IsTuple (Shared.heap ⟨hp,g,d,tk,os⟩) l items:=⟨_,hl,rfl,n,rfl⟩
  wp_walk using yc hl
  refine wpAny_stack_any λst=>af ?_
  split
  ·rename_i c _ _ _ _ _
   cases (c==Value.type "enumerate")
   ·wp_walk using yc hl,CC hL
    exact⟨_,rfl,h⟩
   ·wp_walk using yc hl,CC hL
    exact⟨_,rfl,h⟩
  ·wp_walk using yc hl,CC hL
   exact⟨_,rfl,h⟩
theorem yC{l:Addr}{items:Array Value}{Q:Value->Shared->Prop}(hL:IsTup s.heap l items)
  (h:∀h',IsEnum h' (s.heap.objs.size+1) s.heap.objs.size 0 .none->h'.IsTupleIter s.heap.objs.size l 0->h'.objs.size=s.heap.objs.size+2->
   (∀b o,s.heap.get? b=some o->h'.get? b=some o)->Q (.ref (s.heap.objs.size+1)) {s with heap:=h'}):
  wpAny (model prog w) A (call (.type "enumerate") [.ref l]) Q E s:=by
 obtain⟨⟨c,dct,dt,sl⟩,hl,hc,n,hd⟩:=hL
 replace hc:c=.type "tuple":=hc
 replace hd:dt=.seq items n:=hd
 subst hc hd
 refine callType_new F.called_enumerate (by decide) (F.typeCall_enumerate_1 _) (F.newCall_enumerate_1 _) (λobj=>F.args_object_init_2 obj _) F.entry_enumerate_new
  (vL l items n dct sl) ⟨hl,?_⟩
 have hz:(s.heap.push {cls:=.type "tuple_iterator",data:=.fields #[.ref l,.int 0 0]}).objs.size=s.heap.objs.size+1:=ja ..
 show _/\_
 rw[hz]
 have he:IsEnum ((s.heap.push {cls:=.type "tuple_iterator",data:=.fields #[.ref l,.int 0 0]}).push
   {cls:=.type "enumerate",data:=.fields #[.none,.bool false,.ref s.heap.objs.size,rawInt 0,.none,.none]}) (s.heap.objs.size+1) s.heap.objs.size 0 .none:=by
  have:=cf (s.heap.push {cls:=.type "tuple_iterator",data:=.fields #[.ref l,.int 0 0]})
   (o:={cls:=.type "enumerate",data:=.fields #[.none,.bool false,.ref s.heap.objs.size,rawInt 0,.none,.none]}) rfl
  rw[hz] at this;exact this
 refine⟨⟨_,he,rfl⟩,h _ he ⟨_,br _ (cf _ rfl),rfl,rfl⟩ (by rw[ja,hz]) λb o x=>br _ (br _ x)⟩
theorem yA{it l:Addr}{i:Nat}{items}{x:Value}{Q:Value->Shared->Prop}(a8:s.heap.IsTupleIter it l i)
  (hl:IsTup s.heap l items) (hx:items[i]?=some x)
  (hQ:∀h',h'.IsTupleIter it l (i+1)->Heap.SameBut it s.heap h'->Q x {s with heap:=h'}):
  wpAny (model prog w) A (Builtin.SmallTypes.nextOf (.ref it)) Q E s:=by
 obtain⟨o,ho,hc,hd⟩:=id a8
 obtain⟨ol,EQ,_,nl,ER⟩:=hl
 unfold Builtin.SmallTypes.nextOf
 refine wpAny_bind (md (name:=Str.ofString "__next__") a8.typeIs DB
  (jy DB a8.typeIs MN ?_ (MO _)))
 show wpAny _ _ (field (.ref it) 0>>=_) _ _ s
 refine wpAny_bind (iz ho hd (x:=.ref l) rfl ?_)
 show wpAny _ _ (if (Value.ref l==Value.none)=true then _ else _) _ _ s
 rw[aa (show ¬((Value.ref l==Value.none)=true) from cb)]
 show wpAny _ _ (field (.ref it) 1>>=_) _ _ s
 refine wpAny_bind (iz ho hd (x:=.int i 0) rfl ?_)
 show wpAny _ _ (seqItems? (.ref l)>>=_) _ _ s
 refine wpAny_bind (yd EQ ER ?_)
 simp only[jm,hx]
 refine wpAny_bind (o1 ho hd (by simp) (af ⟨x,rfl,af (hQ _ ?_ (vp ..))⟩))
 exact⟨_,ou _ ho (xy (o3 hd _)),(HA ..).trans hc,by
  rw[o3 hd];simp[rawInt]⟩
theorem Bu{it l:Addr}{i:Nat}{items}{Q:Value->Shared->Prop}(hh:A.handled=none)
  (a8:s.heap.IsTupleIter it l i) (hl:IsTup s.heap l items) (hx:items[i]?=none)
  (hE:∀h' e,Heap.ExtBut it s.heap h'->(∃o,h'.get? e=some o/\o.cls=.type "StopIteration")->E (.ref e) {s with heap:=h'}):
  wpAny (model prog w) A (Builtin.SmallTypes.nextOf (.ref it)) Q E s:=by
 obtain⟨o,ho,hc,hd⟩:=id a8
 obtain⟨ol,EQ,_,nl,ER⟩:=hl
 unfold Builtin.SmallTypes.nextOf
 refine wpAny_bind (md (name:=Str.ofString "__next__") a8.typeIs DB
  (jy DB a8.typeIs MN ?_ (MO _)))
 show wpAny _ _ (field (.ref it) 0>>=_) _ _ s
 refine wpAny_bind (iz ho hd (x:=.ref l) rfl ?_)
 show wpAny _ _ (if (Value.ref l==Value.none)=true then _ else _) _ _ s
 rw[aa (show ¬((Value.ref l==Value.none)=true) from cb)]
 show wpAny _ _ (field (.ref it) 1>>=_) _ _ s
 refine wpAny_bind (iz ho hd (x:=.int i 0) rfl ?_)
 show wpAny _ _ (seqItems? (.ref l)>>=_) _ _ s
 refine wpAny_bind (yd EQ ER ?_)
 simp only[jm,hx]
 refine wpAny_bind (wpAny_rule (wpAny_bind (o1 ho hd (by simp) ?_)))
 show wpAny _ _ (newExc (.type "StopIteration") []>>=_) _ _ _
 refine wpAny_bind ?_
 simp only[newExc,newTuple]
 refine wpAny_bind (gn ?_ (by size_fits))
 refine wpAny_bind (m:=firstArgMember _ _) (AD (a:=Value.none) (by first|rfl|(simp only[firstArgMember];rfl)) ?_)
 refine gn ?_ (by size_fits)
 simp only[raiseNew]
 refine wpAny_bind (CY ?_)
 first|rw[show A.in1.handled=none from hh]|rw[hh]
 refine wpAny_bind (af (CZ ?_))
 exact hE _ _ (((vp ..).extBut.push _).push _) ⟨_,cf _ rfl,rfl⟩
theorem yH(hh:A.handled=none)(it l:Addr)(ak:l≠it)(items:Array Value):
  Draws prog w A it [it,l] items.size (λi v=>items[i]?=some v) (λi h=>h.IsTupleIter it l i/\IsTup h l items) where
 live:=λ_ _ st=>let ⟨o,ho,_⟩:=st.1;⟨o,ho⟩
 frame:=λ_ _ _ st hk=>⟨st.1.at λo e=>hk it (by simp) o e,let ⟨o,ho,r⟩:=st.2;⟨o,hk l (by simp) o ho,r⟩⟩
 item:=λi s Q E hi st hQ=>by
  refine yA st.1 st.2 (x:=items[i]) (by simp[hi]) λh' jr m5=>?_
  exact hQ _ h' s.toks (by simp[hi]) ⟨jr,st.2.extBut m5.extBut ak⟩ m5
 done:=λs Q E st hE=>Bu hh st.1 st.2 (by simp) hE
end
def Pp(K:PySem.W.Frag)(a:Addr):It:=
 ⟨λi H=>∃(xs:List V)(x:V),cN K H a xs/\xs[i]?=some x,λi H v H'=>∃T x,v=.ref T/\H T=none/\H'=upd H T (.tup [.int (i:Nat),x])/\∀xs,cN K H a xs->xs[i]?=some x,λi H=>∃xs:List V,cN K H a xs/\xs.length=i⟩
theorem Hj{P:Program}{w:World}{K:PySem.W.Frag}{iu:List Expr}{kk:Nat}{gc:Pos}(a e it:Addr):
  xD P w K (.Tuple iu kk gc) (Pp K a) [e,it] e (λi h=>(∃old,IsEnum h e it ((i:Nat):Int) old)/\h.IsTupleIter it a i/\e≠it/\a≠e/\a≠it) where
 mem:=by simp
 obj:=λi h st b hb=>by
  obtain⟨⟨old,he⟩,⟨o,ho,hc,hd⟩,_⟩:=st
  have e':b=e\/b=it:=by simpa using hb
  rcases e' with z|z
  ·rw[z];exact⟨_,he,λv q=>nomatch q⟩
  ·rw[z];exact⟨o,ho,λv q=>by rw[hd] at q;cases q⟩
 keep:=λi h h' st k=>let ⟨⟨old,he⟩,hi,ak⟩:=st;⟨⟨old,k e (by simp) _ he⟩,hi.at λo q=>k it (by simp) o q,ak⟩
 item:=by
  intro X hP hw hK hc i pins s σ H E I hf st hg
  subst hP hw hK
  obtain⟨⟨old,he⟩,a8,ak,ES,BF⟩:=st
  obtain⟨xs,x,hq,hx⟩:=hg
  obtain⟨its,rv,p,hz⟩:=I.tuple hq
  obtain⟨u,hu,ru⟩:=rv.get hx
  have wp:e<s.heap.objs.size:=a9 he
  have qz:it<s.heap.objs.size:=by obtain⟨_,q,_⟩:=a8;exact a9 q
  have aj:i<its.toArray.size:=by
   have:=(bh.mp hu).1
   simpa using this
  refine wpAny_pyNext_enum_itemD (yH (A:=X.A.in1) (I.ok.hd hc) it a BF its.toArray) he ⟨a8,p⟩ aj ak (by simp[ak,ao ES]) λx' h' tk hP ho b8 hT hsz hk=>?_
  have P9:x'=u:=by
   have h1:its.toArray[i]?=some u:=by simpa using hu
   rw[h1] at hP
   cases hP
   rfl
  subst P9
  refine⟨_,rfl,wpAny_letOwnedTupleGo_enum (s:={s with heap:=h',toks:=tk+1}) ho λic pf sb=>?_⟩
  have ym:ic.get? s.heap.objs.size=some {cls:=.type "tuple",data:=.seq #[.int i tk,x']}:=(sb.2 _ (tj wp)).trans hT
  have new:cE X.prog X.w (upd H s.heap.objs.size (.tup [.int (i:Nat),x])) ic s.heap.objs.size (.tup [.int (i:Nat),x]):=
   ⟨by show 2<=sizeLine;decide,[.int i tk,x'],.cons ⟨_,rfl⟩ (.cons ru .nil),⟨_,ym,rfl,_,rfl⟩⟩
  have I1:aP X pins σ (upd H s.heap.objs.size (.tup [.int (i:Nat),x])) {s with heap:=ic,toks:=tk+1}:=
   I.turnedNew (ch:=[e,it]) (λb ob hb q=>(sb.2 b (λz=>hb (by simp[z]))).trans (hk b ob (λz=>hb (by simp[z])) (λz=>hb (by simp[z])) q)) hf (ap _) new
  refine⟨.ref s.heap.objs.size,_,I1,rfl,⟨_,x,rfl,I.hok.fresh (ap _),rfl,λys hy=>by rw[I.tuple_inj hy hq];exact hx⟩,⟨⟨x',?_⟩,b8.1.at λo q=>(sb.2 it (ao ak)).trans q,ak,ES,BF⟩,λb hb=>?_⟩
  ·have e1:((i+1:Nat):Int)=(i:Int)+1:=by (clear hsz b8 aj qz wp hz;omega)
   rw[e1];exact pf
  ·have j3:b<s.heap.objs.size:=by
    have e':b=e\/b=it:=by simpa using hb
    rcases e' with z|z
    ·rw[z];exact wp
    ·rw[z];exact qz
   rw[aB (df j3)]
   exact(hf b hb).1
 done:=by
  intro X hP hw hK hc i pins s σ H E I hf st hg
  subst hP hw hK
  obtain⟨⟨old,he⟩,a8,ak,ES,BF⟩:=st
  obtain⟨xs,hq,hx⟩:=hg
  obtain⟨its,rv,p,hz⟩:=I.tuple hq
  obtain⟨f0,f1,f2,f3,f4,f5⟩:=hf it (by simp)
  have hl:=rv.length
  have hn:its.toArray.size=i:=by simp;(clear f3 f2 hz;omega)
  exact wpAny_pyNext_enum_endD (yH (A:=X.A.in1) (I.ok.hd hc) it a BF its.toArray) he (by rw[hn];exact⟨a8,p⟩) λh' eb=>⟨rfl,I.turned (t':=s.toks) (λb o hb q=>eb b o hb q) f0 f1 f3 f4 f5⟩
 self:=λA i s Q E st h=>let ⟨⟨_,he⟩,_⟩:=st;C1 he h
def aAf(K:PySem.W.Frag)(ta:TA):TI:=fun σ H R=>ta σ H λvs H1=>∃a xs,vs=[.ref a]/\cN K H1 a xs/\R (Pp K a) H1
theorem Ti{X:Cx}{e:Expr}{ta:TA}{p pos gc:Pos}{iu:List Expr}{kk:Nat}(hg:Gl X "enumerate")(hm:X.mg "enumerate"=none)(ha:PA X [e] ta)(hs:starEach [e] X.env=[(false,eval e X.env)]:=by rfl):
  PI X (.Tuple iu kk gc) (.Call (.Name "enumerate" p) [e] [] pos) (aAf X.K ta):=by
 intro pins s σ H R I h
 refine Call_ (jR I hg hm boot_enumerate (xm (cD (ha pos pins s σ H _ I h) λus s1 ⟨vs,H1,I1,r1,q1⟩=>?_) hs rfl))
 obtain⟨a,xs,ex,hq,q⟩:=q1
 subst ex
 cases r1 with
 |cons r rr=>
  cases rr
  cases r
  obtain⟨its,rv,p',hz⟩:=I1.tuple hq
  have JT:a<s1.heap.objs.size:=p'.lt
  refine yC p' λh' he a8 hsz hk=>C1 he ?_
  have I2:aP X pins σ H1 {s1 with heap:=h'}:=I1.kept (t':=s1.toks) hk
  refine⟨s1.heap.objs.size+1,[s1.heap.objs.size+1,s1.heap.objs.size],_,_,H1,rfl,I2,Hj a (s1.heap.objs.size+1) s1.heap.objs.size,⟨⟨.none,he⟩,a8,L' _,df (CN JT),df JT⟩,λb hb=>?_,q⟩
  have e':b=s1.heap.objs.size+1\/b=s1.heap.objs.size:=by simpa using hb
  have fu:s1.heap.objs.size<=b:=by
   rcases e' with z|z
   ·rw[z];exact MA _ _
   ·rw[z];exact ap _
  exact I1.fpOk fu (I1.hok.fresh fu)
end L2
namespace HT
open PySem PyProof.Rows
def gF:List Int->List Int->Bool
 |[],_=>true
 |_::_,[]=>false
 |x::xs,y::ys=>if x=y then gF xs ys else decide (x<=y)
theorem Hg(x y:Int)(xs ys:List Int):gF (x::xs) (y::ys)=if x=y then gF xs ys else decide (x<=y):=rfl
theorem Mx(ys:List Int):gF [] ys=true:=by cases ys<;>rfl
theorem xS(x:Int)(xs:List Int):gF (x::xs) []=false:=rfl
theorem Sq(A:Around)(s:Shared)(a:Int)(t:Tok)(c:Int)(u:Tok)(prog:Program)(w:World)(E:Value->Shared->Prop)(Q:Value->Shared->Prop)(h:Q (.bool (decide (a<=c))) s):
  wpAny (model prog w) A (richCompare .LtE (.int a t) (.int c u)) Q E s:=
 (PyProof.Rows.le_int h:wpAny (model prog w) A (compareOp .LtE (.int a t) (.int c u)) Q E s)
section
open PySem.SeqAt
open PySem.AutoSeq1 (wpAny_loadPart')
open PySem.MeetsSeq PySem.MeetsSeq2 PySem.MeetsSeq3
theorem yB(l b:Addr)(items gi:Array Value)(n n2:Nat)(dd qw:Option Addr)(sl qx:Array (Option Value))(ns ms:List Int)(hi:IntsAre items.toList ns)(hj:IntsAre gi.toList ms):
  Meets (Builtin.«tuple.__le__» ⟨[.ref l,.ref b],[]⟩)
   (λ_ R s=>s.heap.get? l=some {cls:=.type "tuple",dict:=dd,data:=.seq items n,slots:=sl}/\s.heap.get? b=some {cls:=.type "tuple",dict:=qw,data:=.seq gi n2,slots:=qx}/\
    R (.ok (.ret (.bool (gF ns ms)))) s):=
 .of_wp λprog w A R s h=>by
  obtain⟨hp,g,d,tk,os⟩:=s;obtain⟨hl,hb,h⟩:=h
  have f2:=AutoSeq1.sub_tuple_tuple
  have z1:items.size=ns.length:=by rw[<-hi.length];simp
  have z2:gi.size=ms.length:=by rw[<-hj.length];simp
  wp_walk using yc hl,yc hb,wpAny_forIn_list _ (λrest b s'=>b.1=none/\s'=⟨hp,g,d,tk,os⟩/\∃(vs ws:List Value)(w6 pk:List Int),rest=vs.zip ws/\
   IntsAre vs w6/\IntsAre ws pk/\w6.length+gi.size=pk.length+items.size/\R (.ok (.ret (.bool (gF w6 pk)))) ⟨hp,g,d,tk,os⟩) _
  case turn=>
   rintro⟨y,x⟩ rest b s' ⟨j3,rfl,vs,ws,w6,pk,hz,ET,r6,ax,hR⟩
   cases ET with
   |nil=>rw[List.zip_nil_left] at hz;cases hz
   |cons a t P'=>
    cases r6 with
    |nil=>rw[List.zip_nil_right] at hz;cases hz
    |cons c u QA=>
     rw[HI] at hz
     injection hz with QB QC
     injection QB with hy hx
     subst hy hx
     rw[Hg] at hR
     simp only[bn] at ax
     obtain⟨e,he,EU⟩:=Ro A.in1 ⟨hp,g,d,tk,os⟩ a t c u
     refine wpAny_bind (he prog w _ _ ?_)
     cases e with
     |true=>
      rw[ac (EU.mp rfl)] at hR
      wp_walk
      exact⟨rfl,rfl,_,_,_,_,QC,P',QA,by (clear EU z2 z1;omega),hR⟩
     |false=>
      rw[aa (λq=>absurd (EU.mpr q) cb)] at hR
      have QD:=Sq A.in1 ⟨hp,g,d,tk,os⟩ a t c u prog w
      wp_walk using QD
      exact⟨_,rfl,by simpa using hR⟩
  case fin=>
   rintro⟨b1,b2⟩ s' ⟨j3,rfl,vs,ws,w6,pk,hz,ET,r6,ax,hR⟩
   simp only at j3
   subst j3
   have hv:gF w6 pk=decide (items.size<=gi.size):=by
    cases ET with
    |nil=>
     simp only[xt] at ax
     rw[Mx]
     exact(cn (by (clear z2 z1;omega))).symm
    |cons a t hv=>
     cases r6 with
     |nil=>
      simp only[xt,bn] at ax
      rw[xS]
      exact(jx (by (clear z2 z1;omega))).symm
     |cons c u hw=>
      rw[HI] at hz
      cases hz
   rw[hv] at hR
   wp_walk
   exact⟨_,rfl,by simpa[Builtin.Tuple.tupleCompareSizes] using hR⟩
  case h=>
   exact⟨rfl,rfl,items.toList,gi.toList,ns,ms,rfl,hi,hj,by omega,h⟩
end
section
variable {prog:Program} {w:World} {A:Around} {E:Value->Shared->Prop} {s:Shared}
theorem Hs{l b:Addr}{items gi:Array Value}{ns ms:List Int}{Q:Value->Shared->Prop}(hl:IsTup s.heap l items)(hb:IsTup s.heap b gi)(hi:IntsAre items.toList ns)(hj:IntsAre gi.toList ms)
  (hu:A.units<cLine) (h:Q (.bool (gF ns ms)) s):wpAny (model prog w) A (compareOp .LtE (.ref l) (.ref b)) Q E s:=by
 obtain⟨⟨cls,dd,data,sl⟩,ho,hc,n,hd⟩:=id hl
 obtain⟨⟨II,qw,data2,qx⟩,kh,di,n2,dv⟩:=id hb
 simp only at hc hd di dv
 subst hc hd di dv
 exact richCompare_meets_room (op:=.LtE) ⟨_,ho,rfl⟩ ⟨_,kh,rfl⟩ PySem.F.slot_tuple_le PySem.F.entry_tuple_le (PySem.F.args_tuple_le_2 _ _) (yB l b items gi n n2 dd qw sl qx ns ms hi hj)
  ⟨ho,kh,show Value.bool (gF ns ms)≠Value.notImplemented/\Q (.bool (gF ns ms)) s from ⟨(λx=>nomatch x),h⟩⟩ hu
theorem Wy{t b:Addr}{ws:List Value}{Q:Value->Shared->Prop}(ht:IsTup s.heap t ([]:List Value).toArray)(hb:IsTup s.heap b ws.toArray)(h:Q (.ref b) s):wpAny (model prog w) A (binaryOp .Add (.ref t) (.ref b)) Q E s:=by
 obtain⟨⟨cls,dd,data,sl⟩,ho,hc,n,hd⟩:=id ht
 obtain⟨⟨II,qw,data2,qx⟩,kh,di,n2,dv⟩:=id hb
 simp only at hc hd di dv
 subst hc hd di dv
 exact GV ⟨_,ho,rfl⟩ ⟨_,kh,rfl⟩ GW GY PySem.F.slot_tuple_add PySem.F.entry_tuple_add (PySem.F.args_tuple_add_2 _ _)
   (tuple_addW0 t b #[] ws.toArray n n2 dd qw sl qx rfl) ⟨ho,kh,h⟩
theorem zV{l b:Addr}{items gi:Array Value}{ns ms:List Int}(hl:IsTup s.heap l items)(hb:IsTup s.heap b gi)(hi:IntsAre items.toList ns)(hj:IntsAre gi.toList ms)(hu:A.units<cLine):
  SeqAt.RcAt A s (.ref l) (.ref b) (decide (ns=ms)):=by
 have z1:items.size=ns.length:=by rw[<-hi.length];simp
 have z2:gi.size=ms.length:=by rw[<-hj.length];simp
 have r8:∀{vs:List Value}{xs:List Int}(j:Nat),IntsAre vs xs->(h1:j<vs.length)->∃t,vs[j]=.int (xs.getD j 0) t:=by
  intro vs
  induction vs with
  |nil=>intro xs j _ h1;exact absurd h1 (AH _)
  |cons v r ih=>
   intro xs j h1 hl
   cases h1 with
   |cons a t h1=>
    cases j with
    |zero=>exact⟨t,rfl⟩
    |succ j=>exact ih j h1 (by simpa using hl)
 have key:=SeqAt.RcAt.tuples (A:=A) (s:=s) (l:=l) (b:=b) (e:=λj=>decide (ns.getD j 0=ms.getD j 0)) hl hb hu λj h1 h2=>by
  obtain⟨t,e1⟩:=r8 j hi (by simpa using h1)
  obtain⟨u,e2⟩:=r8 j hj (by simpa using h2)
  rw[show items[j]=.int (ns.getD j 0) t by simpa using e1,show gi[j]=.int (ms.getD j 0) u by simpa using e2,<-CA]
  exact GU _ _ _ _
 have val:((List.range (min items.size gi.size)).all (λj=>decide (ns.getD j 0=ms.getD j 0)) && items.size==gi.size)=decide (ns=ms):=by
  rw[z1,z2,f7,cg,mh,bu,cz]
  constructor
  ·rintro⟨h1,h2⟩
   refine List.ext_getElem h2 λj g1 g2=>?_
   have:=dq (h1 j (by rw[z0];(clear g2 z2 z1 hu;omega)))
   rw[cy,cy,ba g1,ba g2] at this
   simpa using this
  ·rintro rfl
   exact⟨λj _=>cn rfl,rfl⟩
 rw[val] at key
 exact key
theorem sW:∀{vs:List Value}{xs ys:List Int},IntsAre vs xs->IntsAre vs ys->xs=ys:=by
 intro vs
 induction vs with
 |nil=>intro xs ys h1 h2;cases h1;cases h2;rfl
 |cons v r ih=>
  intro xs ys h1 h2
  cases h1 with
  |cons a t h1=>
   cases h2 with
   |cons _ _ h2=>rw[ih h1 h2]
theorem Og{l b:Addr}{items gi:Array Value}{ns ms:List Int}(hl:IsTup s.heap l items)(hb:IsTup s.heap b gi)(hi:IntsAre items.toList ns)(hj:IntsAre gi.toList ms)(hu:A.units<cLine):
  SeqAt.EqAt A s (.ref l) (.ref b) (decide (ns=ms)):=by
 by_cases JU:l=b
 ·subst JU
  obtain⟨o,e1,_,n,e2⟩:=hl
  obtain⟨o2,e3,_,n2,e4⟩:=hb
  rw[e1] at e3
  cases e3
  rw[e2] at e4
  cases e4
  rw[sW hi hj,cn rfl]
  exact SeqAt.EqAt.same _
 ·exact SeqAt.EqAt.of_refs JU (zV hl hb hi hj hu)
end
end HT
namespace L2
open PySem PySem.Spec PyProof.Rows
section
variable {X:Cx}
def aDr(K:PySem.W.Frag):R2:=λx y H Q=>∃a b ns ms,x=.ref a/\y=.ref b/\cN K H a (ns.map V.int)/\cN K H b (ms.map V.int)/\Q (.bl (HT.gF ns ms)) H
theorem aAy(hu:X.A.units<cLine):tV X (compareOp .LtE) (aDr X.K):=by
 intro pins s σ H x y v u Q I rx ry h
 obtain⟨a,b,ns,ms,rfl,rfl,ha,hb,q⟩:=h
 cases rx
 cases ry
 obtain⟨its,r1,p1,_⟩:=I.tuple ha
 obtain⟨A1,r2,p2,_⟩:=I.tuple hb
 have i1:IntsAre its.toArray.toList ns:=fN r1
 have i2:IntsAre A1.toArray.toList ms:=fN r2
 exact HT.Hs p1 p2 i1 i2 hu ⟨.bl (HT.gF ns ms),H,I,rfl,q⟩
def aBt(K:PySem.W.Frag):R2:=λx y H Q=>∃a b xs ys,x=.ref a/\y=.ref b/\cN K H a xs/\cN K H b ys/\ys≠[]/\xs.length+ys.length<=sizeLine/\
 ∀p H',(∀c o,H c=some o->H' c=some o)->cN K H' p (xs++ys)->Q (.ref p) H'
theorem Je:tV X (binaryOp .Add) (aBt X.K):=by
 intro pins s σ H x y v u Q I rx ry h
 obtain⟨a,b,xs,ys,rfl,rfl,ha,hb,hy,hz,q⟩:=h
 by_cases hx:xs=[]
 ·subst hx
  cases rx
  cases ry
  obtain⟨its,r1,p1,_⟩:=I.tuple ha
  obtain⟨A1,r2,p2,_⟩:=I.tuple hb
  cases r1
  exact HT.Wy p1 p2 ⟨.ref b,H,I,rfl,q b H (λ_ _ e=>e) hb⟩
 ·refine Uo pins s σ H _ _ v u Q I rx ry ⟨a,b,xs,ys,rfl,rfl,ha,hb,hx,hz,λe=>absurd e hy,λ_ p hp=>?_⟩
  exact q p _ (λc o e=>by rw[aB (aD e hp)];exact e) (cN.of aC)
def oP(K:PySem.W.Frag)(H:Hp)(xs:List V)(ag:List (List Int)):Prop:=Paired (λx ns=>∃p,x=V.ref p/\cN K H p (ns.map V.int)) xs ag
open Classical in
noncomputable def Me(s:Shared)(ns:List Int)(v:Value):Bool:=decide (∃p its,v=.ref p/\IsTup s.heap p its/\IntsAre its.toList ns)
theorem Yk{s:Shared}{p:Addr}{its:Array Value}{ns ms:List Int}(h:IsTup s.heap p its)(hi:IntsAre its.toList ms):Me s ns (.ref p)=decide (ms=ns):=by
 unfold Me
 rw[MQ]
 constructor
 ·rintro⟨p',its',e,h',QE⟩
  cases e
  obtain⟨o,e1,_,n,e2⟩:=h
  obtain⟨o2,e3,_,n2,e4⟩:=h'
  rw[e1] at e3
  cases e3
  rw[e2] at e4
  cases e4
  exact HT.sW hi QE
 ·rintro rfl
  exact⟨p,its,rfl,h,hi⟩
theorem Bw{pins:List (Addr×Obj)}{σ:St}{H:Hp}{s:Shared}{A:Around}{p:Addr}{its:Array Value}{ns:List Int}(I:aP X pins σ H s)(hu:A.units<cLine)(hp:IsTup s.heap p its)(hi:IntsAre its.toList ns):
  ∀{xs:List V}{us:List Value} {ag:List (List Int)},oP X.K H xs ag->bA xs us->(∀u∈us,SeqAt.EqAt A s u (.ref p) (Me s ns u))/\us.map (Me s ns)=ag.map λms=>decide (ms=ns)
 |[],_,_,t,v=>by
  cases t
  cases v
  exact⟨(λu h=>by cases h),rfl⟩
 |x::xs,_,_,t,v=>by
  cases t with
  |cons t1 t2=>
   cases v with
   |cons v1 v2=>
    obtain⟨q,rfl,hq⟩:=t1
    cases v1
    obtain⟨itq,rq,pq,_⟩:=I.tuple hq
    have iq:=fN rq
    have e:=Yk (ns:=ns) (its:=itq.toArray) pq (by simpa using iq)
    obtain⟨g1,g2⟩:=Bw I hu hp hi t2 v2
    refine⟨λu h=>?_,?_⟩
    ·rcases aw.mp h with rfl|h
     ·rw[e]
      exact HT.Og pq hp (by simpa using iq) hi hu
     ·exact g1 u h
    ·rw[bz,bz,e,g2]
def aEk(K:PySem.W.Frag)(neg:Bool):R2:=λx y H Q=>∃p a ns xs ag,x=.ref p/\y=.ref a/\cN K H p (ns.map V.int)/\cP K H a xs/\oP K H xs ag/\Q (.bl (if neg then !decide (ns∈ag) else decide (ns∈ag))) H
theorem Tq{s:Shared}{ns:List Int}{us:List Value}{ag:List (List Int)}(h:us.map (Me s ns)=ag.map λms=>decide (ms=ns)):us.toArray.any (Me s ns)=decide (ns∈ag):=by
 have h1:us.any (Me s ns)=(us.map (Me s ns)).any id:=by rw[AB];rfl
 have h2:us.toArray.any (Me s ns)=us.any (Me s ns):=by simp
 rw[h2,h1,h,AB,f7,lh,bu]
 constructor
 ·rintro⟨m,hm,e⟩
  have e:decide (m=ns)=true:=e
  rw[<-dq e]
  exact hm
 ·intro hm
  exact⟨ns,hm,show decide (ns=ns)=true from cn rfl⟩
theorem Nb(hu:X.A.units+1<cLine):tV X (compareOp .NotIn) (aEk X.K true):=by
 intro pins s σ H x y v u Q I rx ry h
 obtain⟨p,a,ns,xs,ag,rfl,rfl,hp,ha,ht,q⟩:=h
 cases rx
 cases ry
 obtain⟨its,r,pl,hz⟩:=I.list ha
 obtain⟨itp,rp,pp,_⟩:=I.tuple hp
 obtain⟨g1,g2⟩:=Bw (A:=X.A.in1) I hu pp (by simpa using fN rp) ht r
 refine SeqAt.notIn_listAt (Me s ns) pl.isList (λw hw=>g1 w (by simpa using hw)) ⟨.bl _,H,I,rfl,?_⟩
 rw[Tq g2]
 exact q
def Uw(K:PySem.W.Frag):V->List V->Hp->VK->Prop:=λx ys H Q=>∃(a p:Addr)(xs:List V) (ag:List (List Int)) (ns:List Int) (j:Nat),x=V.ref a/\ys=[V.ref p]/\cP K H a xs/\oP K H xs ag/\cN K H p (ns.map V.int)/\
 ag[j]?=some ns/\(∀m ms,m<j->ag[m]?=some ms->ms≠ns)/\Q (.int (j:Nat)) H
theorem Lz(hu:X.A.units+1<cLine):MtR X "list.index" (Uw X.K):=by
 intro pins s σ H x xs v us Q I rx rxs h
 obtain⟨a,p,ys,ag,ns,j,rfl,rfl,hs,ht,hp,hj,b7,q⟩:=h
 cases rx
 obtain⟨uy,rfl,ry⟩:=yQ rxs
 cases ry
 obtain⟨its,rv,⟨⟨cls,dd,data,sl⟩,n,ho,hc,kr,hd⟩,ax⟩:=I.list hs
 simp only at hc hd
 subst hc hd
 obtain⟨itp,rp,pp,_⟩:=I.tuple hp
 obtain⟨g1,g2⟩:=Bw (A:=X.A.in1) I hu pp (by simpa using fN rp) ht rv
 have nj:its.length=ag.length:=by
  have:=congrArg List.length g2
  simpa using this
 have r8:∀m (hm:m<its.length) ms,ag[m]?=some ms->Me s ns its[m]=decide (ms=ns):=by
  intro m hm ms e
  have:=congrArg (λl:List Bool=>l[m]?) g2
  simp only[bf,e,ba hm,HJ] at this
  injection this
 have JV:j<its.length:=by rw[nj];exact(bh.mp hj).1
 have bw:=tq
 have r9:=rv.length
 refine z9 PySem.F.slot_list_index ⟨_,ho,rfl⟩ PySem.F.entry_list_index (PySem.F.args_list_index_2 _ _)
  (SeqAt.list_indexAt a its.toArray n dd sl (.ref p) (Me s ns) j (by simpa using JV) (by (clear nj hu;omega)) ?_ ?_) ⟨ho,λu' EV=>g1 u' (by simpa using EV),?_⟩
 ·have e1:its.toArray[j]=its[j]:=by simp
  rw[e1,r8 j JV ns hj]
  exact cn rfl
 ·intro m hm QF
  have nk:m<its.length:=by simpa using hm
  have e1:its.toArray[m]=its[m]:=by simp
  have JW:m<ag.length:=by rw[<-nj];exact nk
  rw[e1,r8 m nk _ (ba JW)]
  exact jx (b7 m _ QF (ba JW))
 ·exact⟨.int (j:Nat),H,I.tok _,⟨_,rfl⟩,q⟩
def Zq(K:PySem.W.Frag):R2:=λx y H Q=>∃(p q:Addr)(ns ms:List Int),x=.ref p/\y=.ref q/\cN K H p (ns.map V.int)/\cN K H q (ms.map V.int)/\Q (.bl (decide (ns=ms))) H
theorem aAb(hu:X.A.units<cLine):tV X (compareOp .Eq) (Zq X.K):=by
 intro pins s σ H x y v u Q I rx ry h
 obtain⟨a,b,ns,ms,rfl,rfl,ha,hb,q⟩:=h
 cases rx
 cases ry
 obtain⟨its,r1,p1,_⟩:=I.tuple ha
 obtain⟨A1,r2,p2,_⟩:=I.tuple hb
 exact HT.zV p1 p2 (by simpa using fN r1) (by simpa using fN r2) hu _ _ _ _ ⟨.bl _,H,I,rfl,q⟩
end
theorem gK{d:Addr}{o:Obj}{aI:List (List dP×V)}{g:TG}{tb:TS}{D:fY}{σ:St}{H:Hp}(Pv:Nat->St->Hp->Prop)(h0:Pv 0 σ H)(hl:∀i σ H,i<=aI.length->Pv i σ H->H d=some (.frz o (.dT aI)))
  (hs:∀i σ H T k v q,aI[i]?=some (k,v)->Pv i σ H->H T=none->H q=some (.tup (k.map kV))->g (.ref T) σ (upd H T (.tup [.ref q,v])) λau H2=>tb {D with nx:=Pv (i+1),ct:=Pv (i+1),bk:=D.nx} au H2) (hd:∀ σ H,Pv aI.length σ H->D.nx σ H):
  ∃W:Nat->Nat->St->Hp->Prop,(∃m,W 0 m σ H)/\∀i m σ H,W i m σ H->
   ((Gm d o aI).stop i H/\D.nx σ H)\/((Gm d o aI).go i H/\∃N:St->Hp->Prop,(∀ae H',N ae H'->∃m',m'<m/\W (i+1) m' ae H')/\∀x H',(Gm d o aI).yld i H x H'->g x σ H' λau H2=>tb {D with nx:=N,ct:=N,bk:=D.nx} au H2):=by
 refine⟨λi m σ H=>m=aI.length - i/\i<=aI.length/\Pv i σ H,⟨aI.length,by simp,da _,h0⟩,?_⟩
 rintro i m σ H ⟨rfl,hi,p⟩
 have q:=hl i σ H hi p
 by_cases aj:i<aI.length
 ·refine .inr ⟨⟨q,aj⟩,Pv (i+1),λae H' p'=>⟨aI.length - (i+1),by (clear hi;omega),rfl,aj,p'⟩,λx H' y=>?_⟩
  obtain⟨T,k,v,a,e1,rfl,e2,e3,rfl⟩:=y
  exact hs i σ H T k v a e1 p e2 e3
 ·have e:i=aI.length:=by omega
  subst e
  exact .inl ⟨⟨q,ap _⟩,hd σ H p⟩
theorem gL{H H':Hp}{c:Addr}{u:HO}{od:Obj}(h:H c=some u)(s:aK (upd H c (.frz od u)) H'):aK H (upd H' c u):=λb o e=>by
 by_cases hb:b=c
 ·rw[hb] at e ⊢
  rw[aC,<-e,h]
 ·rw[aB hb]
  exact s b o (by rw[aB hb];exact e)
theorem aK.new{H:Hp}{q:Addr}{o:HO}(h:H q=none):aK H (upd H q o):=λb o' e=>by rw[aB (aD e h)];exact e
theorem aK.id'(H:Hp):aK H H:=λ_ _ e=>e
end L2
namespace Br1
open PySem PySem.Spec PyProof.Rows L2
abbrev Pl:=Int×Int×Int
abbrev CL:=List (Pl×Int)
def Zk(c:Pl×Int):List dP×V:=(eI c.1.1 c.1.2.1 c.1.2.2,V.int c.2)
def aI(cs:CL):List (List dP×V):=cs.map Zk
def aV(cs:CL)(p:Pl):Option Int:=(cs.find? λc=>decide (c.1=p)).map (·.2)
def jK(p:Pl):Pl:=(p.1,p.2.1,p.2.2+1)
def pH(p:Pl):Pl:=(p.1,p.2.1,p.2.2 - 1)
theorem wZ{p q:Pl}:eI p.1 p.2.1 p.2.2=eI q.1 q.2.1 q.2.2↔p=q:=by
 obtain⟨a,b,c⟩:=p
 obtain⟨x,y,z⟩:=q
 simp[eI]
theorem qB(p:Pl):∀cs:CL,jA (aI cs) (eI p.1 p.2.1 p.2.2)=(aV cs p).map V.int
 |[]=>rfl
 |c::r=>by
  have ih:=qB p r
  unfold jA aV aI at *
  rw[bz,oy,oy]
  by_cases h:c.1=p
  ·have h2:(Zk c).1=eI p.1 p.2.1 p.2.2:=wZ.mpr h
   simp only[h,h2,decide_true,HJ]
   rfl
  ·have h2:¬(Zk c).1=eI p.1 p.2.1 p.2.2:=λz=>h (wZ.mp z)
   simp only[h,h2,HK]
   exact ih
theorem gO{cs:CL}{i:Nat}{k:List dP}{v:V}(h:(aI cs)[i]?=some (k,v)):∃p s,cs[i]?=some (p,s)/\k=eI p.1 p.2.1 p.2.2/\v=V.int s:=by
 unfold aI at h
 rw[bf] at h
 obtain⟨⟨p,s⟩,e1,e2⟩:=qi.mp h
 cases e2
 exact⟨p,s,e1,rfl,rfl⟩
theorem Dr{α:Type}{f:α->Bool}{l:List α}{i:Nat}{x:α}(h:(l.take i).all f=true)(e:l[i]?=some x)(hx:f x=true):(l.take (i+1)).all f=true:=by
 have hl:=(bh.mp e).1
 rw[i3,e,List.all_append,h]
 simp[hx]
def nG(cs:CL):Bool:=cs.all λc=> !(eA c.2 && (aV cs (jK c.1)).isSome)
def mM(cs:CL):Bool:=cs.all λc=> !(dD c.2 && (aV cs (pH c.1)).isSome)
section
variable {P:Program} {w:World} {K:PySem.W.Frag} {mg:Str->Option Value} {base:Heap} {C CR CP:Addr}
def yD(CP:Addr)(H:Hp)(b:Addr)(nm:Addr)(W D Hh g:Int)(cs:CL):Prop:=∃dx c,H b=some (.ins CP dx (On nm W D Hh g c))/\H c=some (.dT (aI cs))
def Cj(CP:Addr):Sp:=λvs H Q _=>∃(b nm:Addr)(W D Hh g:Int)(cs:CL),vs=[.ref b]/\yD CP H b nm W D Hh g cs/\∀H',aK H H'->Q (.bl (nG cs)) H'
def Ao(CP:Addr):Sp:=λvs H Q _=>∃(b nm:Addr)(W D Hh g:Int)(cs:CL),vs=[.ref b]/\yD CP H b nm W D Hh g cs/\∀H',aK H H'->Q (.bl (mM cs)) H'
theorem xN:aQ ["part","place","sign"] ["part"] (aH Cl):=⟨rfl,rfl,rfl,by decide+kernel,rfl,by decide+kernel,by decide+kernel⟩
theorem xW:aQ ["part","place","sign"] ["part"] (aH Ak):=⟨rfl,rfl,rfl,by decide+kernel,rfl,by decide+kernel,by decide+kernel⟩
theorem pX{H:Hp}{c q:Addr}{od:Obj}{cs:CL}{p:Pl}(hc:H c=some (.frz od (.dT (aI cs))))(hq:H q=some (.tup [.int p.1,.int p.2.1,.int p.2.2])):mT H c (.ref q) ((aV cs p).map V.int):=
 .inr ⟨aI cs,eI p.1 p.2.1 p.2.2,q,.inr ⟨od,hc⟩,rfl,hq,(qB p cs).symm⟩
theorem vQ{H:Hp}{c q:Addr}{cs:CL}{p:Pl}(hc:H c=some (.dT (aI cs)))(hq:H q=some (.tup [.int p.1,.int p.2.1,.int p.2.2])):mT H c (.ref q) ((aV cs p).map V.int):=
 .inr ⟨aI cs,eI p.1 p.2.1 p.2.2,q,.inl hc,rfl,hq,(qB p cs).symm⟩
theorem Pk{f:Addr}{fd:FuncData}(F:fH K "studs_clear" "studs_clear" Cl f fd)(T':Nn K CP)(L1:dL P w K mg base "has_stud" bU 1 ["sign"] rQ)(L2:dL P w K mg base "above" bU 1 ["place"] lQ):
  bT P w K mg base bU 2 f fd ["part"] (Cj CP):=by
 obtain⟨g1,gh,G1,b1,k1,h1⟩:=L1.ex
 obtain⟨g2,ku,G2,b2,k2,h2⟩:=L2.ex
 refine F.ok xN (λvs H Q E h=>?_) (λai A outer s H vs Q E hr h=>?_)
 ·obtain⟨b,nm,W,D,Hh,g,cs,rfl,_⟩:=h
  rfl
 ·obtain⟨b,nm,W,D,Hh,g,cs,rfl,⟨dx,c,hb,hc⟩,k⟩:=h
  have a7:=hr.mono (j:=1) (by decide)
  have hu:=jY hr
  refine⟨_,aE (gQ (eB i4 rfl (iJ (aO (pv 0) rfl)) (lG rfl (cK (bH (i:=1) xN.nd rfl (Or.inl rfl)) (cK (bH (i:=2) xN.nd rfl (Or.inl rfl)) iC)))
    (aG (dZ (gA (dY (aT G1 a7 (by rfl) h1 k1 b1 .nil aY (aA (pv 2) aF))) (gP (dE (pA hu (aT G2 a7 (by rfl) h2 k2 b2 .nil aY (aA (pv 1) aF)) (aO (pv 0) rfl))))).pt (aG (aW mR)) bX))))
   (aG (aW mR)),?_⟩
  refine⟨c,_,hc,trivial,λod=>?_⟩
  have u4:b≠c:=λz=>by rw[z,hc] at hb;cases hb
  have fi:upd H c (.frz od (.dT (aI cs))) c=some (.frz od (.dT (aI cs))):=aC
  have nv:upd H c (.frz od (.dT (aI cs))) b=some (.ins CP dx (On nm W D Hh g c)):=by rw[aB u4];exact hb
  refine⟨_,rfl,b,CP,dx,_,_,rfl,nv,T'.cl,T'.n6,rfl,c,od,_,rfl,fi,?_⟩
  refine gK (λi σ H'=>∃v1 v2,σ=[some (.ref b),v1,v2]/\aK (upd H c (.frz od (.dT (aI cs)))) H'/\(cs.take i).all (λc=> !(eA c.2 && (aV cs (jK c.1)).isSome))=true) ⟨none,none,rfl,aK.id' _,rfl⟩ ?_ ?_ ?_
  ·rintro i σ H1 hi ⟨v1,v2,rfl,S1,_⟩
   exact S1 _ _ fi
  ·rintro i σ H1 T k v q e ⟨v1,v2,rfl,S1,al⟩ hT hq
   obtain⟨p,sg,e1,rfl,rfl⟩:=gO e
   have ST:=aK.new (o:=.tup [.ref q,.int sg]) hT
   have S2:aK (upd H c (.frz od (.dT (aI cs)))) (upd H1 T (.tup [.ref q,.int sg])):=S1.trans ST
   refine⟨T,_,rfl,cN.of aC,rfl,_,_,rfl,_,_,rfl,rfl,?_⟩
   have step:(!(eA sg && (aV cs (jK p)).isSome))=true->(cs.take (i+1)).all (λc=> !(eA c.2 && (aV cs (jK c.1)).isSome))=true:=λz=>Dr al e1 z
   refine⟨_,rfl,sg,rfl,_,rfl,bY (λhs=>?_) (λhs=>pO ⟨_,_,rfl,S2,step (by rw[cZ hs];rfl)⟩)⟩
   refine⟨_,rfl,q,p.1,p.2.1,p.2.2,rfl,ST _ _ hq,λq2 cu=>?_⟩
   have SQ:=aK.new (o:=.tup [.int p.1,.int p.2.1,.int (p.2.2+1)]) cu
   have S3:=S2.trans SQ
   refine⟨_,rfl,b,CP,dx,_,_,rfl,S3 _ _ nv,T'.cl,T'.n6,rfl,c,_,rfl,pX (p:=jK p) (S3 _ _ fi) aC,_,rfl,bY (λhi=>?_) (λhi=>?_)⟩
   ·refine⟨S3 _ _ fi,?_⟩
    have z:=k _ (gL hc S3)
    have e3:nG cs=false:=by
     unfold nG
     rw[HL]
     intro z
     have:=mh.mp z _ (dg e1)
     rw[gq] at hi
     rw[hs,hi] at this
     cases this
    rw[e3] at z
    exact z
   ·refine⟨_,_,rfl,S3,step ?_⟩
    rw[gq] at hi
    rw[cZ hi,ye]
    rfl
  ·rintro σ H1 ⟨v1,v2,rfl,S1,al⟩
   refine⟨S1 _ _ fi,?_⟩
   have z:=k _ (gL hc S1)
   have e3:nG cs=true:=by
    unfold nG
    have hl:(aI cs).length=cs.length:=by unfold aI;rw[ah]
    rw[hl,ik] at al
    exact al
   rw[e3] at z
   exact z
theorem Py{f:Addr}{fd:FuncData}(F:fH K "tubes_clear" "tubes_clear" Ak f fd)(T':Nn K CP)(L1:dL P w K mg base "has_tube" bU 1 ["sign"] rW)(L2:dL P w K mg base "below" bU 1 ["place"] nX):
  bT P w K mg base bU 2 f fd ["part"] (Ao CP):=by
 obtain⟨g1,gh,G1,b1,k1,h1⟩:=L1.ex
 obtain⟨g2,ku,G2,b2,k2,h2⟩:=L2.ex
 refine F.ok xW (λvs H Q E h=>?_) (λai A outer s H vs Q E hr h=>?_)
 ·obtain⟨b,nm,W,D,Hh,g,cs,rfl,_⟩:=h
  rfl
 ·obtain⟨b,nm,W,D,Hh,g,cs,rfl,⟨dx,c,hb,hc⟩,k⟩:=h
  have a7:=hr.mono (j:=1) (by decide)
  have hu:=jY hr
  refine⟨_,aE (gQ (eB i4 rfl (iJ (aO (pv 0) rfl)) (lG rfl (cK (bH (i:=1) xW.nd rfl (Or.inl rfl)) (cK (bH (i:=2) xW.nd rfl (Or.inl rfl)) iC)))
    (aG (dZ (gA (dY (aT G1 a7 (by rfl) h1 k1 b1 .nil aY (aA (pv 2) aF))) (gP (dE (pA hu (aT G2 a7 (by rfl) h2 k2 b2 .nil aY (aA (pv 1) aF)) (aO (pv 0) rfl))))).pt (aG (aW mR)) bX))))
   (aG (aW mR)),?_⟩
  refine⟨c,_,hc,trivial,λod=>?_⟩
  have u4:b≠c:=λz=>by rw[z,hc] at hb;cases hb
  have fi:upd H c (.frz od (.dT (aI cs))) c=some (.frz od (.dT (aI cs))):=aC
  have nv:upd H c (.frz od (.dT (aI cs))) b=some (.ins CP dx (On nm W D Hh g c)):=by rw[aB u4];exact hb
  refine⟨_,rfl,b,CP,dx,_,_,rfl,nv,T'.cl,T'.n6,rfl,c,od,_,rfl,fi,?_⟩
  refine gK (λi σ H'=>∃v1 v2,σ=[some (.ref b),v1,v2]/\aK (upd H c (.frz od (.dT (aI cs)))) H'/\(cs.take i).all (λc=> !(dD c.2 && (aV cs (pH c.1)).isSome))=true) ⟨none,none,rfl,aK.id' _,rfl⟩ ?_ ?_ ?_
  ·rintro i σ H1 hi ⟨v1,v2,rfl,S1,_⟩
   exact S1 _ _ fi
  ·rintro i σ H1 T k v q e ⟨v1,v2,rfl,S1,al⟩ hT hq
   obtain⟨p,sg,e1,rfl,rfl⟩:=gO e
   have ST:=aK.new (o:=.tup [.ref q,.int sg]) hT
   have S2:aK (upd H c (.frz od (.dT (aI cs)))) (upd H1 T (.tup [.ref q,.int sg])):=S1.trans ST
   refine⟨T,_,rfl,cN.of aC,rfl,_,_,rfl,_,_,rfl,rfl,?_⟩
   have step:(!(dD sg && (aV cs (pH p)).isSome))=true->(cs.take (i+1)).all (λc=> !(dD c.2 && (aV cs (pH c.1)).isSome))=true:=λz=>Dr al e1 z
   refine⟨_,rfl,sg,rfl,_,rfl,bY (λhs=>?_) (λhs=>pO ⟨_,_,rfl,S2,step (by rw[cZ hs];rfl)⟩)⟩
   refine⟨_,rfl,q,p.1,p.2.1,p.2.2,rfl,ST _ _ hq,λq2 cu=>?_⟩
   have SQ:=aK.new (o:=.tup [.int p.1,.int p.2.1,.int (p.2.2 - 1)]) cu
   have S3:=S2.trans SQ
   refine⟨_,rfl,b,CP,dx,_,_,rfl,S3 _ _ nv,T'.cl,T'.n6,rfl,c,_,rfl,pX (p:=pH p) (S3 _ _ fi) aC,_,rfl,bY (λhi=>?_) (λhi=>?_)⟩
   ·refine⟨S3 _ _ fi,?_⟩
    have z:=k _ (gL hc S3)
    have e3:mM cs=false:=by
     unfold mM
     rw[HL]
     intro z
     have:=mh.mp z _ (dg e1)
     rw[gq] at hi
     rw[hs,hi] at this
     cases this
    rw[e3] at z
    exact z
   ·refine⟨_,_,rfl,S3,step ?_⟩
    rw[gq] at hi
    rw[cZ hi,ye]
    rfl
  ·rintro σ H1 ⟨v1,v2,rfl,S1,al⟩
   refine⟨S1 _ _ fi,?_⟩
   have z:=k _ (gL hc S1)
   have e3:mM cs=true:=by
    unfold mM
    have hl:(aI cs).length=cs.length:=by unfold aI;rw[ah]
    rw[hl,ik] at al
    exact al
   rw[e3] at z
   exact z
end
end Br1
namespace L2
open PySem PySem.Spec PyProof.Rows
theorem wC{d:Addr}{o:Obj}{aI:List (List dP×V)}{g:TG}{tt:TT}{te:TE}{vs:List Nat}{σ:St}{H1:Hp}{D:Addr}{Qd:Hp->Prop}(Pv:Nat->Hp->Prop)(h0:Pv 0 (upd H1 D (.lst [])))(hl:∀i H,i<=aI.length->Pv i H->H d=some (.frz o (.dT aI)))
  (hs:∀i k v q H,aI[i]?=some (k,v)->Pv i H->H q=some (.tup (k.map kV))->g (.ref q) (fL σ vs) H λau H2=>fL au vs=fL σ vs/\tt au H2 λb H3=>
   if b=true then te au H3 λy H4=>∃acc,H4 D=some (.lst acc)/\acc.length<sizeLine/\Pv (i+1) (upd H4 D (.lst (acc++[y]))) else Pv (i+1) H3) (hd:∀H,Pv aI.length H->Qd H):
  ∃W:Nat->Nat->Hp->Prop,(∃m,W 0 m (upd H1 D (.lst [])))/\∀i m H,W i m H->
   ((Fm d o aI).stop i H/\Qd H)\/((Fm d o aI).go i H/\∃Nx:Hp->Prop,(∀H',Nx H'->∃m',m'<m/\W (i+1) m' H')/\∀x H',(Fm d o aI).yld i H x H'->g x (fL σ vs) H' λau H2=>fL au vs=fL σ vs/\tt au H2 λb H3=>
    if b=true then te au H3 λy H4=>∃acc,H4 D=some (.lst acc)/\acc.length<sizeLine/\Nx (upd H4 D (.lst (acc++[y]))) else Nx H3):=by
 refine⟨λi m H=>m=aI.length - i/\i<=aI.length/\Pv i H,⟨aI.length,by simp,da _,h0⟩,?_⟩
 rintro i m H ⟨rfl,hi,p⟩
 have q:=hl i H hi p
 by_cases aj:i<aI.length
 ·refine .inr ⟨⟨q,aj⟩,Pv (i+1),λH' p'=>⟨aI.length - (i+1),by (clear hi;omega),rfl,aj,p'⟩,λx H' y=>?_⟩
  obtain⟨e,k,v,a,e1,rfl,e2⟩:=y
  subst e
  exact hs i k v a _ e1 p e2
 ·have e:i=aI.length:=by omega
  subst e
  exact .inl ⟨⟨q,ap _⟩,hd H p⟩
theorem Nw{K:PySem.W.Frag}{a:Addr}{xs:List V}{g:TG}{tb:TS}{D:fY}{σ:St}{H:Hp}(Pv:Nat->St->Hp->Prop)(h0:Pv 0 σ H)(hl:∀i σ H,i<=xs.length->Pv i σ H->cN K H a xs)
  (hs:∀i x σ H T,xs[i]?=some x->Pv i σ H->H T=none->g (.ref T) σ (upd H T (.tup [.int (i:Nat),x])) λau H2=>tb {D with nx:=Pv (i+1),ct:=Pv (i+1),bk:=D.nx} au H2) (hd:∀ σ H,Pv xs.length σ H->D.nx σ H):
  ∃W:Nat->Nat->St->Hp->Prop,(∃m,W 0 m σ H)/\∀i m σ H,W i m σ H->
   ((Pp K a).stop i H/\D.nx σ H)\/((Pp K a).go i H/\∃N:St->Hp->Prop,(∀ae H',N ae H'->∃m',m'<m/\W (i+1) m' ae H')/\∀x H',(Pp K a).yld i H x H'->g x σ H' λau H2=>tb {D with nx:=N,ct:=N,bk:=D.nx} au H2):=by
 refine⟨λi m σ H=>m=xs.length - i/\i<=xs.length/\Pv i σ H,⟨xs.length,by simp,da _,h0⟩,?_⟩
 rintro i m σ H ⟨rfl,hi,p⟩
 have q:=hl i σ H hi p
 by_cases aj:i<xs.length
 ·refine .inr ⟨⟨xs,xs[i],q,by simp[aj]⟩,Pv (i+1),λae H' p'=>⟨xs.length - (i+1),by (clear hi;omega),rfl,aj,p'⟩,λx H' y=>?_⟩
  obtain⟨T,x',rfl,hT,rfl,y⟩:=y
  exact hs i x' σ H T (y xs q) p hT
 ·have e:i=xs.length:=by omega
  subst e
  exact .inl ⟨⟨xs,q,rfl⟩,hd σ H p⟩
end L2
namespace Br1
open PySem PySem.Spec PyProof.Rows L2
def coP(p:Pl):Nat->Int
 |0=>p.1
 |1=>p.2.1
 |_=>p.2.2
def fM(cs:CL)(a:Nat):List Int:=cs.map λc=>coP c.1 a
def fB(cs:CL)(a:Nat)(n:Int):Bool:=decide ((0:Int)∈fM cs a) && decide (n - 1∈fM cs a)
def mY(cs:CL)(W D Hh:Int):Bool:=fB cs 0 W && fB cs 1 D && fB cs 2 Hh
section
variable {P:Program} {w:World} {K:PySem.W.Frag} {mg:Str->Option Value} {base:Heap} {C CR CP:Addr}
def Bp(CP:Addr):Sp:=λvs H Q _=>∃(b nm:Addr)(W D Hh g:Int)(cs:CL),vs=[.ref b]/\yD CP H b nm W D Hh g cs/\cs.length<20000/\∀H',aK H H'->Q (.bl (mY cs W D Hh)) H'
theorem kQ:aQ ["part","sizes","axis","size","reached","place"] ["part"] (aH xR):=⟨rfl,rfl,rfl,by decide+kernel,rfl,by decide+kernel,by decide+kernel⟩
theorem Rb{f:Addr}{fd:FuncData}(F:fH K "fills_its_box" "fills_its_box" xR f fd)(T':Nn K CP)(EW:mg "enumerate"=none):
  bT P w K mg base bU 2 f fd ["part"] (Bp CP):=by
 refine F.ok kQ (λvs H Q E h=>?_) (λai A outer s H vs Q E hr h=>?_)
 ·obtain⟨b,nm,W,D,Hh,g,cs,rfl,_⟩:=h
  rfl
 ·obtain⟨b,nm,W,D,Hh,g,cs,rfl,⟨dx,c,hb,hc⟩,hl,k⟩:=h
  refine⟨_,aE (aZ (i:=1) kQ.nd rfl (Or.inl rfl) (eN (aA (aO (pv 0) rfl) (aA (aO (pv 0) rfl) (aA (aO (pv 0) rfl) aF)))))
   (aE (eB i4 rfl (Ti rfl EW (aA (pv 1) aF)) (lG rfl (cK (bH (i:=2) kQ.nd rfl (by first|exact Or.inl rfl|exact Or.inr rfl)) (cK (bH (i:=3) kQ.nd rfl (Or.inl rfl)) iC)))
    (aE (gQ (xM (i:=4) (te:=Rc (Hd K) (eF 5) (eF 2)) (own:=[("place",5)]) rfl kQ.nd rfl rfl rfl (uM (aO (pv 0) rfl)) (gU (N:=["part","sizes","axis","size","reached","place"]) (sc:=aH xR) (by decide+kernel))
      (λ_ _ _ _ _=>bH (i:=5) kQ.nd rfl (Or.inl rfl)) (λ_ _ _ _ _=>lO) (λ_ _ _ _ _=>bS (r:=Hd K) bO (pv 5) (pv 2) (λ_ _=>rfl))))
     (aG (dZ (Kx (iB kY aJ (pv 4) rfl) (Bm (iB kY (cR eU (pv 3) aJ) (pv 4) rfl))).pt (aG (aW mR)) bX))))
   (aG (aW mR))),?_⟩
  refine⟨_,rfl,b,CP,dx,_,_,rfl,hb,T'.cl,T'.n2,rfl,_,rfl,b,CP,dx,_,_,rfl,hb,T'.cl,T'.n3,rfl,_,rfl,b,CP,dx,_,_,rfl,hb,T'.cl,T'.n4,rfl,(by show 3<=sizeLine;decide),λq hq=>?_⟩
  have S0:=aK.new (o:=.tup [.int W,.int D,.int Hh]) hq
  have QG:cN K (upd H q (.tup [.int W,.int D,.int Hh])) q [.int W,.int D,.int Hh]:=cN.of aC
  have yt:upd H q (.tup [.int W,.int D,.int Hh]) q=some (.tup [.int W,.int D,.int Hh]):=aC
  refine⟨_,rfl,q,_,rfl,QG,?_⟩
  refine Nw (xs:=[.int W,.int D,.int Hh]) (λi σ H'=>∃v2 v3 v4 v5,σ=[some (.ref b),some (.ref q),v2,v3,v4,v5]/\aK (upd H q (.tup [.int W,.int D,.int Hh])) H'/\∀j,j<i->fB cs j ([W,D,Hh].getD j 0)=true) ⟨none,none,none,none,rfl,aK.id' _,λj hj=>absurd hj (AH _)⟩ ?_ ?_ ?_
  ·rintro i σ H1 hi ⟨v2,v3,v4,v5,rfl,S1,_⟩
   exact cN.of (S1 _ _ yt)
  ·rintro i x σ H1 T ex ⟨v2,v3,v4,v5,rfl,S1,al⟩ hT
   have hi:i<3:=(bh.mp ex).1
   obtain⟨n,rfl,en⟩:∃n:Int,x=.int n/\[W,D,Hh].getD i 0=n:=by
    match i,hi,ex with
    |0,_,ex=>cases ex;exact⟨_,rfl,rfl⟩
    |1,_,ex=>cases ex;exact⟨_,rfl,rfl⟩
    |2,_,ex=>cases ex;exact⟨_,rfl,rfl⟩
   have ST:=aK.new (o:=.tup [.int (i:Nat),.int n]) hT
   have S2:=(S0.trans S1).trans ST
   refine⟨T,_,rfl,cN.of aC,rfl,_,_,rfl,_,_,rfl,rfl,?_⟩
   have i5:=S2 _ _ hb
   have di:=S2 _ _ hc
   have w8:=S1.trans ST
   generalize upd H1 T (.tup [.int (i:Nat),.int n])=H2 at i5 di S2 w8
   have u4:b≠c:=λz=>by rw[z,di] at i5;cases i5
   refine⟨c,_,di,trivial,λod=>?_⟩
   have fi:upd H2 c (.frz od (.dT (aI cs))) c=some (.frz od (.dT (aI cs))):=aC
   have nv:upd H2 c (.frz od (.dT (aI cs))) b=some (.ins CP dx (On nm W D Hh g c)):=by rw[aB u4];exact i5
   refine⟨_,rfl,b,CP,dx,_,_,rfl,nv,T'.cl,T'.n6,rfl,c,od,rfl,.inr ⟨aI cs,fi,λDl f6=>?_⟩⟩
   refine wC (λj H'=>aK (upd H2 c (.frz od (.dT (aI cs)))) H'/\H' Dl=some (.lst ((fM (cs.take j) i).map V.int))) ⟨aK.new f6,aC⟩ (λj H' _ p=>p.1 _ _ fi) ?_ ?_
   ·rintro j kk vv q2 H3 e3 ⟨S3,nz⟩ cu
    obtain⟨p,sg,e4,rfl,rfl⟩:=gO e3
    have hj:j<cs.length:=(bh.mp e4).1
    refine⟨rfl,⟨_,rfl,_,rfl,q2,_,(i:Int),.int (coP p i),rfl,rfl,cN.of cu,?_,_,nz,?_,?_⟩⟩
    ·match i,hi with
     |0,_=>rfl
     |1,_=>rfl
     |2,_=>rfl
    ·rw[ah]
     unfold fM
     rw[ah,ij]
     have:=bJ
     (clear hj en hi;omega)
    ·refine⟨λb' o e=>?_,?_⟩
     ·rw[aB (aD e f6)]
      exact S3 _ _ e
     ·rw[aC]
      unfold fM
      rw[i3,e4]
      simp
   ·rintro H3 ⟨S3,nz⟩
    have gj:(aI cs).length=cs.length:=by unfold aI;rw[ah]
    rw[gj,ik] at nz
    refine⟨S3 _ _ fi,?_⟩
    have S4:=gL di S3
    have nDc:Dl≠c:=λz=>by rw[z,fi] at f6;cases f6
    have sd:upd H3 c (.dT (aI cs)) Dl=some (.lst ((fM cs i).map V.int)):=by rw[aB nDc];exact nz
    generalize upd H3 c (.dT (aI cs))=H4 at S4 sd
    have S5:=w8.trans S4
    have fal:fB cs i n=false->mY cs W D Hh=false:=by
     intro z
     unfold mY
     rw[<-en] at z
     match i,hi,z with
     |0,_,z=>rw[show fB cs 0 W=false from z];rfl
     |1,_,z=>rw[show fB cs 1 D=false from z,ye];rfl
     |2,_,z=>rw[show fB cs 2 Hh=false from z,ye]
    have fin:fB cs i n=false->Q (.bl false) H4:=λz=>by
     have kk:=k H4 (S0.trans S5)
     rw[fal z] at kk
     exact kk
    have JX:((fM cs i).map V.int).all oS=true:=mh.mpr λx hx=>by
     obtain⟨y,_,rfl⟩:=a6.mp hx
     rfl
    refine⟨_,rfl,Dl,_,rfl,.inl (cP.of sd),rfl,JX,_,rfl,bY (λh0=>Rs ?_) (λh0=>?_)⟩
    ·have h0:(!Sw (.int 0) ((fM cs i).map V.int))=true:=h0
     rw[iM,ck] at h0
     exact fin (by unfold fB;rw[h0];rfl)
    ·have h0:¬(!Sw (.int 0) ((fM cs i).map V.int))=true:=h0
     rw[iM,ck,x0] at h0
     refine⟨_,rfl,_,_,rfl,rfl,_,rfl,Dl,_,rfl,.inl (cP.of sd),rfl,JX,_,rfl,bY (λh1=>?_) (λh1=>?_)⟩
     ·have h1:(!Sw (.int (n - 1)) ((fM cs i).map V.int))=true:=h1
      rw[iM,ck] at h1
      exact fin (by unfold fB;rw[h1,ye])
     ·have h1:¬(!Sw (.int (n - 1)) ((fM cs i).map V.int))=true:=h1
      rw[iM,ck,x0] at h1
      refine⟨_,_,_,_,rfl,S5,λj hj=>?_⟩
      by_cases EX:j=i
      ·rw[EX,en]
       unfold fB
       rw[h0,h1]
       rfl
      ·exact al j (by (clear gj en hi hl;omega))
  ·rintro σ H1 ⟨v2,v3,v4,v5,rfl,S1,al⟩
   have kk:=k H1 (S0.trans S1)
   have e:mY cs W D Hh=true:=by
    unfold mY
    rw[show fB cs 0 W=true from al 0 (by show 0<3;decide),show fB cs 1 D=true from al 1 (by show 1<3;decide),show fB cs 2 Hh=true from al 2 (by show 2<3;decide)]
    rfl
   rw[e] at kk
   exact kk
end
end Br1
namespace L2
open PySem PySem.Spec PyProof.Rows
def aAt(tk tv:TE):TE:=fun σ H Q=>∀p,H p=none->tk σ (upd H p (.dT [])) λx H1=>tv σ H1 λy H2=>H2 p=some (.dT [])/\∃(b:Addr)(ks:List dP),x=.ref b/\H2 b=some (.tup (ks.map kV))/\Q (.ref p) (upd H2 p (.dT [(ks,y)]))
theorem aBj{X:Cx}{pins:List (Addr×Obj)}{σ:St}{H:Hp}{s:Shared}{a b:Addr}{v:V}{r:Value}{ks:List dP}{A:Around}{E:Value->Shared->Prop}{Q:Unit->Shared->Prop}(hu:A.units+1<cLine)(I:aP X pins σ H s)(e:H a=some (.dT []))(eb:H b=some (.tup (ks.map kV)))(rv:bQ v r)
  (h:∀s',aP X pins σ (upd H a (.dT [(ks,v)])) s'->Q () s'):wpAny (model X.prog X.w) A (dictSet a (.ref b) r) Q E s:=by
 obtain⟨z,hd,xs,rel,dd⟩:=Xh I.hok e
 have hz:xs.length<=sizeLine:=by rw[<-Paired.length rel];exact z
 refine wpAny_dictSet_heap (hsz:=hz) (HM hu) (pD I.hok eb) dd λh' wn hs=>h _ ?_
 obtain⟨q,es,ep,hq,h2,h3,h4,_,h5⟩:=wn
 have hl:(jQ ([]:List (List dP×V)) ks v).length<=sizeLine:=by show 1<=sizeLine;decide
 refine Ba I (by rw[e];exact True.intro) hs ⟨q,hq⟩ ⟨hl,hd,_,(rel.put ks eb rv).keeps λc ys ec=>?_,q,es,ep,hq,h2,h3,h4,h5⟩
 rw[aB (Xf ec e (λz=>nomatch z))]
 exact ec
theorem Qh{X:Cx}{pos:Pos}{k v:Expr}{tk tv:TE}(hu:X.A.units+1<cLine)(hk:PE X k tk)(hv:PE X v tv):PE X (.Dict [some k] [v] pos) (aAt tk tv):=by
 intro pins s σ H Q I q
 have hn:=I.hok.fresh (ap s.heap.objs.size)
 have I1:=I.laid (a:=s.heap.objs.size) (o:=.dT []) (h':=s.heap.push {cls:=.type "dict",data:=.dict #[]}) (t':=s.toks) (λ_ _ q=>br _ q) (ap _) (Fb s.heap I.big)
 rw[arm_eval_Dict,zip_pairTrees [some k] [v] X.env pos rfl rfl,dictDisplay_pairs (pairTrees [some k] [v] X.env pos) (by intro z;cases z) (by show 1<17;decide)]
 refine wpAny_bind (xl (wpAny_bind ?_))
 unfold subDict
 refine wpAny_bind (wpAny_alloc (wpAny_bind (j8 ?_)))
 rw[ac (show (pairTrees [some k] [v] X.env pos).length<=15 by show 1<=15;decide)]
 refine wpAny_bind (pairTrees_cons_walk (cD (hk pins _ σ _ _ I1 (q _ hn)) λu s1 ⟨x,H1,I2,rx,q1⟩=>cD (hv pins s1 σ H1 _ I2 q1) λw2 s2 ⟨y,H2,I3,ry,q2⟩=>pairTrees_nil_walk ?_))
 obtain⟨e,b,ks,rfl,eb,q2⟩:=q2
 cases (show u=Value.ref b from rx)
 refine j8 ?_
 rw[LR]
 refine wpAny_bind (wpAny_bind (wpAny_bind (aBj hu I3 e eb ry λs3 I4=>af ?_)))
 show wpAny _ _ (forIn [] _ _) _ _ s3
 rw[G8]
 exact af (af (af (af ⟨.ref s.heap.objs.size,_,I4,rfl,q2⟩)))
end L2
namespace Br1
open PySem PySem.Spec PyProof.Rows L2
def zT(p:Pl):List Pl:=[(p.1 - 1,p.2.1,p.2.2),(p.1+1,p.2.1,p.2.2),(p.1,p.2.1 - 1,p.2.2),(p.1,p.2.1+1,p.2.2),jK p,pH p]
def Tl(p:Pl):List V:=[.int p.1,.int p.2.1,.int p.2.2]
def jE(H:Hp)(qs:List Addr)(ps:List Pl):Prop:=Paired (λq p=>H q=some (.tup (Tl p))) qs ps
theorem jE.same{H H':Hp}{qs:List Addr}{ps:List Pl}(h:jE H qs ps)(s:aK H H'):jE H' qs ps:=Paired.mapP h λ_ _ e=>s _ _ e
section
variable {P:Program} {w:World} {K:PySem.W.Frag} {mg:Str->Option Value} {base:Heap} {C CR CP:Addr}
def Ax:Sp:=λvs H Q _=>∃(g:Addr)(p:Pl),vs=[.ref g]/\H g=some (.tup (Tl p))/\∀(H':Hp)(l:Addr)(qs:List Addr),aK H H'->H l=none->H' l=some (.lst (qs.map V.ref))->jE H' qs (zT p)->Q (.ref l) H'
theorem qT:aQ ["place","x","y","z"] ["place"] (aH Cb):=⟨rfl,rfl,rfl,by decide+kernel,rfl,by decide+kernel,by decide+kernel⟩
theorem Qe{f:Addr}{fd:FuncData}(F:fH K "neighbours" "neighbours" Cb f fd)(L1:dL P w K mg base "above" bU 1 ["place"] lQ)(L2:dL P w K mg base "below" bU 1 ["place"] nX):
  bT P w K mg base bU 2 f fd ["place"] Ax:=by
 obtain⟨g1,gh,G1,b1,k1,h1⟩:=L1.ex
 obtain⟨g2,ku,G2,b2,k2,h2⟩:=L2.ex
 refine F.ok qT (λvs H Q E h=>?_) (λai A outer s H vs Q E hr h=>?_)
 ·obtain⟨g,p,rfl,_⟩:=h
  rfl
 ·obtain⟨g,p,rfl,hg,k⟩:=h
  have a7:=hr.mono (j:=1) (by decide)
  refine⟨_,aE (aZ (i:=1) qT.nd rfl (Or.inl rfl) (bS bO (pv 0) aJ (λ_ _=>rfl)))
   (aE (aZ (i:=2) qT.nd rfl (Or.inl rfl) (bS bO (pv 0) aJ (λ_ _=>rfl)))
   (aE (aZ (i:=3) qT.nd rfl (Or.inl rfl) (bS bO (pv 0) aJ (λ_ _=>rfl)))
   (aG (aW (dU (aA (eN (aA (cR eU (pv 1) aJ) (aA (pv 2) (aA (pv 3) aF)))) (aA (eN (aA (cR gH (pv 1) aJ) (aA (pv 2) (aA (pv 3) aF))))
    (aA (eN (aA (pv 1) (aA (cR eU (pv 2) aJ) (aA (pv 3) aF)))) (aA (eN (aA (pv 1) (aA (cR gH (pv 2) aJ) (aA (pv 3) aF))))
    (aA (aT G1 a7 (by rfl) h1 k1 b1 .nil aY (aA (pv 0) aF)) (aA (aT G2 a7 (by rfl) h2 k2 b2 .nil aY (aA (pv 0) aF)) aF))))))))))),?_⟩
  refine⟨_,rfl,g,_,_,_,rfl,rfl,cN.of hg,rfl,?_⟩
  refine⟨_,rfl,g,_,_,_,rfl,rfl,cN.of hg,rfl,?_⟩
  refine⟨_,rfl,g,_,_,_,rfl,rfl,cN.of hg,rfl,?_⟩
  have sz:∀a b c:V,[a,b,c].length<=sizeLine:=λ_ _ _=>by show 3<=sizeLine;decide
  refine⟨_,rfl,_,_,rfl,rfl,_,rfl,_,rfl,sz _ _ _,λq1 n1=>?_⟩
  refine⟨_,rfl,_,_,rfl,rfl,_,rfl,_,rfl,sz _ _ _,λq2 n2=>?_⟩
  refine⟨_,rfl,_,rfl,_,_,rfl,rfl,_,rfl,sz _ _ _,λq3 n3=>?_⟩
  refine⟨_,rfl,_,rfl,_,_,rfl,rfl,_,rfl,sz _ _ _,λq4 n4=>?_⟩
  have S1:=aK.new (o:=.tup (Tl (p.1 - 1,p.2.1,p.2.2))) n1
  have S2:=aK.new (o:=.tup (Tl (p.1+1,p.2.1,p.2.2))) n2
  have S3:=aK.new (o:=.tup (Tl (p.1,p.2.1 - 1,p.2.2))) n3
  have S4:=aK.new (o:=.tup (Tl (p.1,p.2.1+1,p.2.2))) n4
  have JY:=S4 _ _ (S3 _ _ (S2 _ _ (S1 _ _ hg)))
  refine⟨_,rfl,g,p.1,p.2.1,p.2.2,rfl,JY,λq5 n5=>?_⟩
  have S5:=aK.new (o:=.tup (Tl (jK p))) n5
  refine⟨_,rfl,g,p.1,p.2.1,p.2.2,rfl,S5 _ _ JY,λq6 n6=>?_⟩
  have S6:=aK.new (o:=.tup (Tl (pH p))) n6
  refine⟨by show 6<=sizeLine;decide,λl nl=>?_⟩
  have S7:=aK.new (o:=.lst [V.ref q1,V.ref q2,V.ref q3,V.ref q4,V.ref q5,V.ref q6]) nl
  have SB:=(((((S1.trans S2).trans S3).trans S4).trans S5).trans S6)
  refine k _ l [q1,q2,q3,q4,q5,q6] (SB.trans S7) (SB.free nl) aC ?_
  ·refine .cons ?_ (.cons ?_ (.cons ?_ (.cons ?_ (.cons ?_ (.cons ?_ .nil)))))
   ·exact(((((S2.trans S3).trans S4).trans S5).trans S6).trans S7) _ _ aC
   ·exact((((S3.trans S4).trans S5).trans S6).trans S7) _ _ aC
   ·exact(((S4.trans S5).trans S6).trans S7) _ _ aC
   ·exact((S5.trans S6).trans S7) _ _ aC
   ·exact(S6.trans S7) _ _ aC
   ·exact S7 _ _ aC
def jG:List (List Int)->Bool
 |a::b::r=> !HT.gF b a && jG (b::r)
 |_=>true
def We(CP:Addr)(H:Hp)(b:Addr)(nm:List Int):Prop:=∃dx q W D Hh g c,H b=some (.ins CP dx (On q W D Hh g c))/\H q=some (.tup (nm.map V.int))
def Hb(K:PySem.W.Frag)(CP:Addr):Sp:=λvs H Q _=>∃(a:Addr)(bs:List Addr) (d5:List (List Int)),vs=[.ref a]/\cP K H a (bs.map V.ref)/\Paired (We CP H) bs d5/\1<=d5.length/\d5.length<=64/\Q (.bl (jG d5)) H
theorem Kb:aQ ["parts","k"] ["parts"] (aH Jw):=⟨rfl,rfl,rfl,by decide+kernel,rfl,by decide+kernel,by decide+kernel⟩
theorem sS:∀{l:List (List Int)},jG l=true↔∀i a b,l[i]?=some a->l[i+1]?=some b->HT.gF b a=false
 |[]=>by simp[jG]
 |[x]=>by simp[jG]
 |x::y::r=>by
  have ih:=sS (l:=y::r)
  rw[jG,cg,ih,ck]
  constructor
  ·rintro⟨h1,h2⟩ i a b ea eb
   cases i with
   |zero=>
    cases ea
    cases eb
    exact h1
   |succ i=>exact h2 i a b ea eb
  ·intro h
   exact⟨h 0 x y rfl rfl,λi a b ea eb=>h (i+1) a b ea eb⟩
theorem cH{α β:Type}{R:α->β->Prop}:∀{as:List α}{bs:List β},Paired R as bs->∀{i:Nat}{b:β},bs[i]?=some b->∃a,as[i]?=some a/\R a b
 |_,_,.nil,i,b,h=>by simp at h
 |_,_,.cons r t,i,b,h=>by
  cases i with
  |zero=>cases h;exact⟨_,rfl,r⟩
  |succ i=>exact cH t h
theorem Wn{f:Addr}{fd:FuncData}(F:fH K "names_grow" "names_grow" Jw f fd)(T':Nn K CP)(m8:mg "range"=none)(ax:mg "len"=none):bT P w K mg base bU 2 f fd ["parts"] (Hb K CP):=by
 refine F.ok Kb (λvs H Q E h=>?_) (λai A outer s H vs Q E hr h=>?_)
 ·obtain⟨a,bs,d5,rfl,_⟩:=h
  rfl
 ·obtain⟨a,bs,d5,rfl,ha,hp,l7,hn,k⟩:=h
  have hu:=jY hr
  refine⟨_,aE (eB i4 rfl (Md rfl m8 (aA aJ (aA (bK bI (by rfl) ax PySem.boot_len (aA (pv 0) aF)) aF))) (bH (i:=1) Kb.nd rfl (Or.inl rfl))
    (aG (dZ (iB (aAy (HM hu)) (aO (bS fJ (pv 0) (pv 1) (λ_ _=>rfl)) rfl) (aO (bS fJ (pv 0) (cR eU (pv 1) aJ) (λ_ _=>rfl)) rfl) (hU _)) (aG (aW mR)) bX)))
   (aG (aW mR)),?_⟩
  have gx:bs.length=d5.length:=Paired.length hp
  have bw:=bJ
  have r8:∀(i:Nat)(nm:List Int),d5[i]?=some nm->∃b,Sg (bs.map V.ref) (i:Int)=some (.ref b)/\We CP H b nm:=λi nm e=>by
   obtain⟨b,e1,e2⟩:=cH hp e
   exact⟨b,fZ (by rw[bf,e1];rfl),e2⟩
  have nk:(bs.map V.ref).length=d5.length:=by rw[ah,gx]
  refine⟨_,rfl,a,_,rfl,.inl ha,1,((bs.map V.ref).length:Int),rfl,⟨by decide,by decide,by (clear nk bw gx hu hn l7;omega),by rw[nk];(clear nk bw gx hu l7;omega)⟩,?_⟩
  have et:(((bs.map V.ref).length:Int) - 1).toNat=d5.length - 1:=by rw[nk];(clear nk bw gx hu hn l7;omega)
  rw[et]
  refine sE (λi σ H'=>∃v1,σ=[some (.ref a),v1]/\H'=H/\∀j x y,j<i->d5[j]?=some x->d5[j+1]?=some y->HT.gF y x=false) ⟨none,rfl,rfl,λj x y hj=>absurd hj (AH _)⟩ ?_ ?_
  ·rintro i σ H1 hi ⟨v1,rfl,rfl,al⟩
   have e0:d5[i]?=some d5[i]:=ba (by (clear et nk bw gx hu hn l7;omega))
   have e1:d5[i+1]?=some d5[i+1]:=ba (by (clear et bw hu;omega))
   obtain⟨c0,g0,QH,q0,W0,D0,H0,w0,UP,f0,t0⟩:=r8 i _ e0
   obtain⟨c1,g1,jg,q1,W1,D1,UQ,w1,UR,f1,t1⟩:=r8 (i+1) _ e1
   have z1:(1:Int)+(i:Int)=((i+1:Nat):Int):=by (clear et bw hu;omega)
   have z2:(1:Int)+(i:Int) - 1=((i:Nat):Int):=by (clear z1 et bw hu;omega)
   refine⟨_,rfl,_,rfl,a,_,_,_,rfl,rfl,ha,by rw[z1];exact g1,c1,CP,jg,_,_,rfl,f1,T'.cl,T'.n1,rfl,?_⟩
   refine⟨_,rfl,_,rfl,_,_,rfl,rfl,a,_,_,_,rfl,rfl,ha,by rw[z2];exact g0,c0,CP,QH,_,_,rfl,f0,T'.cl,T'.n1,rfl,?_⟩
   refine⟨q1,q0,_,_,rfl,rfl,cN.of t1,cN.of t0,_,rfl,bY (λfu=>?_) (λfu=>?_)⟩
   ·have e3:jG d5=false:=by
     rw[HL]
     intro z
     have:=sS.mp z i _ _ e0 e1
     rw[fu] at this
     cases this
    rw[e3] at k
    exact k
   ·refine⟨_,rfl,rfl,λj x y hj ex ey=>?_⟩
    by_cases EX:j=i
    ·subst EX
     rw[e0] at ex
     rw[e1] at ey
     cases ex
     cases ey
     exact cZ fu
    ·exact al j x y (by (clear fu z2 z1 et bw hu;omega)) ex ey
  ·rintro σ H1 ⟨v1,rfl,rfl,al⟩
   have e3:jG d5=true:=sS.mpr λi x y ex ey=>by
    have:=(bh.mp ey).1
    exact al i x y (by (clear et nk bw gx hu hn l7;omega)) ex ey
   rw[e3] at k
   exact k
end
def gT(cs:CL)(st:List Pl×List Pl)(p:Pl):List Pl×List Pl:=if (aV cs p).isSome=true/\p∉st.1 then (st.1++[p],st.2++[p]) else st
def dJ(cs:CL):Nat->List Pl->List Pl->List Pl
 |0,rs,_=>rs
 |n+1,rs,ws=>match ws.getLast? with
  |none=>rs
  |some q=>dJ cs n ((zT q).foldl (gT cs) (rs,ws.dropLast)).1 ((zT q).foldl (gT cs) (rs,ws.dropLast)).2
def xH(cs:CL)(rs:List Pl):Nat:=(cs.filter λc=> !decide (c.1∈rs)).length
def xX:CL->Bool
 |[]=>false
 |c::r=>decide ((dJ (c::r) (c::r).length [c.1] [c.1]).length=(c::r).length)
theorem mF(c:Pl×Int)(r:CL)(rs:List Pl):xH (c::r) rs=(if c.1∈rs then 0 else 1)+xH r rs:=by
 unfold xH
 by_cases h:c.1∈rs
 ·rw[qt (by simp[h]),ac h,kd]
 ·rw[t9 (by simp[h]),aa h,bn,jz]
theorem Rq(p:Pl)(rs:List Pl):∀cs:CL,xH cs (rs++[p])<=xH cs rs
 |[]=>ap _
 |c::r=>by
  have ih:=Rq p rs r
  rw[mF,mF]
  by_cases h:c.1∈rs
  ·rw[ac h,ac (i9 _ h)];omega
  ·rw[aa h]
   split<;>omega
theorem dG{cs:CL}{p:Pl}:(aV cs p).isSome=true↔∃c∈cs,c.1=p:=by
 unfold aV
 rw[gq,MS]
 simp
theorem nE{p:Pl}{rs:List Pl}(hp:p∉rs):∀{cs:CL},(aV cs p).isSome=true->xH cs (rs++[p])+1<=xH cs rs
 |[],h=>by cases h
 |c::r,h=>by
  have fu:=Rq p rs r
  rw[mF,mF]
  by_cases hc:c.1=p
  ·rw[ac (by simp[hc]),aa (by rw[hc];exact hp)];(clear hp;omega)
  ·have h2:(aV r p).isSome=true:=by
    rw[dG] at h ⊢
    obtain⟨x,hx,e⟩:=h
    rcases aw.mp hx with rfl|hx
    ·exact absurd e hc
    ·exact⟨x,hx,e⟩
   have ih:=nE hp h2
   by_cases h3:c.1∈rs
   ·rw[ac h3,ac (i9 _ h3)];(clear hc fu hp;omega)
   ·rw[aa h3,aa (by simp[h3,hc])];(clear h3 hc fu hp;omega)
def Ly(rs:List Pl):List (List dP×V):=rs.map λp=>(eI p.1 p.2.1 p.2.2,V.bl true)
theorem rC(p:Pl):∀rs:List Pl,jA (Ly rs) (eI p.1 p.2.1 p.2.2)=if p∈rs then some (V.bl true) else none
 |[]=>rfl
 |c::r=>by
  have ih:=rC p r
  unfold jA Ly at *
  rw[bz,oy]
  by_cases h:c=p
  ·subst h
   simp
  ·have h2:¬eI c.1 c.2.1 c.2.2=eI p.1 p.2.1 p.2.2:=λz=>h (wZ.mp z)
   simp only[h2,HK]
   rw[ih]
   by_cases h3:p∈r
   ·rw[ac h3,ac (az _ h3)]
   ·rw[aa h3,aa (by simp[h3,ao h])]
theorem jE.upd{H:Hp}{a:Addr}{o o':HO}{qs:List Addr}{ps:List Pl}(h:jE H qs ps)(ha:H a=some o)(ho:∀xs,o≠.tup xs):jE (upd H a o') qs ps:=Paired.mapP h λq p e=>by
 rw[aB (by rintro rfl;rw[ha] at e;cases e;exact ho _ rfl)]
 exact e
theorem tM{α β:Type}{R:α->β->Prop}:∀{as:List α}{bs:List β},Paired R as bs->Paired R as.dropLast bs.dropLast
 |_,_,.nil=>.nil
 |_,_,.cons r .nil=>.nil
 |_,_,.cons r (.cons r2 t)=>.cons r (tM (.cons r2 t))
structure HS(CP:Addr)(H:Hp)(cs:CL)(d l:Addr)(rs ws:List Pl)(qs:List Addr)(H':Hp):Prop where
 sm:aK H H'
 dd:H' d=some (.dT (Ly rs))
 ll:H' l=some (.lst (qs.map V.ref))
 pl:jE H' qs ws
 c1:rs.length+xH cs rs<=cs.length
 c2:ws.length<=rs.length
theorem HS.same{CP:Addr}{H H1 H2:Hp}{cs:CL}{d l:Addr}{rs ws:List Pl}{qs:List Addr}(h:HS CP H cs d l rs ws qs H1)(s:aK H1 H2):HS CP H cs d l rs ws qs H2:=⟨h.sm.trans s,s _ _ h.dd,s _ _ h.ll,h.pl.same s,h.c1,h.c2⟩
theorem Sr{rs:List Pl}{p:Pl}(h:p∉rs):jQ (Ly rs) (eI p.1 p.2.1 p.2.2) (V.bl true)=Ly (rs++[p]):=by
 rw[rF (V.bl true) (by rw[rC,aa h])]
 unfold Ly
 rw[cp]
 rfl
section
variable {P:Program} {w:World} {K:PySem.W.Frag} {mg:Str->Option Value} {base:Heap} {C CR CP:Addr}
def Aw(CP:Addr):Sp:=λvs H Q _=>∃(b nm:Addr)(W D Hh g:Int)(cs:CL),vs=[.ref b]/\yD CP H b nm W D Hh g cs/\cs.length<20000/\∀H',aK H H'->Q (.bl (xX cs)) H'
theorem jX:aQ ["part","start","reached","waiting","reached_last","place"] ["part"] (aH Bt):=⟨rfl,rfl,rfl,by decide+kernel,rfl,by decide+kernel,by decide+kernel⟩
theorem Rr{f:Addr}{fd:FuncData}(F:fH K "hangs_together" "hangs_together" Bt f fd)(T':Nn K CP)(ax:mg "len"=none)(QI:mg "list"=none)(L1:dL P w K mg base "neighbours" bU 2 ["place"] Ax):
  bT P w K mg base bU 3 f fd ["part"] (Aw CP):=by
 obtain⟨g1,gh,G1,b1,k1,h1⟩:=L1.ex
 refine F.ok jX (λvs H Q E h=>?_) (λai A outer s H vs Q E hr h=>?_)
 ·obtain⟨b,nm,W,D,Hh,g,cs,rfl,_⟩:=h
  rfl
 ·obtain⟨b,nm,W,D,Hh,g,cs,rfl,⟨dx,c,hb,hc⟩,hl,k⟩:=h
  have ay:=hr.mono (j:=2) (by decide)
  have hu:=jY hr
  refine⟨_,aE (dZ (iB pU (bK oH (by rfl) ax PySem.boot_len (aA (aO (pv 0) rfl) aF)) aJ (hU _)) (aG (aW mR)) bX)
   (aE (aZ (i:=1) jX.nd rfl (Or.inl rfl) (bS fJ (sN (Hm rfl) (by rfl) QI boot_list (aA (aO (pv 0) rfl) aF)) aJ (λ_ _=>rfl)))
   (aE (aZ (i:=2) jX.nd rfl (Or.inl rfl) (Qh hu (pv 1) mR))
   (aE (aZ (i:=3) jX.nd rfl (Or.inl rfl) (dU (aA (pv 1) aF)))
   (aE (iQ i4 (dE (qM (bK bI (by rfl) ax PySem.boot_len (aA (pv 3) aF)) aJ))
    (aE (aZ (i:=4) jX.nd rfl (Or.inl rfl) (Pd PySem.F.plainAttrs_list PySem.F.slot_list_pop PySem.F.type_list_pop Rh (pv 3)))
    (aG (eB i4 rfl (nV (aT G1 ay (by rfl) h1 k1 b1 .nil aY (aA (pv 4) aF))) (bH (i:=5) jX.nd rfl (Or.inl rfl))
     (aG (dZ (gA (dE (pA hu (pv 5) (aO (pv 0) rfl))) (gP (dE (Nz hu (pv 5) (pv 2))))).pt
      (aE (lN hu (pv 2) (pv 5) mR rfl) (aG (cA (mW PySem.F.plainAttrs_list PySem.F.slot_list_append PySem.F.type_list_append eM (pv 3) (aA (pv 5) aF))))) bX))))))
   (aG (aW (lP pU (bK oH (by rfl) ax PySem.boot_len (aA (pv 2) aF)) (bK oH (by rfl) ax PySem.boot_len (aA (aO (pv 0) rfl) aF)) (hU _)))))))),?_⟩
  have kl:(aI cs).length=cs.length:=by unfold aI;rw[ah]
  have bw:=bJ
  refine⟨_,rfl,b,CP,dx,_,_,rfl,hb,T'.cl,T'.n6,rfl,c,_,rfl,.inl hc,rfl,_,rfl,bY (λh0=>?_) (λh0=>?_)⟩
  ·rw[gZ] at h0
   have h0:=dq h0
   have e0:cs=[]:=AI.mp (by (clear bw hu hl;omega))
   subst e0
   exact k H (aK.id' _)
  ·rw[gZ] at h0
   have h0:¬((aI cs).length:Int)=0:=λz=>h0 (cn z)
   cases cs with
   |nil=>exact absurd rfl h0
   |cons c0 cr=>
   refine⟨_,rfl,b,CP,dx,_,_,rfl,hb,T'.cl,T'.n6,rfl,c,_,rfl,.inl hc,λlk ps QJ d3=>?_⟩
   obtain⟨st,BG,rfl,b8⟩:∃st BG,ps=st::BG/\H st=some (.tup (Tl c0.1)):=by
    cases d3 with
    |cons r t=>exact⟨_,_,rfl,r⟩
   have S1:=aK.new (o:=.lst ((st::BG).map V.ref)) QJ
   refine⟨lk,_,0,.ref st,rfl,rfl,cP.of aC,fZ (j:=0) rfl,?_⟩
   have EY:=S1 _ _ b8
   generalize upd H lk (.lst ((st::BG).map V.ref))=H1 at S1 EY
   intro d hd
   have S2:=aK.new (o:=.dT []) hd
   refine⟨_,rfl,aC,st,eI c0.1.1 c0.1.2.1 c0.1.2.2,rfl,S2 _ _ EY,?_⟩
   refine⟨_,rfl,by show 1<=sizeLine;decide,λl ud=>?_⟩
   have QK:upd (upd H1 d (.dT [])) d (.dT [(eI c0.1.1 c0.1.2.1 c0.1.2.2,V.bl true)])=upd H1 d (.dT (Ly [c0.1])):=by
    funext x
    by_cases hx:x=d
    ·rw[hx,aC,aC];rfl
    ·rw[aB hx,aB hx,aB hx]
   rw[QK] at ud ⊢
   have S3:aK H1 (upd H1 d (.dT (Ly [c0.1]))):=aK.new hd
   have S4:=aK.new (o:=.lst [V.ref st]) ud
   have QL:H d=none:=S1.free hd
   have BH:H l=none:=(S1.trans S3).free ud
   have se:d≠l:=λz=>by rw[<-z,aC] at ud;cases ud
   have j3:∀{H':Hp},aK H H'->H' b=some (.ins CP dx (On nm W D Hh g c)):=λs=>s _ _ hb
   have mq:∀{H':Hp},aK H H'->H' c=some (.dT (aI (c0::cr))):=λs=>s _ _ hc
   generalize mv:c0::cr=cs at *
   refine⟨λm σ H'=>∃rs ws qs v4 v5,σ=[some (.ref b),some (.ref st),some (.ref d),some (.ref l),v4,v5]/\HS CP H cs d l rs ws qs H'/\ws.length+xH cs rs<=m/\dJ cs cs.length [c0.1] [c0.1]=dJ cs m rs ws,
    ⟨cs.length,[c0.1],[c0.1],[st],none,none,rfl,⟨(S1.trans S3).trans S4,S4 _ _ aC,aC,.cons (S4 _ _ (S3 _ _ EY)) .nil,?_,ap _⟩,?_,rfl⟩,?_⟩
   ·have u1:xH cs [c0.1]+1<=cs.length:=by
     have z:=nE (p:=c0.1) (rs:=[]) (cs:=cs) (by simp) (dG.mpr ⟨c0,by rw[<-mv];exact bg,rfl⟩)
     have z2:xH cs []<=cs.length:=AJ _ _
     exact d6 z z2
    show 1+xH cs [c0.1]<=cs.length
    (clear h0 kl hl bw hu;omega)
   ·have u1:xH cs [c0.1]+1<=cs.length:=by
     have z:=nE (p:=c0.1) (rs:=[]) (cs:=cs) (by simp) (dG.mpr ⟨c0,by rw[<-mv];exact bg,rfl⟩)
     have z2:xH cs []<=cs.length:=AJ _ _
     exact d6 z z2
    show 1+xH cs [c0.1]<=cs.length
    (clear h0 kl hl bw hu;omega)
   ·rintro m σ H2 ⟨rs,ws,qs,v4,v5,rfl,hs,hm,er⟩
    have ql:qs.length=ws.length:=Paired.length hs.pl
    refine⟨_,rfl,l,_,rfl,.inl (cP.of hs.ll),_,_,rfl,rfl,_,rfl,bY (λhw=>?_) (λhw=>?_)⟩
    ·have hw:(0:Int)<((qs.map V.ref).length:Int):=dq hw
     rw[ah] at hw
     obtain⟨n,rfl⟩:∃n,m=n+1:=⟨m - 1,by (clear h0 kl hl bw hu;omega)⟩
     obtain⟨q,eq⟩:∃q,ws[ws.length - 1]?=some q:=⟨_,ba (by (clear hm h0 kl hl bw hu;omega))⟩
     obtain⟨qa,eqa,EZ⟩:=cH hs.pl eq
     have elast:ws.getLast?=some q:=by rw[List.getLast?_eq_getElem?];exact eq
     have E1:dJ cs (n+1) rs ws=dJ cs n ((zT q).foldl (gT cs) (rs,ws.dropLast)).1 ((zT q).foldl (gT cs) (rs,ws.dropLast)).2:=by
      rw[dJ,elast]
     have w9:ws.dropLast.length+1=ws.length:=by rw[G6];(clear hm h0 kl hl bw hu;omega)
     have nq:qa≠l:=λz=>by rw[z,hs.ll] at EZ;cases EZ
     refine⟨λae H'=>∃rs ws qs v4 v5,ae=[some (.ref b),some (.ref st),some (.ref d),some (.ref l),v4,v5]/\HS CP H cs d l rs ws qs H'/\ws.length+xH cs rs<=n/\dJ cs cs.length [c0.1] [c0.1]=dJ cs n rs ws,λae H' z=>⟨n,jl n,z⟩,?_⟩
     refine⟨_,rfl,.inl ⟨rfl,_,cP.of hs.ll⟩,l,_,.ref qa,rfl,rfl,hs.ll,(by rw[ah,bf,ql,eqa];rfl),?_⟩
     have jq:HS CP H cs d l rs ws.dropLast qs.dropLast (upd H2 l (.lst (qs.map V.ref).dropLast)):=⟨λx o e=>by rw[aB (aD e BH)];exact hs.sm _ _ e,by rw[aB se];exact hs.dd,by rw[aC,List.map_dropLast],jE.upd (tM hs.pl) hs.ll (λxs z=>by cases z),hs.c1,by have:=hs.c2;(clear hm hw ql h0 kl hl bw hu;omega)⟩
     have JZ:upd H2 l (.lst (qs.map V.ref).dropLast) qa=some (.tup (Tl q)):=by rw[aB nq];exact EZ
     generalize upd H2 l (.lst (qs.map V.ref).dropLast)=H3 at jq JZ
     refine⟨_,rfl,qa,q,rfl,JZ,λH4 nl ns S4 xa BI QM=>?_⟩
     have nd:nl≠d:=λz=>by rw[z,jq.dd] at xa;cases xa
     have QN:nl≠l:=λz=>by rw[z,jq.ll] at xa;cases xa
     have ki:=jq.same S4
     refine⟨nl,rfl,⟨_,cP.of BI⟩,?_⟩
     refine Db (xs:=ns.map V.ref) (λi σ H'=>∃ii jj n0 v5,σ=[some (.ref b),some (.ref st),some (.ref d),some (.ref l),some (.ref qa),v5]/\HS CP H cs d l ii jj n0 H'/\jj.length+xH cs ii<=n/\((zT q).take i).foldl (gT cs) (rs,ws.dropLast)=(ii,jj)/\H' nl=some (.lst (ns.map V.ref))/\jE H' ns (zT q))
      ⟨rs,ws.dropLast,qs.dropLast,v5,rfl,ki,by (clear hw ql h0 kl hl bw hu;omega),rfl,BI,QM⟩ (λi σ H' _ z=>by obtain⟨_,_,_,_,_,_,_,_,z,_⟩:=z;exact cP.of z) ?_ ?_
     ·rintro i x σ H5 ex ⟨ii,jj,n0,v5,rfl,fz,j5,ef,rj,u5⟩
      have hi:i<ns.length:=by
       have:=(bh.mp ex).1
       rwa [ah] at this
      have ky:ns.length=(zT q).length:=Paired.length u5
      obtain⟨p,ep⟩:∃p,(zT q)[i]?=some p:=⟨_,ba (by (clear j5 w9 hm hw ql h0 kl hl bw hu;omega))⟩
      obtain⟨pa,QO,c8⟩:=cH u5 ep
      rw[bf,QO] at ex
      cases ex
      have J0:((zT q).take (i+1)).foldl (gT cs) (rs,ws.dropLast)=gT cs (ii,jj) p:=by
       rw[i3,ep,MT,ef]
       rfl
      have stay:¬((aV cs p).isSome=true/\p∉ii)->((zT q).take (i+1)).foldl (gT cs) (rs,ws.dropLast)=(ii,jj):=λz=>by
       rw[J0]
       exact aa z
      have n8:jj.length<=ii.length:=fz.c2
      have pw:=fz.c1
      refine⟨_,rfl,_,rfl,b,CP,dx,_,_,rfl,j3 fz.sm,T'.cl,T'.n6,rfl,c,_,rfl,vQ (mq fz.sm) c8,_,rfl,bY (λaq=>?_) (λaq=>pO ⟨ii,jj,n0,_,rfl,fz,j5,stay (λz=>aq (by rw[gq];exact z.1)),rj,u5⟩)⟩
      rw[gq] at aq
      refine⟨_,rfl,_,rfl,d,_,rfl,mT.t (k:=eI p.1 p.2.1 p.2.2) fz.dd c8,_,rfl,bY (λb7=>?_) (λb7=>?_)⟩
      ·have mz:p∉ii:=λz=>by
        rw[rC,ac z] at b7
        cases b7
       have E2:=nE mz aq
       refine⟨_,rfl,_,rfl,d,_,rfl,wS.t (k:=eI p.1 p.2.1 p.2.2) fz.dd c8 (by unfold Ly;rw[ah];(clear E2 mz n8 ky hi j5 w9 hm hw ql h0 kl hu;omega)),?_⟩
       rw[Sr mz]
       have QP:l≠d:=ao se
       have E3:n0.length=jj.length:=Paired.length fz.pl
       have E4:upd H5 d (.dT (Ly (ii++[p]))) l=some (.lst (n0.map V.ref)):=by rw[aB QP];exact fz.ll
       refine⟨_,rfl,.inl ⟨rfl,_,cP.of E4⟩,_,rfl,l,_,_,rfl,rfl,E4,by rw[ah];(clear E2 mz ky hi j5 w9 hm hw ql h0 kl hu;omega),?_⟩
       have E5:pa≠d:=λz=>by rw[z,fz.dd] at c8;cases c8
       have QQ:pa≠l:=λz=>by rw[z,fz.ll] at c8;cases c8
       have J1:∀{qq:List Addr}{pp:List Pl},jE H5 qq pp->jE (upd (upd H5 d (.dT (Ly (ii++[p])))) l (.lst (n0.map V.ref++[V.ref pa]))) qq pp:=λz=>jE.upd (jE.upd z fz.dd (λxs z=>by cases z)) E4 (λxs z=>by cases z)
       refine⟨ii++[p],jj++[p],n0++[pa],_,rfl,⟨λx o e=>?_,by rw[aB se,aC],by rw[aC,cp];rfl,Paired.snoc (J1 fz.pl) (by rw[aB QQ,aB E5];exact c8),?_,?_⟩,?_,?_,by rw[aB QN,aB nd];exact rj,J1 u5⟩
       ·rw[aB (aD e BH),aB (aD e QL)]
        exact fz.sm _ _ e
       ·rw[b6]
        show ii.length+1+_<=_
        (clear E3 mz n8 ky hi j5 w9 hm hw ql h0 kl hl bw hu;omega)
       ·rw[b6,b6]
        show jj.length+1<=ii.length+1
        (clear E3 E2 mz pw ky hi j5 w9 hm hw ql h0 kl hl bw hu;omega)
       ·rw[b6]
        show jj.length+1+_<=_
        (clear E3 mz pw n8 ky hi w9 hm hw ql h0 kl hl bw hu;omega)
       ·rw[J0]
        exact ac ⟨aq,mz⟩
      ·refine⟨ii,jj,n0,_,rfl,fz,j5,stay (λz=>b7 ?_),rj,u5⟩
       rw[rC,aa z.2]
       rfl
     ·rintro σ H5 ⟨ii,jj,n0,v5,rfl,fz,j5,ef,rj,u5⟩
      have ky:ns.length=(zT q).length:=Paired.length u5
      rw[ah,ky,ik] at ef
      refine⟨ii,jj,n0,_,v5,rfl,fz,j5,?_⟩
      rw[er,E1,ef]
    ·have hw:¬(0:Int)<((qs.map V.ref).length:Int):=λz=>hw (cn z)
     rw[ah] at hw
     have e0:ws=[]:=AI.mp (by (clear hm h0 kl hl bw hu;omega))
     subst e0
     have QR:dJ cs m rs []=rs:=by cases m<;>rfl
     refine⟨_,rfl,d,_,rfl,.inl hs.dd,_,rfl,b,CP,dx,_,_,rfl,j3 hs.sm,T'.cl,T'.n6,rfl,c,_,rfl,.inl (mq hs.sm),rfl,?_⟩
     have kk:=k H2 hs.sm
     have e5:xX cs=decide (V.int ((Ly rs).length:Int)=V.int ((aI cs).length:Int)):=by
      rw[gZ]
      have e6:xX cs=decide ((dJ cs cs.length [c0.1] [c0.1]).length=cs.length):=by rw[<-mv];rfl
      rw[e6,er,QR,kl]
      unfold Ly
      rw[ah,MQ]
      (clear ql hm hw h0 kl hl bw hu;omega)
     rw[e5] at kk
     exact kk
end
def wJ(y z:Nat):Nat->List Int->CL
 |_,[]=>[]
 |x,s::r=>(if s=46 then [] else [(((x:Int),(y:Int),(z:Int)),s)])++wJ y z (x+1) r
def pF(d:Nat):Nat->List (List Int)->CL
 |_,[]=>[]
 |j,r::rs=>wJ (j % d) (j / d) 0 r++pF d (j+1) rs
theorem Fo(y z:Nat):∀(xs:List Int)(x:Nat),eZ y z x xs=aI (wJ y z x xs)
 |[],x=>rfl
 |s::r,x=>by
  rw[eZ,wJ,Fo y z r (x+1)]
  unfold aI
  rw[cp]
  split<;>rfl
theorem sM(d:Nat):∀(rs:List (List Int)) (j:Nat),dR d j rs=aI (pF d j rs)
 |[],j=>rfl
 |r::rs,j=>by
  rw[dR,pF,Fo,sM d rs (j+1)]
  unfold aI
  rw[cp]
def tO(pr:aM):CL:=pF pr.d 0 pr.rows
def An(cs:CL)(W D Hh:Int):Bool:=nG cs && (mM cs && (mY cs W D Hh && xX cs))
def gR(pr:aM):Bool:=An (tO pr) pr.w pr.d pr.h
def mP(prs:List aM):Bool:=prs.all gR && jG (prs.map (·.name))
theorem dX.pt{CP:Addr}{H:Hp}{b:Addr}{pr:aM}(h:dX CP H b pr):∃nm,yD CP H b nm pr.w pr.d pr.h pr.g (tO pr):=by
 obtain⟨dx,nm,c,h1,h2,h3⟩:=h
 exact⟨nm,dx,c,h1,by rw[h3,sM];rfl⟩
theorem dX.nm{CP:Addr}{H:Hp}{b:Addr}{pr:aM}(h:dX CP H b pr):We CP H b pr.name:=by
 obtain⟨dx,nm,c,h1,h2,h3⟩:=h
 exact⟨dx,nm,_,_,_,_,c,h1,h2⟩
theorem rY.len{pr:aM}(h:rY pr):(tO pr).length<20000:=by
 have e:(tO pr).length=(dR pr.d 0 pr.rows).length:=by
  rw[sM]
  unfold aI tO
  rw[ah]
 have h1:=pB pr.d pr.w pr.rows 0 h.rw
 have h2:pr.rows.length * pr.w<=(16 * 18) * 16:=by
  rw[h.rl]
  exact C5 (C5 h.d2 h.h2) h.w2
 omega
section
variable {P:Program} {w:World} {K:PySem.W.Frag} {mg:Str->Option Value} {base:Heap} {C CR CP:Addr}
def uW(CP:Addr):Sp:=λvs H Q _=>∃(b nm:Addr)(W D Hh g:Int)(cs:CL),vs=[.ref b]/\yD CP H b nm W D Hh g cs/\cs.length<20000/\∀H',aK H H'->Q (.bl (An cs W D Hh)) H'
theorem yD.same{H H':Hp}{b nm:Addr}{W D Hh g:Int}{cs:CL}(h:yD CP H b nm W D Hh g cs)(s:aK H H'):yD CP H' b nm W D Hh g cs:=by
 obtain⟨dx,c,h1,h2⟩:=h
 exact⟨dx,c,s _ _ h1,s _ _ h2⟩
theorem Qp:aQ ["part"] ["part"] (aH lT):=⟨rfl,rfl,rfl,by decide+kernel,rfl,by decide+kernel,by decide+kernel⟩
theorem Tc{f:Addr}{fd:FuncData}(F:fH K "part_right" "part_right" lT f fd)(L1:dL P w K mg base "studs_clear" bU 2 ["part"] (Cj CP))(L2:dL P w K mg base "tubes_clear" bU 2 ["part"] (Ao CP))
  (L3:dL P w K mg base "fills_its_box" bU 2 ["part"] (Bp CP)) (L4:dL P w K mg base "hangs_together" bU 3 ["part"] (Aw CP)):bT P w K mg base bU 4 f fd ["part"] (uW CP):=by
 obtain⟨g1,gh,G1,b1,k1,h1⟩:=L1.ex
 obtain⟨g2,ku,G2,b2,k2,h2⟩:=L2.ex
 obtain⟨g3,zb,G3,b3,k3,h3⟩:=L3.ex
 obtain⟨g4,E6,G4,b4,k4,h4⟩:=L4.ex
 refine F.ok Qp (λvs H Q E h=>?_) (λai A outer s H vs Q E hr h=>?_)
 ·obtain⟨b,nm,W,D,Hh,g,cs,rfl,_⟩:=h
  rfl
 ·obtain⟨b,nm,W,D,Hh,g,cs,rfl,hp,hl,k⟩:=h
  have ay:=hr.mono (j:=2) (by decide)
  have ig:=hr.mono (j:=3) (by decide)
  refine⟨_,aG (aW (sK (aT G1 ay (by rfl) h1 k1 b1 .nil aY (aA (pv 0) aF)) (sK (aT G2 ay (by rfl) h2 k2 b2 .nil aY (aA (pv 0) aF))
   (sK (aT G3 ay (by rfl) h3 k3 b3 .nil aY (aA (pv 0) aF)) (sF (aT G4 ig (by rfl) h4 k4 b4 .nil aY (aA (pv 0) aF))))))),?_⟩
  unfold An at k
  refine⟨_,rfl,b,nm,W,D,Hh,g,cs,rfl,hp,λH1 S1=>⟨_,rfl,bY (λe1=>?_) (λe1=>?_)⟩⟩
  ·rw[e1,gz] at k
   refine⟨_,rfl,b,nm,W,D,Hh,g,cs,rfl,hp.same S1,λH2 S2=>⟨_,rfl,bY (λe2=>?_) (λe2=>?_)⟩⟩
   ·rw[e2,gz] at k
    have S2:=S1.trans S2
    refine⟨_,rfl,b,nm,W,D,Hh,g,cs,rfl,hp.same S2,hl,λH3 S3=>⟨_,rfl,bY (λe3=>?_) (λe3=>?_)⟩⟩
    ·rw[e3,gz] at k
     have S3:=S2.trans S3
     exact⟨_,rfl,b,nm,W,D,Hh,g,cs,rfl,hp.same S3,hl,λH4 S4=>k H4 (S3.trans S4)⟩
    ·rw[cZ e3,j9] at k
     exact k H3 (S2.trans S3)
   ·rw[cZ e2,j9] at k
    exact k H2 (S1.trans S2)
  ·rw[cZ e1,j9] at k
   exact k H1 S1
def pI(K:PySem.W.Frag)(CP:Addr):Sp:=λvs H Q _=>∃(a:Addr)(bs:List Addr)(prs:List aM),vs=[.ref a]/\cP K H a (bs.map V.ref)/\eC CP H bs prs/\1<=prs.length/\prs.length<=64/\∀H',aK H H'->Q (.bl (mP prs)) H'
theorem mQ:aQ ["parts","part"] ["parts"] (aH kH):=⟨rfl,rfl,rfl,by decide+kernel,rfl,by decide+kernel,by decide+kernel⟩
theorem El{f:Addr}{fd:FuncData}(F:fH K "catalogue_right" "catalogue_right" kH f fd)(je:mg "all"=none)(L1:dL P w K mg base "part_right" bU 4 ["part"] (uW CP))(L2:dL P w K mg base "names_grow" bU 2 ["parts"] (Hb K CP)):
  bT P w K mg base bU 5 f fd ["parts"] (pI K CP):=by
 obtain⟨g1,gh,G1,b1,k1,h1⟩:=L1.ex
 obtain⟨g2,ku,G2,b2,k2,h2⟩:=L2.ex
 refine F.ok mQ (λvs H Q E h=>?_) (λai A outer s H vs Q E hr h=>?_)
 ·obtain⟨a,bs,prs,rfl,_⟩:=h
  rfl
 ·obtain⟨a,bs,prs,rfl,ha,hp,l7,hn,k⟩:=h
  have ay:=hr.mono (j:=2) (by decide)
  have gv:=hr.mono (j:=4) (by decide)
  refine⟨_,aG (aW (sK (bK (aAk rfl) (by rfl) je boot_all (aA (Ga (own:=[("part",1)]) (te:=Ej (uW CP) [] E0 (eR (eF 1) gY)) rfl mQ.nd (nV (pv 0)) (gU (N:=["parts","part"]) (sc:=aH kH) (by decide+kernel))
      (λ_ _ _ _ _=>bH (i:=1) mQ.nd rfl (Or.inl rfl)) (λ_ _ _ _ _=>lO) (λ_ _ _ _ _=>aT G1 gv (by rfl) h1 k1 b1 .nil aY (aA (pv 1) aF))) aF))
    (sF (aT G2 ay (by rfl) h2 k2 b2 .nil aY (aA (pv 0) aF))))),?_⟩
  have gx:bs.length=prs.length:=Paired.length hp
  have bw:=bJ
  refine⟨_,rfl,a,rfl,⟨_,ha⟩,λDl f6=>?_⟩
  refine uK (xs:=bs.map V.ref) (λi H'=>aK H H'/\H' Dl=some (.lst (((prs.take i).map gR).map V.bl))) ⟨aK.new f6,aC⟩ (λi H' _ z=>z.1.seq ha) ?_ ?_
  ·rintro i x H1 ex ⟨S1,gw⟩
   have hi:i<prs.length:=by
    have:=(bh.mp ex).1
    rwa [ah,gx] at this
   obtain⟨pr,ep⟩:∃pr,prs[i]?=some pr:=⟨_,ba hi⟩
   obtain⟨b,eb,pa,po⟩:=cH hp ep
   rw[bf,eb] at ex
   cases ex
   obtain⟨nm,pt⟩:=pa.pt
   refine⟨rfl,_,rfl,b,nm,_,_,_,_,_,rfl,pt.same S1,po.len,λH2 S2=>⟨_,S2 _ _ gw,?_,?_,?_⟩⟩
   ·rw[ah,ah,ij]
    (clear hi gx l7;omega)
   ·intro b' o e
    rw[aB (aD e f6)]
    exact S2 _ _ (S1 _ _ e)
   ·rw[aC,i3,ep,cp,cp]
    rfl
  ·rintro H1 ⟨S1,gw⟩
   rw[ah,gx,ik] at gw
   refine⟨Dl,_,rfl,cP.of gw,_,rfl,bY (λe1=>?_) (λe1=>?_)⟩
   ·refine⟨_,rfl,a,bs,prs.map (·.name),rfl,S1.seq ha,?_,by rw[ah];exact l7,by rw[ah];exact hn,?_⟩
    ·have key:∀{bs:List Addr}{prs:List aM},eC CP H bs prs->Paired (We CP H1) bs (prs.map (·.name)):=by
      intro bs prs z
      unfold eC at z
      induction z with
      |nil=>exact .nil
      |cons h t ih=>exact .cons (h.1.same S1).nm ih
     exact key hp
    ·have kk:=k H1 S1
     unfold mP at kk
     rw[CH] at e1
     have e1:prs.all gR=true:=e1
     rw[e1,gz] at kk
     exact kk
   ·have kk:=k H1 S1
    unfold mP at kk
    rw[CH] at e1
    have e1:¬prs.all gR=true:=e1
    rw[cZ e1,j9] at kk
    exact kk
end
end Br1
namespace HT
open PySem PyProof.Rows
section
variable {prog:Program} {w:World} {A:Around} {E:Value->Shared->Prop} {s:Shared}
theorem oK{t sl:Addr}{items:Array Value}{vl vu:Value}{lo hi:Option Int}{Q:Value->Shared->Prop}(ht:IsTup s.heap t items)(hs:s.heap.IsSliceOf sl vl vu .none)(pl:IsPart vl lo)(pu:IsPart vu hi)
  (hw:hZ items.size 0 lo=0/\hZ items.size items.size hi=items.size) (h:Q (.ref t) s):wpAny (model prog w) A (getItem (.ref t) (.ref sl)) Q E s:=by
 obtain⟨os,dz,mv,o9⟩:=id hs
 have yk:s.TypeIs (.ref sl) "slice":=⟨os,dz,mv⟩
 unfold getItem
 try with_reducible refine j8 ?_
 first|refine wpAny_bind (af ?_)|skip
 refine wpAny_bind (wpAny_sequenceKey ht.typeIs (by decide) ?_)
 refine wpAny_bind (md (name:=Str.ofString "__getitem__") ht.typeIs xp
  (jy xp ht.typeIs entry_tuple_getitem ?_ (args_tuple_getitem _ _)))
 show wpAny _ _ (Builtin.Tuple.tupleItemsOf (.ref t)>>=_) _ _ s
 refine wpAny_bind (tupleItemsOf_ ht ?_)
 refine wpAny_bind (GZ yk ?_)
 rw[ac (by decide)]
 refine wpAny_bind (kM hs pl pu ?_)
 have QS:((((hZ items.size 0 lo:Nat):Int)==0 && (1:Int)==1 && (hZ items.size items.size hi - hZ items.size 0 lo)==items.size)=true):=by
  rw[hw.1,hw.2]
  simp
 show wpAny _ _ (if (((hZ items.size 0 lo:Nat):Int)==0 && (1:Int)==1 && (hZ items.size items.size hi - hZ items.size 0 lo)==items.size)=true then _ else _) _ _ s
 rw[ac QS]
 unfold Builtin.Tuple.tupleIsExact
 refine wpAny_bind (wpAny_bind (GZ ht.typeIs (af ?_)))
 rw[ac (by decide)]
 exact wpAny_bind (wpAny_rule (af ⟨_,rfl,af h⟩))
end
end HT
namespace L2
open PySem PySem.Spec PyProof.Rows
section
variable {X:Cx}
def Yv(K:PySem.W.Frag):V->Option Int->Option Int->Hp->VK->Prop:=λx lo hi H Q=>∃a xs,x=.ref a/\cN K H a xs/\∀p H',aK H H'->cN K H' p (Co xs lo hi)->Q (.ref p) H'
theorem Wm:SlR X (Yv X.K):=by
 intro pins s σ H x v vl vu lo hi sl Q I rx hs pl pu h
 obtain⟨a,xs,rfl,hx,q⟩:=h
 by_cases hw:HT.hZ xs.length 0 lo=0/\HT.hZ xs.length xs.length hi=xs.length
 ·cases rx
  obtain⟨its,r,ht,hz⟩:=I.tuple hx
  have ax:its.toArray.size=xs.length:=by rw[de];exact r.length.symm
  refine⟨"tuple",_,xp.lookup,ht.typeIs,?_⟩
  refine HT.oK ht hs pl pu (by rw[ax];exact hw) ⟨.ref a,H,I,rfl,q a H (λ_ _ e=>e) ?_⟩
  have e:Co xs lo hi=xs:=by
   unfold Co
   rw[hw.1,hw.2,List.drop_zero,C6,ik]
  rw[e]
  exact hx
 ·exact Ym pins s σ H _ v vl vu lo hi sl Q I rx hs pl pu ⟨a,xs,rfl,hx,hw,λp hp=>q p _ (λb o e=>by rw[aB (aD e hp)];exact e) (cN.of aC)⟩
end
theorem aK.seqT{K:PySem.W.Frag}{H H':Hp}{a:Addr}{xs:List V}(e:aK H H')(h:cN K H a xs):cN K H' a xs:=by
 rcases h with (h|⟨o,h⟩)|h
 ·exact .inl (.inl (e _ _ h))
 ·exact .inl (.inr ⟨o,e _ _ h⟩)
 ·exact .inr h
end L2
namespace Br1
open PySem PySem.Spec PyProof.Rows L2
def iD(ag:List (List Int))(ns:List Int):Bool:=ag.any λm=>decide (m.take ns.length=ns)
theorem Ow(m:List Int)(k:Nat):Co (m.map V.int) none (some (k:Int))=(m.take k).map V.int:=by
 unfold Co
 rw[HT.Pc,HT.Vi,C6,List.drop_zero,ah]
 rw[<-List.map_take]
 congr 1
 by_cases h:k<=m.length
 ·rw[Nat.min_eq_left h]
 ·rw[Nat.min_eq_right (by omega),ik,AA (by omega)]
section
variable {P:Program} {w:World} {K:PySem.W.Frag} {mg:Str->Option Value} {base:Heap} {C CR CP:Addr}
theorem oP.same{H H':Hp}{xs:List V}{ag:List (List Int)}(h:oP K H xs ag)(s:aK H H'):oP K H' xs ag:=Paired.mapP h λx ns z=>by
 obtain⟨p,e,t⟩:=z
 exact⟨p,e,s.seqT t⟩
def wX(K:PySem.W.Frag):Sp:=λvs H Q _=>∃(a q:Addr)(xs:List V) (ag:List (List Int)) (ns:List Int),vs=[.ref a,.ref q]/\cP K H a xs/\oP K H xs ag/\cN K H q (ns.map V.int)/\ag.length<=64/\∀H',aK H H'->Q (.bl (iD ag ns)) H'
theorem sQ:aQ ["names","beginning","name"] ["names","beginning"] (aH qA):=⟨rfl,rfl,rfl,by decide+kernel,rfl,by decide+kernel,by decide+kernel⟩
def aCw(K:PySem.W.Frag):List V->Hp->VK->Prop:=λxs H Q=>∃p ys,xs=[.ref p]/\(cP K H p ys\/cN K H p ys)/\Q (.int ys.length) H
theorem Lp{f:Addr}{fd:FuncData}(F:fH K "some_begins" "some_begins" qA f fd)(QT:mg "any"=none)(ax:mg "len"=none):bT P w K mg base bU 2 f fd ["names","beginning"] (wX K):=by
 refine F.ok sQ (λvs H Q E h=>?_) (λai A outer s H vs Q E hr h=>?_)
 ·obtain⟨a,q,xs,ag,ns,rfl,_⟩:=h
  rfl
 ·obtain⟨a,q,xs,ag,ns,rfl,ha,ht,hq,hn,k⟩:=h
  have hu:=jY hr
  refine⟨_,aG (aW (bK (Zy rfl) (by rfl) QT boot_any (aA (Ga (own:=[("name",2)]) (te:=Rc (Zq K) (tSl (Yv K) (eF 2) Jk (Xj (tCB (aCw K) (eR (eF 1) gY)))) (eF 1)) rfl sQ.nd (nV (pv 0)) (gU (N:=["names","beginning","name"]) (sc:=aH qA) (by decide+kernel))
      (λ_ _ _ _ _=>bH (i:=2) sQ.nd rfl (Or.inl rfl)) (λ_ _ _ _ _=>lO)
      (λ_ _ _ _ _=>lP (r:=Zq K) (aAb (HM hu)) (Qi (r:=Yv K) Wm (pv 2) Wx (Wi (bK (r:=aCw K) bI (by rfl) ax PySem.boot_len (aA (pv 1) aF)))) (pv 1) (hU _))) aF))),?_⟩
  have l0:xs.length=ag.length:=Paired.length ht
  have bw:=bJ
  refine⟨_,rfl,a,rfl,⟨_,ha⟩,λDl f6=>?_⟩
  refine uK (xs:=xs) (λi H'=>aK H H'/\H' Dl=some (.lst (((ag.take i).map λm=>decide (m.take ns.length=ns)).map V.bl))) ⟨aK.new f6,aC⟩ (λi H' _ z=>z.1.seq ha) ?_ ?_
  ·rintro i x H1 ex ⟨S1,gw⟩
   have hi:i<ag.length:=by
    have:=(bh.mp ex).1
    (clear bw hu hn;omega)
   obtain⟨m,em⟩:∃m,ag[i]?=some m:=⟨_,ba hi⟩
   obtain⟨x',IE,p,rfl,hp⟩:=cH ht em
   rw[IE] at ex
   cases ex
   have hl:((ns.map V.int).length:Int)=(ns.length:Int):=by rw[ah]
   refine⟨rfl,_,rfl,_,rfl,q,_,rfl,.inr (S1.seqT hq),_,rfl,p,_,rfl,S1.seqT hp,λp2 H2 S2 A6=>?_⟩
   rw[hl,Ow] at A6
   refine⟨_,rfl,p2,q,_,_,rfl,rfl,A6,S2.seqT (S1.seqT hq),_,S2 _ _ gw,?_,?_,?_⟩
   ·rw[ah,ah,ij]
    (clear hl hi l0 hu;omega)
   ·intro b' o e
    rw[aB (aD e f6)]
    exact S2 _ _ (S1 _ _ e)
   ·rw[aC,i3,em,cp,cp]
    rfl
  ·rintro H1 ⟨S1,gw⟩
   rw[l0,ik] at gw
   refine⟨Dl,_,rfl,cP.of gw,?_⟩
   have kk:=k H1 S1
   unfold iD at kk
   rw[AB]
   exact kk
end
def cI(ag:List (List Int))(l:List Int):Nat->Nat->List Int->List Int×Nat
 |0,p,acc=>(acc,p)
 |n+1,p,acc=>if iD ag (acc++[aR l p])=true then cI ag l n (p+1) (acc++[aR l p]) else (acc,p)
def pW(ag:List (List Int))(ns:List Int):Nat:=ag.findIdx λm=>decide (m=ns)
def rR(ag:List (List Int))(l:List Int)(p:Nat):Except Nat (Nat×Nat):=if (cI ag l 8 p []).1∈ag then .ok (pW ag (cI ag l 8 p []).1,(cI ag l 8 p []).2) else .error (cI ag l 8 p []).2
def Xy(ag:List (List Int)):Prop:=ag.length<=64/\∀m∈ag,m.length<=8/\(256:Int)∉m
theorem He{ag:List (List Int)}{acc:List Int}{h:Int}(ok:Xy ag)(e:iD ag (acc++[h])=true):acc.length<8/\h≠256:=by
 unfold iD at e
 obtain⟨m,hm,z⟩:=lh.mp e
 have z:=dq z
 obtain⟨g1,g2⟩:=ok.2 m hm
 have hl:=congrArg List.length z
 rw[ij,b6] at hl
 refine⟨?_,λq=>g2 ?_⟩
 ·have:([h]:List Int).length=1:=rfl
  (clear g2;omega)
 ·have:h∈m.take (acc++[h]).length:=by rw[z];simp
  rw[<-q]
  exact MU this
theorem Ue{ag:List (List Int)}{ns:List Int}(h:ns∈ag):ag[pW ag ns]?=some ns:=by
 have hl:pW ag ns<ag.length:=MV ⟨ns,h,cn rfl⟩
 rw[ba hl]
 have:=List.findIdx_getElem (p:=λm=>decide (m=ns)) (xs:=ag) (w:=hl)
 exact congrArg some (dq this)
theorem Vp{ag:List (List Int)}{ns ms:List Int}{m:Nat}(hm:m<pW ag ns)(e:ag[m]?=some ms):ms≠ns:=by
 have h:=List.not_of_lt_findIdx (p:=λm=>decide (m=ns)) (xs:=ag) hm
 obtain⟨hl,e⟩:=bh.mp e
 intro z
 rw[e,z] at h
 simp at h
section
variable {P:Program} {w:World} {K:PySem.W.Frag} {mg:Str->Option Value} {base:Heap} {C CR CP:Addr}
theorem oP.sx{r:Addr}{H H':Hp}{C' dx:Addr}{fs:List (Str×V)}{xs:List V}{ag:List (List Int)}(h:oP K H xs ag)(s:SX r H H')(hr:H r=some (.ins C' dx fs)):oP K H' xs ag:=Paired.mapP h λx ns z=>by
 obtain⟨p,e,t⟩:=z
 exact⟨p,e,s.seqT hr t⟩
structure Xi(K:PySem.W.Frag)(H:Hp)(na:Addr)(ag:List (List Int)):Prop where
 ex:∃xs,cP K H na xs/\oP K H xs ag
 ok:Xy ag
theorem Xi.sx{r:Addr}{H H':Hp}{a:Addr}{p:Nat}{na:Addr}{ag:List (List Int)}(h:Xi K H na ag)(s:SX r H H')(hr:iG CR H r a p):Xi K H' na ag:=by
 obtain⟨⟨xs,h1,h2⟩,h3⟩:=h
 obtain⟨dx,g⟩:=hr
 exact⟨⟨xs,s.seq g h1,oP.sx h2 s g⟩,h3⟩
def wK(K:PySem.W.Frag)(CR:Addr):Sp:=λvs H Q E=>∃(r a na:Addr)(l:List Int)(p:Nat) (ag:List (List Int)),vs=[.ref r,.ref na]/\jU K CR H r a l p/\Xi K H na ag/\
 match rR ag l p with
 |.ok q=>∀H':Hp,jU K CR H' r a l q.2->SX r H H'->Q (.int q.1) H'
 |.error i=>∀H':Hp,SX r H H'->E (.int i 0) none H'
theorem rN:aQ ["reader","names","beginning"] ["reader","names"] (aH uJ):=⟨rfl,rfl,rfl,by decide+kernel,rfl,by decide+kernel,by decide+kernel⟩
theorem Lg{f:Addr}{fd:FuncData}(F:fH K "read_part_number" "read_part_number" uJ f fd)(T:Gh K CR)(S:Zn P w K mg base C)(M1:nI P w K mg base CR "here" bU 2 ["self"] (oZ K CR))(M2:nI P w K mg base CR "take" bU 3 ["self"] (pL K CR))
  (L1:dL P w K mg base "some_begins" bU 2 ["names","beginning"] (wX K)):bT P w K mg base (iX C P w) 5 f fd ["reader","names"] (wK K CR):=by
 obtain⟨f1,m6,m1,G1,b1⟩:=M1.ex
 obtain⟨f2,uu,m2,G2,b2⟩:=M2.ex
 obtain⟨gb,US,GB,bB,kB,hB⟩:=L1.ex
 obtain⟨fx,yr,XT,GX,bx⟩:=S.ex
 refine F.okX rN (λvs H Q E h=>?_) (λai A outer s H vs Q E hr h=>?_)
 ·obtain⟨r,a,na,l,p,ag,rfl,_⟩:=h
  rfl
 ·obtain⟨r,a,na,l,p,ag,rfl,x,hn,k⟩:=h
  have ig:=hr.mono (j:=3) (by decide)
  have ay:=hr.mono (j:=2) (by decide)
  have hu:=jY hr
  refine⟨_,aE (aZ (i:=2) rN.nd rfl (Or.inl rfl) (eN aF))
   (aE (iQ aN.own (dY (aT GB ay (by rfl) hB kB bB .nil aY (aA (pv 1) (aA (cR Je (pv 2) (eN (aA (cB (pv 0) T.cl m1 G1 ay b1 .nil aY) aF))) aF))))
    (aG (aZ (i:=2) rN.nd rfl (Or.inl rfl) (cR Je (pv 2) (eN (aA (cB (pv 0) T.cl m2 G2 ig b2 .nil aY) aF))))))
   (aE (dZ (iB (Nb hu) (pv 2) (pv 1) (by with_unfolding_all rfl)) (aG (mV aN rfl XT GX ay (by rfl) S.mg bx (aO (pv 0) rfl))) bX)
   (aG (aW (mW PySem.F.plainAttrs_list PySem.F.slot_list_index PySem.F.type_list_index (Lz hu) (pv 1) (aA (pv 2) aF)))))),?_⟩
  obtain⟨⟨dx,h1⟩,tx,le⟩:=id x
  refine⟨da _,λq0 QU=>?_⟩
  have S0:=aK.new (o:=.tup []) QU
  have bw:=bJ
  refine⟨λm σ H'=>∃(acc:List Int)(q:Addr)(p':Nat),σ=[some (.ref r),some (.ref na),some (.ref q)]/\SX r H H'/\iG CR H' r a p'/\p'<=l.length/\cN K H' q (acc.map V.int)/\acc.length+m=8/\cI ag l 8 p []=cI ag l m p' acc,
   ⟨8,[],q0,p,rfl,aK.sx S0,⟨dx,S0 _ _ h1⟩,le,cN.of aC,rfl,rfl⟩,?_⟩
  rintro m σ H1 ⟨acc,q,p',rfl,s1,a7,gu,hq,hm,e1⟩
  have x1:=x.same s1 a7 gu
  have l7:=hn.sx s1 x.rd
  obtain⟨jg,g1⟩:=id a7
  obtain⟨⟨xs,ha,ht⟩,ok⟩:=id l7
  refine⟨_,rfl,_,rfl,_,rfl,r,jg,_,rfl,g1,rfl,r,a,l,p',rfl,x1,by show 1<=sizeLine;decide,λq1 m7=>?_⟩
  have S2:=aK.new (o:=.tup [.int (aR l p')]) m7
  refine⟨q,q1,acc.map V.int,[.int (aR l p')],rfl,rfl,S2.seqT hq,cN.of aC,(by simp),by rw[ah];show acc.length+1<=_;(clear gu le hu;omega),λq2 H2 S3 cu=>?_⟩
  have S4:aK H1 H2:=S2.trans S3
  have cu:cN K H2 q2 ((acc++[aR l p']).map V.int):=by rw[cp];exact cu
  refine⟨na,q2,xs,ag,_,rfl,S4.seq ha,oP.same ht S4,cu,ok.1,λH3 S5=>?_⟩
  have S6:aK H1 H3:=S4.trans S5
  have s3:SX r H H3:=s1.trans (aK.sx S6)
  have ig:iG CR H3 r a p':=⟨jg,S6 _ _ g1⟩
  refine⟨_,rfl,bY (λhb=>?_) (λhb=>?_)⟩
  ·obtain⟨aj,jf⟩:=He ok hb
   have lt:=gD jf
   obtain⟨n,rfl⟩:∃n,m=n+1:=⟨m - 1,by (clear lt jf gu bw le hu;omega)⟩
   refine⟨λae H'=>∃(acc:List Int)(q:Addr)(p':Nat),ae=[some (.ref r),some (.ref na),some (.ref q)]/\SX r H H'/\iG CR H' r a p'/\p'<=l.length/\cN K H' q (acc.map V.int)/\acc.length+n=8/\cI ag l 8 p []=cI ag l n p' acc,λae H' z=>⟨n,jl n,z⟩,?_⟩
   refine⟨_,rfl,_,rfl,r,jg,_,rfl,S6 _ _ g1,rfl,r,a,l,p',rfl,x.same s3 ig gu,λH4 gv s4=>⟨by show 1<=sizeLine;decide,λq5 xb=>?_⟩⟩
   have S7:=aK.new (o:=.tup [.int (aR l p')]) xb
   have ux:=s4.seqT (S6 _ _ g1) (S6.seqT hq)
   refine⟨q,q5,acc.map V.int,[.int (aR l p')],rfl,rfl,S7.seqT ux,cN.of aC,(by simp),by rw[ah];show acc.length+1<=_;(clear hm lt jf gu le hu;omega),λq6 H5 S8 BJ=>?_⟩
   have S9:=S7.trans S8
   obtain⟨y4,g4⟩:=gv
   refine⟨acc++[aR l p'],q6,p'+1,rfl,(s3.trans s4).trans (aK.sx S9),⟨y4,S9 _ _ g4⟩,lt,by rw[cp];exact BJ,by rw[b6];show acc.length+1+n=8;(clear lt jf aj gu bw le hu;omega),?_⟩
   rw[e1]
   show (if _ then _ else _)=_
   rw[ac hb]
  ·have e2:cI ag l 8 p []=(acc,p'):=by
    rw[e1]
    cases m with
    |zero=>rfl
    |succ n=>
     show (if _ then _ else _)=_
     rw[aa hb]
   have EB:=l7.sx (aK.sx S6) a7
   obtain⟨⟨J2,E7,kz⟩,_⟩:=id EB
   unfold rR at k
   rw[e2] at k
   refine⟨_,rfl,_,rfl,q,na,acc,J2,ag,rfl,rfl,S6.seqT hq,E7,kz,_,rfl,bY (λb7=>?_) (λb7=>?_)⟩
   ·have b7:¬acc∈ag:=by
     have b7:(!decide (acc∈ag))=true:=b7
     rw[ck,j0] at b7
     exact b7
    rw[aa b7] at k
    exact⟨_,rfl,r,CR,jg,_,_,rfl,S6 _ _ g1,T.cl,T.nP,gS _ _,_,rfl,k H3 s3⟩
   ·have b7:acc∈ag:=by
     have b7:¬(!decide (acc∈ag))=true:=b7
     rw[ck,j0,xz] at b7
     exact b7
    rw[ac b7] at k
    refine⟨_,rfl,.inl ⟨rfl,_,E7⟩,_,rfl,na,q,J2,ag,acc,pW ag acc,rfl,rfl,E7,kz,S6.seqT hq,Ue b7,λm ms hm em=>Vp hm em,?_⟩
    exact k H3 (x.same s3 ig gu) s3
end
def cU(l:List Int):List Nat->Nat->Except Nat (List Nat×Nat)
 |[],p=>.ok ([],p)
 |m::ms,p=>eG (aU l p [32]) λp1=>eG (iY l p1 0 m) λv=>gG v.1 (cU l ms v.2)
def fE:List Nat:=[255,63,63,95,3]
def eQ(ag:List (List Int))(l:List Int)(p:Nat):Except Nat (List Nat×Nat):=
 eG (aU l p [112,117,116,32]) λp1=>eG (rR ag l p1) λq=>eG (cU l fE q.2) λr=>eG (aU l r.2 [10]) λp5=>.ok (q.1::r.1,p5)
theorem Ov:("put ":Str).cps.toList=[112,117,116,32]:=by decide+kernel
theorem xL{l:List Int}:∀{ms:List Nat}{p:Nat}{r:List Nat×Nat},cU l ms p=.ok r->r.1.length=ms.length
 |[],p,r,h=>by cases h;rfl
 |m::ms,p,r,h=>by
  rw[cU] at h
  cases e1:aU l p [32] with
  |error i=>rw[e1] at h;cases h
  |ok p1=>
   rw[e1,bZ] at h
   cases e2:iY l p1 0 m with
   |error i=>rw[e2] at h;cases h
   |ok v=>
    rw[e2,bZ] at h
    cases e3:cU l ms v.2 with
    |error i=>rw[e3] at h;cases h
    |ok q=>
     rw[e3] at h
     cases h
     show (_::q.1).length=ms.length+1
     rw[bn,xL e3]
def zC(n:Nat):V:=.int n
section
variable {P:Program} {w:World} {K:PySem.W.Frag} {mg:Str->Option Value} {base:Heap} {C CR CP:Addr}
def Hf(K:PySem.W.Frag)(CR:Addr):Sp:=λvs H Q E=>∃(r a na:Addr)(l:List Int)(p:Nat) (ag:List (List Int)),vs=[.ref r,.ref na]/\jU K CR H r a l p/\Xi K H na ag/\
 match eQ ag l p with
 |.ok q=>∀(H':Hp)(t:Addr),jU K CR H' r a l q.2->SX r H H'->H t=none->H' t=some (.tup (q.1.map zC))->q.1.length=6->Q (.ref t) H'
 |.error i=>∀H':Hp,SX r H H'->E (.int i 0) none H'
theorem Cc:aQ ["reader","names","numbers","most"] ["reader","names"] (aH nQ):=⟨rfl,rfl,rfl,by decide+kernel,rfl,by decide+kernel,by decide+kernel⟩
theorem Tx{f:Addr}{fd:FuncData}(F:fH K "read_line" "read_line" nQ f fd)(T:Gh K CR)(yt:mg "tuple"=none)(c1:CI mg "MOST_COLOUR" 255)(c2:CI mg "ROOM_WIDTH" 64)(c3:CI mg "ROOM_DEPTH" 64)(c4:CI mg "ROOM_HEIGHT" 96)(c5:CI mg "MOST_TURNS" 3)
  (M1:nI P w K mg base CR "read_word" (iX C P w) 5 ["self","word"] (lD K CR)) (M3:nI P w K mg base CR "read_number" (iX C P w) 4 ["self","least","most"] (kI K CR))
  (L1:dL P w K mg base "read_part_number" (iX C P w) 5 ["reader","names"] (wK K CR)):bT P w K mg base (iX C P w) 6 f fd ["reader","names"] (Hf K CR):=by
 obtain⟨f1,m6,m1,G1,b1⟩:=M1.ex
 obtain⟨f3,JJ,m3,G3,b3⟩:=M3.ex
 obtain⟨gp,UT,GP,bP,kP,hP⟩:=L1.ex
 refine F.okX Cc (λvs H Q E h=>?_) (λai A outer s H vs Q E hr h=>?_)
 ·obtain⟨r,a,na,l,p,ag,rfl,_⟩:=h
  rfl
 ·obtain⟨r,a,na,l,p,ag,rfl,x,hn,k⟩:=h
  have gv:=hr.mono (j:=4) (by decide)
  refine⟨_,aE (cA (cX (pv 0) T.cl m1 G1 hr b1 .nil aN.pass (aA gM aF)))
   (aE (aZ (i:=2) Cc.nd rfl (Or.inl rfl) (dU (aA (aT GP hr (by rfl) hP kP bP .nil aN.pass (aA (pv 0) (aA (pv 1) aF))) aF)))
   (aE (eB aN.own rfl (Yh (eN (aA (eV c1) (aA (cR eU (eV c2) aJ) (aA (cR eU (eV c3) aJ) (aA (cR eU (eV c4) aJ) (aA (eV c5) aF))))))) (bH (i:=3) Cc.nd rfl (Or.inl rfl))
    (aE (cA (cX (pv 0) T.cl m1 G1 hr b1 .nil aN.pass (aA gM aF)))
    (aG (cA (mW PySem.F.plainAttrs_list PySem.F.slot_list_append PySem.F.type_list_append eM (pv 2) (aA (cX (pv 0) T.cl m3 G3 gv b3 .nil aN.pass (aA aJ (aA (pv 3) aF))) aF))))))
   (aE (cA (cX (pv 0) T.cl m1 G1 hr b1 .nil aN.pass (aA gM aF)))
   (aG (aW (sN oQ (by rfl) yt boot_tuple (aA (pv 2) aF))))))),?_⟩
  unfold eQ at k
  have bw:=bJ
  refine eS (iF rfl Ov (by decide) x (λi e1 H' s1=>by rw[e1] at k;exact k H' s1) λp1 e1 H1 x1 s1=>?_)
  rw[e1,bZ] at k
  refine⟨_,rfl,_,rfl,r,a,na,l,p1,ag,rfl,x1,hn.sx s1 x.rd,?_⟩
  cases e2:rR ag l p1 with
  |error i=>
   intro H' s'
   rw[e2] at k
   exact k H' (s1.trans s')
  |ok q=>
   intro H2 x2 s2
   rw[e2,bZ] at k
   refine⟨by show 1<=sizeLine;decide,λnb BK=>?_⟩
   have S3:=aK.new (o:=.lst [V.int q.1]) BK
   have s3:SX r H (upd H2 nb (.lst [V.int q.1])):=(s1.trans s2).trans (aK.sx S3)
   obtain⟨l3,g2⟩:=x2.rd
   have zc:nb≠r:=λz=>by rw[z,g2] at BK;cases BK
   have QV:H nb=none:=by
    cases z:H nb with
    |none=>rfl
    |some o=>
     have:=(s1.trans s2) nb o z zc
     rw[BK] at this
     cases this
   have E8:iG CR (upd H2 nb (.lst [V.int q.1])) r a q.2:=⟨l3,S3 _ _ g2⟩
   have E9:upd H2 nb (.lst [V.int q.1]) nb=some (.lst ((q.1::[]).map zC)):=aC
   generalize upd H2 nb (.lst [V.int q.1])=H3 at S3 s3 E8 E9
   refine⟨_,_,rfl,rfl,_,_,rfl,rfl,_,_,rfl,rfl,by show 5<=sizeLine;decide,λtb J3=>?_⟩
   have S4:=aK.new (o:=.tup (fE.map zC)) J3
   have J4:upd H3 tb (.tup (fE.map zC)) tb=some (.tup (fE.map zC)):=aC
   refine⟨tb,rfl,⟨_,cN.of J4⟩,?_⟩
   have s4:SX r H (upd H3 tb (.tup (fE.map zC))):=s3.trans (aK.sx S4)
   have QW:iG CR (upd H3 tb (.tup (fE.map zC))) r a q.2:=let ⟨dx,g⟩:=E8;⟨dx,S4 _ _ g⟩
   have BD:=S4 _ _ E9
   have BL:H3 tb=none:=J3
   have kE:∀i,cU l fE q.2=.error i->∀H',SX r H H'->E (.int i 0) none H':=λi e H' s'=>by
    rw[e] at k
    exact k H' s'
   refine Tt (xs:=fE.map zC) (λi σ H'=>∃(vs:List Nat)(p':Nat)(v3:Option V),σ=[some (.ref r),some (.ref na),some (.ref nb),v3]/\vs.length=i/\SX r H H'/\iG CR H' r a p'/\p'<=l.length/\H' nb=some (.lst ((q.1::vs).map zC))/\
     H' tb=some (.tup (fE.map zC))/\cU l fE q.2=fV vs (cU l (fE.drop i) p')) ⟨[],q.2,none,rfl,rfl,s4,QW,x2.le,BD,J4,by rw[kR];rfl⟩ ?_ ?_ ?_
   ·rintro i σ H5 _ ⟨vs,p',v3,_,_,_,_,_,_,h,_⟩
    exact cN.of h
   ·rintro i v σ H5 ev ⟨vs,p',v3,rfl,r9,s5,FA,xc,FC,J5,e5⟩
    rw[bf] at ev
    obtain⟨m,em,rfl⟩:=qi.mp ev
    have hi:i<5:=(bh.mp em).1
    have hm:m<=255:=by
     have:=dg em
     revert this
     unfold fE
     simp
     (clear hi xc r9 bw;omega)
    have ed:fE.drop i=m::fE.drop (i+1):=by
     have hl:i<fE.length:=hi
     have:=C3 hl
     rw[this]
     have e2:=(bh.mp em).2
     rw[e2]
    rw[ed] at e5
    have x5:=x.same s5 FA xc
    have e6:cU l (m::fE.drop (i+1)) p'=eG (aU l p' [32]) λp1=>eG (iY l p1 0 m) λv=>gG v.1 (cU l (fE.drop (i+1)) v.2):=rfl
    rw[e6] at e5
    refine eS (iF rfl iS b32 x5 (λj ej H' s'=>kE j (by rw[e5,ej];rfl) H' (s5.trans s')) λp6 ew H6 x6 s6=>?_)
    rw[ew,bZ] at e5
    have J6:H6 nb=some (.lst ((q.1::vs).map zC)):=s6 _ _ FC zc
    obtain⟨FD,g6⟩:=x6.rd
    refine⟨_,rfl,.inl ⟨rfl,_,cP.of J6⟩,_,rfl,r,FD,_,rfl,g6,rfl,_,rfl,?_⟩
    dsimp only[gY,List.cons_append,List.nil_append]
    refine Dt (hi:=m) x6 (by decide) (by (clear hi xc r9 bw;omega)) (λv en QX _ H7 x7 s7=>?_) (λen=>?_)
    ·rw[en,bZ,iR] at e5
     have QY:=(s5.trans s6).trans s7
     have FE:H7 nb=some (.lst ((q.1::vs).map zC)):=s7 _ _ J6 zc
     refine⟨nb,_,_,rfl,rfl,FE,by rw[ah,bn];(clear QX hm xc;omega),?_⟩
     obtain⟨FF,g7⟩:=x7.rd
     have QZ:tb≠nb:=λz=>by rw[z,E9] at BL;cases BL
     have BN:tb≠r:=λz=>by obtain⟨_,g⟩:=E8;rw[z,g] at BL;cases BL
     refine⟨vs++[v.1],v.2,_,rfl,by simp[r9],λb o e hb=>?_,⟨FF,by rw[aB (ao zc)];exact g7⟩,x7.le,?_,?_,e5⟩
     ·rw[aB (aD e QV)]
      exact QY b o e hb
     ·rw[aC]
      simp[zC]
     ·rw[aB QZ]
      exact s7 _ _ (s6 _ _ J5 BN) BN
    ·exact kE p6 (by rw[e5,en];rfl) H6 (s5.trans s6)
   ·rintro σ H5 ⟨vs,p',v3,rfl,r9,s5,FA,xc,FC,J5,e5⟩
    have r9:vs.length=5:=r9
    have e6:cU l fE q.2=.ok (vs,p'):=by
     rw[e5]
     show Except.ok (vs++[],p')=_
     rw[f8]
    rw[e6,bZ] at k
    have x5:=x.same s5 FA xc
    refine eS (iF rfl qE b10 x5 (λj ej H' s'=>by rw[ej] at k;exact k H' (s5.trans s')) λp7 ew H7 x7 s7=>?_)
    rw[ew,bZ] at k
    have FE:H7 nb=some (.lst ((q.1::vs).map zC)):=s7 _ _ FC zc
    have FG:=s5.trans s7
    refine⟨_,rfl,nb,_,rfl,.inl ⟨cP.of FE,λt ht=>?_⟩⟩
    have ST:=aK.new (o:=.tup ((q.1::vs).map zC)) ht
    obtain⟨FF,g7⟩:=x7.rd
    have BN:t≠r:=λz=>by rw[z,g7] at ht;cases ht
    refine k _ t (x.same (FG.trans (aK.sx ST)) ⟨FF,ST _ _ g7⟩ x7.le) (FG.trans (aK.sx ST)) ?_ aC (by rw[bn,r9])
    cases z:H t with
    |none=>rfl
    |some o=>
     have:=FG t o z BN
     rw[ht] at this
     cases this
end
def cF(ag:List (List Int))(l:List Int):Nat->Nat->Except Nat (List (List Nat)×Nat)
 |0,p=>.ok ([],p)
 |n+1,p=>if p=l.length then .ok ([],p) else eG (eQ ag l p) λq=>gG q.1 (cF ag l n q.2)
def dH(ag:List (List Int))(l:List Int):Except Nat (List Int×List (List Nat)):=
 eG (aU l 0 [98,117,105,108,100,32]) λp1=>eG (gE l p1 16) λnm=>eG (aU l nm.2 [10]) λp3=>eG (cF ag l 256 p3) λr=>if r.2=l.length then .ok (nm.1,r.1) else .error r.2
theorem Ip:("build ":Str).cps.toList=[98,117,105,108,100,32]:=by decide+kernel
def oB(H:Hp)(ts:List Addr)(ls:List (List Nat)):Prop:=Paired (λt x=>H t=some (.tup (x.map zC))/\x.length=6) ts ls
def BdF(na la:Addr):List (Str×V):=[("name",.ref na),("lines",.ref la)]
structure BdT(K:PySem.W.Frag)(CB:Addr):Prop where
 cl:Gf K CB
 n1:dC K CB "name"
 n2:dC K CB "lines"
def xU(CB:Addr)(H:Hp)(q:Addr)(nm:List Int)(ls:List (List Nat)):Prop:=∃(dx na la:Addr)(ts:List Addr),H q=some (.ins CB dx (BdF na la))/\H na=some (.tup (nm.map V.int))/\H la=some (.lst (ts.map V.ref))/\oB H ts ls/\ls.length<=256/\nm.length<=16
section
variable {P:Program} {w:World} {K:PySem.W.Frag} {mg:Str->Option Value} {base:Heap} {C CR CP CB:Addr}
theorem oB.keep{H H':Hp}{ts:List Addr}{ls:List (List Nat)}(h:oB H ts ls)(s:∀b xs,H b=some (.tup xs)->H' b=some (.tup xs)):oB H' ts ls:=Paired.mapP h λt x e=>⟨s _ _ e.1,e.2⟩
theorem xU.same{H H':Hp}{q:Addr}{nm:List Int}{ls:List (List Nat)}(h:xU CB H q nm ls)(s:aK H H'):xU CB H' q nm ls:=by
 obtain⟨dx,na,la,ts,h1,h2,h3,h4,h5⟩:=h
 exact⟨dx,na,la,ts,s _ _ h1,s _ _ h2,s _ _ h3,h4.keep λb xs e=>s _ _ e,h5⟩
def Sv(CB:Addr):Sp:=λvs H Q _=>∃(r dx na la:Addr),vs=[.ref r,.ref na,.ref la]/\H r=some (.ins CB dx [])/\∀H':Hp,H' r=some (.ins CB dx (BdF na la))->SX r H H'->Q .non H'
theorem aA5:aQ ["self","name","lines"] ["self","name","lines"] (aH uL):=⟨rfl,rfl,rfl,by decide+kernel,rfl,by decide+kernel,by decide+kernel⟩
theorem aAc{f:Addr}{fd:FuncData}(F:fH K "__init__" "Build.__init__" uL f fd)(T:BdT K CB):bT P w K mg base bU 1 f fd ["self","name","lines"] (Sv CB):=by
 refine F.ok aA5 (λvs H Q E h=>?_) (λai A outer s H vs Q E hr h=>?_)
 ·obtain⟨r,dx,na,la,rfl,_⟩:=h
  rfl
 ·obtain⟨r,dx,na,la,rfl,hp,k⟩:=h
  refine⟨_,aE (dS (pv 0) (pv 1) rfl) (aG (dS (pv 0) (pv 2) rfl)),?_⟩
  refine⟨_,rfl,_,rfl,r,CB,dx,_,rfl,hp,T.cl,T.n1,(by show 0<1000;decide),?_⟩
  refine⟨_,rfl,_,rfl,r,CB,dx,_,rfl,aC,T.cl,T.n2,(by show 1<1000;decide),?_⟩
  exact k _ aC λb o e hb=>by rw[aB hb,aB hb];exact e
structure BdM(P:Program)(w:World)(K:PySem.W.Frag)(mg:Str->Option Value)(base:Heap)(CB:Addr):Prop where
 ex:∃f fd,Mk K CB f/\bT P w K mg base bU 1 f fd ["self","name","lines"] (Sv CB)/\eY K fd ["self","name","lines"] []
 mg:mg "Build"=some (.ref CB)
theorem Dc{H:Hp}{r a:Addr}{l:List Int}{p j:Nat}{x:Str}{cs:List Nat}{D:fY}{σ:List (Option V)}{E:XK}(js:σ[j]?=some (some (.ref r)))(hx:x.cps.toList=cs)(jf:∀c∈cs,c<256)(tx:jU K CR H r a l p)
  (k2:∀i,aU l p cs=.error i->∀H',SX r H H'->E (.int i 0) none H') (k1:∀p',aU l p cs=.ok p'->∀H',jU K CR H' r a l p'->SX r H H'->D.nx σ H'):yZ (mH CR "read_word" (lD K CR) [] E (eF j) (eR (tC (.str x)) gY)) D σ H:=by
 obtain⟨⟨dx,h1⟩,_,_⟩:=id tx
 exact⟨_,js,r,dx,_,rfl,h1,rfl,yK (Q:=λ_ H1=>D.nx σ H1) hx jf tx (λp' e H' x' s'=>k1 p' e H' x' s') k2⟩
theorem Qv{H:Hp}{r a:Addr}{l:List Int}{p L j i:Nat}{D:fY}{σ:List (Option V)}{E:XK}(js:σ[j]?=some (some (.ref r)))(tx:jU K CR H r a l p)(hL:L<=1000)(k2:gE l p L=.error p->E (.int p 0) none H)
  (k1:∀v:List Int×Nat,gE l p L=.ok v->∀(H':Hp)(q:Addr),jU K CR H' r a l v.2->SX r H H'->H' q=some (.tup (v.1.map V.int))->v.1.length<=L->D.nx (σ.set i (some (.ref q))) H'):
  Cn (mH CR "read_name" (oW K CR) [] E (eF j) (eR (tC (.int L)) gY)) (mG i) D σ H:=by
 obtain⟨⟨dx,h1⟩,_,_⟩:=id tx
 exact⟨_,js,r,dx,_,rfl,h1,rfl,zK (Q:=λy H1=>D.nx (σ.set i (some y)) H1) tx hL (λv e H' q x' s' g1 g2=>k1 v e H' q x' s' g1 g2) k2⟩
def uE(K:PySem.W.Frag)(CB:Addr):Sp:=λvs H Q E=>∃(a na:Addr)(l:List Int) (ag:List (List Int)),vs=[.ref a,.ref na]/\cP K H a (l.map V.int)/\Xi K H na ag/\
 match dH ag l with
 |.ok b=>∀(H':Hp)(q:Addr),aK H H'->xU CB H' q b.1 b.2->Q (.ref q) H'
 |.error i=>∀H':Hp,aK H H'->E (.int i 0) none H'
theorem qQ:aQ ["b","names","reader","name","lines"] ["b","names"] (aH lI):=⟨rfl,rfl,rfl,by decide+kernel,rfl,by decide+kernel,by decide+kernel⟩
def aCm(CR:Addr)(H:Hp)(r a na qn q:Addr)(nm:List Int)(ag:List (List Int))(l:List Int)(p0 m:Nat)(σ:List (Option V))(H':Hp):Prop:=
 ∃(ls:List (List Nat)) (ts:List Addr) (p':Nat),σ=[some (.ref a),some (.ref na),some (.ref r),some (.ref qn),some (.ref q)]/\H' qn=some (.tup (nm.map V.int))/\ls.length+m=256/\p'<=l.length/\aK H H'/\iG CR H' r a p'/\H' q=some (.lst (ts.map V.ref))/\
  oB H' ts ls/\cF ag l 256 p0=fV ls (cF ag l m p')
theorem Te{f:Addr}{fd:FuncData}(F:fH K "read_build" "read_build" lI f fd)(T:Gh K CR)(RK:RdK P w K mg base CR)(BM:BdM P w K mg base CB)(ax:mg "len"=none)(c1:CI mg "LONGEST_BUILD_NAME" 16)(c2:CI mg "MOST_LINES" 256)
  (M1:nI P w K mg base CR "ended" bU 1 ["self"] (oG K CR)) (M2:nI P w K mg base CR "read_end" (iX C P w) 3 ["self"] (yO K CR)) (M3:nI P w K mg base CR "read_word" (iX C P w) 5 ["self","word"] (lD K CR))
  (M4:nI P w K mg base CR "read_name" (iX C P w) 4 ["self","longest"] (oW K CR)) (L1:dL P w K mg base "read_line" (iX C P w) 6 ["reader","names"] (Hf K CR)):bT P w K mg base (iX C P w) 7 f fd ["b","names"] (uE K CB):=by
 obtain⟨fb,UU,MB,GB,bB⟩:=BM.ex
 obtain⟨f1,m6,m1,G1,b1⟩:=M1.ex
 obtain⟨f2,uu,m2,G2,b2⟩:=M2.ex
 obtain⟨f3,JJ,m3,G3,b3⟩:=M3.ex
 obtain⟨f4,UV,m4,G4,b4⟩:=M4.ex
 obtain⟨g1,gh,GP,bP,kP,hP⟩:=L1.ex
 obtain⟨fr,fdr,MR,GR,bR⟩:=RK.ex
 refine F.okX qQ (λvs H Q E h=>?_) (λai A outer s H vs Q E hr h=>?_)
 ·obtain⟨a,na,l,ag,rfl,_⟩:=h
  rfl
 ·obtain⟨a,na,l,ag,rfl,tx,hn,k⟩:=h
  have i7:=hr.mono (j:=5) (by decide)
  have gv:=hr.mono (j:=4) (by decide)
  have ig:=hr.mono (j:=3) (by decide)
  have ay:=hr.mono (j:=2) (by decide)
  have a7:=hr.mono (j:=1) (by decide)
  refine⟨_,aE (aZ (i:=2) qQ.nd rfl (Or.inl rfl) (qK MR GR ay (by rfl) RK.mg bR .nil aY (aA (pv 0) aF)))
   (aE (cA (cX (pv 2) T.cl m3 G3 i7 b3 .nil aN.pass (aA gM aF)))
   (aE (aZ (i:=3) qQ.nd rfl (Or.inl rfl) (cX (pv 2) T.cl m4 G4 gv b4 .nil aN.pass (aA (eV c1) aF)))
   (aE (cA (cX (pv 2) T.cl m3 G3 i7 b3 .nil aN.pass (aA gM aF)))
   (aE (aZ (i:=4) qQ.nd rfl (Or.inl rfl) (dU aF))
   (aE (iQ aN.own (gA (dE (Ix (bK bI (by rfl) ax PySem.boot_len (aA (pv 4) aF)) (eV c2))) (gP (kX (dY (cB (pv 2) T.cl m1 G1 a7 b1 .nil aY))))).pt
    (aG (cA (mW PySem.F.plainAttrs_list PySem.F.slot_list_append PySem.F.type_list_append eM (pv 4) (aA (aT GP hr (by rfl) hP kP bP .nil aN.pass (aA (pv 2) (aA (pv 1) aF))) aF)))))
   (aE (cA (cB (pv 2) T.cl m2 G2 ig b2 .nil aN.pass))
   (aG (aW (qK MB GB ay (by rfl) BM.mg bB .nil aY (aA (pv 3) (aA (pv 4) aF))))))))))),?_⟩
  refine⟨_,rfl,λr dr nr ndr ndrr=>?_⟩
  refine⟨r,dr,a,rfl,aC,λH1 a7 s1=>⟨rfl,?_⟩⟩
  have S1:aK H H1:=λy o e=>s1 y o (by rw[aB (aD e nr),aB (aD e ndr)];exact e) (aD e nr)
  have x1:jU K CR H1 r a l 0:=⟨a7,S1.seq tx,da _⟩
  have rn:∀{H2:Hp},SX r H1 H2->aK H H2:=λs2 y o e=>s2 y o (S1 y o e) (aD e nr)
  unfold dH at k
  refine eS (Dc rfl Ip (by decide) x1 (λi e1 H' s'=>by rw[e1] at k;exact k H' (rn s')) λp1 e1 H2 x2 s2=>?_)
  rw[e1,bZ] at k
  refine eS (Qv (L:=16) rfl x2 (by decide) (λe2=>by rw[e2] at k;exact k _ (rn s2)) λnm e2 H3 qn x3 s3 Q0 xa=>?_)
  rw[e2,bZ] at k
  have s3:=s2.trans s3
  refine eS (Dc rfl qE b10 x3 (λi e3 H' s'=>by rw[e3] at k;exact k H' (rn (s3.trans s'))) λp4 e3 H4 x4 s4=>?_)
  rw[e3,bZ] at k
  have Q1:=s4.tup x3.rd Q0
  have s4:=s3.trans s4
  have S4:=rn s4
  refine⟨da _,λq hq=>?_⟩
  have sq:=aK.new (o:=.lst []) hq
  have EH:H q=none:=S4.free hq
  obtain⟨y4,g4⟩:=x4.rd
  have lz:r≠q:=λz=>by rw[z,hq] at g4;cases g4
  refine⟨λm=>aCm CR H r a na qn q nm.1 ag l p4 m,⟨256,[],[],p4,rfl,sq _ _ Q1,rfl,x4.le,S4.trans sq,⟨y4,sq _ _ g4⟩,aC,.nil,by rw[kR]⟩,?_⟩
  rintro m σ H5 ⟨ls,ts,p',rfl,J7,hm,lp,S5,i7,xb,pp,e5⟩
  have x5:jU K CR H5 r a l p':=⟨i7,S5.seq tx,lp⟩
  obtain⟨J8,g5⟩:=id i7
  have u6:ts.length=ls.length:=Paired.length pp
  have fin:cF ag l m p'=.ok ([],p')->Cu (yZ (mH CR "read_end" (yO K CR) [] E (eF 2) gY)) (Zx (Jv CB (Sv CB) [] E0 (eR (eF 3) (eR (eF 4) gY)))) {nx:=λ_ H'=>Q .non H',rt:=Q} [some (.ref a),some (.ref na),some (.ref r),some (.ref qn),some (.ref q)] H5:=by
   intro e6
   have e7:cF ag l 256 p4=.ok (ls,p'):=by
    rw[e5,e6]
    show Except.ok (ls++[],p')=_
    rw[f8]
   rw[e7,bZ] at k
   refine⟨_,rfl,r,J8,_,rfl,g5,rfl,r,a,l,p',rfl,x5,λhe=>⟨_,rfl,_,rfl,λb' db zd Q3 UW=>⟨b',db,qn,q,rfl,aC,λH6 J9 s6=>⟨rfl,?_⟩⟩⟩,λhe=>?_⟩
   ·have he:p'=l.length:=he
    rw[ac he] at k
    have S6:aK H5 H6:=λy o e=>s6 y o (by rw[aB (aD e zd),aB (aD e Q3)];exact e) (aD e zd)
    exact k H6 b' (S5.trans S6) ⟨db,qn,q,ts,J9,S6 _ _ J7,S6 _ _ xb,pp.keep λy xs e=>S6 _ _ e,(by show ls.length<=256;(clear he u6 lp;omega)),xa⟩
   ·have he:¬p'=l.length:=he
    rw[aa he] at k
    exact k H5 S5
  refine⟨_,rfl,q,_,rfl,.inl (cP.of xb),_,_,rfl,rfl,_,rfl,bY (λaj=>?_) (λaj=>pO (fin ?_))⟩
  ·have aj:((ts.map V.ref).length:Int)<256:=dq aj
   rw[ah] at aj
   obtain⟨n,rfl⟩:∃n,m=n+1:=⟨m - 1,by (clear lp;omega)⟩
   refine⟨_,rfl,r,J8,_,rfl,g5,rfl,r,a,l,p',rfl,x5,_,rfl,bY (λak=>?_) (λak=>fin ?_)⟩
   ·rw[ck,j0] at ak
    refine⟨aCm CR H r a na qn q nm.1 ag l p4 n,λ_ _ z=>⟨n,jl n,z⟩,?_⟩
    have rj:Xi K H5 na ag:=by
     obtain⟨⟨xs,h1,h2⟩,h3⟩:=hn
     exact⟨⟨xs,S5.seq h1,oP.same h2 S5⟩,h3⟩
    refine⟨_,rfl,.inl ⟨rfl,_,cP.of xb⟩,_,rfl,_,rfl,r,a,na,l,p',ag,rfl,x5,rj,?_⟩
    have e6:cF ag l (n+1) p'=eG (eQ ag l p') λq=>gG q.1 (cF ag l n q.2):=aa ak
    cases e7:eQ ag l p' with
    |error i=>
     intro H' s'
     have e8:cF ag l 256 p4=.error i:=by
      rw[e5,e6,e7]
      rfl
     rw[e8] at k
     exact k H' λy o e=>s' y o (S5 y o e) (aD e nr)
    |ok q1=>
     intro H6 t x6 s6 nt ht h6
     have BJ:H6 q=some (.lst (ts.map V.ref)):=s6 _ _ xb (ao lz)
     have bw:=bJ
     refine⟨q,_,_,rfl,rfl,BJ,?_,?_⟩
     ·rw[ah]
      (clear h6 ak hm u6 lp;omega)
     ·obtain⟨FD,g6⟩:=x6.rd
      have tupk:∀b xs,H6 b=some (.tup xs)->upd H6 q (.lst (ts.map V.ref++[V.ref t])) b=some (.tup xs):=λb xs e=>by
       rw[aB (λz=>by rw[z,BJ] at e;cases e)]
       exact e
      refine⟨ls++[q1.1],ts++[t],q1.2,rfl,tupk _ _ (s6.tup i7 J7),by simp;(clear bw h6 ak aj u6 lp;omega),x6.le,λy o e=>?_,⟨FD,by rw[aB lz];exact g6⟩,by rw[aC,cp];rfl,?_,?_⟩
      ·rw[aB (aD e EH)]
       exact s6 y o (S5 y o e) (aD e nr)
      ·refine Paired.snoc ((pp.keep (H':=H6) λb xs e=>s6.tup i7 e).keep tupk) ⟨tupk _ _ ht,h6⟩
      ·rw[e5,e6,e7,bZ,iR]
   ·rw[ck,j0,xz] at ak
    exact ac ak
  ·have aj:¬((ts.map V.ref).length:Int)<256:=λz=>aj (cn z)
   rw[ah] at aj
   rw[show m=0 by (clear lp;omega)]
   rfl
end
theorem tF{l:List Int}:∀{n p:Nat},(256:Int)∉bE l p n
 |0,p=>by simp[bE]
 |n+1,p=>by
  rw[bE]
  split
  ·rename_i h
   intro z
   rcases aw.mp z with z|z
   ·rw[<-z] at h
    revert h
    decide
   ·exact tF z
  ·simp
theorem aL{α β:Type}{r:Except Nat α}{f:α->Except Nat β}{b:β}(h:eG r f=.ok b):∃a,r=.ok a/\f a=.ok b:=by
 cases r with
 |error i=>cases h
 |ok a=>exact⟨a,rfl,h⟩
theorem Na{l:List Int}{p L:Nat}{v:List Int×Nat}(h:gE l p L=.ok v):(256:Int)∉v.1:=by
 unfold gE at h
 split at h
 ·cases h
  exact tF
 ·cases h
theorem Cs{l:List Int}{p:Nat}{q:aM×Nat}(h:dN l p=.ok q):(256:Int)∉q.1.name:=by
 unfold dN at h
 obtain⟨p1,_,h⟩:=aL h
 obtain⟨nm,e,h⟩:=aL h
 have hn:=Na e
 obtain⟨_,_,h⟩:=aL h
 obtain⟨_,_,h⟩:=aL h
 obtain⟨_,_,h⟩:=aL h
 obtain⟨_,_,h⟩:=aL h
 obtain⟨_,_,h⟩:=aL h
 obtain⟨_,_,h⟩:=aL h
 obtain⟨_,_,h⟩:=aL h
 obtain⟨_,_,h⟩:=aL h
 obtain⟨_,_,h⟩:=aL h
 obtain⟨_,_,h⟩:=aL h
 cases h
 exact hn
theorem fP{α:Type}{x:α}{r:Except Nat (List α×Nat)}{q:List α×Nat}(h:gG x r=.ok q):∃q',r=.ok q'/\q=(x::q'.1,q'.2):=by
 cases r with
 |error i=>cases h
 |ok q'=>cases h;exact⟨q',rfl,rfl⟩
theorem zX{l:List Int}:∀{n p:Nat}{q:List aM×Nat},cM l n p=.ok q->∀pr∈q.1,(256:Int)∉pr.name
 |0,p,q,h=>by cases h;intro pr hp;cases hp
 |n+1,p,q,h=>by
  rw[cM] at h
  split at h
  ·cases h;intro pr hp;cases hp
  ·obtain⟨q1,e1,h⟩:=aL h
   obtain⟨q2,e2,rfl⟩:=fP h
   intro pr hp
   rcases aw.mp hp with rfl|hp
   ·exact Cs e1
   ·exact zX e2 pr hp
theorem Wc{l:List Int}{prs:List aM}(h:hX l=.ok prs):∀pr∈prs,(256:Int)∉pr.name:=by
 unfold hX at h
 obtain⟨q,e1,h⟩:=aL h
 obtain⟨r,e2,h⟩:=aL h
 split at h
 ·cases h
  intro pr hp
  rcases aw.mp hp with rfl|hp
  ·exact Cs e1
  ·exact zX e2 pr hp
 ·cases h
def Ev(rf ft:Int)(pa:Addr)(bv rv:V):List (Str×V):=[("refusal",.int rf),("fault",.int ft),("parts",.ref pa),("build",bv),("room",rv)]
structure GvT(K:PySem.W.Frag)(CG:Addr):Prop where
 cl:Gf K CG
 n1:dC K CG "refusal"
 n2:dC K CG "fault"
 n3:dC K CG "parts"
 n4:dC K CG "build"
 n5:dC K CG "room"
inductive Vn
 |no (n:Int)
 |bad (i:Nat)
 |ok (prs:List aM) (nm:List Int) (ls:List (List Nat))
def dB(lc lb:List Int):Vn:=if 1048576<lc.length\/16384<lb.length then .no (-2) else match hX lc with
 |.error _=>.no (-6)
 |.ok prs=>if mP prs=true then (match dH (prs.map (·.name)) lb with
  |.error i=>.bad i
  |.ok b=>.ok prs b.1 b.2) else .no (-8)
def Ss(CG CP CB:Addr)(H:Hp)(g:Addr):Vn->Prop
 |.no n=>∃dx pa,H g=some (.ins CG dx (Ev n 0 pa .non .non))
 |.bad i=>∃dx pa,H g=some (.ins CG dx (Ev (-5) i pa .non .non))
 |.ok prs nm ls=>∃dx pa q bs,H g=some (.ins CG dx (Ev 0 0 pa (.ref q) .non))/\H pa=some (.lst (bs.map V.ref))/\eC CP H bs prs/\xU CB H q nm ls/\1<=prs.length/\prs.length<=64
section
variable {P:Program} {w:World} {K:PySem.W.Frag} {mg:Str->Option Value} {base:Heap} {C CR CP CB CG:Addr}
def Gy(CG:Addr):Sp:=λvs H Q _=>∃(r dx pa:Addr)(rf ft:Int)(bv:V),vs=[.ref r,.int rf,.int ft,.ref pa,bv]/\H r=some (.ins CG dx [])/\∀H':Hp,H' r=some (.ins CG dx (Ev rf ft pa bv .non))->SX r H H'->Q .non H'
theorem Vs:aQ ["self","refusal","fault","parts","build"] ["self","refusal","fault","parts","build"] (aH uR):=⟨rfl,rfl,rfl,by decide+kernel,rfl,by decide+kernel,by decide+kernel⟩
theorem Wj{f:Addr}{fd:FuncData}(F:fH K "__init__" "Given.__init__" uR f fd)(T:GvT K CG):yW P w K mg base bU 1 f fd ["self","refusal","fault","parts","build"] (Gy CG):=by
 refine F.okN Vs (λvs H Q E h=>?_) (λai A outer s H vs Q E hr h=>?_)
 ·obtain⟨r,dx,pa,rf,ft,bv,rfl,_⟩:=h
  rfl
 ·obtain⟨r,dx,pa,rf,ft,bv,rfl,hp,k⟩:=h
  refine⟨_,aE (dS (pv 0) (pv 1) rfl) (aE (dS (pv 0) (pv 2) rfl) (aE (dS (pv 0) (pv 3) rfl) (aE (dS (pv 0) (pv 4) rfl) (aG (dS (pv 0) vP rfl))))),?_⟩
  refine⟨_,rfl,_,rfl,r,CG,dx,_,rfl,hp,T.cl,T.n1,(by show 0<1000;decide),?_⟩
  refine⟨_,rfl,_,rfl,r,CG,dx,_,rfl,aC,T.cl,T.n2,(by show 1<1000;decide),?_⟩
  refine⟨_,rfl,_,rfl,r,CG,dx,_,rfl,aC,T.cl,T.n3,(by show 2<1000;decide),?_⟩
  refine⟨_,rfl,_,rfl,r,CG,dx,_,rfl,aC,T.cl,T.n4,(by show 3<1000;decide),?_⟩
  refine⟨_,rfl,r,CG,dx,_,rfl,aC,T.cl,T.n5,(by show 4<1000;decide),?_⟩
  exact k _ aC λb o e hb=>by rw[aB hb,aB hb,aB hb,aB hb,aB hb];exact e
structure GvM(P:Program)(w:World)(K:PySem.W.Frag)(mg:Str->Option Value)(base:Heap)(CG:Addr):Prop where
 ex:∃f fd,Mk K CG f/\yW P w K mg base bU 1 f fd ["self","refusal","fault","parts","build"] (Gy CG)/\eY K fd ["self","refusal","fault","parts","build"] []
 mg:mg "Given"=some (.ref CG)
def Ua(H:Hp)(D:Addr)(prs:List aM):Prop:=∃qs:List Addr,H D=some (.lst (qs.map V.ref))/\Paired (λq pr=>H q=some (.tup (pr.name.map V.int))) qs prs
def qY(K:PySem.W.Frag)(CP:Addr):Sp:=λvs H Q _=>∃(pa:Addr)(bs:List Addr)(prs:List aM),vs=[.ref pa]/\cP K H pa (bs.map V.ref)/\eC CP H bs prs/\prs.length<=64/\∀(H':Hp)(D:Addr),aK H H'->H D=none->Ua H' D prs->Q (.ref D) H'
theorem xC:aQ ["parts","part"] ["parts"] (aH nF):=⟨rfl,rfl,rfl,by decide+kernel,rfl,by decide+kernel,by decide+kernel⟩
theorem Sa{f:Addr}{fd:FuncData}(F:fH K "names_of" "names_of" nF f fd)(T':Nn K CP):bT P w K mg base bU 1 f fd ["parts"] (qY K CP):=by
 refine F.ok xC (λvs H Q E h=>?_) (λai A outer s H vs Q E hr h=>?_)
 ·obtain⟨pa,bs,prs,rfl,_⟩:=h
  rfl
 ·obtain⟨pa,bs,prs,rfl,c8,d3,px,k⟩:=h
  refine⟨_,aG (aW (Ga (own:=[("part",1)]) (te:=Le K (eF 1) "name") rfl xC.nd (nV (pv 0)) (gU (N:=["parts","part"]) (sc:=aH nF) (by decide+kernel))
   (λ_ _ _ _ _=>bH (i:=1) xC.nd rfl (Or.inl rfl)) (λ_ _ _ _ _=>lO) (λ_ _ _ _ _=>aO (pv 1) rfl))),?_⟩
  have gx:bs.length=prs.length:=Paired.length d3
  have bw:=bJ
  refine⟨_,rfl,pa,rfl,⟨_,c8⟩,λDl f6=>?_⟩
  refine uK (xs:=bs.map V.ref) (λi H'=>aK H H'/\∃qs,H' Dl=some (.lst (qs.map V.ref))/\Paired (λq pr=>H q=some (.tup (pr.name.map V.int))) qs (prs.take i)) ⟨aK.new f6,[],aC,.nil⟩ (λi H' _ z=>z.1.seq c8) ?_ ?_
  ·rintro i x H3 ex ⟨S3,qs,nz,pq⟩
   have hi:i<prs.length:=by
    have:=(bh.mp ex).1
    rwa [ah,gx] at this
   obtain⟨pr,ep⟩:∃pr,prs[i]?=some pr:=⟨_,ba hi⟩
   obtain⟨b',eb,ze,po⟩:=cH d3 ep
   rw[bf,eb] at ex
   cases ex
   obtain⟨dx,nm,cc,f1,f2,f3⟩:=ze
   have Q4:qs.length=(prs.take i).length:=Paired.length pq
   rw[ij] at Q4
   refine⟨rfl,_,rfl,b',CP,dx,_,_,rfl,S3 _ _ f1,T'.cl,T'.n1,rfl,_,nz,by rw[ah];(clear hi gx;omega),λy o e=>?_,qs++[nm],by rw[aC,cp];rfl,?_⟩
   ·rw[aB (aD e f6)]
    exact S3 _ _ e
   ·rw[i3,ep]
    exact Paired.snoc pq f2
  ·rintro H3 ⟨S3,qs,nz,pq⟩
   rw[ah,gx,ik] at pq
   exact k H3 Dl S3 f6 ⟨qs,nz,Paired.mapP pq λq pr e=>S3 _ _ e⟩
def Bb(K:PySem.W.Frag)(CG CP CB:Addr):Sp:=λvs H Q _=>∃(c b:Addr)(lc lb:List Int),vs=[.ref c,.ref b]/\cP K H c (lc.map V.int)/\cP K H b (lb.map V.int)/\∀(H':Hp)(g:Addr),aK H H'->H g=none->Ss CG CP CB H' g (dB lc lb)->Q (.ref g) H'
theorem pT:aQ ["c","b","parts","build","e"] ["c","b"] (aH iP):=⟨rfl,rfl,rfl,by decide+kernel,rfl,by decide+kernel,by decide+kernel⟩
theorem Dm{H:Hp}{n ft:Int}{Q:V->Hp->Prop}(k:∀(H':Hp)(g:Addr),aK H H'->H g=none->(∃dx pa,H' g=some (.ins CG dx (Ev n ft pa .non .non)))->Q (.ref g) H'):
  ∀l1,H l1=none->∀x dx,upd H l1 (.lst []) x=none->upd H l1 (.lst []) dx=none->dx≠x->
   Gy CG [.ref x,.int n,.int ft,.ref l1,.non] (upd (upd (upd H l1 (.lst [])) dx (.own x)) x (.ins CG dx [])) (λv H2=>v=.non/\Q (.ref x) H2) E0:=by
 intro l1 h1 x dx hx pj ak
 have S:aK H (upd H l1 (.lst [])):=aK.new h1
 refine⟨x,dx,l1,n,ft,.non,rfl,aC,λH' hg s=>⟨rfl,k H' x (λb o e=>?_) (S.free hx) ⟨dx,l1,hg⟩⟩⟩
 have e2:=S b o e
 exact s b o (by rw[aB (aD e2 hx),aB (aD e2 pj)];exact e2) (aD e2 hx)
theorem Pq{f:Addr}{fd:FuncData}(F:fH K "read_given" "read_given" iP f fd)(GM:GvM P w K mg base CG)(S:Zn P w K mg base C)(ax:mg "len"=none)(c1:CI mg "MOST_CATALOGUE_BYTES" 1048576)(c2:CI mg "MOST_BUILD_BYTES" 16384)
  (L1:dL P w K mg base "read_catalogue" (iX C P w) 8 ["c"] (Ks K CP)) (L2:dL P w K mg base "catalogue_right" bU 5 ["parts"] (pI K CP)) (L3:dL P w K mg base "read_build" (iX C P w) 7 ["b","names"] (uE K CB)) (L4:dL P w K mg base "names_of" bU 1 ["parts"] (qY K CP)):
  bT P w K mg base bU 9 f fd ["c","b"] (Bb K CG CP CB):=by
 obtain⟨g1,gh,G1,b1,k1,h1⟩:=L1.ex
 obtain⟨g2,ku,G2,b2,k2,h2⟩:=L2.ex
 obtain⟨g3,zb,G3,b3,k3,h3⟩:=L3.ex
 obtain⟨g4,E6,G4,b4,k4,h4⟩:=L4.ex
 obtain⟨fg,UX,MG,GG,bG⟩:=GM.ex
 obtain⟨fx,yr,XT,GX,bx⟩:=S.ex
 refine F.ok pT (λvs H Q E h=>?_) (λai A outer s H vs Q E hr h=>?_)
 ·obtain⟨c,b,lc,lb,rfl,_⟩:=h
  rfl
 ·obtain⟨c,b,lc,lb,rfl,hc,hb,k⟩:=h
  have Q5:=hr.mono (j:=7) (by decide)
  have i7:=hr.mono (j:=5) (by decide)
  have a7:=hr.mono (j:=1) (by decide)
  have ay:iA 2 (A.deeper (envOfC "read_given" (aH iP) s.heap.objs.size f ai)):=(hr.mono (j:=2) (by decide)).n
  refine⟨_,aE (dZ (Kx (dE (qM (bK bI (by rfl) ax PySem.boot_len (aA (pv 0) aF)) (eV c1))) (Bm (dE (qM (bK bI (by rfl) ax PySem.boot_len (aA (pv 1) aF)) (eV c2))))).pt
    (aG (aW (mJ MG GG ay (by rfl) GM.mg bG (aA (Eu vS aJ) (aA aJ (aA (dU aF) (aA vP aF))))))) bX)
   (aE (aAl (tb:=λE'=>Cn (Ej (Ks K CP) [] E' (eR (eF 0) gY)) (mG 2)) XT rfl rfl (by rfl) S.mg (λxe pn E' hP=>aG (aZ (i:=2) pT.nd rfl (Or.inl rfl) (aT G1 hr (by rfl) h1 k1 b1 .nil hP (aA (pv 0) aF))))
    (λea=>aG (aW (mJ MG GG (ay.mark _) (by rfl) GM.mg bG (aA (Eu vS aJ) (aA aJ (aA (dU aF) (aA vP aF))))))))
   (aE (dZ (kX (dY (aT G2 i7 (by rfl) h2 k2 b2 .nil aY (aA (pv 2) aF)))) (aG (aW (mJ MG GG ay (by rfl) GM.mg bG (aA (Eu vS aJ) (aA aJ (aA (dU aF) (aA vP aF))))))) bX)
   (aE (Pa (i:=4) (tb:=λE'=>Cn (Ej (uE K CB) [] E' (eR (eF 1) (eR (Ej (qY K CP) [] E0 (eR (eF 2) gY)) gY))) (mG 3)) XT rfl rfl (by rfl) S.mg pT.nd rfl rfl
     (λxe pn E' hP=>aG (aZ (i:=3) pT.nd rfl (Or.inl rfl) (aT G3 Q5 (by rfl) h3 k3 b3 .nil hP (aA (pv 1) (aA (aT G4 a7 (by rfl) h4 k4 b4 .nil aY (aA (pv 2) aF)) aF)))))
     (λea=>aG (aW (mJ MG GG (ay.mark _) (by rfl) GM.mg bG (aA (Eu vS aJ) (aA (Vr XT (pv 4) rfl) (aA (dU aF) (aA vP aF))))))))
   (aG (aW (mJ MG GG ay (by rfl) GM.mg bG (aA aJ (aA aJ (aA (pv 2) (aA (pv 3) aF)))))))))),?_⟩
  have no:∀(n:Int)(H1:Hp),aK H H1->dB lc lb=.no n->∀(H':Hp)(g:Addr),aK H1 H'->H1 g=none->(∃dx pa,H' g=some (.ins CG dx (Ev n 0 pa .non .non)))->Q (.ref g) H':=λn H1 S1 e H' g S2 fg hg=>by
   have kk:=k H' g (S1.trans S2) (S1.free fg)
   rw[e] at kk
   exact kk hg
  refine⟨_,rfl,c,_,rfl,.inl hc,_,_,rfl,rfl,_,rfl,bY (λe1=>Rs ?_) (λe1=>⟨_,rfl,b,_,rfl,.inl hb,_,_,rfl,rfl,_,rfl,bY (λe2=>?_) (λe2=>?_)⟩)⟩
  ·have e1:(1048576:Int)<((lc.map V.int).length:Int):=dq e1
   rw[ah] at e1
   have e3:dB lc lb=.no (-2):=ac (.inl (by omega))
   exact⟨_,rfl,da _,λl1 n1=>Dm (no (-2) H (aK.id' _) e3) l1 n1⟩
  ·have e2:(16384:Int)<((lb.map V.int).length:Int):=dq e2
   rw[ah] at e2
   have e3:dB lc lb=.no (-2):=ac (.inr (by (clear e1;omega)))
   exact⟨_,rfl,da _,λl1 n1=>Dm (no (-2) H (aK.id' _) e3) l1 n1⟩
  ·have e1:¬(1048576:Int)<((lc.map V.int).length:Int):=λz=>e1 (cn z)
   have e2:¬(16384:Int)<((lb.map V.int).length:Int):=λz=>e2 (cn z)
   rw[ah] at e1 e2
   have e3:¬(1048576<lc.length\/16384<lb.length):=by omega
   unfold dB at k no
   rw[aa e3] at k no
   refine⟨_,rfl,c,lc,rfl,hc,?_⟩
   cases ec:hX lc with
   |error i=>
    intro H1 S1 ae js
    refine⟨_,rfl,da _,λl1 n1=>Dm (no (-6) H1 S1 (by rw[ec])) l1 n1⟩
   |ok prs=>
    intro H1 pa bs S1 c8 d3 px jk
    rw[ec] at k no
    refine⟨_,rfl,pa,bs,prs,rfl,cP.of c8,d3,jk,px,λH2 S2=>⟨_,rfl,bY (λe4=>?_) (λe4=>?_)⟩⟩
    ·rw[ck] at e4
     exact⟨_,rfl,da _,λl1 n1=>Dm (no (-8) H2 (S1.trans S2) (by show (if mP prs=true then _ else _)=_;rw[aa (by rw[e4];decide)])) l1 n1⟩
    ·rw[ck,x0] at e4
     have w8:=S1.trans S2
     have Q6:=S2 _ _ c8
     have FH:eC CP H2 bs prs:=Paired.mapP d3 λ_ _ z=>⟨z.1.same S2,z.2⟩
     have k:∀(H':Hp)(g:Addr),aK H H'->H g=none->Ss CG CP CB H' g (match dH (prs.map (·.name)) lb with
       |.error i=>.bad i
       |.ok b=>.ok prs b.1 b.2)->Q (.ref g) H':=λH' g s fg hg=>k H' g s fg (by show Ss CG CP CB H' g (if mP prs=true then _ else _);rw[ac e4];exact hg)
     refine⟨_,rfl,_,rfl,pa,bs,prs,rfl,cP.of Q6,FH,px,λH3 Dl S3 _ hN=>?_⟩
     obtain⟨qs,nz,pq⟩:=hN
     have Q7:oP K H3 (qs.map V.ref) (prs.map (·.name)):=by
      have key:∀{qs:List Addr}{prs:List aM},Paired (λq pr=>H3 q=some (.tup (pr.name.map V.int))) qs prs->oP K H3 (qs.map V.ref) (prs.map (·.name)):=by
       intro qs prs z
       induction z with
       |nil=>exact .nil
       |cons h t ih=>exact .cons ⟨_,rfl,cN.of h⟩ ih
      exact key pq
     have d5:Xi K H3 Dl (prs.map (·.name)):=by
      refine⟨⟨_,cP.of nz,Q7⟩,by rw[ah];exact px,λm hm=>?_⟩
      obtain⟨pr,J',rfl⟩:=a6.mp hm
      obtain⟨i,hi⟩:=lj.mp J'
      obtain⟨_,_,_,po⟩:=cH d3 hi
      exact⟨po.nm,Wc ec pr J'⟩
     have BO:=w8.trans S3
     refine⟨b,Dl,lb,_,rfl,BO.seq hb,d5,?_⟩
     cases eb:dH (prs.map (·.name)) lb with
     |error i=>
      intro H4 S4
      rw[eb] at k
      refine⟨i,rfl,λae e d js he hd ak=>?_⟩
      have S5:aK H4 (upd (upd H4 d (.xd [("fault",.int i)])) e (XR C d e)):=λy o z=>by rw[aB (aD z he),aB (aD z hd)];exact z
      have h4:(ae.set 4 (some (V.ref e)))[4]?=some (some (V.ref e)):=sw (by have:ae.length=5:=js;(clear jk px e3 e2 e1;omega))
      have zf:=(BO.trans S4).trans S5
      refine⟨_,rfl,_,h4,e,d,i,rfl,aC,by rw[aB ak,aC],da _,λl1 n1=>Dm (λH' g s fg hg=>k H' g (zf.trans s) (zf.free fg) hg) l1 n1⟩
     |ok bd=>
      intro H4 q S4 zg
      rw[eb] at k
      have j6:aK H1 H4:=(S2.trans S3).trans S4
      refine⟨_,rfl,_,rfl,λx dx hx pj ak=>?_⟩
      refine⟨x,dx,pa,0,0,.ref q,rfl,aC,λH5 hg s5=>⟨rfl,?_⟩⟩
      have FI:aK H4 H5:=λy o e=>s5 y o (by rw[aB (aD e hx),aB (aD e pj)];exact e) (aD e hx)
      have zf:=j6.trans FI
      exact k H5 x ((BO.trans S4).trans FI) ((BO.trans S4).free hx) ⟨dx,pa,q,bs,hg,zf _ _ c8,Paired.mapP d3 λ_ _ z=>⟨z.1.same zf,z.2⟩,zg.same FI,jk,px⟩
end
theorem Sn{lc lb:List Int}{n:Int}(h:dB lc lb=.no n):n= -2\/n= -6\/n= -8:=by
 unfold dB at h
 split at h
 ·cases h;exact .inl rfl
 ·split at h
  ·cases h;exact .inr (.inl rfl)
  ·split at h
   ·split at h<;>cases h
   ·cases h;exact .inr (.inr rfl)
end Br1
namespace L2
open PySem PySem.Spec PyProof.Rows
theorem uA{us:List Value}{x:Str}(h:us.length=([x]:List Str).length):∃a,us=[a]:=List.length_eq_one_iff.mp h
theorem yG{us:List Value}{x y:Str}(h:us.length=([x,y]:List Str).length):∃a b,us=[a,b]:=by
 cases us with
 |nil=>cases h
 |cons a r=>
  obtain⟨b,rfl⟩:=uA (x:=x) (Nat.succ.inj h)
  exact⟨a,b,rfl⟩
theorem us3{us:List Value}{x y z:Str}(h:us.length=([x,y,z]:List Str).length):∃a b c,us=[a,b,c]:=by
 cases us with
 |nil=>cases h
 |cons a r=>
  obtain⟨b,c,rfl⟩:=yG (x:=x) (y:=y) (Nat.succ.inj h)
  exact⟨a,b,c,rfl⟩
theorem us4{us:List Value}{x y z w:Str}(h:us.length=([x,y,z,w]:List Str).length):∃a b c d,us=[a,b,c,d]:=by
 cases us with
 |nil=>cases h
 |cons a r=>
  obtain⟨b,c,d,rfl⟩:=us3 (x:=x) (y:=y) (z:=z) (Nat.succ.inj h)
  exact⟨a,b,c,d,rfl⟩
theorem us5{us:List Value}{x y z w v:Str}(h:us.length=([x,y,z,w,v]:List Str).length):∃a b c d e,us=[a,b,c,d,e]:=by
 cases us with
 |nil=>cases h
 |cons a r=>
  obtain⟨b,c,d,e,rfl⟩:=us4 (x:=x) (y:=y) (z:=z) (w:=w) (Nat.succ.inj h)
  exact⟨a,b,c,d,e,rfl⟩
theorem us7{us:List Value}{x y z w v u t:Str}(h:us.length=([x,y,z,w,v,u,t]:List Str).length):∃a b c d e f g,us=[a,b,c,d,e,f,g]:=by
 cases us with
 |nil=>cases h
 |cons a r=>
  cases r with
  |nil=>cases h
  |cons b r=>
   obtain⟨c,d,e,f,g,rfl⟩:=us5 (x:=x) (y:=y) (z:=z) (w:=w) (v:=v) (Nat.succ.inj (Nat.succ.inj h))
   exact⟨a,b,c,d,e,f,g,rfl⟩
def jO(K:PySem.W.Frag)(x qual:Str)(st:Stmt):Prop:=∃(f:Addr)(oc:Value)(od:Option Addr)(kV bo pm:Value)(an:Option Addr)(ai ct:Value) (cq:Array (Option Value)),
 PySem.W.nsIn K mainGlobals x=some (some (.ref f))/\K.lookup f=some ⟨oc,od,.func (PySem.W.fnOf x qual (eO st) (dQ st) (aH st) .none kV bo pm an ai ct),cq⟩/\PySem.W.codeIn K ai qual=true/\PySem.W.keepIn K (.ref f)=true
def zL(K:PySem.W.Frag)(C:Addr)(x qual:Str)(st:Stmt):Prop:=∃(f:Addr)(oc:Value)(od:Option Addr)(kV bo pm:Value)(an:Option Addr)(ai ct:Value) (cq:Array (Option Value)),
 PySem.W.findIn K (.ref C) x=some (some (.ref f))/\K.lookup f=some ⟨oc,od,.func (PySem.W.fnOf x qual (eO st) (dQ st) (aH st) .none kV bo pm an ai ct),cq⟩/\PySem.W.codeIn K ai qual=true/\PySem.W.keepIn K (.ref f)=true/\PySem.W.isFn K (.ref f)=true
structure Gj(K:PySem.W.Frag)(x:Str)(C:Addr):Prop where
 ns:PySem.W.nsIn K mainGlobals x=some (some (.ref C))
 pg:PySem.W.plainGet K C Str.empty=true
 hd:PySem.W.hasDictIn K C=true
 po:PySem.W.plainOver K C=true
 sa:PySem.W.findIn K (.ref C) "__setattr__"=some (some (.builtin "object.__setattr__"))
 makes:PySem.W.makesIn K C=true
 kp:PySem.W.keepIn K (.ref C)=true
section
variable {P:Program} {w:World} {K:PySem.W.Frag} {h:Heap} {mg:Str->Option Value} {base:Heap} {C:Addr} {x qual:Str} {st:Stmt} {CX:Gg} {k:Nat} {ps:List Str} {sp:Sp}
theorem jO.fn0(h1:jO K x qual st)(X:K.In h)(G:h.Ns mainGlobals mg)(ok:∀(f:Addr)(fd:FuncData),fH K x qual st f fd->bT P w K mg base CX k f fd ps sp)
  (hb:∀(kV bo pm:Value)(an:Option Addr)(ai ct:Value)(us:List Value),us.length=ps.length->bindArgs (PySem.W.fnOf x qual (eO st) (dQ st) (aH st) .none kV bo pm an ai ct) ⟨us,[]⟩=pure (ps.zip us)):Br1.dL P w K mg base x CX k ps sp:=by
 obtain⟨f,oc,od,kV,bo,pm,an,ai,ct,cq,a,l,c,kp⟩:=h1
 have F:=rM (st:=st) l c kp
 exact⟨f,_,ok _ _ F,F.binds hb,kp,PySem.W.mg_of X G a⟩
theorem zL.mt(h1:zL K C x qual st)(ok:∀(f:Addr)(fd:FuncData),fH K x qual st f fd->bT P w K mg base CX k f fd ps sp)
  (hb:∀(kV bo pm:Value)(an:Option Addr)(ai ct:Value)(us:List Value),us.length=ps.length->bindArgs (PySem.W.fnOf x qual (eO st) (dQ st) (aH st) .none kV bo pm an ai ct) ⟨us,[]⟩=pure (ps.zip us)):Br1.nI P w K mg base C x CX k ps sp:=by
 obtain⟨f,oc,od,kV,bo,pm,an,ai,ct,cq,a,l,c,kp,i⟩:=h1
 have F:=rM (st:=st) l c kp
 exact⟨f,_,⟨a,i,kp⟩,ok _ _ F,F.binds hb⟩
theorem Gj.cl(h1:Gj K x C):Gf K C:=⟨h1.pg,h1.hd,h1.po,h1.sa⟩
theorem zL.mk(h1:zL K C "__init__" qual st)(hC:Gj K x C)(ok:∀(f:Addr)(fd:FuncData),fH K "__init__" qual st f fd->bT P w K mg base CX k f fd ps sp)
  (hb:∀(kV bo pm:Value)(an:Option Addr)(ai ct:Value)(us:List Value),us.length=ps.length->bindArgs (PySem.W.fnOf "__init__" qual (eO st) (dQ st) (aH st) .none kV bo pm an ai ct) ⟨us,[]⟩=pure (ps.zip us)):∃f fd,Mk K C f/\bT P w K mg base CX k f fd ps sp/\eY K fd ps []:=by
 obtain⟨f,oc,od,kV,bo,pm,an,ai,ct,cq,a,l,c,kp,i⟩:=h1
 have F:=rM (st:=st) l c kp
 exact⟨f,_,⟨hC.makes,a,i,hC.kp⟩,ok _ _ F,F.binds hb⟩
theorem zL.mkN(h1:zL K C "__init__" qual st)(hC:Gj K x C)(ok:∀(f:Addr)(fd:FuncData),fH K "__init__" qual st f fd->yW P w K mg base CX k f fd ps sp)
  (hb:∀(kV bo pm:Value)(an:Option Addr)(ai ct:Value)(us:List Value),us.length=ps.length->bindArgs (PySem.W.fnOf "__init__" qual (eO st) (dQ st) (aH st) .none kV bo pm an ai ct) ⟨us,[]⟩=pure (ps.zip us)):∃f fd,Mk K C f/\yW P w K mg base CX k f fd ps sp/\eY K fd ps []:=by
 obtain⟨f,oc,od,kV,bo,pm,an,ai,ct,cq,a,l,c,kp,i⟩:=h1
 have F:=rM (st:=st) l c kp
 exact⟨f,_,⟨hC.makes,a,i,hC.kp⟩,ok _ _ F,F.binds hb⟩
end
end L2
namespace Br1
open PySem PySem.Spec PyProof.Rows L2
def Sh(K:PySem.W.Frag)(x:Str)(n:Int):Prop:=∃t,PySem.W.nsIn K mainGlobals x=some (some (.int n t))
theorem Sh.ci{K:PySem.W.Frag}{h:Heap}{mg:Str->Option Value}{x:Str}{n:Int}(hk:Sh K x n)(X:K.In h)(G:h.Ns mainGlobals mg):CI mg x n:=by
 obtain⟨t,e⟩:=hk
 exact⟨t,PySem.W.mg_of X G e⟩
theorem Iq{K:PySem.W.Frag}{f:Addr}{x qual:Str}{st:Stmt}(h:fnD K f x qual=some (Va st)):∃(oc:Value)(od:Option Addr)(kV bo pm:Value)(an:Option Addr)(ai ct:Value) (cq:Array (Option Value)),
  K.lookup f=some ⟨oc,od,.func (PySem.W.fnOf x qual (eO st) (dQ st) (aH st) .none kV bo pm an ai ct),cq⟩/\PySem.W.codeIn K ai qual=true/\PySem.W.keepIn K (.ref f)=true:=by
 unfold fnD at h
 split at h
 ·rename_i oc od nm q pa b sc gl kV bo pm an cd ct bl cq e
  split at h
  ·rename_i t
   simp only[cg,cz] at t
   obtain⟨rfl,rfl,rfl,rfl,c,k⟩:=t
   cases h
   exact⟨oc,od,kV,bo,pm,an,cd,ct,cq,e,c,k⟩
  ·cases h
 ·cases h
theorem Vh{K:PySem.W.Frag}{C f:Addr}(h:Yo K C=some f):Bq K C f:=by
 unfold Yo at h
 split at h
 ·rename_i c dd nm bs mro N q hd sn sub ab col hdel sl e
  split at h
  ·rename_i k0 k1 k2 k3 b k5 es
   split at h
   ·rename_i t
    simp only[cg,cz,ck] at t
    obtain⟨rfl,rfl,rfl,rfl,rfl,t1,t2,t3,t4,t5,t6⟩:=t
    split at h
    ·rename_i f' ei
     split at h
     ·rename_i tf
      cases h
      have es:sl=#[k0,k1,k2,k3,some (.builtin "Exception.__new__"),k5]:=by
       cases sl
       exact congrArg Array.mk es
      subst es
      exact⟨⟨nm,q,N,bs,sn,sub,ab,col,dd,k0,k1,k2,k3,k5,e,t1,ei,t2,t3,t4,t5⟩,tf,t6⟩
     ·cases h
    ·cases h
   ·cases h
  ·cases h
 ·cases h
def Ft.P(K:PySem.W.Frag):Ft->Prop
 |.no x=>PySem.W.nsIn K mainGlobals x=some none
 |.int x n=>Sh K x n
 |.fn x st=>jO K x x st
 |.cl x=>Gj K x (dO K x)
 |.at c f=>PySem.W.findIn K (.ref (dO K c)) f=some none
 |.mt c m q st=>zL K (dO K c) m q st
 |.ints x l=>∃a,PySem.W.nsIn K mainGlobals x=some (some (.ref a))/\∃(o:Obj)(its:Array Value)(n:Nat),K.lookup a=some o/\o.cls=.type "tuple"/\o.data=.seq its n/\its.size<=sizeLine/\bA (l.map V.int) its.toList
 |.exc x q st=>PySem.W.nsIn K mainGlobals x=some (some (.ref (dO K x)))/\∃(f:Addr)(oc:Value)(od:Option Addr)(kV bo pm:Value)(an:Option Addr)(ai ct:Value) (cq:Array (Option Value)),
   Bq K (dO K x) f/\K.lookup f=some ⟨oc,od,.func (PySem.W.fnOf "__init__" q (eO st) (dQ st) (aH st) .none kV bo pm an ai ct),cq⟩/\PySem.W.codeIn K ai q=true/\PySem.W.keepIn K (.ref f)=true
theorem Ai:∀{l:List Int}{vs:List Value},vs.map Xg=l.map some->bA (l.map V.int) vs
 |[],[],_=>.nil
 |[],v::r,h=>by cases h
 |n::l,[],h=>by cases h
 |n::l,v::r,h=>by
  obtain⟨h1,h2⟩:=List.cons.inj h
  refine .cons ?_ (Ai h2)
  cases v with
  |int m t=>cases h1;exact⟨t,rfl⟩
  |_=>cases h1
theorem Ft.ok{K:PySem.W.Frag}:∀{f:Ft},f.D K=f.X->f.P K
 |.no x,h=>cz.mp (congrArg Prod.fst h)
 |.int x n,h=>by
  have h:=congrArg Prod.fst h
  simp only[Ft.D,Ft.X] at h
  split at h
  ·rename_i m t e
   rw[cz] at h
   subst h
   exact⟨t,e⟩
  ·cases h
 |.fn x st,h=>by
  simp only[Ft.D,Ft.X] at h
  split at h
  ·rename_i f e
   obtain⟨oc,od,kV,bo,pm,an,ai,ct,cq,l,c,k⟩:=Iq (congrArg Prod.snd h)
   exact⟨f,oc,od,kV,bo,pm,an,ai,ct,cq,e,l,c,k⟩
  ·cases h
 |.cl x,h=>by
  have h:=congrArg Prod.fst h
  simp only[Ft.D,Ft.X] at h
  simp only[cg,cz] at h
  obtain⟨h1,h2,h3,h4,h5,h6,h7⟩:=h
  exact⟨h1,h2,h3,h4,h5,h6,h7⟩
 |.at c f,h=>cz.mp (congrArg Prod.fst h)
 |.mt c m q st,h=>by
  simp only[Ft.D,Ft.X] at h
  split at h
  ·rename_i f e
   obtain⟨oc,od,kV,bo,pm,an,ai,ct,cq,l,c,k⟩:=Iq (congrArg Prod.snd h)
   exact⟨f,oc,od,kV,bo,pm,an,ai,ct,cq,e,l,c,k,congrArg Prod.fst h⟩
  ·cases h
 |.ints x l,h=>by
  have h:=congrArg Prod.fst h
  simp only[Ft.D,Ft.X] at h
  split at h
  ·rename_i a e
   split at h
   ·rename_i c d its n sl e2
    simp only[cg,cz,bu] at h
    obtain⟨rfl,h2,h3⟩:=h
    have hl:=congrArg List.length h2
    rw[ah,ah,l9] at hl
    have hb:=bJ
    refine⟨a,e,_,its,n,e2,rfl,rfl,?_,Ai h2⟩
    show its.size<=sizeLine
    omega
   ·cases h
  ·cases h
 |.exc x q st,h=>by
  simp only[Ft.D,Ft.X] at h
  split at h
  ·rename_i f e
   obtain⟨oc,od,kV,bo,pm,an,ai,ct,cq,l,c,k⟩:=Iq (congrArg Prod.snd h)
   exact⟨cz.mp (congrArg Prod.fst h),f,oc,od,kV,bo,pm,an,ai,ct,cq,Vh e,l,c,k⟩
  ·cases h
theorem Ir{h:Heap}:∀as:List Addr,(frH as h).In h
 |[]=>λa o e=>by cases e
 |b::r=>λa o e=>by
  unfold frH at e
  rw[B'] at e
  cases q:h.get? b with
  |none=>
   rw[q] at e
   exact Ir r a o e
  |some u=>
   rw[q] at e
   have e:List.lookup a ((b,u)::frH r h)=some o:=e
   rw[tw] at e
   split at e
   ·rename_i z
    cases e
    rw[cz.mp z]
    exact q
   ·exact Ir r a o e
def Zs(as:List Addr)(fs:List Ft):PySem.W.Hook where
 α:=List (Bool×Option Df)
 obs s:=fs.map (Ft.D (frH as s.heap))
 val _:=fs.map Ft.X
 says _ h:=∃K:PySem.W.Frag,K.In h/\∀f∈fs,f.P K
 of _ s e:=⟨_,Ir as,λf hf=>Ft.ok (List.map_inj_left.mp e f hf)⟩
 keeps _ _ _ x k:=let ⟨K,a,b⟩:=x;⟨K,a.keeps k,b⟩
theorem Ft.nth{K:PySem.W.Frag}{fs:List Ft}(h:∀f∈fs,f.P K)(i:Nat){f:Ft}(e:fs[i]?=some f):f.P K:=h f (dg e)
end Br1
namespace L2
open PySem PySem.Spec PyProof.Rows
open PySem.W (WData Codec OpenSpec)
theorem Ig{r:OpenSpec}{k:Nat}{q:Program}{loose:List Str}{XP:(Str->Option Value)->Heap->Prop}{YP:World->Heap->Prop}{Good:PySem.W.Frag->Prop}{d:DefRec}{CX:Gg}{ps:List Str}{sp:PySem.W.Frag->Sp}
  (Q8:r.wellSaid=true) (UY:d.params.defaults=[]) (ax:r.args.length=ps.length) (hr:fX k callerA)
  (hY:∀(w:World)(h:Heap),YP w h->∃K:PySem.W.Frag,K.In h/\Good K)
  (F:∀(w:World)(K:PySem.W.Frag)(mg:Str->Option Value)(fa:Addr)(h:Heap),Good K->K.In h->h.Ns mainGlobals mg->mg d.name=some (.ref fa)->
   ∃fd:FuncData,(∀(s:Shared)(us:List Value),us.length=ps.length->BindsTo s fd ⟨us,[]⟩ (ps.zip us))/\
    ∀base:Heap,K.In base->base.Ns mainGlobals mg->bT r.prog w K mg base CX k fa fd ps (sp K))
  (j2:∀(K:PySem.W.Frag)(H:Hp)(xs:List V)(a:Codec.denoteAll r.args),Jy H->Codec.withinAll r.args a=true->Codec.app r.args r.asked a=true->mO K H xs (Codec.encAll r.args a)->
   sp K xs H (λv H'=>Dw K H' v (r.ret.enc (Codec.app r.args r.f a))) λ_ _ _=>False)
  (D3:∀(H:Hp)(s:Shared)(e:Value)(s':Shared),CX [] H s (λ_ _ _=>False) e s'->False):
  PySem.W.WalkOS q loose XP YP r d [] (λf vs=>PySem.call f vs):=by
 intro w s_0 bp mg mb G Y fa o pm cd bo dV kV ho hd gt hD FJ hg args mw as Q9 RA IV yn bi
 obtain⟨a,e1,e2⟩:=PySem.W.os_pre_some Q9
 obtain⟨e3,r6⟩:=Codec.encAll_of_decAll r.args args a e1
 subst e3
 obtain⟨K,KX,gk⟩:=hY w _ Y
 obtain⟨fd,hb,hF⟩:=F w K mg fa _ gk KX G.T.g FJ
 refine PySem.W.enter_call (xo (Mf (R:=[]) (cl:=classAt s_0.heap) (d0:=r.ret.enc (Codec.app r.args r.f a)) KX G.T.g G.T.b G.T.builtins G.T.nolimit hg yn (Ab _ _) (vZ RA) hr hF hb (by rw[xE];exact ax)
  (λH xs hO hS=>j2 K H xs a hO r6 e2 hS) λH e s'=>D3 H bp e s') λr' s' hq=>?_)
 obtain⟨u,RB,rfl,h1,h2,h3,h4⟩:=hq
 exact⟨.inl ⟨u,_,RB,rfl,λ_=>rfl,h1,(OpenSpec.post_iff Q8 r6 _ _).mpr rfl,λz=>Bool.noConfusion (show false=true from z)⟩,h2,h3,h4⟩
end L2
namespace Br1
open PySem PySem.Spec PyProof.Rows L2
structure Yc(P:Program)(w:World)(K:PySem.W.Frag)(mg:Str->Option Value)(base:Heap)(CP CB CG:Addr):Prop where
 TG:GvT K CG
 TP:Nn K CP
 TB:BdT K CB
 PM:PtM P w K mg base CP
 BM:BdM P w K mg base CB
 stud:dL P w K mg base "has_stud" bU 1 ["sign"] rQ
 tube:dL P w K mg base "has_tube" bU 1 ["sign"] rW
 up:dL P w K mg base "above" bU 1 ["place"] lQ
 dn:dL P w K mg base "below" bU 1 ["place"] nX
 names:dL P w K mg base "names_of" bU 1 ["parts"] (qY K CP)
 given:dL P w K mg base "read_given" bU 9 ["c","b"] (Bb K CG CP CB)
section
variable {P:Program} {w:World} {K:PySem.W.Frag} {h:Heap} {mg:Str->Option Value} {base:Heap}
theorem aD2(X:K.In h)(G:h.Ns mainGlobals mg)(hK:∀f∈ftC,f.P K):Yc P w K mg base (dO K "Part") (dO K "Build") (dO K "Given"):=by
 have g:∀(i:Nat)(f:Ft),ftC[i]?=some f->f.P K:=λi f e=>Ft.nth hK i e
 have ci:∀{x:Str}{n:Int},Sh K x n->CI mg x n:=λhk=>hk.ci X G
 have nn:∀{x:Str},PySem.W.nsIn K mainGlobals x=some none->mg x=none:=λe=>PySem.W.mg_none_of X G e
 have T:Gh K (dO K "Reader"):=⟨Gj.cl (g 0 (.cl "Reader") rfl),(g 1 (.at "Reader" "text") rfl),(g 2 (.at "Reader" "position") rfl)⟩
 have TP:Nn K (dO K "Part"):=⟨Gj.cl (g 3 (.cl "Part") rfl),(g 4 (.at "Part" "name") rfl),(g 5 (.at "Part" "width") rfl),(g 6 (.at "Part" "depth") rfl),(g 7 (.at "Part" "height") rfl),(g 8 (.at "Part" "weight") rfl),(g 9 (.at "Part" "cells") rfl)⟩
 have TB:BdT K (dO K "Build"):=⟨Gj.cl (g 10 (.cl "Build") rfl),(g 11 (.at "Build" "name") rfl),(g 12 (.at "Build" "lines") rfl)⟩
 have TG:GvT K (dO K "Given"):=⟨Gj.cl (g 13 (.cl "Given") rfl),(g 14 (.at "Given" "refusal") rfl),(g 15 (.at "Given" "fault") rfl),(g 16 (.at "Given" "parts") rfl),(g 17 (.at "Given" "build") rfl),(g 18 (.at "Given" "room") rfl)⟩
 obtain⟨aS,RC,RD⟩:=(g 19 (.ints "SIGNS" cJ) rfl)
 have hS:∀H,cN K H aS (cJ.map V.int):=λH=>.inr RD
 obtain⟨stk,fS,oc,od,kV,bo,pm,an,ai,ct,cq,XT,lS,cS,kS⟩:=(g 20 (.exc "Stuck" "Stuck.__init__" pQ) rfl)
 have FS:=rM (st:=pQ) lS cS kS
 have S:Zn P w K mg base (dO K "Stuck"):=⟨⟨fS,_,XT,Mj FS XT,FS.binds λ_ _ _ _ _ _ us hl=>(by obtain⟨a,b,rfl⟩:=_root_.L2.yG hl;rfl)⟩,PySem.W.mg_of X G stk⟩
 have L1:dL P w K mg base "is_letter" bU 1 ["byte"] pM:=jO.fn0 (g 21 (.fn "is_letter" nZ) rfl) X G (λf fd F=>Dk F (nn (g 22 (.no "ord") rfl))) λ_ _ _ _ _ _ us hl=>(by obtain⟨a,rfl⟩:=_root_.L2.uA hl;rfl)
 have L2:dL P w K mg base "is_digit" bU 1 ["byte"] nM:=jO.fn0 (g 23 (.fn "is_digit" rG) rfl) X G (λf fd F=>Ht F (nn (g 22 (.no "ord") rfl))) λ_ _ _ _ _ _ us hl=>(by obtain⟨a,rfl⟩:=_root_.L2.uA hl;rfl)
 have RK:RdK P w K mg base (dO K "Reader"):=⟨zL.mk (g 24 (.mt "Reader" "__init__" "Reader.__init__" Tv) rfl) (g 0 (.cl "Reader") rfl) (λf fd F=>Zl F T) λ_ _ _ _ _ _ us hl=>(by obtain⟨a,b,rfl⟩:=_root_.L2.yG hl;rfl),PySem.W.mg_of X G (Gj.ns (g 0 (.cl "Reader") rfl))⟩
 have M1:nI P w K mg base (dO K "Reader") "ended" bU 1 ["self"] (oG K (dO K "Reader")):=zL.mt (g 25 (.mt "Reader" "ended" "Reader.ended" Bh) rfl) (λf fd F=>Pt F T (nn (g 26 (.no "len") rfl))) λ_ _ _ _ _ _ us hl=>(by obtain⟨a,rfl⟩:=_root_.L2.uA hl;rfl)
 obtain⟨t0,e0⟩:=ci (g 27 (.int "NO_BYTE" 256) rfl)
 have M2:nI P w K mg base (dO K "Reader") "here" bU 2 ["self"] (oZ K (dO K "Reader")):=zL.mt (g 28 (.mt "Reader" "here" "Reader.here" Jr) rfl) (λf fd F=>Tz F T e0 M1) λ_ _ _ _ _ _ us hl=>(by obtain⟨a,rfl⟩:=_root_.L2.uA hl;rfl)
 have M3:nI P w K mg base (dO K "Reader") "take" bU 3 ["self"] (pL K (dO K "Reader")):=zL.mt (g 29 (.mt "Reader" "take" "Reader.take" Kg) rfl) (λf fd F=>Vg F T M2) λ_ _ _ _ _ _ us hl=>(by obtain⟨a,rfl⟩:=_root_.L2.uA hl;rfl)
 have M4:nI P w K mg base (dO K "Reader") "read_one_of" (iX (dO K "Stuck") P w) 4 ["self","signs"] (rA K (dO K "Reader")):=zL.mt (g 30 (.mt "Reader" "read_one_of" "Reader.read_one_of" Bf) rfl) (λf fd F=>Rt F T S M2 M3) λ_ _ _ _ _ _ us hl=>(by obtain⟨a,b,rfl⟩:=_root_.L2.yG hl;rfl)
 have M5:nI P w K mg base (dO K "Reader") "read_word" (iX (dO K "Stuck") P w) 5 ["self","word"] (lD K (dO K "Reader")):=zL.mt (g 31 (.mt "Reader" "read_word" "Reader.read_word" Jq) rfl) (λf fd F=>Xd F T (nn (g 22 (.no "ord") rfl)) M4) λ_ _ _ _ _ _ us hl=>(by obtain⟨a,b,rfl⟩:=_root_.L2.yG hl;rfl)
 have M6:nI P w K mg base (dO K "Reader") "read_name" (iX (dO K "Stuck") P w) 4 ["self","longest"] (oW K (dO K "Reader")):=zL.mt (g 32 (.mt "Reader" "read_name" "Reader.read_name" Kh) rfl) (λf fd F=>Vj F T S (nn (g 26 (.no "len") rfl)) (nn (g 33 (.no "tuple") rfl)) M2 M3 L1 L2) λ_ _ _ _ _ _ us hl=>(by obtain⟨a,b,rfl⟩:=_root_.L2.yG hl;rfl)
 have M7:nI P w K mg base (dO K "Reader") "read_number" (iX (dO K "Stuck") P w) 4 ["self","least","most"] (kI K (dO K "Reader")):=zL.mt (g 34 (.mt "Reader" "read_number" "Reader.read_number" uH) rfl) (λf fd F=>Ms F T S (nn (g 22 (.no "ord") rfl)) M2 M3 L2) λ_ _ _ _ _ _ us hl=>(by obtain⟨a,b,c,rfl⟩:=_root_.L2.us3 hl;rfl)
 have M8:nI P w K mg base (dO K "Reader") "read_end" (iX (dO K "Stuck") P w) 3 ["self"] (yO K (dO K "Reader")):=zL.mt (g 35 (.mt "Reader" "read_end" "Reader.read_end" Wu) rfl) (λf fd F=>aA0 F T S M1) λ_ _ _ _ _ _ us hl=>(by obtain⟨a,rfl⟩:=_root_.L2.uA hl;rfl)
 have PM:PtM P w K mg base (dO K "Part"):=⟨zL.mk (g 36 (.mt "Part" "__init__" "Part.__init__" Cf) rfl) (g 3 (.cl "Part") rfl) (λf fd F=>Su F TP) λ_ _ _ _ _ _ us hl=>(by obtain⟨a,b,c,d,e,f,g,rfl⟩:=_root_.L2.us7 hl;rfl),PySem.W.mg_of X G (Gj.ns (g 3 (.cl "Part") rfl))⟩
 have BM:BdM P w K mg base (dO K "Build"):=⟨zL.mk (g 37 (.mt "Build" "__init__" "Build.__init__" uL) rfl) (g 10 (.cl "Build") rfl) (λf fd F=>aAc F TB) λ_ _ _ _ _ _ us hl=>(by obtain⟨a,b,c,rfl⟩:=_root_.L2.us3 hl;rfl),PySem.W.mg_of X G (Gj.ns (g 10 (.cl "Build") rfl))⟩
 have GM:GvM P w K mg base (dO K "Given"):=⟨zL.mkN (g 38 (.mt "Given" "__init__" "Given.__init__" uR) rfl) (g 13 (.cl "Given") rfl) (λf fd F=>Wj F TG) λ_ _ _ _ _ _ us hl=>(by obtain⟨a,b,c,d,e,rfl⟩:=_root_.L2.us5 hl;rfl),PySem.W.mg_of X G (Gj.ns (g 13 (.cl "Given") rfl))⟩
 have L3:dL P w K mg base "has_stud" bU 1 ["sign"] rQ:=jO.fn0 (g 39 (.fn "has_stud" qH) rfl) X G (λf fd F=>Ut F (ci (g 40 (.int "STUD" 115) rfl)) (ci (g 41 (.int "BOTH" 98) rfl))) λ_ _ _ _ _ _ us hl=>(by obtain⟨a,rfl⟩:=_root_.L2.uA hl;rfl)
 have L4:dL P w K mg base "has_tube" bU 1 ["sign"] rW:=jO.fn0 (g 42 (.fn "has_tube" qP) rfl) X G (λf fd F=>Vz F (ci (g 43 (.int "TUBE" 116) rfl)) (ci (g 41 (.int "BOTH" 98) rfl))) λ_ _ _ _ _ _ us hl=>(by obtain⟨a,rfl⟩:=_root_.L2.uA hl;rfl)
 have L5:dL P w K mg base "above" bU 1 ["place"] lQ:=jO.fn0 (g 44 (.fn "above" Bk) rfl) X G (λf fd F=>Qx F) λ_ _ _ _ _ _ us hl=>(by obtain⟨a,rfl⟩:=_root_.L2.uA hl;rfl)
 have L6:dL P w K mg base "below" bU 1 ["place"] nX:=jO.fn0 (g 45 (.fn "below" Aq) rfl) X G (λf fd F=>Rw F) λ_ _ _ _ _ _ us hl=>(by obtain⟨a,rfl⟩:=_root_.L2.uA hl;rfl)
 have L9:dL P w K mg base "read_cells" (iX (dO K "Stuck") P w) 6 ["reader","width","depth","height"] (Bg K (dO K "Reader")):=jO.fn0 (g 46 (.fn "read_cells" kU) rfl) X G (λf fd F=>Qk F T (nn (g 47 (.no "range") rfl)) hS (PySem.W.mg_of X G RC) (ci (g 48 (.int "NO_CELL" 46) rfl)) M4 M5) λ_ _ _ _ _ _ us hl=>(by obtain⟨a,b,c,d,rfl⟩:=_root_.L2.us4 hl;rfl)
 have L8:dL P w K mg base "read_part" (iX (dO K "Stuck") P w) 7 ["reader"] (Ha K (dO K "Reader") (dO K "Part")):=jO.fn0 (g 49 (.fn "read_part" oC) rfl) X G (λf fd F=>Wd F T PM (ci (g 50 (.int "LONGEST_PART_NAME" 8) rfl)) (ci (g 51 (.int "MOST_WIDTH" 16) rfl)) (ci (g 52 (.int "MOST_DEPTH" 16) rfl)) (ci (g 53 (.int "MOST_HEIGHT" 18) rfl)) (ci (g 54 (.int "MOST_WEIGHT" 9999) rfl)) M5 M6 M7 L9) λ_ _ _ _ _ _ us hl=>(by obtain⟨a,rfl⟩:=_root_.L2.uA hl;rfl)
 have L7:dL P w K mg base "read_catalogue" (iX (dO K "Stuck") P w) 8 ["c"] (Ks K (dO K "Part")):=jO.fn0 (g 55 (.fn "read_catalogue" qI) rfl) X G (λf fd F=>Zf F T RK (nn (g 26 (.no "len") rfl)) (ci (g 56 (.int "MOST_PARTS" 64) rfl)) M1 M8 L8) λ_ _ _ _ _ _ us hl=>(by obtain⟨a,rfl⟩:=_root_.L2.uA hl;rfl)
 have RE:dL P w K mg base "studs_clear" bU 2 ["part"] (Cj (dO K "Part")):=jO.fn0 (g 57 (.fn "studs_clear" Cl) rfl) X G (λf fd F=>Pk F TP L3 L5) λ_ _ _ _ _ _ us hl=>(by obtain⟨a,rfl⟩:=_root_.L2.uA hl;rfl)
 have RF:dL P w K mg base "tubes_clear" bU 2 ["part"] (Ao (dO K "Part")):=jO.fn0 (g 58 (.fn "tubes_clear" Ak) rfl) X G (λf fd F=>Py F TP L4 L6) λ_ _ _ _ _ _ us hl=>(by obtain⟨a,rfl⟩:=_root_.L2.uA hl;rfl)
 have RG:dL P w K mg base "fills_its_box" bU 2 ["part"] (Bp (dO K "Part")):=jO.fn0 (g 59 (.fn "fills_its_box" xR) rfl) X G (λf fd F=>Rb F TP (nn (g 60 (.no "enumerate") rfl))) λ_ _ _ _ _ _ us hl=>(by obtain⟨a,rfl⟩:=_root_.L2.uA hl;rfl)
 have RH:dL P w K mg base "neighbours" bU 2 ["place"] Ax:=jO.fn0 (g 61 (.fn "neighbours" Cb) rfl) X G (λf fd F=>Qe F L5 L6) λ_ _ _ _ _ _ us hl=>(by obtain⟨a,rfl⟩:=_root_.L2.uA hl;rfl)
 have RI:dL P w K mg base "hangs_together" bU 3 ["part"] (Aw (dO K "Part")):=jO.fn0 (g 62 (.fn "hangs_together" Bt) rfl) X G (λf fd F=>Rr F TP (nn (g 26 (.no "len") rfl)) (nn (g 63 (.no "list") rfl)) RH) λ_ _ _ _ _ _ us hl=>(by obtain⟨a,rfl⟩:=_root_.L2.uA hl;rfl)
 have RJ:dL P w K mg base "names_grow" bU 2 ["parts"] (Hb K (dO K "Part")):=jO.fn0 (g 64 (.fn "names_grow" Jw) rfl) X G (λf fd F=>Wn F TP (nn (g 47 (.no "range") rfl)) (nn (g 26 (.no "len") rfl))) λ_ _ _ _ _ _ us hl=>(by obtain⟨a,rfl⟩:=_root_.L2.uA hl;rfl)
 have RL:dL P w K mg base "part_right" bU 4 ["part"] (uW (dO K "Part")):=jO.fn0 (g 65 (.fn "part_right" lT) rfl) X G (λf fd F=>Tc F RE RF RG RI) λ_ _ _ _ _ _ us hl=>(by obtain⟨a,rfl⟩:=_root_.L2.uA hl;rfl)
 have RN:dL P w K mg base "catalogue_right" bU 5 ["parts"] (pI K (dO K "Part")):=jO.fn0 (g 66 (.fn "catalogue_right" kH) rfl) X G (λf fd F=>El F (nn (g 67 (.no "all") rfl)) RL RJ) λ_ _ _ _ _ _ us hl=>(by obtain⟨a,rfl⟩:=_root_.L2.uA hl;rfl)
 have RO:dL P w K mg base "some_begins" bU 2 ["names","beginning"] (wX K):=jO.fn0 (g 68 (.fn "some_begins" qA) rfl) X G (λf fd F=>Lp F (nn (g 69 (.no "any") rfl)) (nn (g 26 (.no "len") rfl))) λ_ _ _ _ _ _ us hl=>(by obtain⟨a,b,rfl⟩:=_root_.L2.yG hl;rfl)
 have RP:dL P w K mg base "read_part_number" (iX (dO K "Stuck") P w) 5 ["reader","names"] (wK K (dO K "Reader")):=jO.fn0 (g 70 (.fn "read_part_number" uJ) rfl) X G (λf fd F=>Lg F T S M2 M3 RO) λ_ _ _ _ _ _ us hl=>(by obtain⟨a,b,rfl⟩:=_root_.L2.yG hl;rfl)
 have RQ:dL P w K mg base "read_line" (iX (dO K "Stuck") P w) 6 ["reader","names"] (Hf K (dO K "Reader")):=jO.fn0 (g 71 (.fn "read_line" nQ) rfl) X G (λf fd F=>Tx F T (nn (g 33 (.no "tuple") rfl)) (ci (g 72 (.int "MOST_COLOUR" 255) rfl)) (ci (g 73 (.int "ROOM_WIDTH" 64) rfl)) (ci (g 74 (.int "ROOM_DEPTH" 64) rfl)) (ci (g 75 (.int "ROOM_HEIGHT" 96) rfl)) (ci (g 76 (.int "MOST_TURNS" 3) rfl)) M5 M7 RP) λ_ _ _ _ _ _ us hl=>(by obtain⟨a,b,rfl⟩:=_root_.L2.yG hl;rfl)
 have RS:dL P w K mg base "read_build" (iX (dO K "Stuck") P w) 7 ["b","names"] (uE K (dO K "Build")):=jO.fn0 (g 77 (.fn "read_build" lI) rfl) X G (λf fd F=>Te F T RK BM (nn (g 26 (.no "len") rfl)) (ci (g 78 (.int "LONGEST_BUILD_NAME" 16) rfl)) (ci (g 79 (.int "MOST_LINES" 256) rfl)) M1 M8 M5 M6 RQ) λ_ _ _ _ _ _ us hl=>(by obtain⟨a,b,rfl⟩:=_root_.L2.yG hl;rfl)
 have KA:dL P w K mg base "names_of" bU 1 ["parts"] (qY K (dO K "Part")):=jO.fn0 (g 80 (.fn "names_of" nF) rfl) X G (λf fd F=>Sa F TP) λ_ _ _ _ _ _ us hl=>(by obtain⟨a,rfl⟩:=_root_.L2.uA hl;rfl)
 exact⟨TG,TP,TB,PM,BM,L3,L4,L5,L6,KA,jO.fn0 (g 81 (.fn "read_given" iP) rfl) X G (λf fd F=>Pq F GM S (nn (g 26 (.no "len") rfl)) (ci (g 82 (.int "MOST_CATALOGUE_BYTES" 1048576) rfl)) (ci (g 83 (.int "MOST_BUILD_BYTES" 16384) rfl)) L7 RN RS KA) λ_ _ _ _ _ _ us hl=>(by obtain⟨a,b,rfl⟩:=_root_.L2.yG hl;rfl)⟩
end
end Br1
namespace Br1
def aX(t:Br.Bytes):List Int:=t.map λc=>(c.toNat:Int)
abbrev At(t:Br.Bytes)(p:Nat):Nat×Br.Bytes:=(p,t.drop p)
def rJ(i:Int):UInt8:=UInt8.ofNat i.toNat
theorem Sm(c:UInt8):rJ (c.toNat:Int)=c:=by
 unfold rJ
 rw[jm]
 exact MW
theorem fQ{t:Br.Bytes}{p:Nat}{c:UInt8}(h:t[p]?=some c):aR (aX t) p=(c.toNat:Int):=by
 unfold aR aX
 rw[bf,h]
 rfl
theorem fW{t:Br.Bytes}{p:Nat}(h:t[p]?=none):aR (aX t) p=256:=by
 unfold aR aX
 rw[bf,h]
 rfl
theorem qL{t:Br.Bytes}{p:Nat}{c:UInt8}:aR (aX t) p=(c.toNat:Int)↔t[p]?=some c:=by
 constructor
 ·intro h
  cases e:t[p]? with
  |none=>
   rw[fW e] at h
   have:=HN c
   omega
  |some d=>
   rw[fQ e] at h
   have:d.toNat=c.toNat:=by omega
   rw[UInt8.toNat_inj.mp this]
 ·exact fQ
theorem fG(t:Br.Bytes):(aX t).length=t.length:=ah _
section
variable {α β:Type} {t:Br.Bytes} {p:Nat}
theorem bF{x:Br.Rd α}{f:α->Br.Rd β}{s:Nat×Br.Bytes}:(x>>=f) s=eG (x s) λr=>f r.1 r.2:=by
 show (StateT.bind x f) s=_
 unfold StateT.bind
 cases x s with
 |error e=>rfl
 |ok r=>rfl
theorem jL:Br.peek (At t p)=.ok (t[p]?,At t p):=by
 show Except.ok ((t.drop p).head?,_)=_
 rw[List.head?_drop]
theorem oJ:Br.skip (At t p)=.ok ((),At t (p+1)):=by
 show Except.ok ((),(p+1,(t.drop p).drop 1))=_
 rw[List.drop_drop]
end
def fA{α β:Type}(t:Br.Bytes)(f:α->β):Except Nat (α×Nat)->Except Nat (β×(Nat×Br.Bytes))
 |.ok x=>.ok (f x.1,At t x.2)
 |.error e=>.error e
def Jb(t:Br.Bytes):Except Nat Nat->Except Nat (Unit×(Nat×Br.Bytes))
 |.ok q=>.ok ((),At t q)
 |.error e=>.error e
theorem Au{t:Br.Bytes}{p:Nat}{c:UInt8}:Br.byte_ c (At t p)=if t[p]?=some c then .ok ((),At t (p+1)) else .error p:=by
 unfold Br.byte_
 rw[bF,jL,bZ]
 show (if t[p]?=some c then Br.skip else Br.stray) (At t p)=_
 by_cases h:t[p]?=some c
 ·rw[ac h,ac h]
  exact oJ
 ·rw[aa h,aa h]
  rfl
theorem pV{t:Br.Bytes}:∀{cs:Br.Bytes}{p:Nat},Br.bytes_ cs (At t p)=Jb t (aU (aX t) p (cs.map UInt8.toNat))
 |[],p=>rfl
 |c::r,p=>by
  rw[Br.bytes_,bF,Au]
  rw[bz,aU]
  by_cases h:t[p]?=some c
  ·rw[ac h,ac (qL.mpr h)]
   exact pV
  ·rw[aa h,aa (λz=>h (qL.mp z))]
   rfl
theorem nW{t:Br.Bytes}{p:Nat}{c:UInt8}:Br.byte_ c (At t p)=Jb t (aU (aX t) p [c.toNat]):=by
 rw[Au,aU]
 by_cases h:t[p]?=some c
 ·rw[ac h,ac (qL.mpr h)]
  rfl
 ·rw[aa h,aa (λz=>h (qL.mp z))]
  rfl
theorem Xm{lo hi n:Nat}(bi:lo<=1)(hh:lo<=hi):Br.leadsTo lo hi n=decide (lo<=n/\n<=hi):=by
 unfold Br.leadsTo
 by_cases hn:n=0
 ·rw[ac hn,hn,f7,cz,bu]
  (clear hn hh bi;omega)
 ·rw[aa hn,f7,lh,bu]
  constructor
  ·rintro⟨k,_,h⟩
   rw[cg,bu,bu] at h
   have h1:1<=10 ^ k:=Nat.one_le_pow _ _ (by decide)
   have h2:n * 1<=n * 10 ^ k:=Nat.mul_le_mul_left n h1
   (clear h1 hh;omega)
  ·rintro⟨h1,h2⟩
   refine⟨0,by simp,?_⟩
   rw[cg,bu,bu]
   simp
   (clear h1 hh;omega)
theorem fK(c:UInt8):Br.isDigit c=jM (c.toNat:Int):=by
 unfold Br.isDigit jM
 rw[f7,cg,cg,bu,bu,bu,bu]
 omega
theorem xF(c:UInt8):Br.isLow c=jW (c.toNat:Int):=by
 unfold Br.isLow jW
 rw[f7,cg,cg,bu,bu,bu,bu]
 omega
theorem tJ{t:Br.Bytes}{lo hi f p:Nat}{v:Option Nat}:Br.digits lo hi (f+1) v (At t p)=
  match ((t[p]?).bind λ(c:UInt8)=>if Br.isDigit c=false\/v=some 0 then Option.none else (if Br.leadsTo lo hi (10 * v.getD 0+(c.toNat - 48))=true then some (10 * v.getD 0+(c.toNat - 48)) else Option.none)) with
  |some n=>Br.digits lo hi f (some n) (At t (p+1))
  |Option.none=>match v with
   |some n=>if lo<=n/\n<=hi then .ok (n,At t p) else .error p
   |Option.none=>.error p:=by
 show (Br.peek>>=λ(o:Option UInt8)=>(match (o.bind λ(c:UInt8)=>if Br.isDigit c=false\/v=some 0 then Option.none else (if Br.leadsTo lo hi (10 * v.getD 0+(c.toNat - 48))=true then some (10 * v.getD 0+(c.toNat - 48)) else Option.none)) with
  |some n=>(do Br.skip;Br.digits lo hi f (some n):Br.Rd Nat)
  |Option.none=>(match v with
   |some n=>(if lo<=n/\n<=hi then pure n else Br.stray:Br.Rd Nat)
   |Option.none=>Br.stray))) (At t p)=_
 rw[bF,jL]
 show (match ((t[p]?).bind λ(c:UInt8)=>if Br.isDigit c=false\/v=some 0 then Option.none else (if Br.leadsTo lo hi (10 * v.getD 0+(c.toNat - 48))=true then some (10 * v.getD 0+(c.toNat - 48)) else Option.none)) with
  |some n=>(do Br.skip;Br.digits lo hi f (some n):Br.Rd Nat)
  |Option.none=>(match v with
   |some n=>(if lo<=n/\n<=hi then pure n else Br.stray:Br.Rd Nat)
   |Option.none=>Br.stray)) (At t p)=_
 cases (t[p]?).bind λ(c:UInt8)=>if Br.isDigit c=false\/v=some 0 then Option.none else (if Br.leadsTo lo hi (10 * v.getD 0+(c.toNat - 48))=true then some (10 * v.getD 0+(c.toNat - 48)) else Option.none) with
 |some n=>
  show (Br.skip>>=λ_=>Br.digits lo hi f (some n)) (At t p)=_
  rw[bF,oJ]
  rfl
 |none=>
  cases v with
  |none=>rfl
  |some n=>
   by_cases h:lo<=n/\n<=hi
   ·simp only[h,ot,and_self]
    rfl
   ·simp only[h,jc]
    rfl
theorem sZ{t:Br.Bytes}{lo hi:Nat}(bi:lo<=1):∀{f p n m:Nat},1<=f->(n=0\/hi<n * 10 ^ f)->lo<=n->n<=hi->t.length<=p+m->
  Br.digits lo hi f (some n) (At t p)=.ok ((dA (aX t) hi m p (n:Int)).1.toNat,At t (dA (aX t) hi m p (n:Int)).2)
 |0,p,n,m,h,_,_,_,_=>absurd h (by decide)
 |f+1,p,n,m,_,hc,h1,h2,hm=>by
  rw[tJ]
  have stop:(dA (aX t) hi m p (n:Int))=((n:Int),p)->(if lo<=n/\n<=hi then (.ok (n,At t p):Except Nat (Nat×(Nat×Br.Bytes))) else .error p)=.ok ((dA (aX t) hi m p (n:Int)).1.toNat,At t (dA (aX t) hi m p (n:Int)).2):=λe=>by
   rw[ac ⟨h1,h2⟩,e]
   show _=Except.ok (((n:Int)).toNat,At t p)
   rw[jm]
  cases e:t[p]? with
  |none=>
   show (if lo<=n/\n<=hi then (.ok (n,At t p):Except Nat (Nat×(Nat×Br.Bytes))) else .error p)=_
   refine stop ?_
   cases m with
   |zero=>rfl
   |succ m=>
    rw[dA,aa]
    rintro⟨_,z,_⟩
    rw[fW e] at z
    revert z
    decide
  |some c=>
   have hp:p<t.length:=(bh.mp e).1
   obtain⟨m,rfl⟩:∃m',m=m'+1:=⟨m - 1,by (clear h2 h1 hc bi;omega)⟩
   have hh:=fQ e
   by_cases hd:Br.isDigit c=false\/(some n:Option Nat)=some 0
   ·show (match (if Br.isDigit c=false\/(some n:Option Nat)=some 0 then (Option.none:Option Nat) else _) with
     |some n=>_
     |Option.none=>(if lo<=n/\n<=hi then (.ok (n,At t p):Except Nat (Nat×(Nat×Br.Bytes))) else .error p))=_
    rw[ac hd]
    refine stop ?_
    rw[dA,aa]
    rintro⟨z1,z2,_⟩
    rw[hh,<-fK] at z2
    rcases hd with hd|hd
    ·rw[hd] at z2;cases z2
    ·cases hd;exact absurd z1 (by decide)
   ·have fj:Br.isDigit c=true:=by
     cases z:Br.isDigit c with
     |true=>rfl
     |false=>exact absurd (.inl z) hd
    have pz:n≠0:=λz=>hd (.inr (by rw[z]))
    have i6:48<=c.toNat/\c.toNat<=57:=by
     rw[fK] at fj
     have:=iK fj
     (clear pz hd hh hm hp h2 h1 hc bi;omega)
    show (match (if Br.isDigit c=false\/(some n:Option Nat)=some 0 then (Option.none:Option Nat) else (if Br.leadsTo lo hi (10 * n+(c.toNat - 48))=true then some (10 * n+(c.toNat - 48)) else Option.none)) with
     |some n=>Br.digits lo hi f (some n) (At t (p+1))
     |Option.none=>(if lo<=n/\n<=hi then (.ok (n,At t p):Except Nat (Nat×(Nat×Br.Bytes))) else .error p))=_
    rw[aa hd,Xm bi (d6 h1 h2)]
    by_cases hl:lo<=10 * n+(c.toNat - 48)/\10 * n+(c.toNat - 48)<=hi
    ·rw[ac (cn hl)]
     have sf:n * 10 ^ (f+1)=(10 * n) * 10 ^ f:=by rw[Nat.pow_succ,kb (10 ^ f) 10,<-DC,kb n 10]
     have di:hi<n * 10 ^ (f+1):=by
      rcases hc with z|z
      ·exact absurd z pz
      ·exact z
     have hf:1<=f:=by
      cases f with
      |zero=>rw[sf,Nat.pow_zero,Nat.mul_one] at di;(clear di sf i6 hd hh hm hp h2 h1 bi;omega)
      |succ f=>(clear di sf hc hl i6 pz hd hh hm hp h2 h1 bi;omega)
     have BP:(10 * n) * 10 ^ f<=(10 * n+(c.toNat - 48)) * 10 ^ f:=ya _ (by (clear hf di sf hl i6 pz hd hh hm hp h2 h1 hc bi;omega))
     show Br.digits lo hi f (some (10 * n+(c.toNat - 48))) (At t (p+1))=_
     rw[sZ bi (m:=m) hf (.inr (by (clear hf di hl i6 hd hh hm hp h2 h1 bi;omega))) hl.1 hl.2 (by (clear BP hf di sf hl i6 pz hd hh hp h2 h1 hc bi;omega))]
     have e2:dA (aX t) hi (m+1) p (n:Int)=dA (aX t) hi m (p+1) ((10 * n+(c.toNat - 48):Nat):Int):=by
      rw[dA,ac]
      ·congr 1
       rw[hh]
       (clear BP hf di sf hl pz hd hh hm hp h2 h1 hc bi;omega)
      ·rw[hh]
       refine⟨by (clear BP hf di sf hl i6 hd hh hm hp h2 h1 hc bi;omega),by rw[<-fK];exact fj,by (clear BP hf di sf i6 pz hd hh hm hp h2 h1 hc bi;omega)⟩
     rw[e2]
    ·rw[aa (by rw[jx hl];decide)]
     refine stop ?_
     rw[dA,aa]
     rw[hh]
     rintro⟨_,_,z⟩
     exact hl ⟨by (clear z hl i6 pz hd hh hm hp h2 h1 hc;omega),by (clear hl pz hd hh hm hp h2 h1 hc bi;omega)⟩
theorem aAa{t:Br.Bytes}{lo hi p:Nat}(bi:lo<=1)(h1:lo<=hi)(dy:hi<=100000):Br.num lo hi (At t p)=fA t id (iY (aX t) p lo hi):=by
 unfold Br.num
 rw[tJ]
 unfold iY
 cases e:t[p]? with
 |none=>
  rw[aa]
  ·rfl
  ·rintro⟨z,_⟩
   rw[fW e] at z
   revert z
   decide
 |some c=>
  have hh:=fQ e
  show (match (if Br.isDigit c=false\/(Option.none:Option Nat)=some 0 then (Option.none:Option Nat) else (if Br.leadsTo lo hi (10 * 0+(c.toNat - 48))=true then some (10 * 0+(c.toNat - 48)) else Option.none)) with
   |some n=>Br.digits lo hi 19 (some n) (At t (p+1))
   |Option.none=>(.error p:Except Nat (Nat×(Nat×Br.Bytes))))=_
  by_cases hd:Br.isDigit c=true
  ·have i6:48<=c.toNat/\c.toNat<=57:=by
    rw[fK] at hd
    have:=iK hd
    (clear hh dy h1 bi;omega)
   rw[aa (by rw[hd];simp),Xm bi h1]
   by_cases hl:lo<=10 * 0+(c.toNat - 48)/\10 * 0+(c.toNat - 48)<=hi
   ·have hok:jN (aX t) p lo hi:=by
     unfold jN
     rw[hh]
     exact⟨by rw[<-fK];exact hd,by (clear hh dy h1 bi;omega),by (clear i6 hh dy h1 bi;omega)⟩
    rw[ac (cn hl),ac hok]
    have hp:p<t.length:=(bh.mp e).1
    have big:10 * 0+(c.toNat - 48)=0\/hi<(10 * 0+(c.toNat - 48)) * 10 ^ 19:=by (clear hp hl i6 hh h1 bi;omega)
    show Br.digits lo hi 19 (some (10 * 0+(c.toNat - 48))) (At t (p+1))=_
    rw[sZ bi (m:=(aX t).length - (p+1)) (by decide) big hl.1 hl.2 (by rw[fG];(clear big hp hl i6 hh dy h1 bi;omega))]
    have e2:((10 * 0+(c.toNat - 48):Nat):Int)=aR (aX t) p - 48:=by rw[hh];(clear big hp hl hh dy h1 bi;omega)
    rw[e2]
    rfl
   ·have b7:¬jN (aX t) p lo hi:=by
     unfold jN
     rw[hh]
     rintro⟨_,z1,z2⟩
     exact hl ⟨by (clear z2 hl i6 hh dy h1 bi;omega),by (clear z1 hl i6 hh dy h1 bi;omega)⟩
    rw[aa (by rw[jx hl];decide),aa b7]
    rfl
  ·have hd:Br.isDigit c=false:=by
    cases z:Br.isDigit c with
    |false=>rfl
    |true=>exact absurd z hd
   have b7:¬jN (aX t) p lo hi:=by
    unfold jN
    rw[hh,<-fK,hd]
    rintro⟨z,_⟩
    cases z
   rw[ac (.inl hd),aa b7]
   rfl
theorem Eg{t:Br.Bytes}:∀{n p:Nat},Br.while_ (λ(c:UInt8)=>Br.isLow c||Br.isDigit c) n (At t p)=.ok ((bE (aX t) p n).map rJ,At t (p+(bE (aX t) p n).length))
 |0,p=>rfl
 |n+1,p=>by
  show (Br.peek>>=λ(o:Option UInt8)=>(match o with
   |some c=>(if (Br.isLow c||Br.isDigit c)=true then (do Br.skip;let r <-Br.while_ (λ(c:UInt8)=>Br.isLow c||Br.isDigit c) n;return c::r) else return []:Br.Rd Br.Bytes)
   |Option.none=>return [])) (At t p)=_
  rw[bF,jL,bE]
  cases e:t[p]? with
  |none=>
   rw[aa (by rw[fW e];decide)]
   rfl
  |some c=>
   have hh:=fQ e
   have ea:gX (aR (aX t) p)=(Br.isLow c||Br.isDigit c):=by rw[hh,xF,fK];rfl
   by_cases h:(Br.isLow c||Br.isDigit c)=true
   ·rw[ac (by rw[ea];exact h)]
    show (if (Br.isLow c||Br.isDigit c)=true then (do Br.skip;let r <-Br.while_ (λ(c:UInt8)=>Br.isLow c||Br.isDigit c) n;return c::r) else return []:Br.Rd Br.Bytes) (At t p)=_
    rw[ac h]
    show (Br.skip>>=λ_=>Br.while_ (λ(c:UInt8)=>Br.isLow c||Br.isDigit c) n>>=λr=>pure (c::r)) (At t p)=_
    rw[bF,oJ]
    show (Br.while_ (λ(c:UInt8)=>Br.isLow c||Br.isDigit c) n>>=λr=>pure (c::r)) (At t (p+1))=_
    rw[bF,Eg]
    show Except.ok (c::(bE (aX t) (p+1) n).map rJ,At t (p+1+(bE (aX t) (p+1) n).length))=_
    rw[bz,bn,hh,Sm]
    congr 3<;>(clear hh;omega)
   ·rw[aa (by rw[ea];exact h)]
    show (if (Br.isLow c||Br.isDigit c)=true then (do Br.skip;let r <-Br.while_ (λ(c:UInt8)=>Br.isLow c||Br.isDigit c) n;return c::r) else return []:Br.Rd Br.Bytes) (At t p)=_
    rw[aa h]
    rfl
theorem Jz{t:Br.Bytes}{p n:Nat}:(Br.peek>>=λ(o:Option UInt8)=>(match o with
   |some c=>(if Br.isLow c=true then (do Br.skip;let r <-Br.while_ (λ(c:UInt8)=>Br.isLow c||Br.isDigit c) n;return c::r) else Br.stray:Br.Rd Br.Bytes)
   |Option.none=>Br.stray)) (At t p)=fA t (List.map rJ) (gE (aX t) p (n+1)):=by
 rw[bF,jL]
 unfold gE
 cases e:t[p]? with
 |none=>
  rw[aa (by rw[fW e];decide)]
  rfl
 |some c=>
  have hh:=fQ e
  by_cases h:Br.isLow c=true
  ·have hl:jW (aR (aX t) p)=true:=by rw[hh,<-xF];exact h
   have ha:gX (aR (aX t) p)=true:=by unfold gX;rw[hl];rfl
   rw[ac hl]
   show (if Br.isLow c=true then (do Br.skip;let r <-Br.while_ (λ(c:UInt8)=>Br.isLow c||Br.isDigit c) n;return c::r) else Br.stray:Br.Rd Br.Bytes) (At t p)=_
   rw[ac h]
   show (Br.skip>>=λ_=>Br.while_ (λ(c:UInt8)=>Br.isLow c||Br.isDigit c) n>>=λr=>pure (c::r)) (At t p)=_
   rw[bF,oJ]
   show (Br.while_ (λ(c:UInt8)=>Br.isLow c||Br.isDigit c) n>>=λr=>pure (c::r)) (At t (p+1))=_
   rw[bF,Eg]
   have en:bE (aX t) p (n+1)=aR (aX t) p::bE (aX t) (p+1) n:=by rw[bE,ac ha]
   rw[en]
   show Except.ok (c::(bE (aX t) (p+1) n).map rJ,At t (p+1+(bE (aX t) (p+1) n).length))=Except.ok ((aR (aX t) p::bE (aX t) (p+1) n).map rJ,At t (p+(aR (aX t) p::bE (aX t) (p+1) n).length))
   rw[bz,bn,hh,Sm]
   congr 3<;>(clear hh;omega)
  ·rw[aa (by rw[hh,<-xF];exact h)]
   show (if Br.isLow c=true then (do Br.skip;let r <-Br.while_ (λ(c:UInt8)=>Br.isLow c||Br.isDigit c) n;return c::r) else Br.stray:Br.Rd Br.Bytes) (At t p)=_
   rw[aa h]
   rfl
theorem Um{t:Br.Bytes}{p:Nat}:Br.name_ (At t p)=fA t (List.map rJ) (gE (aX t) p 8):=Jz
theorem Dv{t:Br.Bytes}{p:Nat}:Br.longName_ (At t p)=fA t (List.map rJ) (gE (aX t) p 16):=Jz
def oM(i:Int):Br.Place:=if i=46 then .none else if i=35 then .cell false false else if i=115 then .cell true false else if i=116 then .cell false true else .cell true true
theorem Ie(c:UInt8):Br.placeOf c=if (c.toNat:Int)∈cJ then some (oM (c.toNat:Int)) else Option.none:=by
 have key:∀n:Fin 256,Br.placeOf (UInt8.ofNat n.1)=if ((UInt8.ofNat n.1).toNat:Int)∈cJ then some (oM ((UInt8.ofNat n.1).toNat:Int)) else Option.none:=by decide+kernel
 have h:=key ⟨c.toNat,HN c⟩
 have e:UInt8.ofNat c.toNat=c:=MW
 simp only[e] at h
 exact h
theorem Rx{t:Br.Bytes}{p:Nat}:Br.place_ (At t p)=if aR (aX t) p∈cJ then .ok (oM (aR (aX t) p),At t (p+1)) else .error p:=by
 show (Br.peek>>=λ(o:Option UInt8)=>(match o.bind Br.placeOf with
   |some q=>(do Br.skip;return q:Br.Rd Br.Place)
   |Option.none=>Br.stray)) (At t p)=_
 rw[bF,jL]
 cases e:t[p]? with
 |none=>
  rw[fW e,aa (by decide)]
  rfl
 |some c=>
  rw[fQ e]
  show (match Br.placeOf c with
   |some q=>(do Br.skip;return q:Br.Rd Br.Place)
   |Option.none=>Br.stray) (At t p)=_
  rw[Ie]
  by_cases h:(c.toNat:Int)∈cJ
  ·rw[ac h,ac h]
   show (Br.skip>>=λ_=>pure (oM (c.toNat:Int))) (At t p)=_
   rw[bF,oJ]
   rfl
  ·rw[aa h,aa h]
   rfl
theorem xO{α:Type}{n:Nat}{r:Br.Rd α}{s:Nat×Br.Bytes}:Br.times (n+1) r s=eG (r s) λx=>eG (Br.times n r x.2) λy=>.ok (x.1::y.1,y.2):=by
 show (r>>=λx=>Br.times n r>>=λl=>pure (x::l)) s=_
 rw[bF]
 cases r s with
 |error e=>rfl
 |ok x=>
  show (Br.times n r>>=λl=>pure (x.1::l)) x.2=_
  rw[bF]
  rfl
theorem Eh{t:Br.Bytes}:∀{n p:Nat},Br.times n Br.place_ (At t p)=fA t (List.map oM) (bV (aX t) n p)
 |0,p=>rfl
 |n+1,p=>by
  rw[xO,Rx,bV]
  by_cases h:aR (aX t) p∈cJ
  ·rw[ac h,ac h]
   show eG (Br.times n Br.place_ (At t (p+1))) (λy=>Except.ok (oM (aR (aX t) p)::y.1,y.2))=_
   rw[Eh]
   cases bV (aX t) n (p+1) with
   |error e=>rfl
   |ok y=>rfl
  ·rw[aa h,aa h]
   rfl
theorem Zm{t:Br.Bytes}{w p:Nat}:Br.row_ w (At t p)=fA t (List.map oM) (fC (aX t) w p):=by
 show (Br.times w Br.place_>>=λl=>Br.byte_ 10>>=λ_=>pure l) (At t p)=_
 rw[bF,Eh]
 unfold fC
 cases bV (aX t) w p with
 |error e=>rfl
 |ok y=>
  show (Br.byte_ 10>>=λ_=>pure (y.1.map oM)) (At t y.2)=_
  rw[bF,Au]
  have he:aR (aX t) y.2=10↔t[y.2]?=some 10:=qL (c:=10)
  by_cases h:t[y.2]?=some 10
  ·rw[ac h]
   show _=fA t (List.map oM) (if aR (aX t) y.2=10 then _ else _)
   rw[ac (he.mpr h)]
   rfl
  ·rw[aa h]
   show _=fA t (List.map oM) (if aR (aX t) y.2=10 then _ else _)
   rw[aa (λz=>h (he.mp z))]
   rfl
theorem Jp{t:Br.Bytes}{w:Nat}:∀{n p:Nat},Br.times n (Br.row_ w) (At t p)=fA t (List.map (List.map oM)) (bN (aX t) w n p)
 |0,p=>rfl
 |n+1,p=>by
  rw[xO,Zm,bN]
  cases fC (aX t) w p with
  |error e=>rfl
  |ok y=>
   show eG (Br.times n (Br.row_ w) (At t y.2)) (λz=>Except.ok (y.1.map oM::z.1,z.2))=_
   rw[Jp]
   show _=fA t (List.map (List.map oM)) (gG y.1 (bN (aX t) w n y.2))
   cases bN (aX t) w n y.2 with
   |error e=>rfl
   |ok z=>rfl
def cG(pr:aM):Br.Part:=⟨pr.name.map rJ,pr.w,pr.d,pr.h,pr.g,(pr.rows.map (List.map oM)).flatten⟩
theorem xT{α β γ:Type}{t:Br.Bytes}{x:Br.Rd α}{s:Nat×Br.Bytes}{r:Except Nat (γ×Nat)}{g:γ->α}{k:α->Br.Rd β}{δ:Type}{f:γ×Nat->Except Nat (δ×Nat)}{u:δ->β}(h:x s=fA t g r)(hk:∀c,r=.ok c->k (g c.1) (At t c.2)=fA t u (f c)):
  (x>>=k) s=fA t u (eG r f):=by
 rw[bF,h]
 cases r with
 |error e=>rfl
 |ok c=>exact hk c rfl
theorem kJ{β δ:Type}{t:Br.Bytes}{x:Br.Rd Unit}{s:Nat×Br.Bytes}{r:Except Nat Nat}{k:Unit->Br.Rd β}{f:Nat->Except Nat (δ×Nat)}{u:δ->β}(h:x s=Jb t r)(hk:∀c,r=.ok c->k () (At t c)=fA t u (f c)):
  (x>>=k) s=fA t u (eG r f):=by
 rw[bF,h]
 cases r with
 |error e=>rfl
 |ok c=>exact hk c rfl
theorem cV{β δ:Type}{t:Br.Bytes}{p lo hi:Nat}{k:Nat->Br.Rd β}{f:Nat×Nat->Except Nat (δ×Nat)}{u:δ->β}(bi:lo<=1)(h1:lo<=hi)(dy:hi<=100000)(hk:∀c,k c.1 (At t c.2)=fA t u (f c)):
  (Br.numAfter lo hi>>=k) (At t p)=fA t u (eG (aU (aX t) p [32]) λp1=>eG (iY (aX t) p1 lo hi) f):=by
 have e:(Br.numAfter lo hi>>=k) (At t p)=(Br.byte_ 32>>=λ_=>Br.num lo hi>>=k) (At t p):=by
  show ((Br.byte_ 32>>=λ_=>Br.num lo hi)>>=k) (At t p)=_
  rw[bF,bF,bF]
  cases Br.byte_ 32 (At t p) with
  |error e=>rfl
  |ok r=>
   show eG (Br.num lo hi r.2) (λr=>k r.1 r.2)=(Br.num lo hi>>=k) r.2
   rw[bF]
 rw[e]
 refine kJ (nW (c:=32)) λp1 _=>?_
 exact xT (aAa bi h1 dy) λc _=>hk c
theorem Ik:Br.ascii "part "=[112,97,114,116,32]:=by decide+kernel
theorem Kz{t:Br.Bytes}{p:Nat}:Br.part_ (At t p)=fA t cG (dN (aX t) p):=by
 show (Br.bytes_ (Br.ascii "part ")>>=λ_=>Br.name_>>=λn=>Br.numAfter 1 16>>=λw=>Br.numAfter 1 16>>=λd=>Br.numAfter 1 18>>=λh=>Br.numAfter 1 9999>>=λg=>Br.byte_ 10>>=λ_=>Br.times (d * h) (Br.row_ w)>>=λl=>pure (⟨n,w,d,h,g,l.flatten⟩:Br.Part)) (At t p)=_
 unfold dN
 rw[Ik]
 refine kJ (pV (cs:=[112,97,114,116,32])) λp1 _=>?_
 refine xT Um λnm _=>?_
 refine cV (lo:=1) (hi:=16) (by decide) (by decide) (by decide) λw=>?_
 refine cV (lo:=1) (hi:=16) (by decide) (by decide) (by decide) λd=>?_
 refine cV (lo:=1) (hi:=18) (by decide) (by decide) (by decide) λh=>?_
 refine cV (lo:=1) (hi:=9999) (by decide) (by decide) (by decide) λg=>?_
 refine kJ (nW (c:=10)) λwy _=>?_
 exact xT Jp λrs _=>rfl
theorem Ka{l:List Int}{w:Nat}:∀{n p:Nat} {r:List (List Int)×Nat},p<=l.length->bN l w n p=.ok r->r.2<=l.length
 |0,p,r,hp,h=>by cases h;exact hp
 |n+1,p,r,hp,h=>by
  rw[bN] at h
  cases e:fC l w p with
  |error i=>rw[e] at h;cases h
  |ok q=>
   rw[e] at h
   obtain⟨q',e2,rfl⟩:=fP h
   show q'.2<=l.length
   refine Ka (r:=q') ?_ e2
   unfold fC at e
   split at e
   ·split at e
    ·rename_i du
     cases e
     have:=gD (l:=l) (p:=_) (by rw[du];decide)
     show _+1<=_
     (clear du hp;omega)
    ·cases e
   ·cases e
theorem Jj{l:List Int}{p:Nat}{q:aM×Nat}(h:dN l p=.ok q):q.2<=l.length:=by
 unfold dN at h
 obtain⟨p1,_,h⟩:=aL h
 obtain⟨nm,_,h⟩:=aL h
 obtain⟨_,_,h⟩:=aL h
 obtain⟨_,_,h⟩:=aL h
 obtain⟨_,_,h⟩:=aL h
 obtain⟨_,_,h⟩:=aL h
 obtain⟨_,_,h⟩:=aL h
 obtain⟨_,_,h⟩:=aL h
 obtain⟨_,_,h⟩:=aL h
 obtain⟨g,_,h⟩:=aL h
 obtain⟨wy,rk,h⟩:=aL h
 obtain⟨rs,y0,h⟩:=aL h
 cases h
 refine Ka ?_ y0
 rw[aU] at rk
 split at rk
 ·rename_i du
  have:=gD (l:=l) (p:=g.2) (by rw[du];decide)
  cases rk
  (clear du;omega)
 ·cases rk
theorem xG{α:Type}{r:Br.Rd α}{t:Br.Bytes}{p:Nat}:Br.toEnd r 0 (At t p)=if (t[p]?).isSome=true then .error p else .ok ([],At t p):=by
 show (Br.peek>>=λo=>if o.isSome=true then Br.stray else pure []) (At t p)=_
 rw[bF,jL]
 show (if (t[p]?).isSome=true then (Br.stray:Br.Rd (List α)) else pure []) (At t p)=_
 by_cases h:(t[p]?).isSome=true
 ·rw[ac h,ac h];rfl
 ·rw[aa h,aa h];rfl
theorem wL{α:Type}{r:Br.Rd α}{t:Br.Bytes}{p n:Nat}:Br.toEnd r (n+1) (At t p)=if (t[p]?).isSome=true then (eG (r (At t p)) λx=>eG (Br.toEnd r n x.2) λy=>.ok (x.1::y.1,y.2)) else .ok ([],At t p):=by
 show (Br.peek>>=λo=>if o.isSome=true then (r>>=λx=>Br.toEnd r n>>=λl=>pure (x::l)) else pure []) (At t p)=_
 rw[bF,jL]
 show (if (t[p]?).isSome=true then (r>>=λx=>Br.toEnd r n>>=λl=>pure (x::l)) else pure []:Br.Rd (List α)) (At t p)=_
 by_cases h:(t[p]?).isSome=true
 ·rw[ac h,ac h,bF]
  cases r (At t p) with
  |error e=>rfl
  |ok x=>
   show (Br.toEnd r n>>=λl=>pure (x.1::l)) x.2=_
   rw[bF]
   rfl
 ·rw[aa h,aa h];rfl
def Xa{α β:Type}(t:Br.Bytes)(f:α->β):Except Nat (α×Nat)->Except Nat (β×(Nat×Br.Bytes))
 |.error e=>.error e
 |.ok r=>if r.2=t.length then .ok (f r.1,At t r.2) else .error r.2
theorem jB{t:Br.Bytes}{p:Nat}:(t[p]?).isSome=true↔p<t.length:=by
 by_cases h:p<t.length
 ·rw[ba h];simp[h]
 ·rw[qk (by omega)];simp[h]
theorem Dq{t:Br.Bytes}:∀{n p:Nat},p<=t.length->Br.toEnd Br.part_ n (At t p)=Xa t (List.map cG) (cM (aX t) n p)
 |0,p,hp=>by
  rw[xG]
  show _=if p=t.length then Except.ok (([]:List aM).map cG,At t p) else .error p
  by_cases h:p=t.length
  ·rw[ac h,aa (by rw[jB];(clear hp;omega))]
   rfl
  ·rw[aa h,ac (by rw[jB];omega)]
 |n+1,p,hp=>by
  rw[wL,cM]
  by_cases h:p=t.length
  ·rw[aa (by rw[jB];(clear hp;omega)),ac (by rw[fG];exact h)]
   show _=if p=t.length then Except.ok (([]:List aM).map cG,At t p) else .error p
   rw[ac h]
   rfl
  ·rw[ac (by rw[jB];omega),aa (by rw[fG];exact h),Kz]
   cases e:dN (aX t) p with
   |error i=>rfl
   |ok q=>
    have hq:=Jj e
    rw[fG] at hq
    show eG (Br.toEnd Br.part_ n (At t q.2)) (λy=>Except.ok (cG q.1::y.1,y.2))=Xa t (List.map cG) (gG q.1 (cM (aX t) n q.2))
    rw[Dq hq]
    cases cM (aX t) n q.2 with
    |error i=>rfl
    |ok r=>
     show eG (if r.2=t.length then (Except.ok (r.1.map cG,At t r.2):Except Nat _) else .error r.2) (λy=>Except.ok (cG q.1::y.1,y.2))=if r.2=t.length then Except.ok ((q.1::r.1).map cG,At t r.2) else .error r.2
     by_cases hr:r.2=t.length
     ·rw[ac hr,ac hr];rfl
     ·rw[aa hr,aa hr];rfl
theorem Se(t:Br.Bytes):Br.readC t=eG (hX (aX t)) λprs=>.ok (prs.map cG):=by
 show (((Br.part_>>=λp=>Br.toEnd Br.part_ 63>>=λl=>pure (p::l)) (At t 0)).map λ(x:Br.Catalogue×(Nat×Br.Bytes))=>x.1)=_
 rw[bF,Kz]
 unfold hX
 cases e:dN (aX t) 0 with
 |error i=>rfl
 |ok q=>
  have hq:=Jj e
  rw[fG] at hq
  show (((Br.toEnd Br.part_ 63>>=λl=>pure (cG q.1::l)) (At t q.2)).map λ(x:Br.Catalogue×(Nat×Br.Bytes))=>x.1)=_
  rw[bF,Dq hq,bZ]
  cases cM (aX t) 63 q.2 with
  |error i=>rfl
  |ok r=>
   show ((eG (if r.2=t.length then (Except.ok (r.1.map cG,At t r.2):Except Nat _) else .error r.2) λy=>Except.ok (cG q.1::y.1,y.2)).map λ(x:Br.Catalogue×(Nat×Br.Bytes))=>x.1)=eG (if r.2=(aX t).length then Except.ok (q.1::r.1) else .error r.2) λprs=>.ok (prs.map cG)
   rw[fG]
   by_cases hr:r.2=t.length
   ·rw[ac hr,ac hr];rfl
   ·rw[aa hr,aa hr];rfl
theorem Kf{a b:Br.Bytes}(h:aX a=aX b):a=b:=by
 unfold aX at h
 refine List.map_inj_right (λx y e=>?_)|>.mp h
 have:x.toNat=y.toNat:=by omega
 exact UInt8.toNat_inj.mp this
theorem Fw(a:Br.Bytes)(c:UInt8):aX (a++[c])=aX a++[(c.toNat:Int)]:=by
 unfold aX
 rw[cp]
 rfl
theorem Mc(a n:Br.Bytes):a.isPrefixOf n=decide ((aX n).take (aX a).length=aX a):=by
 rw[f7,List.isPrefixOf_iff_prefix,List.prefix_iff_eq_take,bu,fG]
 have e:(aX n).take a.length=aX (n.take a.length):=by unfold aX;rw[List.map_take]
 rw[e]
 constructor
 ·intro h
  rw[<-h]
 ·intro h
  exact(Kf h).symm
theorem Aj(names:List Br.Bytes)(a:Br.Bytes):(names.any λn=>a.isPrefixOf n)=iD (names.map aX) (aX a):=by
 unfold iD
 rw[AB]
 congr 1
 funext n
 exact Mc a n
theorem By(a:Br.Bytes):∀names:List Br.Bytes,(names.findIdx? λn=>n==a)=if aX a∈names.map aX then some (pW (names.map aX) (aX a)) else none
 |[]=>by simp
 |n::r=>by
  have ih:=By a r
  have hx:pW ((n::r).map aX) (aX a)=if aX n=aX a then 0 else pW (r.map aX) (aX a)+1:=by
   unfold pW
   rw[bz,List.findIdx_cons]
   by_cases h:aX n=aX a
   ·rw[cn h,ac h];rfl
   ·rw[jx h,aa h];rfl
  rw[List.findIdx?_cons,ih,hx]
  by_cases h:n=a
  ·subst h
   simp
  ·have h2:¬aX n=aX a:=λz=>h (Kf z)
   have h3:¬aX a=aX n:=λz=>h2 z.symm
   have hb:(n==a)=false:=vg.mpr h
   rw[hb,aa cb,aa h2]
   by_cases h4:aX a∈r.map aX
   ·rw[ac h4,ac (by rw[bz];exact az _ h4)]
    rfl
   ·rw[aa h4,aa (by rw[bz,aw];rintro(z|z);exact h3 z;exact h4 z)]
    rfl
theorem Rg{t:Br.Bytes}{names:List Br.Bytes}:∀{f p:Nat}{acc:Br.Bytes},
  (((cI (names.map aX) (aX t) f p (aX acc)).1∈names.map aX->Br.known names f acc (At t p)=.ok (pW (names.map aX) (cI (names.map aX) (aX t) f p (aX acc)).1,At t (cI (names.map aX) (aX t) f p (aX acc)).2)\/
   (Br.known names f acc (At t p)=.error (cI (names.map aX) (aX t) f p (aX acc)).2/\t[(cI (names.map aX) (aX t) f p (aX acc)).2]?=none))/\
  ((cI (names.map aX) (aX t) f p (aX acc)).1∉names.map aX->Br.known names f acc (At t p)=.error (cI (names.map aX) (aX t) f p (aX acc)).2)):=by
 intro f
 induction f with
 |zero=>
  intro p acc
  have e:Br.known names 0 acc (At t p)=if aX acc∈names.map aX then .ok (pW (names.map aX) (aX acc),At t p) else .error p:=by
   show (match names.findIdx? λ(n:Br.Bytes)=>n==acc with
    |some i=>(pure i:Br.Rd Nat)
    |Option.none=>Br.stray) (At t p)=_
   rw[By]
   by_cases h:aX acc∈names.map aX
   ·rw[ac h,ac h];rfl
   ·rw[aa h,aa h];rfl
  refine⟨λh=>.inl ?_,λh=>?_⟩
  ·rw[e];exact ac h
  ·rw[e];exact aa h
 |succ f ih=>
  intro p acc
  have e:Br.known names (f+1) acc (At t p)=(match t[p]? with
    |some c=>(if (names.any λ(n:Br.Bytes)=>(acc++[c]).isPrefixOf n)=true then Br.known names f (acc++[c]) (At t (p+1)) else (if aX acc∈names.map aX then .ok (pW (names.map aX) (aX acc),At t p) else .error p))
    |Option.none=>.error p):=by
   show (Br.peek>>=λ(o:Option UInt8)=>(match o with
    |some c=>(if (names.any λ(n:Br.Bytes)=>(acc++[c]).isPrefixOf n)=true then (Br.skip>>=λ_=>Br.known names f (acc++[c])) else (match names.findIdx? λ(n:Br.Bytes)=>n==acc with
     |some i=>(pure i:Br.Rd Nat)
     |Option.none=>Br.stray))
    |Option.none=>Br.stray)) (At t p)=_
   rw[bF,jL,bZ]
   cases e:t[p]? with
   |none=>rfl
   |some c=>
    show (if (names.any λ(n:Br.Bytes)=>(acc++[c]).isPrefixOf n)=true then (Br.skip>>=λ_=>Br.known names f (acc++[c])) else (match names.findIdx? λ(n:Br.Bytes)=>n==acc with
     |some i=>(pure i:Br.Rd Nat)
     |Option.none=>Br.stray)) (At t p)=if (names.any λ(n:Br.Bytes)=>(acc++[c]).isPrefixOf n)=true then Br.known names f (acc++[c]) (At t (p+1)) else (if aX acc∈names.map aX then .ok (pW (names.map aX) (aX acc),At t p) else .error p)
    by_cases h:(names.any λ(n:Br.Bytes)=>(acc++[c]).isPrefixOf n)=true
    ·rw[ac h,ac h,bF,oJ]
     rfl
    ·rw[aa h,aa h,By]
     by_cases h2:aX acc∈names.map aX
     ·rw[ac h2,ac h2];rfl
     ·rw[aa h2,aa h2];rfl
  cases ep:t[p]? with
  |none=>
   rw[ep] at e
   have hb:¬iD (names.map aX) (aX acc++[aR (aX t) p])=true:=by
    rw[fW ep]
    unfold iD
    intro z
    obtain⟨m,hm,z⟩:=lh.mp z
    obtain⟨n,_,rfl⟩:=a6.mp hm
    have z:=dq z
    have:(256:Int)∈aX n:=by
     have:(256:Int)∈(aX n).take (aX acc++[256]).length:=by rw[z];simp
     exact MU this
    unfold aX at this
    obtain⟨c,_,hc⟩:=a6.mp this
    have:=HN c
    omega
   have er:cI (names.map aX) (aX t) (f+1) p (aX acc)=(aX acc,p):=by rw[cI,aa hb]
   rw[er]
   exact⟨λ_=>.inr ⟨e,ep⟩,λ_=>e⟩
  |some c=>
   rw[ep] at e
   have hh:=fQ ep
   by_cases h:(names.any λ(n:Br.Bytes)=>(acc++[c]).isPrefixOf n)=true
   ·have e:Br.known names (f+1) acc (At t p)=Br.known names f (acc++[c]) (At t (p+1)):=e.trans (ac h)
    have er:cI (names.map aX) (aX t) (f+1) p (aX acc)=cI (names.map aX) (aX t) f (p+1) (aX (acc++[c])):=by
     rw[cI,hh,<-Fw,ac (by rw[<-Aj];exact h)]
    rw[e,er]
    exact ih
   ·have e:Br.known names (f+1) acc (At t p)=if aX acc∈names.map aX then .ok (pW (names.map aX) (aX acc),At t p) else .error p:=e.trans (aa h)
    have er:cI (names.map aX) (aX t) (f+1) p (aX acc)=(aX acc,p):=by
     rw[cI,hh,<-Fw,aa (by rw[<-Aj];exact h)]
    rw[er]
    refine⟨λh2=>.inl ?_,λh2=>?_⟩
    ·rw[e];exact ac h2
    ·rw[e];exact aa h2
def iZ(x:List Nat):Br.Line:=⟨x.getD 0 0,x.getD 1 0,x.getD 2 0,x.getD 3 0,x.getD 4 0,x.getD 5 0⟩
theorem kO{α:Type}{l:List Int}{m:Nat}{ms:List Nat}{p:Nat}{F:List Nat×Nat->Except Nat α}:eG (cU l (m::ms) p) F=eG (aU l p [32]) λp1=>eG (iY l p1 0 m) λv=>eG (cU l ms v.2) λr=>F (v.1::r.1,r.2):=by
 rw[cU]
 cases aU l p [32] with
 |error i=>rfl
 |ok p1=>
  show eG (eG (iY l p1 0 m) λv=>gG v.1 (cU l ms v.2)) F=eG (iY l p1 0 m) _
  cases iY l p1 0 m with
  |error i=>rfl
  |ok v=>
   show eG (gG v.1 (cU l ms v.2)) F=eG (cU l ms v.2) _
   cases cU l ms v.2 with
   |error i=>rfl
   |ok r=>rfl
theorem Nk:Br.ascii "put "=[112,117,116,32]:=by decide+kernel
theorem Dg:Br.ascii "build "=[98,117,105,108,100,32]:=by decide+kernel
theorem Ub{t:Br.Bytes}{c:Br.Catalogue}{p:Nat}:Br.line_ c (At t p)=fA t iZ (eQ ((c.map λ(p:Br.Part)=>p.name).map aX) (aX t) p):=by
 show (Br.bytes_ (Br.ascii "put ")>>=λ_=>Br.known (c.map λ(p:Br.Part)=>p.name) 8 []>>=λq=>Br.numAfter 0 255>>=λk=>Br.numAfter 0 63>>=λx=>Br.numAfter 0 63>>=λy=>Br.numAfter 0 95>>=λz=>Br.numAfter 0 3>>=λr=>Br.byte_ 10>>=λ_=>pure (⟨q,k,x,y,z,r⟩:Br.Line)) (At t p)=_
 unfold eQ
 rw[Nk]
 refine kJ (pV (cs:=[112,117,116,32])) λp1 _=>?_
 generalize (c.map λ(p:Br.Part)=>p.name)=names
 have rest:∀(i p2:Nat),(Br.numAfter 0 255>>=λk=>Br.numAfter 0 63>>=λx=>Br.numAfter 0 63>>=λy=>Br.numAfter 0 95>>=λz=>Br.numAfter 0 3>>=λr=>Br.byte_ 10>>=λ_=>pure (⟨i,k,x,y,z,r⟩:Br.Line)) (At t p2)=
   fA t iZ (eG (cU (aX t) fE p2) λr=>eG (aU (aX t) r.2 [10]) λp5=>.ok (i::r.1,p5)):=by
  intro i p2
  unfold fE
  rw[kO]
  refine cV (lo:=0) (hi:=255) (by decide) (by decide) (by decide) λk=>?_
  rw[kO]
  refine cV (lo:=0) (hi:=63) (by decide) (by decide) (by decide) λx=>?_
  rw[kO]
  refine cV (lo:=0) (hi:=63) (by decide) (by decide) (by decide) λy=>?_
  rw[kO]
  refine cV (lo:=0) (hi:=95) (by decide) (by decide) (by decide) λz=>?_
  rw[kO]
  refine cV (lo:=0) (hi:=3) (by decide) (by decide) (by decide) λr=>?_
  show _=fA t iZ (eG (aU (aX t) r.2 [10]) _)
  exact kJ (nW (c:=10)) λp5 _=>rfl
 obtain⟨k1,k2⟩:=Rg (t:=t) (names:=names) (f:=8) (p:=p1) (acc:=[])
 have e0:aX []=[]:=rfl
 rw[e0] at k1 k2
 unfold rR
 by_cases h:(cI (names.map aX) (aX t) 8 p1 []).1∈names.map aX
 ·rw[ac h,bZ]
  rcases k1 h with e|⟨e,en⟩
  ·rw[bF,e,bZ]
   exact rest _ _
  ·rw[bF,e,Cd]
   have ew:aU (aX t) (cI (names.map aX) (aX t) 8 p1 []).2 [32]=.error (cI (names.map aX) (aX t) 8 p1 []).2:=by
    rw[aU,fW en]
    rfl
   unfold fE
   rw[kO]
   show _=fA t iZ (eG (aU (aX t) (cI (names.map aX) (aX t) 8 p1 []).2 [32]) _)
   rw[ew]
   rfl
 ·rw[aa h,Cd,bF,k2 h,Cd]
  rfl
theorem Wr{ag:List (List Int)}{l:List Int}{p:Nat}{q:List Nat×Nat}(h:eQ ag l p=.ok q):q.2<=l.length:=by
 unfold eQ at h
 obtain⟨p1,_,h⟩:=aL h
 obtain⟨_,_,h⟩:=aL h
 obtain⟨r,_,h⟩:=aL h
 obtain⟨p5,e5,h⟩:=aL h
 cases h
 show p5<=l.length
 rw[aU] at e5
 split at e5
 ·rename_i du
  have:=gD (l:=l) (p:=r.2) (by rw[du];decide)
  cases e5
  (clear du;omega)
 ·cases e5
theorem Fk{t:Br.Bytes}{c:Br.Catalogue}:∀{n p:Nat},p<=t.length->Br.toEnd (Br.line_ c) n (At t p)=Xa t (List.map iZ) (cF ((c.map λ(p:Br.Part)=>p.name).map aX) (aX t) n p)
 |0,p,hp=>by
  rw[xG]
  show _=if p=t.length then Except.ok (([]:List (List Nat)).map iZ,At t p) else .error p
  by_cases h:p=t.length
  ·rw[ac h,aa (by rw[jB];(clear hp;omega))]
   rfl
  ·rw[aa h,ac (by rw[jB];omega)]
 |n+1,p,hp=>by
  rw[wL,cF]
  by_cases h:p=t.length
  ·rw[aa (by rw[jB];(clear hp;omega)),ac (by rw[fG];exact h)]
   show _=if p=t.length then Except.ok (([]:List (List Nat)).map iZ,At t p) else .error p
   rw[ac h]
   rfl
  ·rw[ac (by rw[jB];omega),aa (by rw[fG];exact h),Ub]
   cases e:eQ ((c.map λ(p:Br.Part)=>p.name).map aX) (aX t) p with
   |error i=>rfl
   |ok q=>
    have hq:=Wr e
    rw[fG] at hq
    show eG (Br.toEnd (Br.line_ c) n (At t q.2)) (λy=>Except.ok (iZ q.1::y.1,y.2))=Xa t (List.map iZ) (gG q.1 (cF _ (aX t) n q.2))
    rw[Fk hq]
    cases cF ((c.map λ(p:Br.Part)=>p.name).map aX) (aX t) n q.2 with
    |error i=>rfl
    |ok r=>
     show eG (if r.2=t.length then (Except.ok (r.1.map iZ,At t r.2):Except Nat _) else .error r.2) (λy=>Except.ok (iZ q.1::y.1,y.2))=if r.2=t.length then Except.ok ((q.1::r.1).map iZ,At t r.2) else .error r.2
     by_cases hr:r.2=t.length
     ·rw[ac hr,ac hr];rfl
     ·rw[aa hr,aa hr];rfl
theorem Mh{l:List Int}{p q:Nat}(e:aU l p [10]=.ok q):q<=l.length:=by
 rw[aU] at e
 split at e
 ·rename_i du
  have:=gD (l:=l) (p:=p) (by rw[du];decide)
  cases e
  (clear du;omega)
 ·cases e
theorem Sd(t:Br.Bytes)(c:Br.Catalogue):Br.readB c t=eG (dH ((c.map λ(p:Br.Part)=>p.name).map aX) (aX t)) λb=>.ok (⟨b.1.map rJ,b.2.map iZ⟩:Br.Build):=by
 show (((Br.bytes_ (Br.ascii "build ")>>=λ_=>Br.longName_>>=λn=>Br.byte_ 10>>=λ_=>Br.toEnd (Br.line_ c) 256>>=λl=>pure (⟨n,l⟩:Br.Build)) (At t 0)).map λ(x:Br.Build×(Nat×Br.Bytes))=>x.1)=_
 unfold dH
 rw[Dg,bF,pV (cs:=[98,117,105,108,100,32])]
 show _=eG (eG (aU (aX t) 0 (([98,117,105,108,100,32]:Br.Bytes).map UInt8.toNat)) _) _
 cases aU (aX t) 0 (([98,117,105,108,100,32]:Br.Bytes).map UInt8.toNat) with
 |error i=>rfl
 |ok p1=>
  show (((Br.longName_>>=λn=>Br.byte_ 10>>=λ_=>Br.toEnd (Br.line_ c) 256>>=λl=>pure (⟨n,l⟩:Br.Build)) (At t p1)).map λ(x:Br.Build×(Nat×Br.Bytes))=>x.1)=eG (eG (gE (aX t) p1 16) _) _
  rw[bF,Dv]
  cases gE (aX t) p1 16 with
  |error i=>rfl
  |ok nm=>
   show (((Br.byte_ 10>>=λ_=>Br.toEnd (Br.line_ c) 256>>=λl=>pure (⟨nm.1.map rJ,l⟩:Br.Build)) (At t nm.2)).map λ(x:Br.Build×(Nat×Br.Bytes))=>x.1)=eG (eG (aU (aX t) nm.2 [10]) _) _
   rw[bF,nW (c:=10)]
   show ((eG (Jb t (aU (aX t) nm.2 [10])) _).map _)=_
   cases e3:aU (aX t) nm.2 [10] with
   |error i=>rfl
   |ok p3=>
    have u7:=Mh e3
    rw[fG] at u7
    show (((Br.toEnd (Br.line_ c) 256>>=λl=>pure (⟨nm.1.map rJ,l⟩:Br.Build)) (At t p3)).map λ(x:Br.Build×(Nat×Br.Bytes))=>x.1)=eG (eG (cF ((c.map λ(p:Br.Part)=>p.name).map aX) (aX t) 256 p3) λr=>if r.2=(aX t).length then .ok (nm.1,r.1) else .error r.2) λb=>.ok (⟨b.1.map rJ,b.2.map iZ⟩:Br.Build)
    rw[bF,Fk u7]
    cases cF ((c.map λ(p:Br.Part)=>p.name).map aX) (aX t) 256 p3 with
    |error i=>rfl
    |ok r=>
     show ((eG (if r.2=t.length then (Except.ok (r.1.map iZ,At t r.2):Except Nat _) else .error r.2) λy=>Except.ok ((⟨nm.1.map rJ,y.1⟩:Br.Build),y.2)).map λ(x:Br.Build×(Nat×Br.Bytes))=>x.1)=eG (if r.2=(aX t).length then .ok (nm.1,r.1) else .error r.2) λb=>.ok (⟨b.1.map rJ,b.2.map iZ⟩:Br.Build)
     rw[fG]
     by_cases hr:r.2=t.length
     ·rw[ac hr,ac hr];rfl
     ·rw[aa hr,aa hr];rfl
theorem vX{l:List Int}{hi:Int}:∀{n p:Nat}{v:Int},v<=hi->(dA l hi n p v).1<=hi
 |0,p,v,h=>h
 |n+1,p,v,h=>by
  rw[dA]
  split
  ·rename_i q
   exact vX q.2.2
  ·exact h
theorem xK{l:List Int}{hi:Int}:∀{n p:Nat}{v:Int},0<=v->v<=(dA l hi n p v).1
 |0,p,v,h=>HP _
 |n+1,p,v,h=>by
  rw[dA]
  split
  ·rename_i q
   have:=iK q.2.1
   have:=xK (l:=l) (hi:=hi) (n:=n) (p:=p+1) (v:=v * 10+aR l p - 48) (by (clear q;omega))
   (clear q;omega)
  ·exact HP _
theorem lB{l:List Int}{p lo hi:Nat}{v:Nat×Nat}(h:iY l p lo hi=.ok v):lo<=v.1/\v.1<=hi:=by
 unfold iY at h
 split at h
 ·rename_i ok
  cases h
  obtain⟨h1,h2,h3⟩:=ok
  have a:=vX (l:=l) (hi:=hi) (n:=l.length - (p+1)) (p:=p+1) h3
  have b:=xK (l:=l) (hi:=hi) (n:=l.length - (p+1)) (p:=p+1) (v:=aR l p - 48) (by (clear a h3;omega))
  show lo<=(eD l p hi).1.toNat/\(eD l p hi).1.toNat<=hi
  unfold eD
  (clear h3;omega)
 ·cases h
theorem Fd{l:List Int}:∀{n p:Nat}{r:List Int×Nat},bV l n p=.ok r->∀s∈r.1,s∈cJ
 |0,p,r,h=>by cases h;intro s hs;cases hs
 |n+1,p,r,h=>by
  rw[bV] at h
  split at h
  ·rename_i aq
   obtain⟨q,e,rfl⟩:=fP h
   intro s hs
   rcases aw.mp hs with rfl|hs
   ·exact aq
   ·exact Fd e s hs
  ·cases h
theorem Ul{l:List Int}{w p:Nat}{r:List Int×Nat}(h:fC l w p=.ok r):r.1.length=w/\∀s∈r.1,s∈cJ:=by
 unfold fC at h
 split at h
 ·rename_i q e
  split at h
  ·cases h
   exact⟨Ad (r:=q) e,λs hs=>Fd (r:=q) e s hs⟩
  ·cases h
 ·cases h
theorem Er{l:List Int}{w:Nat}:∀{n p:Nat} {r:List (List Int)×Nat},bN l w n p=.ok r->r.1.length=n/\∀x∈r.1,x.length=w/\∀s∈x,s∈cJ
 |0,p,r,h=>by cases h;exact⟨rfl,λx hx=>by cases hx⟩
 |n+1,p,r,h=>by
  rw[bN] at h
  cases e:fC l w p with
  |error i=>rw[e] at h;cases h
  |ok q=>
   rw[e] at h
   obtain⟨q',e2,rfl⟩:=fP h
   obtain⟨h1,h2⟩:=Er e2
   refine⟨by rw[bn,h1],λx hx=>?_⟩
   rcases aw.mp hx with rfl|hx
   ·exact Ul e
   ·exact h2 x hx
theorem oY{l:List Int}:∀{n p:Nat}{x:Int},x∈bE l p n->gX x=true
 |0,p,x,h=>by simp[bE] at h
 |n+1,p,x,h=>by
  rw[bE] at h
  split at h
  ·rename_i ha
   rcases aw.mp h with rfl|h
   ·exact ha
   ·exact oY h
  ·cases h
structure eJ(pr:aM):Prop where
 w1:1<=pr.w
 w2:pr.w<=16
 d1:1<=pr.d
 d2:pr.d<=16
 h1:1<=pr.h
 h2:pr.h<=18
 rl:pr.rows.length=pr.d * pr.h
 rw:∀x∈pr.rows,x.length=pr.w
 sg:∀x∈pr.rows,∀s∈x,s∈cJ
 nm:∀x∈pr.name,gX x=true
theorem Kq{l:List Int}{p:Nat}{q:aM×Nat}(h:dN l p=.ok q):eJ q.1:=by
 unfold dN at h
 obtain⟨p1,_,h⟩:=aL h
 obtain⟨nm,en,h⟩:=aL h
 obtain⟨_,_,h⟩:=aL h
 obtain⟨w,ew,h⟩:=aL h
 obtain⟨_,_,h⟩:=aL h
 obtain⟨d,ed,h⟩:=aL h
 obtain⟨_,_,h⟩:=aL h
 obtain⟨hh,eh,h⟩:=aL h
 obtain⟨_,_,h⟩:=aL h
 obtain⟨g,_,h⟩:=aL h
 obtain⟨_,_,h⟩:=aL h
 obtain⟨rs,er,h⟩:=aL h
 cases h
 obtain⟨a1,a2⟩:=lB (lo:=1) (hi:=16) ew
 obtain⟨b1,b2⟩:=lB (lo:=1) (hi:=16) ed
 obtain⟨c1,c2⟩:=lB (lo:=1) (hi:=18) eh
 obtain⟨r1,r2⟩:=Er er
 refine⟨a1,a2,b1,b2,c1,c2,r1,λx hx=>(r2 x hx).1,λx hx=>(r2 x hx).2,?_⟩
 unfold gE at en
 split at en
 ·cases en
  exact λx hx=>oY hx
 ·cases en
theorem Ec{l:List Int}:∀{n p:Nat}{q:List aM×Nat},cM l n p=.ok q->∀pr∈q.1,eJ pr
 |0,p,q,h=>by cases h;intro pr hp;cases hp
 |n+1,p,q,h=>by
  rw[cM] at h
  split at h
  ·cases h;intro pr hp;cases hp
  ·obtain⟨q1,e1,h⟩:=aL h
   obtain⟨q2,e2,rfl⟩:=fP h
   intro pr hp
   rcases aw.mp hp with rfl|hp
   ·exact Kq e1
   ·exact Ec e2 pr hp
theorem Qq{l:List Int}{prs:List aM}(h:hX l=.ok prs):∀pr∈prs,eJ pr:=by
 unfold hX at h
 obtain⟨q,e1,h⟩:=aL h
 obtain⟨r,e2,h⟩:=aL h
 split at h
 ·cases h
  intro pr hp
  rcases aw.mp hp with rfl|hp
  ·exact Kq e1
  ·exact Ec e2 pr hp
 ·cases h
theorem Rn:∀l:List Int,(∀x∈l,gX x=true)->aX (l.map rJ)=l:=by
 intro l
 induction l with
 |nil=>intro _;rfl
 |cons x r ih=>
  intro hx
  have h1:=hx x bg
  have h2:0<=x/\x<256:=by
   unfold gX jW jM at h1
   rw[qm,cg,cg,bu,bu,bu,bu] at h1
   omega
  have h3:((rJ x).toNat:Int)=x:=by
   unfold rJ
   rw[MX]
   omega
  show ((rJ x).toNat:Int)::aX (r.map rJ)=x::r
  rw[h3,ih λy hy=>hx y (az _ hy)]
theorem rZ{pr:aM}(h:eJ pr):aX (pr.name.map rJ)=pr.name:=Rn _ h.nm
theorem Ac:∀a b:Br.Bytes,Br.before a b= !HT.gF (aX b) (aX a)
 |[],[]=>rfl
 |[],_::_=>rfl
 |_::_,[]=>rfl
 |x::a,y::b=>by
  have ih:=Ac a b
  show (decide (x.toNat<y.toNat)||(x==y && Br.before a b))= !(if (y.toNat:Int)=(x.toNat:Int) then HT.gF (aX b) (aX a) else decide ((y.toNat:Int)<=(x.toNat:Int)))
  by_cases h:x=y
  ·subst h
   rw[ac rfl,ih]
   simp
  ·have h2:¬x.toNat=y.toNat:=λz=>h (UInt8.toNat_inj.mp z)
   have hb:(x==y)=false:=vg.mpr h
   rw[aa (by (clear h;omega)),hb,j9,Bool.or_false,f7,ck,bu,j0]
   (clear h2 h;omega)
def iV(p:Br.Part):Bool:=p.studsOk && (p.tubesOk && (p.tight && p.whole))
def Sx:Option Br.Bytes->Br.Part->Bool
 |some n,p=>Br.before n p.name
 |none,_=>true
def lA:Option Br.Bytes->List Br.Part->Bool
 |_,[]=>true
 |last,p::r=>Sx last p && lA (some p.name) r
theorem tN(last:Option Br.Bytes)(p:Br.Part)(r:List Br.Part):lA last (p::r)=(Sx last p && lA (some p.name) r):=by cases last<;>rfl
theorem Hv{p:Br.Part}{last:Option Br.Bytes}:(p.wrong last).isSome= !(iV p && Sx last p):=by
 unfold Br.Part.wrong iV
 cases p.studsOk<;>cases p.tubesOk<;>cases p.tight<;>cases p.whole<;>try rfl
 cases last with
 |none=>rfl
 |some n=>
  show (if Br.before n p.name=true then Option.none else some 5).isSome= !(true && (true && (true && true)) && Br.before n p.name)
  cases Br.before n p.name<;>rfl
theorem wG:∀{l:List Br.Part}{i:Nat}{last:Option Br.Bytes},(Br.wrongFrom i last l).isSome= !(l.all iV && lA last l)
 |[],i,last=>rfl
 |p::r,i,last=>by
  have ih:=wG (l:=r) (i:=i+1) (last:=some p.name)
  have hp:=Hv (p:=p) (last:=last)
  rw[Br.wrongFrom]
  cases e:p.wrong last with
  |some k=>
   rw[e] at hp
   show true=_
   rw[qj,tN]
   have hp:true= !(iV p && Sx last p):=hp
   cases hg:iV p
   ·rfl
   ·rw[hg,gz] at hp
    have h2:Sx last p=false:=by
     cases z:Sx last p
     ·rfl
     ·rw[z] at hp;cases hp
    rw[h2,j9,ye]
    rfl
  |none=>
   rw[e] at hp
   show (Br.wrongFrom (i+1) (some p.name) r).isSome=_
   rw[ih,qj,tN]
   have hp:false= !(iV p && Sx last p):=hp
   have h3:(iV p && Sx last p)=true:=by
    cases z:(iV p && Sx last p)
    ·rw[z] at hp;cases hp
    ·rfl
   rw[cg] at h3
   rw[h3.1,h3.2,gz,gz]
theorem oX:∀{prs:List aM}{last:Option aM},(∀pr∈prs,eJ pr)->(∀q,last=some q->eJ q)->lA (last.map λq=>q.name.map rJ) (prs.map cG)=jG ((last.toList++prs).map (·.name))
 |[],none,_,_=>rfl
 |[],some q,_,_=>rfl
 |pr::r,none,h,_=>by
  show (true && lA (some (pr.name.map rJ)) (r.map cG))=_
  rw[gz]
  exact oX (last:=some pr) (λx hx=>h x (az _ hx)) λq hq=>by cases hq;exact h _ bg
 |pr::r,some q,h,hq=>by
  have ih:=oX (prs:=r) (last:=some pr) (λx hx=>h x (az _ hx)) λq hq=>by cases hq;exact h _ bg
  show (Br.before (q.name.map rJ) (pr.name.map rJ) && lA (some (pr.name.map rJ)) (r.map cG))=jG (q.name::pr.name::r.map (·.name))
  rw[Ac,rZ (h _ bg),rZ (hq q rfl),jG]
  have ih:lA (some (pr.name.map rJ)) (r.map cG)=jG (pr.name::r.map (·.name)):=ih
  rw[ih]
theorem No{prs:List aM}(h:∀pr∈prs,eJ pr)(hg:∀pr∈prs,iV (cG pr)=gR pr):(Br.wrong (prs.map cG)).isSome= !mP prs:=by
 unfold Br.wrong mP
 rw[wG]
 have e1:(prs.map cG).all iV=prs.all gR:=by
  rw[CH]
  have key:∀l:List aM,(∀pr∈l,iV (cG pr)=gR pr)->l.all (iV∘cG)=l.all gR:=by
   intro l
   induction l with
   |nil=>intro _;rfl
   |cons a r ih=>
    intro hx
    rw[qj,qj,ih λy hy=>hx y (az _ hy)]
    show (iV (cG a) && _)=_
    rw[hx a bg]
  exact key prs hg
 have e2:=oX (prs:=prs) (last:=none) h (λq hq=>by cases hq)
 rw[e1]
 have e2:lA none (prs.map cG)=jG (prs.map (·.name)):=e2
 rw[e2]
abbrev jH:=Nat×Nat×Nat
def bW(s:jH):Pl:=((s.1:Int),(s.2.1:Int),(s.2.2:Int))
theorem fU{a b:jH}(h:bW a=bW b):a=b:=by
 obtain⟨x,y,z⟩:=a
 obtain⟨u,v,w⟩:=b
 unfold bW at h
 simp only[Prod.mk.injEq] at h ⊢
 omega
def fD(w d i:Nat):jH:=(i % w,i / w % d,i / w / d)
theorem lC{w d i x y z:Nat}(h:fD w d i=(x,y,z)):i=(z * d+y) * w+x:=by
 unfold fD at h
 simp only[Prod.mk.injEq] at h
 obtain⟨rfl,rfl,rfl⟩:=h
 have h1:=C4 (i / w) d
 have h2:=C4 i w
 rw[kb (i / w / d) d,h1,kb (i / w) w,h2]
theorem Ib{w d x y z:Nat}(hx:x<w)(hy:y<d):fD w d ((z * d+y) * w+x)=(x,y,z):=by
 have hw:0<w:=by (clear hy;omega)
 have hd:0<d:=by (clear hw hx;omega)
 have e1:((z * d+y) * w+x) / w=z * d+y:=by
  rw[jz,vw _ _ hw,vx hx,kd]
 have e2:((z * d+y) * w+x) % w=x:=by rw[jz,vq,vt hx]
 unfold fD
 rw[e1,e2,jz (z * d),vw _ _ hd,vx hy,kd,vq,vt hy]
theorem kZ{α:Type}{f:Nat->List α}{m:Nat}(hf:∀z,(f z).length=m):∀n,((List.range n).flatMap f).length=n * m
 |0=>by simp
 |n+1=>by
  rw[MY,DD,b6,kZ hf n,HQ,hf,ka]
theorem wW{α:Type}{f:Nat->List α}{m:Nat}(hm:0<m)(hf:∀z,(f z).length=m):∀n i,i<n * m->((List.range n).flatMap f)[i]?=(f (i / m))[i % m]?
 |0,i,h=>by (clear hm;omega)
 |n+1,i,h=>by
  rw[MY,DD,HQ]
  by_cases hi:i<n * m
  ·rw[GO (by rw[kZ hf];exact hi)]
   exact wW hm hf n i hi
  ·rw[CF (by rw[kZ hf];(clear h hm;omega)),kZ hf]
   rw[ka] at h
   have e:i=(i - n * m)+n * m:=by (clear h hm;omega)
   have hl:i - n * m<m:=by (clear e hi;omega)
   have e1:i / m=n:=by
    rw[e,vw _ _ hm,vx hl,kd]
   have e2:i % m=i - n * m:=by
    conv=>lhs;rw[e]
    rw[vq,vt hl]
   rw[e1,e2]
theorem qD{p:Br.Part}(hw:0<p.wide)(hd:0<p.deep):p.spots=(List.range (p.high * (p.deep * p.wide))).map (fD p.wide p.deep):=by
 have l1:∀y z:Nat,((List.range p.wide).map λ(x:Nat)=>(x,y,z)).length=p.wide:=by simp
 have l2:∀z:Nat,((List.range p.deep).flatMap λ(y:Nat)=>(List.range p.wide).map λ(x:Nat)=>(x,y,z)).length=p.deep * p.wide:=λz=>kZ (λy=>l1 y z) _
 apply MZ
 intro i
 unfold Br.Part.spots
 by_cases hi:i<p.high * (p.deep * p.wide)
 ·rw[wW (DE hd hw) l2 _ _ hi,bf,vy hi]
  have aj:i % (p.deep * p.wide)<p.deep * p.wide:=yf _ (DE hd hw)
  rw[wW hw (λy=>l1 y _) _ _ aj,bf,vy (yf _ hw)]
  show some _=some _
  unfold fD
  rw[Nat.mod_mul_left_mod,Nat.mod_mul_left_div_self,kb p.deep p.wide,HR]
 ·rw[qk,qk]
  ·rw[ah,AK];(clear hd hw;omega)
  ·rw[kZ l2];(clear hd hw;omega)
def kept(q:Nat×Int):Bool:= !decide (q.2=46)
def lX(w d:Nat)(q:Nat×Int):Pl×Int:=(bW (fD w d q.1),q.2)
theorem Da{w d j:Nat}:∀(r:List Int)(x:Nat),x+r.length<=w->wJ (j % d) (j / d) x r=(((List.range' (j * w+x) r.length).zip r).filter kept).map (lX w d)
 |[],x,_=>by simp[wJ]
 |s::r,x,h=>by
  rw[bn] at h
  have ih:=Da (w:=w) (d:=d) (j:=j) r (x+1) (by omega)
  have hw:0<w:=by omega
  rw[wJ,ih,bn,List.range'_succ,HI,show j * w+x+1=j * w+(x+1) by (clear hw h;omega)]
  have e1:(j * w+x) / w=j:=by
   rw[jz,vw _ _ hw,vx (by (clear hw;omega)),kd]
  have e2:(j * w+x) % w=x:=by rw[jz,vq,vt (by (clear e1 hw;omega))]
  by_cases hs:s=46
  ·rw[ac hs,qt (by simp[kept,hs]),List.nil_append]
  ·rw[aa hs,t9 (by simp[kept,hs]),bz]
   show _::_=_
   unfold lX bW fD
   simp only[e1,e2]
   rfl
theorem yM{w d:Nat}:∀(rs:List (List Int)) (j:Nat),(∀x∈rs,x.length=w)->pF d j rs=(((List.range' (j * w) rs.flatten.length).zip rs.flatten).filter kept).map (lX w d)
 |[],j,_=>by simp[pF]
 |r::rs,j,h=>by
  have ih:=yM (w:=w) (d:=d) rs (j+1) λx hx=>h x (az _ hx)
  have hr:=h r bg
  have e:=Da (w:=w) (d:=d) (j:=j) r 0 (by omega)
  rw[pF,ih,e,vn,b6,<-List.range'_append_1,List.zip_append (by rw[List.length_range']),List.filter_append,cp,hr,DA,ka]
theorem Fy{w:Nat}:∀{rs:List (List Int)},(∀x∈rs,x.length=w)->rs.flatten.length=rs.length * w
 |[],_=>by simp
 |r::rs,h=>by
  rw[vn,b6,Fy λx hx=>h x (az _ hx),h r bg,bn,ka,jz]
def zP(pr:aM):List (Nat×Int):=(List.range (pr.h * (pr.d * pr.w))).zip pr.rows.flatten
theorem En{pr:aM}(ok:eJ pr):pr.rows.flatten.length=pr.h * (pr.d * pr.w):=by
 rw[Fy ok.rw,ok.rl,kb pr.d,DC]
theorem Ag{pr:aM}(ok:eJ pr):tO pr=((zP pr).filter kept).map (lX pr.w pr.d):=by
 unfold tO zP
 rw[yM pr.rows 0 ok.rw,En ok,Nat.zero_mul,<-List.range_eq_range']
theorem nA(s:Int):(oM s).isCell= !decide (s=46):=by
 unfold oM
 by_cases h:s=46
 ·simp[h,Br.Place.isCell]
 ·rw[aa h]
  simp only[h,HK,Bool.not_false]
  split
  ·rfl
  ·split
   ·rfl
   ·split<;>rfl
theorem xY{s:Int}(h:s∈cJ):(oM s).stud=eA s:=by
 simp only[cJ,aw,f9,or_false] at h
 rcases h with rfl|rfl|rfl|rfl|rfl<;>decide
theorem vY{s:Int}(h:s∈cJ):(oM s).tube=dD s:=by
 simp only[cJ,aw,f9,or_false] at h
 rcases h with rfl|rfl|rfl|rfl|rfl<;>decide
theorem gI(pr:aM):(cG pr).places=pr.rows.flatten.map oM:=by
 show (pr.rows.map (List.map oM)).flatten=_
 rw[List.map_flatten]
theorem Bo{pr:aM}(ok:eJ pr)(f:Br.Place->Bool):(cG pr).such f=((zP pr).filter λq=>f (oM q.2)).map λq=>fD pr.w pr.d q.1:=by
 unfold Br.Part.such
 rw[qD (p:=cG pr) ok.w1 ok.d1,gI]
 show List.map _ (List.filter _ (((List.range (pr.h * (pr.d * pr.w))).map (fD pr.w pr.d)).zip _))=_
 rw[List.zip_map,List.filter_map,d4]
 rfl
theorem pS{pr:aM}(ok:eJ pr):(cG pr).cells=((zP pr).filter kept).map λq=>fD pr.w pr.d q.1:=by
 unfold Br.Part.cells
 rw[Bo ok]
 congr 2
 funext q
 exact nA q.2
theorem oA{pr:aM}(ok:eJ pr):(tO pr).map (·.1)=(cG pr).cells.map bW:=by
 rw[Ag ok,pS ok,d4,d4]
 rfl
theorem rL{pr:aM}(ok:eJ pr){q:Nat×Int}(h:q∈zP pr):q.2∈cJ:=by
 have h2:=(z7 h).2
 obtain⟨r,hr,hs⟩:=List.mem_flatten.mp h2
 exact ok.sg r hr _ hs
theorem uN{pr:aM}(ok:eJ pr)(s:jH):(aV (tO pr) (bW s)).isSome=true↔s∈(cG pr).cells:=by
 rw[dG]
 constructor
 ·rintro⟨c,hc,e⟩
  have:bW s∈(tO pr).map (·.1):=a6.mpr ⟨c,hc,e⟩
  rw[oA ok] at this
  obtain⟨t,ht,e2⟩:=a6.mp this
  rw[<-fU e2];exact ht
 ·intro h
  have:bW s∈(tO pr).map (·.1):=by rw[oA ok];exact o4 h
  obtain⟨c,hc,e⟩:=a6.mp this
  exact⟨c,hc,e⟩
theorem Jt{pr:aM}(ok:eJ pr){i:Nat}{s:Int}:(i,s)∈zP pr↔pr.rows.flatten[i]?=some s:=by
 unfold zP
 rw[lj]
 constructor
 ·rintro⟨k,e⟩
  rw[DF] at e
  obtain⟨e1,e2⟩:=e
  obtain⟨hk,e3⟩:=bh.mp e1
  rw[List.getElem_range] at e3
  subst e3
  exact e2
 ·intro e
  refine⟨i,?_⟩
  rw[DF]
  refine⟨vy ?_,e⟩
  rw[<-En ok]
  exact(bh.mp e).1
theorem pP{pr:aM}(ok:eJ pr)(x y z:Nat):((cG pr).at_ x y z).isCell=true↔(x,y,z)∈(cG pr).cells:=by
 rw[pS ok]
 unfold Br.Part.at_
 show ((if x<pr.w/\y<pr.d/\z<pr.h then (cG pr).places.getD ((z * pr.d+y) * pr.w+x) .none else .none:Br.Place)).isCell=true↔_
 have hN:∀i,i<pr.h * (pr.d * pr.w)->i % pr.w<pr.w/\i / pr.w % pr.d<pr.d/\i / pr.w / pr.d<pr.h:=λi hi=>by
  refine⟨yf _ ok.w1,yf _ ok.d1,?_⟩
  rw[HR]
  apply M0
  rw[kb,kb pr.w]
  exact hi
 constructor
 ·intro h
  split at h
  ·rename_i hr
   rw[gI,cy,bf] at h
   cases e:pr.rows.flatten[(z * pr.d+y) * pr.w+x]? with
   |none=>rw[e] at h;cases h
   |some s=>
    rw[e] at h
    have h:(oM s).isCell=true:=h
    rw[nA] at h
    refine a6.mpr ⟨(_,s),ca.mpr ⟨(Jt ok).mpr e,h⟩,?_⟩
    exact Ib hr.1 hr.2.1
  ·cases h
 ·intro h
  obtain⟨⟨i,s⟩,hm,e⟩:=a6.mp h
  obtain⟨hz,hk⟩:=ca.mp hm
  have hz:=(Jt ok).mp hz
  have hi:i<pr.h * (pr.d * pr.w):=by rw[<-En ok];exact(bh.mp hz).1
  have e:fD pr.w pr.d i=(x,y,z):=e
  have e2:=lC e
  have h3:=hN i hi
  unfold fD at e
  simp only[Prod.mk.injEq] at e
  rw[ac (by (clear e2 hi;omega)),gI,cy,bf,<-e2,hz]
  show (oM s).isCell=true
  rw[nA]
  exact hk
theorem Gk{pr:aM}(ok:eJ pr):(cG pr).studsOk=nG (tO pr):=by
 rw[f7]
 unfold Br.Part.studsOk nG Br.Part.studs
 rw[Bo ok,mh,mh]
 constructor
 ·intro h c hc
  rw[Ag ok] at hc
  obtain⟨q,hq,rfl⟩:=a6.mp hc
  obtain⟨hz,hk⟩:=ca.mp hq
  cases hs:eA (lX pr.w pr.d q).2 with
  |false=>rfl
  |true=>
   have h2:=h (fD pr.w pr.d q.1) (a6.mpr ⟨q,ca.mpr ⟨hz,by rw[xY (rL ok hz)];exact hs⟩,rfl⟩)
   rw[gz,ck,<-o5]
   intro g
   have g2:(aV (tO pr) (bW ((fD pr.w pr.d q.1).1,(fD pr.w pr.d q.1).2.1,(fD pr.w pr.d q.1).2.2+1))).isSome=true:=g
   rw[uN ok,<-pP ok] at g2
   rw[g2] at h2
   cases h2
 ·intro h s hs
  obtain⟨q,hq,rfl⟩:=a6.mp hs
  obtain⟨hz,hk⟩:=ca.mp hq
  rw[xY (rL ok hz)] at hk
  have y9:kept q=true:=by
   unfold kept
   cases e:decide (q.2=46) with
   |false=>rfl
   |true=>rw[bu.mp e] at hk;cases hk
  have h2:=h (lX pr.w pr.d q) (by rw[Ag ok];exact a6.mpr ⟨q,ca.mpr ⟨hz,y9⟩,rfl⟩)
  rw[show eA (lX pr.w pr.d q).2=true from hk,gz,ck,<-o5] at h2
  rw[ck,<-o5]
  intro g
  rw[pP ok,<-uN ok] at g
  exact h2 g
theorem Iu{pr:aM}(ok:eJ pr):(cG pr).tubesOk=mM (tO pr):=by
 rw[f7]
 unfold Br.Part.tubesOk mM Br.Part.tubes
 rw[Bo ok,mh,mh]
 constructor
 ·intro h c hc
  have UZ:=hc
  rw[Ag ok] at hc
  obtain⟨q,hq,rfl⟩:=a6.mp hc
  obtain⟨hz,hk⟩:=ca.mp hq
  cases hs:dD (lX pr.w pr.d q).2 with
  |false=>rfl
  |true=>
   have h2:=h (fD pr.w pr.d q.1) (a6.mpr ⟨q,ca.mpr ⟨hz,by rw[vY (rL ok hz)];exact hs⟩,rfl⟩)
   rw[gz,ck,<-o5]
   intro g
   by_cases h0:(fD pr.w pr.d q.1).2.2=0
   ·obtain⟨c,hc,e⟩:=dG.mp g
    have hm:c.1∈(tO pr).map (·.1):=o4 hc
    rw[oA ok,e] at hm
    obtain⟨t,ht,e2⟩:=a6.mp hm
    have e3:((t.2.2:Nat):Int)=((fD pr.w pr.d q.1).2.2:Int) - 1:=congrArg (λp:Pl=>p.2.2) e2
    omega
   ·have g2:(aV (tO pr) (bW ((fD pr.w pr.d q.1).1,(fD pr.w pr.d q.1).2.1,(fD pr.w pr.d q.1).2.2 - 1))).isSome=true:=by
     have e:bW ((fD pr.w pr.d q.1).1,(fD pr.w pr.d q.1).2.1,(fD pr.w pr.d q.1).2.2 - 1)=pH (lX pr.w pr.d q).1:=by
      refine dk rfl (dk rfl ?_)
      show (((fD pr.w pr.d q.1).2.2 - 1:Nat):Int)=((fD pr.w pr.d q.1).2.2:Int) - 1
      omega
     rw[e];exact g
    rw[uN ok,<-pP ok] at g2
    rw[g2,Bool.not_true,Bool.or_false,cz] at h2
    exact h0 h2
 ·intro h s hs
  obtain⟨q,hq,rfl⟩:=a6.mp hs
  obtain⟨hz,hk⟩:=ca.mp hq
  rw[vY (rL ok hz)] at hk
  have y9:kept q=true:=by
   unfold kept
   cases e:decide (q.2=46) with
   |false=>rfl
   |true=>rw[bu.mp e] at hk;cases hk
  have h2:=h (lX pr.w pr.d q) (by rw[Ag ok];exact a6.mpr ⟨q,ca.mpr ⟨hz,y9⟩,rfl⟩)
  rw[show dD (lX pr.w pr.d q).2=true from hk,gz,ck,<-o5] at h2
  by_cases h0:(fD pr.w pr.d q.1).2.2=0
  ·rw[h0];rfl
  ·rw[qm]
   right
   rw[ck,<-o5]
   intro g
   rw[pP ok,<-uN ok] at g
   have e:bW ((fD pr.w pr.d q.1).1,(fD pr.w pr.d q.1).2.1,(fD pr.w pr.d q.1).2.2 - 1)=pH (lX pr.w pr.d q).1:=by
    refine dk rfl (dk rfl ?_)
    show (((fD pr.w pr.d q.1).2.2 - 1:Nat):Int)=((fD pr.w pr.d q.1).2.2:Int) - 1
    (clear h2;omega)
   rw[e] at g
   exact h2 g
theorem iH{pr:aM}(ok:eJ pr)(a:Nat)(n:Int)(f:jH->Bool)(hf:∀s,f s=true↔coP (bW s) a=n):(cG pr).cells.any f=decide (n∈fM (tO pr) a):=by
 rw[f7,lh,bu]
 have e:fM (tO pr) a=(cG pr).cells.map λs=>coP (bW s) a:=by
  have:fM (tO pr) a=((tO pr).map (·.1)).map λp=>coP p a:=by unfold fM;rw[d4];rfl
  rw[this,oA ok,d4]
  rfl
 rw[e,a6]
 exact⟨λ⟨s,h1,h2⟩=>⟨s,h1,(hf s).mp h2⟩,λ⟨s,h1,h2⟩=>⟨s,h1,(hf s).mpr h2⟩⟩
theorem Ih{pr:aM}(ok:eJ pr):(cG pr).tight=mY (tO pr) pr.w pr.d pr.h:=by
 have hw:=ok.w1
 have hd:=ok.d1
 have hh:=ok.h1
 show ((cG pr).cells.any (λ(s:jH)=>s.1==0) && ((cG pr).cells.any (λ(s:jH)=>s.1+1==pr.w) && ((cG pr).cells.any (λ(s:jH)=>s.2.1==0) && ((cG pr).cells.any (λ(s:jH)=>s.2.1+1==pr.d) && ((cG pr).cells.any (λ(s:jH)=>s.2.2==0) && (cG pr).cells.any λ(s:jH)=>s.2.2+1==pr.h)))))=_
 rw[iH ok 0 0 _ (λs=>by rw[cz];show s.1=0↔(s.1:Int)=0;(clear hh hd hw;omega)),
  iH ok 0 (pr.w - 1) _ (λs=>by rw[cz];show s.1+1=pr.w↔(s.1:Int)=pr.w - 1;(clear hh hd hw;omega)),
  iH ok 1 0 _ (λs=>by rw[cz];show s.2.1=0↔(s.2.1:Int)=0;(clear hh hd hw;omega)),
  iH ok 1 (pr.d - 1) _ (λs=>by rw[cz];show s.2.1+1=pr.d↔(s.2.1:Int)=pr.d - 1;(clear hh hd hw;omega)),
  iH ok 2 0 _ (λs=>by rw[cz];show s.2.2=0↔(s.2.2:Int)=0;(clear hh hd hw;omega)),
  iH ok 2 (pr.h - 1) _ (λs=>by rw[cz];show s.2.2+1=pr.h↔(s.2.2:Int)=pr.h - 1;(clear hh hd hw;omega))]
 unfold mY fB
 simp only[Bool.and_assoc]
inductive eW{α:Type}(E:α->α->Prop)(l rest:List α):α->Prop
 |base {a:α}:a∈l->eW E l rest a
 |step {p q:α}:eW E l rest p->E p q->q∈rest->eW E l rest q
def Oq(p q:jH):Prop:=Br.beside q p=true
theorem Rl{l rest:List jH}{q:jH}:q∈(rest.partition λ(c:jH)=>l.any (Br.beside c)).1↔q∈rest/\∃i∈l,Oq i q:=by
 rw[DG,ca,lh]
 rfl
theorem Wa{l rest:List jH}{q:jH}:q∈(rest.partition λ(c:jH)=>l.any (Br.beside c)).2↔q∈rest/\¬∃i∈l,Oq i q:=by
 rw[DG,ca]
 show _/\(!(l.any (Br.beside q)))=true↔_
 rw[ck,<-o5,lh]
 rfl
theorem lU{α:Type}(f:α->Bool):∀l:List α,(l.filter f).length+(l.filter (not∘f)).length=l.length
 |[]=>rfl
 |a::r=>by
  have ih:=lU f r
  cases h:f a with
  |true=>rw[t9 h,qt (by simp[h]),bn,bn];omega
  |false=>rw[qt (by simp[h]),t9 (by simp[h]),bn,bn];omega
theorem yY:∀{n:Nat}{l rest:List jH},rest.length<=n->(∀x∈l,x∉rest)->(Br.apartFrom n l rest=[]↔∀s∈rest,eW Oq l rest s)
 |0,l,rest,hn,_=>by
  have:rest=[]:=ua (by omega)
  subst this
  exact Iff.intro (λ_ s hs=>absurd hs f9) (λ_=>rfl)
 |n+1,l,rest,hn,dj=>by
  have nm:= @Rl l rest
  have fm:= @Wa l rest
  have ln:(rest.partition λ(c:jH)=>l.any (Br.beside c)).1.length+(rest.partition λ(c:jH)=>l.any (Br.beside c)).2.length=rest.length:=by
   rw[DG]
   exact lU _ _
  show (if (rest.partition λ(c:jH)=>l.any (Br.beside c)).1=[] then rest else Br.apartFrom n (rest.partition λ(c:jH)=>l.any (Br.beside c)).1 (rest.partition λ(c:jH)=>l.any (Br.beside c)).2)=[]↔_
  generalize rest.partition (λ(c:jH)=>l.any (Br.beside c))=pt at nm fm ln
  by_cases h:pt.1=[]
  ·rw[ac h]
   constructor
   ·rintro rfl s hs
    cases hs
   ·intro hs
    have key:∀s,eW Oq l rest s->s∈l:=by
     intro s hf
     induction hf with
     |base ha=>exact ha
     |step _ e hq ih=>
      have:=nm.mpr ⟨hq,_,ih,e⟩
      rw[h] at this
      cases this
    cases rest with
    |nil=>rfl
    |cons a r=>exact absurd bg (dj a (key a (hs a bg)))
  ·rw[aa h]
   have hl:0<pt.1.length:=by
    cases e:pt.1 with
    |nil=>exact absurd e h
    |cons a r=>simp
   rw[yY (n:=n) (by (clear h;omega)) λx hx hy=>(fm.mp hy).2 (nm.mp hx).2]
   constructor
   ·intro hs s hr
    by_cases hx:∃i∈l,Oq i s
    ·obtain⟨i,hi,e⟩:=hx
     exact .step (.base hi) e hr
    ·have hf:=hs s (fm.mpr ⟨hr,hx⟩)
     clear hr hx
     induction hf with
     |base ha=>
      obtain⟨h1,i,hi,e⟩:=nm.mp ha
      exact .step (.base hi) e h1
     |step _ e hq ih=>exact .step ih e (fm.mp hq).1
   ·intro hs s hf
    have KB:=fm.mp hf
    have key:∀s,eW Oq l rest s->s∈l\/eW Oq pt.1 pt.2 s:=by
     intro s hf
     induction hf with
     |base ha=>exact .inl ha
     | @step p q _ e hq ih=>
      right
      by_cases hx:∃i∈l,Oq i q
      ·exact .base (nm.mpr ⟨hq,hx⟩)
      ·rcases ih with h1|h1
       ·exact absurd ⟨p,h1,e⟩ hx
       ·exact .step h1 e (fm.mpr ⟨hq,hx⟩)
    rcases key s (hs s KB.1) with h1|h1
    ·exact absurd KB.1 (dj s h1)
    ·exact h1
def Qb(p q:Pl):Prop:=q∈zT p
theorem nJ{α:Type}[DecidableEq α]:∀{l m:List α},l.Nodup->(∀x∈l,x∈m)->l.length<=m.length
 |[],m,_,_=>da _
 |a::l,m,nd,h=>by
  have nd:=jb.mp nd
  have ha:=h a bg
  have ih:=nJ (l:=l) (m:=m.erase a) nd.2 λx hx=>(List.mem_erase_of_ne (by rintro rfl;exact nd.1 hx)).mpr (h x (az _ hx))
  have:=List.length_erase_of_mem ha
  have hp:=M' ha
  rw[bn]
  (clear nd;omega)
structure Wk(cs:CL)(a:Pl)(si u9:List Pl)(M:Nat)(st:List Pl×List Pl):Prop where
 nd:st.1.Nodup
 ks:∀r∈st.1,(aV cs r).isSome=true/\eW Qb [a] (cs.map (·.1)) r
 ws:∀r∈st.2,r∈st.1
 ol:∀r∈si,r∈st.1
 nw:∀r∈st.1,r∉st.2->r∈si/\r∉u9
 ms:st.2.length+xH cs st.1<=M
theorem vO{cs:CL}{p:Pl}:(aV cs p).isSome=true↔p∈cs.map (·.1):=by
 rw[dG,a6]
theorem Wk.push{cs:CL}{a q:Pl}{si u9:List Pl}{M:Nat}{st:List Pl×List Pl}{p:Pl}(h:Wk cs a si u9 M st)(hq:eW Qb [a] (cs.map (·.1)) q)(hp:p∈zT q):Wk cs a si u9 M (gT cs st p)/\(∀r∈st.1,r∈(gT cs st p).1)/\((aV cs p).isSome=true->p∈(gT cs st p).1):=by
 unfold gT
 by_cases hc:(aV cs p).isSome=true/\p∉st.1
 ·rw[ac hc]
  obtain⟨nd,ks,ws,ol,nw,ms⟩:=h
  refine⟨⟨?_,?_,?_,?_,?_,?_⟩,λr hr=>i9 _ hr,λ_=>fk _ bg⟩
  ·show (st.1++[p]).Nodup
   rw[AL]
   refine⟨nd,by simp,λx hx y hy z=>?_⟩
   rw[b5] at hy
   subst hy
   subst z
   exact hc.2 hx
  ·intro r hr
   rcases c9.mp hr with hr|hr
   ·exact ks r hr
   ·rw[b5] at hr
    subst hr
    exact⟨hc.1,.step hq hp (vO.mp hc.1)⟩
  ·intro r hr
   rcases c9.mp hr with hr|hr
   ·exact i9 _ (ws r hr)
   ·exact fk _ hr
  ·exact λr hr=>i9 _ (ol r hr)
  ·intro r hr hn
   rcases c9.mp hr with hr|hr
   ·exact nw r hr λz=>hn (i9 _ z)
   ·exact absurd (fk _ hr) hn
  ·have:=nE hc.2 hc.1
   show (st.2++[p]).length+xH cs (st.1++[p])<=M
   rw[b6,mf]
   (clear hc;omega)
 ·rw[aa hc]
  refine⟨h,λr hr=>hr,λhg=>?_⟩
  by_cases hm:p∈st.1
  ·exact hm
  ·exact absurd ⟨hg,hm⟩ hc
theorem Wk.all{cs:CL}{a q:Pl}{si u9:List Pl}{M:Nat}(hq:eW Qb [a] (cs.map (·.1)) q):∀{ps:List Pl}{st:List Pl×List Pl},Wk cs a si u9 M st->(∀p∈ps,p∈zT q)->Wk cs a si u9 M (ps.foldl (gT cs) st)/\(∀r∈st.1,r∈(ps.foldl (gT cs) st).1)/\∀p∈ps,(aV cs p).isSome=true->p∈(ps.foldl (gT cs) st).1
 |[],st,h,_=>⟨h,λ_ hr=>hr,λp hp=>by cases hp⟩
 |p::ps,st,h,d3=>by
  obtain⟨h1,h2,h3⟩:=h.push hq (d3 p bg)
  obtain⟨k1,k2,k3⟩:=Wk.all hq h1 λx hx=>d3 x (az _ hx)
  refine⟨k1,λr hr=>k2 r (h2 r hr),λx hx hg=>?_⟩
  rcases aw.mp hx with rfl|hx
  ·exact k2 _ (h3 hg)
  ·exact k3 x hx hg
structure aA3(cs:CL)(a:Pl)(n:Nat)(rs ws:List Pl):Prop where
 nd:rs.Nodup
 ks:∀r∈rs,(aV cs r).isSome=true/\eW Qb [a] (cs.map (·.1)) r
 sb:∀r∈ws,r∈rs
 cl:∀r∈rs,r∉ws->∀q∈zT r,(aV cs q).isSome=true->q∈rs
 ms:ws.length+xH cs rs<=n
theorem Ki{cs:CL}{a:Pl}:∀{n:Nat}{rs ws:List Pl},aA3 cs a n rs ws->(dJ cs n rs ws).Nodup/\(∀r∈dJ cs n rs ws,(aV cs r).isSome=true/\eW Qb [a] (cs.map (·.1)) r)/\(∀r∈dJ cs n rs ws,∀q∈zT r,(aV cs q).isSome=true->q∈dJ cs n rs ws)/\∀r∈rs,r∈dJ cs n rs ws
 |0,rs,ws,h=>by
  have:ws=[]:=ua (by have:=h.ms;omega)
  subst this
  exact⟨h.nd,h.ks,λr hr=>h.cl r hr (by simp),λr hr=>hr⟩
 |n+1,rs,ws,h=>by
  rw[dJ]
  cases e:ws.getLast? with
  |none=>
   have:ws=[]:=List.getLast?_eq_none_iff.mp e
   subst this
   exact⟨h.nd,h.ks,λr hr=>h.cl r hr (by simp),λr hr=>hr⟩
  |some q=>
   obtain⟨w0,rfl⟩:=List.getLast?_eq_some_iff.mp e
   rw[NA]
   have hq:=h.sb q (by simp)
   have p0:Wk cs a rs w0 n (rs,w0):=⟨h.nd,h.ks,λr hr=>h.sb r (i9 _ hr),λr hr=>hr,λr hr hn=>⟨hr,hn⟩,by have:=h.ms;rw[b6,mf] at this;show w0.length+xH cs rs<=n;omega⟩
   obtain⟨k1,k2,k3⟩:=Wk.all (h.ks q hq).2 p0 (ps:=zT q) λp hp=>hp
   have s2:aA3 cs a n ((zT q).foldl (gT cs) (rs,w0)).1 ((zT q).foldl (gT cs) (rs,w0)).2:=by
    refine⟨k1.nd,k1.ks,k1.ws,λr hr hn x hx hg=>?_,k1.ms⟩
    obtain⟨h1,h2⟩:=k1.nw r hr hn
    by_cases KC:r=q
    ·subst KC
     exact k3 x hx hg
    ·exact k2 x (h.cl r h1 (by simp[h2,KC]) x hx hg)
   obtain⟨r1,r2,r3,r4⟩:=Ki s2
   exact⟨r1,r2,r3,λr hr=>r4 r (k2 r hr)⟩
theorem Sz{c:Pl×Int}{r:CL}(nd:((c::r).map (·.1)).Nodup):xX (c::r)=true↔∀p∈(c::r).map (·.1),eW Qb [c.1] ((c::r).map (·.1)) p:=by
 have g0:(aV (c::r) c.1).isSome=true:=dG.mpr ⟨c,bg,rfl⟩
 have u0:1+xH (c::r) [c.1]<=(c::r).length:=by
  rw[mF,ac (by simp),bn]
  have:xH r [c.1]<=r.length:=AJ _ _
  omega
 have s0:aA3 (c::r) c.1 (c::r).length [c.1] [c.1]:=⟨by simp,λx hx=>by rw[b5] at hx;subst hx;exact⟨g0,.base bg⟩,λx hx=>hx,λx hx hn=>absurd hx hn,u0⟩
 obtain⟨r1,r2,r3,r4⟩:=Ki s0
 rw[xX,bu]
 generalize dJ (c::r) (c::r).length [c.1] [c.1]=R at r1 r2 r3 r4
 have sub:∀x∈R,x∈(c::r).map (·.1):=λx hx=>vO.mp (r2 x hx).1
 have fu:=nJ r1 sub
 rw[ah] at fu
 have all:∀x,eW Qb [c.1] ((c::r).map (·.1)) x->x∈R:=by
  intro x hf
  induction hf with
  |base ha=>exact r4 _ ha
  |step _ e hq ih=>exact r3 _ ih _ e (vO.mpr hq)
 constructor
 ·intro hl p hp
  by_cases hm:p∈R
  ·exact(r2 p hm).2
  ·have:=nJ (l:=p::R) (m:=(c::r).map (·.1)) (jb.mpr ⟨hm,r1⟩) λx hx=>by
    rcases aw.mp hx with rfl|hx
    ·exact hp
    ·exact sub x hx
   rw[ah,bn,hl] at this
   (clear hm hl fu u0;omega)
 ·intro h
  have:=nJ nd λx hx=>all x (h x hx)
  rw[ah] at this
  (clear u0;omega)
theorem aDp{p q r:Nat}(h:p+q+r=1):(p=1/\q=0/\r=0)\/(p=0/\q=1/\r=0)\/(p=0/\q=0/\r=1):=by omega
theorem mD{x u:Nat}:(u - x)+(x - u)=0↔(u:Int)=(x:Int):=by omega
theorem Cm{x u:Nat}:(u - x)+(x - u)=1↔(u:Int)=(x:Int) - 1\/(u:Int)=(x:Int)+1:=by omega
theorem zO(a b:jH):Oq a b↔Qb (bW a) (bW b):=by
 obtain⟨x,y,z⟩:=a
 obtain⟨u,v,w⟩:=b
 unfold Oq Qb Br.beside
 rw[cz]
 constructor
 ·intro h
  rcases aDp h with ⟨h1,h2,h3⟩|⟨h1,h2,h3⟩|⟨h1,h2,h3⟩
  ·have e2:(v:Int)=y:=mD.mp h2
   have e3:(w:Int)=z:=mD.mp h3
   rcases Cm.mp h1 with e1|e1
   ·exact aw.mpr (.inl (dk e1 (dk e2 e3)))
   ·exact az _ (aw.mpr (.inl (dk e1 (dk e2 e3))))
  ·have e1:(u:Int)=x:=mD.mp h1
   have e3:(w:Int)=z:=mD.mp h3
   rcases Cm.mp h2 with e2|e2
   ·exact az _ (az _ (aw.mpr (.inl (dk e1 (dk e2 e3)))))
   ·exact az _ (az _ (az _ (aw.mpr (.inl (dk e1 (dk e2 e3))))))
  ·have e1:(u:Int)=x:=mD.mp h1
   have e2:(v:Int)=y:=mD.mp h2
   rcases Cm.mp h3 with e3|e3
   ·exact az _ (az _ (az _ (az _ (az _ (aw.mpr (.inl (dk e1 (dk e2 e3))))))))
   ·exact az _ (az _ (az _ (az _ (aw.mpr (.inl (dk e1 (dk e2 e3)))))))
 ·have fin:∀{p q r:Nat},(p=1/\q=0/\r=0)\/(p=0/\q=1/\r=0)\/(p=0/\q=0/\r=1)->p+q+r=1:=by
   rintro p q r (⟨rfl,rfl,rfl⟩|⟨rfl,rfl,rfl⟩|⟨rfl,rfl,rfl⟩)<;>rfl
  intro h
  refine fin ?_
  have st:∀{c:Pl},bW (u,v,w)=c->(u:Int)=c.1/\(v:Int)=c.2.1/\(w:Int)=c.2.2:=λe=>by rw[<-e];exact⟨rfl,rfl,rfl⟩
  rcases aw.mp h with e|h
  ·obtain⟨e1,e2,e3⟩:=st e
   exact .inl ⟨Cm.mpr (.inl e1),mD.mpr e2,mD.mpr e3⟩
  rcases aw.mp h with e|h
  ·obtain⟨e1,e2,e3⟩:=st e
   exact .inl ⟨Cm.mpr (.inr e1),mD.mpr e2,mD.mpr e3⟩
  rcases aw.mp h with e|h
  ·obtain⟨e1,e2,e3⟩:=st e
   exact .inr (.inl ⟨mD.mpr e1,Cm.mpr (.inl e2),mD.mpr e3⟩)
  rcases aw.mp h with e|h
  ·obtain⟨e1,e2,e3⟩:=st e
   exact .inr (.inl ⟨mD.mpr e1,Cm.mpr (.inr e2),mD.mpr e3⟩)
  rcases aw.mp h with e|h
  ·obtain⟨e1,e2,e3⟩:=st e
   exact .inr (.inr ⟨mD.mpr e1,mD.mpr e2,Cm.mpr (.inr e3)⟩)
  rcases aw.mp h with e|h
  ·obtain⟨e1,e2,e3⟩:=st e
   exact .inr (.inr ⟨mD.mpr e1,mD.mpr e2,Cm.mpr (.inl e3)⟩)
  ·cases h
theorem zB{c:jH}{r:List jH}:∀{s:jH},eW Oq [c] r s↔eW Qb [bW c] ((c::r).map bW) (bW s):=by
 intro s
 constructor
 ·intro h
  induction h with
  |base ha=>rw[b5] at ha;subst ha;exact .base bg
  |step _ e hq ih=>exact .step ih ((zO _ _).mp e) (o4 (az _ hq))
 ·have key:∀p,eW Qb [bW c] ((c::r).map bW) p->∃t,p=bW t/\eW Oq [c] r t:=by
   intro p h
   induction h with
   |base ha=>rw[b5] at ha;exact⟨c,ha,.base bg⟩
   |step _ e hq ih=>
    obtain⟨t,rfl,ht⟩:=ih
    obtain⟨u,hu,rfl⟩:=a6.mp hq
    refine⟨u,rfl,?_⟩
    rcases aw.mp hu with rfl|hu
    ·exact .base bg
    ·exact .step ht ((zO _ _).mpr e) hu
  intro h
  obtain⟨t,e,ht⟩:=key _ h
  rw[fU e]
  exact ht
theorem Ed{pr:aM}(ok:eJ pr):(cG pr).cells.Nodup:=by
 rw[pS ok]
 have sl:List.Sublist (((zP pr).filter kept).map λq=>fD pr.w pr.d q.1) ((zP pr).map λq=>fD pr.w pr.d q.1):=HU _ HV
 refine sl.nodup ?_
 have e:(zP pr).map (λq=>fD pr.w pr.d q.1)=(List.range (pr.h * (pr.d * pr.w))).map (fD pr.w pr.d):=by
  have:(zP pr).map (λq=>fD pr.w pr.d q.1)=((zP pr).map Prod.fst).map (fD pr.w pr.d):=by rw[d4];rfl
  rw[this]
  unfold zP
  rw[NB (by rw[En ok,AK];exact ap _)]
 rw[e]
 refine mi _ (λa b h z=>h ?_) HW
 have h1:=lC (show fD pr.w pr.d a=((fD pr.w pr.d b).1,(fD pr.w pr.d b).2.1,(fD pr.w pr.d b).2.2) from z)
 have h2:=lC (show fD pr.w pr.d b=((fD pr.w pr.d b).1,(fD pr.w pr.d b).2.1,(fD pr.w pr.d b).2.2) from rfl)
 rw[h1,<-h2]
theorem Im{pr:aM}(ok:eJ pr):(cG pr).whole=xX (tO pr):=by
 have ks:=oA ok
 have nd:=Ed ok
 unfold Br.Part.whole
 generalize (cG pr).cells=cl at ks nd
 generalize tO pr=cs at ks
 match cl,cs,ks,nd with
 |[],[],_,_=>rfl
 |[],_::_,ks,_=>cases ks
 |_::_,[],ks,_=>cases ks
 |c::r,k::cs,ks,nd=>
  have ndc:=jb.mp nd
  have hk:k.1=bW c:=(List.cons.inj ks).1
  have RT:((k::cs).map (·.1)).Nodup:=by
   rw[ks]
   exact mi _ (λa b h z=>h (fU z)) nd
  rw[f7,Sz RT,ks,hk]
  show (Br.apartFrom r.length [c] r).isEmpty=true↔_
  rw[List.isEmpty_iff,yY (ap _) (λx hx=>by rw[b5] at hx;subst hx;exact ndc.1)]
  constructor
  ·intro h p hp
   obtain⟨s,hs,rfl⟩:=a6.mp hp
   rcases aw.mp hs with rfl|hs
   ·exact .base bg
   ·exact zB.mp (h s hs)
  ·exact λh s hs=>zB.mpr (h _ (o4 (az _ hs)))
theorem Lf{pr:aM}(ok:eJ pr):iV (cG pr)=gR pr:=by
 unfold iV gR An
 rw[Gk ok,Iu ok,Ih ok,Im ok]
abbrev Hz(l:List Int):Br.Bytes:=BuildsNeutral.text l
def Oo(l:List Int):Prop:=∀x∈l,0<=x/\x<=255
theorem Be:∀{l:List Int},Oo l->aX (Hz l)=l
 |[],_=>rfl
 |x::r,h=>by
  have h1:=h x bg
  have ih:=Be (l:=r) λy hy=>h y (az _ hy)
  have e:((UInt8.ofNat x.toNat).toNat:Int)=x:=by
   rw[MX]
   omega
  show ((UInt8.ofNat x.toNat).toNat:Int)::aX (Hz r)=x::r
  rw[ih,e]
def aBs(tc tb:Br.Bytes):Vn->Prop
 |.no n=>(n= -2/\(BrB.LOOKED<tc.length\/BrB.BUILT<tb.length))\/(n= -6/\¬(BrB.LOOKED<tc.length\/BrB.BUILT<tb.length)/\∃e,Br.readC tc=.error e)\/(n= -8/\¬(BrB.LOOKED<tc.length\/BrB.BUILT<tb.length)/\∃k,Br.readC tc=.ok k/\(Br.wrong k).isSome=true)
 |.bad i=>¬(BrB.LOOKED<tc.length\/BrB.BUILT<tb.length)/\∃k,Br.readC tc=.ok k/\¬(Br.wrong k).isSome=true/\Br.readB k tb=.error i
 |.ok prs nm ls=>¬(BrB.LOOKED<tc.length\/BrB.BUILT<tb.length)/\(∀pr∈prs,eJ pr)/\Br.readC tc=.ok (prs.map cG)/\¬(Br.wrong (prs.map cG)).isSome=true/\∃d,Br.readB (prs.map cG) tb=.ok d/\d.lines=ls.map iZ/\aX d.name=nm
theorem Ql{ag:List (List Int)}{l:List Int}{b:List Int×List (List Nat)}(h:dH ag l=.ok b):∀x∈b.1,gX x=true:=by
 unfold dH at h
 obtain⟨_,_,h⟩:=aL h
 obtain⟨nm,en,h⟩:=aL h
 obtain⟨_,_,h⟩:=aL h
 obtain⟨r,_,h⟩:=aL h
 split at h
 ·cases h
  unfold gE at en
  split at en
  ·cases en
   exact λx hx=>oY hx
  ·cases en
 ·cases h
theorem Ep{lc lb:List Int}(hc:Oo lc)(hb:Oo lb):aBs (Hz lc) (Hz lb) (dB lc lb):=by
 have l1:lc.length=(Hz lc).length:=(ah _).symm
 have l2:lb.length=(Hz lb).length:=(ah _).symm
 unfold dB
 by_cases hl:1048576<lc.length\/16384<lb.length
 ·rw[ac hl]
  exact .inl ⟨rfl,by rw[l1,l2] at hl;exact hl⟩
 ·rw[aa hl]
  have gj:¬(BrB.LOOKED<(Hz lc).length\/BrB.BUILT<(Hz lb).length):=by rw[l1,l2] at hl;exact hl
  have rc:=Se (Hz lc)
  rw[Be hc] at rc
  cases e:hX lc with
  |error i=>
   rw[e] at rc
   exact .inr (.inl ⟨rfl,gj,i,rc⟩)
  |ok prs=>
   rw[e] at rc
   have rc:Br.readC (Hz lc)=.ok (prs.map cG):=rc
   have ok:=Qq e
   have wr:=No ok λpr hp=>Lf (ok pr hp)
   show aBs _ _ (if mP prs=true then (match dH (prs.map (·.name)) lb with
    |.error i=>.bad i
    |.ok b=>.ok prs b.1 b.2) else .no (-8))
   by_cases hk:mP prs=true
   ·rw[ac hk]
    rw[hk] at wr
    have nw:¬(Br.wrong (prs.map cG)).isSome=true:=by rw[wr];decide
    have rb:=Sd (Hz lb) (prs.map cG)
    have en:((prs.map cG).map λ(p:Br.Part)=>p.name).map aX=prs.map (·.name):=by
     rw[d4,d4]
     refine AM λpr hp=>?_
     exact rZ (ok pr hp)
    rw[Be hb,en] at rb
    cases e2:dH (prs.map (·.name)) lb with
    |error i=>
     rw[e2] at rb
     exact⟨gj,_,rc,nw,rb⟩
    |ok b=>
     rw[e2] at rb
     exact⟨gj,ok,rc,nw,_,rb,rfl,Rn _ (Ql e2)⟩
   ·rw[aa hk]
    have:mP prs=false:=by simpa using hk
    rw[this] at wr
    exact .inr (.inr ⟨rfl,gj,_,rc,by rw[wr];rfl⟩)
structure TP where
 W:Int
 D:Int
 Hh:Int
 cs:CL
def fO(W:Int)(p:Pl):Pl:=(p.2.1,W - 1 - p.1,p.2.2)
def Qc(W:Int)(cs:CL):CL:=cs.map λc=>(fO W c.1,c.2)
def Iw(t:TP):TP:=⟨t.D,t.W,t.Hh,Qc t.W t.cs⟩
def gJ(t:TP):Nat->TP
 |0=>t
 |n+1=>Iw (gJ t n)
def xA(pr:aM):TP:=⟨pr.w,pr.d,pr.h,tO pr⟩
def lM(t:TP)(x y z:Int):Bool:=decide (64<x+t.W)||(decide (64<y+t.D)||decide (96<z+t.Hh))
def lY(x y z:Int)(p:Pl):Pl:=(x+p.1,y+p.2.1,z+p.2.2)
def Do(x y z:Int)(cs:CL):CL:=cs.map λc=>(lY x y z c.1,c.2)
def gB(ow cells:CL):List Int:=cells.filterMap λc=>aV ow c.1
def mB(sg ow:CL)(c:Pl×Int):List Int:=match aV sg (jK c.1) with
 |some s=>if eA c.2=true/\dD s=false then (aV ow (jK c.1)).toList else []
 |none=>[]
def oN(sg ow:CL)(c:Pl×Int):List Int:=match aV sg (pH c.1) with
 |some s=>if dD c.2=false/\eA s=true then (aV ow (pH c.1)).toList else []
 |none=>[]
def cO(cells sg ow:CL):List Int:=cells.flatMap λc=>mB sg ow c++oN sg ow c
def rO:List Int->Int
 |[]=>0
 |[a]=>a
 |a::r=>min a (rO r)
def dM(x:List Nat)(k:Nat):Nat:=x.getD k 0
def tY(prs:List aM)(x:List Nat):TP:=gJ ((prs[dM x 0]?).elim ⟨0,0,0,[]⟩ xA) (dM x 5)
def cT(prs:List aM)(x:List Nat):CL:=Do (dM x 2) (dM x 3) (dM x 4) (tY prs x).cs
def cQ(prs:List aM):Nat->CL->CL->List (List Nat)->List Int
 |_,_,_,[]=>[]
 |j,sg,ow,x::r=>
  if lM (tY prs x) (dM x 2) (dM x 3) (dM x 4)=true then [1,j,j] else
  if 0<(gB ow (cT prs x)).length then [2,j,rO (gB ow (cT prs x))] else
  if 0<(cO (cT prs x) sg ow).length then [3,j,rO (cO (cT prs x) sg ow)] else
  cQ prs (j+1) (sg++cT prs x) (ow++(cT prs x).map λc=>(c.1,(j:Int))) r
theorem vM:∀{l:List Int},l≠[]->rO l∈l
 |[],h=>absurd rfl h
 |[a],_=>bg
 |a::b::r,_=>by
  have ih:=vM (l:=b::r) (by simp)
  show min a (rO (b::r))∈a::b::r
  rcases Int.le_total a (rO (b::r)) with h|h
  ·rw[Int.min_eq_left h];exact bg
  ·rw[Int.min_eq_right h];exact az _ ih
theorem Ce:∀{l:List Int}{y:Int},y∈l->rO l<=y
 |[],y,h=>by cases h
 |[a],y,h=>by rw[b5] at h;subst h;exact HP _
 |a::b::r,y,h=>by
  show min a (rO (b::r))<=y
  rcases aw.mp h with rfl|h
  ·exact Int.min_le_left _ _
  ·have:=Ce h
   have:=Int.min_le_right a (rO (b::r))
   omega
theorem Iz{l:List Int}{m:Int}(h1:m∈l)(h2:∀y∈l,m<=y):m=rO l:=by
 have a:=Ce h1
 have b:=h2 _ (vM (l:=l) (by rintro rfl;cases h1))
 omega
structure Shp(p:Br.Part):Prop where
 w:1<=p.wide
 d:1<=p.deep
 h:1<=p.high
 l:p.places.length=p.high * (p.deep * p.wide)
theorem Gb{p:Br.Part}(ok:Shp p){f:Br.Place->Bool}(f0:f .none=false){s:jH}:s∈p.such f↔f (p.at_ s.1 s.2.1 s.2.2)=true:=by
 obtain⟨x,y,z⟩:=s
 unfold Br.Part.such Br.Part.at_
 rw[qD ok.w ok.d,a6]
 have hN:∀i,i<p.high * (p.deep * p.wide)->i % p.wide<p.wide/\i / p.wide % p.deep<p.deep/\i / p.wide / p.deep<p.high:=λi hi=>by
  refine⟨yf _ ok.w,yf _ ok.d,?_⟩
  rw[HR]
  apply M0
  rw[kb,kb p.wide]
  exact hi
 constructor
 ·rintro⟨⟨t,pl⟩,hm,e⟩
  obtain⟨hz,hf⟩:=ca.mp hm
  obtain⟨i,e1⟩:=lj.mp hz
  rw[DF] at e1
  obtain⟨e1,e2⟩:=e1
  have hi:i<p.high * (p.deep * p.wide):=by rw[<-ok.l];exact(bh.mp e2).1
  rw[bf,vy hi] at e1
  have e1:fD p.wide p.deep i=t:=by simpa using e1
  have e:t=(x,y,z):=e
  subst e
  have e3:=lC e1
  have h3:=hN i hi
  unfold fD at e1
  simp only[Prod.mk.injEq] at e1
  show f (if x<p.wide/\y<p.deep/\z<p.high then _ else _)=true
  rw[ac (by omega),cy]
  show f ((p.places[(z * p.deep+y) * p.wide+x]?).getD .none)=true
  rw[<-e3,e2]
  exact hf
 ·intro h
  have h:f (if x<p.wide/\y<p.deep/\z<p.high then p.places.getD ((z * p.deep+y) * p.wide+x) .none else .none)=true:=h
  split at h
  ·rename_i hr
   have aj:(z * p.deep+y) * p.wide+x<p.high * (p.deep * p.wide):=by
    have h1:(z * p.deep+y)+1<=p.high * p.deep:=by
     have:(z+1) * p.deep<=p.high * p.deep:=ya _ hr.2.2
     rw[ka] at this
     omega
    have h2:=ya p.wide h1
    rw[ka,DC] at h2
    omega
   rw[cy] at h
   have hp:(z * p.deep+y) * p.wide+x<p.places.length:=by rw[ok.l];exact aj
   rw[ba hp] at h
   refine⟨((x,y,z),p.places[(z * p.deep+y) * p.wide+x]),ca.mpr ⟨?_,h⟩,rfl⟩
   refine lj.mpr ⟨(z * p.deep+y) * p.wide+x,?_⟩
   rw[DF]
   refine⟨?_,ba hp⟩
   rw[bf,vy aj]
   show some (fD _ _ _)=_
   rw[Ib hr.1 hr.2.1]
  ·rw[f0] at h;cases h
structure Rep(t:TP)(p:Br.Part):Prop where
 sh:Shp p
 w:t.W=p.wide
 d:t.D=p.deep
 h:t.Hh=p.high
 nd:(t.cs.map (·.1)).Nodup
 mem:∀(q:Pl)(v:Int),(q,v)∈t.cs↔∃s:jH,q=bW s/\v∈cJ/\(p.at_ s.1 s.2.1 s.2.2).isCell=true/\p.at_ s.1 s.2.1 s.2.2=oM v
theorem Ea{p:Br.Part}{x y z:Nat}(h:(p.at_ x y z).isCell=true):x<p.wide/\y<p.deep/\z<p.high:=by
 unfold Br.Part.at_ at h
 split at h
 ·rename_i hr;exact hr
 ·cases h
theorem Uv{pr:aM}(ok:eJ pr):Rep (xA pr) (cG pr):=by
 have hl:(cG pr).places.length=pr.h * (pr.d * pr.w):=by rw[gI,ah,En ok]
 refine⟨⟨ok.w1,ok.d1,ok.h1,hl⟩,rfl,rfl,rfl,?_,?_⟩
 ·show ((tO pr).map (·.1)).Nodup
  rw[oA ok]
  exact mi _ (λa b h z=>h (fU z)) (Ed ok)
 ·intro q v
  show (q,v)∈tO pr↔_
  rw[Ag ok,a6]
  constructor
  ·rintro⟨⟨i,s⟩,hm,e⟩
   obtain⟨hz,hk⟩:=ca.mp hm
   cases e
   have hc:fD pr.w pr.d i∈(cG pr).cells:=by rw[pS ok];exact a6.mpr ⟨_,hm,rfl⟩
   have di:=(pP ok (fD pr.w pr.d i).1 (fD pr.w pr.d i).2.1 (fD pr.w pr.d i).2.2).mpr hc
   refine⟨fD pr.w pr.d i,rfl,rL ok hz,di,?_⟩
   have aq:=Ea di
   have e2:=lC (w:=pr.w) (d:=pr.d) (i:=i) (x:=(fD pr.w pr.d i).1) (y:=(fD pr.w pr.d i).2.1) (z:=(fD pr.w pr.d i).2.2) rfl
   unfold Br.Part.at_
   rw[ac aq,gI,cy,bf]
   show ((pr.rows.flatten[((fD pr.w pr.d i).2.2 * pr.d+(fD pr.w pr.d i).2.1) * pr.w+(fD pr.w pr.d i).1]?).map oM).getD .none=_
   rw[<-e2,(Jt ok).mp hz]
   rfl
  ·rintro⟨s,rfl,hv,hc,he⟩
   have aq:=Ea hc
   unfold Br.Part.at_ at he
   rw[ac aq,gI,cy,bf] at he
   have he:((pr.rows.flatten[(s.2.2 * pr.d+s.2.1) * pr.w+s.1]?).map oM).getD .none=oM v:=he
   have mq:(oM v).isCell=true:=by
    unfold Br.Part.at_ at hc
    rw[ac aq,gI,cy,bf] at hc
    rw[<-he];exact hc
   cases e:pr.rows.flatten[(s.2.2 * pr.d+s.2.1) * pr.w+s.1]? with
   |none=>rw[e] at he;rw[<-he] at mq;cases mq
   |some u=>
    rw[e] at he
    have he:oM u=oM v:=he
    have hz:=(Jt ok).mpr e
    have hu:=rL ok hz
    have RU:u=v:=by
     simp only[cJ,aw,f9,or_false] at hu hv
     rcases hu with rfl|rfl|rfl|rfl|rfl<;>rcases hv with rfl|rfl|rfl|rfl|rfl<;>first|rfl|(revert he;decide)
    subst RU
    refine⟨(_,u),ca.mpr ⟨hz,?_⟩,?_⟩
    ·rw[nA] at mq;exact mq
    ·have hs:fD pr.w pr.d ((s.2.2 * pr.d+s.2.1) * pr.w+s.1)=s:=Ib (w:=pr.w) (d:=pr.d) aq.1 aq.2.1
     show (bW (fD pr.w pr.d ((s.2.2 * pr.d+s.2.1) * pr.w+s.1)),u)=_
     rw[hs]
theorem Sy{p:Br.Part}:p.turn.places.length=p.high * (p.wide * p.deep):=by
 show ((List.range p.high).flatMap λ(z:Nat)=>(List.range p.wide).flatMap λ(y:Nat)=>(List.range p.deep).map λ(x:Nat)=>p.places.toArray.getD ((z * p.deep+x) * p.wide+(p.wide - 1 - y)) .none).length=_
 refine kZ (λz=>?_) _
 refine kZ (λy=>?_) _
 simp
theorem Kk{p:Br.Part}(ok:Shp p){x y z:Nat}(hx:x<p.deep)(hy:y<p.wide)(hz:z<p.high):p.turn.at_ x y z=p.at_ (p.wide - 1 - y) x z:=by
 have hw:=ok.w
 have hd:=ok.d
 have l1:∀y z:Nat,((List.range p.deep).map λ(x:Nat)=>p.places.toArray.getD ((z * p.deep+x) * p.wide+(p.wide - 1 - y)) Br.Place.none).length=p.deep:=by simp
 have l2:∀z:Nat,((List.range p.wide).flatMap λ(y:Nat)=>(List.range p.deep).map λ(x:Nat)=>p.places.toArray.getD ((z * p.deep+x) * p.wide+(p.wide - 1 - y)) Br.Place.none).length=p.wide * p.deep:=λz=>kZ (λy=>l1 y z) _
 have b1:y * p.deep+x<p.wide * p.deep:=by
  have:(y+1) * p.deep<=p.wide * p.deep:=ya _ hy
  rw[ka] at this
  omega
 have b2:z * (p.wide * p.deep)+(y * p.deep+x)<p.high * (p.wide * p.deep):=by
  have:(z+1) * (p.wide * p.deep)<=p.high * (p.wide * p.deep):=ya _ hz
  rw[ka] at this
  omega
 have e0:(z * p.wide+y) * p.deep+x=z * (p.wide * p.deep)+(y * p.deep+x):=by
  rw[Nat.add_mul,DC,Nat.add_assoc]
 unfold Br.Part.at_
 rw[ac (show x<p.turn.wide/\y<p.turn.deep/\z<p.turn.high from ⟨hx,hy,hz⟩),ac (by omega)]
 rw[cy,cy]
 show (((List.range p.high).flatMap λ(z:Nat)=>(List.range p.wide).flatMap λ(y:Nat)=>(List.range p.deep).map λ(x:Nat)=>p.places.toArray.getD ((z * p.deep+x) * p.wide+(p.wide - 1 - y)) Br.Place.none)[(z * p.wide+y) * p.deep+x]?).getD .none=_
 rw[e0,wW (DE hw hd) l2 _ _ b2]
 have e1:(z * (p.wide * p.deep)+(y * p.deep+x)) / (p.wide * p.deep)=z:=by
  rw[jz,vw _ _ (DE hw hd),vx b1,kd]
 have e2:(z * (p.wide * p.deep)+(y * p.deep+x)) % (p.wide * p.deep)=y * p.deep+x:=by
  rw[jz,vq,vt b1]
 rw[e1,e2,wW hd (λy=>l1 y z) _ _ b1]
 have e3:(y * p.deep+x) / p.deep=y:=by
  rw[jz,vw _ _ hd,vx hx,kd]
 have e4:(y * p.deep+x) % p.deep=x:=by rw[jz,vq,vt hx]
 rw[e3,e4,bf,vy hx]
 show p.places.toArray.getD ((z * p.deep+x) * p.wide+(p.wide - 1 - y)) .none=_
 simp
theorem Pr{t:TP}{p:Br.Part}(h:Rep t p):Rep (Iw t) p.turn:=by
 obtain⟨sh,hw,hd,hh,nd,mem⟩:=h
 have RV:Shp p.turn:=⟨sh.d,sh.w,sh.h,Sy⟩
 have inj:∀a b:Pl,fO t.W a=fO t.W b->a=b:=by
  rintro⟨x,y,z⟩ ⟨u,v,w⟩ e
  unfold fO at e
  simp only[Prod.mk.injEq] at e ⊢
  omega
 refine⟨RV,hd,hw,hh,?_,?_⟩
 ·show (((t.cs).map λc=>(fO t.W c.1,c.2)).map (·.1)).Nodup
  rw[d4]
  have:(t.cs.map ((·.1)∘λc:Pl×Int=>(fO t.W c.1,c.2)))=(t.cs.map (·.1)).map (fO t.W):=by rw[d4];rfl
  rw[this]
  exact mi _ (λa b h z=>h (inj a b z)) nd
 ·intro q v
  show (q,v)∈t.cs.map (λc=>(fO t.W c.1,c.2))↔_
  rw[a6]
  constructor
  ·rintro⟨⟨c,u⟩,hc,e⟩
   obtain⟨s,rfl,hv,o8,d9⟩:=(mem c u).mp hc
   cases e
   have aq:=Ea o8
   have hy:p.wide - 1 - s.1<p.wide:=by omega
   have ta:=Kk sh aq.2.1 hy aq.2.2
   rw[show p.wide - 1 - (p.wide - 1 - s.1)=s.1 by omega] at ta
   refine⟨(s.2.1,p.wide - 1 - s.1,s.2.2),?_,hv,?_,?_⟩
   ·unfold fO bW
    rw[hw]
    refine dk rfl (dk ?_ rfl)
    show (p.wide:Int) - 1 - (s.1:Int)=((p.wide - 1 - s.1:Nat):Int)
    omega
   ·show (p.turn.at_ s.2.1 (p.wide - 1 - s.1) s.2.2).isCell=true
    rw[ta];exact o8
   ·show p.turn.at_ s.2.1 (p.wide - 1 - s.1) s.2.2=_
    rw[ta];exact d9
  ·rintro⟨s,rfl,hv,o8,d9⟩
   have aq:s.1<p.deep/\s.2.1<p.wide/\s.2.2<p.high:=Ea o8
   have ta:=Kk sh aq.1 aq.2.1 aq.2.2
   rw[ta] at o8 d9
   refine⟨(bW (p.wide - 1 - s.2.1,s.1,s.2.2),v),(mem _ _).mpr ⟨_,rfl,hv,o8,d9⟩,?_⟩
   unfold fO bW
   rw[hw]
   refine dk (dk rfl (dk ?_ rfl)) rfl
   show (p.wide:Int) - 1 - ((p.wide - 1 - s.2.1:Nat):Int)=(s.2.1:Int)
   omega
theorem sB{t:TP}{p:Br.Part}(h:Rep t p):∀n,Rep (gJ t n) (p.turned n)
 |0=>h
 |n+1=>Pr (sB h n)
structure tX(sh:Br.Shape)(cl:CL):Prop where
 c:∀s,s∈sh.cells↔∃v,(bW s,v)∈cl
 st:∀s,s∈sh.studs↔∃v,(bW s,v)∈cl/\eA v=true
 tb:∀s,s∈sh.tubes↔∃v,(bW s,v)∈cl/\dD v=true
 nd:(cl.map (·.1)).Nodup
 ps:∀q v,(q,v)∈cl->∃s:jH,q=bW s
 box:∀s∈sh.cells,(sh.at_.1<=s.1/\s.1<sh.at_.1+sh.size.1)/\(sh.at_.2.1<=s.2.1/\s.2.1<sh.at_.2.1+sh.size.2.1)/\(sh.at_.2.2<=s.2.2/\s.2.2<sh.at_.2.2+sh.size.2.2)
theorem Qs:∀{cl:CL}{q:Pl}{u v:Int},(cl.map (·.1)).Nodup->(q,u)∈cl->(q,v)∈cl->u=v
 |[],q,u,v,_,h,_=>by cases h
 |c::r,q,u,v,nd,h1,h2=>by
  have nd:=jb.mp nd
  rcases aw.mp h1 with e1|h1
  ·rcases aw.mp h2 with e2|h2
   ·rw[<-e1] at e2;cases e2;rfl
   ·exact absurd (a6.mpr ⟨_,h2,by rw[<-e1]⟩) nd.1
  ·rcases aw.mp h2 with e2|h2
   ·exact absurd (a6.mpr ⟨_,h1,by rw[<-e2]⟩) nd.1
   ·exact Qs nd.2 h1 h2
theorem kW{cl:CL}{q:Pl}{v:Int}(h:aV cl q=some v):(q,v)∈cl:=by
 unfold aV at h
 obtain⟨c,e,rfl⟩:=qi.mp h
 have h1:=List.find?_some e
 have h1:c.1=q:=by simpa using h1
 rw[<-h1]
 exact List.mem_of_find?_eq_some e
theorem Al{cl:CL}{q:Pl}{v:Int}(nd:(cl.map (·.1)).Nodup):aV cl q=some v↔(q,v)∈cl:=by
 refine⟨kW,λh=>?_⟩
 have hs:(aV cl q).isSome=true:=dG.mpr ⟨_,h,rfl⟩
 obtain⟨u,e⟩:=lf.mp hs
 rw[e,Qs nd (kW e) h]
theorem xZ(a b:CL)(q:Pl):aV (a++b) q=(aV a q).or (aV b q):=by
 unfold aV
 rw[List.find?_append]
 cases List.find? (λc=>decide (c.1=q)) a<;>rfl
theorem Hc(pl:Br.Place):∃v∈cJ,pl=oM v:=by
 cases pl with
 |none=>exact⟨46,by decide,by decide⟩
 |cell a b=>cases a<;>cases b<;>first|exact⟨35,by decide,by decide⟩|exact⟨115,by decide,by decide⟩|exact⟨116,by decide,by decide⟩|exact⟨98,by decide,by decide⟩
theorem Ma{pl:Br.Place}(h:pl.stud=true):pl.isCell=true:=by cases pl;cases h;rfl
theorem Ml{pl:Br.Place}(h:pl.tube=true):pl.isCell=true:=by cases pl;cases h;rfl
theorem Ds{t:TP}{p:Br.Part}(h:Rep t p){f:Br.Place->Bool}{g:Int->Bool}(f0:∀pl,f pl=true->pl.isCell=true)(hg:∀v∈cJ,v≠46->f (oM v)=g v)(s:jH):s∈p.such f↔∃v,(bW s,v)∈t.cs/\g v=true:=by
 have fn:f .none=false:=by
  cases e:f .none with
  |false=>rfl
  |true=>have:=f0 _ e;cases this
 rw[Gb h.sh fn]
 constructor
 ·intro hf
  have hc:=f0 _ hf
  obtain⟨v,hv,e⟩:=Hc (p.at_ s.1 s.2.1 s.2.2)
  refine⟨v,(h.mem _ _).mpr ⟨s,rfl,hv,hc,e⟩,?_⟩
  rw[<-hg v hv (by rintro rfl;rw[e] at hc;revert hc;decide),<-e]
  exact hf
 ·rintro⟨v,hm,zh⟩
  obtain⟨s2,e,hv,hc,e2⟩:=(h.mem _ _).mp hm
  have e:=fU e
  subst e
  rw[e2,hg v hv (by rintro rfl;rw[e2] at hc;revert hc;decide)]
  exact zh
theorem Ur{t:TP}{p:Br.Part}(h:Rep t p)(x y z:Nat)(im:Bool)(put:jH->jH)(zi:∀s,put s=(x+s.1,y+s.2.1,z+s.2.2)):tX ⟨(x,y,z),(p.wide,p.deep,p.high),im,p.cells.map put,p.studs.map put,p.tubes.map put⟩ (Do x y z t.cs):=by
 have key:∀(f:Br.Place->Bool)(g:Int->Bool),(∀pl,f pl=true->pl.isCell=true)->(∀v∈cJ,v≠46->f (oM v)=g v)->∀s:jH,s∈(p.such f).map put↔∃v,(bW s,v)∈Do x y z t.cs/\g v=true:=by
  intro f g f0 hg s
  rw[a6]
  constructor
  ·rintro⟨s0,h0,rfl⟩
   obtain⟨v,hm,zh⟩:=(Ds h f0 hg s0).mp h0
   refine⟨v,a6.mpr ⟨_,hm,?_⟩,zh⟩
   rw[zi]
   rfl
  ·rintro⟨v,hm,zh⟩
   obtain⟨⟨q,u⟩,hc,e⟩:=a6.mp hm
   obtain⟨e1,e2⟩:=Prod.mk.inj e
   have e2:u=v:=e2
   subst e2
   obtain⟨s0,rfl,_⟩:=(h.mem q u).mp hc
   refine⟨s0,(Ds h f0 hg s0).mpr ⟨u,hc,zh⟩,?_⟩
   apply fU
   rw[zi,<-e1]
   rfl
 have inj:∀a b:Pl,lY x y z a=lY x y z b->a=b:=by
  rintro⟨a,b,c⟩ ⟨u,v,w⟩ e
  unfold lY at e
  simp only[Prod.mk.injEq] at e ⊢
  omega
 refine⟨λs=>?_,λs=>?_,λs=>?_,?_,?_,?_⟩
 ·have k:=key Br.Place.isCell (λ_=>true) (λ_ h=>h) (λv hv hn=>by rw[nA];simp[hn]) s
  have k:s∈p.cells.map put↔_:=k
  show s∈p.cells.map put↔_
  rw[k]
  exact⟨λ⟨v,h1,_⟩=>⟨v,h1⟩,λ⟨v,h1⟩=>⟨v,h1,rfl⟩⟩
 ·exact key Br.Place.stud eA (λ_ h=>Ma h) (λv hv _=>xY hv) s
 ·exact key Br.Place.tube dD (λ_ h=>Ml h) (λv hv _=>vY hv) s
 ·unfold Do
  rw[d4]
  have:(t.cs.map ((·.1)∘λc:Pl×Int=>(lY x y z c.1,c.2)))=(t.cs.map (·.1)).map (lY x y z):=by rw[d4];rfl
  rw[this]
  exact mi _ (λa b h z=>h (inj a b z)) h.nd
 ·intro q v hm
  obtain⟨⟨q0,u⟩,hc,e⟩:=a6.mp hm
  obtain⟨s0,rfl,_⟩:=(h.mem q0 u).mp hc
  obtain⟨e1,e2⟩:=Prod.mk.inj e
  exact⟨(x+s0.1,y+s0.2.1,z+s0.2.2),by rw[<-e1];rfl⟩
 ·intro s hs
  obtain⟨s0,h0,rfl⟩:=a6.mp hs
  have h0:s0∈p.such Br.Place.isCell:=h0
  rw[Gb h.sh (by rfl)] at h0
  have:=Ea h0
  rw[zi]
  show (x<=x+s0.1/\x+s0.1<x+p.wide)/\(y<=y+s0.2.1/\y+s0.2.1<y+p.deep)/\(z<=z+s0.2.2/\z+s0.2.2<z+p.high)
  omega
theorem zM{i j:Br.Shape}{ci cj:CL}(hi:tX i ci)(hj:tX j cj):Br.clash i j=true↔∃q v u,(q,v)∈ci/\(q,u)∈cj:=by
 unfold Br.clash
 rw[cg,lh]
 constructor
 ·rintro⟨_,s,h1,h2⟩
  rw[qu] at h2
  obtain⟨v,hv⟩:=(hi.c s).mp h1
  obtain⟨u,hu⟩:=(hj.c s).mp h2
  exact⟨_,v,u,hv,hu⟩
 ·rintro⟨q,v,u,hv,hu⟩
  obtain⟨s,rfl⟩:=hi.ps q v hv
  have m1:=(hi.c s).mpr ⟨v,hv⟩
  have m2:=(hj.c s).mpr ⟨u,hu⟩
  have b1:=hi.box s m1
  have b2:=hj.box s m2
  refine⟨?_,s,m1,qu.mpr m2⟩
  unfold Br.meet
  simp only[cg,bu]
  omega
theorem nU{i j:Br.Shape}{ci cj:CL}(hi:tX i ci)(hj:tX j cj):Br.stuck i j=true↔∃q v u,(q,v)∈ci/\eA v=true/\(jK q,u)∈cj/\dD u=false:=by
 unfold Br.stuck
 rw[cg,lh]
 constructor
 ·rintro⟨_,s,h1,h2⟩
  rw[cg,ck,<-o5,qu,qu] at h2
  obtain⟨v,hv,hs⟩:=(hi.st s).mp h1
  obtain⟨u,hu⟩:=(hj.c _).mp h2.1
  refine⟨_,v,u,hv,hs,hu,?_⟩
  cases e:dD u with
  |false=>rfl
  |true=>exact absurd ((hj.tb _).mpr ⟨u,hu,e⟩) h2.2
 ·rintro⟨q,v,u,hv,hs,hu,ht⟩
  obtain⟨s,rfl⟩:=hi.ps q v hv
  have m1:=(hi.c s).mpr ⟨v,hv⟩
  have m2:Br.above s∈j.cells:=(hj.c (Br.above s)).mpr ⟨u,hu⟩
  have b1:=hi.box s m1
  have b2:=hj.box _ m2
  refine⟨?_,s,(hi.st s).mpr ⟨v,hv,hs⟩,?_⟩
  ·unfold Br.meet
   simp only[cg,bu]
   unfold Br.above at b2
   simp only at b2
   omega
  ·rw[cg,ck,<-o5,qu,qu]
   refine⟨m2,λz=>?_⟩
   obtain⟨u2,RW,nc⟩:=(hj.tb _).mp z
   rw[Qs hj.nd hu (show (jK (bW s),u2)∈cj from RW),nc] at ht
   cases ht
structure aP(zs:List (Br.Shape×CL))(sg ow:CL):Prop where
 rep:∀z∈zs,tX z.1 z.2
 sgO:∀q v,aV sg q=some v↔∃(i:Nat)(z:Br.Shape×CL),zs[i]?=some z/\(q,v)∈z.2
 owO:∀q k,aV ow q=some k↔∃(i:Nat)(z:Br.Shape×CL)(v:Int),zs[i]?=some z/\(q,v)∈z.2/\k=(i:Int)
theorem Kj{zs:List (Br.Shape×CL)}{f:Br.Shape->Bool}{L:List Int}(h:∀k:Int,k∈L↔∃(i:Nat)(z:Br.Shape×CL),zs[i]?=some z/\f z.1=true/\k=(i:Int)):
  (L=[]->(zs.map (·.1)).findIdx? f=none)/\(L≠[]->∃i:Nat,(zs.map (·.1)).findIdx? f=some i/\rO L=(i:Int)):=by
 constructor
 ·rintro rfl
  rw[List.findIdx?_eq_none_iff]
  intro x hx
  obtain⟨z,hz,rfl⟩:=a6.mp hx
  obtain⟨i,hi⟩:=lj.mp hz
  cases e:f z.1 with
  |false=>rfl
  |true=>exact absurd ((h i).mpr ⟨i,z,hi,e,rfl⟩) f9
 ·intro ak
  have hm:=vM ak
  obtain⟨i,z,hi,hf,e⟩:=(h _).mp hm
  refine⟨i,?_,e⟩
  obtain⟨aj,hz⟩:=bh.mp hi
  rw[List.findIdx?_eq_some_iff_getElem]
  refine⟨by rw[ah];exact aj,by rw[NC,hz];exact hf,λj hj=>?_⟩
  have KD:j<zs.length:=by omega
  rw[NC]
  intro RX
  have:=Ce ((h (j:Int)).mpr ⟨j,zs[j],ba KD,RX,rfl⟩)
  omega
theorem Xc{zs:List (Br.Shape×CL)}{sg ow cl:CL}{sh:Br.Shape}(I:aP zs sg ow)(hs:tX sh cl)(k:Int):k∈gB ow cl↔∃(i:Nat)(z:Br.Shape×CL),zs[i]?=some z/\Br.clash z.1 sh=true/\k=(i:Int):=by
 unfold gB
 rw[tm]
 constructor
 ·rintro⟨⟨q,u⟩,hc,e⟩
  obtain⟨i,z,v,hi,hv,rfl⟩:=(I.owO _ _).mp e
  exact⟨i,z,hi,(zM (I.rep z (dg hi)) hs).mpr ⟨q,v,u,hv,hc⟩,rfl⟩
 ·rintro⟨i,z,hi,jp,rfl⟩
  obtain⟨q,v,u,hv,hu⟩:=(zM (I.rep z (dg hi)) hs).mp jp
  exact⟨(q,u),hu,(I.owO _ _).mpr ⟨i,z,v,hi,hv,rfl⟩⟩
theorem aBo(q:Pl):jK (pH q)=q:=by
 unfold jK pH
 refine dk rfl (dk rfl ?_)
 show q.2.2 - 1+1=q.2.2
 omega
theorem Xo(q:Pl):pH (jK q)=q:=by
 unfold jK pH
 refine dk rfl (dk rfl ?_)
 show q.2.2+1 - 1=q.2.2
 omega
theorem Fn{sg ow:CL}{c:Pl×Int}{k:Int}:k∈mB sg ow c↔eA c.2=true/\(∃s,aV sg (jK c.1)=some s/\dD s=false)/\aV ow (jK c.1)=some k:=by
 unfold mB
 cases e:aV sg (jK c.1) with
 |none=>simp
 |some s=>
  simp only[Option.some.injEq,ND]
  split
  ·rename_i h
   rw[NE]
   exact⟨λz=>⟨h.1,h.2,z⟩,λz=>z.2.2⟩
  ·rename_i h
   exact⟨λz=>absurd z f9,λz=>absurd ⟨z.1,z.2.1⟩ h⟩
theorem Fp{sg ow:CL}{c:Pl×Int}{k:Int}:k∈oN sg ow c↔dD c.2=false/\(∃s,aV sg (pH c.1)=some s/\eA s=true)/\aV ow (pH c.1)=some k:=by
 unfold oN
 cases e:aV sg (pH c.1) with
 |none=>simp
 |some s=>
  simp only[Option.some.injEq,ND]
  split
  ·rename_i h
   rw[NE]
   exact⟨λz=>⟨h.1,h.2,z⟩,λz=>z.2.2⟩
  ·rename_i h
   exact⟨λz=>absurd z f9,λz=>absurd ⟨z.1,z.2.1⟩ h⟩
theorem Vv{zs:List (Br.Shape×CL)}{sg ow cl:CL}{sh:Br.Shape}(I:aP zs sg ow)(hs:tX sh cl)(k:Int):k∈cO cl sg ow↔∃(i:Nat)(z:Br.Shape×CL),zs[i]?=some z/\(Br.stuck z.1 sh||Br.stuck sh z.1)=true/\k=(i:Int):=by
 unfold cO
 rw[vz]
 have one:∀{q:Pl}{i:Nat}{z:Br.Shape×CL}{v s k:Int},zs[i]?=some z->(q,v)∈z.2->aV sg q=some s->s=v:=by
  intro q i z v s k hi hv e
  have:=(I.sgO q v).mpr ⟨i,z,hi,hv⟩
  rw[e] at this
  exact Option.some.inj this
 constructor
 ·rintro⟨⟨q,u⟩,hc,hk⟩
  rcases c9.mp hk with hk|hk
  ·obtain⟨h1,⟨s,e,h2⟩,h3⟩:=Fn.mp hk
   obtain⟨i,z,v,hi,hv,rfl⟩:=(I.owO _ _).mp h3
   have:=one (k:=0) hi hv e
   subst this
   refine⟨i,z,hi,?_,rfl⟩
   rw[qm]
   exact .inr ((nU hs (I.rep z (dg hi))).mpr ⟨q,u,s,hc,h1,hv,h2⟩)
  ·obtain⟨h1,⟨s,e,h2⟩,h3⟩:=Fp.mp hk
   obtain⟨i,z,v,hi,hv,rfl⟩:=(I.owO _ _).mp h3
   have:=one (k:=0) hi hv e
   subst this
   refine⟨i,z,hi,?_,rfl⟩
   rw[qm]
   exact .inl ((nU (I.rep z (dg hi)) hs).mpr ⟨pH q,s,u,hv,h2,by rw[aBo];exact hc,h1⟩)
 ·rintro⟨i,z,hi,b8,rfl⟩
  have hz:=I.rep z (dg hi)
  rw[qm] at b8
  rcases b8 with b8|b8
  ·obtain⟨q,v,u,hv,h1,hu,h2⟩:=(nU hz hs).mp b8
   refine⟨(jK q,u),hu,fk _ (Fp.mpr ⟨h2,⟨v,?_,h1⟩,?_⟩)⟩
   ·rw[Xo];exact(I.sgO _ _).mpr ⟨i,z,hi,hv⟩
   ·rw[Xo];exact(I.owO _ _).mpr ⟨i,z,v,hi,hv,rfl⟩
  ·obtain⟨q,v,u,hv,h1,hu,h2⟩:=(nU hs hz).mp b8
   refine⟨(q,v),hv,i9 _ (Fn.mpr ⟨h1,⟨u,?_,h2⟩,?_⟩)⟩
   ·exact(I.sgO _ _).mpr ⟨i,z,hi,hu⟩
   ·exact(I.owO _ _).mpr ⟨i,z,u,hi,hu,rfl⟩
theorem Ey{cl:CL}{q:Pl}{k j:Int}:aV (cl.map λc=>(c.1,j)) q=some k↔k=j/\∃v,(q,v)∈cl:=by
 constructor
 ·intro h
  obtain⟨c,hc,e⟩:=a6.mp (kW h)
  obtain⟨e1,e2⟩:=Prod.mk.inj e
  exact⟨e2.symm,c.2,by rw[<-e1];exact hc⟩
 ·rintro⟨rfl,v,hv⟩
  have hs:(aV (cl.map λc=>(c.1,k)) q).isSome=true:=dG.mpr ⟨(q,k),a6.mpr ⟨_,hv,rfl⟩,rfl⟩
  obtain⟨u,e⟩:=lf.mp hs
  obtain⟨c,hc,e2⟩:=a6.mp (kW e)
  rw[e,<-(Prod.mk.inj e2).2]
theorem aP.next{zs:List (Br.Shape×CL)}{sg ow cl:CL}{sh:Br.Shape}(I:aP zs sg ow)(hs:tX sh cl)(h0:gB ow cl=[]):aP (zs++[(sh,cl)]) (sg++cl) (ow++cl.map λc=>(c.1,(zs.length:Int))):=by
 have fr:∀q v,(q,v)∈cl->aV ow q=none:=by
  intro q v hv
  cases e:aV ow q with
  |none=>rfl
  |some k=>
   have:k∈gB ow cl:=tm.mpr ⟨_,hv,e⟩
   rw[h0] at this
   cases this
 have RY:∀q v,(q,v)∈cl->aV sg q=none:=by
  intro q v hv
  cases e:aV sg q with
  |none=>rfl
  |some k=>
   obtain⟨i,z,hi,hz⟩:=(I.sgO _ _).mp e
   have:=(I.owO q i).mpr ⟨i,z,k,hi,hz,rfl⟩
   rw[fr q v hv] at this
   cases this
 have ix:∀(i:Nat)(z:Br.Shape×CL),(zs++[(sh,cl)])[i]?=some z↔zs[i]?=some z\/(i=zs.length/\z=(sh,cl)):=by
  intro i z
  by_cases hi:i<zs.length
  ·rw[GO hi]
   exact⟨λh=>.inl h,λh=>h.elim id λh=>by omega⟩
  ·rw[CF (by omega)]
   constructor
   ·intro h
    have hl:=(bh.mp h).1
    rw[mf] at hl
    have:i=zs.length:=by omega
    subst this
    rw[AF] at h
    exact .inr ⟨rfl,(Option.some.inj h).symm⟩
   ·rintro(h|⟨rfl,rfl⟩)
    ·exact absurd (bh.mp h).1 hi
    ·rw[AF];rfl
 refine⟨λz hz=>?_,λq v=>?_,λq k=>?_⟩
 ·rcases c9.mp hz with hz|hz
  ·exact I.rep z hz
  ·rw[b5] at hz;subst hz;exact hs
 ·rw[xZ]
  constructor
  ·intro h
   cases e:aV sg q with
   |some u=>
    rw[e] at h
    have:u=v:=Option.some.inj h
    subst this
    obtain⟨i,z,hi,hz⟩:=(I.sgO _ _).mp e
    exact⟨i,z,(ix _ _).mpr (.inl hi),hz⟩
   |none=>
    rw[e] at h
    exact⟨_,_,(ix _ _).mpr (.inr ⟨rfl,rfl⟩),kW h⟩
  ·rintro⟨i,z,hi,hz⟩
   rcases(ix _ _).mp hi with hi|⟨rfl,rfl⟩
   ·rw[(I.sgO q v).mpr ⟨i,z,hi,hz⟩];rfl
   ·rw[RY q v hz,(Al hs.nd).mpr hz];rfl
 ·rw[xZ]
  constructor
  ·intro h
   cases e:aV ow q with
   |some u=>
    rw[e] at h
    have:u=k:=Option.some.inj h
    subst this
    obtain⟨i,z,v,hi,hz,e2⟩:=(I.owO _ _).mp e
    exact⟨i,z,v,(ix _ _).mpr (.inl hi),hz,e2⟩
   |none=>
    rw[e] at h
    obtain⟨rfl,v,hv⟩:=Ey.mp h
    exact⟨_,_,v,(ix _ _).mpr (.inr ⟨rfl,rfl⟩),hv,rfl⟩
  ·rintro⟨i,z,v,hi,hz,rfl⟩
   rcases(ix _ _).mp hi with hi|⟨rfl,rfl⟩
   ·rw[(I.owO q i).mpr ⟨i,z,v,hi,hz,rfl⟩];rfl
   ·rw[fr q v hz,Ey.mpr ⟨rfl,v,hz⟩];rfl
def wrI(w:Option (Nat×Nat×Nat)):List Int:=w.elim [] λw=>[(w.1:Int),(w.2.1:Int),(w.2.2:Int)]
theorem qG{prs:List aM}(ok:∀pr∈prs,eJ pr){x:List Nat}(hx:dM x 0<prs.length):tX (Br.Line.shape (prs.map cG) (iZ x)) (cT prs x)/\(Br.Line.shape (prs.map cG) (iZ x)).inRoom= !lM (tY prs x) (dM x 2) (dM x 3) (dM x 4):=by
 have e1:prs[dM x 0]?=some prs[dM x 0]:=ba hx
 have e2:Br.Line.of (prs.map cG) (iZ x)=(cG prs[dM x 0]).turned (dM x 5):=by
  unfold Br.Line.of
  show ((prs.map cG).getD (dM x 0) Br.nothing).turned (dM x 5)=_
  rw[cy,bf,e1]
  rfl
 have r0:=sB (Uv (ok _ (DI hx))) (dM x 5)
 have et:tY prs x=gJ (xA prs[dM x 0]) (dM x 5):=by
  unfold tY
  rw[e1]
  rfl
 constructor
 ·unfold Br.Line.shape cT
  rw[e2,et]
  exact Ur r0 (dM x 2) (dM x 3) (dM x 4) _ _ λs=>rfl
 ·unfold Br.Line.shape
  rw[e2,et]
  unfold lM
  rw[r0.w,r0.d,r0.h]
  show (decide (dM x 2+((cG prs[dM x 0]).turned (dM x 5)).wide<=64) && (decide (dM x 3+((cG prs[dM x 0]).turned (dM x 5)).deep<=64) && decide (dM x 4+((cG prs[dM x 0]).turned (dM x 5)).high<=96)))=_
  rw[f7]
  simp only[cg,bu,ck,NF,j0]
  omega
theorem vD{prs:List aM}(ok:∀pr∈prs,eJ pr):∀{ls:List (List Nat)} {zs:List (Br.Shape×CL)} {sg ow:CL},(∀x∈ls,dM x 0<prs.length)->aP zs sg ow->
  cQ prs zs.length sg ow ls=wrI (Br.wrongLines zs.length (zs.map (·.1)) (ls.map λx=>Br.Line.shape (prs.map cG) (iZ x)))
 |[],zs,sg,ow,_,_=>rfl
 |x::r,zs,sg,ow,hx,I=>by
  obtain⟨sr,p8⟩:=qG ok (hx x bg)
  rw[cQ,bz,Br.wrongLines]
  generalize Br.Line.shape (prs.map cG) (iZ x)=sh at sr p8
  have im:=Kj (f:=λi=>Br.clash i sh) (λk=>Xc I sr k)
  have ib:=Kj (f:=λi=>Br.stuck i sh||Br.stuck sh i) (λk=>Vv I sr k)
  cases hl:lM (tY prs x) (dM x 2) (dM x 3) (dM x 4) with
  |true=>
   rw[hl] at p8
   rw[ac rfl]
   have:Br.wrongLine (zs.map (·.1)) zs.length sh=some (1,zs.length):=by
    unfold Br.wrongLine
    rw[ac (show sh.inRoom=false from p8)]
   rw[this]
   rfl
  |false=>
   rw[hl] at p8
   rw[aa (by decide)]
   have p8:¬sh.inRoom=false:=by rw[p8];decide
   by_cases h1:gB ow (cT prs x)=[]
   ·rw[aa (by rw[h1];decide)]
    have f1:=im.1 h1
    by_cases h2:cO (cT prs x) sg ow=[]
    ·rw[aa (by rw[h2];decide)]
     have f2:=ib.1 h2
     have hw:Br.wrongLine (zs.map (·.1)) zs.length sh=none:=by
      unfold Br.wrongLine
      rw[aa p8,f1]
      show (match List.findIdx? _ _ with|some i=>some (3,i)|none=>none)=none
      rw[f2]
     rw[hw]
     have ih:=vD ok (ls:=r) (zs:=zs++[(sh,cT prs x)]) (λy hy=>hx y (az _ hy)) (I.next sr h1)
     rw[b6,mf,cp] at ih
     exact ih
    ·rw[ac (HX.mpr h2)]
     obtain⟨i,f2,e⟩:=ib.2 h2
     have hw:Br.wrongLine (zs.map (·.1)) zs.length sh=some (3,i):=by
      unfold Br.wrongLine
      rw[aa p8,f1]
      show (match List.findIdx? _ _ with|some i=>some (3,i)|none=>none)=some (3,i)
      rw[f2]
     rw[hw,e]
     rfl
   ·rw[ac (HX.mpr h1)]
    obtain⟨i,f1,e⟩:=im.2 h1
    have hw:Br.wrongLine (zs.map (·.1)) zs.length sh=some (2,i):=by
     unfold Br.wrongLine
     rw[aa p8,f1]
    rw[hw,e]
    rfl
theorem sU{prs:List aM}(ok:∀pr∈prs,eJ pr){ls:List (List Nat)}(hx:∀x∈ls,dM x 0<prs.length){d:Br.Build}(hd:d.lines=ls.map iZ):cQ prs 0 [] [] ls=wrI (d.wrong (prs.map cG)):=by
 have I0:aP [] [] []:=⟨λz hz=>absurd hz f9,λq v=>(by simp[aV]),λq k=>(by simp[aV])⟩
 have:=vD ok (ls:=ls) hx I0
 unfold Br.Build.wrong Br.Build.shapes
 rw[hd,d4]
 exact this
def Fg(n:Nat)(x:List Nat):Prop:=x.length=6/\dM x 0<n
theorem Qa{ag:List (List Int)}{l:List Int}{p:Nat}{q:List Nat×Nat}(h:eQ ag l p=.ok q):Fg ag.length q.1:=by
 unfold eQ at h
 obtain⟨p1,_,h⟩:=aL h
 obtain⟨n,en,h⟩:=aL h
 obtain⟨r,er,h⟩:=aL h
 obtain⟨_,_,h⟩:=aL h
 cases h
 refine⟨?_,?_⟩
 ·rw[bn,xL (r:=r) er]
  rfl
 ·show n.1<ag.length
  unfold rR at en
  split at en
  ·rename_i hm
   cases en
   exact MV ⟨_,hm,by simp⟩
  ·cases en
theorem yI{ag:List (List Int)}{l:List Int}:∀{n p:Nat} {q:List (List Nat)×Nat},cF ag l n p=.ok q->∀x∈q.1,Fg ag.length x
 |0,p,q,h=>by cases h;intro x hx;cases hx
 |n+1,p,q,h=>by
  rw[cF] at h
  split at h
  ·cases h;intro x hx;cases hx
  ·obtain⟨q1,e1,h⟩:=aL h
   obtain⟨q2,e2,rfl⟩:=fP h
   intro x hx
   rcases aw.mp hx with rfl|hx
   ·exact Qa e1
   ·exact yI e2 x hx
theorem Mb{ag:List (List Int)}{l:List Int}{b:List Int×List (List Nat)}(h:dH ag l=.ok b):∀x∈b.2,Fg ag.length x:=by
 unfold dH at h
 obtain⟨_,_,h⟩:=aL h
 obtain⟨_,_,h⟩:=aL h
 obtain⟨_,_,h⟩:=aL h
 obtain⟨r,er,h⟩:=aL h
 split at h
 ·cases h;exact yI er
 ·cases h
theorem uG{lc lb:List Int}{prs:List aM}{nm:List Int}{ls:List (List Nat)}(h:dB lc lb=.ok prs nm ls):∀x∈ls,Fg prs.length x:=by
 unfold dB at h
 split at h
 ·cases h
 ·split at h
  ·cases h
  ·split at h
   ·split at h
    ·cases h
    ·rename_i e
     cases h
     have:=Mb e
     rw[ah] at this
     exact this
   ·cases h
end Br1
namespace Br1
open PySem PySem.Spec PyProof.Rows L2
def vI(f:Pl->Pl)(cs:CL):CL:=cs.map λc=>(f c.1,c.2)
theorem vA{cs:CL}{i:Nat}{p:Pl}{s:Int}(nd:(cs.map (·.1)).Nodup)(e:cs[i]?=some (p,s)):∀c∈cs.take i,c.1≠p:=by
 obtain⟨hi,e⟩:=bh.mp e
 have hd:cs.drop i=(p,s)::cs.drop (i+1):=by rw[C3 hi,e]
 have h2:=nd
 rw[<-List.take_append_drop i cs,hd,cp,AL] at h2
 intro c hc
 exact h2.2.2 c.1 (o4 hc) p (by simp)
theorem Sb(cl:CL)(q:Pl)(v:Int):aI cl++[(eI q.1 q.2.1 q.2.2,V.int v)]=aI (cl++[(q,v)]):=by
 unfold aI
 rw[cp]
 rfl
theorem Js{cl:CL}{q:Pl}{v:Int}(h:aV cl q=none):jQ (aI cl) (eI q.1 q.2.1 q.2.2) (V.int v)=aI (cl++[(q,v)]):=by
 rw[rF _ (by rw[qB,h];rfl),Sb]
theorem zW{cl:CL}{q:Pl}(h:∀c∈cl,c.1≠q):aV cl q=none:=by
 cases e:aV cl q with
 |none=>rfl
 |some v=>
  obtain⟨c,hc,e2⟩:=dG.mp (by rw[e];rfl:(aV cl q).isSome=true)
  exact absurd e2 (h c hc)
theorem Jm{f:Pl->Pl}(inj:∀a b,f a=f b->a=b){cs:CL}{i:Nat}{p:Pl}{s:Int}(nd:(cs.map (·.1)).Nodup)(e:cs[i]?=some (p,s)):jQ (aI (vI f (cs.take i))) (eI (f p).1 (f p).2.1 (f p).2.2) (V.int s)=aI (vI f (cs.take (i+1))):=by
 rw[Js]
 ·rw[i3,e]
  unfold vI
  rw[cp]
  rfl
 ·refine zW λc hc z=>?_
  obtain⟨c0,h0,rfl⟩:=a6.mp hc
  exact vA nd e c0 h0 (inj _ _ z)
theorem Ef(W:Int)(a b:Pl)(e:fO W a=fO W b):a=b:=by
 obtain⟨x,y,z⟩:=a
 obtain⟨u,v,w⟩:=b
 unfold fO at e
 simp only[Prod.mk.injEq] at e ⊢
 omega
theorem My(x y z:Int)(p q:Pl)(e:lY x y z p=lY x y z q):p=q:=by
 obtain⟨a,b,c⟩:=p
 obtain⟨u,v,w⟩:=q
 unfold lY at e
 simp only[Prod.mk.injEq] at e ⊢
 omega
theorem Ty{f:Pl->Pl}(inj:∀a b,f a=f b->a=b){cs:CL}(nd:(cs.map (·.1)).Nodup):((vI f cs).map (·.1)).Nodup:=by
 unfold vI
 rw[d4]
 have:(cs.map ((·.1)∘λc:Pl×Int=>(f c.1,c.2)))=(cs.map (·.1)).map f:=by rw[d4];rfl
 rw[this]
 exact mi _ (λa b h z=>h (inj a b z)) nd
theorem Cy(f:Pl->Pl)(cs:CL):(vI f cs).length=cs.length:=ah _
theorem eX(cs:CL):(aI cs).length=cs.length:=by unfold aI;rw[ah]
structure tU(t:TP):Prop where
 nd:(t.cs.map (·.1)).Nodup
 ln:t.cs.length<20000
theorem tU.once{t:TP}(h:tU t):tU (Iw t):=⟨Ty (Ef t.W) h.nd,by show (Qc t.W t.cs).length<20000;unfold Qc;rw[ah];exact h.ln⟩
theorem tU.turns{t:TP}(h:tU t):∀n,tU (gJ t n)
 |0=>h
 |n+1=>(tU.turns h n).once
theorem six{x:List Nat}(h:x.length=6):∃a b c d e f,x=[a,b,c,d,e,f]:=by
 match x,h with
 |[a,b,c,d,e,f],_=>exact⟨a,b,c,d,e,f,rfl⟩
theorem Ay{H H':Hp}{c d:Addr}{u:HO}{od:Obj}(h:H c=some u)(hd:H d=none){o:HO}(s:SX d (upd (upd H d o) c (.frz od u)) H'):aK H (upd H' c u):=λb ob e=>by
 have nb:=aD e hd
 by_cases hb:b=c
 ·rw[hb] at e ⊢
  rw[aC,<-e,h]
 ·rw[aB hb]
  exact s b ob (by rw[aB hb,aB nb];exact e) nb
section
variable {P:Program} {w:World} {K:PySem.W.Frag} {mg:Str->Option Value} {base:Heap} {C CR CP CG:Addr}
def Ps(CP:Addr)(H:Hp)(b nm:Addr)(g:Int)(t:TP):Prop:=yD CP H b nm t.W t.D t.Hh g t.cs
def Ii(CP:Addr):Sp:=λvs H Q _=>∃(b nm:Addr)(g:Int)(t:TP),vs=[.ref b]/\Ps CP H b nm g t/\tU t/\∀(H':Hp)(b':Addr),aK H H'->Ps CP H' b' nm g (Iw t)->Q (.ref b') H'
theorem uF:aQ ["part","cells","place","sign"] ["part"] (aH Ld):=⟨rfl,rfl,rfl,by decide+kernel,rfl,by decide+kernel,by decide+kernel⟩
theorem Uy{f:Addr}{fd:FuncData}(F:fH K "turned_once" "turned_once" Ld f fd)(T':Nn K CP)(PM:PtM P w K mg base CP):bT P w K mg base bU 3 f fd ["part"] (Ii CP):=by
 obtain⟨fp,fdp,MP,GP,bP⟩:=PM.ex
 refine F.ok uF (λvs H Q E h=>?_) (λai A outer s H vs Q E hr h=>?_)
 ·obtain⟨b,nm,g,t,rfl,_⟩:=h
  rfl
 ·obtain⟨b,nm,g,⟨W,D,Hh,cs⟩,rfl,⟨dx,c,hb,hc⟩,⟨nd,ln⟩,k⟩:=h
  have hb:H b=some (.ins CP dx (On nm W D Hh g c)):=hb
  have hc:H c=some (.dT (aI cs)):=hc
  have ln:cs.length<20000:=ln
  have ay:=hr.mono (j:=2) (by decide)
  have hu:=jY hr
  refine⟨_,aE (aZ (i:=1) uF.nd rfl (Or.inl rfl) kF)
   (aE (gQ (eB i4 rfl (iJ (aO (pv 0) rfl)) (lG rfl (cK (bH (i:=2) uF.nd rfl (Or.inl rfl)) (cK (bH (i:=3) uF.nd rfl (Or.inl rfl)) iC)))
    (aG (lN hu (pv 1) (eN (aA (bS bO (pv 2) aJ (λ_ _=>rfl)) (aA (cR eU (cR eU (aO (pv 0) rfl) aJ) (bS bO (pv 2) aJ (λ_ _=>rfl))) (aA (bS bO (pv 2) aJ (λ_ _=>rfl)) aF)))) (pv 3) rfl))))
   (aG (aW (qK MP GP ay (by rfl) PM.mg bP .nil aY (aA (aO (pv 0) rfl) (aA (aO (pv 0) rfl) (aA (aO (pv 0) rfl) (aA (aO (pv 0) rfl) (aA (aO (pv 0) rfl) (aA (pv 1) aF)))))))))),?_⟩
  intro d hd
  have S0:aK H (upd H d (.dT [])):=aK.new hd
  have RZ:b≠d:=aD hb hd
  have qb:c≠d:=aD hc hd
  have u4:b≠c:=λz=>by rw[z,hc] at hb;cases hb
  have bw:=bJ
  refine⟨c,_,S0 _ _ hc,trivial,λod=>?_⟩
  have fi:upd (upd H d (.dT [])) c (.frz od (.dT (aI cs))) c=some (.frz od (.dT (aI cs))):=aC
  have nv:upd (upd H d (.dT [])) c (.frz od (.dT (aI cs))) b=some (.ins CP dx (On nm W D Hh g c)):=by rw[aB u4];exact S0 _ _ hb
  have jt:upd (upd H d (.dT [])) c (.frz od (.dT (aI cs))) d=some (.dT []):=by rw[aB (ao qb),aC]
  refine⟨_,rfl,b,CP,dx,_,_,rfl,nv,T'.cl,T'.n6,rfl,c,od,_,rfl,fi,?_⟩
  refine gK (λi σ H'=>∃v2 v3,σ=[some (.ref b),some (.ref d),v2,v3]/\SX d (upd (upd H d (.dT [])) c (.frz od (.dT (aI cs)))) H'/\H' d=some (.dT (aI (vI (fO W) (cs.take i))))) ⟨none,none,rfl,SX.refl _ _,jt⟩ ?_ ?_ ?_
  ·rintro i σ H1 hi ⟨v2,v3,rfl,S1,_⟩
   exact S1 _ _ fi qb
  ·rintro i σ H1 T k v q e ⟨v2,v3,rfl,S1,fj⟩ hT hq
   obtain⟨p,sg,e1,rfl,rfl⟩:=gO e
   have ST:=aK.new (o:=.tup [.ref q,.int sg]) hT
   refine⟨T,_,rfl,cN.of aC,rfl,_,_,rfl,_,_,rfl,rfl,?_⟩
   have cu:=ST _ _ hq
   have i5:=ST _ _ (S1 _ _ nv RZ)
   have dv:=ST _ _ fj
   generalize upd H1 T (.tup [.ref q,.int sg])=H2 at ST cu i5 dv
   refine⟨_,rfl,_,rfl,_,rfl,q,_,_,_,rfl,rfl,cN.of cu,rfl,_,rfl,b,CP,dx,_,_,rfl,i5,T'.cl,T'.n2,rfl,_,_,rfl,rfl,_,rfl,q,_,_,_,rfl,rfl,cN.of cu,rfl,_,_,rfl,rfl,_,rfl,q,_,_,_,rfl,rfl,cN.of cu,rfl,(by show 3<=sizeLine;decide),λt ht=>?_⟩
   have SQ:=aK.new (o:=.tup [.int p.2.1,.int (W - 1 - p.1),.int p.2.2]) ht
   have hi:i<cs.length:=(bh.mp e1).1
   refine⟨d,_,rfl,wS.t (k:=eI p.2.1 (W - 1 - p.1) p.2.2) (SQ _ _ dv) aC (by rw[eX,Cy,ij];omega),?_⟩
   refine⟨_,_,rfl,λb' o e' n'=>?_,?_⟩
   ·rw[aB n']
    exact SQ _ _ (ST _ _ (S1 _ _ e' n'))
   ·rw[aC]
    exact congrArg (λz=>some (HO.dT z)) (Jm (Ef W) nd e1)
  ·rintro σ H1 ⟨v2,v3,rfl,S1,fj⟩
   rw[eX,ik] at fj
   refine⟨S1 _ _ fi qb,?_⟩
   have S2:=Ay hc hd S1
   have dv:upd H1 c (.dT (aI cs)) d=some (.dT (aI (vI (fO W) cs))):=by rw[aB (ao qb)];exact fj
   generalize upd H1 c (.dT (aI cs))=H2 at S2 dv
   have i5:=S2 _ _ hb
   refine⟨_,rfl,b,CP,dx,_,_,rfl,i5,T'.cl,T'.n1,rfl,_,rfl,b,CP,dx,_,_,rfl,i5,T'.cl,T'.n3,rfl,_,rfl,b,CP,dx,_,_,rfl,i5,T'.cl,T'.n2,rfl,_,rfl,b,CP,dx,_,_,rfl,i5,T'.cl,T'.n4,rfl,_,rfl,b,CP,dx,_,_,rfl,i5,T'.cl,T'.n5,rfl,_,rfl,?_⟩
   intro b' db j3 fq ak
   refine⟨b',db,nm,d,D,W,Hh,g,rfl,aC,λH3 y1 s3=>⟨rfl,?_⟩⟩
   have uw:∀y o,H2 y=some o->H3 y=some o:=λy o e=>s3 y o (by rw[aB (aD e j3),aB (aD e fq)];exact e) (aD e j3)
   exact k H3 b' (λy o e=>uw y o (S2 y o e)) ⟨db,d,y1,uw _ _ dv⟩
def xP(CP:Addr):Sp:=λvs H Q _=>∃(b nm:Addr)(g:Int)(t:TP)(n:Nat),vs=[.ref b,.int (n:Int)]/\n<=100/\Ps CP H b nm g t/\tU t/\∀(H':Hp)(b':Addr),aK H H'->Ps CP H' b' nm g (gJ t n)->Q (.ref b') H'
theorem sP:aQ ["part","turns","turn"] ["part","turns"] (aH uT):=⟨rfl,rfl,rfl,by decide+kernel,rfl,by decide+kernel,by decide+kernel⟩
theorem Ny{f:Addr}{fd:FuncData}(F:fH K "turned_part" "turned_part" uT f fd)(m8:mg "range"=none)(L1:dL P w K mg base "turned_once" bU 3 ["part"] (Ii CP)):bT P w K mg base bU 4 f fd ["part","turns"] (xP CP):=by
 obtain⟨g1,gh,G1,b1,k1,h1⟩:=L1.ex
 refine F.ok sP (λvs H Q E h=>?_) (λai A outer s H vs Q E hr h=>?_)
 ·obtain⟨b,nm,g,t,n,rfl,_⟩:=h
  rfl
 ·obtain⟨b,nm,g,t,n,rfl,hn,ht,tok,k⟩:=h
  refine⟨_,aE (eB i4 rfl (iL rfl m8 (aA (pv 1) aF)) (bH (i:=2) sP.nd rfl (Or.inl rfl))
    (aG (aZ (i:=0) sP.nd rfl (Or.inl rfl) (aT G1 hr (by rfl) h1 k1 b1 .nil aY (aA (pv 0) aF)))))
   (aG (aW (pv 0))),?_⟩
  refine⟨_,rfl,_,rfl,by omega,by omega,lL (n:=n) (λi σ H'=>∃b' v2,σ=[some (.ref b'),some (.int (n:Int)),v2]/\aK H H'/\Ps CP H' b' nm g (gJ t i)) ⟨b,none,rfl,aK.id' _,ht⟩ ?_ ?_⟩
  ·rintro i σ H1 hi ⟨b',v2,rfl,S1,h1⟩
   exact⟨_,rfl,b',nm,g,gJ t i,rfl,h1,tok.turns i,λH2 b2 S2 h2=>⟨b2,_,rfl,S1.trans S2,h2⟩⟩
  ·rintro σ H1 ⟨b',v2,rfl,S1,h1⟩
   exact⟨_,rfl,k H1 b' S1 h1⟩
end
end Br1
namespace L2
open PySem PySem.Spec PyProof.Rows
def tW(D:fY)(d:Addr)(o:Obj)(u:HO):fY:=⟨λae H'=>H' d=some (.frz o u)/\D.nx ae (upd H' d u),λv H'=>H' d=some (.frz o u)/\D.rt v (upd H' d u),λae H'=>H' d=some (.frz o u)/\D.bk ae (upd H' d u),λae H'=>H' d=some (.frz o u)/\D.ct ae (upd H' d u)⟩
def aBl(td:TE)(g:TG)(tb:TS):TS:=λD σ H=>td σ H λx H1=>∃d aI,x=.ref d/\H1 d=some (.dT aI)/\∀o,∃W:Nat->Nat->St->Hp->Prop,(∃m,W 0 m σ (upd H1 d (.frz o (.dT aI))))/\∀i m σ H,W i m σ H->
 ((Gm d o aI).stop i H/\(tW D d o (.dT aI)).nx σ H)\/((Gm d o aI).go i H/\∃N:St->Hp->Prop,(∀ae H',N ae H'->∃m',m'<m/\W (i+1) m' ae H')/\∀x H',(Gm d o aI).yld i H x H'->g x σ H' λau H2=>tb {tW D d o (.dT aI) with nx:=N,ct:=N,bk:=(tW D d o (.dT aI)).nx} au H2)
def aBx(X:Cx)(D:fY)(σ:St)(g:TG)(tb:TS):It->Hp->Prop:=λJ H'=>∃d aI o,J=Gm d o aI/\(∀o' u',X.H_0 d≠some (.frz o' u'))/\
   ∃W:Nat->Nat->St->Hp->Prop,(∃m,W 0 m σ H')/\∀i m σ H,W i m σ H->((Gm d o aI).stop i H/\(tW D d o (.dT aI)).nx σ H)\/((Gm d o aI).go i H/\∃N:St->Hp->Prop,(∀ae H',N ae H'->∃m',m'<m/\W (i+1) m' ae H')/\∀x H',(Gm d o aI).yld i H x H'->g x σ H' λau H2=>tb {tW D d o (.dT aI) with nx:=N,ct:=N,bk:=(tW D d o (.dT aI)).nx} au H2)
theorem Vy{X:Cx}{e:Expr}{td:TE}{cx b9:Pos}{iu:List Expr}{kk:Nat}{gc pos:Pos}{body:List Stmt}{g:TG}{tb:TS}(hp:PassesOwn (model X.prog X.w) X.A X.env X.xe)(hc:X.calm=true)(he:PE X e td)(hg:PG X (.Tuple iu kk gc) g)(hb:zI X body tb)
  (lr:attributeBase e "items" X.env (eval e X.env)=eval e X.env:=by rfl) (pc:(cx.endLine==b9.line)=true:=by rfl) (hs:∀x,foldedSetIterable (.Call (.Attribute e "items" cx) [] [] b9) X.env x=pure x:=by intro _;rfl):
  PS X (.For (.Tuple iu kk gc) (.Call (.Attribute e "items" cx) [] [] b9) body [] pos) (aBl td g tb):=by
 intro pins s σ H D I h
 have hi:wpAny (model X.prog X.w) X.A (eval (.Call (.Attribute e "items" cx) [] [] b9) X.env) (λv s1=>wpAny (model X.prog X.w) X.A (pyIter v) (PIE X pins σ (.Tuple iu kk gc) (aBx X D σ g tb)) X.xe s1) X.xe s:=by
  refine wpAny_Call_method (T:="dict") (id:="dict.items") lr rfl pc HG C9 F.type_dict_items (cD (he pins s σ H _ I h) λu s1 ⟨x,H0,I0,rx,d,aI,ex,KE,q⟩=>?_)
  subst ex
  obtain rfl:u=Value.ref d:=rx
  have hn:=I0.nofrz KE trivial
  obtain⟨o,I1⟩:=I0.lock KE trivial
  have hd:upd H0 d (.frz o (.dT aI)) d=some (.frz o (.dT aI)):=aC
  obtain⟨hs,c7,hx,es,ep,bq,hsz,kq⟩:=I1.frzT2 hd
  have gf:s1.TypeIs (.ref d) "dict":=⟨o,c7,hx.1⟩
  refine⟨gf,λb q=>by cases q;exact⟨o,c7,hx.2.1⟩,?_⟩
  have I2:aP X pins σ (upd H0 d (.frz o (.dT aI))) {s1 with heap:=s1.heap.push {cls:=.type "dict_items",data:=.fields #[.ref d]}}:=I1.kept (t':=s1.toks) λb ob q=>br _ q
  have fin:wpAny (model X.prog X.w) X.A (pyIter (.ref s1.heap.objs.size)) (PIE X pins σ (.Tuple iu kk gc) (aBx X D σ g tb)) X.xe {s1 with heap:=s1.heap.push {cls:=.type "dict_items",data:=.fields #[.ref d]}}:=
   Cq (d:=d) (n:=aI.length) ⟨_,cf _ rfl,rfl,rfl⟩ (br _ c7) bq hsz (rT (tk:=s1.toks) I2 _ (tD _ bq) ⟨.none,.none,cf _ rfl⟩ ⟨d,aI,o,rfl,hn,q o⟩)
  show wpAny _ _ (callWith b9 (.builtin "dict.items") [.ref d] [] []) _ X.xe s1
  exact HH C9 F.entry_dict_items rfl (PySem.evalArgs_none ⟨rfl,gf,F.args_dict_items_1 _,_,zH hs,gf,fin⟩)
 refine wpAny_For (cD hi λv s1 h1=>cD h1 λAU s2 h2=>?_) hs
 obtain⟨it,fp,tn,J,H2,e,I2,T,wg,f2,d,aI,o,rfl,hn,W,⟨m0,w0⟩,turn⟩:=h2
 subst e
 have stat:∀{H':Hp},(∀b∈fp,H' b=none)->∀b∈fp,tZ X pins H' b:=λhn b hb=>⟨hn b hb,(f2 b hb).2⟩
 refine codeAny_forLoop_any (λn s'=>∃i ae H',aP X pins ae H' s'/\tn i s'.heap/\(∀b∈fp,H' b=none)/\W i n ae H') ?_ m0 ⟨0,σ,H2,I2,wg,λb hb=>(f2 b hb).1,w0⟩
 rintro n s3 ⟨i,il,H3,I3,uh,yj,w3⟩
 rcases turn i n il H3 w3 with ⟨stop,qn⟩|⟨go,N,hN,step⟩
 ·refine wpAny_passesOwn hp (cD (T.done X rfl rfl rfl hc i pins s3 il H3 X.xe I3 (stat yj) uh stop) λr s4 ⟨hr,I4⟩=>?_)
  subst hr
  exact vj ⟨il,_,I4.unlock qn.1 hn,qn.2⟩
 ·refine wpAny_passesOwn hp (cD (T.item X rfl rfl rfl hc i pins s3 il H3 X.xe I3 (stat yj) uh go) λr s4 ⟨u,hr,h4⟩=>?_)
  subst hr
  refine wpAny_passesOwn hp (cD h4 λ_ s5 ⟨x,H5,I5,r5,y5,mr,DR⟩=>?_)
  have DS:=I5.pinned (stat DR) (T.obj _ _ mr)
  refine wpAny_passesOwn hp (cD (hg _ s5 il H5 x u _ DS r5 (step x H5 y5)) λ_ s6 ⟨AV,H6,I6,q6⟩=>?_)
  refine wpAny_passesOwn hp (cD (hb _ s6 AV H6 _ I6 q6) λf s7 q7=>?_)
  have again:∀{d7:St}{H7:Hp},aP X (pins++sC fp s5.heap) d7 H7 s7->N d7 H7->∃m,m<n/\∃i ae H',aP X pins ae H' s7/\tn i s7.heap/\(∀b∈fp,H' b=none)/\W i m ae H':=λ{d7 H7} I7 n7=>by
   obtain⟨m',hm,w7⟩:=hN d7 H7 n7
   refine⟨m',hm,i+1,d7,H7,I7.unpinned,T.keep _ _ _ mr λb hb o e=>(I7.pin (b,o) (fk _ (fk _ (iU hb e)))).1,λb hb=>?_,w7⟩
   obtain⟨o,e,d⟩:=T.obj _ _ mr b hb
   exact(I7.pin (b,o) (fk _ (fk _ (iU hb e)))).2.1
  cases f with
  |next=>obtain⟨d7,H7,I7,n7⟩:=q7;exact again I7 n7
  |cont=>obtain⟨d7,H7,I7,n7⟩:=q7;exact again I7 n7
  |brk=>obtain⟨d7,H7,I7,q7⟩:=q7;exact⟨d7,_,I7.unpinned.unlock q7.1 hn,q7.2⟩
  |ret v=>obtain⟨x7,d7,H7,I7,r7,q7⟩:=q7;exact⟨x7,d7,_,I7.unpinned.unlock q7.1 hn,r7,q7.2⟩
end L2
namespace Br1
section
open Classical
def vR(links:List (List Nat))(i j:Nat):Prop:=(links.getD i []).contains j=true
theorem Lv{α:Type}{E:α->α->Prop}{l l' rest FK:List α}(h1:∀x∈l,eW E l' FK x)(h2:∀x∈rest,x∈FK){s:α}(h:eW E l rest s):eW E l' FK s:=by
 induction h with
 |base ha=>exact h1 _ ha
 |step _ e hq ih=>exact .step ih e (h2 _ hq)
theorem Jx(links:List (List Nat)):∀{n:Nat}{l rest:List Nat},rest.length<=n->(∀x∈l,x∉rest)->Br.leftFrom links n l rest=rest.filter λj=>decide (¬eW (vR links) l rest j)
 |0,l,rest,hn,_=>by
  have:rest=[]:=ua (by omega)
  subst this
  rfl
 |n+1,l,rest,hn,dj=>by
  have ep:(rest.partition λ(j:Nat)=>l.any λ(i:Nat)=>(links.getD i []).contains j)=(rest.filter (λ(j:Nat)=>l.any λ(i:Nat)=>(links.getD i []).contains j),rest.filter (not∘λ(j:Nat)=>l.any λ(i:Nat)=>(links.getD i []).contains j)):=DG
  show (if (rest.partition λ(j:Nat)=>l.any λ(i:Nat)=>(links.getD i []).contains j).1=[] then rest else Br.leftFrom links n (rest.partition λ(j:Nat)=>l.any λ(i:Nat)=>(links.getD i []).contains j).1 (rest.partition λ(j:Nat)=>l.any λ(i:Nat)=>(links.getD i []).contains j).2)=_
  rw[ep]
  have am:∀j,(l.any λ(i:Nat)=>(links.getD i []).contains j)=true↔∃i∈l,vR links i j:=λj=>by
   rw[lh]
   rfl
  generalize hf:(λ(j:Nat)=>l.any λ(i:Nat)=>(links.getD i []).contains j)=f at am
  have am:∀j,f j=true↔∃i∈l,vR links i j:=λj=>by rw[<-hf];exact(by rw[lh];rfl)
  show (if rest.filter f=[] then rest else Br.leftFrom links n (rest.filter f) (rest.filter (not∘f)))=_
  have ln:=lU f rest
  by_cases h:rest.filter f=[]
  ·rw[ac h]
   refine(List.filter_eq_self.mpr λj hj=>cn (p:=¬eW (vR links) l rest j) λhF=>?_).symm
   have key:∀s,eW (vR links) l rest s->s∈l:=by
    intro s hF
    induction hF with
    |base ha=>exact ha
    | @step p q _ e hq ih=>
     have:q∈rest.filter f:=ca.mpr ⟨hq,(am q).mpr ⟨_,ih,e⟩⟩
     rw[h] at this
     cases this
   exact dj j (key j hF) hj
  ·rw[aa h]
   have hl:0<(rest.filter f).length:=HX.mpr h
   rw[Jx links (n:=n) (by omega) λx hx hy=>by
    have h1:=(ca.mp hx).2
    have h2:=(ca.mp hy).2
    simp[h1] at h2,List.filter_filter]
   refine NG λj hj=>?_
   have key:∀s,eW (vR links) l rest s->s∈l\/eW (vR links) (rest.filter f) (rest.filter (not∘f)) s:=by
    intro s hF
    induction hF with
    |base ha=>exact .inl ha
    | @step p q _ e hq ih=>
     right
     by_cases hx:f q=true
     ·exact .base (ca.mpr ⟨hq,hx⟩)
     ·rcases ih with h1|h1
      ·exact absurd ((am q).mpr ⟨p,h1,e⟩) hx
      ·exact .step h1 e (ca.mpr ⟨hq,by simpa using hx⟩)
   have back:∀s,eW (vR links) (rest.filter f) (rest.filter (not∘f)) s->eW (vR links) l rest s:=λs hF=>
    Lv (λx hx=>by
     obtain⟨i,hi,e⟩:=(am x).mp (ca.mp hx).2
     exact .step (.base hi) e (ca.mp hx).1) (λx hx=>(ca.mp hx).1) hF
   by_cases hx:f j=true
   ·have:eW (vR links) l rest j:=by
     obtain⟨i,hi,e⟩:=(am j).mp hx
     exact .step (.base hi) e hj
    simp[hx,this]
   ·have e:eW (vR links) (rest.filter f) (rest.filter (not∘f)) j↔eW (vR links) l rest j:=⟨back j,λhF=>(key j hF).resolve_left λz=>dj j z hj⟩
    simp[hx,e]
inductive hG(E:Nat->Nat->Prop)(a:Nat):Nat->Prop
 |refl:hG E a a
 |step {b c:Nat}:hG E a b->E b c->hG E a c
theorem hG.trans{E:Nat->Nat->Prop}{a b c:Nat}(h:hG E a b)(k:hG E b c):hG E a c:=by
 induction k with
 |refl=>exact h
 |step _ e ih=>exact .step ih e
theorem hG.symm{E:Nat->Nat->Prop}(sy:∀a b,E a b->E b a){a b:Nat}(h:hG E a b):hG E b a:=by
 induction h with
 |refl=>exact .refl
 |step _ e ih=>exact(hG.step .refl (sy _ _ e)).trans ih
theorem hG.mono{E F:Nat->Nat->Prop}(h:∀a b,E a b->F a b){a b:Nat}(c:hG E a b):hG F a b:=by
 induction c with
 |refl=>exact .refl
 |step _ e ih=>exact .step ih (h _ _ e)
structure mU(E:Nat->Nat->Prop)(i h:Nat):Prop where
 c:hG E i h
 l:∀j,hG E i j->h<=j
theorem mU.uq{E:Nat->Nat->Prop}{i h k:Nat}(a:mU E i h)(b:mU E i k):h=k:=NH (a.l _ b.c) (b.l _ a.c)
theorem mU.of_iff{E F:Nat->Nat->Prop}(h:∀a b,E a b↔F a b){i k:Nat}(x:mU E i k):mU F i k:=⟨x.c.mono λa b=>(h a b).mp,λj c=>x.l j (c.mono λa b=>(h a b).mpr)⟩
theorem Vf{E:Nat->Nat->Prop}{n:Nat}(lt:∀a b,E a b->b<n){a b:Nat}(ha:a<n)(h:hG E a b):b<n:=by
 cases h with
 |refl=>exact ha
 |step _ e=>exact lt _ _ e
theorem sR{E:Nat->Nat->Prop}{rest:List Nat}{i:Nat}(cl:∀a b,(a=i\/a∈rest)->E a b->b=i\/b∈rest){j:Nat}:eW E [i] rest j↔hG E i j:=by
 constructor
 ·intro h
  induction h with
  |base ha=>rw[b5] at ha;subst ha;exact .refl
  |step _ e _ ih=>exact .step ih e
 ·intro h
  have key:eW E [i] rest j/\(j=i\/j∈rest):=by
   induction h with
   |refl=>exact⟨.base (b5.mpr rfl),.inl rfl⟩
   | @step b c _ e ih=>
    rcases cl b c ih.2 e with h|h
    ·subst h
     exact⟨.base (b5.mpr rfl),.inl rfl⟩
    ·exact⟨.step ih.1 e h,.inr h⟩
  exact key.1
structure Xl(links:List (List Nat))(n:Nat):Prop where
 lt:∀a b,vR links a b->a<n/\b<n
 sy:∀a b,vR links a b->vR links b a
theorem Ah{links:List (List Nat)}{N:Nat}(G:Xl links N):∀{n:Nat}{rest:List Nat},rest.length<=n->rest.Pairwise (· <·)->(∀a b,a∈rest->vR links a b->b∈rest)->
  (Br.headsFrom links n rest).Pairwise (· <·)/\∀h,h∈Br.headsFrom links n rest↔h∈rest/\mU (vR links) h h
 |0,rest,hn,_,_=>by
  have:rest=[]:=ua (by omega)
  subst this
  exact⟨List.Pairwise.nil,λh=>by simp[Br.headsFrom]⟩
 |n+1,[],hn,_,_=>⟨List.Pairwise.nil,λh=>by simp[Br.headsFrom]⟩
 |n+1,i::r,hn,ps,cl=>by
  have zj:=NI.mp ps
  have R0:∀x∈[i],x∉r:=λx hx hy=>by
   rw[b5] at hx
   subst hx
   exact absurd (zj.1 x hy) (i8 _)
  have zk:∀a b,(a=i\/a∈r)->vR links a b->b=i\/b∈r:=λa b ha e=>aw.mp (cl a b (aw.mpr ha) e)
  rw[Br.headsFrom,Jx links (GN _) R0]
  have ih:=Ah G (n:=n) (rest:=r.filter λj=>decide (¬eW (vR links) [i] r j)) (d6 (AJ _ _) (by simpa using hn)) (zj.2.filter _) (λa b ha e=>by
   obtain⟨h1,h2⟩:=ca.mp ha
   have h2:=dq h2
   rw[sR zk] at h2
   rcases zk a b (.inr h1) e with rfl|hb
   ·exact absurd (hG.step .refl (G.sy _ _ e)) h2
   ·refine ca.mpr ⟨hb,cn ?_⟩
    rw[sR zk]
    exact λz=>h2 (z.step (G.sy _ _ e)))
  have li:mU (vR links) i i:=⟨.refl,λj hj=>by
   rcases(by
    induction hj with
    |refl=>exact .inl rfl
    | @step b c _ e ih=>exact zk b c ih e:j=i\/j∈r) with h|h
   ·exact vk h.symm
   ·exact B9 (zj.1 j h)⟩
  refine⟨NI.mpr ⟨λx hx=>zj.1 x (ca.mp ((ih.2 x).mp hx).1).1,ih.1⟩,λh=>?_⟩
  rw[aw,aw,ih.2]
  constructor
  ·rintro(rfl|⟨h1,h2⟩)
   ·exact⟨.inl rfl,li⟩
   ·exact⟨.inr (ca.mp h1).1,h2⟩
  ·rintro⟨rfl|h1,h2⟩
   ·exact .inl rfl
   ·refine .inr ⟨ca.mpr ⟨h1,cn λz=>?_⟩,h2⟩
    rw[sR zk] at z
    have:=h2.l i (z.symm G.sy)
    exact absurd (zj.1 h h1) (Nat.not_lt.mpr this)
end
theorem Il{α:Type}[DecidableEq α]{l m:List α}(h1:l.Nodup)(h2:m.Nodup)(h:∀x,x∈l↔x∈m):l.length=m.length:=
 NH (nJ h1 λx hx=>(h x).mp hx) (nJ h2 λx hx=>(h x).mpr hx)
theorem Jo{p:Br.Part}(ok:Shp p)(f:Br.Place->Bool):(p.such f).Nodup:=by
 unfold Br.Part.such
 have sl:List.Sublist (((p.spots.zip p.places).filter λ(s:jH×Br.Place)=>f s.2).map λ(s:jH×Br.Place)=>s.1) ((p.spots.zip p.places).map Prod.fst):=HU _ HV
 refine sl.nodup ?_
 rw[NB (by rw[qD ok.w ok.d,ah,AK,ok.l];exact ap _),qD ok.w ok.d]
 refine mi _ ?_ HW
 intro a b h z
 have e1:=lC (w:=p.wide) (d:=p.deep) (i:=a) rfl
 have e2:=lC (w:=p.wide) (d:=p.deep) (i:=b) (x:=(fD p.wide p.deep a).1) (y:=(fD p.wide p.deep a).2.1) (z:=(fD p.wide p.deep a).2.2) z.symm
 exact h (e1.trans e2.symm)
structure SNd(sh:Br.Shape):Prop where
 c:sh.cells.Nodup
 s:sh.studs.Nodup
theorem aAq{p:Br.Part}(ok:Shp p)(l:Br.Line)(im:Bool):SNd ⟨(l.x,l.y,l.z),(p.wide,p.deep,p.high),im,p.cells.map l.put,p.studs.map l.put,p.tubes.map l.put⟩:=by
 have inj:∀a b:jH,l.put a=l.put b->a=b:=by
  rintro⟨a,b,c⟩ ⟨u,v,w⟩ e
  unfold Br.Line.put at e
  simp only[Prod.mk.injEq] at e ⊢
  omega
 exact⟨mi _ (λa b h z=>h (inj a b z)) (Jo ok _),mi _ (λa b h z=>h (inj a b z)) (Jo ok _)⟩
abbrev ZS:=List (Br.Shape×CL)
def iW(zs:ZS):CL:=zs.flatMap (·.2)
def Ca:Nat->List CL->CL
 |_,[]=>[]
 |j,c::r=>(c.map λx=>(x.1,(j:Int)))++Ca (j+1) r
def uY(zs:ZS):CL:=Ca 0 (zs.map (·.2))
theorem Jn:∀(j:Nat)(a b:List CL),Ca j (a++b)=Ca j a++Ca (j+a.length) b
 |j,[],b=>rfl
 |j,c::r,b=>by
  show _++Ca (j+1) (r++b)=(_++Ca (j+1) r)++Ca (j+(r.length+1)) b
  rw[Jn (j+1) r b,ox,show j+1+r.length=j+(r.length+1) by omega]
theorem vG(zs:ZS)(z:Br.Shape×CL):uY (zs++[z])=uY zs++z.2.map λc=>(c.1,(zs.length:Int)):=by
 unfold uY
 rw[cp,Jn,ah,kd]
 show _++(_++[])=_
 rw[f8]
theorem vU(zs:ZS)(z:Br.Shape×CL):iW (zs++[z])=iW zs++z.2:=by
 unfold iW
 rw[DD]
 simp
structure iE(zs:ZS):Prop where
 inv:aP zs (iW zs) (uY zs)
 snd:∀z∈zs,SNd z.1
theorem iE.own{zs:ZS}(R:iE zs){i:Nat}{z:Br.Shape×CL}(h:zs[i]?=some z){q:Pl}{v:Int}(hq:(q,v)∈z.2):aV (uY zs) q=some (i:Int)/\aV (iW zs) q=some v:=
 ⟨(R.inv.owO q i).mpr ⟨i,z,v,h,hq,rfl⟩,(R.inv.sgO q v).mpr ⟨i,z,h,hq⟩⟩
def cY(sg ow:CL)(c:Pl×Int):Option (Int×Int):=if eA c.2=true/\((aV sg (jK c.1)).any dD)=true then some ((aV ow c.1).getD 0,(aV ow (jK c.1)).getD 0) else none
def jT(sg ow:CL):List (Int×Int):=sg.filterMap (cY sg ow)
def Go(cj:CL)(c:Pl×Int):Bool:=eA c.2 && (aV cj (jK c.1)).any dD
theorem Ng{i j:Br.Shape}{ci cj:CL}(hi:tX i ci)(hj:tX j cj)(ni:SNd i):Br.fitted i j=(ci.filter (Go cj)).length:=by
 have e0:∀s:jH,(∃v,(bW s,v)∈ci.filter (Go cj))↔s∈i.studs.filter λ(s:jH)=>j.tubes.contains (Br.above s):=by
  intro s
  rw[ca,qu,hi.st,hj.tb]
  constructor
  ·rintro⟨v,h⟩
   obtain⟨h1,h2⟩:=ca.mp h
   have h2:(eA v && (aV cj (jK (bW s))).any dD)=true:=h2
   rw[cg,AN] at h2
   obtain⟨h2,u,hu,ht⟩:=h2
   exact⟨⟨v,h1,h2⟩,u,kW hu,ht⟩
  ·rintro⟨⟨v,h1,h2⟩,u,hu,ht⟩
   refine⟨v,ca.mpr ⟨h1,?_⟩⟩
   show (eA v && (aV cj (jK (bW s))).any dD)=true
   rw[cg,AN]
   exact⟨h2,u,(Al hj.nd).mpr hu,ht⟩
 have e1:(i.studs.filter λ(s:jH)=>j.tubes.contains (Br.above s)).length=(ci.filter (Go cj)).length:=by
  have hn:((ci.filter (Go cj)).map (·.1)).Nodup:=(HU _ HV).nodup hi.nd
  rw[<-ah (as:=ci.filter (Go cj)) (·.1),<-ah (as:=i.studs.filter _) bW]
  refine Il (mi _ (λa b h z=>h (fU z)) (ni.s.filter _)) hn λq=>?_
  rw[a6,a6]
  constructor
  ·rintro⟨s,hs,rfl⟩
   obtain⟨v,hv⟩:=(e0 s).mpr hs
   exact⟨_,hv,rfl⟩
  ·rintro⟨⟨q,v⟩,hv,rfl⟩
   obtain⟨s,rfl⟩:=hi.ps q v (ca.mp hv).1
   exact⟨s,(e0 s).mp ⟨v,hv⟩,rfl⟩
 unfold Br.fitted
 by_cases hm:Br.meet i j 1=true
 ·rw[ac hm,e1]
 ·rw[aa hm,<-e1]
  refine(AI.mpr (List.filter_eq_nil_iff.mpr λs hs ht=>hm ?_)).symm
  rw[qu] at ht
  obtain⟨v,hv,_⟩:=(hi.st s).mp hs
  obtain⟨u,hu,_⟩:=(hj.tb _).mp ht
  have b1:=hi.box s ((hi.c s).mpr ⟨v,hv⟩)
  have b2:=hj.box _ ((hj.c _).mpr ⟨u,hu⟩)
  unfold Br.meet
  simp only[cg,bu]
  unfold Br.above at b2
  simp only at b2
  omega
theorem Ph{α β γ:Type}(f:β->List γ)(g:α->List β)(h:β->Option γ):∀l:List α,(l.flatMap g).filterMap h=l.flatMap λa=>(g a).filterMap h
 |[]=>rfl
 |a::r=>by rw[DJ,HY,Ph f g h r,DJ]
theorem qS{zs:ZS}(R:iE zs){i:Nat}{z:Br.Shape×CL}(hz:zs[i]?=some z){c:Pl×Int}(hc:c∈z.2){a b:Int}:
  cY (iW zs) (uY zs) c=some (a,b)↔a=(i:Int)/\∃(j:Nat)(y:Br.Shape×CL),zs[j]?=some y/\b=(j:Int)/\Go y.2 c=true:=by
 have ho:=(R.own hz (q:=c.1) (v:=c.2) hc).1
 unfold cY Go
 constructor
 ·intro h
  split at h
  ·rename_i h1
   obtain⟨h1,h2⟩:=h1
   rw[AN] at h2
   obtain⟨u,hu,ht⟩:=h2
   obtain⟨j,y,hy,hm⟩:=(R.inv.sgO _ _).mp hu
   have kh:=(R.own hy hm).1
   rw[ho,kh] at h
   obtain⟨e1,e2⟩:=Prod.mk.inj (Option.some.inj h)
   refine⟨e1.symm,j,y,hy,e2.symm,?_⟩
   rw[h1,gz,AN]
   exact⟨u,(Al (R.inv.rep y (dg hy)).nd).mpr hm,ht⟩
  ·cases h
 ·rintro⟨rfl,j,y,hy,rfl,hf⟩
  rw[cg,AN] at hf
  obtain⟨h1,u,hu,ht⟩:=hf
  have hw:=R.own hy (kW hu)
  rw[ac ⟨h1,by rw[hw.2];exact ht⟩,ho,hw.1]
  rfl
theorem Fc{γ:Type}(f:Pl×Int->Option (Int×Int))(p:Int×Int):∀l:CL,((l.filterMap f).count p)=(l.filter λc=>decide (f c=some p)).length
 |[]=>rfl
 |c::r=>by
  have ih:=Fc (γ:=γ) f p r
  cases e:f c with
  |none=>rw[List.filterMap_cons_none e,qt (by simp[e]),ih]
  |some q=>
   rw[List.filterMap_cons_some e,NJ,ih]
   by_cases h:q=p
   ·subst h
    rw[t9 (by simp[e])]
    simp
   ·rw[qt (by simp[e,h])]
    simp[h]
theorem yX{zs:ZS}(R:iE zs){i j:Nat}{z y:Br.Shape×CL}(hz:zs[i]?=some z)(hy:zs[j]?=some y):(z.2.filterMap (cY (iW zs) (uY zs))).count ((i:Int),(j:Int))=Br.fitted z.1 y.1:=by
 rw[Fc (γ:=Nat),Ng (R.inv.rep z (dg hz)) (R.inv.rep y (dg hy)) (R.snd z (dg hz))]
 refine congrArg List.length (NG λc hc=>?_)
 rw[f7,bu,qS R hz hc]
 constructor
 ·rintro⟨_,j',y',A2,e,h⟩
  have:j=j':=by omega
  subst this
  rw[hy] at A2
  cases A2
  exact h
 ·intro h
  exact⟨rfl,j,y,hy,rfl,h⟩
theorem pE(zs:ZS):jT (iW zs) (uY zs)=zs.flatMap λz=>z.2.filterMap (cY (iW zs) (uY zs)):=Ph (λ_=>[]) _ _ zs
theorem wT{α:Type}(p:Int×Int)(f:α->List (Int×Int)):∀l:List α,(l.flatMap f).count p=(l.map λa=>(f a).count p).sum
 |[]=>rfl
 |a::r=>by rw[DJ,NK,wT p f r];rfl
theorem Kl{α:Type}(f:α->Nat):∀(l:List α)(i:Nat)(a:α),l[i]?=some a->(∀j b,l[j]?=some b->j≠i->f b=0)->(l.map f).sum=f a
 |[],i,a,h,_=>by cases h
 |b::r,0,a,h,hz=>by
  obtain rfl:b=a:=Option.some.inj h
  have:(r.map f).sum=0:=by
   rw[NL]
   intro x hx
   obtain⟨y,hy,rfl⟩:=a6.mp hx
   obtain⟨j,hj⟩:=lj.mp hy
   exact hz (j+1) y hj (by omega)
  rw[bz,mj,this,DA]
 |b::r,i+1,a,h,hz=>by
  have h0:=hz 0 b rfl (by omega)
  rw[bz,mj,h0,kd]
  exact Kl f r i a h λj c hj hn=>hz (j+1) c hj (by omega)
theorem qW{zs:ZS}(R:iE zs){i j:Nat}{z y:Br.Shape×CL}(hz:zs[i]?=some z)(hy:zs[j]?=some y):(jT (iW zs) (uY zs)).count ((i:Int),(j:Int))=Br.fitted z.1 y.1:=by
 rw[pE,wT,Kl _ zs i z hz,yX R hz hy]
 intro k b hk hn
 rw[HZ]
 intro hm
 obtain⟨c,hc,e⟩:=tm.mp hm
 have:=((qS R hk hc).mp e).1
 omega
theorem Ju{zs:ZS}(R:iE zs){a b:Int}(h:(a,b)∈jT (iW zs) (uY zs)):∃i j:Nat,a=i/\b=j/\i<zs.length/\j<zs.length:=by
 rw[pE] at h
 obtain⟨z,hz,hm⟩:=vz.mp h
 obtain⟨i,hi⟩:=lj.mp hz
 obtain⟨c,hc,e⟩:=tm.mp hm
 obtain⟨rfl,j,y,hy,rfl,_⟩:=(qS R hi hc).mp e
 exact⟨i,j,rfl,rfl,(bh.mp hi).1,(bh.mp hy).1⟩
theorem zY{n:Nat}(i:Int):∀l:List (Int×Int),(∀p∈l,p.1=i/\∃j:Nat,p.2=j/\j<n)->l.length=((List.range n).map λ(j:Nat)=>l.count (i,(j:Int))).sum
 |[],_=>by
  rw[NL.mpr]
  ·rfl
  ·intro x hx
   obtain⟨j,_,rfl⟩:=a6.mp hx
   rfl
 |p::r,h=>by
  have ih:=zY (n:=n) i r λq hq=>h q (az _ hq)
  obtain⟨e1,j,e2,hj⟩:=h p bg
  obtain⟨a,b⟩:=p
  have e1:a=i:=e1
  have e2:b=(j:Int):=e2
  subst e1 e2
  have key:∀(m:List Nat)(g:Nat->Nat),m.Nodup->(m.map λ(k:Nat)=>g k+if k=j then 1 else 0).sum=(m.map g).sum+if j∈m then 1 else 0:=by
   intro m g nd
   induction m with
   |nil=>rfl
   |cons x m ih=>
    have nd:=jb.mp nd
    rw[bz,mj,ih nd.2,bz,mj]
    by_cases hx:x=j
    ·subst hx
     rw[ac rfl,aa nd.1,ac bg]
     omega
    ·rw[aa hx]
     by_cases hm:j∈m
     ·rw[ac hm,ac (az _ hm)];omega
     ·rw[aa hm,aa (by rw[aw];rintro(h|h);exact hx h.symm;exact hm h)];omega
  have k:=key (List.range n) (λk=>r.count (a,(k:Int))) HW
  rw[ac (z0.mpr hj)] at k
  rw[bn,ih,<-k]
  refine congrArg List.sum (AM λk _=>?_)
  rw[NJ]
  by_cases hk:k=j
  ·subst hk;simp
  ·rw[aa hk,aa]
   simp only[cz,Prod.mk.injEq,true_and]
   omega
theorem Mz{α:Type}{β:Type}(f:α->β)(l:List α)(g:Nat->β)(h:∀i a,l[i]?=some a->f a=g i):l.map f=(List.range l.length).map g:=by
 apply MZ
 intro i
 rw[bf,bf]
 by_cases hi:i<l.length
 ·rw[ba hi,vy hi]
  exact congrArg some (h i _ (ba hi))
 ·rw[qk (by omega),qk (by rw[AK];omega)]
  rfl
theorem oU{α:Type}{f g:α->Nat}{l:List α}(h:∀a∈l,f a=g a):(l.map f).sum=(l.map g).sum:=congrArg List.sum (AM h)
theorem Av{zs:ZS}(R:iE zs):(jT (iW zs) (uY zs)).length=((zs.map (·.1)).map λ(i:Br.Shape)=>((zs.map (·.1)).map (Br.fitted i)).sum).sum:=by
 rw[pE,Io,d4]
 refine oU λz hz=>?_
 obtain⟨i,hi⟩:=lj.mp hz
 rw[zY (n:=zs.length) (i:Int) (z.2.filterMap (cY (iW zs) (uY zs))) (λp hp=>by
  obtain⟨c,hc,e⟩:=tm.mp hp
  obtain⟨e1,j,y,hy,e2,_⟩:=(qS R hi hc (a:=p.1) (b:=p.2)).mp e
  exact⟨e1,j,e2,(bh.mp hy).1⟩)]
 show _=((zs.map (·.1)).map (Br.fitted z.1)).sum
 rw[d4,Mz (Br.fitted z.1∘Prod.fst) zs (λj=>(z.2.filterMap (cY (iW zs) (uY zs))).count ((i:Int),(j:Int))) λj y hy=>(yX R hi hy).symm]
theorem Nf{zs:ZS}(R:iE zs):(iW zs).length=((zs.map (·.1)).flatMap λ(s:Br.Shape)=>s.cells).length:=by
 unfold iW
 rw[Io,Io,d4]
 refine oU λz hz=>?_
 have r:=R.inv.rep z hz
 show z.2.length=z.1.cells.length
 rw[<-ah (as:=z.2) (·.1),<-ah (as:=z.1.cells) bW]
 refine Il r.nd (mi _ (λa b h e=>h (fU e)) (R.snd z hz).c) λq=>?_
 rw[a6,a6]
 constructor
 ·rintro⟨⟨q,v⟩,hv,rfl⟩
  obtain⟨s,rfl⟩:=r.ps q v hv
  exact⟨s,(r.c s).mpr ⟨v,hv⟩,rfl⟩
 ·rintro⟨s,hs,rfl⟩
  obtain⟨v,hv⟩:=(r.c s).mp hs
  exact⟨_,hv,rfl⟩
def dI(prs:List aM)(ls:List (List Nat)):ZS:=ls.map λx=>(Br.Line.shape (prs.map cG) (iZ x),cT prs x)
theorem Tf{prs:List aM}(ok:∀pr∈prs,eJ pr){x:List Nat}(hx:dM x 0<prs.length):SNd (Br.Line.shape (prs.map cG) (iZ x)):=by
 have e1:prs[dM x 0]?=some prs[dM x 0]:=ba hx
 have e2:Br.Line.of (prs.map cG) (iZ x)=(cG prs[dM x 0]).turned (dM x 5):=by
  unfold Br.Line.of
  show ((prs.map cG).getD (dM x 0) Br.nothing).turned (dM x 5)=_
  rw[cy,bf,e1]
  rfl
 have r0:=sB (Uv (ok _ (DI hx))) (dM x 5)
 unfold Br.Line.shape
 rw[e2]
 exact aAq r0.sh _ _
theorem tG{prs:List aM}(ok:∀pr∈prs,eJ pr):∀{ls:List (List Nat)} {zs:ZS},(∀x∈ls,dM x 0<prs.length)->iE zs->cQ prs zs.length (iW zs) (uY zs) ls=[]->iE (zs++dI prs ls)
 |[],zs,_,R,_=>by
  show iE (zs++[])
  rw[f8]
  exact R
 |x::r,zs,hx,R,h=>by
  obtain⟨sr,_⟩:=qG ok (hx x bg)
  have sn:=Tf ok (hx x bg)
  rw[cQ] at h
  split at h
  ·cases h
  ·split at h
   ·cases h
   ·rename_i h1
    split at h
    ·cases h
    ·have h0:gB (uY zs) (cT prs x)=[]:=ua (by omega)
     have R2:iE (zs++[(Br.Line.shape (prs.map cG) (iZ x),cT prs x)]):=by
      refine⟨?_,λz hz=>?_⟩
      ·rw[vU,vG]
       exact R.inv.next sr h0
      ·rcases c9.mp hz with hz|hz
       ·exact R.snd z hz
       ·rw[b5] at hz
        subst hz
        exact sn
     have:=tG ok (ls:=r) (zs:=zs++[(Br.Line.shape (prs.map cG) (iZ x),cT prs x)]) (λy hy=>hx y (az _ hy)) R2 (by rw[vU,vG,b6,mf];exact h)
     rw[ox] at this
     exact this
theorem wA{prs:List aM}(ok:∀pr∈prs,eJ pr){ls:List (List Nat)}(hx:∀x∈ls,dM x 0<prs.length)(h:cQ prs 0 [] [] ls=[]):iE (dI prs ls):=by
 have I0:iE []:=⟨⟨λz hz=>absurd hz f9,λq v=>(by simp[aV,iW]),λq k=>(by simp[aV,uY,Ca])⟩,λz hz=>absurd hz f9⟩
 exact tG ok hx I0 h
theorem sT{prs:List aM}{ls:List (List Nat)}{d:Br.Build}(hd:d.lines=ls.map iZ):d.shapes (prs.map cG)=(dI prs ls).map (·.1):=by
 unfold Br.Build.shapes dI
 rw[hd,d4,d4]
 rfl
theorem tS{α:Type}{l:List α}{x:α×Nat}:x∈l.zipIdx↔l[x.2]?=some x.1:=by
 obtain⟨a,i⟩:=x
 rw[List.mem_zipIdx_iff_getElem?]
theorem oF{c:Br.Catalogue}{b:Br.Build}{i j:Nat}:vR (b.links c) i j↔∃x y,(b.shapes c)[i]?=some x/\(b.shapes c)[j]?=some y/\(0<Br.fitted x y\/0<Br.fitted y x):=by
 unfold vR Br.Build.links
 dsimp only
 rw[qu,cy,bf,List.getElem?_zipIdx,kd]
 cases e:(b.shapes c)[i]? with
 |none=>
  constructor
  ·intro h
   cases h
  ·rintro⟨x,y,h,_⟩
   cases h
 |some x=>
  show j∈((b.shapes c).zipIdx.filter _).map _↔_
  rw[a6]
  constructor
  ·rintro⟨y,hy,rfl⟩
   obtain⟨h1,h2⟩:=ca.mp hy
   rw[qm,bu,bu] at h2
   exact⟨x,y.1,rfl,tS.mp h1,h2⟩
  ·rintro⟨x',y,h,hy,h2⟩
   cases h
   refine⟨(y,j),ca.mpr ⟨tS.mpr hy,?_⟩,rfl⟩
   rw[qm,bu,bu]
   exact h2
theorem mK{c:Br.Catalogue}{b:Br.Build}:Xl (b.links c) b.lines.length:=by
 have hl:(b.shapes c).length=b.lines.length:=ah _
 refine⟨λi j h=>?_,λi j h=>?_⟩
 ·obtain⟨x,y,h1,h2,_⟩:=oF.mp h
  rw[<-hl]
  exact⟨(bh.mp h1).1,(bh.mp h2).1⟩
 ·obtain⟨x,y,h1,h2,h3⟩:=oF.mp h
  exact oF.mpr ⟨y,x,h2,h1,h3.symm⟩
def Ys(ps:List (Int×Int))(i j:Nat):Prop:=((i:Int),(j:Int))∈ps\/((j:Int),(i:Int))∈ps
theorem wE{prs:List aM}{ls:List (List Nat)}{d:Br.Build}(hd:d.lines=ls.map iZ)(R:iE (dI prs ls))(i j:Nat):
  Ys (jT (iW (dI prs ls)) (uY (dI prs ls))) i j↔vR (d.links (prs.map cG)) i j:=by
 rw[oF,sT hd]
 have one:∀i j:Nat,((i:Int),(j:Int))∈jT (iW (dI prs ls)) (uY (dI prs ls))↔∃z y,(dI prs ls)[i]?=some z/\(dI prs ls)[j]?=some y/\0<Br.fitted z.1 y.1:=by
  intro i j
  constructor
  ·intro h
   obtain⟨i',j',e1,e2,h1,h2⟩:=Ju R h
   have e1:i=i':=by omega
   have e2:j=j':=by omega
   subst e1 e2
   refine⟨_,_,ba h1,ba h2,?_⟩
   rw[<-qW R (ba h1) (ba h2)]
   exact NM.mpr h
  ·rintro⟨z,y,h1,h2,h3⟩
   rw[<-qW R h1 h2] at h3
   exact NM.mp h3
 unfold Ys
 rw[one,one,bf,bf]
 constructor
 ·rintro(⟨z,y,h1,h2,h3⟩|⟨z,y,h1,h2,h3⟩)
  ·exact⟨z.1,y.1,by rw[h1];rfl,by rw[h2];rfl,.inl h3⟩
  ·exact⟨y.1,z.1,by rw[h2];rfl,by rw[h1];rfl,.inr h3⟩
 ·rintro⟨x,y,h1,h2,h3⟩
  obtain⟨z1,e1,rfl⟩:=qi.mp h1
  obtain⟨z2,e2,rfl⟩:=qi.mp h2
  rcases h3 with h3|h3
  ·exact .inl ⟨z1,z2,e1,e2,h3⟩
  ·exact .inr ⟨z2,z1,e2,e1,h3⟩
def xJ(ps:List (Int×Int))(n:Nat)(ms:List Nat):Prop:=ms.length=n/\∀i m,ms[i]?=some m->mU (Ys ps) i m
theorem Fh{prs:List aM}{ls:List (List Nat)}{d:Br.Build}(hd:d.lines=ls.map iZ)(R:iE (dI prs ls)){ms:List Nat}(hm:xJ (jT (iW (dI prs ls)) (uY (dI prs ls))) ls.length ms)
  {u:List Nat} (hu:u.Nodup) (R1:∀x,x∈u↔x∈ms):(d.heads (prs.map cG)).length=u.length:=by
 have hl:d.lines.length=ls.length:=by rw[hd,ah]
 have hh:=Ah (links:=d.links (prs.map cG)) mK (n:=d.lines.length) (rest:=List.range d.lines.length) (by rw[AK];exact ap _) List.pairwise_lt_range (λa b _ e=>z0.mpr (mK.lt _ _ e).2)
 unfold Br.Build.heads
 refine Il (hh.1.imp λh=>df h) hu λx=>?_
 rw[hh.2,R1,z0]
 constructor
 ·rintro⟨h1,h2⟩
  have hx:x<ms.length:=by rw[hm.1,<-hl];exact h1
  have:=(hm.2 x _ (ba hx)).of_iff λa b=>wE hd R a b
  rw[h2.uq this]
  exact DI hx
 ·intro h
  obtain⟨i,hi⟩:=lj.mp h
  have hL:=(hm.2 i x hi).of_iff λa b=>wE hd R a b
  have BE:i<d.lines.length:=by rw[hl,<-hm.1];exact(bh.mp hi).1
  refine⟨Vf (λa b e=>(mK.lt a b e).2) BE hL.c,.refl,λj hj=>hL.l j (hL.c.trans hj)⟩
theorem tT:∀(l:List Nat)(a:Nat),a<=l.foldl max a/\(∀x∈l,x<=l.foldl max a)/\(l.foldl max a=a\/l.foldl max a∈l)
 |[],a=>⟨ap _,λx hx=>(by cases hx),.inl rfl⟩
 |b::r,a=>by
  obtain⟨h1,h2,h3⟩:=tT r (max a b)
  refine⟨d6 (Nat.le_max_left a b) h1,λx hx=>?_,?_⟩
  ·rcases aw.mp hx with rfl|hx
   ·exact d6 (Nat.le_max_right a x) h1
   ·exact h2 x hx
  ·rcases h3 with h3|h3
   ·show List.foldl max (max a b) r=a\/_
    rw[LP,h3]
    rcases Nat.le_total a b with h|h
    ·rw[Nat.max_eq_right h];exact .inr bg
    ·rw[Nat.max_eq_left h];exact .inl rfl
   ·exact .inr (az _ h3)
theorem Om{prs:List aM}{ls:List (List Nat)}{d:Br.Build}(hd:d.lines=ls.map iZ)(R:iE (dI prs ls)){m:Int}(h0:iW (dI prs ls)=[]->m=0)(h1:iW (dI prs ls)≠[]->(∃c∈iW (dI prs ls),m=c.1.2.2+1)/\∀c∈iW (dI prs ls),c.1.2.2+1<=m):
  (BrB.high (prs.map cG) d:Int)=m:=by
 have hc:d.cells (prs.map cG)=((dI prs ls).map (·.1)).flatMap λ(s:Br.Shape)=>s.cells:=by
  rw[<-sT hd]
  unfold Br.Build.cells Br.Build.shapes
  rw[NN]
  rfl
 have mm:∀s:jH,s∈d.cells (prs.map cG)↔∃v,(bW s,v)∈iW (dI prs ls):=by
  intro s
  rw[hc,vz]
  unfold iW
  constructor
  ·rintro⟨sh,hs,hm⟩
   obtain⟨z,hz,rfl⟩:=a6.mp hs
   obtain⟨v,hv⟩:=((R.inv.rep z hz).c s).mp hm
   exact⟨v,vz.mpr ⟨z,hz,hv⟩⟩
  ·rintro⟨v,hv⟩
   obtain⟨z,hz,hm⟩:=vz.mp hv
   exact⟨z.1,o4 hz,((R.inv.rep z hz).c s).mpr ⟨v,hm⟩⟩
 have pl:∀c∈iW (dI prs ls),∃s:jH,c.1=bW s/\s∈d.cells (prs.map cG):=by
  intro c hc
  obtain⟨z,hz,hm⟩:=vz.mp hc
  obtain⟨s,e⟩:=(R.inv.rep z hz).ps c.1 c.2 hm
  exact⟨s,e,(mm s).mpr ⟨c.2,by rw[<-e];exact hc⟩⟩
 unfold BrB.high
 obtain⟨g1,g2,g3⟩:=tT ((d.cells (prs.map cG)).map λ(s:Br.Spot)=>s.2.2+1) 0
 generalize ((d.cells (prs.map cG)).map λ(s:Br.Spot)=>s.2.2+1).foldl max 0=M at g1 g2 g3
 by_cases he:iW (dI prs ls)=[]
 ·rw[h0 he]
  have hn:d.cells (prs.map cG)=[]:=by
   cases e:d.cells (prs.map cG) with
   |nil=>rfl
   |cons s r=>
    obtain⟨v,hv⟩:=(mm s).mp (by rw[e];exact bg)
    rw[he] at hv
    cases hv
  rw[hn] at g3
  rcases g3 with g3|g3
  ·rw[g3];rfl
  ·cases g3
 ·obtain⟨⟨c,n9,rfl⟩,fu⟩:=h1 he
  obtain⟨s,e,hs⟩:=pl c n9
  have a1:=g2 _ (o4 (f:=λ(s:Br.Spot)=>s.2.2+1) hs)
  have e2:c.1.2.2=(s.2.2:Int):=by rw[e];rfl
  rw[e2] at fu ⊢
  rcases g3 with g3|g3
  ·rw[g3] at a1
   omega
  ·obtain⟨t,ht,e3⟩:=a6.mp g3
   obtain⟨v,hv⟩:=(mm t).mp ht
   have a2:=fu _ hv
   have a3:(bW t).2.2=(t.2.2:Int):=rfl
   have a2:(bW t).2.2+1<=(s.2.2:Int)+1:=a2
   rw[a3] at a2
   omega
def Xw(x:List Nat):List Int:=x.map λ(n:Nat)=>(n:Int)
def iN(y:List Int)(k:Nat):Int:=y.getD k 0
def nY(prs:List aM)(p r:Nat):Int×Int×Int:=match prs[p]? with
 |some pr=>if r % 2=1 then ((pr.d:Int),(pr.w:Int),(pr.h:Int)) else ((pr.w:Int),(pr.d:Int),(pr.h:Int))
 |none=>(0,0,0)
def Dz(x y z:Int):Bool:= !(decide (0<=x) && decide (x<64) && (decide (0<=y) && decide (y<64)) && (decide (0<=z) && decide (z<96)))
def nR(prs:List aM)(p r:Nat)(x y z:Int):Bool:=Dz x y z||Dz (x+(nY prs p r).1 - 1) (y+(nY prs p r).2.1 - 1) (z+(nY prs p r).2.2 - 1)
theorem zS(p:Br.Part):∀r:Nat,(p.turned r).high=p.high/\(p.turned r).wide=(if r % 2=1 then p.deep else p.wide)/\(p.turned r).deep=(if r % 2=1 then p.wide else p.deep)
 |0=>⟨rfl,rfl,rfl⟩
 |r+1=>by
  obtain⟨h1,h2,h3⟩:=zS p r
  show (p.turned r).high=_/\(p.turned r).deep=_/\(p.turned r).wide=_
  rw[h1,h2,h3]
  by_cases h:r % 2=1
  ·rw[ac h,ac h,aa (show ¬(r+1) % 2=1 by omega),aa (show ¬(r+1) % 2=1 by omega)]
   exact⟨rfl,rfl,rfl⟩
  ·rw[aa h,aa h,ac (show (r+1) % 2=1 by omega),ac (show (r+1) % 2=1 by omega)]
   exact⟨rfl,rfl,rfl⟩
theorem aCe{prs:List aM}{l:Br.Line}(h:l.part<prs.length):(((l.of (prs.map cG)).wide:Int),((l.of (prs.map cG)).deep:Int),((l.of (prs.map cG)).high:Int))=nY prs l.part l.r:=by
 have e1:prs[l.part]?=some prs[l.part]:=ba h
 have e2:l.of (prs.map cG)=(cG prs[l.part]).turned l.r:=by
  unfold Br.Line.of
  rw[cy,bf,e1]
  rfl
 obtain⟨h1,h2,h3⟩:=zS (cG prs[l.part]) l.r
 rw[e2,h1,h2,h3]
 unfold nY
 rw[e1]
 by_cases hr:l.r % 2=1
 ·rw[ac hr,ac hr]
  show _=if l.r % 2=1 then _ else _
  rw[ac hr]
  rfl
 ·rw[aa hr,aa hr]
  show _=if l.r % 2=1 then _ else _
  rw[aa hr]
  rfl
theorem Ts{prs:List aM}(ok:∀pr∈prs,eJ pr){p r:Nat}(h:p<prs.length):1<=(nY prs p r).1/\1<=(nY prs p r).2.1/\1<=(nY prs p r).2.2:=by
 have e1:prs[p]?=some prs[p]:=ba h
 have o:=ok _ (DI h)
 have h1:=o.w1
 have h2:=o.d1
 have h3:=o.h1
 unfold nY
 rw[e1]
 show 1<=(if r % 2=1 then _ else _:Int×Int×Int).1/\1<=(if r % 2=1 then _ else _:Int×Int×Int).2.1/\1<=(if r % 2=1 then _ else _:Int×Int×Int).2.2
 split
 ·show 1<=((prs[p].d:Nat):Int)/\1<=((prs[p].w:Nat):Int)/\1<=((prs[p].h:Nat):Int)
  omega
 ·show 1<=((prs[p].w:Nat):Int)/\1<=((prs[p].d:Nat):Int)/\1<=((prs[p].h:Nat):Int)
  omega
theorem Gc{x y z:Int}:Dz x y z=false↔(0<=x/\x<64)/\(0<=y/\y<64)/\0<=z/\z<96:=by
 unfold Dz
 rw[Bool.not_eq_false']
 simp only[cg,bu,and_assoc]
theorem Dj{prs:List aM}(ok:∀pr∈prs,eJ pr){p r:Nat}(h:p<prs.length){x y z:Int}:
  nR prs p r x y z=false↔(0<=x/\0<=y/\0<=z/\x+(nY prs p r).1<=64/\y+(nY prs p r).2.1<=64/\z+(nY prs p r).2.2<=96):=by
 have h1:=Ts ok (r:=r) h
 unfold nR
 rw[NF,Gc,Gc]
 omega
theorem Lx{prs:List aM}(ok:∀pr∈prs,eJ pr){x:List Nat}(hx:dM x 0<prs.length):nR prs (dM x 0) (dM x 5) (dM x 2) (dM x 3) (dM x 4)=lM (tY prs x) (dM x 2) (dM x 3) (dM x 4):=by
 have hr:=(qG ok hx).2
 have hs:=aCe (prs:=prs) (l:=iZ x) hx
 have hs:((((iZ x).of (prs.map cG)).wide:Int),(((iZ x).of (prs.map cG)).deep:Int),(((iZ x).of (prs.map cG)).high:Int))=nY prs (dM x 0) (dM x 5):=hs
 rw[<-Bool.not_not (lM _ _ _ _),<-hr,f7,ck,<-x0,Dj ok hx,<-hs]
 show ¬_↔(decide (dM x 2+((iZ x).of (prs.map cG)).wide<=64) && (decide (dM x 3+((iZ x).of (prs.map cG)).deep<=64) && decide (dM x 4+((iZ x).of (prs.map cG)).high<=96)))=false
 rw[<-o5]
 simp only[cg,bu]
 omega
def Iy(prs:List aM)(y:List Int):Bool:=nR prs (iN y 0).toNat (iN y 5).toNat (iN y 2) (iN y 3) (iN y 4)
theorem aDh{y:List Int}(h:y.length=6):∃a b c d e f,y=[a,b,c,d,e,f]:=by
 match y,h with
 |[a,b,c,d,e,f],_=>exact⟨a,b,c,d,e,f,rfl⟩
end Br1
namespace Br1
open PySem PySem.Spec PyProof.Rows L2
def aBb(H:Hp)(t:Addr)(y:List Int):Prop:=H t=some (.tup (y.map V.int))/\y.length=6
theorem aAw(x:List Nat):x.map zC=(Xw x).map V.int:=by
 unfold Xw
 rw[d4]
 rfl
theorem wD{d:Addr}{o:Obj}{aI:List (List dP×V)}{g:TG}{tb:TS}{D:fY}{σ:(List (Option V))}{H:Hp}(Pv:Nat->(List (Option V))->Hp->Prop)(h0:Pv 0 σ H)(hl:∀i σ H,i<=aI.length->Pv i σ H->H d=some (.frz o (.dT aI)))
  (hs:∀i σ H T k v q,aI[i]?=some (k,v)->Pv i σ H->H T=none->H q=some (.tup (k.map kV))->g (.ref T) σ (upd H T (.tup [.ref q,v])) λau H2=>tb {tW D d o (.dT aI) with nx:=Pv (i+1),ct:=Pv (i+1),bk:=(tW D d o (.dT aI)).nx} au H2) (hd:∀ σ H,Pv aI.length σ H->D.nx σ (upd H d (.dT aI))):
  ∃W:Nat->Nat->(List (Option V))->Hp->Prop,(∃m,W 0 m σ H)/\∀i m σ H,W i m σ H->
   ((Gm d o aI).stop i H/\(tW D d o (.dT aI)).nx σ H)\/((Gm d o aI).go i H/\∃N:(List (Option V))->Hp->Prop,(∀ae H',N ae H'->∃m',m'<m/\W (i+1) m' ae H')/\∀x H',(Gm d o aI).yld i H x H'->g x σ H' λau H2=>tb {tW D d o (.dT aI) with nx:=N,ct:=N,bk:=(tW D d o (.dT aI)).nx} au H2):=
 gK (D:=tW D d o (.dT aI)) Pv h0 hl hs λae H' p=>⟨hl _ _ _ (ap _) p,hd ae H' p⟩
section
variable {P:Program} {w:World} {K:PySem.W.Frag} {mg:Str->Option Value} {base:Heap} {C CR CP CB CG:Addr}
def tzz(n:Nat)(W D Hh:Int):List Int:=if n % 2=1 then [D,W,Hh] else [W,D,Hh]
def rH(CP:Addr):Sp:=λvs H Q _=>∃(b dx nm c:Addr)(W D Hh g:Int)(n:Nat),vs=[.ref b,.int (n:Int)]/\H b=some (.ins CP dx (On nm W D Hh g c))/\∀t,H t=none->Q (.ref t) (upd H t (.tup ((tzz n W D Hh).map V.int)))
theorem Of:aQ ["part","turns"] ["part","turns"] (aH uS):=⟨rfl,rfl,rfl,by decide+kernel,rfl,by decide+kernel,by decide+kernel⟩
theorem Nc{f:Addr}{fd:FuncData}(F:fH K "turned_sizes" "turned_sizes" uS f fd)(T':Nn K CP):bT P w K mg base bU 1 f fd ["part","turns"] (rH CP):=by
 refine F.ok Of (λvs H Q E h=>?_) (λai A outer s H vs Q E hr h=>?_)
 ·obtain⟨b,dx,nm,c,W,D,Hh,g,n,rfl,_⟩:=h
  rfl
 ·obtain⟨b,dx,nm,c,W,D,Hh,g,n,rfl,hb,k⟩:=h
  refine⟨_,aE (dZ (iB pU (cR Yj (pv 1) aJ) aJ (hU _)) (aG (aW (eN (aA (aO (pv 0) rfl) (aA (aO (pv 0) rfl) (aA (aO (pv 0) rfl) aF)))))) bX)
   (aG (aW (eN (aA (aO (pv 0) rfl) (aA (aO (pv 0) rfl) (aA (aO (pv 0) rfl) aF)))))),?_⟩
  unfold tzz at k
  refine⟨_,rfl,_,_,rfl,rfl,(by show (0:Int)<2;decide),rfl,_,rfl,bY (λe=>?_) (λe=>?_)⟩
  ·rw[gZ] at e
   have e:=dq e
   rw[ac (by omega)] at k
   exact⟨_,rfl,b,CP,dx,_,_,rfl,hb,T'.cl,T'.n3,rfl,_,rfl,b,CP,dx,_,_,rfl,hb,T'.cl,T'.n2,rfl,_,rfl,b,CP,dx,_,_,rfl,hb,T'.cl,T'.n4,rfl,(by show 3<=sizeLine;decide),k⟩
  ·rw[gZ] at e
   have e:¬((n:Int) % 2=1):=λz=>e (cn z)
   rw[aa (by omega)] at k
   exact⟨_,rfl,b,CP,dx,_,_,rfl,hb,T'.cl,T'.n2,rfl,_,rfl,b,CP,dx,_,_,rfl,hb,T'.cl,T'.n3,rfl,_,rfl,b,CP,dx,_,_,rfl,hb,T'.cl,T'.n4,rfl,(by show 3<=sizeLine;decide),k⟩
theorem aAr{prs:List aM}{p r:Nat}{pr:aM}(h:prs[p]?=some pr):tzz r pr.w pr.d pr.h=[(nY prs p r).1,(nY prs p r).2.1,(nY prs p r).2.2]:=by
 unfold tzz nY
 rw[h]
 by_cases hr:r % 2=1
 ·rw[ac hr]
  show _=[(if r % 2=1 then _ else _:Int×Int×Int).1,(if r % 2=1 then _ else _:Int×Int×Int).2.1,(if r % 2=1 then _ else _:Int×Int×Int).2.2]
  rw[ac hr]
 ·rw[aa hr]
  show _=[(if r % 2=1 then _ else _:Int×Int×Int).1,(if r % 2=1 then _ else _:Int×Int×Int).2.1,(if r % 2=1 then _ else _:Int×Int×Int).2.2]
  rw[aa hr]
theorem vB{lo hi v:Int}{i:Nat}{σ:(List (Option V))}{H:Hp}{Q:VK}(js:σ[i]?=some (some (.int v)))(k:Q (.bl (decide (lo<=v) && decide (v<hi))) H):
  Hq (Ve λi j=>.bl (decide (i<=j))) (Ve λi j=>.bl (decide (i<j))) (tC (.int lo)) (eF i) (tC (.int hi)) σ H Q:=by
 refine⟨_,js,_,_,rfl,rfl,_,rfl,bY (λh=>⟨_,_,rfl,rfl,?_⟩) (λh=>?_)⟩
 ·rw[h,gz] at k
  exact k
 ·rw[cZ h,j9] at k
  exact k
def rB:Sp:=λvs H Q _=>∃x y z:Int,vs=[.int x,.int y,.int z]/\Q (.bl (Dz x y z)) H
theorem Nd:aQ ["x","y","z"] ["x","y","z"] (aH uI):=⟨rfl,rfl,rfl,by decide+kernel,rfl,by decide+kernel,by decide+kernel⟩
theorem Mr{f:Addr}{fd:FuncData}(F:fH K "beyond_room" "beyond_room" uI f fd)(c1:CI mg "ROOM_WIDTH" 64)(c2:CI mg "ROOM_DEPTH" 64)(c3:CI mg "ROOM_HEIGHT" 96):bT P w K mg base bU 1 f fd ["x","y","z"] rB:=by
 refine F.ok Nd (λvs H Q E h=>?_) (λai A outer s H vs Q E hr h=>?_)
 ·obtain⟨x,y,z,rfl,_⟩:=h
  rfl
 ·obtain⟨x,y,z,rfl,k⟩:=h
  refine⟨_,aG (aW (Zz (sK (mX qZ Ox aJ (pv 0) (eV c1)) (sK (mX qZ Ox aJ (pv 1) (eV c2)) (sF (mX qZ Ox aJ (pv 2) (eV c3))))))),?_⟩
  unfold Dz at k
  refine vB rfl ⟨_,rfl,bY (λe1=>vB rfl ⟨_,rfl,bY (λe2=>vB rfl ⟨_,rfl,?_⟩) (λe2=>⟨_,rfl,?_⟩)⟩) (λe1=>⟨_,rfl,?_⟩)⟩
  ·rw[e1,e2,gz,gz] at k
   exact k
  ·rw[e1,cZ e2,gz,j9] at k
   exact k
  ·rw[cZ e1,j9,j9] at k
   exact k
def qN(K:PySem.W.Frag)(CP:Addr):Sp:=λvs H Q _=>∃(pa t:Addr)(bs:List Addr)(prs:List aM)(y:List Int),vs=[.ref pa,.ref t]/\cP K H pa (bs.map V.ref)/\eC CP H bs prs/\aBb H t y/\0<=iN y 0/\(iN y 0).toNat<prs.length/\0<=iN y 5/\
 ∀H':Hp,aK H H'->Q (.bl (Iy prs y)) H'
theorem zQ:aQ ["parts","put","size"] ["parts","put"] (aH uU):=⟨rfl,rfl,rfl,by decide+kernel,rfl,by decide+kernel,by decide+kernel⟩
theorem Lw{f:Addr}{fd:FuncData}(F:fH K "leaves_room" "leaves_room" uU f fd)(L1:dL P w K mg base "turned_sizes" bU 1 ["part","turns"] (rH CP))(L2:dL P w K mg base "beyond_room" bU 1 ["x","y","z"] rB):bT P w K mg base bU 2 f fd ["parts","put"] (qN K CP):=by
 obtain⟨g1,gh,G1,b1,k1,h1⟩:=L1.ex
 obtain⟨g2,ku,G2,b2,k2,h2⟩:=L2.ex
 refine F.ok zQ (λvs H Q E h=>?_) (λai A outer s H vs Q E hr h=>?_)
 ·obtain⟨pa,t,bs,prs,y,rfl,_⟩:=h
  rfl
 ·obtain⟨pa,t,bs,prs,y,rfl,c8,d3,⟨ht,hy⟩,xf,aj,zl,k⟩:=h
  obtain⟨a0,a1,a2,a3,a4,a5,rfl⟩:=aDh hy
  have xf:0<=a0:=xf
  have aj:a0.toNat<prs.length:=aj
  have zl:0<=a5:=zl
  have a7:=hr.mono (j:=1) (by decide)
  refine⟨_,aE (aZ (i:=2) zQ.nd rfl (Or.inl rfl) (aT G1 a7 (by rfl) h1 k1 b1 .nil aY (aA (bS fJ (pv 0) (bS bO (pv 1) aJ (λ_ _=>rfl)) (λ_ _=>rfl)) (aA (bS bO (pv 1) aJ (λ_ _=>rfl)) aF))))
   (aG (aW (Rf (aT G2 a7 (by rfl) h2 k2 b2 .nil aY (aA (bS bO (pv 1) aJ (λ_ _=>rfl)) (aA (bS bO (pv 1) aJ (λ_ _=>rfl)) (aA (bS bO (pv 1) aJ (λ_ _=>rfl)) aF))))
    (sF (aT G2 a7 (by rfl) h2 k2 b2 .nil aY (aA (cR eU (cR gH (bS bO (pv 1) aJ (λ_ _=>rfl)) (bS bO (pv 2) aJ (λ_ _=>rfl))) aJ)
     (aA (cR eU (cR gH (bS bO (pv 1) aJ (λ_ _=>rfl)) (bS bO (pv 2) aJ (λ_ _=>rfl))) aJ) (aA (cR eU (cR gH (bS bO (pv 1) aJ (λ_ _=>rfl)) (bS bO (pv 2) aJ (λ_ _=>rfl))) aJ) aF)))))))),?_⟩
  obtain⟨pr,j7⟩:∃pr,prs[a0.toNat]?=some pr:=⟨_,ba aj⟩
  obtain⟨b,eb,ze,po⟩:=cH d3 j7
  obtain⟨dx,nm,cc,f1,f2,f3⟩:=ze
  have e0:Sg (bs.map V.ref) a0=some (V.ref b):=by
   have:=fZ (xs:=bs.map V.ref) (j:=a0.toNat) (v:=V.ref b) (by rw[bf,eb];rfl)
   rwa [NO xf] at this
  have e5:a5=((a5.toNat:Nat):Int):=(NO zl).symm
  refine⟨_,rfl,_,rfl,t,_,_,_,rfl,rfl,cN.of ht,rfl,pa,_,_,_,rfl,rfl,c8,e0,_,rfl,t,_,_,_,rfl,rfl,cN.of ht,rfl,b,dx,nm,cc,_,_,_,_,a5.toNat,by rw[<-e5];rfl,f1,λtz R3=>?_⟩
  have ez:=aAr (r:=a5.toNat) j7
  rw[ez]
  have S1:=aK.new (o:=.tup ([(nY prs a0.toNat a5.toNat).1,(nY prs a0.toNat a5.toNat).2.1,(nY prs a0.toNat a5.toNat).2.2].map V.int)) R3
  have ju:=S1 _ _ ht
  have zm:upd H tz (.tup ([(nY prs a0.toNat a5.toNat).1,(nY prs a0.toNat a5.toNat).2.1,(nY prs a0.toNat a5.toNat).2.2].map V.int)) tz=some (.tup ([(nY prs a0.toNat a5.toNat).1,(nY prs a0.toNat a5.toNat).2.1,(nY prs a0.toNat a5.toNat).2.2].map V.int)):=aC
  generalize upd H tz (.tup ([(nY prs a0.toNat a5.toNat).1,(nY prs a0.toNat a5.toNat).2.1,(nY prs a0.toNat a5.toNat).2.2].map V.int))=H1 at S1 ju zm
  have k:=k H1 S1
  have k:Q (.bl (Dz a2 a3 a4||Dz (a2+(nY prs a0.toNat a5.toNat).1 - 1) (a3+(nY prs a0.toNat a5.toNat).2.1 - 1) (a4+(nY prs a0.toNat a5.toNat).2.2 - 1))) H1:=k
  generalize nY prs a0.toNat a5.toNat=Z at k zm
  refine⟨_,rfl,t,_,_,_,rfl,rfl,cN.of ju,rfl,_,rfl,t,_,_,_,rfl,rfl,cN.of ju,rfl,_,rfl,t,_,_,_,rfl,rfl,cN.of ju,rfl,a2,a3,a4,rfl,_,rfl,bY (λe1=>?_) (λe1=>?_)⟩
  ·rw[e1,Bool.true_or] at k
   exact k
  ·rw[cZ e1,Bool.false_or] at k
   exact⟨_,rfl,t,_,_,_,rfl,rfl,cN.of ju,rfl,_,rfl,tz,_,_,_,rfl,rfl,cN.of zm,rfl,_,_,rfl,rfl,_,_,rfl,rfl,_,rfl,t,_,_,_,rfl,rfl,cN.of ju,rfl,_,rfl,tz,_,_,_,rfl,rfl,cN.of zm,rfl,_,_,rfl,rfl,_,_,rfl,rfl,
    _,rfl,t,_,_,_,rfl,rfl,cN.of ju,rfl,_,rfl,tz,_,_,_,rfl,rfl,cN.of zm,rfl,_,_,rfl,rfl,_,_,rfl,rfl,_,_,_,rfl,k⟩
def Gs(K:PySem.W.Frag)(CP:Addr):Sp:=λvs H Q _=>∃(pa q:Addr)(bs:List Addr)(prs:List aM)(x:List Nat),vs=[.ref pa,.ref q]/\cP K H pa (bs.map V.ref)/\eC CP H bs prs/\(∀pr∈prs,eJ pr)/\H q=some (.tup (x.map zC))/\Fg prs.length x/\dM x 5<=3/\
 ∀(H':Hp)(d:Addr),aK H H'->H d=none->H' d=some (.dT (aI (cT prs x)))->Q (.ref d) H'
theorem uV:aQ ["parts","put","cells","place","sign"] ["parts","put"] (aH Kc):=⟨rfl,rfl,rfl,by decide+kernel,rfl,by decide+kernel,by decide+kernel⟩
theorem Vb{f:Addr}{fd:FuncData}(F:fH K "cells_in_room" "cells_in_room" Kc f fd)(T':Nn K CP)(L1:dL P w K mg base "turned_part" bU 4 ["part","turns"] (xP CP)):bT P w K mg base bU 5 f fd ["parts","put"] (Gs K CP):=by
 obtain⟨g1,gh,G1,b1,k1,h1⟩:=L1.ex
 refine F.ok uV (λvs H Q E h=>?_) (λai A outer s H vs Q E hr h=>?_)
 ·obtain⟨pa,q,bs,prs,x,rfl,_⟩:=h
  rfl
 ·obtain⟨pa,qp,bs,prs,x,rfl,c8,d3,hok,hp,⟨zn,rg⟩,FL,k⟩:=h
  obtain⟨pr,j7⟩:∃pr,prs[dM x 0]?=some pr:=⟨_,ba rg⟩
  have FM:tY prs x=gJ (xA pr) (dM x 5):=by
   unfold tY
   rw[j7]
   rfl
  obtain⟨b,eb,KF,lv⟩:=cH d3 j7
  obtain⟨nm,y1⟩:=KF.pt
  have tok:tU (xA pr):=⟨(Uv (hok pr (dg j7))).nd,lv.len⟩
  obtain⟨a0,a1,a2,a3,a4,a5,rfl⟩:=six zn
  have hu:=jY hr
  refine⟨_,aE (aZ (i:=2) uV.nd rfl (Or.inl rfl) kF)
   (aE (Vy i4 rfl (aO (aT G1 (hr.mono (j:=4) (by decide)) (by rfl) h1 k1 b1 .nil aY (aA (bS fJ (pv 0) (bS bO (pv 1) aJ (λ_ _=>rfl)) (λ_ _=>rfl)) (aA (bS bO (pv 1) aJ (λ_ _=>rfl)) aF))) rfl) (lG rfl (cK (bH (i:=3) uV.nd rfl (Or.inl rfl)) (cK (bH (i:=4) uV.nd rfl (Or.inl rfl)) iC)))
    (aG (lN hu (pv 2) (eN (aA (cR gH (bS bO (pv 1) aJ (λ_ _=>rfl)) (bS bO (pv 3) aJ (λ_ _=>rfl))) (aA (cR gH (bS bO (pv 1) aJ (λ_ _=>rfl)) (bS bO (pv 3) aJ (λ_ _=>rfl))) (aA (cR gH (bS bO (pv 1) aJ (λ_ _=>rfl)) (bS bO (pv 3) aJ (λ_ _=>rfl))) aF)))) (pv 4) rfl)))
   (aG (aW (pv 2)))),?_⟩
  intro d hd
  have S0:aK H (upd H d (.dT [])):=aK.new hd
  have e0:Sg (bs.map V.ref) ((a0:Nat):Int)=some (V.ref b):=fZ (by
   rw[bf]
   show Option.map V.ref bs[dM [a0,a1,a2,a3,a4,a5] 0]?=_
   rw[eb];rfl)
  have FN:=S0 _ _ hp
  have bw:=bJ
  refine⟨_,rfl,_,rfl,qp,_,_,_,rfl,rfl,cN.of FN,rfl,pa,_,_,_,rfl,rfl,S0.seq c8,e0,_,rfl,qp,_,_,_,rfl,rfl,cN.of FN,rfl,b,nm,_,xA pr,a5,rfl,d6 FL (by decide),y1.same S0,tok,λH1 b' S1 jk=>?_⟩
  have FO:tU (gJ (xA pr) a5):=tok.turns _
  have k:∀(H':Hp)(d:Addr),aK H H'->H d=none->H' d=some (.dT (aI (vI (lY a2 a3 a4) (gJ (xA pr) a5).cs)))->Q (.ref d) H':=λH' d s n e=>k H' d s n (by unfold cT;rw[FM];exact e)
  obtain⟨jg,c,BQ,n9⟩:=jk
  generalize gJ (xA pr) a5=tt at BQ n9 FO k
  obtain⟨W,D,Hh,cs⟩:=tt
  have BQ:H1 b'=some (.ins CP jg (On nm W D Hh pr.g c)):=BQ
  have n9:H1 c=some (.dT (aI cs)):=n9
  have nd:(cs.map (·.1)).Nodup:=FO.nd
  have ln:cs.length<20000:=FO.ln
  have fj:H1 d=some (.dT []):=S1 _ _ aC
  have jk:=S1 _ _ FN
  refine⟨b',CP,jg,_,_,rfl,BQ,T'.cl,T'.n6,rfl,c,_,rfl,n9,λod=>?_⟩
  have KG:=S0.trans S1
  by_cases qb:c=d
  ·-- the new dict itself:then there is nothing to walk
   subst qb
   rw[fj] at n9
   have mv:cs=[]:=by
    cases cs with
    |nil=>rfl
    |cons a r=>cases n9
   subst mv
   refine wD (λi σ H'=>∃v3 v4,σ=[some (.ref pa),some (.ref qp),some (.ref c),v3,v4]/\H'=upd H1 c (.frz od (.dT (aI [])))) ⟨none,none,rfl,rfl⟩ ?_ ?_ ?_
   ·rintro i σ H2 hi ⟨v3,v4,rfl,rfl⟩
    exact aC
   ·rintro i σ H2 T k' v q e
    cases i<;>cases e
   ·rintro σ H2 ⟨v3,v4,rfl,rfl⟩
    refine⟨_,rfl,k _ c (λy o e=>?_) hd (by rw[aC];rfl)⟩
    have ny:=aD e hd
    rw[aB ny,aB ny]
    exact KG _ _ e
  ·have fi:upd H1 c (.frz od (.dT (aI cs))) c=some (.frz od (.dT (aI cs))):=aC
   have jt:upd H1 c (.frz od (.dT (aI cs))) d=some (.dT []):=by rw[aB (ao qb)];exact fj
   have R4:qp≠c:=λz=>by rw[z,n9] at jk;cases jk
   have E5:qp≠d:=λz=>by rw[z,fj] at jk;cases jk
   have R5:upd H1 c (.frz od (.dT (aI cs))) qp=some (.tup ([a0,a1,a2,a3,a4,a5].map zC)):=by rw[aB R4];exact jk
   refine wD (λi σ H'=>∃v3 v4,σ=[some (.ref pa),some (.ref qp),some (.ref d),v3,v4]/\SX d (upd H1 c (.frz od (.dT (aI cs)))) H'/\H' d=some (.dT (aI (vI (lY a2 a3 a4) (cs.take i))))) ⟨none,none,rfl,SX.refl _ _,jt⟩ ?_ ?_ ?_
   ·rintro i σ H2 hi ⟨v3,v4,rfl,S2,_⟩
    exact S2 _ _ fi qb
   ·rintro i σ H2 T kk v q e ⟨v3,v4,rfl,S2,dv⟩ hT hq
    obtain⟨p,sg,e1,rfl,rfl⟩:=gO e
    have ST:=aK.new (o:=.tup [.ref q,.int sg]) hT
    refine⟨T,_,rfl,cN.of aC,rfl,_,_,rfl,_,_,rfl,rfl,?_⟩
    have ff:=ST _ _ hq
    have u7:=ST _ _ (S2 _ _ R5 E5)
    have iw:=ST _ _ dv
    generalize upd H2 T (.tup [.ref q,.int sg])=H3 at ST ff u7 iw
    refine⟨_,rfl,_,rfl,_,rfl,qp,_,_,_,rfl,rfl,cN.of u7,rfl,_,rfl,q,_,_,_,rfl,rfl,cN.of ff,rfl,_,_,rfl,rfl,_,rfl,qp,_,_,_,rfl,rfl,cN.of u7,rfl,_,rfl,q,_,_,_,rfl,rfl,cN.of ff,rfl,_,_,rfl,rfl,_,rfl,qp,_,_,_,rfl,rfl,cN.of u7,rfl,_,rfl,q,_,_,_,rfl,rfl,cN.of ff,rfl,_,_,rfl,rfl,(by show 3<=sizeLine;decide),λt ht=>?_⟩
    have SQ:=aK.new (o:=.tup [.int (a2+p.1),.int (a3+p.2.1),.int (a4+p.2.2)]) ht
    have hi:i<cs.length:=(bh.mp e1).1
    refine⟨d,_,rfl,wS.t (k:=eI (a2+p.1) (a3+p.2.1) (a4+p.2.2)) (SQ _ _ iw) aC (by rw[eX,Cy,ij];omega),?_⟩
    refine⟨_,_,rfl,λb' o e' n'=>?_,?_⟩
    ·rw[aB n']
     exact SQ _ _ (ST _ _ (S2 _ _ e' n'))
    ·rw[aC]
     exact congrArg (λz=>some (HO.dT z)) (Jm (My a2 a3 a4) nd e1)
   ·rintro σ H2 ⟨v3,v4,rfl,S2,dv⟩
    rw[eX,ik] at dv
    have R6:upd H2 c (.dT (aI cs)) d=some (.dT (aI (vI (lY a2 a3 a4) cs))):=by rw[aB (ao qb)];exact dv
    refine⟨_,rfl,k _ d (λy o e=>?_) hd R6⟩
    have ny:=aD e hd
    have e1:=KG _ _ e
    by_cases hy:y=c
    ·rw[hy] at e1 ⊢
     rw[aC,<-e1,n9]
    ·rw[aB hy]
     exact S2 _ _ (by rw[aB hy];exact e1) ny
end
theorem Vw{A B:TS}{D:fY}{σ:List (Option V)}{H:Hp}{M:List (Option V)->Hp->Prop}(h2:∀ae H',M ae H'->B D ae H')(h1:(∀ae H',M ae H'->B D ae H')->A {D with nx:=B D} σ H):Cu A B D σ H:=h1 h2
theorem Ye{i:Nat}{x:V}{σ:List (Option V)}{H:Hp}{k:List (Option V)->Hp->Prop}(h:k (σ.set i (some x)) H):mG i x σ H k:=h
def Cp(ds os wr:Addr):List (Str×V):=[("signs",.ref ds),("owners",.ref os),("wrong",.ref wr)]
structure Vq(K:PySem.W.Frag)(CM:Addr):Prop where
 cl:Gf K CM
 n1:dC K CM "signs"
 n2:dC K CM "owners"
 n3:dC K CM "wrong"
def Xu(CM:Addr):Sp:=λvs H Q _=>∃(r dx:Addr),vs=[.ref r]/\H r=some (.ins CM dx [])/\∀(H':Hp)(ds os wr:Addr),H' r=some (.ins CM dx (Cp ds os wr))->H' ds=some (.dT [])->H' os=some (.dT [])->H' wr=some (.lst [])->H ds=none->H os=none->H wr=none->ds≠os->SX r H H'->Q .non H'
theorem aAm:aQ ["self"] ["self"] (aH As):=⟨rfl,rfl,rfl,by decide+kernel,rfl,by decide+kernel,by decide+kernel⟩
theorem Zi{P:Program}{w:World}{K:PySem.W.Frag}{mg:Str->Option Value}{base:Heap}{CM f:Addr}{fd:FuncData}(F:fH K "__init__" "Room.__init__" As f fd)(T:Vq K CM):bT P w K mg base bU 1 f fd ["self"] (Xu CM):=by
 refine F.ok aAm (λvs H Q E h=>?_) (λai A outer s H vs Q E hr h=>?_)
 ·obtain⟨r,dx,rfl,_⟩:=h
  rfl
 ·obtain⟨r,dx,rfl,hp,k⟩:=h
  refine⟨_,aE (dS (pv 0) kF rfl) (aE (dS (pv 0) kF rfl) (aG (dS (pv 0) (dU aF) rfl))),?_⟩
  intro ds o9
  have n1:r≠ds:=aD hp o9
  refine⟨_,rfl,r,CM,dx,_,rfl,by rw[aB n1];exact hp,T.cl,T.n1,(by show 0<1000;decide),?_⟩
  intro os dz
  have n2:r≠os:=λz=>by rw[<-z,aC] at dz;cases dz
  have n3:ds≠os:=λz=>by rw[<-z,aB (ao n1),aC] at dz;cases dz
  rw[aB (ao n2),aB (ao n3)] at dz
  refine⟨_,rfl,r,CM,dx,_,rfl,by rw[aB n2,aC],T.cl,T.n2,(by show 1<1000;decide),?_⟩
  refine⟨da _,λwr qc=>?_⟩
  have n4:r≠wr:=λz=>by rw[<-z,aC] at qc;cases qc
  have n5:os≠wr:=λz=>by rw[<-z,aB (ao n2),aC] at qc;cases qc
  have n6:ds≠wr:=λz=>by rw[<-z,aB (ao n1),aB n3,aB (ao n1),aC] at qc;cases qc
  rw[aB (ao n4),aB (ao n5),aB (ao n4),aB (ao n6)] at qc
  refine⟨_,rfl,r,CM,dx,_,rfl,by rw[aB n4,aC],T.cl,T.n3,(by show 2<1000;decide),?_⟩
  refine k _ ds os wr aC ?_ ?_ ?_ o9 dz qc n3 λb o e hb=>?_
  ·rw[aB (ao n1),aB n6,aB (ao n1),aB n3,aB (ao n1),aC]
  ·rw[aB (ao n2),aB n5,aB (ao n2),aC]
  ·rw[aB (ao n4),aC]
  ·rw[aB hb,aB (aD e qc),aB hb,aB (aD e dz),aB hb,aB (aD e o9)]
   exact e
structure RmM(P:Program)(w:World)(K:PySem.W.Frag)(mg:Str->Option Value)(base:Heap)(CM:Addr):Prop where
 ex:∃f fd,Mk K CM f/\bT P w K mg base bU 1 f fd ["self"] (Xu CM)/\eY K fd ["self"] []
 mg:mg "Room"=some (.ref CM)
section
variable {sg ow:CL} {c:Pl×Int} {s k:Int}
theorem Lk(h:¬eA c.2=true):mB sg ow c=[]:=by
 unfold mB
 split
 ·exact aa λz=>h z.1
 ·rfl
theorem Oh(h:aV sg (jK c.1)=none):mB sg ow c=[]:=by
 unfold mB
 rw[h]
theorem Nq(h:aV sg (jK c.1)=some s)(ht:dD s=true):mB sg ow c=[]:=by
 unfold mB
 rw[h]
 exact aa λz=>by rw[ht] at z;exact Bool.noConfusion z.2
theorem Ra(h:aV sg (jK c.1)=some s)(h1:eA c.2=true)(h2:dD s=false)(h3:aV ow (jK c.1)=some k):mB sg ow c=[k]:=by
 unfold mB
 rw[h]
 show (if eA c.2=true/\dD s=false then _ else _)=_
 rw[ac ⟨h1,h2⟩,h3]
 rfl
theorem Od(h:dD c.2=true):oN sg ow c=[]:=by
 unfold oN
 split
 ·exact aa λz=>by rw[h] at z;exact Bool.noConfusion z.1
 ·rfl
theorem Mv(h:aV sg (pH c.1)=none):oN sg ow c=[]:=by
 unfold oN
 rw[h]
theorem Ln(h:aV sg (pH c.1)=some s)(ht:¬eA s=true):oN sg ow c=[]:=by
 unfold oN
 rw[h]
 exact aa λz=>ht z.2
theorem Rz(h:aV sg (pH c.1)=some s)(h1:dD c.2=false)(h2:eA s=true)(h3:aV ow (pH c.1)=some k):oN sg ow c=[k]:=by
 unfold oN
 rw[h]
 show (if dD c.2=false/\eA s=true then _ else _)=_
 rw[ac ⟨h1,h2⟩,h3]
 rfl
theorem Eb:(mB sg ow c).length<=1:=by
 unfold mB
 split
 ·split
  ·cases aV ow (jK c.1)<;>simp
  ·simp
 ·simp
theorem Pe:(oN sg ow c).length<=1:=by
 unfold oN
 split
 ·split
  ·cases aV ow (pH c.1)<;>simp
  ·simp
 ·simp
end
theorem yJ(sg ow:CL):∀cl:CL,(cO cl sg ow).length<=2 * cl.length
 |[]=>ap _
 |c::r=>by
  have ih:=yJ sg ow r
  have h1:=Eb (sg:=sg) (ow:=ow) (c:=c)
  have h2:=Pe (sg:=sg) (ow:=ow) (c:=c)
  unfold cO at ih ⊢
  rw[DJ,b6,b6,bn]
  omega
theorem pG{cl sg ow:CL}{i:Nat}{c:Pl×Int}(e:cl[i]?=some c):cO (cl.take (i+1)) sg ow=cO (cl.take i) sg ow++mB sg ow c++oN sg ow c:=by
 unfold cO
 rw[i3,e,DD,ox]
 show _++List.flatMap _ [c]=_
 rw[HQ]
theorem lE{H:Hp}{c q:Addr}{cs:CL}{p:Pl}{v:Int}(hc:H c=some (.dT (aI cs)))(hq:H q=some (.tup [.int p.1,.int p.2.1,.int p.2.2]))(h:aV cs p=some v):mT H c (.ref q) (some (V.int v)):=by
 have:=vQ (p:=p) hc hq
 rw[h] at this
 exact this
theorem eL:16000000<sizeLine:=by rw[tq];decide
section
variable {P:Program} {w:World} {K:PySem.W.Frag} {mg:Str->Option Value} {base:Heap} {C CR CP CB CG CM:Addr}
def sO(CM:Addr):Sp:=λvs H Q _=>∃(d m dm wr s o:Addr)(cl sg ow:CL),vs=[.ref d,.ref m]/\H m=some (.ins CM dm (Cp s o wr))/\H d=some (.dT (aI cl))/\H s=some (.dT (aI sg))/\H o=some (.dT (aI ow))/\d≠s/\d≠o/\(∀p,(aV sg p).isSome=true->(aV ow p).isSome=true)/\cl.length<20000/\
 ∀(H':Hp)(l:Addr),aK H H'->H l=none->H' l=some (.lst ((cO cl sg ow).map V.int))->Q (.ref l) H'
theorem gN:aQ ["cells","room","blocked","place","sign","over","under"] ["cells","room"] (aH rE):=⟨rfl,rfl,rfl,by decide+kernel,rfl,by decide+kernel,by decide+kernel⟩
theorem Gq{f:Addr}{fd:FuncData}(F:fH K "blocked_lines" "blocked_lines" rE f fd)(TM:Vq K CM)(L1:dL P w K mg base "above" bU 1 ["place"] lQ)(L2:dL P w K mg base "below" bU 1 ["place"] nX)
  (L3:dL P w K mg base "has_stud" bU 1 ["sign"] rQ) (L4:dL P w K mg base "has_tube" bU 1 ["sign"] rW):bT P w K mg base bU 2 f fd ["cells","room"] (sO CM):=by
 obtain⟨g1,gh,G1,b1,k1,h1⟩:=L1.ex
 obtain⟨g2,ku,G2,b2,k2,h2⟩:=L2.ex
 obtain⟨g3,zb,G3,b3,k3,h3⟩:=L3.ex
 obtain⟨g4,E6,G4,b4,k4,h4⟩:=L4.ex
 refine F.ok gN (λvs H Q E h=>?_) (λai A outer s H vs Q E hr h=>?_)
 ·obtain⟨d,m,dm,wr,s,o,cl,sg,ow,rfl,_⟩:=h
  rfl
 ·obtain⟨d,m,dm,wr,s,o,cl,sg,ow,rfl,hm,hd,hs,ho,qd,oa,sub,ln,k⟩:=h
  have a7:=hr.mono (j:=1) (by decide)
  have hu:=jY hr
  refine⟨_,aE (aZ (i:=2) gN.nd rfl (Or.inl rfl) (dU aF))
   (aE (gQ (eB i4 rfl (iJ (pv 0)) (lG rfl (cK (bH (i:=3) gN.nd rfl (Or.inl rfl)) (cK (bH (i:=4) gN.nd rfl (Or.inl rfl)) iC)))
    (aE (aZ (i:=5) gN.nd rfl (Or.inl rfl) (aT G1 a7 (by rfl) h1 k1 b1 .nil aY (aA (pv 3) aF)))
    (aE (dZ (gA (dY (aT G3 a7 (by rfl) h3 k3 b3 .nil aY (aA (pv 4) aF))) (gA (dE (pA hu (pv 5) (aO (pv 1) rfl))) (gP (kX (dY (aT G4 a7 (by rfl) h4 k4 b4 .nil aY (aA (jI hu (aO (pv 1) rfl) (pv 5) (λ_ _=>rfl)) aF))))))).pt
     (aG (cA (mW PySem.F.plainAttrs_list PySem.F.slot_list_append PySem.F.type_list_append eM (pv 2) (aA (jI hu (aO (pv 1) rfl) (pv 5) (λ_ _=>rfl)) aF)))) bX)
    (aE (aZ (i:=6) gN.nd rfl (Or.inl rfl) (aT G2 a7 (by rfl) h2 k2 b2 .nil aY (aA (pv 3) aF)))
    (aG (dZ (gA (kX (dY (aT G4 a7 (by rfl) h4 k4 b4 .nil aY (aA (pv 4) aF)))) (gA (dE (pA hu (pv 6) (aO (pv 1) rfl))) (gP (dY (aT G3 a7 (by rfl) h3 k3 b3 .nil aY (aA (jI hu (aO (pv 1) rfl) (pv 6) (λ_ _=>rfl)) aF)))))).pt
     (aG (cA (mW PySem.F.plainAttrs_list PySem.F.slot_list_append PySem.F.type_list_append eM (pv 2) (aA (jI hu (aO (pv 1) rfl) (pv 6) (λ_ _=>rfl)) aF)))) bX)))))))
   (aG (aW (pv 2)))),?_⟩
  refine⟨by show 0<=sizeLine;decide,λl hl=>?_⟩
  have S0:aK H (upd H l (.lst [])):=aK.new hl
  have se:d≠l:=aD hd hl
  have ky:s≠l:=aD hs hl
  have KH:o≠l:=aD ho hl
  have nml:m≠l:=aD hm hl
  have qe:m≠d:=λz=>by rw[z,hd] at hm;cases hm
  have hsz:=eL
  refine⟨d,_,S0 _ _ hd,trivial,λod=>?_⟩
  have jt:upd (upd H l (.lst [])) d (.frz od (.dT (aI cl))) d=some (.frz od (.dT (aI cl))):=aC
  have jv:upd (upd H l (.lst [])) d (.frz od (.dT (aI cl))) s=some (.dT (aI sg)):=by rw[aB (ao qd)];exact S0 _ _ hs
  have o7:upd (upd H l (.lst [])) d (.frz od (.dT (aI cl))) o=some (.dT (aI ow)):=by rw[aB (ao oa)];exact S0 _ _ ho
  have k6:upd (upd H l (.lst [])) d (.frz od (.dT (aI cl))) m=some (.ins CM dm (Cp s o wr)):=by rw[aB qe];exact S0 _ _ hm
  have R7:upd (upd H l (.lst [])) d (.frz od (.dT (aI cl))) l=some (.lst []):=by rw[aB (ao se),aC]
  refine⟨_,rfl,d,od,_,rfl,jt,?_⟩
  refine gK (λi σ H'=>∃v4 v5 v6 v7,σ=[some (.ref d),some (.ref m),some (.ref l),v4,v5,v6,v7]/\SX l (upd (upd H l (.lst [])) d (.frz od (.dT (aI cl)))) H'/\H' l=some (.lst ((cO (cl.take i) sg ow).map V.int))) ⟨none,none,none,none,rfl,SX.refl _ _,R7⟩ ?_ ?_ ?_
  ·rintro i σ H1 hi ⟨v4,v5,v6,v7,rfl,S1,_⟩
   exact S1 _ _ jt se
  ·rintro i σ H1 T kk v q e ⟨v4,v5,v6,v7,rfl,S1,nj⟩ hT hq
   obtain⟨p,sv,e1,rfl,rfl⟩:=gO e
   have hi:i<cl.length:=(bh.mp e1).1
   have ST:=aK.new (o:=.tup [.ref q,.int sv]) hT
   refine⟨T,_,rfl,cN.of aC,rfl,_,_,rfl,_,_,rfl,rfl,?_⟩
   have cu:=ST _ _ hq
   have S2:SX l (upd (upd H l (.lst [])) d (.frz od (.dT (aI cl)))) (upd H1 T (.tup [.ref q,.int sv])):=λb ob eb nb=>ST _ _ (S1 _ _ eb nb)
   have gj:=ST _ _ nj
   generalize upd H1 T (.tup [.ref q,.int sv])=H2 at ST cu S2 gj
   have R8:q≠l:=λz=>by rw[z,gj] at cu;cases cu
   have U0:(cO (cl.take i) sg ow).length<=40000:=by
    have:=yJ sg ow (cl.take i)
    rw[ij] at this
    omega
   have fin:∀{H':Hp}{xs:List Int},mB sg ow (p,sv)++oN sg ow (p,sv)=xs->H' l=some (.lst ((cO (cl.take i) sg ow++xs).map V.int))->H' l=some (.lst ((cO (cl.take (i+1)) sg ow).map V.int)):=λ{H' xs} ex hx=>by
    rw[hx,pG e1,ox,ex]
   refine⟨_,rfl,q,p.1,p.2.1,p.2.2,rfl,cu,λt ht=>?_⟩
   have SQ:=aK.new (o:=.tup [.int p.1,.int p.2.1,.int (p.2.2+1)]) ht
   have S3:SX l (upd (upd H l (.lst [])) d (.frz od (.dT (aI cl)))) (upd H2 t (.tup [.int p.1,.int p.2.1,.int (p.2.2+1)])):=λb ob eb nb=>SQ _ _ (S2 _ _ eb nb)
   have qf:=SQ _ _ gj
   have ff:=SQ _ _ cu
   have kz:upd H2 t (.tup [.int p.1,.int p.2.1,.int (p.2.2+1)]) t=some (.tup [.int (jK p).1,.int (jK p).2.1,.int (jK p).2.2]):=aC
   generalize upd H2 t (.tup [.int p.1,.int p.2.1,.int (p.2.2+1)])=H3 at S3 qf ff kz
   refine Ye ?_
   dsimp only
   refine Vw (A:=Za _ _ _) (M:=λae H'=>∃v7,ae=[some (.ref d),some (.ref m),some (.ref l),some (.ref q),some (.int sv),some (.ref t),v7]/\SX l (upd (upd H l (.lst [])) d (.frz od (.dT (aI cl)))) H'/\H' l=some (.lst ((cO (cl.take i) sg ow++mB sg ow (p,sv)).map V.int))/\H' q=some (.tup [.int p.1,.int p.2.1,.int p.2.2])) ?_ (λva=>?_)
   ·rintro ae H4 ⟨v7,rfl,S4,R9,ux⟩
    refine⟨_,rfl,q,p.1,p.2.1,p.2.2,rfl,ux,λu EV=>?_⟩
    have SU:=aK.new (o:=.tup [.int p.1,.int p.2.1,.int (p.2.2 - 1)]) EV
    have S5:SX l (upd (upd H l (.lst [])) d (.frz od (.dT (aI cl)))) (upd H4 u (.tup [.int p.1,.int p.2.1,.int (p.2.2 - 1)])):=λb ob eb nb=>SU _ _ (S4 _ _ eb nb)
    have n8:=SU _ _ R9
    have BR:upd H4 u (.tup [.int p.1,.int p.2.1,.int (p.2.2 - 1)]) u=some (.tup [.int (pH p).1,.int (pH p).2.1,.int (pH p).2.2]):=aC
    generalize upd H4 u (.tup [.int p.1,.int p.2.1,.int (p.2.2 - 1)])=H5 at S5 n8 BR
    have FP:oN sg ow (p,sv)=[]->H5 l=some (.lst ((cO (cl.take (i+1)) sg ow).map V.int)):=λz=>by
     rw[pG e1,z,f8]
     exact n8
    refine⟨_,rfl,sv,rfl,_,rfl,bY (λju=>?_) (λju=>pO ⟨_,_,_,_,rfl,S5,FP (Od (by cases z:dD sv with|true=>exact rfl|false=>exact absurd (by rw[z];rfl) ju))⟩)⟩
    have ju:dD sv=false:=by
     cases z:dD sv with
     |false=>rfl
     |true=>rw[z] at ju;cases ju
    refine⟨_,rfl,_,rfl,m,CM,dm,_,_,rfl,(S5 _ _ k6 nml),TM.cl,TM.n1,rfl,s,_,rfl,vQ (p:=pH p) (S5 _ _ jv ky) BR,_,rfl,bY (λaq=>?_) (λaq=>pO ⟨_,_,_,_,rfl,S5,FP (Mv ?_)⟩)⟩
    ·rw[gq] at aq
     obtain⟨sj,es⟩:=lf.mp aq
     obtain⟨ov,eo⟩:=lf.mp (sub _ aq)
     refine⟨_,rfl,m,CM,dm,_,_,rfl,(S5 _ _ k6 nml),TM.cl,TM.n1,rfl,_,rfl,s,_,rfl,lE (p:=pH p) (S5 _ _ jv ky) BR es,sj,rfl,_,rfl,bY (λia=>?_) (λia=>⟨_,_,_,_,rfl,S5,FP (Ln es ia)⟩)⟩
     refine⟨_,rfl,.inl ⟨rfl,_,cP.of n8⟩,_,rfl,m,CM,dm,_,_,rfl,(S5 _ _ k6 nml),TM.cl,TM.n2,rfl,_,rfl,o,_,rfl,lE (p:=pH p) (S5 _ _ o7 KH) BR eo,l,_,_,rfl,rfl,n8,?_,?_⟩
     ·have:=Eb (sg:=sg) (ow:=ow) (c:=(p,sv))
      rw[ah,b6]
      omega
     ·refine⟨_,_,_,_,rfl,λb ob eb nb=>?_,?_⟩
      ·rw[aB nb]
       exact S5 _ _ eb nb
      ·rw[aC,pG e1,Rz es ju ia eo]
       simp only[cp,bz,xq]
    ·rw[gq] at aq
     cases z:aV sg (pH p) with
     |none=>rfl
     |some y=>rw[z] at aq;exact absurd rfl aq
   ·have FQ:mB sg ow (p,sv)=[]->H3 l=some (.lst ((cO (cl.take i) sg ow++mB sg ow (p,sv)).map V.int)):=λz=>by
     rw[z,f8]
     exact qf
    refine⟨_,rfl,sv,rfl,_,rfl,bY (λgy=>?_) (λgy=>pO (va _ _ ⟨_,rfl,S3,FQ (Lk gy),ff⟩))⟩
    refine⟨_,rfl,_,rfl,m,CM,dm,_,_,rfl,(S3 _ _ k6 nml),TM.cl,TM.n1,rfl,s,_,rfl,vQ (p:=jK p) (S3 _ _ jv ky) kz,_,rfl,bY (λaq=>?_) (λaq=>pO (va _ _ ⟨_,rfl,S3,FQ (Oh ?_),ff⟩))⟩
    ·rw[gq] at aq
     obtain⟨sj,es⟩:=lf.mp aq
     obtain⟨ov,eo⟩:=lf.mp (sub _ aq)
     refine⟨_,rfl,m,CM,dm,_,_,rfl,(S3 _ _ k6 nml),TM.cl,TM.n1,rfl,_,rfl,s,_,rfl,lE (p:=jK p) (S3 _ _ jv ky) kz es,sj,rfl,_,rfl,bY (λnc=>?_) (λnc=>va _ _ ⟨_,rfl,S3,FQ (Nq es ?_),ff⟩)⟩
     ·have nc:dD sj=false:=by
       cases z:dD sj with
       |false=>rfl
       |true=>rw[z] at nc;cases nc
      refine⟨_,rfl,.inl ⟨rfl,_,cP.of qf⟩,_,rfl,m,CM,dm,_,_,rfl,(S3 _ _ k6 nml),TM.cl,TM.n2,rfl,_,rfl,o,_,rfl,lE (p:=jK p) (S3 _ _ o7 KH) kz eo,l,_,_,rfl,rfl,qf,?_,va _ _ ?_⟩
      ·rw[ah]
       omega
      ·refine⟨_,rfl,λb ob eb nb=>?_,?_,?_⟩
       ·rw[aB nb]
        exact S3 _ _ eb nb
       ·rw[aC,Ra es gy nc eo]
        simp only[cp,bz,xq]
       ·rw[aB R8]
        exact ff
     ·cases z:dD sj with
      |true=>rfl
      |false=>exact absurd (by rw[z];rfl) nc
    ·rw[gq] at aq
     cases z:aV sg (jK p) with
     |none=>rfl
     |some y=>rw[z] at aq;exact absurd rfl aq
  ·rintro σ H1 ⟨v4,v5,v6,v7,rfl,S1,nj⟩
   rw[eX,ik] at nj
   refine⟨S1 _ _ jt se,?_⟩
   have S2:=Ay hd hl S1
   have gj:upd H1 d (.dT (aI cl)) l=some (.lst ((cO cl sg ow).map V.int)):=by rw[aB (ao se)];exact nj
   exact⟨_,rfl,k _ l S2 hl gj⟩
end
end Br1
namespace L2
open PySem PySem.Spec PyProof.Rows
theorem Oe{K:PySem.W.Frag}{a:Addr}{xs:List V}{g:TG}{tb:TS}{D:fY}{σ:St}{H:Hp}(Pv:Nat->St->Hp->Prop)(h0:Pv 0 σ H)(hl:∀i σ H,i<=xs.length->Pv i σ H->cP K H a xs)
  (hs:∀i x σ H T,xs[i]?=some x->Pv i σ H->H T=none->g (.ref T) σ (upd H T (.tup [.int (i:Nat),x])) λau H2=>tb {D with nx:=Pv (i+1),ct:=Pv (i+1),bk:=D.nx} au H2) (hd:∀ σ H,Pv xs.length σ H->D.nx σ H):
  ∃W:Nat->Nat->St->Hp->Prop,(∃m,W 0 m σ H)/\∀i m σ H,W i m σ H->
   ((Ite K a).stop i H/\D.nx σ H)\/((Ite K a).go i H/\∃N:St->Hp->Prop,(∀ae H',N ae H'->∃m',m'<m/\W (i+1) m' ae H')/\∀x H',(Ite K a).yld i H x H'->g x σ H' λau H2=>tb {D with nx:=N,ct:=N,bk:=D.nx} au H2):=by
 refine⟨λi m σ H=>m=xs.length - i/\i<=xs.length/\Pv i σ H,⟨xs.length,by simp,da _,h0⟩,?_⟩
 rintro i m σ H ⟨rfl,hi,p⟩
 have q:=hl i σ H hi p
 by_cases aj:i<xs.length
 ·refine .inr ⟨⟨xs,xs[i],q,by simp[aj]⟩,Pv (i+1),λae H' p'=>⟨xs.length - (i+1),by omega,rfl,aj,p'⟩,λx H' y=>?_⟩
  obtain⟨T,x',rfl,hT,rfl,y⟩:=y
  exact hs i x' σ H T (y xs q) p hT
 ·have e:i=xs.length:=by omega
  subst e
  exact .inl ⟨⟨xs,q,ap _⟩,hd σ H p⟩
end L2
namespace Br1
open PySem PySem.Spec PyProof.Rows L2
theorem Gd{ow cl:CL}{i:Nat}{c:Pl×Int}(e:cl[i]?=some c):gB ow (cl.take (i+1))=gB ow (cl.take i)++(aV ow c.1).toList:=by
 unfold gB
 rw[i3,e,HY]
 show _++List.filterMap _ [c]=_
 cases h:aV ow c.1<;>simp[h]
theorem Uu(ow cl:CL):(gB ow cl).length<=cl.length:=by
 unfold gB
 exact IA _ _
theorem Rk{ow cl:CL}(h:¬0<(gB ow cl).length):∀c∈cl,aV ow c.1=none:=by
 intro c hc
 cases e:aV ow c.1 with
 |none=>rfl
 |some k=>
  have:k∈gB ow cl:=tm.mpr ⟨c,hc,e⟩
  exact absurd (M' this) h
def Fs(j:Nat)(cl:CL):CL:=cl.map λc=>(c.1,(j:Int))
theorem Jc{dct cl:CL}{i:Nat}{p:Pl}{s v:Int}(f:Pl×Int->Pl×Int)(hf:∀c,(f c).1=c.1)(nd:(cl.map (·.1)).Nodup)(fr:∀c∈cl,aV dct c.1=none)(e:cl[i]?=some (p,s))(hv:(f (p,s)).2=v):
  jQ (aI (dct++(cl.take i).map f)) (eI p.1 p.2.1 p.2.2) (V.int v)=aI (dct++(cl.take (i+1)).map f):=by
 rw[Js]
 ·rw[i3,e,cp,ox]
  show aI (dct++(_++[(p,v)]))=aI (dct++(_++[f (p,s)]))
  rw[<-hv]
  have:f (p,s)=(p,(f (p,s)).2):=dk (hf _) rfl
  rw[<-this]
 ·rw[xZ,fr _ (dg e)]
  show aV _ _=none
  refine zW λc hc z=>?_
  obtain⟨c0,h0,rfl⟩:=a6.mp hc
  rw[hf] at z
  exact vA nd e c0 h0 z
def wM(cl sg ow:CL)(j:Int):List Int:=if 0<(gB ow cl).length then [2,j,rO (gB ow cl)] else if 0<(cO cl sg ow).length then [3,j,rO (cO cl sg ow)] else []
section
variable {P:Program} {w:World} {K:PySem.W.Frag} {mg:Str->Option Value} {base:Heap} {C CR CP CB CG CM:Addr}
def wB(CM:Addr):Sp:=λvs H Q _=>∃(d m dm wr s o:Addr)(cl sg ow:CL)(j:Int),vs=[.ref m,.ref d,.int j]/\H m=some (.ins CM dm (Cp s o wr))/\H d=some (.dT (aI cl))/\H s=some (.dT (aI sg))/\H o=some (.dT (aI ow))/\d≠s/\d≠o/\(∀p,(aV sg p).isSome=true->(aV ow p).isSome=true)/\cl.length<20000/\
 ∀(H':Hp)(l:Addr),aK H H'->H l=none->H' l=some (.lst ((wM cl sg ow j).map V.int))->Q (.ref l) H'
abbrev Jl:List Str:=["room","cells","j","hit","blocked","place"]
theorem nS:aQ Jl ["room","cells","j"] (aH pR):=⟨rfl,rfl,rfl,by decide+kernel,rfl,by decide+kernel,by decide+kernel⟩
theorem Oa{f:Addr}{fd:FuncData}(F:fH K "wrong_with" "wrong_with" pR f fd)(TM:Vq K CM)(ax:mg "len"=none)(KI:mg "min"=none)(L1:dL P w K mg base "blocked_lines" bU 2 ["cells","room"] (sO CM)):bT P w K mg base bU 3 f fd ["room","cells","j"] (wB CM):=by
 obtain⟨g1,gh,G1,b1,k1,h1⟩:=L1.ex
 refine F.ok nS (λvs H Q E h=>?_) (λai A outer s H vs Q E hr h=>?_)
 ·obtain⟨d,m,dm,wr,s,o,cl,sg,ow,j,rfl,_⟩:=h
  rfl
 ·obtain⟨d,m,dm,wr,s,o,cl,sg,ow,j,rfl,hm,hd,hs,ho,qd,oa,sub,ln,k⟩:=h
  have ay:=hr.mono (j:=2) (by decide)
  have hu:=jY hr
  have hsz:=eL
  refine⟨_,aE (gQ (xM (i:=3) (tt:=tB (aC0 (eF 5) (Le K (eF 0) "owners"))) (te:=Xr (Le K (eF 0) "owners") (eF 5)) (own:=[("place",5)]) rfl nS.nd rfl rfl rfl (uM (pv 1)) (gU (N:=Jl) (sc:=aH pR) (by decide+kernel))
     (λ_ _ _ _ _=>bH (i:=5) nS.nd rfl (Or.inl rfl)) (λ_ _ _ _ _=>Tu (dE (pA hu (pv 5) (aO (pv 0) rfl)))) (λ_ _ _ _ _=>jI hu (aO (pv 0) rfl) (pv 5) (λ_ _=>rfl))))
   (aE (dZ (dE (qM (bK bI (by rfl) ax PySem.boot_len (aA (pv 3) aF)) aJ)) (aG (aW (dU (aA aJ (aA (pv 2) (aA (bK (Qt rfl) (by rfl) KI boot_min (aA (pv 3) aF)) aF)))))) bX)
   (aE (aZ (i:=4) nS.nd rfl (Or.inl rfl) (aT G1 ay (by rfl) h1 k1 b1 .nil aY (aA (pv 1) (aA (pv 0) aF))))
   (aE (dZ (dE (qM (bK bI (by rfl) ax PySem.boot_len (aA (pv 4) aF)) aJ)) (aG (aW (dU (aA aJ (aA (pv 2) (aA (bK (Qt rfl) (by rfl) KI boot_min (aA (pv 4) aF)) aF)))))) bX)
   (aG (aW (dU aF)))))),?_⟩
  refine⟨d,_,hd,trivial,λod=>?_⟩
  have qe:m≠d:=λz=>by rw[z,hd] at hm;cases hm
  have jt:upd H d (.frz od (.dT (aI cl))) d=some (.frz od (.dT (aI cl))):=aC
  have o7:upd H d (.frz od (.dT (aI cl))) o=some (.dT (aI ow)):=by rw[aB (ao oa)];exact ho
  have k6:upd H d (.frz od (.dT (aI cl))) m=some (.ins CM dm (Cp s o wr)):=by rw[aB qe];exact hm
  refine⟨_,rfl,d,od,rfl,.inr ⟨aI cl,jt,λDl f6=>?_⟩⟩
  refine wC (λi H'=>aK (upd H d (.frz od (.dT (aI cl)))) H'/\H' Dl=some (.lst ((gB ow (cl.take i)).map V.int))) ⟨aK.new f6,aC⟩ (λi H' _ p=>p.1 _ _ jt) ?_ ?_
  ·rintro i kk vv q H5 e5 ⟨S5,og⟩ hq
   obtain⟨p,sv,e6,rfl,rfl⟩:=gO e5
   have hi:i<cl.length:=(bh.mp e6).1
   refine⟨rfl,_,rfl,_,rfl,m,CM,dm,_,_,rfl,S5 _ _ k6,TM.cl,TM.n2,rfl,o,_,rfl,vQ (p:=p) (S5 _ _ o7) hq,_,rfl,bY (λaq=>?_) (λaq=>?_)⟩
   ·rw[gq] at aq
    obtain⟨ov,eo⟩:=lf.mp aq
    refine⟨_,rfl,m,CM,dm,_,_,rfl,S5 _ _ k6,TM.cl,TM.n2,rfl,_,rfl,o,_,rfl,lE (p:=p) (S5 _ _ o7) hq eo,_,og,?_,λb2 ob KJ=>?_,?_⟩
    ·rw[ah]
     have:=Uu ow (cl.take i)
     rw[ij] at this
     omega
    ·rw[aB (aD KJ f6)]
     exact S5 _ _ KJ
    ·rw[aC,Gd e6]
     show some (HO.lst _)=some (HO.lst ((gB ow (cl.take i)++(aV ow p).toList).map V.int))
     rw[eo,cp]
     rfl
   ·refine⟨S5,?_⟩
    rw[gq] at aq
    rw[Gd e6]
    show _=some (HO.lst ((gB ow (cl.take i)++(aV ow p).toList).map V.int))
    cases z:aV ow p with
    |none=>show _=some (HO.lst ((gB ow (cl.take i)++[]).map V.int));rw[f8];exact og
    |some y=>rw[z] at aq;exact absurd rfl aq
  ·rintro H5 ⟨S5,og⟩
   rw[eX,ik] at og
   refine⟨S5 _ _ jt,?_⟩
   have S6:=gL hd S5
   have KL:Dl≠d:=λz=>by rw[z,jt] at f6;cases f6
   have U1:H Dl=none:=by rw[aB KL] at f6;exact f6
   have FR:upd H5 d (.dT (aI cl)) Dl=some (.lst ((gB ow cl).map V.int)):=by rw[aB KL];exact og
   have xg:upd H5 d (.dT (aI cl)) d=some (.dT (aI cl)):=aC
   generalize upd H5 d (.dT (aI cl))=H6 at S6 FR xg
   unfold wM at k
   refine⟨_,rfl,Dl,_,rfl,.inl (cP.of FR),_,_,rfl,rfl,_,rfl,bY (λhh=>?_) (λhh=>?_)⟩
   ·have hh:(0:Int)<(((gB ow cl).map V.int).length:Int):=dq hh
    rw[ah] at hh
    have m9:0<(gB ow cl).length:=by omega
    rw[ac m9] at k
    refine⟨_,rfl,_,rfl,Dl,_,rfl,cP.of FR,m9,λmn oh zo=>⟨by show 3<=sizeLine;decide,λl hl=>?_⟩⟩
    refine k _ l (S6.trans (aK.new hl)) (S6.free hl) ?_
    rw[aC,<-Iz oh zo]
    rfl
   ·have hh:¬(0:Int)<(((gB ow cl).map V.int).length:Int):=λz=>hh (cn z)
    rw[ah] at hh
    have m9:¬0<(gB ow cl).length:=by omega
    rw[aa m9] at k
    refine⟨_,rfl,_,rfl,d,m,dm,wr,s,o,cl,sg,ow,rfl,S6 _ _ hm,xg,S6 _ _ hs,S6 _ _ ho,qd,oa,sub,ln,λH7 bl S7 J9 KM=>?_⟩
    have BS:=S6.trans S7
    refine⟨_,rfl,bl,_,rfl,.inl (cP.of KM),_,_,rfl,rfl,_,rfl,bY (λhh=>?_) (λhh=>?_)⟩
    ·have hh:(0:Int)<(((cO cl sg ow).map V.int).length:Int):=dq hh
     rw[ah] at hh
     have BU:0<(cO cl sg ow).length:=by omega
     rw[ac BU] at k
     refine⟨_,rfl,_,rfl,bl,_,rfl,cP.of KM,BU,λmn oh zo=>⟨by show 3<=sizeLine;decide,λl hl=>?_⟩⟩
     refine k _ l (BS.trans (aK.new hl)) (BS.free hl) ?_
     rw[aC,<-Iz oh zo]
     rfl
    ·have hh:¬(0:Int)<(((cO cl sg ow).map V.int).length:Int):=λz=>hh (cn z)
     rw[ah] at hh
     have BU:¬0<(cO cl sg ow).length:=by omega
     rw[aa BU] at k
     exact⟨da _,λl hl=>k _ l (BS.trans (aK.new hl)) (BS.free hl) aC⟩
end
theorem Dd{prs:List aM}(ok:∀pr∈prs,eJ pr){x:List Nat}(hx:Fg prs.length x):Iy prs (Xw x)=lM (tY prs x) (dM x 2) (dM x 3) (dM x 4):=by
 rw[<-Lx ok hx.2]
 obtain⟨a0,a1,a2,a3,a4,a5,rfl⟩:=six hx.1
 show nR prs ((a0:Int).toNat) ((a5:Int).toNat) a2 a3 a4=nR prs a0 a5 a2 a3 a4
 rw[jm,jm]
theorem Tp{prs:List aM}{ls:List (List Nat)}{j:Nat}{x:List Nat}(e:ls[j]?=some x):dI prs (ls.take (j+1))=dI prs (ls.take j)++[(Br.Line.shape (prs.map cG) (iZ x),cT prs x)]:=by
 unfold dI
 rw[i3,e,cp]
 rfl
theorem Os{prs:List aM}{ls:List (List Nat)}:(dI prs ls).length=ls.length:=ah _
def Hl(CM:Addr)(H:Hp)(m:Addr)(prs:List aM)(ls:List (List Nat)):Prop:=∃(dm s o wr:Addr)(sg ow:CL),H m=some (.ins CM dm (Cp s o wr))/\H wr=some (.lst ((cQ prs 0 [] [] ls).map V.int))/\H s=some (.dT (aI sg))/\H o=some (.dT (aI ow))/\s≠o/\
 (cQ prs 0 [] [] ls=[]->sg=iW (dI prs ls)/\ow=uY (dI prs ls))/\sg.length<=5120000/\ow.length<=5120000
structure FW(CM:Addr)(H:Hp)(m dm s o:Addr)(prs:List aM)(ls:List (List Nat))(j:Nat)(sg ow:CL)(H':Hp):Prop where
 sm:aK H H'
 hm:∃wr,H' m=some (.ins CM dm (Cp s o wr))/\H' wr=some (.lst [])
 hs:H' s=some (.dT (aI sg))
 ho:H' o=some (.dT (aI ow))
 sub:∀p,(aV sg p).isSome=true->(aV ow p).isSome=true
 l1:sg.length<=j * 20000
 l2:ow.length<=j * 20000
 er:cQ prs 0 [] [] ls=cQ prs j sg ow (ls.drop j)
 eg:sg=iW (dI prs (ls.take j))
 eo:ow=uY (dI prs (ls.take j))
theorem FW.same{CM:Addr}{H:Hp}{m dm s o:Addr}{prs:List aM}{ls:List (List Nat)}{j:Nat}{sg ow:CL}{H1 H2:Hp}(f:FW CM H m dm s o prs ls j sg ow H1)(S:aK H1 H2):FW CM H m dm s o prs ls j sg ow H2:=by
 obtain⟨wr,h1,h2⟩:=f.hm
 exact⟨f.sm.trans S,⟨wr,S _ _ h1,S _ _ h2⟩,S _ _ f.hs,S _ _ f.ho,f.sub,f.l1,f.l2,f.er,f.eg,f.eo⟩
theorem Vd{K:PySem.W.Frag}{ta tv:TE}{f:Str}{B:TS}{D:fY}{σ:List (Option V)}{H:Hp}(M:V->Hp->Prop)(h1:∀Q:VK,(∀y H',M y H'->Q y H')->tv σ H Q)(h2:∀y H',M y H'->Zc K ta (tC y) f {D with nx:=B D} σ H'):Cu (Zc K ta tv f) B D σ H:=h1 _ h2
section
variable {P:Program} {w:World} {K:PySem.W.Frag} {mg:Str->Option Value} {base:Heap} {C CR CP CB CG CM:Addr}
def Gv(K:PySem.W.Frag)(CP CM:Addr):Sp:=λvs H Q _=>∃(pa la:Addr)(bs ts:List Addr)(prs:List aM) (ls:List (List Nat)),vs=[.ref pa,.ref la]/\H pa=some (.lst (bs.map V.ref))/\eC CP H bs prs/\H la=some (.lst (ts.map V.ref))/\oB H ts ls/\
 (∀pr∈prs,eJ pr)/\(∀x∈ls,Fg prs.length x/\dM x 5<=3)/\ls.length<=256/\∀(H':Hp)(m:Addr),aK H H'->H m=none->Hl CM H' m prs ls->Q (.ref m) H'
abbrev aCt:List Str:=["parts","lines","room","j","put","cells","place","sign"]
theorem lK:aQ aCt ["parts","lines"] (aH Kn):=⟨rfl,rfl,rfl,by decide+kernel,rfl,by decide+kernel,by decide+kernel⟩
theorem Uh{f:Addr}{fd:FuncData}(F:fH K "fill_room" "fill_room" Kn f fd)(TM:Vq K CM)(RM:RmM P w K mg base CM)(ax:mg "len"=none)(EW:mg "enumerate"=none)(L1:dL P w K mg base "cells_in_room" bU 5 ["parts","put"] (Gs K CP))
  (L2:dL P w K mg base "leaves_room" bU 2 ["parts","put"] (qN K CP)) (L3:dL P w K mg base "wrong_with" bU 3 ["room","cells","j"] (wB CM)):bT P w K mg base bU 6 f fd ["parts","lines"] (Gv K CP CM):=by
 obtain⟨g1,gh,G1,b1,k1,h1⟩:=L1.ex
 obtain⟨g2,ku,G2,b2,k2,h2⟩:=L2.ex
 obtain⟨g3,zb,G3,b3,k3,h3⟩:=L3.ex
 obtain⟨fm,U2,MM,GM,bM⟩:=RM.ex
 refine F.ok lK (λvs H Q E h=>?_) (λai A outer s H vs Q E hr h=>?_)
 ·obtain⟨pa,la,bs,ts,prs,ls,rfl,_⟩:=h
  rfl
 ·obtain⟨pa,la,bs,ts,prs,ls,rfl,c8,d3,jw,sk,hok,BI,jf,k⟩:=h
  have ay:=hr.mono (j:=2) (by decide)
  have ig:=hr.mono (j:=3) (by decide)
  have hu:=jY hr
  have hsz:=eL
  refine⟨_,aE (aZ (i:=2) lK.nd rfl (Or.inl rfl) (Qy MM GM ay (by rfl) RM.mg bM .nil aY))
   (aE (eB i4 rfl (Uj (by rfl) EW (aA (pv 1) aF)) (lG rfl (cK (bH (i:=3) lK.nd rfl (Or.inl rfl)) (cK (bH (i:=4) lK.nd rfl (Or.inl rfl)) iC)))
    (aE (aZ (i:=5) lK.nd rfl (Or.inl rfl) (aT G1 hr (by rfl) h1 k1 b1 .nil aY (aA (pv 0) (aA (pv 4) aF))))
    (aE (dS (pv 2) (Qo (dY (aT G2 ay (by rfl) h2 k2 b2 .nil aY (aA (pv 0) (aA (pv 4) aF)))) (dU (aA aJ (aA (pv 3) (aA (pv 3) aF)))) (aT G3 ig (by rfl) h3 k3 b3 .nil aY (aA (pv 2) (aA (pv 5) (aA (pv 3) aF))))) rfl)
    (aE (dZ (dE (qM (bK bI (by rfl) ax PySem.boot_len (aA (aO (pv 2) rfl) aF)) aJ)) (aG (aW (pv 2))) bX)
    (aG (gQ (eB i4 rfl (iJ (pv 5)) (lG rfl (cK (bH (i:=6) lK.nd rfl (Or.inl rfl)) (cK (bH (i:=7) lK.nd rfl (Or.inl rfl)) iC)))
     (aE (lN hu (aO (pv 2) rfl) (pv 6) (pv 7) rfl) (aG (lN hu (aO (pv 2) rfl) (pv 6) (pv 3) rfl))))))))))
   (aG (aW (pv 2)))),?_⟩
  intro m dm zp SA ak
  refine⟨m,dm,rfl,aC,λH1 s0 o0 SC oh gy SD SE fs fo U3 so sx=>⟨rfl,?_⟩⟩
  have S1:aK H H1:=λy o e=>sx y o (by rw[aB (aD e zp),aB (aD e SA)];exact e) (aD e zp)
  have nsm:s0≠m:=λz=>by rw[z,aC] at fs;cases fs
  have BV:o0≠m:=λz=>by rw[z,aC] at fo;cases fo
  have ly:s0≠dm:=λz=>by rw[z,aB ak,aC] at fs;cases fs
  have FT:o0≠dm:=λz=>by rw[z,aB ak,aC] at fo;cases fo
  have SG:H s0=none:=by rw[aB nsm,aB ly] at fs;exact fs
  have SH:H o0=none:=by rw[aB BV,aB FT] at fo;exact fo
  have gj:ts.length=ls.length:=Paired.length sk
  refine⟨_,rfl,la,_,rfl,cP.of (S1 _ _ jw),?_⟩
  refine Oe (xs:=ts.map V.ref) (λj σ H'=>∃sg ow v3 v4 v5 v6 v7,σ=[some (.ref pa),some (.ref la),some (.ref m),v3,v4,v5,v6,v7]/\FW CM H m dm s0 o0 prs ls j sg ow H')
   ⟨[],[],none,none,none,none,none,rfl,S1,⟨SC,oh,SE⟩,gy,SD,λp z=>(by cases z),(by simp),(by simp),rfl,rfl,rfl⟩ ?_ ?_ ?_
  ·rintro i σ H2 hi ⟨sg,ow,v3,v4,v5,v6,v7,rfl,fw⟩
   exact cP.of (fw.sm _ _ jw)
  ·rintro j xv σ H2 T ex ⟨sg,ow,v3,v4,v5,v6,v7,rfl,fw⟩ hT
   have hj:j<ls.length:=by
    have:=(bh.mp ex).1
    rwa [ah,gj] at this
   obtain⟨x,BW⟩:∃x,ls[j]?=some x:=⟨_,ba hj⟩
   obtain⟨t,et,ht,zn⟩:=cH sk BW
   rw[bf,et] at ex
   cases ex
   obtain⟨rg,FL⟩:=BI x (dg BW)
   have edrop:ls.drop j=x::ls.drop (j+1):=by
    obtain⟨h0,h1⟩:=bh.mp BW
    rw[C3 h0,h1]
   have er:=fw.er
   rw[edrop,cQ] at er
   have FU:=Tp (prs:=prs) BW
   have etk:(ls.take j).length=j:=by rw[ij];omega
   obtain⟨sr,_⟩:=qG hok rg.2
   have FV:=sr.nd
   have ST:=aK.new (o:=.tup [.int (j:Nat),.ref t]) hT
   refine⟨T,_,rfl,cN.of aC,rfl,_,_,rfl,_,_,rfl,rfl,?_⟩
   have vc:=fw.same ST
   generalize upd H2 T (.tup [.int (j:Nat),.ref t])=H3 at vc
   have SI:eC CP H3 bs prs:=Paired.mapP d3 λ_ _ z=>⟨z.1.same vc.sm,z.2⟩
   refine⟨_,rfl,_,rfl,pa,t,bs,prs,x,rfl,cP.of (vc.sm _ _ c8),SI,hok,vc.sm _ _ ht,rg,FL,λH4 d S4 iw oj=>?_⟩
   have l8:=vc.same S4
   have qd:d≠s0:=λz=>by rw[z,vc.hs] at iw;cases iw
   have oa:d≠o0:=λz=>by rw[z,vc.ho] at iw;cases iw
   have KN:(cT prs x).length<20000:=by
    obtain⟨pr,j7⟩:∃pr,prs[dM x 0]?=some pr:=⟨_,ba rg.2⟩
    obtain⟨b,eb,KF,lv⟩:=cH d3 j7
    have tok:tU (xA pr):=⟨(Uv (hok pr (dg j7))).nd,lv.len⟩
    have FM:tY prs x=gJ (xA pr) (dM x 5):=by
     unfold tY
     rw[j7]
     rfl
    unfold cT Do
    rw[ah,FM]
    exact(tok.turns _).ln
   have KO:=Dd hok rg
   generalize cT prs x=cl at er oj FV KN FU
   have SJ:eC CP H4 bs prs:=Paired.mapP d3 λ_ _ z=>⟨z.1.same l8.sm,z.2⟩
   obtain⟨wr,zq,U4⟩:=l8.hm
   have qe:m≠d:=λz=>by rw[z,oj] at zq;cases zq
   refine Ye ?_
   dsimp only
   refine Vd (λy H5=>∃(l:Addr)(ws:List Int),y=.ref l/\aK H4 H5/\H4 l=none/\H5 l=some (.lst (ws.map V.int))/\(0<ws.length->cQ prs 0 [] [] ls=ws)/\(ws=[]->cQ prs 0 [] [] ls=cQ prs (j+1) (sg++cl) (ow++cl.map λc=>(c.1,(j:Int))) (ls.drop (j+1))/\¬0<(gB ow cl).length)) (λQ2 va=>?_) ?_
   ·have zi:aBb H4 t (Xw x):=⟨by rw[<-aAw];exact l8.sm _ _ ht,by unfold Xw;rw[ah];exact zn⟩
    have xf:iN (Xw x) 0=(dM x 0:Int):=by
     obtain⟨a0,a1,a2,a3,a4,a5,rfl⟩:=six zn
     rfl
    have zl:iN (Xw x) 5=(dM x 5:Int):=by
     obtain⟨a0,a1,a2,a3,a4,a5,rfl⟩:=six zn
     rfl
    refine⟨_,rfl,_,rfl,pa,t,bs,prs,Xw x,rfl,cP.of (l8.sm _ _ c8),SJ,zi,by rw[xf];omega,by rw[xf,jm];exact rg.2,by rw[zl];omega,λH5 S5=>⟨_,rfl,bY (λhl=>?_) (λhl=>?_)⟩⟩
    ·rw[KO] at hl
     rw[ac hl] at er
     refine⟨_,rfl,_,rfl,by show 3<=sizeLine;decide,λl hl=>va _ _ ⟨l,[1,(j:Int),(j:Int)],rfl,S5.trans (aK.new hl),S5.free hl,aC,λ_=>er,λz=>(by cases z)⟩⟩
    ·rw[KO] at hl
     rw[aa hl] at er
     refine⟨_,rfl,_,rfl,_,rfl,d,m,dm,wr,s0,o0,cl,sg,ow,(j:Int),rfl,S5 _ _ zq,S5 _ _ oj,S5 _ _ l8.hs,S5 _ _ l8.ho,qd,oa,fw.sub,KN,λH6 l S6 om pw=>va _ _ ⟨l,wM cl sg ow (j:Int),rfl,S5.trans S6,S5.free om,pw,λhw=>?_,λhw=>?_⟩⟩
     ·unfold wM at hw ⊢
      by_cases hh:0<(gB ow cl).length
      ·rw[ac hh] at er ⊢
       exact er
      ·rw[aa hh] at er hw ⊢
       by_cases hb:0<(cO cl sg ow).length
       ·rw[ac hb] at er ⊢
        exact er
       ·rw[aa hb] at hw
        cases hw
     ·unfold wM at hw
      by_cases hh:0<(gB ow cl).length
      ·rw[ac hh] at hw
       cases hw
      ·rw[aa hh] at er hw
       by_cases hb:0<(cO cl sg ow).length
       ·rw[ac hb] at hw
        cases hw
       ·rw[aa hb] at er
        exact⟨er,hh⟩
   ·rintro y H5 ⟨l,ws,rfl,S5,om,n8,SK,SL⟩
    have nlm:l≠m:=λz=>by rw[z,zq] at om;cases om
    refine⟨_,rfl,m,CM,dm,_,rfl,S5 _ _ zq,TM.cl,TM.n3,(by show 3<1000;decide),?_⟩
    have BX:upd H5 m (.ins CM dm (Cp s0 o0 l)) m=some (.ins CM dm (Cp s0 o0 l)):=aC
    have pw:upd H5 m (.ins CM dm (Cp s0 o0 l)) l=some (.lst (ws.map V.int)):=by rw[aB nlm];exact n8
    have S6:∀y o,H4 y=some o->y≠m->upd H5 m (.ins CM dm (Cp s0 o0 l)) y=some o:=λy o e n=>by rw[aB n];exact S5 _ _ e
    have FX:aK H (upd H5 m (.ins CM dm (Cp s0 o0 l))):=λy o e=>S6 y o (l8.sm _ _ e) (aD e zp)
    have U5:s0≠m:=nsm
    have uz:=S6 _ _ l8.hs nsm
    have FY:=S6 _ _ l8.ho BV
    have xg:=S6 _ _ oj (ao qe)
    show Cu _ _ _ _ (upd H5 m (.ins CM dm (Cp s0 o0 l)))
    generalize upd H5 m (.ins CM dm (Cp s0 o0 l))=H6 at BX pw FX uz FY xg
    refine⟨_,rfl,m,CM,dm,_,_,rfl,BX,TM.cl,TM.n3,rfl,l,_,rfl,.inl (cP.of pw),_,_,rfl,rfl,_,rfl,bY (λhh=>?_) (λhh=>?_)⟩
    ·have hh:(0:Int)<((ws.map V.int).length:Int):=dq hh
     rw[ah] at hh
     have e1:=SK (by omega)
     refine⟨_,rfl,k _ m FX zp ⟨dm,s0,o0,l,sg,ow,BX,by rw[e1];exact pw,uz,FY,so,λz=>?_,by have:=fw.l1;omega,by have:=fw.l2;omega⟩⟩
     rw[e1] at z
     rw[z] at hh
     cases hh
    ·have hh:¬(0:Int)<((ws.map V.int).length:Int):=λz=>hh (cn z)
     rw[ah] at hh
     have KP:ws=[]:=ua (by omega)
     obtain⟨E1,m9⟩:=SL KP
     subst KP
     have KQ:=Rk m9
     have frS:∀c∈cl,aV sg c.1=none:=λc hc=>by
      cases z:aV sg c.1 with
      |none=>rfl
      |some y=>
       have:=fw.sub c.1 (by rw[z];rfl)
       rw[KQ c hc] at this
       cases this
     refine⟨d,_,xg,trivial,λvd=>?_⟩
     have FZ:upd H6 d (.frz vd (.dT (aI cl))) d=some (.frz vd (.dT (aI cl))):=aC
     have SM:upd H6 d (.frz vd (.dT (aI cl))) s0=some (.dT (aI sg)):=by rw[aB (ao qd)];exact uz
     have SN:upd H6 d (.frz vd (.dT (aI cl))) o0=some (.dT (aI ow)):=by rw[aB (ao oa)];exact FY
     have KR:upd H6 d (.frz vd (.dT (aI cl))) m=some (.ins CM dm (Cp s0 o0 l)):=by rw[aB qe];exact BX
     refine⟨_,rfl,d,vd,_,rfl,FZ,?_⟩
     refine gK (λi σ H'=>∃v6 v7,σ=[some (.ref pa),some (.ref la),some (.ref m),some (.int (j:Nat)),some (.ref t),some (.ref d),v6,v7]/\(∀y ob,upd H6 d (.frz vd (.dT (aI cl))) y=some ob->y≠s0->y≠o0->H' y=some ob)/\H' s0=some (.dT (aI (sg++(cl.take i).map id)))/\H' o0=some (.dT (aI (ow++Fs j (cl.take i)))))
      ⟨_,_,rfl,λy ob ey _ _=>ey,by simpa using SM,by simpa[Fs] using SN⟩ ?_ ?_ ?_
     ·rintro i σ H8 hi ⟨v6,v7,rfl,S8,_⟩
      exact S8 _ _ FZ qd oa
     ·rintro i σ H8 T8 kk vv q e8 ⟨v6,v7,rfl,S8,zr,BY⟩ SO hq
      obtain⟨p,sv,e9,rfl,rfl⟩:=gO e8
      have hi:i<cl.length:=(bh.mp e9).1
      have xh:=aK.new (o:=.tup [.ref q,.int sv]) SO
      refine⟨T8,_,rfl,cN.of aC,rfl,_,_,rfl,_,_,rfl,rfl,?_⟩
      have zt:=xh _ _ hq
      have F0:=xh _ _ zr
      have KS:=xh _ _ BY
      have F2:=xh _ _ (S8 _ _ KR (ao nsm) (ao BV))
      generalize upd H8 T8 (.tup [.ref q,.int sv])=H9 at xh zt F0 KS F2
      have SR:q≠s0:=λz=>by rw[z,F0] at zt;cases zt
      have KD:j<=256:=by omega
      have nj:=fw.l1
      have SS:=fw.l2
      refine⟨_,rfl,_,rfl,m,CM,dm,_,_,rfl,F2,TM.cl,TM.n1,rfl,_,rfl,s0,_,rfl,wS.t (k:=eI p.1 p.2.1 p.2.2) F0 zt (by rw[eX,b6,ah,ij];omega),?_⟩
      have ps:=Jc (dct:=sg) id (λ_=>rfl) FV frS e9 (v:=sv) rfl
      rw[ps]
      have SV:upd H9 s0 (.dT (aI (sg++(cl.take (i+1)).map id))) o0=some (.dT (aI (ow++Fs j (cl.take i)))):=by rw[aB (ao so)];exact KS
      have SW:upd H9 s0 (.dT (aI (sg++(cl.take (i+1)).map id))) q=some (.tup ((eI p.1 p.2.1 p.2.2).map kV)):=by rw[aB SR];exact zt
      have SY:upd H9 s0 (.dT (aI (sg++(cl.take (i+1)).map id))) m=some (.ins CM dm (Cp s0 o0 l)):=by rw[aB (ao nsm)];exact F2
      refine⟨_,rfl,_,rfl,m,CM,dm,_,_,rfl,SY,TM.cl,TM.n2,rfl,_,rfl,o0,_,rfl,wS.t (k:=eI p.1 p.2.1 p.2.2) SV SW (by unfold Fs;rw[eX,b6,ah,ij];omega),?_⟩
      have po:=Jc (dct:=ow) (λc=>(c.1,(j:Int))) (λ_=>rfl) FV KQ e9 (v:=(j:Int)) rfl
      have po:jQ (aI (ow++Fs j (cl.take i))) (eI p.1 p.2.1 p.2.2) (V.int (j:Int))=aI (ow++Fs j (cl.take (i+1))):=po
      refine⟨_,_,rfl,λy ob ey n1 n2=>?_,?_,?_⟩
      ·rw[aB n2,aB n1]
       exact xh _ _ (S8 _ _ ey n1 n2)
      ·rw[aB so,aC]
      ·rw[aC]
       exact congrArg (λz=>some (HO.dT z)) po
     ·rintro σ H8 ⟨v6,v7,rfl,S8,zr,BY⟩
      rw[eX,ik] at zr BY
      rw[List.map_id] at zr
      refine⟨S8 _ _ FZ qd oa,?_⟩
      have e9:((j+1) * 20000)=j * 20000+20000:=by omega
      have nj:=fw.l1
      have SS:=fw.l2
      have SZ:l≠s0:=λz=>by rw[z,l8.hs] at om;cases om
      have S':l≠o0:=λz=>by rw[z,l8.ho] at om;cases om
      have KU:l≠d:=λz=>by rw[z,oj] at om;cases om
      refine⟨sg++cl,ow++Fs j cl,_,_,_,_,_,rfl,λy ob ey=>?_,⟨l,?_,?_⟩,?_,?_,λp hp=>?_,?_,?_,?_,?_,?_⟩
      ·have n1:y≠s0:=aD ey SG
       have n2:y≠o0:=aD ey SH
       have h7:=FX _ _ ey
       by_cases hy:y=d
       ·rw[hy] at h7 ⊢
        rw[aC,<-h7,xg]
       ·rw[aB hy]
        exact S8 _ _ (by rw[aB hy];exact h7) n1 n2
      ·rw[aB qe]
       exact S8 _ _ KR (ao nsm) (ao BV)
      ·rw[aB KU]
       exact S8 _ _ (by rw[aB KU];exact pw) SZ S'
      ·rw[aB (ao qd)]
       exact zr
      ·rw[aB (ao oa)]
       exact BY
      ·rw[dG] at hp ⊢
       obtain⟨c,hc,e⟩:=hp
       rcases c9.mp hc with hc|hc
       ·obtain⟨c2,di,e2⟩:=dG.mp (fw.sub p (dG.mpr ⟨c,hc,e⟩))
        exact⟨c2,i9 _ di,e2⟩
       ·exact⟨(c.1,(j:Int)),fk _ (a6.mpr ⟨c,hc,rfl⟩),e⟩
      ·rw[b6]
       omega
      ·unfold Fs
       rw[b6,ah]
       omega
      ·exact E1
      ·rw[FU,vU,<-fw.eg]
      ·rw[FU,vG,<-fw.eo,Os,etk]
       rfl
  ·rintro σ H2 ⟨sg,ow,v3,v4,v5,v6,v7,rfl,fw⟩
   have er:=fw.er
   rw[ah,gj,List.drop_length] at er
   have er:cQ prs 0 [] [] ls=[]:=er
   have eg:=fw.eg
   have eo:=fw.eo
   rw[ah,gj,ik] at eg eo
   have l1:=fw.l1
   have l2:=fw.l2
   rw[ah,gj] at l1 l2
   obtain⟨wr,e1,e2⟩:=fw.hm
   exact⟨_,rfl,k _ m fw.sm zp ⟨dm,s0,o0,wr,sg,ow,e1,by rw[er];exact e2,fw.hs,fw.ho,so,λ_=>⟨eg,eo⟩,by omega,by omega⟩⟩
end
theorem Ja{l:List Int}:∀{ms:List Nat}{p:Nat}{r:List Nat×Nat},cU l ms p=.ok r->∀(i v m:Nat),r.1[i]?=some v->ms[i]?=some m->v<=m
 |[],p,r,h=>by
  intro i v m h1 h2
  simp at h2
 |m0::ms,p,r,h=>by
  rw[cU] at h
  obtain⟨p1,_,h⟩:=aL h
  obtain⟨u,eu,h⟩:=aL h
  obtain⟨q,eq,rfl⟩:=fP h
  intro i v m h1 h2
  cases i with
  |zero=>
   cases h1
   cases h2
   exact(lB (lo:=0) eu).2
  |succ i=>exact Ja eq i v m h1 h2
theorem Mu{ag:List (List Int)}{l:List Int}{p:Nat}{q:List Nat×Nat}(h:eQ ag l p=.ok q):dM q.1 5<=3:=by
 unfold eQ at h
 obtain⟨p1,_,h⟩:=aL h
 obtain⟨n,en,h⟩:=aL h
 obtain⟨r,er,h⟩:=aL h
 obtain⟨_,_,h⟩:=aL h
 cases h
 have hl:=xL (r:=r) er
 have hl:r.1.length=5:=hl
 have e:r.1[4]?=some r.1[4]:=ba (by omega)
 have:=Ja er 4 r.1[4] 3 e rfl
 show (n.1::r.1).getD 5 0<=3
 rw[cy]
 show (r.1[4]?).getD 0<=3
 rw[e]
 exact this
theorem vW{ag:List (List Int)}{l:List Int}:∀{n p:Nat} {q:List (List Nat)×Nat},cF ag l n p=.ok q->∀x∈q.1,dM x 5<=3
 |0,p,q,h=>by cases h;intro x hx;cases hx
 |n+1,p,q,h=>by
  rw[cF] at h
  split at h
  ·cases h;intro x hx;cases hx
  ·obtain⟨q1,e1,h⟩:=aL h
   obtain⟨q2,e2,rfl⟩:=fP h
   intro x hx
   rcases aw.mp hx with rfl|hx
   ·exact Mu e1
   ·exact vW e2 x hx
theorem Kp{lc lb:List Int}{prs:List aM}{nm:List Int}{ls:List (List Nat)}(h:dB lc lb=.ok prs nm ls):hX lc=.ok prs/\dH (prs.map (·.name)) lb=.ok (nm,ls):=by
 unfold dB at h
 split at h
 ·cases h
 ·split at h
  ·cases h
  ·rename_i e1
   split at h
   ·split at h
    ·cases h
    ·rename_i e
     cases h
     exact⟨e1,e⟩
   ·cases h
theorem Ex{lc lb:List Int}{prs:List aM}{nm:List Int}{ls:List (List Nat)}(h:dB lc lb=.ok prs nm ls):∀x∈ls,dM x 5<=3:=by
 have h:=(Kp h).2
 unfold dH at h
 obtain⟨_,_,h⟩:=aL h
 obtain⟨_,_,h⟩:=aL h
 obtain⟨_,_,h⟩:=aL h
 obtain⟨r,er,h⟩:=aL h
 split at h
 ·cases h;exact vW er
 ·cases h
def Xz(CG CP CB CM:Addr)(H:Hp)(g:Addr):Vn->Prop
 |.no n=>∃dx pa,H g=some (.ins CG dx (Ev n 0 pa .non .non))
 |.bad i=>∃dx pa,H g=some (.ins CG dx (Ev (-5) i pa .non .non))
 |.ok prs nm ls=>∃dx pa q m bs,H g=some (.ins CG dx (Ev (if cQ prs 0 [] [] ls=[] then 0 else -9) 0 pa (.ref q) (.ref m)))/\H pa=some (.lst (bs.map V.ref))/\eC CP H bs prs/\xU CB H q nm ls/\Hl CM H m prs ls/\prs.length<=64
section
variable {P:Program} {w:World} {K:PySem.W.Frag} {mg:Str->Option Value} {base:Heap} {C CR CP CB CG CM:Addr}
def wO(K:PySem.W.Frag)(CG CP CB CM:Addr):Sp:=λvs H Q _=>∃(c b:Addr)(lc lb:List Int),vs=[.ref c,.ref b]/\cP K H c (lc.map V.int)/\cP K H b (lb.map V.int)/\∀(H':Hp)(g:Addr),aK H H'->H g=none->Xz CG CP CB CM H' g (dB lc lb)->Q (.ref g) H'
theorem qJ:aQ ["c","b","given"] ["c","b"] (aH lR):=⟨rfl,rfl,rfl,by decide+kernel,rfl,by decide+kernel,by decide+kernel⟩
theorem Bv{f:Addr}{fd:FuncData}(F:fH K "read_right" "read_right" lR f fd)(TG:GvT K CG)(TB:BdT K CB)(TM:Vq K CM)(ax:mg "len"=none)(L1:dL P w K mg base "read_given" bU 9 ["c","b"] (Bb K CG CP CB))(L2:dL P w K mg base "fill_room" bU 6 ["parts","lines"] (Gv K CP CM)):bT P w K mg base bU 10 f fd ["c","b"] (wO K CG CP CB CM):=by
 obtain⟨g1,gh,G1,b1,k1,h1⟩:=L1.ex
 obtain⟨g2,ku,G2,b2,k2,h2⟩:=L2.ex
 refine F.ok qJ (λvs H Q E h=>?_) (λai A outer s H vs Q E hr h=>?_)
 ·obtain⟨c,b,lc,lb,rfl,_⟩:=h
  rfl
 ·obtain⟨c,b,lc,lb,rfl,hc,hb,k⟩:=h
  have TC:=hr.mono (j:=6) (by decide)
  refine⟨_,aE (aZ (i:=2) qJ.nd rfl (Or.inl rfl) (aT G1 hr (by rfl) h1 k1 b1 .nil aY (aA (pv 0) (aA (pv 1) aF))))
   (aE (dZ (iB pU (aO (pv 2) rfl) aJ (hU _))
    (aE (dS (pv 2) (aT G2 TC (by rfl) h2 k2 b2 .nil aY (aA (aO (pv 2) rfl) (aA (aO (aO (pv 2) rfl) rfl) aF))) rfl)
    (aG (dZ (dE (qM (bK bI (by rfl) ax PySem.boot_len (aA (aO (aO (pv 2) rfl) rfl) aF)) aJ)) (aG (dS (pv 2) (Eu vS aJ) rfl)) bX))) bX)
   (aG (aW (pv 2)))),?_⟩
  refine⟨_,rfl,_,rfl,c,b,lc,lb,rfl,hc,hb,λH1 g S1 zu hg=>?_⟩
  cases eg:dB lc lb with
  |no n=>
   rw[eg] at k hg
   obtain⟨dx,pa,hg⟩:=hg
   have hn:=Sn eg
   refine⟨_,rfl,g,CG,dx,_,_,rfl,hg,TG.cl,TG.n1,rfl,rfl,_,rfl,bY (λe=>?_) (λe=>?_)⟩
   ·rw[gZ] at e
    have:=dq e
    omega
   ·exact⟨_,rfl,k _ g S1 zu ⟨dx,pa,hg⟩⟩
  |bad i=>
   rw[eg] at k hg
   obtain⟨dx,pa,hg⟩:=hg
   refine⟨_,rfl,g,CG,dx,_,_,rfl,hg,TG.cl,TG.n1,rfl,rfl,_,rfl,bY (λe=>?_) (λe=>?_)⟩
   ·rw[gZ] at e
    exact absurd (dq e) (by decide)
   ·exact⟨_,rfl,k _ g S1 zu ⟨dx,pa,hg⟩⟩
  |ok prs nm ls=>
   rw[eg] at k hg
   obtain⟨dx,pa,q,bs,hg,c8,d3,zg,jk,px⟩:=hg
   obtain⟨ve,na,la,ts,hq,lx,jw,sk,jf,TD⟩:=id zg
   have six:=uG eg
   have trn:=Ex eg
   refine⟨_,rfl,g,CG,dx,_,_,rfl,hg,TG.cl,TG.n1,rfl,rfl,_,rfl,bY (λe=>?_) (λe=>absurd (by decide) e)⟩
   refine⟨_,rfl,g,CG,dx,_,_,rfl,hg,TG.cl,TG.n3,rfl,_,rfl,g,CG,dx,_,_,rfl,hg,TG.cl,TG.n4,rfl,q,CB,ve,_,_,rfl,hq,TB.cl,TB.n2,rfl,pa,la,bs,ts,prs,ls,rfl,c8,d3,jw,sk,Qq (Kp eg).1,λx hx=>⟨six x hx,trn x hx⟩,jf,λH2 m S2 oh F3=>?_⟩
   have w8:=S1.trans S2
   obtain⟨dm,s0,o0,wr,sg,ow,r1,r2,r3,r4,r5⟩:=id F3
   have KW:m≠g:=λz=>by rw[z,hg] at oh;cases oh
   have uv:=S2 _ _ hg
   refine⟨_,rfl,g,CG,dx,_,rfl,uv,TG.cl,TG.n5,(by show 5<1000;decide),?_⟩
   have keep:∀(rf:Int)(bv:V),(∀y o,H y=some o->upd H2 g (.ins CG dx (Ev rf 0 pa (.ref q) bv)) y=some o):=λrf bv y o e=>by
    rw[aB (aD e zu)]
    exact w8 _ _ e
   have my:∀(rf:Int){y:Addr}{o:HO},y≠g->H2 y=some o->upd H2 g (.ins CG dx (Ev rf 0 pa (.ref q) (.ref m))) y=some o:=λrf y o n e=>by rw[aB n];exact e
   have fin:∀(rf:Int)(H3:Hp),rf=(if cQ prs 0 [] [] ls=[] then 0 else -9)->H3=upd H2 g (.ins CG dx (Ev rf 0 pa (.ref q) (.ref m)))->Q (.ref g) H3:=λrf H3 er e3=>by
    subst e3
    have n1:∀{y:Addr}{o:HO},H2 y=some o->(∀C dx fs,o≠.ins C dx fs)->upd H2 g (.ins CG dx (Ev rf 0 pa (.ref q) (.ref m))) y=some o:=λ{y o} e nn=>my rf (λz=>by
     rw[z,uv] at e
     cases e
     exact nn _ _ _ rfl) e
    have nq:q≠g:=λz=>by
     rw[z,hg] at hq
     injection hq with hq
     injection hq with _ _ hq
     cases hq
    have FH:eC CP (upd H2 g (.ins CG dx (Ev rf 0 pa (.ref q) (.ref m)))) bs prs:=by
     refine Paired.mapP d3 λb' pr z=>⟨?_,z.2⟩
     obtain⟨F5,KY,cc,f1,f2,f3⟩:=z.1
     have nb:b'≠g:=λz=>by
      rw[z,hg] at f1
      injection f1 with f1
      injection f1 with _ _ f1
      cases f1
     exact⟨F5,KY,cc,my rf nb (S2 _ _ f1),n1 (S2 _ _ f2) (by intro _ _ _ z;cases z),n1 (S2 _ _ f3) (by intro _ _ _ z;cases z)⟩
    refine k _ g (keep rf _) zu ⟨dx,pa,q,m,bs,by rw[aC,er],n1 (S2 _ _ c8) (by intro _ _ _ z;cases z),FH,⟨ve,na,la,ts,my rf nq (S2 _ _ hq),n1 (S2 _ _ lx) (by intro _ _ _ z;cases z),n1 (S2 _ _ jw) (by intro _ _ _ z;cases z),sk.keep λy xs e=>n1 (S2 _ _ e) (by intro _ _ _ z;cases z),jf,TD⟩,
     ⟨dm,s0,o0,wr,sg,ow,my rf KW r1,n1 r2 (by intro _ _ _ z;cases z),n1 r3 (by intro _ _ _ z;cases z),n1 r4 (by intro _ _ _ z;cases z),r5⟩,px⟩
   have KZ:upd H2 g (.ins CG dx (Ev 0 0 pa (.ref q) (.ref m))) g=some (.ins CG dx (Ev 0 0 pa (.ref q) (.ref m))):=aC
   have xi:=my 0 KW r1
   have TF:wr≠g:=λz=>by rw[z,uv] at r2;cases r2
   have TH:=my 0 TF r2
   refine⟨_,rfl,g,CG,dx,_,_,rfl,KZ,TG.cl,TG.n5,rfl,m,CM,dm,_,_,rfl,xi,TM.cl,TM.n3,rfl,wr,_,rfl,.inl (cP.of TH),_,_,rfl,rfl,_,rfl,bY (λhh=>?_) (λhh=>?_)⟩
   ·have hh:(0:Int)<(((cQ prs 0 [] [] ls).map V.int).length:Int):=dq hh
    rw[ah] at hh
    refine⟨_,rfl,_,rfl,g,CG,dx,_,rfl,KZ,TG.cl,TG.n1,(by show 5<1000;decide),_,rfl,fin (-9) _ ?_ ?_⟩
    ·rw[aa]
     intro z
     rw[z] at hh
     cases hh
    ·funext y
     by_cases hy:y=g
     ·rw[hy,aC,aC]
      rfl
     ·rw[aB hy,aB hy,aB hy]
   ·have hh:¬(0:Int)<(((cQ prs 0 [] [] ls).map V.int).length:Int):=λz=>hh (cn z)
    rw[ah] at hh
    have e0:cQ prs 0 [] [] ls=[]:=ua (by omega)
    exact⟨_,rfl,fin 0 _ (by rw[ac e0]) rfl⟩
end
structure aCb(P:Program)(w:World)(K:PySem.W.Frag)(mg:Str->Option Value)(base:Heap)(CG CP CB CM:Addr):Prop where
 TM:Vq K CM
 nY:dL P w K mg base "turned_sizes" bU 1 ["part","turns"] (rH CP)
 bey:dL P w K mg base "beyond_room" bU 1 ["x","y","z"] rB
 lea:dL P w K mg base "leaves_room" bU 2 ["parts","put"] (qN K CP)
 right:dL P w K mg base "read_right" bU 10 ["c","b"] (wO K CG CP CB CM)
section
variable {P:Program} {w:World} {K:PySem.W.Frag} {h:Heap} {mg:Str->Option Value} {base:Heap}
theorem aBn(X:K.In h)(G:h.Ns mainGlobals mg)(L:Yc P w K mg base (dO K "Part") (dO K "Build") (dO K "Given"))(hK:∀f∈ftR,f.P K):aCb P w K mg base (dO K "Given") (dO K "Part") (dO K "Build") (dO K "Room"):=by
 have g:∀(i:Nat)(f:Ft),ftR[i]?=some f->f.P K:=λi f e=>Ft.nth hK i e
 have ci:∀{x:Str}{n:Int},Sh K x n->CI mg x n:=λhk=>hk.ci X G
 have nn:∀{x:Str},PySem.W.nsIn K mainGlobals x=some none->mg x=none:=λe=>PySem.W.mg_none_of X G e
 have TM:Vq K (dO K "Room"):=⟨Gj.cl (g 0 (.cl "Room") rfl),(g 1 (.at "Room" "signs") rfl),(g 2 (.at "Room" "owners") rfl),(g 3 (.at "Room" "wrong") rfl)⟩
 have RM:RmM P w K mg base (dO K "Room"):=⟨zL.mk (g 4 (.mt "Room" "__init__" "Room.__init__" As) rfl) (g 0 (.cl "Room") rfl) (λf fd F=>Zi F TM) λ_ _ _ _ _ _ us hl=>(by obtain⟨a,rfl⟩:=_root_.L2.uA hl;rfl),PySem.W.mg_of X G (Gj.ns (g 0 (.cl "Room") rfl))⟩
 have M1:dL P w K mg base "turned_once" bU 3 ["part"] (Ii (dO K "Part")):=jO.fn0 (g 5 (.fn "turned_once" Ld) rfl) X G (λf fd F=>Uy F L.TP L.PM) λ_ _ _ _ _ _ us hl=>(by obtain⟨a,rfl⟩:=_root_.L2.uA hl;rfl)
 have M2:dL P w K mg base "turned_part" bU 4 ["part","turns"] (xP (dO K "Part")):=jO.fn0 (g 6 (.fn "turned_part" uT) rfl) X G (λf fd F=>Ny F (nn (g 7 (.no "range") rfl)) M1) λ_ _ _ _ _ _ us hl=>(by obtain⟨a,b,rfl⟩:=_root_.L2.yG hl;rfl)
 have M3:dL P w K mg base "turned_sizes" bU 1 ["part","turns"] (rH (dO K "Part")):=jO.fn0 (g 8 (.fn "turned_sizes" uS) rfl) X G (λf fd F=>Nc F L.TP) λ_ _ _ _ _ _ us hl=>(by obtain⟨a,b,rfl⟩:=_root_.L2.yG hl;rfl)
 have M4:dL P w K mg base "beyond_room" bU 1 ["x","y","z"] rB:=jO.fn0 (g 9 (.fn "beyond_room" uI) rfl) X G (λf fd F=>Mr F (ci (g 10 (.int "ROOM_WIDTH" 64) rfl)) (ci (g 11 (.int "ROOM_DEPTH" 64) rfl)) (ci (g 12 (.int "ROOM_HEIGHT" 96) rfl))) λ_ _ _ _ _ _ us hl=>(by obtain⟨a,b,c,rfl⟩:=_root_.L2.us3 hl;rfl)
 have M5:dL P w K mg base "leaves_room" bU 2 ["parts","put"] (qN K (dO K "Part")):=jO.fn0 (g 13 (.fn "leaves_room" uU) rfl) X G (λf fd F=>Lw F M3 M4) λ_ _ _ _ _ _ us hl=>(by obtain⟨a,b,rfl⟩:=_root_.L2.yG hl;rfl)
 have M6:dL P w K mg base "cells_in_room" bU 5 ["parts","put"] (Gs K (dO K "Part")):=jO.fn0 (g 14 (.fn "cells_in_room" Kc) rfl) X G (λf fd F=>Vb F L.TP M2) λ_ _ _ _ _ _ us hl=>(by obtain⟨a,b,rfl⟩:=_root_.L2.yG hl;rfl)
 have M7:dL P w K mg base "blocked_lines" bU 2 ["cells","room"] (sO (dO K "Room")):=jO.fn0 (g 15 (.fn "blocked_lines" rE) rfl) X G (λf fd F=>Gq F TM L.up L.dn L.stud L.tube) λ_ _ _ _ _ _ us hl=>(by obtain⟨a,b,rfl⟩:=_root_.L2.yG hl;rfl)
 have M8:dL P w K mg base "wrong_with" bU 3 ["room","cells","j"] (wB (dO K "Room")):=jO.fn0 (g 16 (.fn "wrong_with" pR) rfl) X G (λf fd F=>Oa F TM (nn (g 17 (.no "len") rfl)) (nn (g 18 (.no "min") rfl)) M7) λ_ _ _ _ _ _ us hl=>(by obtain⟨a,b,c,rfl⟩:=_root_.L2.us3 hl;rfl)
 have M9:dL P w K mg base "fill_room" bU 6 ["parts","lines"] (Gv K (dO K "Part") (dO K "Room")):=jO.fn0 (g 19 (.fn "fill_room" Kn) rfl) X G (λf fd F=>Uh F TM RM (nn (g 17 (.no "len") rfl)) (nn (g 20 (.no "enumerate") rfl)) M6 M5 M8) λ_ _ _ _ _ _ us hl=>(by obtain⟨a,b,rfl⟩:=_root_.L2.yG hl;rfl)
 exact⟨TM,M3,M4,M5,jO.fn0 (g 21 (.fn "read_right" lR) rfl) X G (λf fd F=>Bv F L.TG L.TB TM (nn (g 17 (.no "len") rfl)) L.given M9) λ_ _ _ _ _ _ us hl=>(by obtain⟨a,b,rfl⟩:=_root_.L2.yG hl;rfl)⟩
end
def sD(r:List aM->List Int->List (List Nat)->List Int)(lc lb:List Int):List Int:=match dB lc lb with
 |.no n=>[n]
 |.bad _=>[-5]
 |.ok prs nm ls=>if cQ prs 0 [] [] ls=[] then r prs nm ls else [-9]
structure aEi(lc lb:List Int)(prs:List aM)(nm:List Int)(ls:List (List Nat))(d:Br.Build):Prop where
 eg:dB lc lb=.ok prs nm ls
 ok:∀pr∈prs,eJ pr
 ln:∀x∈ls,Fg prs.length x
 tr:∀x∈ls,dM x 5<=3
 dl:d.lines=ls.map iZ
 dn:aX d.name=nm
 cw:¬(Br.wrong (prs.map cG)).isSome=true
 fr:cQ prs 0 [] [] ls=[]
 rm:iE (dI prs ls)
theorem Ij{lc lb:List Int}(hc:Oo lc)(hb:Oo lb){f:Br.Catalogue->Br.Build->BrB.Answer}{r:List aM->List Int->List (List Nat)->List Int}(hr:∀prs nm ls d,aEi lc lb prs nm ls d->BuildsNeutral.shown (f (prs.map cG) d)=r prs nm ls):
  BuildsNeutral.shown (BrB.ofRight (Hz lc) (Hz lb) f)=sD r lc lb:=by
 have h:=Ep hc hb
 have h6:= @uG lc lb
 have h7:= @Ex lc lb
 have he:∀{prs nm ls},dB lc lb=.ok prs nm ls->dB lc lb=.ok prs nm ls:=λe=>e
 unfold sD BrB.ofRight BrB.ofBuild BrB.ofCatalogue
 generalize hg:dB lc lb=g at h h6 h7
 cases g with
 |no n=>
  rcases h with ⟨rfl,h⟩|⟨rfl,h,e,h2⟩|⟨rfl,h,k,h2,h3⟩
  ·simp only[ac h];rfl
  ·simp only[aa h,h2];rfl
  ·simp only[aa h,h2,ac h3];rfl
 |bad i=>
  obtain⟨h,k,h2,h3,h4⟩:=h
  simp only[aa h,h2,aa h3,h4];rfl
 |ok prs nm ls=>
  obtain⟨h,ok,h2,h3,d,h4,h5,hn⟩:=h
  simp only[aa h,h2,aa h3,h4]
  have fm:=sU ok (λx hx=>(h6 rfl x hx).2) h5
  by_cases e0:cQ prs 0 [] [] ls=[]
  ·rw[ac e0]
   rw[e0] at fm
   have hw:¬(d.wrong (prs.map cG)).isSome=true:=by
    cases e:d.wrong (prs.map cG) with
    |none=>decide
    |some w=>rw[e] at fm;cases fm
   rw[aa hw]
   exact hr prs nm ls d ⟨hg,ok,λx hx=>h6 rfl x hx,λx hx=>h7 rfl x hx,h5,hn,h3,e0,wA ok (λx hx=>(h6 rfl x hx).2) e0⟩
  ·rw[aa e0]
   have hw:(d.wrong (prs.map cG)).isSome=true:=by
    cases e:d.wrong (prs.map cG) with
    |none=>rw[e] at fm;exact absurd fm e0
    |some w=>rfl
   rw[ac hw]
   rfl
theorem Ws{CG CP CB CM:Addr}{H:Hp}{g:Addr}{lc lb:List Int}(h:Xz CG CP CB CM H g (dB lc lb)):∃(dx pa:Addr)(bv rv:V)(rf ft:Int),H g=some (.ins CG dx (Ev rf ft pa bv rv))/\
  ((rf<0/\∀r,sD r lc lb=[rf])\/(rf=0/\∃(prs:List aM)(nm:List Int) (ls:List (List Nat)) (q m:Addr) (bs:List Addr),dB lc lb=.ok prs nm ls/\(∀r,sD r lc lb=r prs nm ls)/\cQ prs 0 [] [] ls=[]/\bv=.ref q/\rv=.ref m/\H pa=some (.lst (bs.map V.ref))/\eC CP H bs prs/\xU CB H q nm ls/\Hl CM H m prs ls/\prs.length<=64)):=by
 have hn:= @Sn lc lb
 unfold sD
 cases eg:dB lc lb with
 |no n=>
  rw[eg] at h
  obtain⟨dx,pa,h⟩:=h
  have hn:=hn eg
  exact⟨dx,pa,.non,.non,n,0,h,.inl ⟨by omega,λ_=>rfl⟩⟩
 |bad i=>
  rw[eg] at h
  obtain⟨dx,pa,h⟩:=h
  exact⟨dx,pa,.non,.non, -5,i,h,.inl ⟨by decide,λ_=>rfl⟩⟩
 |ok prs nm ls=>
  rw[eg] at h
  obtain⟨dx,pa,q,m,bs,h1,h2,h3,h4,h5,h6⟩:=h
  refine⟨dx,pa,.ref q,.ref m,_,0,h1,?_⟩
  by_cases e:cQ prs 0 [] [] ls=[]
  ·rw[ac e]
   exact .inr ⟨rfl,prs,nm,ls,q,m,bs,rfl,λr=>(by show (if _=_ then _ else _)=_;rw[ac e]),e,rfl,rfl,h2,h3,h4,h5,h6⟩
  ·rw[aa e]
   exact .inl ⟨by decide,λr=>(by show (if _=_ then _ else _)=_;rw[aa e])⟩
end Br1
namespace Br1
abbrev P2:=Int×Int
abbrev CT:=List (P2×Int)
def oO(ct:CT)(p:P2):Option Int:=(ct.find? λc=>decide (c.1=p)).map (·.2)
def sJ:CT->P2->Int->CT
 |[],p,v=>[(p,v)]
 |c::r,p,v=>if c.1=p then (p,v)::r else c::sJ r p v
def Ww(ct:CT)(p:P2):CT:=sJ ct p ((oO ct p).getD 0+1)
def oV(ps:List P2):CT:=ps.foldl Ww []
theorem fR(c:P2×Int)(r:CT)(p:P2):oO (c::r) p=if c.1=p then some c.2 else oO r p:=by
 unfold oO
 rw[oy]
 by_cases h:c.1=p
 ·rw[ac h,cn h];rfl
 ·rw[aa h,jx h]
theorem De:∀(ct:CT)(p q:P2)(v:Int),oO (sJ ct p v) q=if p=q then some v else oO ct q
 |[],p,q,v=>by
  show oO [(p,v)] q=_
  rw[fR]
 |c::r,p,q,v=>by
  rw[sJ]
  by_cases h:c.1=p
  ·rw[ac h,fR,fR,h]
   by_cases hq:p=q
   ·rw[ac hq,ac hq]
   ·rw[aa hq,aa hq,aa hq]
  ·rw[aa h,fR,fR,De r p q v]
   by_cases hq:p=q
   ·subst hq
    rw[aa h,ac rfl,ac rfl]
   ·rw[aa hq,aa hq]
theorem Cw:∀(ct:CT)(p:P2)(v:Int),(sJ ct p v).map (·.1)=if p∈ct.map (·.1) then ct.map (·.1) else ct.map (·.1)++[p]
 |[],p,v=>rfl
 |c::r,p,v=>by
  rw[sJ]
  by_cases h:c.1=p
  ·rw[ac h,ac (by rw[bz,h];exact bg),bz,bz,h]
  ·rw[aa h,bz,Cw r p v,bz]
   by_cases hm:p∈r.map (·.1)
   ·rw[ac hm,ac (az _ hm)]
   ·rw[aa hm,aa (λz=>by
     rcases aw.mp z with z|z
     ·exact h z.symm
     ·exact hm z)]
    rfl
theorem Km:∀(ct:CT)(p:P2),((sJ ct p ((oO ct p).getD 0+1)).map (·.2)).sum=(ct.map (·.2)).sum+1
 |[],p=>rfl
 |c::r,p=>by
  rw[sJ]
  by_cases h:c.1=p
  ·rw[ac h,bz,mj,bz,mj,fR,ac h]
   show c.2+1+_=_
   omega
  ·rw[aa h,bz,mj,bz,mj,fR,aa h,Km r p]
   omega
structure Tal(ps:List P2)(ct:CT):Prop where
 get:∀p,oO ct p=if p∈ps then some ((ps.count p:Nat):Int) else none
 nd:(ct.map (·.1)).Nodup
 mem:∀p,p∈ct.map (·.1)↔p∈ps
 sum:(ct.map (·.2)).sum=(ps.length:Int)
 len:ct.length<=ps.length
theorem Tal.next{ps:List P2}{ct:CT}(h:Tal ps ct)(p:P2):Tal (ps++[p]) (Ww ct p):=by
 unfold Ww
 have hk:=Cw ct p ((oO ct p).getD 0+1)
 refine⟨λq=>?_,?_,λq=>?_,?_,?_⟩
 ·rw[De,NK,h.get q]
  by_cases hq:p=q
  ·subst hq
   rw[ac rfl,ac (fk _ bg),h.get p]
   by_cases hm:p∈ps
   ·rw[ac hm]
    simp
   ·rw[aa hm,HZ.mpr hm]
    simp
  ·rw[aa hq]
   have hc:List.count q [p]=0:=HZ.mpr (by rw[b5];exact λz=>hq z.symm)
   have hm:(q∈ps++[p])↔q∈ps:=by
    rw[c9,b5]
    exact⟨λz=>z.elim id λz=>absurd z.symm hq,.inl⟩
   rw[hc,DA]
   by_cases cu:q∈ps
   ·rw[ac cu,ac (hm.mpr cu)]
   ·rw[aa cu,aa (λz=>cu (hm.mp z))]
 ·rw[hk]
  split
  ·exact h.nd
  ·rename_i hm
   rw[AL]
   exact⟨h.nd,by simp,λa ha b hb z=>by rw[b5] at hb;subst hb;subst z;exact hm ha⟩
 ·rw[hk]
  split
  ·rename_i hm
   rw[h.mem,c9,b5]
   exact⟨.inl,λz=>z.elim id λz=>by subst z;exact(h.mem q).mp hm⟩
  ·rw[c9,c9,h.mem]
 ·rw[Km,h.sum,b6]
  rfl
 ·have:=congrArg List.length hk
  rw[ah] at this
  rw[this,b6]
  have hl:=h.len
  split
  ·rw[ah];simp;omega
  ·rw[b6,ah];simp;omega
theorem Fa(ps:List P2)(p:P2):oV (ps++[p])=Ww (oV ps) p:=by
 unfold oV
 rw[MT]
 rfl
theorem Bz(ps:List P2):Tal ps (oV ps):=by
 have key:∀(n:Nat)(ps:List P2),ps.length=n->Tal ps (oV ps):=by
  intro n
  induction n with
  |zero=>
   intro ps h
   have:ps=[]:=ua h
   subst this
   exact⟨λp=>rfl,vo,λp=>Iff.rfl,rfl,ap _⟩
  |succ n ih=>
   intro ps h
   have ak:ps≠[]:=by rintro rfl;cases h
   have e:=NP ak
   rw[<-e,Fa]
   exact(ih ps.dropLast (by rw[G6,h];rfl)).next _
 exact key _ ps rfl
end Br1
namespace Br1
open PySem PySem.Spec PyProof.Rows L2
def gW(p:P2):List dP:=[.inl p.1,.inl p.2]
def rK(ct:CT):List (List dP×V):=ct.map λc=>(gW c.1,V.int c.2)
theorem vJ{p q:P2}:gW p=gW q↔p=q:=by
 obtain⟨a,b⟩:=p
 obtain⟨x,y⟩:=q
 simp[gW]
theorem Az(ct:CT):(rK ct).length=ct.length:=ah _
theorem qV(p:P2):∀ct:CT,jA (rK ct) (gW p)=(oO ct p).map V.int
 |[]=>rfl
 |c::r=>by
  have ih:=qV p r
  show jA ((gW c.1,V.int c.2)::rK r) (gW p)=_
  rw[fR]
  by_cases h:c.1=p
  ·rw[ac h,qR (by rw[h])]
   rfl
  ·rw[aa h,qF (λz=>h (vJ.mp z)),ih]
theorem Ta{p:P2}{v:Int}:∀{ct:CT},p∉ct.map (·.1)->sJ ct p v=ct++[(p,v)]
 |[],_=>rfl
 |c::r,h=>by
  rw[sJ,aa (λz=>h (by rw[bz,z];exact bg)),Ta λz=>h (az _ z)]
  rfl
theorem Uk{p:P2}{v:Int}:∀{ct:CT},(ct.map (·.1)).Nodup->jQ (rK ct) (gW p) (V.int v)=rK (sJ ct p v):=by
 intro ct nd
 by_cases h:p∈ct.map (·.1)
 ·have hs:(jA (rK ct) (gW p)).isSome=true:=by
   rw[qV,gq]
   unfold oO
   rw[gq,MS]
   obtain⟨c,hc,e⟩:=a6.mp h
   exact⟨c,hc,cn e⟩
  unfold jQ
  rw[pZ,ac hs]
  clear hs
  induction ct with
  |nil=>cases h
  |cons c r ih=>
   have K0:=jb.mp nd
   show (λkv:List dP×V=>if kv.1=gW p then (kv.1,V.int v) else kv) (gW c.1,V.int c.2)::(rK r).map _=_
   rw[sJ]
   by_cases hc:c.1=p
   ·rw[ac hc]
    show (if gW c.1=gW p then (gW c.1,V.int v) else (gW c.1,V.int c.2))::_=(gW p,V.int v)::rK r
    rw[ac (by rw[hc]),hc]
    refine congrArg _ ?_
    have:∀x∈rK r,(if x.1=gW p then (x.1,V.int v) else x)=x:=λx hx=>by
     obtain⟨c2,h2,rfl⟩:=a6.mp hx
     exact aa λz=>K0.1 (by show c.1∈_;rw[hc,<-vJ.mp z];exact o4 (f:=λ(x:P2×Int)=>x.1) h2)
    rw[AM this,List.map_id']
   ·rw[aa hc]
    show (if gW c.1=gW p then (gW c.1,V.int v) else (gW c.1,V.int c.2))::_=(gW c.1,V.int c.2)::rK (sJ r p v)
    rw[aa (λz=>hc (vJ.mp z))]
    refine congrArg _ (ih K0.2 ?_)
    rcases aw.mp h with z|z
    ·exact absurd z.symm hc
    ·exact z
 ·rw[rF]
  ·rw[Ta h]
   unfold rK
   rw[cp]
   rfl
  ·rw[qV]
   unfold oO
   rw[MI.mpr]
   ·rfl
   ·intro c hc z
    exact h (a6.mpr ⟨c,hc,dq z⟩)
theorem xQ{sg ow l:CL}{i:Nat}{c:Pl×Int}(e:l[i]?=some c):(l.take (i+1)).filterMap (cY sg ow)=(l.take i).filterMap (cY sg ow)++(cY sg ow c).toList:=by
 rw[i3,e,HY]
 refine congrArg _ ?_
 show [c].filterMap (cY sg ow)=_
 cases h:cY sg ow c<;>simp[h]
theorem Nl{H:Hp}{c q:Addr}{od:Obj}{cs:CL}{p:Pl}{v:Int}(hc:H c=some (.frz od (.dT (aI cs))))(hq:H q=some (.tup [.int p.1,.int p.2.1,.int p.2.2]))(h:aV cs p=some v):mT H c (.ref q) (some (V.int v)):=by
 have:=pX (p:=p) hc hq
 rw[h] at this
 exact this
section
variable {P:Program} {w:World} {K:PySem.W.Frag} {mg:Str->Option Value} {base:Heap} {C CR CP CB CG CM:Addr}
def pJ(CM:Addr):Sp:=λvs H Q _=>∃(m dm s o wr:Addr)(sg ow:CL),vs=[.ref m]/\H m=some (.ins CM dm (Cp s o wr))/\H s=some (.dT (aI sg))/\H o=some (.dT (aI ow))/\s≠o/\(∀c∈sg,aV sg c.1=some c.2)/\(∀p,(aV sg p).isSome=true->(aV ow p).isSome=true)/\sg.length<=5120000/\
 ∀(H':Hp)(d:Addr),aK H H'->H d=none->H' d=some (.dT (rK (oV (jT sg ow))))->Q (.ref d) H'
theorem fT:aQ ["room","counts","place","sign","over","pair"] ["room"] (aH jV):=⟨rfl,rfl,rfl,by decide+kernel,rfl,by decide+kernel,by decide+kernel⟩
theorem Fr{f:Addr}{fd:FuncData}(F:fH K "clutches" "clutches" jV f fd)(TM:Vq K CM)(L1:dL P w K mg base "above" bU 1 ["place"] lQ)(L3:dL P w K mg base "has_stud" bU 1 ["sign"] rQ)(L4:dL P w K mg base "has_tube" bU 1 ["sign"] rW):bT P w K mg base bU 2 f fd ["room"] (pJ CM):=by
 obtain⟨g1,gh,G1,b1,k1,h1⟩:=L1.ex
 obtain⟨g3,zb,G3,b3,k3,h3⟩:=L3.ex
 obtain⟨g4,E6,G4,b4,k4,h4⟩:=L4.ex
 refine F.ok fT (λvs H Q E h=>?_) (λai A outer s H vs Q E hr h=>?_)
 ·obtain⟨m,dm,s,o,wr,sg,ow,rfl,_⟩:=h
  rfl
 ·obtain⟨m,dm,s,o,wr,sg,ow,rfl,hm,hs,ho,so,TJ,sub,ln,k⟩:=h
  have a7:=hr.mono (j:=1) (by decide)
  have hu:=jY hr
  have hsz:=eL
  refine⟨_,aE (aZ (i:=1) fT.nd rfl (Or.inl rfl) kF)
   (aE (gQ (eB i4 rfl (iJ (aO (pv 0) rfl)) (lG rfl (cK (bH (i:=2) fT.nd rfl (Or.inl rfl)) (cK (bH (i:=3) fT.nd rfl (Or.inl rfl)) iC)))
    (aE (aZ (i:=4) fT.nd rfl (Or.inl rfl) (aT G1 a7 (by rfl) h1 k1 b1 .nil aY (aA (pv 2) aF)))
    (aG (dZ (gA (dY (aT G3 a7 (by rfl) h3 k3 b3 .nil aY (aA (pv 3) aF))) (gA (dE (pA hu (pv 4) (aO (pv 0) rfl))) (gP (dY (aT G4 a7 (by rfl) h4 k4 b4 .nil aY (aA (jI hu (aO (pv 0) rfl) (pv 4) (λ_ _=>rfl)) aF)))))).pt
     (aE (aZ (i:=5) fT.nd rfl (Or.inl rfl) (eN (aA (jI hu (aO (pv 0) rfl) (pv 2) (λ_ _=>rfl)) (aA (jI hu (aO (pv 0) rfl) (pv 4) (λ_ _=>rfl)) aF))))
     (aG (lN hu (pv 1) (pv 5) (cR gH (So hu (pv 1) (pv 5) aJ ⟨rfl,rfl,rfl,rfl⟩) aJ) rfl))) bX)))))
   (aG (aW (pv 1)))),?_⟩
  intro d hd
  have S0:aK H (upd H d (.dT [])):=aK.new hd
  have ly:s≠d:=aD hs hd
  have FT:o≠d:=aD ho hd
  have qe:m≠d:=aD hm hd
  have d5:m≠s:=λz=>by rw[z,hs] at hm;cases hm
  refine⟨s,_,S0 _ _ hs,trivial,λod=>?_⟩
  have jv:upd (upd H d (.dT [])) s (.frz od (.dT (aI sg))) s=some (.frz od (.dT (aI sg))):=aC
  have o7:upd (upd H d (.dT [])) s (.frz od (.dT (aI sg))) o=some (.dT (aI ow)):=by rw[aB (ao so)];exact S0 _ _ ho
  have k6:upd (upd H d (.dT [])) s (.frz od (.dT (aI sg))) m=some (.ins CM dm (Cp s o wr)):=by rw[aB d5];exact S0 _ _ hm
  have jt:upd (upd H d (.dT [])) s (.frz od (.dT (aI sg))) d=some (.dT []):=by rw[aB (ao ly),aC]
  refine⟨_,rfl,m,CM,dm,_,_,rfl,k6,TM.cl,TM.n1,rfl,s,od,_,rfl,jv,?_⟩
  refine gK (λi σ H'=>∃v2 v3 v4 v5,σ=[some (.ref m),some (.ref d),v2,v3,v4,v5]/\SX d (upd (upd H d (.dT [])) s (.frz od (.dT (aI sg)))) H'/\H' d=some (.dT (rK (oV ((sg.take i).filterMap (cY sg ow)))))) ⟨none,none,none,none,rfl,SX.refl _ _,jt⟩ ?_ ?_ ?_
  ·rintro i σ H1 hi ⟨v2,v3,v4,v5,rfl,S1,_⟩
   exact S1 _ _ jv ly
  ·rintro i σ H1 T kk v q e ⟨v2,v3,v4,v5,rfl,S1,fj⟩ hT hq
   obtain⟨p,sv,e1,rfl,rfl⟩:=gO e
   have hi:i<sg.length:=(bh.mp e1).1
   have ST:=aK.new (o:=.tup [.ref q,.int sv]) hT
   refine⟨T,_,rfl,cN.of aC,rfl,_,_,rfl,_,_,rfl,rfl,?_⟩
   have cu:=ST _ _ hq
   have S2:SX d (upd (upd H d (.dT [])) s (.frz od (.dT (aI sg)))) (upd H1 T (.tup [.ref q,.int sv])):=λb ob eb nb=>ST _ _ (S1 _ _ eb nb)
   have dv:=ST _ _ fj
   generalize upd H1 T (.tup [.ref q,.int sv])=H2 at ST cu S2 dv
   refine⟨_,rfl,q,p.1,p.2.1,p.2.2,rfl,cu,λt ht=>?_⟩
   have SQ:=aK.new (o:=.tup [.int p.1,.int p.2.1,.int (p.2.2+1)]) ht
   have S3:SX d (upd (upd H d (.dT [])) s (.frz od (.dT (aI sg)))) (upd H2 t (.tup [.int p.1,.int p.2.1,.int (p.2.2+1)])):=λb ob eb nb=>SQ _ _ (S2 _ _ eb nb)
   have iw:=SQ _ _ dv
   have ff:=SQ _ _ cu
   have kz:upd H2 t (.tup [.int p.1,.int p.2.1,.int (p.2.2+1)]) t=some (.tup [.int (jK p).1,.int (jK p).2.1,.int (jK p).2.2]):=aC
   generalize upd H2 t (.tup [.int p.1,.int p.2.1,.int (p.2.2+1)])=H3 at S3 iw ff kz
   have jq:=S3 _ _ jv ly
   have K1:=S3 _ _ o7 FT
   have xi:=S3 _ _ k6 qe
   have no:cY sg ow (p,sv)=none->H3 d=some (.dT (rK (oV ((sg.take (i+1)).filterMap (cY sg ow))))):=λz=>by
    rw[xQ e1,z]
    show _=some (HO.dT (rK (oV (_++[]))))
    rw[f8]
    exact iw
   refine⟨_,rfl,sv,rfl,_,rfl,bY (λb8=>?_) (λb8=>pO ⟨_,_,_,_,rfl,S3,no ?_⟩)⟩
   ·refine⟨_,rfl,_,rfl,m,CM,dm,_,_,rfl,xi,TM.cl,TM.n1,rfl,s,_,rfl,pX (p:=jK p) jq kz,_,rfl,bY (λaq=>?_) (λaq=>pO ⟨_,_,_,_,rfl,S3,no ?_⟩)⟩
    ·rw[gq] at aq
     obtain⟨sj,es⟩:=lf.mp aq
     obtain⟨k7,K2⟩:=lf.mp (sub _ aq)
     obtain⟨k8,K3⟩:=lf.mp (sub p (by rw[TJ _ (dg e1)];rfl))
     refine⟨_,rfl,m,CM,dm,_,_,rfl,xi,TM.cl,TM.n1,rfl,_,rfl,s,_,rfl,Nl (p:=jK p) jq kz es,sj,rfl,_,rfl,bY (λF6=>?_) (λF6=>⟨_,_,_,_,rfl,S3,no ?_⟩)⟩
     ·have ep:cY sg ow (p,sv)=some (k8,k7):=by
       unfold cY
       rw[ac ⟨b8,by rw[es];exact F6⟩]
       show some ((aV ow p).getD 0,(aV ow (jK p)).getD 0)=_
       rw[K3,K2]
       rfl
      refine⟨_,rfl,m,CM,dm,_,_,rfl,xi,TM.cl,TM.n2,rfl,_,rfl,o,_,rfl,lE (p:=p) K1 ff K3,_,rfl,m,CM,dm,_,_,rfl,xi,TM.cl,TM.n2,rfl,_,rfl,o,_,rfl,lE (p:=jK p) K1 kz K2,(by show 2<=sizeLine;decide),λtp TK=>?_⟩
      have K4:=aK.new (o:=.tup [.int k8,.int k7]) TK
      have oj:=K4 _ _ iw
      have F7:upd H3 tp (.tup [.int k8,.int k7]) tp=some (.tup ((gW (k8,k7)).map kV)):=aC
      have S4:SX d (upd (upd H d (.dT [])) s (.frz od (.dT (aI sg)))) (upd H3 tp (.tup [.int k8,.int k7])):=λb ob eb nb=>K4 _ _ (S3 _ _ eb nb)
      generalize upd H3 tp (.tup [.int k8,.int k7])=H4 at oj F7 S4
      have tk:=Bz ((sg.take i).filterMap (cY sg ow))
      have tl:(rK (oV ((sg.take i).filterMap (cY sg ow)))).length<=5120000:=by
       rw[Az]
       have h1:=tk.len
       have h2:=IA (cY sg ow) (sg.take i)
       rw[ij] at h2
       omega
      refine⟨_,rfl,d,rfl,.inr ⟨_,.inl oj⟩,_,rfl,_,mT.t (k:=gW (k8,k7)) oj F7,?_⟩
      rw[qV]
      have eg:((oO (oV ((sg.take i).filterMap (cY sg ow))) (k8,k7)).map V.int).getD (V.int 0)=V.int ((oO (oV ((sg.take i).filterMap (cY sg ow))) (k8,k7)).getD 0):=by
       cases oO (oV ((sg.take i).filterMap (cY sg ow))) (k8,k7)<;>rfl
      rw[eg]
      refine⟨_,_,rfl,rfl,_,rfl,_,rfl,d,_,rfl,wS.t (k:=gW (k8,k7)) oj F7 (by omega),?_⟩
      rw[Uk tk.nd]
      refine⟨_,_,_,_,rfl,λb ob eb nb=>?_,?_⟩
      ·rw[aB nb]
       exact S4 _ _ eb nb
      ·rw[aC,xQ e1,ep]
       show _=some (HO.dT (rK (oV (_++[(k8,k7)]))))
       rw[Fa]
       rfl
     ·unfold cY
      rw[aa]
      rintro⟨_,z⟩
      rw[es] at z
      exact F6 z
    ·rw[gq] at aq
     unfold cY
     rw[aa]
     rintro⟨_,z⟩
     cases ez:aV sg (jK p) with
     |none=>rw[ez] at z;cases z
     |some y=>rw[ez] at aq;exact aq rfl
   ·unfold cY
    rw[aa]
    rintro⟨z,_⟩
    exact b8 z
  ·rintro σ H1 ⟨v2,v3,v4,v5,rfl,S1,fj⟩
   rw[eX,ik] at fj
   refine⟨S1 _ _ jv ly,?_⟩
   have S2:=Ay hs hd S1
   exact⟨_,rfl,k _ d S2 hd (by rw[aB (ao ly)];exact fj)⟩
end
theorem Rp{lc lb:List Int}(hc:Oo lc)(hb:Oo lb){prs:List aM}{nm:List Int}{ls:List (List Nat)}(hg:dB lc lb=.ok prs nm ls)(h:cQ prs 0 [] [] ls=[]):iE (dI prs ls):=by
 have h1:=Ep hc hb
 have h6:= @uG lc lb
 rw[hg] at h1 h6
 obtain⟨_,ok,_⟩:=h1
 exact wA ok (λx hx=>(h6 rfl x hx).2) h
theorem iE.self{zs:ZS}(R:iE zs):∀c∈iW zs,aV (iW zs) c.1=some c.2:=by
 intro c hc
 obtain⟨z,hz,h⟩:=vz.mp hc
 obtain⟨i,hi⟩:=lj.mp hz
 exact(R.own hi (q:=c.1) (v:=c.2) h).2
theorem iE.sub{zs:ZS}(R:iE zs):∀p,(aV (iW zs) p).isSome=true->(aV (uY zs) p).isSome=true:=by
 intro p h
 obtain⟨v,e⟩:=lf.mp h
 obtain⟨i,z,hz,hq⟩:=(R.inv.sgO p v).mp e
 rw[(R.own hz hq).1]
 rfl
def pK(prs:List aM)(ls:List (List Nat)):List (Int×Int):=jT (iW (dI prs ls)) (uY (dI prs ls))
end Br1
namespace Br1
def Op(f:Nat)(ms:List Nat):Nat:=(ms.filter λm=>decide (m≠f)).length
theorem Bn{f:Nat}:∀{ms:List Nat}{k m:Nat},ms[k]?=some m->m≠f->Op f (ms.set k f)+1=Op f ms
 |[],k,m,h,_=>by simp at h
 |a::r,0,m,h,hn=>by
  cases h
  unfold Op
  rw[List.set_cons_zero,qt (by simp),t9 (by simpa using hn),bn]
 |a::r,k+1,m,h,hn=>by
  have ih:=Bn (f:=f) (ms:=r) (k:=k) (m:=m) h hn
  unfold Op at ih ⊢
  rw[List.set_cons_succ]
  by_cases e:a=f
  ·rw[qt (by simpa using e),qt (by simpa using e)]
   exact ih
  ·rw[t9 (by simpa using e),t9 (by simpa using e),bn,bn]
   omega
theorem aAu(f:Nat)(ms:List Nat):Op f ms<=ms.length:=AJ _ _
structure Mk(E:Nat->Nat->Prop)(f n:Nat)(bj ms wl:List Nat)(r:Option Nat)(nb:List Nat):Prop where
 len:ms.length=n
 new:∀i:Nat,ms[i]?=some f->hG E f i
 old:∀i m:Nat,ms[i]?=some m->m≠f->bj[i]?=some m
 here:ms[f]?=some f
 wt:∀i∈wl,ms[i]?=some f
 cl:∀i j,ms[i]?=some f->i∉wl->r≠some i->E i j->ms[j]?=some f
 nbs:∀j∈nb,ms[j]?=some f
 rr:∀i,r=some i->ms[i]?=some f
 few:wl.length+Op f ms<=n
theorem Mk.first{E:Nat->Nat->Prop}{f n:Nat}{bj:List Nat}(hl:bj.length=n)(hf:f<n)(no:∀i:Nat,bj[i]?≠some f):Mk E f n bj (bj.set f f) [f] none []:=by
 have hh:(bj.set f f)[f]?=some f:=by rw[sw (by omega)]
 have e:∀i:Nat,i≠f->(bj.set f f)[i]?=bj[i]?:=λi hi=>vi (ao hi)
 refine⟨by rw[xr];exact hl,λi h=>?_,λi m h hm=>?_,hh,λi hi=>?_,λi j h hn _ _=>?_,λj hj=>absurd hj f9,λi z=>(by cases z),?_⟩
 ·by_cases z:i=f
  ·subst z;exact .refl
  ·rw[e i z] at h;exact absurd h (no i)
 ·by_cases z:i=f
  ·subst z;rw[hh] at h;exact absurd (Option.some.inj h).symm hm
  ·rw[e i z] at h;exact h
 ·rw[b5.mp hi];exact hh
 ·by_cases z:i=f
  ·exact absurd (b5.mpr z) hn
  ·rw[e i z] at h;exact absurd h (no i)
 ·have h1:bj[f]?=some bj[f]:=ba (by omega)
  have h2:=Bn (f:=f) h1 (λz=>no f (by rw[h1,z]))
  have h3:=aAu f bj
  rw[mf]
  omega
theorem Mk.pop{E:Nat->Nat->Prop}{f n:Nat}{bj ms wl:List Nat}{r:Nat}(h:Mk E f n bj ms (wl++[r]) none []):Mk E f n bj ms wl (some r) []/\wl.length+1+Op f ms<=n:=by
 have hf:=h.few
 rw[b6,mf] at hf
 refine⟨⟨h.len,h.new,h.old,h.here,λi hi=>h.wt i (i9 _ hi),λi j hi hn hr e=>h.cl i j hi (λz=>?_) (λz=>by cases z) e,λj hj=>absurd hj f9,λi z=>?_,by omega⟩,hf⟩
 ·rcases c9.mp z with z|z
  ·exact hn z
  ·exact hr (by rw[b5.mp z])
 ·cases z
  exact h.wt _ (fk _ (b5.mpr rfl))
theorem Mk.skip{E:Nat->Nat->Prop}{f n:Nat}{bj ms wl nb:List Nat}{r:Option Nat}{k:Nat}(h:Mk E f n bj ms wl r nb)(hk:ms[k]?=some f):Mk E f n bj ms wl r (nb++[k]):=
 ⟨h.len,h.new,h.old,h.here,h.wt,h.cl,λj hj=>by
  rcases c9.mp hj with z|z
  ·exact h.nbs j z
  ·rw[b5.mp z];exact hk,h.rr,h.few⟩
theorem Mk.mark{E:Nat->Nat->Prop}{f n:Nat}{bj ms wl nb:List Nat}{r k m:Nat}(h:Mk E f n bj ms wl (some r) nb)(hk:ms[k]?=some m)(hm:m≠f)(he:E r k):
  Mk E f n bj (ms.set k f) (wl++[k]) (some r) (nb++[k])/\(wl++[k]).length+Op f (ms.set k f)=wl.length+Op f ms:=by
 have TN:k<ms.length:=(bh.mp hk).1
 have hh:(ms.set k f)[k]?=some f:=by rw[sw TN]
 have e:∀i:Nat,i≠k->(ms.set k f)[i]?=ms[i]?:=λi hi=>vi (ao hi)
 have up:∀i:Nat,ms[i]?=some f->(ms.set k f)[i]?=some f:=λi hi=>by
  by_cases z:i=k
  ·rw[z];exact hh
  ·rw[e i z];exact hi
 have h2:=Bn (f:=f) hk hm
 have hf:=h.few
 have el:(wl++[k]).length=wl.length+1:=by rw[b6,mf]
 refine⟨⟨by rw[xr];exact h.len,λi hi=>?_,λi m' hi K5=>?_,up _ h.here,λi hi=>?_,λi j hi hn hr ee=>?_,λj hj=>?_,λi z=>up _ (h.rr i z),by omega⟩,by omega⟩
 ·by_cases z:i=k
  ·subst z;exact .step (h.new r (h.rr r rfl)) he
  ·rw[e i z] at hi;exact h.new i hi
 ·by_cases z:i=k
  ·subst z;rw[hh] at hi;exact absurd (Option.some.inj hi).symm K5
  ·rw[e i z] at hi;exact h.old i m' hi K5
 ·rcases c9.mp hi with z|z
  ·exact up _ (h.wt i z)
  ·rw[b5.mp z];exact hh
 ·by_cases z:i=k
  ·exact absurd (fk _ (b5.mpr z)) hn
  ·rw[e i z] at hi;exact up _ (h.cl i j hi (λy=>hn (i9 _ y)) hr ee)
 ·rcases c9.mp hj with z|z
  ·exact up _ (h.nbs j z)
  ·rw[b5.mp z];exact hh
theorem Mk.fin{E:Nat->Nat->Prop}{f n:Nat}{bj ms wl nb:List Nat}{r:Nat}(h:Mk E f n bj ms wl (some r) nb)(hE:∀j,E r j->j∈nb):Mk E f n bj ms wl none []:=
 ⟨h.len,h.new,h.old,h.here,h.wt,λi j hi hn _ e=>by
  by_cases z:i=r
  ·subst z;exact h.nbs j (hE j e)
  ·exact h.cl i j hi hn (λy=>z (Option.some.inj y).symm) e,λj hj=>absurd hj f9,λi z=>(by cases z),h.few⟩
structure Mkd(E:Nat->Nat->Prop)(f n:Nat)(bj ms:List Nat):Prop where
 len:ms.length=n
 is:∀i m:Nat,ms[i]?=some m->(hG E f i/\m=f)\/(¬hG E f i/\bj[i]?=some m)
theorem Mk.done{E:Nat->Nat->Prop}{f n:Nat}{bj ms:List Nat}(h:Mk E f n bj ms [] none []):Mkd E f n bj ms:=by
 have c:∀i,hG E f i->ms[i]?=some f:=λi hc=>by
  induction hc with
  |refl=>exact h.here
  |step _ e ih=>exact h.cl _ _ ih f9 (λz=>by cases z) e
 refine⟨h.len,λi m hi=>?_⟩
 by_cases z:m=f
 ·subst z;exact .inl ⟨h.new i hi,rfl⟩
 ·exact .inr ⟨λy=>z (by rw[c i y] at hi;exact(Option.some.inj hi).symm),h.old i m hi z⟩
structure Lo(E:Nat->Nat->Prop)(n k:Nat)(ms:List Nat):Prop where
 len:ms.length=n
 is:∀i m:Nat,ms[i]?=some m->(m=n/\∀h,h<k->¬hG E h i)\/(m<k/\mU E i m)
theorem Lo.first{E:Nat->Nat->Prop}{n:Nat}:Lo E n 0 (List.replicate n n):=by
 refine⟨GQ,λi m h=>.inl ⟨?_,λh hh=>absurd hh (AH _)⟩⟩
 rw[z8] at h
 split at h
 ·exact(Option.some.inj h).symm
 ·cases h
theorem Lo.no{E:Nat->Nat->Prop}{n k:Nat}{ms:List Nat}(h:Lo E n k ms)(hk:k<n):∀i:Nat,ms[i]?≠some k:=λi z=>by
 rcases h.is i k z with ⟨y,_⟩|⟨y,_⟩<;>omega
theorem Lo.mark{E:Nat->Nat->Prop}{n k:Nat}{ms pk:List Nat}(sy:∀a b,E a b->E b a)(h:Lo E n k ms)(hk:k<n)(hn:ms[k]?=some n)(hm:Mkd E k n ms pk):Lo E n (k+1) pk:=by
 have b7:∀j,j<k->¬hG E j k:=by
  rcases h.is k n hn with ⟨_,y⟩|⟨y,_⟩
  ·exact y
  ·omega
 refine⟨hm.len,λi m hi=>?_⟩
 rcases hm.is i m hi with ⟨c,rfl⟩|⟨c,e⟩
 ·refine .inr ⟨jl _,⟨c.symm sy,λj hj=>?_⟩⟩
  by_cases z:j<m
  ·exact absurd ((hj.symm sy).trans (c.symm sy)) (b7 j z)
  ·omega
 ·rcases h.is i m e with ⟨y,y2⟩|⟨y,y2⟩
  ·refine .inl ⟨y,λj hj=>?_⟩
   by_cases z:j=k
   ·rw[z];exact c
   ·exact y2 j (by omega)
  ·exact .inr ⟨by omega,y2⟩
theorem Lo.skip{E:Nat->Nat->Prop}{n k m:Nat}{ms:List Nat}(sy:∀a b,E a b->E b a)(h:Lo E n k ms)(hn:ms[k]?=some m)(hm:m≠n):Lo E n (k+1) ms:=by
 refine⟨h.len,λi m' hi=>?_⟩
 rcases h.is i m' hi with ⟨y,y2⟩|⟨y,y2⟩
 ·refine .inl ⟨y,λj hj=>?_⟩
  by_cases z:j=k
  ·subst z
   rcases h.is j m hn with ⟨x,_⟩|⟨x,x2⟩
   ·exact absurd x hm
   ·exact λc=>y2 m x ((x2.c.symm sy).trans c)
  ·exact y2 j (by omega)
 ·exact .inr ⟨by omega,y2⟩
theorem Lo.done{E:Nat->Nat->Prop}{n:Nat}{ms:List Nat}(h:Lo E n n ms):∀i m:Nat,ms[i]?=some m->mU E i m:=λi m hi=>by
 have hl:i<ms.length:=(bh.mp hi).1
 have:=h.len
 rcases h.is i m hi with ⟨_,y⟩|⟨_,y⟩
 ·exact absurd .refl (y i (by omega))
 ·exact y
def qU(g:List (List Nat))(i j:Nat):List (List Nat):=g.set i (g.getD i []++[j])
theorem qO(g:List (List Nat))(i j:Nat):(qU g i j).length=g.length:=xr
theorem Ff{g:List (List Nat)}{i j a b:Nat}(hi:i<g.length):b∈(qU g i j).getD a []↔b∈g.getD a []\/(a=i/\b=j):=by
 unfold qU
 rw[cy]
 by_cases z:a=i
 ·subst z
  rw[sw hi]
  show b∈g.getD a []++[j]↔_
  rw[c9,b5]
  exact⟨λh=>h.imp_right λy=>⟨rfl,y⟩,λh=>h.imp_right λy=>y.2⟩
 ·rw[vi (ao z),<-cy]
  constructor
  ·exact .inl
  ·rintro(h|⟨h,_⟩)
   ·exact h
   ·exact absurd h z
end Br1
namespace Br1
open PySem PySem.Spec PyProof.Rows L2
def vN(n:Nat):V:=V.int n
structure gC(H:Hp)(h:Addr)(as:List Addr)(g:List (List Nat)):Prop where
 hh:H h=some (.lst (as.map V.ref))
 al:Paired (λa nb=>H a=some (.lst (nb.map vN))) as g
def jS(g:List (List Nat))(i j:Nat):Prop:=j∈g.getD i []
theorem Kt{n j:Nat}(h:j<n):Vu n (j:Int)=some j:=by
 unfold Vu
 rw[ac (by omega),ac (by omega)]
 rfl
theorem Xp{ms:List Nat}{k m:Nat}(h:ms[k]?=some m):Sg (ms.map vN) (k:Int)=some (vN m):=fZ (by rw[bf,h];rfl)
structure MkS(H:Hp)(l wq:Addr)(ms wl:List Nat)(H':Hp):Prop where
 sx:SX l H H'
 ll:H' l=some (.lst (ms.map vN))
 lw:H' wq=some (.lst (wl.map vN))
section
variable {P:Program} {w:World} {K:PySem.W.Frag} {mg:Str->Option Value} {base:Heap}
def Gi:Sp:=λvs H Q _=>∃(f n:Nat)(h l:Addr)(as:List Addr) (g:List (List Nat)) (bj:List Nat),vs=[vN f,.ref h,.ref l]/\gC H h as g/\H l=some (.lst (bj.map vN))/\l≠h/\l∉as/\g.length=n/\bj.length=n/\f<n/\n<=256/\(∀i:Nat,bj[i]?≠some f)/\(∀i j,jS g i j->j<n)/\
 ∀(H':Hp)(ms:List Nat),SX l H H'->H' l=some (.lst (ms.map vN))->Mkd (jS g) f n bj ms->Q .non H'
theorem qC:aQ ["first","held","least","waiting","reached_last","k"] ["first","held","least"] (aH wN):=⟨rfl,rfl,rfl,by decide+kernel,rfl,by decide+kernel,by decide+kernel⟩
theorem Tb{f:Addr}{fd:FuncData}(F:fH K "mark_group" "mark_group" wN f fd)(ax:mg "len"=none):bT P w K mg base bU 1 f fd ["first","held","least"] Gi:=by
 refine F.ok qC (λvs H Q E h=>?_) (λai A outer s H vs Q E hr h=>?_)
 ·obtain⟨f,n,h,l,as,g,bj,rfl,_⟩:=h
  rfl
 ·obtain⟨f,n,h,l,as,g,bj,rfl,hh,hl,TQ,TR,gl,ml,fl,K6,no,eb,k⟩:=h
  refine⟨_,aE (Si (pv 0) (Rm (pv 2) (pv 0) Cv)) (aE (aZ (i:=3) qC.nd rfl (Or.inl rfl) (dU (aA (pv 0) aF)))
   (aG (iQ i4 (dE (qM (bK bI (by rfl) ax PySem.boot_len (aA (pv 3) aF)) aJ))
    (aE (aZ (i:=4) qC.nd rfl (Or.inl rfl) (Pd PySem.F.plainAttrs_list PySem.F.slot_list_pop PySem.F.type_list_pop Rh (pv 3)))
    (aG (eB i4 rfl (nV (bS fJ (pv 1) (pv 4) (λ_ _=>rfl))) (bH (i:=5) qC.nd rfl (Or.inl rfl))
     (aG (dZ (dE (Yp (bS fJ (pv 2) (pv 5) (λ_ _=>rfl)) (pv 0)))
      (aE (Si (pv 0) (Rm (pv 2) (pv 5) Cv)) (aG (cA (mW PySem.F.plainAttrs_list PySem.F.slot_list_append PySem.F.type_list_append eM (pv 3) (aA (pv 5) aF))))) bX)))))))),?_⟩
  have bw:=bJ
  refine⟨_,rfl,_,rfl,_,rfl,l,_,f,f,rfl,rfl,hl,Kt (by rw[ah,ml];exact fl),?_⟩
  have e1:(bj.map vN).set f (vN f)=(bj.set f f).map vN:=List.map_set.symm
  rw[e1]
  have S1:SX l H (upd H l (.lst ((bj.set f f).map vN))):=SX.upd _
  have l1:upd H l (.lst ((bj.set f f).map vN)) l=some (.lst ((bj.set f f).map vN)):=aC
  generalize upd H l (.lst ((bj.set f f).map vN))=H1 at S1 l1
  refine⟨_,rfl,by show 1<=sizeLine;decide,λwq BZ=>?_⟩
  have nlw:l≠wq:=aD l1 BZ
  have K7:H wq=none:=by
   cases e:H wq with
   |none=>rfl
   |some o=>rw[S1 _ _ e (ao nlw)] at BZ;cases BZ
  have M1:Mk (jS g) f n bj (bj.set f f) [f] none []:=Mk.first ml fl no
  have B1:MkS H l wq (bj.set f f) [f] (upd H1 wq (.lst [vN f])):=⟨λb o e nb=>by rw[aB (aD (S1 _ _ e nb) BZ)];exact S1 _ _ e nb,by rw[aB nlw];exact l1,aC⟩
  have F1:=M1.few
  generalize upd H1 wq (.lst [vN f])=H2 at B1
  refine⟨λm σ H'=>∃ms wl v4 v5,σ=[some (vN f),some (.ref h),some (.ref l),some (.ref wq),v4,v5]/\MkS H l wq ms wl H'/\Mk (jS g) f n bj ms wl none []/\wl.length+Op f ms<=m,
   ⟨n,_,_,none,none,rfl,B1,M1,F1⟩,?_⟩
  rintro m σ H3 ⟨ms,wl,v4,v5,rfl,B3,M3,hm⟩
  refine⟨_,rfl,wq,_,rfl,.inl (cP.of B3.lw),_,_,rfl,rfl,_,rfl,bY (λhw=>?_) (λhw=>?_)⟩
  ·have hw:(0:Int)<((wl.map vN).length:Int):=dq hw
   rw[ah] at hw
   obtain⟨ss,r,rfl⟩:∃ss r,wl=ss++[r]:=⟨wl.dropLast,wl.getLast (by intro z;rw[z] at hw;cases hw),(NP _).symm⟩
   obtain⟨M4,F4⟩:=M3.pop
   have gv:=M4.rr r rfl
   have TU:r<g.length:=by
    have:=(bh.mp gv).1
    rw[M4.len] at this
    omega
   obtain⟨nb,K8⟩:∃nb,g[r]?=some nb:=⟨_,ba TU⟩
   obtain⟨a,ea,ha⟩:=cH hh.al K8
   have K9:a≠l:=λz=>TR (by rw[<-z];exact dg ea)
   have eE:∀j,jS g r j↔j∈nb:=λj=>by
    unfold jS
    rw[cy,K8]
    exact Iff.rfl
   rw[b6,mf] at hm
   refine⟨λae H'=>∃ms wl v4 v5,ae=[some (vN f),some (.ref h),some (.ref l),some (.ref wq),v4,v5]/\MkS H l wq ms wl H'/\Mk (jS g) f n bj ms wl none []/\wl.length+Op f ms+1<=m,λae H' ⟨ms,wl,v4,v5,z1,z2,z3,z4⟩=>⟨m - 1,by omega,ms,wl,v4,v5,z1,z2,z3,by omega⟩,?_⟩
   refine⟨_,rfl,.inl ⟨rfl,_,cP.of B3.lw⟩,wq,_,vN r,rfl,rfl,B3.lw,(by rw[cp,b6,CF (by show _<=_+1 - 1;omega)];show [vN r][_+1 - 1 - _]?=_;rw[Nat.add_sub_cancel,AF];rfl),?_⟩
   have ed:((ss++[r]).map vN).dropLast=ss.map vN:=by rw[cp];exact NA
   rw[ed]
   have B4:MkS H l wq ms ss (upd H3 wq (.lst (ss.map vN))):=⟨λb o e nb=>by rw[aB (aD e K7)];exact B3.sx _ _ e nb,by rw[aB nlw];exact B3.ll,aC⟩
   generalize upd H3 wq (.lst (ss.map vN))=H4 at B4
   refine⟨_,rfl,_,rfl,h,_,_,.ref a,rfl,rfl,cP.of (B4.sx _ _ hh.hh (ao TQ)),fZ (by rw[bf,ea];rfl),a,rfl,⟨_,cP.of (B4.sx _ _ ha K9)⟩,?_⟩
   refine Db (K:=K) (xs:=nb.map vN) (λi σ H'=>∃ms wl v5,σ=[some (vN f),some (.ref h),some (.ref l),some (.ref wq),some (vN r),v5]/\MkS H l wq ms wl H'/\Mk (jS g) f n bj ms wl (some r) (nb.take i)/\wl.length+Op f ms+1<=m)
    ⟨ms,ss,v5,rfl,B4,M4,by omega⟩ (λi σ H' _ ⟨_,_,_,_,z,_⟩=>cP.of (z.sx _ _ ha K9)) ?_ ?_
   ·rintro i x σ H5 ex ⟨vf,B0,v5,rfl,B5,M5,j5⟩
    rw[bf] at ex
    cases ek:nb[i]? with
    |none=>rw[ek] at ex;cases ex
    |some kk=>
     rw[ek] at ex
     cases ex
     have hk:jS g r kk:=(eE kk).mpr (dg ek)
     have K':=eb _ _ hk
     obtain⟨mk,F8⟩:∃mk,vf[kk]?=some mk:=⟨_,ba (by rw[M5.len];exact K')⟩
     have et:nb.take (i+1)=nb.take i++[kk]:=by rw[i3,ek];rfl
     refine⟨_,rfl,_,rfl,l,_,_,_,rfl,rfl,cP.of B5.ll,Xp F8,_,rfl,_,_,rfl,rfl,_,rfl,bY (λak=>?_) (λak=>?_)⟩
     ·have ak:mk≠f:=λz=>by
       rw[z] at ak
       exact absurd ak (by simp)
      obtain⟨M6,e6⟩:=M5.mark F8 ak hk
      have U6:=M5.few
      refine⟨_,rfl,_,rfl,_,rfl,l,_,kk,kk,rfl,rfl,B5.ll,Kt (by rw[ah,M5.len];exact K'),?_⟩
      have e7:(vf.map vN).set kk (vN f)=(vf.set kk f).map vN:=List.map_set.symm
      rw[e7]
      refine⟨_,rfl,.inl ⟨rfl,_,cP.of (by rw[aB (ao nlw)];exact B5.lw)⟩,_,rfl,wq,_,vN kk,rfl,rfl,(by rw[aB (ao nlw)];exact B5.lw),(by rw[ah];omega),?_⟩
      refine⟨vf.set kk f,B0++[kk],_,rfl,⟨λb o e zd=>?_,?_,?_⟩,by rw[et];exact M6,by omega⟩
      ·rw[aB (aD e K7),aB zd]
       exact B5.sx _ _ e zd
      ·rw[aB nlw,aC]
      ·rw[aC,cp]
       rfl
     ·have ak:mk=f:=Decidable.byContradiction λz=>ak (by
       simp
       omega)
      refine⟨vf,B0,_,rfl,B5,?_,j5⟩
      rw[et]
      exact M5.skip (by rw[F8,ak])
   ·rintro σ H5 ⟨vf,B0,v5,rfl,B5,M5,j5⟩
    rw[ah,ik] at M5
    exact⟨vf,B0,_,_,rfl,B5,M5.fin λj hj=>(eE j).mp hj,j5⟩
  ·have hw:¬(0:Int)<((wl.map vN).length:Int):=λz=>hw (cn z)
   rw[ah] at hw
   have:wl=[]:=AI.mp (by omega)
   subst this
   exact k _ _ B3.sx B3.ll M3.done
end
end Br1
namespace L2
open PySem PySem.Spec PyProof.Rows
theorem Nj{d:Addr}{o:Obj}{aI:List (List dP×V)}{g:TG}{tb:TS}{D:fY}{σ:St}{H:Hp}(Pv:Nat->St->Hp->Prop)(h0:Pv 0 σ H)(hl:∀i σ H,i<=aI.length->Pv i σ H->H d=some (.frz o (.dT aI)))
  (hs:∀i σ H k v q,aI[i]?=some (k,v)->Pv i σ H->H q=some (.tup (k.map kV))->g (.ref q) σ H λau H2=>tb {D with nx:=Pv (i+1),ct:=Pv (i+1),bk:=D.nx} au H2) (hd:∀ σ H,Pv aI.length σ H->D.nx σ H):
  ∃W:Nat->Nat->St->Hp->Prop,(∃m,W 0 m σ H)/\∀i m σ H,W i m σ H->
   ((Fm d o aI).stop i H/\D.nx σ H)\/((Fm d o aI).go i H/\∃N:St->Hp->Prop,(∀ae H',N ae H'->∃m',m'<m/\W (i+1) m' ae H')/\∀x H',(Fm d o aI).yld i H x H'->g x σ H' λau H2=>tb {D with nx:=N,ct:=N,bk:=D.nx} au H2):=by
 refine⟨λi m σ H=>m=aI.length - i/\i<=aI.length/\Pv i σ H,⟨aI.length,by simp,da _,h0⟩,?_⟩
 rintro i m σ H ⟨rfl,hi,p⟩
 have q:=hl i σ H hi p
 by_cases aj:i<aI.length
 ·refine .inr ⟨⟨q,aj⟩,Pv (i+1),λae H' p'=>⟨aI.length - (i+1),by (clear hi;omega),rfl,aj,p'⟩,λx H' y=>?_⟩
  obtain⟨e,k,v,a,e1,rfl,e2⟩:=y
  subst e
  exact hs i σ _ k v a e1 p e2
 ·have e:i=aI.length:=by omega
  subst e
  exact .inl ⟨⟨q,ap _⟩,hd σ H p⟩
theorem xB{α β:Type}{R R':α->β->Prop}{as:List α}{bs:List β}(h:Paired R as bs)(f:∀a∈as,∀b,R a b->R' a b):Paired R' as bs:=by
 induction h with
 |nil=>exact .nil
 |cons r t ih=>exact .cons (f _ bg _ r) (ih λa ha b z=>f a (az _ ha) b z)
theorem wQ{α β:Type}{R R':α->β->Prop}{a:α}{x:β}(hx:R' a x)(ho:∀a' b,a'≠a->R a' b->R' a' b):∀{as:List α}{bs:List β},Paired R as bs->as.Nodup->∀{i:Nat},as[i]?=some a->Paired R' as (bs.set i x)
 |_,_,.nil,_,i,h=>by simp at h
 |a0::as,b0::bs,.cons r t,nd,0,h=>by
  cases h
  have nd:=jb.mp nd
  exact .cons hx (xB t λa' TV b z=>ho a' b (λe=>nd.1 (by rw[<-e];exact TV)) z)
 |a0::as,b0::bs,.cons r t,nd,i+1,h=>by
  have nd:=jb.mp nd
  exact .cons (ho _ _ (λe=>nd.1 (by rw[e];exact dg h)) r) (wQ hx ho t nd.2 h)
end L2
namespace Br1
open PySem PySem.Spec PyProof.Rows L2
theorem gC.sub{H H':Hp}{h:Addr}{as:List Addr}{g:List (List Nat)}(x:gC H h as g)(f:∀a o,(a=h\/a∈as)->H a=some o->H' a=some o):gC H' h as g:=
 ⟨f _ _ (.inl rfl) x.hh,xB x.al λa ha b z=>f _ _ (.inr ha) z⟩
theorem gC.put{H:Hp}{h a:Addr}{as:List Addr}{g:List (List Nat)}{i j:Nat}(x:gC H h as g)(nd:as.Nodup)(hn:h∉as)(ea:as[i]?=some a):gC (upd H a (.lst ((g.getD i []).map vN++[vN j]))) h as (qU g i j):=by
 have ha:a∈as:=dg ea
 refine⟨by rw[aB (λz=>hn (by rw[z];exact ha))];exact x.hh,?_⟩
 unfold qU
 refine wQ ?_ (λa' b ne z=>by rw[aB ne];exact z) x.al nd ea
 rw[aC,cp]
 rfl
theorem gC.get{H:Hp}{h:Addr}{as:List Addr}{g:List (List Nat)}{i:Nat}(x:gC H h as g)(hi:i<g.length):∃a,as[i]?=some a/\H a=some (.lst ((g.getD i []).map vN)):=by
 obtain⟨a,ea,z⟩:=cH x.al (ba hi)
 refine⟨a,ea,?_⟩
 rw[cy,ba hi]
 exact z
theorem Sk{n a b:Nat}:¬jS (List.replicate n []) a b:=by
 unfold jS
 rw[cy,z8]
 split<;>exact f9
theorem vC{g:List (List Nat)}{t i j:Nat}(h:∀k,(g.getD k []).length<=t):∀k,((qU g i j).getD k []).length<=t+1:=λk=>by
 have hk:=h k
 have hi:=h i
 unfold qU
 rw[cy] at hk ⊢
 by_cases z:k=i
 ·subst z
  by_cases hl:k<g.length
  ·rw[sw hl]
   show (g.getD k []++[j]).length<=_
   rw[b6,mf]
   omega
  ·rw[qk (by rw[xr];omega)]
   exact da _
 ·rw[vi (ao z)]
  omega
section
variable {P:Program} {w:World} {K:PySem.W.Frag} {mg:Str->Option Value} {base:Heap}
def Bi:Sp:=λvs H Q _=>∃(n:Nat)(d:Addr)(ps:List P2),vs=[vN n,.ref d]/\H d=some (.dT (rK (oV ps)))/\n<=256/\(∀a b:Int,(a,b)∈ps->∃i j:Nat,a=i/\b=j/\i<n/\j<n)/\ps.length<=5120000/\
 ∀(H':Hp)(l:Addr)(ms:List Nat),aK H H'->H' l=some (.lst (ms.map vN))->xJ ps n ms->Q (.ref l) H'
abbrev Kw:List Str:=["size","counts","held","k","pair","least"]
theorem iI:aQ Kw ["size","counts"] (aH nN):=⟨rfl,rfl,rfl,by decide+kernel,rfl,by decide+kernel,by decide+kernel⟩
theorem Oj{f:Addr}{fd:FuncData}(F:fH K "least_of_groups" "least_of_groups" nN f fd)(m8:mg "range"=none)(L1:dL P w K mg base "mark_group" bU 1 ["first","held","least"] Gi):bT P w K mg base bU 2 f fd ["size","counts"] Bi:=by
 obtain⟨g1,gh,G1,b1,k1,h1⟩:=L1.ex
 refine F.ok iI (λvs H Q E h=>?_) (λai A outer s H vs Q E hr h=>?_)
 ·obtain⟨n,d,ps,rfl,_⟩:=h
  rfl
 ·obtain⟨n,d,ps,rfl,hd,K6,pl,U7,k⟩:=h
  refine⟨_,aE (xM (i:=2) (te:=aCc gY) (own:=[("k",3)]) rfl iI.nd rfl rfl rfl (iL rfl m8 (aA (pv 0) aF)) (gU (N:=Kw) (sc:=aH nN) (by decide+kernel))
      (λ_ _ _ _ _=>bH (i:=3) iI.nd rfl (Or.inl rfl)) (λ_ _ _ _ _=>lO) (λ_ _ _ _ _=>dU aF))
   (aE (gQ (eB i4 rfl (uM (pv 1)) (bH (i:=4) iI.nd rfl (Or.inl rfl))
    (aE (cA (mW PySem.F.plainAttrs_list PySem.F.slot_list_append PySem.F.type_list_append eM (bS fJ (pv 2) (bS bO (pv 4) aJ (λ_ _=>rfl)) (λ_ _=>rfl)) (aA (bS bO (pv 4) aJ (λ_ _=>rfl)) aF)))
    (aG (cA (mW PySem.F.plainAttrs_list PySem.F.slot_list_append PySem.F.type_list_append eM (bS fJ (pv 2) (bS bO (pv 4) aJ (λ_ _=>rfl)) (λ_ _=>rfl)) (aA (bS bO (pv 4) aJ (λ_ _=>rfl)) aF)))))))
   (aE (aZ (i:=5) iI.nd rfl (Or.inl rfl) (cR Zg (dU (aA (pv 0) aF)) (pv 0)))
   (aE (eB i4 rfl (iL rfl m8 (aA (pv 0) aF)) (bH (i:=3) iI.nd rfl (Or.inl rfl))
    (aG (dZ (dE (Yx (bS fJ (pv 5) (pv 3) (λ_ _=>rfl)) (pv 0))) (aG (cA (aT G1 hr (by rfl) h1 k1 b1 .nil aY (aA (pv 3) (aA (pv 2) (aA (pv 5) aF)))))) bX)))
   (aG (aW (pv 5)))))),?_⟩
  have bw:=eL
  have tk:=Bz ps
  refine⟨_,rfl,(n:Int),rfl,by omega,by omega,λD hD=>?_⟩
  refine Sj (n:=n) (λi H'=>∃as:List Addr,as.length=i/\i<=n/\aK H H'/\H' D=some (.lst (as.map V.ref))/\as.Nodup/\D∉as/\∀a∈as,H a=none/\H' a=some (.lst []))
   ⟨[],rfl,da _,aK.new hD,aC,vo,f9,λa ha=>absurd ha f9⟩ ?_ ?_
  ·rintro i H1 hi ⟨as,al,_,S1,gw,nd,nD,ha⟩
   refine⟨rfl,by show 0<=sizeLine;omega,λp hp=>?_⟩
   have F9:D≠p:=aD gw hp
   have c8:p∉as:=λz=>by rw[(ha p z).2] at hp;cases hp
   refine⟨_,by rw[aB F9];exact gw,by rw[ah];omega,as++[p],by rw[b6,al];rfl,hi,λb o e=>?_,?_,?_,?_,?_⟩
   ·rw[aB (aD e hD),aB (aD (S1 _ _ e) hp)]
    exact S1 _ _ e
   ·rw[aC,cp]
    rfl
   ·rw[AL]
    refine⟨nd,jb.mpr ⟨f9,vo⟩,λx hx y hy e=>?_⟩
    rw[b5.mp hy] at e
    exact c8 (by rw[<-e];exact hx)
   ·intro z
    rcases c9.mp z with z|z
    ·exact nD z
    ·exact F9 (b5.mp z)
   ·intro a z
    rcases c9.mp z with z|z
    ·refine⟨(ha a z).1,?_⟩
     rw[aB (λe=>nD (by rw[<-e];exact z)),aB (λe=>c8 (by rw[<-e];exact z))]
     exact(ha a z).2
    ·rw[b5.mp z]
     refine⟨S1.free hp,?_⟩
     rw[aB (ao F9),aC]
  ·rintro H1 ⟨as,al,_,S1,gw,nd,nD,ha⟩
   have AX:d≠D:=aD hd hD
   have U8:d∉as:=λz=>by rw[(ha d z).1] at hd;cases hd
   have ga:gC H1 D as (List.replicate n []):=by
    refine⟨gw,?_⟩
    have key:∀(as:List Addr),(∀a∈as,H1 a=some (.lst []))->Paired (λa nb=>H1 a=some (.lst (nb.map vN))) as (List.replicate as.length []):=by
     intro as
     induction as with
     |nil=>intro _;exact .nil
     |cons a r ih=>intro z;exact .cons (z a bg) (ih λb hb=>z b (az _ hb))
    have:=key as λa z=>(ha a z).2
    rwa [al] at this
   have fh:∀a,(a=D\/a∈as)->H a=none:=λa z=>by
    rcases z with z|z
    ·rw[z];exact hD
    ·exact(ha a z).1
   refine⟨d,_,S1 _ _ hd,trivial,λod=>?_⟩
   refine⟨_,rfl,d,od,rfl,.inr ⟨_,aC,?_⟩⟩
   have wv:∀a,(a=D\/a∈as)->a≠d:=λa z e=>by rw[<-e,fh a z] at hd;cases hd
   refine Nj (λi σ H'=>∃g v3 v4,σ=[some (vN n),some (.ref d),some (.ref D),v3,v4,none]/\SX d H H'/\H' d=some (.frz od (.dT (rK (oV ps))))/\gC H' D as g/\g.length=n/\(∀a b,jS g a b↔Ys (((oV ps).map (·.1)).take i) a b)/\∀k,(g.getD k []).length<=2 * i)
    ⟨List.replicate n [],none,none,rfl,λb o e nb=>by rw[aB nb];exact S1 _ _ e,aC,ga.sub λa o z e=>by rw[aB (wv a z)];exact e,GQ,λa b=>⟨λz=>absurd z Sk,λz=>by rcases z with z|z<;>exact absurd z f9⟩,λk=>?_⟩ ?_ ?_ ?_
   ·rw[cy,z8]
    split<;>exact ap _
   ·rintro i σ H2 hi ⟨g,v3,v4,rfl,S2,z,_⟩
    exact z
   ·rintro i σ H2 kk v q e ⟨g,v3,v4,rfl,S2,dv,zv,gl,ge,gs⟩ hq
    have qz:i<(oV ps).length:=by
     have:=(bh.mp e).1
     rwa [Az] at this
    have u6:=tk.len
    obtain⟨cc,ec⟩:∃cc,(oV ps)[i]?=some cc:=⟨_,ba qz⟩
    obtain⟨⟨x,y⟩,cv⟩:=cc
    have e':(rK (oV ps))[i]?=some (gW (x,y),V.int cv):=by unfold rK;rw[bf,ec];rfl
    rw[e'] at e
    cases e
    have LA:((oV ps).map (·.1))[i]?=some (x,y):=by rw[bf,ec];rfl
    obtain⟨x',y',rfl,rfl,hx,hy⟩:=pl x y ((tk.mem _).mp (dg LA))
    have hq:H2 q=some (.tup [vN x',vN y']):=hq
    obtain⟨a,ea,F'⟩:=zv.get (i:=x') (by omega)
    have U9:=gs x'
    refine⟨_,rfl,_,rfl,q,_,_,vN x',rfl,rfl,cN.of hq,rfl,D,_,_,.ref a,rfl,rfl,cP.of zv.hh,fZ (by rw[bf,ea];rfl),.inl ⟨rfl,_,cP.of F'⟩,_,rfl,q,_,_,vN y',rfl,rfl,cN.of hq,rfl,a,_,_,rfl,rfl,F',(by rw[ah];omega),?_⟩
    have ma:a∈as:=dg ea
    have TW:q≠a:=λz=>by rw[z,F'] at hq;cases hq
    have qg:gC (upd H2 a (.lst ((g.getD x' []).map vN++[vN y']))) D as (qU g x' y'):=zv.put nd nD ea
    have S3:SX d H (upd H2 a (.lst ((g.getD x' []).map vN++[vN y']))):=λb o e nb=>by rw[aB (aD e (fh a (.inr ma)))];exact S2 _ _ e nb
    have iw:upd H2 a (.lst ((g.getD x' []).map vN++[vN y'])) d=some (.frz od (.dT (rK (oV ps)))):=by rw[aB (ao (wv a (.inr ma)))];exact dv
    have ff:upd H2 a (.lst ((g.getD x' []).map vN++[vN y'])) q=some (.tup [vN x',vN y']):=by rw[aB TW];exact hq
    generalize upd H2 a (.lst ((g.getD x' []).map vN++[vN y']))=H3 at qg S3 iw ff
    obtain⟨a2,GA,LB⟩:=qg.get (i:=y') (by rw[qO];omega)
    have LC:=vC (i:=x') (j:=y') gs
    have U':=LC y'
    refine⟨_,rfl,_,rfl,q,_,_,vN y',rfl,rfl,cN.of ff,rfl,D,_,_,.ref a2,rfl,rfl,cP.of qg.hh,fZ (by rw[bf,GA];rfl),.inl ⟨rfl,_,cP.of LB⟩,_,rfl,q,_,_,vN x',rfl,rfl,cN.of ff,rfl,a2,_,_,rfl,rfl,LB,(by rw[ah];omega),?_⟩
    have LD:a2∈as:=dg GA
    refine⟨qU (qU g x' y') y' x',_,_,rfl,λb o e nb=>by rw[aB (aD e (fh a2 (.inr LD)))];exact S3 _ _ e nb,by rw[aB (ao (wv a2 (.inr LD)))];exact iw,qg.put nd nD GA,by rw[qO,qO];exact gl,λb c=>?_,λk=>?_⟩
    ·have et:((oV ps).map (·.1)).take (i+1)=((oV ps).map (·.1)).take i++[((x':Int),(y':Int))]:=by rw[i3,LA];rfl
     have q1:jS (qU (qU g x' y') y' x') b c↔jS (qU g x' y') b c\/(b=y'/\c=x'):=Ff (by rw[qO];omega)
     have q2:jS (qU g x' y') b c↔jS g b c\/(b=x'/\c=y'):=Ff (by omega)
     rw[q1,q2,ge,et]
     unfold Ys
     rw[c9,c9,b5,b5,Prod.mk.injEq,Prod.mk.injEq]
     constructor
     ·rintro(((z|z)|z)|z)
      ·exact .inl (.inl z)
      ·exact .inr (.inl z)
      ·exact .inl (.inr ⟨by rw[z.1],by rw[z.2]⟩)
      ·exact .inr (.inr ⟨by rw[z.2],by rw[z.1]⟩)
     ·rintro((z|z)|(z|z))
      ·exact .inl (.inl (.inl z))
      ·exact .inl (.inr ⟨by omega,by omega⟩)
      ·exact .inl (.inl (.inr z))
      ·exact .inr ⟨by omega,by omega⟩
    ·have:=vC (i:=y') (j:=x') LC k
     omega
   ·rintro σ H2 ⟨g,v3,v4,rfl,S2,dv,zv,gl,ge,gs⟩
    refine⟨dv,?_⟩
    have eT:((oV ps).map (·.1)).take (rK (oV ps)).length=(oV ps).map (·.1):=by rw[Az];exact AA (by rw[ah];exact ap _)
    rw[eT] at ge
    have ge:∀a b,jS g a b↔Ys ps a b:=λa b=>by
     rw[ge]
     unfold Ys
     rw[tk.mem,tk.mem]
    have eb:∀i j,jS g i j->j<n:=λi j z=>by
     rcases(ge i j).mp z with z|z
     ·obtain⟨a,b,e1,e2,q1,q2⟩:=pl _ _ z
      omega
     ·obtain⟨a,b,e1,e2,q1,q2⟩:=pl _ _ z
      omega
    have sy:∀a b,jS g a b->jS g b a:=λa b z=>(ge b a).mpr ((ge a b).mp z).symm
    have S3:aK H (upd H2 d (.dT (rK (oV ps)))):=λb o e=>by
     by_cases z:b=d
     ·rw[z] at e ⊢
      rw[aC,<-hd,e]
     ·rw[aB z]
      exact S2 _ _ e z
    have qg:gC (upd H2 d (.dT (rK (oV ps)))) D as g:=zv.sub λa o z e=>by rw[aB (wv a z)];exact e
    generalize upd H2 d (.dT (rK (oV ps)))=H3 at S3 qg
    refine⟨_,rfl,by show 1<=sizeLine;omega,λp1 jk=>⟨_,rfl,p1,(n:Int),_,rfl,rfl,aC,by omega,by omega,?_,λl hl=>?_⟩⟩
    ·show 1 * n<=sizeLine
     omega
    have er:(List.replicate (Int.toNat n) [vN n]).flatten=(List.replicate n n).map vN:=by
     show (List.replicate n [vN n]).flatten=_
     rw[List.map_replicate]
     generalize vN n=x
     generalize n=m
     induction m with
     |zero=>rfl
     |succ m ih=>rw[vm,vn,ih,vm];rfl
    have er:(List.replicate (Int.toNat n) ([vN n]:List V)).flatten=(List.replicate n n).map vN:=er
    have S4:aK H3 (upd (upd H3 p1 (.lst [vN n])) l (.lst (List.replicate (Int.toNat n) [vN n]).flatten)):=(aK.new jk).trans (aK.new hl)
    have l4:upd (upd H3 p1 (.lst [vN n])) l (.lst (List.replicate (Int.toNat n) [vN n]).flatten) l=some (.lst ((List.replicate n n).map vN)):=by rw[aC,er]
    have qf:H3 l=none:=(aK.new jk).free hl
    generalize upd (upd H3 p1 (.lst [vN n])) l (.lst (List.replicate (Int.toNat n) [vN n]).flatten)=H4 at S4 l4
    have LF:l≠D:=λz=>by rw[z,qg.hh] at qf;cases qf
    have jw:∀a∈as,a≠l:=λa z e=>by
     obtain⟨j,hj⟩:=lj.mp z
     obtain⟨a',AZ,q⟩:=qg.get (i:=j) (by rw[gl,<-al];exact(bh.mp hj).1)
     rw[hj] at AZ
     cases AZ
     rw[e,qf] at q
     cases q
    have BH:H l=none:=S3.free qf
    refine⟨_,rfl,(n:Int),rfl,by omega,by omega,?_⟩
    refine sE (n:=n) (λi σ H'=>∃ms v3,σ=[some (vN n),some (.ref d),some (.ref D),v3,v4,some (.ref l)]/\aK H H'/\gC H' D as g/\H' l=some (.lst (ms.map vN))/\Lo (jS g) n i ms)
     ⟨List.replicate n n,_,rfl,S3.trans S4,qg.sub λa o _ e=>S4 _ _ e,l4,Lo.first⟩ ?_ ?_
    ·rintro i σ H5 hi ⟨ms,TX,rfl,S5,B2,l5,lo⟩
     obtain⟨m,em⟩:∃m,ms[i]?=some m:=⟨_,ba (by rw[lo.len];exact hi)⟩
     have e0:(0:Int)+(i:Int)=i:=Int.zero_add _
     rw[e0]
     refine⟨_,rfl,_,rfl,l,_,_,_,rfl,rfl,cP.of l5,Xp em,_,rfl,_,_,rfl,rfl,_,rfl,bY (λhe=>?_) (λhe=>?_)⟩
     ·have he:(m:Int)=(n:Int):=dq he
      have he:m=n:=by omega
      subst he
      refine⟨_,rfl,_,rfl,_,rfl,i,m,D,l,as,g,ms,rfl,B2,l5,LF,λz=>jw l z rfl,gl,lo.len,hi,K6,lo.no hi,eb,λH6 TY S6 l6 M6=>?_⟩
      refine⟨TY,_,rfl,λb o e=>S6 _ _ (S5 _ _ e) (aD e BH),B2.sub λa o z e=>S6 _ _ e ?_,l6,lo.mark sy hi em M6⟩
      rcases z with z|z
      ·rw[z];exact ao LF
      ·exact jw a z
     ·have he:¬(m:Int)=(n:Int):=λz=>he (cn z)
      exact⟨ms,_,rfl,S5,B2,l5,lo.skip sy em (by omega)⟩
    ·rintro σ H5 ⟨ms,TX,rfl,S5,B2,l5,lo⟩
     exact⟨_,rfl,k H5 l ms S5 l5 ⟨lo.len,λi m hm=>(lo.done i m hm).of_iff ge⟩⟩
end
end Br1
namespace L2
open PySem PySem.Spec PyProof.Rows
theorem Td{val:Nat->Int}:∀n:Nat,(firstMet val n).Nodup/\∀x,x∈firstMet val n↔∃i,i<n/\val i=x
 |0=>⟨vo,λx=>⟨λh=>absurd h f9,λ⟨i,h,_⟩=>absurd h (AH _)⟩⟩
 |n+1=>by
  obtain⟨h1,h2⟩:=Td (val:=val) n
  rw[firstMet_succ]
  unfold step_dedup
  have ea:(firstMet val n).any (· ==val n)=true↔val n∈firstMet val n:=by
   rw[lh]
   exact⟨λ⟨x,hx,e⟩=>by rw[<-cz.mp e];exact hx,λh=>⟨_,h,MD _⟩⟩
  split
  ·rename_i e
   refine⟨h1,λx=>?_⟩
   rw[h2]
   constructor
   ·rintro⟨i,hi,e⟩;exact⟨i,by omega,e⟩
   ·rintro⟨i,hi,e'⟩
    by_cases z:i=n
    ·rw[z] at e'
     rw[<-e']
     exact(h2 _).mp (ea.mp e)
    ·exact⟨i,by omega,e'⟩
  ·rename_i e
   refine⟨?_,λx=>?_⟩
   ·rw[AL]
    refine⟨h1,jb.mpr ⟨f9,vo⟩,λa ha b hb z=>?_⟩
    rw[b5.mp hb] at z
    exact e (ea.mpr (by rw[<-z];exact ha))
   ·rw[c9,h2,b5]
    constructor
    ·rintro(⟨i,hi,e'⟩|e')
     ·exact⟨i,by omega,e'⟩
     ·exact⟨n,by omega,e'.symm⟩
    ·rintro⟨i,hi,e'⟩
     by_cases z:i=n
     ·rw[z] at e';exact .inr e'.symm
     ·exact .inl ⟨i,by omega,e'⟩
def Vk(K:PySem.W.Frag)(te:TE):TE:=fun σ H Q=>eR te gY σ H λvs H1=>∃(a:Addr)(ns:List Int),vs=[.ref a]/\cP K H1 a (ns.map V.int)/\ns.length<=1000/\∀u:List Int,u.Nodup->(∀x,x∈u↔x∈ns)->Q (.int u.length) H1
theorem Nh{X:Cx}{e:Expr}{te:TE}{p1 p2 pos zw:Pos}(hc:X.calm=true)(JM:Gl X "len")(uv:Gl X "set")(oh:X.mg "len"=none)(zo:X.mg "set"=none)(he:PE X e te)
  (gy:starEach [.Call (.Name "set" p2) [e] [] zw] X.env=[(false,eval (.Call (.Name "set" p2) [e] [] zw) X.env)]:=by rfl) (ia:starEach [e] X.env=[(false,eval e X.env)]:=by rfl):PE X (.Call (.Name "len" p1) [.Call (.Name "set" p2) [e] [] zw] [] pos) (Vk X.K te):=by
 intro pins s σ H Q I h
 refine wpAny_Call_Name_kw (jR I JM oh PySem.boot_len ?_ (by decide) (by decide))
 refine GS ?_ gy rfl
 rw[gy]
 show wpAny _ _ (spliced ((false,eval (.Call (.Name "set" p2) [e] [] zw) X.env)::backTo pos [])) _ _ s
 refine z5 ?_
 refine wpAny_Call_Name_kw (jR I uv zo boot_set ?_ (by decide) (by decide))
 refine xm (cD ((aA he aF ia) zw pins s σ H _ I h) λus s1 ⟨vs,H1,I1,r1,q1⟩=>?_) ia rfl
 obtain⟨a,ns,rfl,hs,hl,q⟩:=q1
 obtain⟨its,rv,pl,_⟩:=I1.list hs
 rw[bA.ref1 r1]
 have ax:its.length=ns.length:=by rw[<-rv.length,ah]
 refine call_set_list (I1.ok.hd hc) pl.isList rv.ints (by show its.toArray.size+1<4096;rw[de];omega) λh' tk hS hk=>?_
 obtain⟨o,es,ep,t,ho,hex,hd,_,_,_,hf,hn⟩:=hS
 refine CD ?_
 have ip:∀b u,s1.heap.get? b=some u->h'.get? b=some u:=λb u e=>hk b u (a9 e) e
 have mo:=Td (val:=λi=>ns.getD i 0) its.toArray.size
 have hm:∀x,x∈firstMet (λi=>ns.getD i 0) its.toArray.size↔x∈ns:=λx=>by
  rw[mo.2,de,ax,lj]
  constructor
  ·rintro⟨i,hi,e⟩
   refine⟨i,?_⟩
   rw[<-e,cy,ba hi]
   rfl
  ·rintro⟨i,e⟩
   exact⟨i,(bh.mp e).1,by show ns.getD i 0=x;rw[cy,e];rfl⟩
 have q2:=q _ mo.1 hm
 rw[<-hn] at q2
 have b2:es.size<=1000:=by
  rw[hn]
  exact d6 (firstMet_length_le _ _) (by rw[de,ax];exact hl)
 exact call_len_set ho hex hd hf (Int.lt_of_le_of_lt (Int.ofNat_le.mpr b2) (by decide)) ⟨.int _,H1,(I1.kept ip).tok _,⟨_,rfl⟩,q2⟩
section
variable {prog:Program} {w:World} {A:Around} {R:Result->Shared->Prop} {I:Addr} {fp wr:List Addr} {n:Nat} {P:Nat->Value->Prop} {St:Nat->Heap->Prop} {kw:List (Str×Value)}
theorem aCj(W:Walks prog w A.in1 I fp wr n P St)(bt:Nat->Nat->Bool)(GF:CmpOf prog w A.in1 .Gt P bt)(S:Addr)(oo:S∉fp):
  ∀(k j:Nat)(s:Shared)(vb:Value)(c:Nat),n - (j+1)=k->j+1<=n->St (j+1) s.heap->P (argBest bt j) vb->s.heap.get? S=some {cls:=.type "list",dict:=none,data:=.seq #[vb,vb] c,slots:=#[]}->
  (∀v h' tk,P (argBest bt (n - 1)) v->(∀b o,b∉wr->b≠S->s.heap.get? b=some o->h'.get? b=some o)->R (.ok (.ret v)) {s with heap:=h',toks:=tk})->codeAny (model prog w) A (.builtin "max.loop" ⟨[.ref I,.none,.ref S],kw⟩) R s:=by
 have B6:S∉wr:=λh=>oo (W.sub _ h)
 have xj:(toString "max"++toString ".loop":String)="max.loop":=by decide
 intro k
 induction k with
 |zero=>
  intro j s vb c hk hj b8 B7 hS hR
  have aq:j+1=n:=by omega
  refine DK DL ?_
  rw[DM qv _]
  show wpAny _ A.in1 (seqItems? (.ref S)>>=_) _ _ s
  refine wpAny_bind (yd hS rfl ?_)
  show wpAny _ A.in1 (tryCatch (pyNext (.ref I)) _>>=_) _ _ s
  refine wpAny_bind (AO (W.done s _ _ (aq▸b8) λh' tk ip=>?_))
  have su:=ip S _ B6 hS
  show wpAny _ A.in1 (updateSeq S (λ_=>#[])>>=_) _ _ _
  refine wpAny_bind (IB su rfl (wpAny_bind (yb (af (hR vb _ tk (by rw[<-aq];exact B7) λb o k9 qh e=>?_)))))
  exact(lg _ _ (ao qh)).trans (ip b o k9 e)
 |succ k ih=>
  intro j s vb c hk hj b8 B7 hS hR
  have aj:j+1<n:=by omega
  refine DK DL ?_
  rw[DM qv _]
  show wpAny _ A.in1 (seqItems? (.ref S)>>=_) _ _ s
  refine wpAny_bind (yd hS rfl ?_)
  show wpAny _ A.in1 (tryCatch (pyNext (.ref I)) _>>=_) _ _ s
  refine wpAny_bind (AO (W.item (j+1) s _ _ aj b8 λv h' tk hP B8 ip=>?_))
  have su:=ip S _ B6 hS
  show wpAny _ A.in1 (tryCatch (holding [v,v] (richCompare .Gt v vb>>=_)) _>>=_) _ _ _
  refine wpAny_bind (AO (j8 (wpAny_bind (GF (j+1) (argBest bt j) v vb _ _ _ hP B7 (wpAny_bind (j8 (wpAny_truthy_bool (wpAny_bind (yb (af ?_))))))))))
  cases hb:bt (j+1) (argBest bt j) with
  |true=>
   simp only[ot]
   refine wpAny_bind (IB su rfl (wpAny_bind (yb ?_)))
   rw[xj]
   refine af ⟨AQ qv _,ih (j+1) _ v _ (by omega) aj (W.frame _ _ _ B8 λb GH o e=>(lg _ _ (λh:S=b=>oo (by rw[h];exact GH))).trans e) (by simp only[argBest,hb,ot];exact hP) (ou _ su rfl) λv' ic zx zy zz=>hR v' ic zx zy λb o k9 qh e=>?_⟩
   exact zz b o k9 qh ((lg _ _ (ao qh)).trans (ip b o k9 e))
  |false=>
   simp only[t7,jc]
   refine wpAny_bind (yb ?_)
   rw[xj]
   exact af ⟨AQ qv _,ih (j+1) _ vb c (by omega) aj B8 (by simp only[argBest,hb,t7,jc];exact B7) su λv' ic zx zy zz=>hR v' ic zx zy λb o k9 qh e=>zz b o k9 qh (ip b o k9 e)⟩
theorem Zr(W:Walks prog w A.in1 I fp wr n P St)(bt:Nat->Nat->Bool)(GF:CmpOf prog w A.in1 .Gt P bt)(S:Addr)(oo:S∉fp)(hn:0<n){s:Shared}{c:Nat}(b8:St 0 s.heap)(hS:s.heap.get? S=some {cls:=.type "list",dict:=none,data:=.seq #[] c,slots:=#[]})
  (hR:∀v h' tk,P (argBest bt (n - 1)) v->(∀b o,b∉wr->b≠S->s.heap.get? b=some o->h'.get? b=some o)->R (.ok (.ret v)) {s with heap:=h',toks:=tk}):codeAny (model prog w) A (.builtin "max.loop" ⟨[.ref I,.none,.ref S],kw⟩) R s:=by
 have B6:S∉wr:=λh=>oo (W.sub _ h)
 have xj:(toString "max"++toString ".loop":String)="max.loop":=by decide
 refine DK DL ?_
 rw[DM qv _]
 show wpAny _ A.in1 (seqItems? (.ref S)>>=_) _ _ s
 refine wpAny_bind (yd hS rfl ?_)
 show wpAny _ A.in1 (tryCatch (pyNext (.ref I)) _>>=_) _ _ s
 refine wpAny_bind (AO (W.item 0 s _ _ hn b8 λv h' tk hP B8 ip=>?_))
 have su:=ip S _ B6 hS
 show wpAny _ A.in1 (updateSeq S (λ_=>#[v,v])>>=_) _ _ _
 refine wpAny_bind (IB su rfl ?_)
 rw[xj]
 refine af ⟨AQ qv _,aCj W bt GF S oo _ 0 _ v _ rfl hn (W.frame _ _ _ B8 λb GH o e=>(lg _ _ (λh:S=b=>oo (by rw[h];exact GH))).trans e) hP (ou _ su rfl) λv' ic zx zy zz=>hR v' ic zx zy λb o k9 qh e=>?_⟩
 exact zz b o k9 qh ((lg _ _ (ao qh)).trans (ip b o k9 e))
theorem aAe{d:Value}{x:Str}(W:Walks prog w A.in1 I fp wr n P St)(S:Addr)(oo:S∉fp)(hn:n=0){s:Shared}{c:Nat}(b8:St 0 s.heap)(hS:s.heap.get? S=some {cls:=.type "list",dict:=none,data:=.seq #[] c,slots:=#[]})
  (hR:∀h' tk,(∀b o,b∉wr->b≠S->s.heap.get? b=some o->h'.get? b=some o)->R (.ok (.ret d)) {s with heap:=h',toks:=tk}):codeAny (model prog w) A (.builtin "max.loop" ⟨[.ref I,.none,.ref S],[(x,d)]⟩) R s:=by
 refine DK DL ?_
 rw[DM qv _]
 show wpAny _ A.in1 (seqItems? (.ref S)>>=_) _ _ s
 refine wpAny_bind (yd hS rfl ?_)
 show wpAny _ A.in1 (tryCatch (pyNext (.ref I)) _>>=_) _ _ s
 refine wpAny_bind (AO (W.done s _ _ (hn▸b8) λh' tk ip=>?_))
 show wpAny _ A.in1 (rule _>>=λ_=>ret d) _ _ _
 exact wpAny_bind (wpAny_rule (af (hR h' tk λb o k9 _ e=>ip b o k9 e)))
end
section
variable {prog:Program} {w:World} {A:Around} {E:Value->Shared->Prop} {s:Shared} {l:Addr} {its:List Value} {ns:List Int} {Q:Value->Shared->Prop}
theorem Mn(a d:Value):argsOk "max" ⟨[a],[("default",d)]⟩:=by unfold argsOk;kernel_rfl
theorem Ri{d:Value}(hh:A.handled=none)(hl:s.heap.IsList l its.toArray)(hi:IntsAre its ns)(h0:ns=[]->∀h' tk,(∀b o,s.heap.get? b=some o->h'.get? b=some o)->Q d {s with heap:=h',toks:=tk})
  (h:∀h' tk M t',(∀b o,s.heap.get? b=some o->h'.get? b=some o)->M∈ns->(∀a,a∈ns->a<=M)->Q (.int M t') {s with heap:=h',toks:=tk}):wpAny (model prog w) A (call (.builtin "max") [.ref l] [("default",d)]) Q E s:=by
 obtain⟨xs,e⟩:=hi.allInts.items
 have hn:numsOf (intItems xs).toList=ns:=by rw[<-e];exact hi.numsOf
 rw[G7] at hn
 subst hn
 rw[e] at hl
 have xj:(toString "max"++toString ".loop":String)="max.loop":=by decide
 have hc:wpAny (model prog w) A.in1 (Builtin.«max» ⟨[.ref l],[("default",d)]⟩) (λfin s'=>match fin with
   |.done f=>(match (Except.ok f:Result) with|.ok (.ret v)=>Q v s'|.ok _=>False|.error e=>E e s')
   |.again c'=>c'.quiet=true/\codeAny (model prog w) A c' (λr s'=>match r with|.ok (.ret v)=>Q v s'|.ok _=>False|.error e=>E e s') s') E s:=by
  show wpAny _ A.in1 (Builtin.Builtins.bindParams "max" ["key","default"] 0 ⟨[],[("default",d)]⟩>>=_) _ _ s
  refine wpAny_bind (AD (show Builtin.Builtins.bindParams "max" ["key","default"] 0 ⟨[],[("default",d)]⟩=pure [none,some d] from rfl) (wpAny_bind (af (wpAny_bind (PySem.iter_intList hl λdh es st pd TZ=>?_)))))
  subst es
  refine wpAny_bind (gn ?_)
  rw[xj]
  have W:=Walks.list (prog:=prog) (w:=w) (A:=A.in1) hh _ l TZ (intItems xs)
  generalize ia:({s with heap:=s.heap.push {cls:=.type "list_iterator",data:=.fields #[.ref l,.int 0 0]}}:Shared)=dh at *
  have oo:dh.heap.objs.size∉[s.heap.objs.size,l]:=λhm=>i8 _ (pd _ hm)
  have k2:∀{h':Heap}{q:Obj},(∀b o,b∉[s.heap.objs.size]->b≠dh.heap.objs.size->(dh.heap.push q).get? b=some o->h'.get? b=some o)->∀b o,s.heap.get? b=some o->h'.get? b=some o:=λhk b o e=>by
   have hb:=a9 e
   have hs:=pd s.heap.objs.size (by simp)
   refine hk b o (λz=>?_) (λz=>by rw[z] at hb;exact i8 _ (CO hb hs)) (br _ (by rw[<-ia];exact br _ e))
   rw[b5.mp z] at hb
   exact i8 _ hb
  by_cases hz:0<xs.size
  ·refine af ⟨AQ qv _,Zr W _ (CmpOf.ints_gt (numAt xs) (λ_ _=>intItems_at)) dh.heap.objs.size oo (by simpa[intItems] using hz) (W.frame _ _ _ st λb _ o e=>br _ e) (cf _ rfl) λv h' tk hP hk=>?_⟩
   have hv:(intItems xs)[argBest (λi j=>decide (numAt xs i>numAt xs j)) (xs.size - 1)]?=some v:=by simpa[intItems] using hP
   have GI:=k2 hk
   subst ia
   obtain⟨t,rfl⟩:=intItems_at hv
   obtain⟨h1,h2⟩:=argBest_gt (numAt xs) (xs.size - 1)
   refine h h' tk _ t GI ?_ λa ha=>?_
   ·rw[numAt_eq];exact PySem.getD_mem (by rw[ah,l9];omega)
   ·obtain⟨j,hj,rfl⟩:=mem_getD ha
    rw[ah,l9] at hj
    rw[<-numAt_eq];exact h2 j (by omega)
  ·have hx:xs.size=0:=by omega
   refine af ⟨AQ qv _,aAe W dh.heap.objs.size oo (by simpa[intItems] using hx) (W.frame _ _ _ st λb _ o e=>br _ e) (cf _ rfl) λh' tk hk=>?_⟩
   have GI:=k2 hk
   subst ia
   exact h0 (by rw[NQ,<-AI,l9];exact hx) h' tk GI
 refine z6 (HE F.plain_max F.entry_max ?_)
 simp only[checkBuiltinCall,F.kind_max]
 cases T1:Manifest.signature? "max" with
 |none=>exact af hc
 |some sig=>
  have ha:=Mn (.ref l) d
  simp only[argsOk,T1] at ha
  have h2:Bind.checkArgs "max" sig ⟨[.ref l],[("default",d)]⟩=pure ():=ha
  show wpAny _ A.in1 (Bind.checkArgs "max" sig ⟨[.ref l],[("default",d)]⟩) _ _ s
  rw[h2];exact af hc
end
def aBp(K:PySem.W.Frag)(te:TE)(d:Int):TE:=fun σ H Q=>eR te gY σ H λvs H1=>∃(a:Addr)(ns:List Int),vs=[.ref a]/\cP K H1 a (ns.map V.int)/\(ns=[]->Q (.int d) H1)/\∀m,m∈ns->(∀y,y∈ns->y<=m)->Q (.int m) H1
theorem Ui{X:Cx}{e:Expr}{te:TE}{d:Int}{j:Nat}{p1 p2 p3 pos:Pos}(hc:X.calm=true)(hg:Gl X "max")(hm:X.mg "max"=none)(he:PE X e te)
  (hs:starEach [e] X.env=[(false,eval e X.env)]:=by rfl):PE X (.Call (.Name "max" p1) [e] [⟨some "default",.Constant (.int d) j p2,p3⟩] pos) (aBp X.K te d):=by
 intro pins s σ H Q I h
 refine wpAny_Call_Name_kw (jR I hg hm boot_max ?_ (by decide) (by decide))
 refine PyProof.Rows.callWith_kw (cD ((aA he aF hs) pos pins s σ H _ I h) λus s1 ⟨vs,H1,I1,r1,q1⟩=>?_) (by rw[hs];rfl) (by rw[hs];rfl) rfl rfl
 refine PyProof.Rows.kws_cons (wpAny_Constant_int (PyProof.Rows.kws_nil ?_))
 obtain⟨a,ns,rfl,hq,q0,q⟩:=q1
 obtain⟨its,rv,pl,_⟩:=I1.list hq
 rw[bA.ref1 r1]
 have I2:=I1.tok (s1.toks+1)
 refine Ri (s:={s1 with toks:=s1.toks+1}) (I1.ok.hd hc) pl.isList rv.ints (λz h' tk hk=>⟨.int d,H1,I2.kept hk,⟨_,rfl⟩,q0 z⟩) λh' tk m t' hk h1 h2=>⟨.int m,H1,I2.kept hk,⟨_,rfl⟩,q m h1 h2⟩
section
variable {prog:Program} {w:World} {A:Around} {E:Value->Shared->Prop} {s:Shared} {d:Addr} {o:Obj} {es:Array DictEntry} {ep:Nat}
theorem Re(hs:(d==sysModules)=false):MeetsIn prog w (Builtin.«dict.values» ⟨[.ref d],[]⟩) (λ_ R s=>s.TypeIs (.ref d) "dict"/\
  R (.ok (.ret (.ref s.heap.objs.size))) {s with heap:=s.heap.push {cls:=.type "dict_values",data:=.fields #[.ref d]}}):=
 .of_wp λA R s ⟨hm,h⟩=>by
  refine wpAny_bind ?_
  unfold Builtin.Dict.noArgs
  refine wpAny_bind (G' hm ?_)
  show wpAny _ _ (pure d) _ _ s
  refine af ?_
  show wpAny _ _ (Builtin.Dict.showsAll d>>=_) _ _ s
  unfold Builtin.Dict.showsAll
  rw[aa (by rw[hs];exact cb)]
  exact wpAny_bind (af (wpAny_bind (gn (af ⟨_,rfl,h⟩))))
theorem Mg{v:Addr}{n:Nat}{Q:Value->Shared->Prop}(hv:s.heap.IsValuesView v d)(ho:s.heap.get? d=some o)(ie:o.data=.dict es ep)(hn:es.size=n)
  (hQ:Q (.ref s.heap.objs.size) {s with heap:=s.heap.push {cls:=.type "dict_valueiterator",data:=.fields #[.ref d,.int 0 0,.int n 0,.int ep 0]}}):wpAny (model prog w) A (pyIter (.ref v)) Q E s:=by
 obtain⟨ov,EI,P5,EJ⟩:=id hv
 refine CU hv.typeIs NR (jy NR hv.typeIs F.entry_dict_values_iter ?_ (F.args_dict_values_iter_1 _))
 unfold Builtin.«dict_values.__iter__»
 refine wpAny_bind (af (wpAny_bind ?_))
 unfold Builtin.Dict_items.dictOf
 refine wpAny_bind (iz EI EJ (x:=.ref d) rfl (af (wpAny_bind ?_)))
 unfold Builtin.Dict_items.newIterator
 refine wpAny_bind (oz ho ie (wpAny_bind (qo ho ie ?_)))
 have jd:Builtin.Dict_items.ownsTuple "dict_valueiterator"=false:=by decide
 simp only[jd,t7,jc]
 refine gn (af ⟨_,rfl,"dict_valueiterator",_,⟨_,cf _ rfl,rfl⟩,AR.lookup,?_⟩)
 simpa[rawInt,hn] using hQ
theorem Nr{it:Addr}{i n:Nat}{en:DictEntry}{Q:Option Value->Shared->Prop}(a8:s.heap.IsValIter it d i n ep)(dw:s.heap.get? d=some o)(gg:o.data=.dict es ep)(hsz:es.size=n)(lu:es[i]?=some en)
  (hQ:∀h',h'.IsValIter it d (i+1) n ep->Heap.SameBut it s.heap h'->Q (some en.val) {s with heap:=h'}):wpAny (model prog w) A (pyNext (.ref it)) Q E s:=by
 obtain⟨ob,ho,hc,hd⟩:=id a8
 have hT:=a8.typeIs
 obtain⟨aj,P6⟩:=qr.mp lu
 unfold pyNext
 refine wpAny_bind (xw (md (name:=Str.ofString "__next__") hT AR (jy AR hT NS ?_ (NT _))))
 refine wpAny_bind (af (wpAny_bind (wpAny_bind ?_)))
 first|refine wpAny_bind (DN hT (af ?_))|refine wpAny_bind (DO hT (af ?_))
 refine wpAny_bind (xx ho hd ?_)
 have jd:Builtin.Dict_items.ownsTuple "dict_valueiterator"=false:=by decide
 simp only[jd,t7,jc]
 show wpAny _ _ (if (Value.ref d==Value.none)=true then _ else _) _ _ _
 rw[aa (show ¬((Value.ref d==Value.none)=true) from cb)]
 refine wpAny_bind (af (wpAny_bind (oz dw gg ?_)))
 rw[aa (by rw[hsz];simp)]
 refine wpAny_bind (af (wpAny_bind (qo dw gg ?_)))
 rw[aa (by simp)]
 refine af ?_
 simp only[show ¬((i:Int)<0) from by (clear hsz;omega),jc,jm,lu]
 refine wpAny_bind ?_
 first|refine wpAny_bind (DN hT (af ?_))|refine wpAny_bind (DO hT (af ?_))
 refine wpAny_bind (IC hT ?_)
 show wpAny _ _ (setField (.ref it) 1 (rawInt ((i:Int)+1))>>=_) _ _ s
 refine wpAny_bind (o1 ho hd (by simp) ?_)
 have jr:(s.heap.update it (Obj.mapFields (·.setIfInBounds 1 (rawInt ((i:Int)+1))))).IsValIter it d (i+1) n ep:=
  ⟨_,ou _ ho (xy (o3 hd _)),(HA ..).trans hc,by rw[o3 hd];simp[rawInt]⟩
 have sb:Heap.SameBut it s.heap (s.heap.update it (Obj.mapFields (·.setIfInBounds 1 (rawInt ((i:Int)+1))))):=vp ..
 generalize s.heap.update it (Obj.mapFields (·.setIfInBounds 1 (rawInt ((i:Int)+1))))=h1 at jr sb
 have wz:Shared.TypeIs {s with heap:=h1} (.ref it) "dict_valueiterator":=jr.typeIs
 refine wpAny_bind (j8 (wpAny_bind (IC wz (wpAny_bind (IC wz ?_)))))
 show wpAny _ _ (pure en.val) _ _ _
 exact af (af ⟨_,rfl,af (hQ _ jr sb)⟩)
theorem Qz{it:Addr}{i n:Nat}{Q:Option Value->Shared->Prop}(hh:A.handled=none)(a8:s.heap.IsValIter it d i n ep)(dw:s.heap.get? d=some o)(gg:o.data=.dict es ep)(hsz:es.size=n)(um:n<=i)
  (hQ:∀h',Heap.ExtBut it s.heap h'->Q none {s with heap:=h'}):wpAny (model prog w) A (pyNext (.ref it)) Q E s:=by
 obtain⟨ob,ho,hc,hd⟩:=id a8
 have hT:=a8.typeIs
 unfold pyNext
 refine wpAny_bind (xw (md (name:=Str.ofString "__next__") hT AR (jy AR hT NS ?_ (NT _))))
 refine wpAny_bind (af (wpAny_bind (wpAny_bind ?_)))
 first|refine wpAny_bind (DN hT (af ?_))|refine wpAny_bind (DO hT (af ?_))
 refine wpAny_bind (xx ho hd ?_)
 have jd:Builtin.Dict_items.ownsTuple "dict_valueiterator"=false:=by decide
 simp only[jd,t7,jc]
 show wpAny _ _ (if (Value.ref d==Value.none)=true then _ else _) _ _ _
 rw[aa (show ¬((Value.ref d==Value.none)=true) from cb)]
 refine wpAny_bind (af (wpAny_bind (oz dw gg ?_)))
 rw[aa (by rw[hsz];simp)]
 refine wpAny_bind (af (wpAny_bind (qo dw gg ?_)))
 rw[aa (by simp)]
 refine af ?_
 have b7:es.size<=i:=by rw[hsz];exact um
 simp only[show ¬((i:Int)<0) from by (clear b7 um hsz;omega),jc,jm,CQ b7]
 refine wpAny_bind ?_
 first|refine wpAny_bind (DN hT (af ?_))|refine wpAny_bind (DO hT (af ?_))
 show wpAny _ _ (setField (.ref it) 0 .none>>=_) _ _ s
 refine wpAny_bind (o1 ho hd (by simp) ?_)
 show wpAny _ _ (newExc (.type "StopIteration") []>>=_) _ _ _
 refine wpAny_bind ?_
 simp only[newExc,newTuple]
 refine wpAny_bind (gn ?_ (by size_fits))
 refine wpAny_bind (m:=firstArgMember _ _) (AD (a:=Value.none) (by first|rfl|(simp only[firstArgMember];rfl)) ?_)
 refine gn ?_ (by size_fits)
 simp only[raiseNew]
 refine wpAny_bind (CY ?_)
 rw[show A.in1.handled=none from hh]
 refine wpAny_bind (af (CZ ?_))
 refine wpAny_bind (HB (T:="StopIteration") (b:=true) ⟨_,cf _ rfl,rfl⟩ HC ?_)
 exact af (hQ _ (((vp ..).extBut.push _).push _))
theorem aAi(hh:A.handled=none)(I:Addr)(ak:d≠I)(gg:o.data=.dict es ep):Walks prog w A I [I,d] [I] es.size (λi v=>∃en,es[i]?=some en/\v=en.val) (λi h=>h.IsValIter I d i es.size ep/\h.get? d=some o) where
 sub:=λb hb=>by simp at hb;simp[hb]
 frame:=λ_ _ _ st hk=>⟨st.1.at λo e=>hk I (by simp) o e,hk d (by simp) _ st.2⟩
 item:=λi s Q E hi st hQ=>by
  have he:es[i]?=some es[i]:=LX hi
  refine Nr st.1 st.2 gg rfl he λh' jr m5=>?_
  exact hQ _ h' s.toks ⟨_,he,rfl⟩ ⟨jr,m5.extBut _ _ ak st.2⟩ λb o hb e=>m5.extBut b o (λh=>hb (by simp[h])) e
 done:=λs Q E st hQ=>Qz hh st.1 st.2 gg rfl (ap _) λh' pf=>hQ h' s.toks λb o hb e=>pf b o (λh=>hb (by simp[h])) e
 self:=λ_ _ _ _ st hQ=>wpAny_pyIter_valiter st.1 hQ
end
theorem aP.dT2{X:Cx}{pins:List (Addr×Obj)}{σ:St}{H:Hp}{s:Shared}{d:Addr}{aI:List (List dP×V)}(I:aP X pins σ H s)(h:H d=some (.dT aI)):
  (d==sysModules)=false/\∃o:Obj,s.heap.get? d=some o/\o.ExactDict/\∃(es:Array DictEntry)(ep:Nat),o.data=.dict es ep/\es.size=aI.length/\∀(i:Nat)(k:List dP)(v:V),aI[i]?=some (k,v)->∃en:DictEntry,es[i]?=some en/\bQ v en.val:=by
 obtain⟨z,hs,xs,pr,o,es,ep,ho,hx,bq,he,_⟩:=I.hok d _ h
 refine⟨hs,o,ho,hx,es,ep,bq,?_,λi k v e=>?_⟩
 ·have l1:es.size=xs.length:=C0 he
  have l2:aI.length=xs.length:=Paired.length pr
  (clear z;omega)
 ·obtain⟨b,hb,e1,e2,e3⟩:=lJ pr e
  have q:=entry_at he i
  rw[hb] at q
  exact⟨_,q,e3⟩
theorem tQ{val:Nat->Int}{ns:List Int}:∀n,n<=ns.length->(∀i x,ns[i]?=some x->val i=x)->preSum val n=(ns.take n).sum
 |0,_,_=>by rw[List.take_zero];rfl
 |n+1,h,hv=>by
  have e:ns[n]?=some ns[n]:=ba (by omega)
  rw[preSum,tQ n (by omega) hv,i3,e,List.sum_append,hv n _ e]
  show _=_+[ns[n]].sum
  rw[mj,List.sum_nil,Int.add_zero]
def aCq(te:TE):TE:=fun σ H Q=>te σ H λx H1=>∃(d:Addr) (aI:List (List dP×V)) (ns:List Int),x=.ref d/\H1 d=some (.dT aI)/\aI.map (·.2)=ns.map V.int/\Q (.int ns.sum) H1
theorem Ug{X:Cx}{e:Expr}{te:TE}{p1 cx b9 pos:Pos}(hc:X.calm=true)(hg:Gl X "sum")(hm:X.mg "sum"=none)(he:PE X e te)(lr:attributeBase e "values" X.env (eval e X.env)=eval e X.env:=by rfl)(pc:(cx.endLine==b9.line)=true:=by rfl)
  (gy:starEach [.Call (.Attribute e "values" cx) [] [] b9] X.env=[(false,eval (.Call (.Attribute e "values" cx) [] [] b9) X.env)]:=by rfl):PE X (.Call (.Name "sum" p1) [.Call (.Attribute e "values" cx) [] [] b9] [] pos) (aCq te):=by
 intro pins s σ H Q I h
 refine wpAny_Call_Name_kw (jR I hg hm boot_sum ?_ (by decide) (by decide))
 refine GS ?_ gy rfl
 rw[gy]
 show wpAny _ _ (spliced ((false,eval (.Call (.Attribute e "values" cx) [] [] b9) X.env)::backTo pos [])) _ _ s
 refine z5 ?_
 refine wpAny_Call_method (T:="dict") (id:="dict.values") lr rfl pc HG F.slot_dict_values F.type_dict_values (cD (he pins s σ H _ I h) λu s1 ⟨x,H1,I1,rx,d,aI,ns,ex,hd,hv,q⟩=>?_)
 subst ex
 obtain rfl:u=Value.ref d:=rx
 obtain⟨hs,o,c7,hx,es,ep,bq,hsz,kq⟩:=I1.dT2 hd
 have gf:s1.TypeIs (.ref d) "dict":=⟨o,c7,hx.1⟩
 refine⟨gf,λb q=>by cases q;exact⟨o,c7,hx.2.1⟩,?_⟩
 show wpAny _ _ (callWith b9 (.builtin "dict.values") [.ref d] [] []) _ X.xe s1
 have ax:ns.length=es.size:=by rw[hsz,<-ah (f:=V.int),<-hv,ah]
 have fj:=a9 c7
 refine HH F.slot_dict_values F.entry_dict_values rfl (PySem.evalArgs_none ⟨rfl,gf,F.args_dict_values_1 _,_,Re hs,gf,?_⟩)
 refine CD ?_
 refine call_sum_walkG (Mg (d:=d) (n:=es.size) ⟨_,cf _ rfl,rfl,rfl⟩ (br _ c7) bq rfl ?_)
 have hz:(s1.heap.push {cls:=.type "dict_values",data:=.fields #[.ref d]}).objs.size=s1.heap.objs.size+1:=ja ..
 refine⟨_,_,_,_,_,_,λi=>ns.getD i 0,rfl,aAi (A:=X.A.in1) (I1.ok.hd hc) _ (λz=>?_) bq,⟨⟨_,cf _ rfl,rfl,rfl⟩,br _ (br _ c7)⟩,λb hb=>?_,λi v hP=>?_,λh' tk t' hk=>?_⟩
 ·rw[z] at fj
  have fj:(s1.heap.push {cls:=.type "dict_values",data:=.fields #[.ref d]}).objs.size<s1.heap.objs.size:=fj
  omega
 ·show b<((s1.heap.push _).push _).objs.size
  rw[ja]
  rcases aw.mp hb with rfl|hb
  ·exact jl _
  ·rw[b5.mp hb,hz]
   exact CO fj (CO (jl _) (jl _))
 ·obtain⟨en,e1,rfl⟩:=hP
  have hi:=(qr.mp e1).1
  have LG:i<aI.length:=by rw[<-hsz];exact hi
  obtain⟨P8,e2,r⟩:=kq i aI[i].1 aI[i].2 (ba LG)
  rw[e1] at e2
  cases e2
  have aq:i<ns.length:=by rw[ax];exact hi
  have ev:aI[i].2=V.int (ns.getD i 0):=by
   have:=congrArg (λl:List V=>l[i]?) hv
   simp only[bf,ba LG,ba aq,HJ] at this
   rw[cy,ba aq]
   exact Option.some.inj this
  rw[ev] at r
  exact r
 ·have e3:preSum (λi=>ns.getD i 0) es.size=ns.sum:=by
   rw[tQ (ns:=ns) es.size (by rw[ax];exact ap _) (λi x e=>by rw[cy,e];rfl),<-ax,ik]
  rw[e3]
  refine⟨.int _,H1,I1.kept λb u e=>hk b u (λz=>?_) (br _ (br _ e)),⟨_,rfl⟩,q⟩
  have hb:=a9 e
  rw[b5.mp z] at hb
  have hb:(s1.heap.push {cls:=.type "dict_values",data:=.fields #[.ref d]}).objs.size<s1.heap.objs.size:=hb
  omega
end L2
namespace Br1
open PySem PySem.Spec PyProof.Rows L2
def uB(ls:List (List Nat)):Br.Build:=⟨[],ls.map iZ⟩
def szR(prs:List aM)(ls:List (List Nat)):List Int:=[(uB ls).lines.length,((uB ls).cells (prs.map cG)).length,BrB.clutched (prs.map cG) (uB ls),BrB.groups (prs.map cG) (uB ls),BrB.weight (prs.map cG) (uB ls),BrB.high (prs.map cG) (uB ls)].map λ(n:Nat)=>(n:Int)
def Hr(lc lb:List Int):List Int:=sD (λprs _ ls=>szR prs ls) lc lb
theorem Hw{lc lb:List Int}(hc:Oo lc)(hb:Oo lb):PyWqasbx.sizes lc lb=Hr lc lb:=by
 show BuildsNeutral.shown (BrB.answer (.sizes (Hz lc) (Hz lb)))=_
 unfold BrB.answer
 refine Ij hc hb λprs nm ls d R=>?_
 have e:=R.dl
 obtain⟨VA,L⟩:=d
 have e:L=ls.map iZ:=e
 subst e
 rfl
theorem Xe{prs:List aM}{ls:List (List Nat)}(R:iE (dI prs ls)){ms:List Nat}(hm:xJ (pK prs ls) ls.length ms){u:List Int}(un:u.Nodup)(ue:∀x,x∈u↔x∈ms.map λ(n:Nat)=>(n:Int)){h:Int}
  (h0:iW (dI prs ls)=[]->h=0) (h1:iW (dI prs ls)≠[]->(∃c∈iW (dI prs ls),h=c.1.2.2+1)/\∀c∈iW (dI prs ls),c.1.2.2+1<=h):
  szR prs ls=[(ls.length:Int),((iW (dI prs ls)).length:Int),((pK prs ls).length:Int),(u.length:Int),((ls.map λx=>((prs.map (·.g)).getD (dM x 0) 0:Nat)).sum:Nat),h]:=by
 have hd:(uB ls).lines=ls.map iZ:=rfl
 have hs:=sT (prs:=prs) hd
 have e2:((uB ls).cells (prs.map cG)).length=(iW (dI prs ls)).length:=by
  rw[Nf R,<-hs]
  unfold Br.Build.cells Br.Build.shapes
  rw[NN]
  rfl
 have e3:BrB.clutched (prs.map cG) (uB ls)=(pK prs ls).length:=by
  unfold pK BrB.clutched
  rw[Av R,hs]
 have e4:BrB.groups (prs.map cG) (uB ls)=u.length:=by
  have nn:∀x∈u,0<=x:=λx hx=>by
   obtain⟨n,_,rfl⟩:=a6.mp ((ue x).mp hx)
   omega
  have:=Fh hd R hm (u:=u.map Int.toNat) (by
    have key:∀{l:List Int},(∀x∈l,0<=x)->l.Nodup->(l.map Int.toNat).Nodup:=by
     intro l
     induction l with
     |nil=>intro _ _;exact vo
     |cons a r ih=>
      intro hn hd
      have hd:=jb.mp hd
      refine jb.mpr ⟨λz=>?_,ih (λx hx=>hn x (az _ hx)) hd.2⟩
      obtain⟨b,hb,e⟩:=a6.mp z
      have h1:=hn a bg
      have h2:=hn b (az _ hb)
      have:a=b:=by omega
      exact hd.1 (by rw[this];exact hb)
    exact key nn un) (λx=>by
    rw[a6]
    constructor
    ·rintro⟨y,hy,rfl⟩
     obtain⟨n,hn,rfl⟩:=a6.mp ((ue y).mp hy)
     exact hn
    ·intro hx
     exact⟨(x:Int),(ue _).mpr (o4 (f:=λ(n:Nat)=>(n:Int)) hx),rfl⟩)
  rw[ah] at this
  exact this
 have e5:BrB.weight (prs.map cG) (uB ls)=(ls.map λx=>((prs.map (·.g)).getD (dM x 0) 0:Nat)).sum:=by
  unfold BrB.weight
  rw[hd,d4]
  refine congrArg List.sum (AM λx _=>?_)
  show (((prs.map cG).getD (dM x 0) Br.nothing).weight:Nat)=(prs.map (·.g)).getD (dM x 0) 0
  rw[cy,cy,bf,bf]
  cases prs[dM x 0]?<;>rfl
 have e6:=Om hd R h0 h1
 unfold szR
 rw[e2,e3,e4,e5]
 show [(((ls.map iZ).length:Nat):Int),_,_,_,_,((BrB.high (prs.map cG) (uB ls):Nat):Int)]=_
 rw[e6,ah]
theorem zN:∀l:List Nat,((l.sum:Nat):Int)=(l.map λ(n:Nat)=>(n:Int)).sum
 |[]=>rfl
 |a::r=>by rw[mj,bz,mj,Int.natCast_add,zN r]
theorem Lq{sg ow:CL}:(jT sg ow).length<=sg.length:=IA _ _
section
variable {P:Program} {w:World} {K:PySem.W.Frag} {mg:Str->Option Value} {base:Heap} {C CR CP CB CG CM:Addr}
def Ch(K:PySem.W.Frag):Sp:=λvs H Q _=>∃(c b:Addr)(lc lb:List Int),vs=[.ref c,.ref b]/\Oo lc/\Oo lb/\cP K H c (lc.map V.int)/\cP K H b (lb.map V.int)/\∀(H':Hp)(l:Addr),H' l=some (.lst ((Hr lc lb).map V.int))->Q (.ref l) H'
abbrev Gp:List Str:=["c","b","given","counts","groups","weight","height","put","place"]
theorem fF:aQ Gp ["c","b"] (aH iT):=⟨rfl,rfl,rfl,by decide+kernel,rfl,by decide+kernel,by decide+kernel⟩
theorem Pz{f:Addr}{fd:FuncData}(F:fH K "sizes" "sizes" iT f fd)(T:GvT K CG)(TB:BdT K CB)(TM:Vq K CM)(TP:Nn K CP)(ax:mg "len"=none)(T2:mg "set"=none)(LH:mg "sum"=none)(T3:mg "max"=none)(L1:dL P w K mg base "read_right" bU 10 ["c","b"] (wO K CG CP CB CM))(L2:dL P w K mg base "clutches" bU 2 ["room"] (pJ CM))(L3:dL P w K mg base "least_of_groups" bU 2 ["size","counts"] Bi):bT P w K mg base bU 11 f fd ["c","b"] (Ch K):=by
 obtain⟨g1,gh,G1,b1,k1,h1⟩:=L1.ex
 obtain⟨g2,ku,G2,b2,k2,h2⟩:=L2.ex
 obtain⟨g3,zb,G3,b3,k3,h3⟩:=L3.ex
 refine F.ok fF (λvs H Q E h=>?_) (λai A outer s H vs Q E hr h=>?_)
 ·obtain⟨c,b,lc,lb,rfl,_⟩:=h
  rfl
 ·obtain⟨c,b,lc,lb,rfl,bc,bb,hc,hb,k⟩:=h
  have ay:=hr.mono (j:=2) (by decide)
  refine⟨_,aE (aZ (i:=2) fF.nd rfl (by first|exact Or.inl rfl|exact Or.inr rfl) (aT G1 hr (by rfl) h1 k1 b1 .nil aY (aA (pv 0) (aA (pv 1) aF))))
   (aE (dZ (dE (Ix (aO (pv 2) rfl) aJ)) (aG (aW (dU (aA (aO (pv 2) rfl) aF)))) bX)
   (aE (aZ (i:=3) fF.nd rfl (Or.inl rfl) (aT G2 ay (by rfl) h2 k2 b2 .nil aY (aA (aO (pv 2) rfl) aF)))
   (aE (aZ (i:=4) fF.nd rfl (Or.inl rfl) (Nh rfl (by rfl) (by rfl) ax T2 (aT G3 ay (by rfl) h3 k3 b3 .nil aY (aA (bK bI (by rfl) ax PySem.boot_len (aA (aO (aO (pv 2) rfl) rfl) aF)) (aA (pv 3) aF)))))
   (aE (aZ (i:=5) fF.nd rfl (Or.inl rfl) (bK (aAj rfl) (by rfl) LH boot_sum (aA (Ga (own:=[("put",7)]) (te:=Le K (Rc (Yl K) (Le K (eF 2) "parts") (Rc (Hd K) (eF 7) (tC (.int 0)))) "weight") rfl fF.nd (nV (aO (aO (pv 2) rfl) rfl)) (gU (N:=Gp) (sc:=aH iT) (by decide+kernel))
     (λ_ _ _ _ _=>bH (i:=7) fF.nd rfl (Or.inl rfl)) (λ_ _ _ _ _=>lO) (λ_ _ _ _ _=>aO (bS (r:=Yl K) fJ (aO (pv 2) rfl) (bS (r:=Hd K) bO (pv 7) aJ (λ_ _=>rfl)) (λ_ _=>rfl)) rfl)) aF)))
   (aE (gQ (aZ (i:=6) fF.nd rfl (Or.inl rfl) (Ui rfl (by rfl) T3 (Ga (own:=[("place",8)]) (te:=Rc (Ve λi j=>.int (i+j)) (Rc (Hd K) (eF 8) (tC (.int 2))) (tC (.int 1))) rfl fF.nd (uM (aO (aO (pv 2) rfl) rfl)) (gU (N:=Gp) (sc:=aH iT) (by decide+kernel))
     (λ_ _ _ _ _=>bH (i:=8) fF.nd rfl (Or.inl rfl)) (λ_ _ _ _ _=>lO) (λ_ _ _ _ _=>cR gH (bS (r:=Hd K) bO (pv 8) aJ (λ_ _=>rfl)) aJ)))))
   (aG (aW (dU (aA (bK bI (by rfl) ax PySem.boot_len (aA (aO (aO (pv 2) rfl) rfl) aF)) (aA (bK oH (by rfl) ax PySem.boot_len (aA (aO (aO (pv 2) rfl) rfl) aF)) (aA (Ug rfl (by rfl) LH (pv 3)) (aA (pv 4) (aA (pv 5) (aA (pv 6) aF)))))))))))))),?_⟩
  refine⟨_,rfl,_,rfl,c,b,lc,lb,rfl,hc,hb,λH1 g S1 zu hg=>?_⟩
  obtain⟨dx,pa,bv,rv,rf,ft,hg,alt⟩:=Ws hg
  unfold Hr at k
  refine⟨_,rfl,g,CG,dx,_,_,rfl,hg,T.cl,T.n1,rfl,_,_,rfl,rfl,_,rfl,bY (λe=>?_) (λe=>?_)⟩
  ·have e:rf<0:=dq e
   rcases alt with ⟨_,hR⟩|⟨h0,_⟩
   ·rw[hR] at k
    exact⟨_,rfl,g,CG,dx,_,_,rfl,hg,T.cl,T.n1,rfl,by show 1<=sizeLine;decide,λl hl=>k _ l aC⟩
   ·omega
  have e:¬rf<0:=λz=>e (cn z)
  rcases alt with ⟨aj,_⟩|⟨h0,prs,nm,ls,q,m,bs,eg,hR,fr,rfl,rfl,c8,d3,zg,F3,px⟩
  ·exact absurd aj e
  rw[hR] at k
  have RR:=Rp bc bb eg fr
  have g6:=uG eg
  obtain⟨dm,s0,o0,wr,sg,ow,hm,hw,hs,ho,so,T4,ln,_⟩:=F3
  obtain⟨rfl,rfl⟩:=T4 fr
  obtain⟨ve,na,la,ts,hq,_,jw,sk,T5,_⟩:=zg
  have u6:ts.length=ls.length:=Paired.length sk
  have hl:(ts.map V.ref).length=ls.length:=by rw[ah];exact u6
  have bw:=eL
  refine⟨_,rfl,g,CG,dx,_,_,rfl,hg,T.cl,T.n5,rfl,m,dm,s0,o0,wr,_,_,rfl,hm,hs,ho,so,RR.self,RR.sub,ln,λH2 d S2 kr hd=>?_⟩
  refine⟨_,rfl,g,CG,dx,_,_,rfl,S2 _ _ hg,T.cl,T.n4,rfl,q,CB,ve,_,_,rfl,S2 _ _ hq,TB.cl,TB.n2,rfl,la,_,rfl,.inl (cP.of (S2 _ _ jw)),?_⟩
  rw[hl]
  refine⟨_,rfl,ls.length,d,pK prs ls,rfl,hd,T5,λa b T6=>?_,d6 Lq ln,λH3 l ms S3 h3 GJ=>?_⟩
  ·obtain⟨x,y,e1,e2,q1,q2⟩:=Ju RR T6
   rw[Os] at q1 q2
   exact⟨x,y,e1,e2,q1,q2⟩
  have em:ms.map vN=(ms.map λ(n:Nat)=>(n:Int)).map V.int:=by rw[d4];rfl
  rw[em] at h3
  refine⟨l,_,rfl,cP.of h3,by rw[ah,GJ.1];omega,λu un ue=>?_⟩
  have xk:=S2.trans S3
  have iw:=S3 _ _ hd
  refine⟨_,rfl,g,CG,dx,_,_,rfl,xk _ _ hg,T.cl,T.n4,rfl,q,CB,ve,_,_,rfl,xk _ _ hq,TB.cl,TB.n2,rfl,la,rfl,⟨_,cP.of (xk _ _ jw)⟩,λD1 gw=>?_⟩
  refine uK (K:=K) (xs:=ts.map V.ref) (λi H'=>aK H3 H'/\H' D1=some (.lst ((((ls.map λx=>((prs.map (·.g)).getD (dM x 0) 0:Nat)).map λ(n:Nat)=>(n:Int)).take i).map V.int))) ⟨aK.new gw,aC⟩ (λi H' _ z=>cP.of (z.1 _ _ (xk _ _ jw))) ?_ ?_
  ·rintro i x H4 ex ⟨S4,sd⟩
   have hi:i<ls.length:=by
    have:=(bh.mp ex).1
    rwa [ah,u6] at this
   obtain⟨v,ev⟩:∃v,ls[i]?=some v:=⟨_,ba hi⟩
   obtain⟨t,et,ht,VB⟩:=cH sk ev
   rw[bf,et] at ex
   cases ex
   have aj:=(g6 v (dg ev)).2
   obtain⟨pr,j7⟩:∃pr,prs[dM v 0]?=some pr:=⟨_,ba aj⟩
   obtain⟨pb,eb,ze,po⟩:=cH d3 j7
   obtain⟨F5,KY,cc,f1,f2,f3⟩:=ze
   have j6:=xk.trans S4
   have T7:Sg (v.map zC) 0=some (V.int (dM v 0)):=by
    refine fZ (j:=0) ?_
    unfold dM
    rw[bf,cy,ba (by omega)]
    rfl
   refine⟨rfl,_,rfl,g,CG,dx,_,_,rfl,j6 _ _ hg,T.cl,T.n3,rfl,_,rfl,t,_,_,_,rfl,rfl,cN.of (j6 _ _ ht),T7,pa,_,_,.ref pb,rfl,rfl,cP.of (j6 _ _ c8),fZ (by rw[bf,eb];rfl),pb,CP,F5,_,_,rfl,j6 _ _ f1,TP.cl,TP.n5,rfl,_,sd,?_,?_,?_⟩
   ·rw[ah,ij,ah,ah]
    omega
   ·intro b' o e
    rw[aB (aD e gw)]
    exact S4 _ _ e
   ·have e3:((ls.map λx=>((prs.map (·.g)).getD (dM x 0) 0:Nat)).map λ(n:Nat)=>(n:Int))[i]?=some (pr.g:Int):=by
     rw[bf,bf,ev]
     show some (((prs.map (·.g)).getD (dM v 0) 0:Nat):Int)=_
     rw[cy,bf,j7]
     rfl
    rw[aC,i3,e3,cp]
    rfl
  ·rintro H4 ⟨S4,sd⟩
   rw[hl,AA (by rw[ah,ah];exact ap _)] at sd
   refine⟨D1,_,rfl,cP.of sd,?_⟩
   rw[<-zN]
   have j6:=xk.trans S4
   have ki:=j6 _ _ hs
   refine⟨s0,_,ki,trivial,λod=>?_⟩
   have T9:g≠s0:=λz=>by rw[z] at hg;have:=j6 _ _ hg;rw[ki] at this;cases this
   have d5:m≠s0:=λz=>by rw[z] at hm;have:=j6 _ _ hm;rw[ki] at this;cases this
   have jv:upd H4 s0 (.frz od (.dT (aI (iW (dI prs ls))))) s0=some (.frz od (.dT (aI (iW (dI prs ls))))):=aC
   refine⟨_,rfl,g,CG,dx,_,_,rfl,by rw[aB T9];exact j6 _ _ hg,T.cl,T.n5,rfl,m,CM,dm,_,_,rfl,by rw[aB d5];exact j6 _ _ hm,TM.cl,TM.n1,rfl,s0,od,rfl,.inr ⟨_,jv,λD2 yz=>?_⟩⟩
   refine wC (λi H'=>aK (upd H4 s0 (.frz od (.dT (aI (iW (dI prs ls)))))) H'/\H' D2=some (.lst ((((iW (dI prs ls)).map λc=>c.1.2.2+1).take i).map V.int))) ⟨aK.new yz,aC⟩ (λi H' _ z=>z.1 _ _ jv) ?_ ?_
   ·rintro i kk vv q2 H5 e5 ⟨S5,og⟩ cu
    obtain⟨p,sv,e6,rfl,rfl⟩:=gO e5
    refine⟨rfl,_,rfl,q2,_,_,.int p.2.2,rfl,rfl,cN.of cu,rfl,_,_,rfl,rfl,_,og,?_,?_,?_⟩
    ·rw[ah,ij,ah]
     omega
    ·intro b' o e
     rw[aB (aD e yz)]
     exact S5 _ _ e
    ·have e7:((iW (dI prs ls)).map λc=>c.1.2.2+1)[i]?=some (p.2.2+1):=by rw[bf,e6];rfl
     rw[aC,i3,e7,cp]
     rfl
   ·rintro H5 ⟨S5,og⟩
    rw[eX,AA (by rw[ah];exact ap _)] at og
    have SF:=gL ki S5
    have oq:=j6.trans SF
    have LI:(rK (oV (pK prs ls))).map (·.2)=((oV (pK prs ls)).map (·.2)).map V.int:=by
     unfold rK
     rw[d4,d4]
     rfl
    refine⟨D2,_,rfl,cP.of og,λe0=>?_,λmx GK fu=>?_⟩
    ·refine⟨S5 _ _ jv,?_⟩
     refine⟨_,rfl,g,CG,dx,_,_,rfl,oq _ _ hg,T.cl,T.n4,rfl,q,CB,ve,_,_,rfl,oq _ _ hq,TB.cl,TB.n2,rfl,la,_,rfl,.inl (cP.of (oq _ _ jw)),_,rfl,g,CG,dx,_,_,rfl,oq _ _ hg,T.cl,T.n5,rfl,m,CM,dm,_,_,rfl,oq _ _ hm,TM.cl,TM.n1,rfl,s0,_,rfl,.inl aC,_,rfl,d,_,_,rfl,(S4.trans SF) _ _ iw,LI,_,rfl,_,rfl,_,rfl,by show 6<=sizeLine;omega,λl2 gj=>k _ l2 ?_⟩
     rw[aC,Xe RR GJ un ue (h:=0) (λ_=>rfl) (λz=>absurd (NQ.mp e0) z),(Bz _).sum,hl,eX]
     rfl
    ·refine⟨S5 _ _ jv,?_⟩
     refine⟨_,rfl,g,CG,dx,_,_,rfl,oq _ _ hg,T.cl,T.n4,rfl,q,CB,ve,_,_,rfl,oq _ _ hq,TB.cl,TB.n2,rfl,la,_,rfl,.inl (cP.of (oq _ _ jw)),_,rfl,g,CG,dx,_,_,rfl,oq _ _ hg,T.cl,T.n5,rfl,m,CM,dm,_,_,rfl,oq _ _ hm,TM.cl,TM.n1,rfl,s0,_,rfl,.inl aC,_,rfl,d,_,_,rfl,(S4.trans SF) _ _ iw,LI,_,rfl,_,rfl,_,rfl,by show 6<=sizeLine;omega,λl2 gj=>k _ l2 ?_⟩
     rw[aC,Xe RR GJ un ue (h:=mx) (λz=>by rw[z] at GK;cases GK) (λ_=>⟨by obtain⟨c,hc,e⟩:=a6.mp GK;exact⟨c,hc,e.symm⟩,λc hc=>fu _ (o4 (f:=λ(c:Pl×Int)=>c.1.2.2+1) hc)⟩),(Bz _).sum,hl,eX]
     rfl
end
theorem Oi{P:Program}{w:World}{K:PySem.W.Frag}{h:Heap}{mg:Str->Option Value}{fa:Addr}(X:K.In h)(G:h.Ns mainGlobals mg)(UA:mg "sizes"=some (.ref fa))(k:∀f∈ftC,f.P K)(k2:∀f∈ftR,f.P K)(nl:PySem.W.nsIn K mainGlobals "len"=some none)(nr:PySem.W.nsIn K mainGlobals "range"=some none)(ns:PySem.W.nsIn K mainGlobals "set"=some none)(nu:PySem.W.nsIn K mainGlobals "sum"=some none)(nx:PySem.W.nsIn K mainGlobals "max"=some none)(kc:jO K "clutches" "clutches" jV)(km:jO K "mark_group" "mark_group" wN)(kl:jO K "least_of_groups" "least_of_groups" nN)(kj:jO K "sizes" "sizes" iT):
  ∃fd:FuncData,(∀(s:Shared)(us:List Value),us.length=(["c","b"]:List Str).length->BindsTo s fd ⟨us,[]⟩ ((["c","b"]:List Str).zip us))/\∀base:Heap,K.In base->base.Ns mainGlobals mg->bT P w K mg base bU 11 fa fd ["c","b"] (Ch K):=by
 obtain⟨f,oc,od,kV,bo,pm,an,ai,ct,cq,a,l,c,kp⟩:=kj
 have e:=UA.symm.trans (PySem.W.mg_of X G a)
 cases e
 have F:=rM (st:=iT) l c kp
 refine⟨PySem.W.fnOf "sizes" "sizes" (eO iT) (dQ iT) (aH iT) .none kV bo pm an ai ct,λs us hu=>(by obtain⟨a,b,rfl⟩:=_root_.L2.yG hu;exact .of_eq rfl),λbase X2 G2=>?_⟩
 have L:=aD2 (P:=P) (w:=w) (base:=base) X G k
 have R:=aBn X G L k2
 have nn:∀{x:Str},PySem.W.nsIn K mainGlobals x=some none->mg x=none:=λz=>PySem.W.mg_none_of X G z
 have M1:dL P w K mg base "clutches" bU 2 ["room"] (pJ (dO K "Room")):=jO.fn0 kc X G (λf fd F=>Fr F R.TM L.up L.stud L.tube) λ_ _ _ _ _ _ us hl=>(by obtain⟨a,rfl⟩:=_root_.L2.uA hl;rfl)
 have M2:dL P w K mg base "mark_group" bU 1 ["first","held","least"] Gi:=jO.fn0 km X G (λf fd F=>Tb F (nn nl)) λ_ _ _ _ _ _ us hl=>(by obtain⟨a,b,c,rfl⟩:=_root_.L2.us3 hl;rfl)
 have M3:dL P w K mg base "least_of_groups" bU 2 ["size","counts"] Bi:=jO.fn0 kl X G (λf fd F=>Oj F (nn nr) M2) λ_ _ _ _ _ _ us hl=>(by obtain⟨a,b,rfl⟩:=_root_.L2.yG hl;rfl)
 exact Pz F L.TG L.TB R.TM L.TP (nn nl) (nn ns) (nn nu) (nn nx) R.right M1 M3
end Br1
namespace Br1
open PySem PySem.W
end Br1
namespace Br1
open PySem PySem.Spec PyProof.Rows L2
def hkC:PySem.W.Hook:=Zs asC ftZ
theorem Ru{l:List Int}(h:l.all (PySem.W.Codec.inInt 0 255)=true):Oo l:=λx hx=>PySem.W.Codec.inInt_iff.mp (mh.mp h x hx)
end Br1
open PySem PySem.W PyProof.Rows
set_option maxHeartbeats 0 in
theorem PySem.Challenge.cw_brickrooms_s04_sizes_holds : PySem.Challenge.rw_brickrooms_s04_sizes.Holds := by
 refine holds_os (q:=Br1.vwC) (loose:=Br1.Pi) (Xt:=λ_=>true) (XP:=λ_ _=>True) (Yf:=Br1.hkC.obs) (Ya:=Br1.hkC.val) (YP:=Br1.hkC.says) (N:=6102) Br1.aCo Br1.hkC.of Br1.hkC.keeps (λ_ _=>trivial) (λ_ _ _ _ _=>trivial) (by rfl) (by rfl) (by rfl) (λs _=>recFacts_of (s:=s) (by rfl)) os_shapes (by decide+kernel) (by decide+kernel) ⟨rfl,rfl,rfl,rfl,rfl,by decide+kernel⟩ ⟨[.list [],.list []],by decide+kernel,by decide+kernel⟩ ?_
 refine L2.Ig (r:=PySem.Challenge.rw_brickrooms_s04_sizes) (k:=11) (CX:=L2.bU) (ps:=["c","b"]) (sp:=Br1.Ch) (Good:=λK=>∀f∈Br1.ftZ,f.P K) (by decide+kernel) rfl rfl ⟨rfl,by decide,by decide⟩ (λw h Y=>Y) ?F ?S (λ_ _ _ _ z=>z)
 case F=>
  intro w K mg fa h g KX G FJ
  have k0:∀f∈Br1.ftC,f.P K:=λf hf=>g f (i9 _ hf)
  have g0:=λ(f:Br1.Ft)(hf:f∈_)=>g f (fk _ hf)
  have k1:∀f∈Br1.ftR,f.P K:=λf hf=>g0 f (i9 _ hf)
  have g1:=λ(f:Br1.Ft)(hf:f∈_)=>g0 f (fk _ hf)
  exact Br1.Oi KX G FJ k0 k1 (Br1.Ft.nth g1 0 (f:=.no "len") rfl) (Br1.Ft.nth g1 1 (f:=.no "range") rfl) (Br1.Ft.nth g1 2 (f:=.no "set") rfl) (Br1.Ft.nth g1 3 (f:=.no "sum") rfl) (Br1.Ft.nth g1 4 (f:=.no "max") rfl) (Br1.Ft.nth g1 5 (f:=.fn "clutches" Br1.jV) rfl) (Br1.Ft.nth g1 6 (f:=.fn "mark_group" Br1.wN) rfl) (Br1.Ft.nth g1 7 (f:=.fn "least_of_groups" Br1.nN) rfl) (Br1.Ft.nth g1 8 (f:=.fn "sizes" Br1.iT) rfl)
 case S=>
  intro K H xs a hO r6 VC hx
  cases hx with
  |cons hc rc=>
   cases rc with
   |cons hb rb=>
    cases rb
    cases hc with
    |lst gy UB=>
     cases hb with
     |lst ia UC=>
      have e1:=L2.Bl a.1 _ UB
      subst e1
      have e2:=L2.Bl a.2.1 _ UC
      subst e2
      have q:((Codec.inLen 0 100000 a.1 && a.1.all (Codec.inInt 0 255)) && ((Codec.inLen 0 17000 a.2.1 && a.2.1.all (Codec.inInt 0 255)) && true))=true:=r6
      simp only[cg] at q
      have bc:=Br1.Ru q.1.2
      have bb:=Br1.Ru q.2.1.2
      refine⟨_,_,a.1,a.2.1,rfl,bc,bb,gy,ia,λH' p hp=>?_⟩
      have m:=Br1.Hw bc bb
      show L2.Dw K H' (.ref p) (.list ((PyWqasbx.sizes a.1 a.2.1).map WData.int))
      rw[m]
      exact .lst (L2.cP.of hp) (L2.Jh _)
