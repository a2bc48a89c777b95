import PyProof.Rows.All
import Wide.All
import OpenK.AllK
import Wide.FinOn
import PyProof.EqAt
import PyProof.EqKinds
import PyProof.TupleCall
import KE.BitLaws
import Open.SpecLaws
import KE.OsHead
import KE.OsGo
import KE.KDictList
import PyProof.FString
import KE.KEqDict
import KE.KSortTupG
import KE.KSortKey
import PyProof.Rows.CallKwBuiltin
import PyProof.SetScanFacts
import PyProof.Rows.SetFrom
import PyProof.SetRoads
import PyProof.CollectIter
import PyProof.Rows.SortShellAny
import Open.Line
import Open.Tree
import Open.Boot
import PySem.Challenge.RW_brickrooms_s11_same
set_option Elab.async false
set_option linter.all false
set_option maxRecDepth 1000000
set_option maxHeartbeats 8000000
set_option compiler.extract_closed false
set_option bootstrap.genMatcherCode false
noncomputable section
open PySem (Addr Env Expr Obj Shared Str Value boot_len)
open PySem.W (Frag Hook WRecords callWith_K callWith_K0 cellsFrom_some codeIn codeRec_of emptyDict findIn fnOf handedIn hasDictIn instObj isFn isNs_of_in keepIn lookIn makesIn methodObj mg_none_of mg_of nsIn nsOkIn ns_none_of plainGet plainGet_of plainOver takerIn)
open PySem.F (args_tuple_add_2 called_set entry_tuple_add plainAttrs_list slot_tuple_add)
def ac:=@PySem.wpAny_bind
def ae:=@if_neg
def af:=@if_pos
def ag:=@PySem.wpAny_pure
def ai:=@List.length_map
def ao:=@List.mem_cons
def ap:=@Nat.le_refl
def au:=@Ne.symm
def ax:=@List.getElem?_eq_getElem
def az:=@List.mem_cons_of_mem
def a8:=@List.mem_map
def ba:=@PySem.Heap.lt_size
def bf:=@List.mem_cons_self
def bg:=@List.getElem?_map
def bh:=@PySem.Heap.get?_push_of_some
def bn:=@List.map_cons
def bp:=@List.getElem?_eq_some_iff
def bw:=@List.length_cons
def b6:=@Bool.false_ne_true
def b7:=@decide_eq_true_iff
def b8:=@Nat.ne_of_lt
def ca:=@List.size_toArray
def cb:=@PySem.Heap.get?_push_size
def cn:=@Bool.and_eq_true
def cp:=@beq_iff_eq
def cq:=@Bool.not_eq_true'
def cx:=@List.getD_eq_getElem?_getD
def c7:=@Nat.zero_le
def c8:=@List.length_append
def c9:=@List.map_append
def de:=@List.map_map
def dh:=@List.not_mem_nil
def dw:=@of_decide_eq_true
def d5:=@Array.length_toList
def d6:=@Prod.ext
def fc:=@Int.toNat_natCast
def fj:=@List.mem_of_getElem?
def gd:=@List.mem_append_right
def ge:=@Bool.eq_iff_iff
def gf:=@List.length_take
def gm:=@Nat.le_trans
def gn:=@PySem.Heap.size_push
def gq:=@List.mem_singleton
def ie:=@List.append_nil
def ig:=@PySem.wpAny_newObj_type
def io:=@or_false
def i7:=@Nat.lt_of_lt_of_le
def i8:=@Bool.true_and
def je:=@List.mem_append
def jf:=@PySem.wpAny_call_entry
def jg:=@List.take_succ
def jk:=@decide_eq_false
def jl:=@List.mem_filter
def jm:=@PySem.wpAny_mono
def jn:=@List.find?_cons
def jo:=@List.take_length
def ju:=@if_false
def jv:=@List.getElem?_eq_none
def jw:=@List.all_eq_true
def jx:=@PySem.Heap.SameBut.update
def jy:=@PySem.PassesOwn.never
def j6:=@Nat.lt_irrefl
def j7:=@PySem.wpAny_field
def j8:=@PySem.wpAny_holding
def j9:=@Option.isSome_map
def kc:=@PySem.Obj.data_mapFields
def lq:=@List.mem_append_left
def lr:=@Bool.false_and
def lu:=@Nat.lt_succ_self
def lw:=@PySem.wpAny_setField
def lx:=@decide_eq_false_iff_not
def mj:=@PySem.wpAny_callSpecial?_slot
def mm:=@Nat.mul_comm
def mq:=@Nat.add_comm
def mr:=@List.any_eq_true
def oh:=@Array.getElem?_toList
def oj:=@PySem.Heap.get?_update_self
def om:=@Nat.succ_mul
def oo:=@Nat.zero_add
def oq:=@Int.toNat_of_nonneg
def o9:=@Option.map_eq_some_iff
def pb:=@beq_eq_false_iff_ne
def pc:=@Nat.ne_of_gt
def pd:=@List.nodup_cons
def pf:=@Bool.false_eq_true
def ph:=@PySem.wpAny_dictEntries
def pi:=@List.mem_iff_getElem?
def px:=@List.mem_map_of_mem
def qz:=@PySem.sizeLine_eq
def re:=@List.any_cons
def rg:=@List.append_assoc
def rh:=@Nat.mod_lt
def rj:=@Bool.not_eq_true
def ua:=@PySem.codeAny_mono
def ub:=@List.all_cons
def uc:=@PySem.wpAny_attempt
def ud:=@PySem.Obj.isFreed_of_fields
def ue:=@Nat.not_lt_zero
def ug:=@List.Pairwise.map
def uh:=@List.map_congr_left
def ui:=@List.getElem_mem
def uj:=@forall_eq_or_imp
def uk:=@forall_eq
def vm:=@List.mem_range
def vn:=@Nat.le_of_eq
def vo:=@Option.isSome_iff_exists
def vp:=@if_true
def vq:=@List.map_nil
def vt:=@PySem.Heap.get?_update_other
def vw:=@List.lookup_cons
def v9:=@Nat.lt_succ_of_lt
def wa:=@PySem.wpAny_dictEpoch
def wb:=@PySem.wpAny_fieldsOf
def wc:=@PySem.wpAny_loadPart_at
def xz:=@PySem.wpAny_execs_nil
def ya:=@Bool.or_eq_true
def yb:=@Array.getElem?_eq_some_iff
def yc:=@Bool.not_eq_false
def yd:=@Nat.add_mul_mod_self_right
def ye:=@Nat.mod_eq_of_lt
def yf:=@Nat.add_mul_div_right
def yg:=@Nat.div_eq_of_lt
def yh:=@PySem.wpAny_rule
def yj:=@List.zip_cons_cons
def yk:=@Bool.and_false
def ym:=@List.take_of_length_le
def yn:=@List.eq_nil_of_length_eq_zero
def yo:=@List.pairwise_cons
def yq:=@PySem.wpAny_setState_of
def z8:=@List.filterMap_cons
def z9:=@PyProof.Rows.callWith_type1
def AA:=@List.mem_filterMap
def AB:=@PySem.wpAny_call
def AC:=@Nat.le_succ
def AD:=@PyProof.Rows.slot_tuple_getitem
def AE:=@List.length_singleton
def AF:=@List.length_nil
def AG:=@PySem.F.slot_dict_keyiterator_next
def AH:=@PySem.wpAny_of_eq
def AI:=@PySem.wpAny_isInstance
def AJ:=@Classical.not_not
def AK:=@Nat.mul_le_mul_right
def AL:=@PySem.wpAny_loadPart'
def AM:=@Nat.lt_of_succ_lt
def AN:=@List.getElem?_range
def AO:=@List.length_range
def AQ:=@List.contains_iff_mem
def AR:=@PySem.codeAny_builtin
def AS:=@PySem.wpAny_askSetting
def B7:=@Nat.le_of_lt
def B8:=@List.of_mem_zip
def B9:=@PySem.wpAny_typeOf
def B':=@List.any_map
def CA:=@not_or
def CC:=@PySem.wpAny_standAt
def CD:=@PySem.tupleKind_room_in1
def CF:=@PySem.wpAny_pyIter_slot
def CH:=@PySem.Obj.cls_mapFields
def CJ:=@PySem.wpAny_handled
def CK:=@PySem.wpAny_throw
def CN:=@PySem.size_of_entries
def CO:=@PySem.entry_at
def CQ:=@Nat.le_add_right
def CU:=@PySem.wpAny_typeLookup_exc
def CV:=@Nat.sub_zero
def CW:=@Nat.sub_self
def CY:=@PySem.F.slot_dict_itemiterator_next
def CZ:=@List.ext_getElem?
def C0:=@Nat.mul_pos
def C1:=@List.pairwise_iff_getElem
def C2:=@PySem.Around.under_plainId
def C3:=@PySem.wpAny_setEntries_of
def ER:=@List.getElem?_set_self
def ES:=@PySem.wpAny_pyIter_tuple
def ET:=@List.all_map
def EU:=@PySem.pushCells_keeps
def EV:=@Nat.le_of_succ_le
def EW:=@Nat.lt_trans
def EX:=@PySem.wpAny_typeNameOfWhole_keyiter
def EY:=@PySem.wpAny_typeNameOf_keyiter
def EZ:=@Array.getElem?_eq_getElem
def E1:=@PySem.isSubtype_stop
def E2:=@PySem.wpAny_pyIter_enum
def E3:=@beq_self_eq_true
def E4:=@PySem.typeLookup_type
def E5:=@PySem.builtinLookup_eq_fast
def E6:=@PySem.F.excBase_Exception
def E7:=@List.drop_eq_getElem_cons
def E8:=@and_true
def E9:=@Nat.div_add_mod
def FA:=@Nat.mul_le_mul
def FC:=@PySem.wpAny_typeNameOfWhole_itemiter
def FD:=@PySem.wpAny_typeNameOf_itemiter
def FE:=@PySem.F.slot_dict_items
def FF:=@PySem.F.slot_tuple_iterator_next
def FG:=@PySem.wpAny_seqItems
def FH:=@Bool.eq_false_iff
def FI:=@List.filter_cons_of_neg
def FJ:=@List.filter_cons_of_pos
def FK:=@List.length_eq_zero_iff
def FL:=@Nat.mul_assoc
def FM:=@List.flatMap_append
def FN:=@Nat.div_div_eq_div_mul
def FO:=@List.getElem?_zip_eq_some
def FP:=@Nat.lt_or_ge
def FQ:=@PyProof.Rows.listUpdate_at
def FR:=@List.getElem?_toArray
def FT:=@List.mem_iff_getElem
def FU:=@PySem.fits_of_scanBound
def FV:=@PySem.plainId_quiet
def JC:=@PySem.Value.isInt_shape
def JD:=@List.getElem?_set_ne
def JE:=@Bool.beq_eq_decide_eq
def JF:=@PySem.wpAny_pyIter_list
def JG:=@List.getElem?_append_right
def JH:=@List.getElem?_append_left
def JI:=@PySem.SeqAt.EqAt.int_int
def JJ:=@PySem.concat_meets
def JK:=@PySem.noFill_tuple_add
def JL:=@PySem.seq_tuple_add
def JM:=@List.length_drop
def JN:=@List.forIn_nil
def JO:=@List.nodup_nil
def JP:=@Array.getElem?_eq_none
def JQ:=@PySem.wpAny_notOrdered_dict
def JR:=@List.getElem?_cons_zero
def JS:=@PySem.Heap.get?_update_ne
def JT:=@PySem.codeAny_call_builtin
def JU:=@List.find?_eq_none
def JV:=@Int.zero_add
def JW:=@PySem.wpAny_isOneOf_itemiter
def JX:=@decide_eq_decide
def JY:=@decide_false
def JZ:=@List.length_filter_le
def J0:=@UInt8.toNat_lt
def J1:=@Int.le_refl
def J2:=@Bool.or_false
def J3:=@List.flatMap_singleton
def J4:=@List.range'_succ
def J5:=@List.partition_eq_filter_filter
def J6:=@List.nodup_append
def J7:=@List.mem_of_find?_eq_some
def J8:=@List.mem_flatMap
def J9:=@List.map_id
def J':=@List.pairwise_map
def KA:=@PyProof.Rows.get?_update_seq
def KB:=@PySem.wpAny_newList
def KC:=@PyProof.Rows.F.plain_set_update_loop
def N4:=@Array.append_assoc
def N5:=@PySem.Calls.Name_function_global
def N6:=@Array.find?_toList
def N7:=@List.getElem?_replicate
def N8:=@List.take_sublist
def N9:=@PySem.codeAny_call_function
def N':=@PySem.wpAny_newFunctionEnv_cells
def OA:=@PyProof.Rows.callWith_builtin1
def OB:=@Nat.min_le_right
def OC:=@PySem.Calls.callWith_builtin
def OD:=@List.length_dropLast
def OE:=@List.range_succ_eq_map
def OF:=@List.forIn_cons
def OG:=@Option.isSome_some
def OH:=@decide_eq_true_eq
def OI:=@PySem.F.entry_dict_keyiterator_next
def OJ:=@PySem.F.args_dict_keyiterator_next_1
def OK:=@PySem.wpAny_isOneOf_keyiter
def OL:=@List.getElem?_cons_succ
def OM:=@PySem.F.slot_dict_keyiterator_iter
def ON:=@Nat.succ_ne_self
def OO:=@Bool.and_eq_true_iff
def OP:=@PySem.codeAny_handlers_test
def OQ:=@PySem.wpAny_excMatches_sub_self
def OR:=@eq_false_of_ne_true
def OS:=@PySem.F.slot_dict_items_iter
def OT:=@PySem.F.entry_dict_itemiterator_next
def OU:=@PySem.F.args_dict_itemiterator_next_1
def OV:=@PySem.Calls.call_function_entry
def OW:=@PySem.F.entry_tuple_iterator_next
def OX:=@PySem.F.args_tuple_iterator_next_1
def OY:=@Option.map_some
def OZ:=@List.all_append
def O1:=@Nat.min_eq_left
def O2:=@Nat.min_eq_right
def O3:=@List.mem_of_mem_take
def O4:=@List.findIdx_lt_length_of_exists
def O5:=@UInt8.ofNat_toNat
def O6:=@UInt8.toNat_ofNat'
def O7:=@List.range_succ
def O8:=@List.flatten_cons
def O9:=@Nat.div_lt_of_lt_mul
def PB:=@List.mem_erase_of_ne
def PD:=@List.length_pos_of_mem
def PF:=@List.Sublist.map
def PJ:=@List.filter_sublist
def PK:=@List.map_fst_zip
def PL:=@List.nodup_range
def PN:=@List.find?_some
def PP:=@List.findIdx?_eq_none_iff
def PQ:=@List.findIdx?_eq_some_iff_getElem
def PR:=@List.getElem_map
def PU:=@exists_eq_left'
def PV:=@Option.mem_toList
def PX:=@Bool.or_eq_false_iff
def PY:=@List.length_pos_iff
def PZ:=@List.Pairwise.of_map
def P0:=@Array.toList_zip
def P1:=@Array.Perm.refl
def P2:=@Array.toList_push
def P3:=@List.length_eraseIdx_of_lt
def P4:=@Nat.div_add_mod'
def P5:=@Int.natCast_emod
variable{p t' i j k hi m sl ep L z:Nat}{w:PySem.World}{q a b it f r C dx T d fI CR CP CB CG CM la I S:Addr}{α κ β δ:Type}{N ps sn:List Str}{us its bm:List Value}{o od oe:Obj}{u v vl vu:Value}{P prog:PySem.Program}{h h' h1 base h0:PySem.Heap}{x name aq:Str}{e c tg value jr:Expr}{aa:List (Addr×Obj)}{s s':Shared}{g':Array PySem.GenState}{d':PySem.Drawn}{ch fp ts qs:List Addr}{M:PySem.Model}{A:PySem.Around}{E Q:Value->Shared->Prop}{t:Br.Bytes}{R:PySem.Result->Shared->Prop}{pos l5 ip gr p2 f6 np:PySem.Pos}{op:PySem.CmpOp}{ys rs aj kz:List (List Int)}{es:Array (Int×Value)}{body:List PySem.Stmt}{vs items i3:Array Value}{l ns ks ms lc lb:List Int}{tk:PySem.Tok}{pl:PySem.Sem Bool}{mA mg:Str->Option Value}{expr ab:Bool}{kw:List (Str×Value)}{env:Env}{outer:List Env}{fd:PySem.FuncData}{ds:List PySem.W.WData}{sc scope:PySem.Scope}{cells:List (Str×Addr)}{own:List (Str×Nat)}{ifs js:List Expr}{B:Prop}{col:Option Bool}{dd:Option Addr}{k0 k1 k2 k3 k5:Option Value}{newId:String}{ls:List (List Nat)}{sh:Br.Shape}
namespace L2
open PySem PySem.Spec PyProof.Rows
def eS(s:Stmt)(j:Nat):Stmt:=match s with
 |.ClassDef _ _ _ body _ _ _ _ _ _ _=>body.getD j (.Pass ⟨0,0,0,0⟩)
 |_=>.Pass ⟨0,0,0,0⟩
def eU(s:Stmt):Arguments:=match s with
 |.FunctionDef _ a _ _ _ _ _ _ _ _=>a
 |_=>{posonlyargs:=[],args:=[],vararg:=none,kwonlyargs:=[],kw_defaults:=[],kwarg:=none,defaults:=[]}
def dX(s:Stmt):List Stmt:=match s with
 |.FunctionDef _ _ b _ _ _ _ _ _ _=>b
 |_=>[]
def aG(s:Stmt):Scope:=match s with
 |.FunctionDef _ _ _ _ _ _ sc _ _ _=>sc
 |_=>{kind:=.function,names:=[],isGenerator:=false,isCoroutine:=false}
abbrev El:List Value:=[.type "Exception",.type "BaseException",.type "object"]
end L2
namespace Br1
open PySem PySem.Spec PyProof.Rows L2
def gE(i:Nat):Stmt:=PySem.Challenge.pw_brickrooms_s11_same.main.body.getD i (.Pass ⟨0,0,0,0⟩)
abbrev oQ:Stmt:=gE 3
abbrev qS:Stmt:=gE 4
abbrev rY:Stmt:=eS (gE 2) 0
abbrev Zx:Stmt:=eS (gE 5) 0
abbrev Cy:Stmt:=eS (gE 5) 1
abbrev Lx:Stmt:=eS (gE 5) 2
abbrev Oa:Stmt:=eS (gE 5) 3
abbrev Ek:Stmt:=eS (gE 5) 4
abbrev Nn:Stmt:=eS (gE 5) 5
abbrev Oe:Stmt:=eS (gE 5) 6
abbrev vP:Stmt:=eS (gE 5) 7
abbrev Xr:Stmt:=eS (gE 5) 8
abbrev Dv:Stmt:=eS (gE 18) 0
abbrev sL:Stmt:=gE 19
abbrev rZ:Stmt:=gE 20
abbrev Cq:Stmt:=gE 21
abbrev Dz:Stmt:=gE 22
abbrev rB:Stmt:=gE 23
abbrev oE:Stmt:=gE 24
abbrev lD:Stmt:=gE 25
noncomputable def cM:List Int:=[46,35,115,116,98]
abbrev jX:Stmt:=gE 26
abbrev lZ:Stmt:=gE 27
abbrev Du:Stmt:=gE 28
abbrev Dq:Stmt:=gE 29
abbrev yF:Stmt:=gE 30
abbrev Dg:Stmt:=gE 31
abbrev En:Stmt:=gE 32
abbrev Mp:Stmt:=gE 33
abbrev mC:Stmt:=gE 48
abbrev oW:Stmt:=gE 49
abbrev wE:Stmt:=gE 50
abbrev rA:Stmt:=gE 51
abbrev vW:Stmt:=eS (gE 46) 0
abbrev wL:Stmt:=eS (gE 70) 0
abbrev iS:Stmt:=gE 71
abbrev nU:Stmt:=gE 72
abbrev Df:=Arguments×List Stmt×Scope
noncomputable def aAg(st:Stmt):Df:=(eU st,dX st,aG st)
noncomputable def fnD(K:Frag)(f:Addr)(x aq:Str):Option Df:=match K.lookup f with
 |some ⟨_,_,.func ⟨nm,q,pa,.stmts b,sc,gl,[],.none,_,_,_,_,cd,_,bl⟩,_⟩=>if (nm==x && (q==aq && (gl==mainGlobals && (bl==builtinsNs && (codeIn K cd aq && keepIn K (.ref f))))))=true then some (pa,b,sc) else none
 |_=>none
noncomputable def dQ(K:Frag)(x:Str):Addr:=match nsIn K mainGlobals x with
 |some (some (.ref a))=>a
 |_=>0
inductive Ft
 |no (x:Str)
 |int (x:Str) (n:Int)
 |fn (x:Str) (st:Stmt)
 |cl (x:Str)
 |at (c f:Str)
 |mt (c m q:Str) (st:Stmt)
 |ints (x:Str) (l:List Int)
 |exc (x q:Str) (st:Stmt)
noncomputable def aBs:Value->Option Int
 |.int n _=>some n
 |_=>none
noncomputable def aC0(K:Frag)(C:Addr):Option Addr:=match K.lookup C with
 |some ⟨c,_,.cls ⟨_,_,mro,N,_,hd,_,_,_,_,hdel⟩,sl⟩=>(match sl.toList with
  |[_,_,_,_,some (.builtin b),_]=>if (c==.type "type" && (mro==.ref C::El && (hd && (!hdel && (b=="Exception.__new__" && (nsOkIn K N && (nsIn K N "fault"==some none && (nsIn K N "__setattr__"==some none && (nsIn K N "__getattribute__"==some none && (nsIn K N "__getattr__"==some none && keepIn K (.ref C)))))))))))=true then
    (match nsIn K N "__init__" with
    |some (some (.ref f))=>if isFn K (.ref f)=true then some f else none
    |_=>none) else none
  |_=>none)
 |_=>none
noncomputable def Ft.DD(K:Frag):Ft->Bool×Option Df
 |.no x=>(nsIn K mainGlobals x==some none,none)
 |.int x n=>(match nsIn K mainGlobals x with
  |some (some (.int m _))=>m==n
  |_=>false,none)
 |.fn x _=>match nsIn K mainGlobals x with
  |some (some (.ref f))=>(true,fnD K f x x)
  |_=>(false,none)
 |.cl x=>(nsIn K mainGlobals x==some (some (.ref (dQ K x))) && (plainGet K (dQ K x) Str.empty && (hasDictIn K (dQ K x) && (plainOver K (dQ K x) && (findIn K (.ref (dQ K x)) "__setattr__"==some (some (.builtin "object.__setattr__")) &&
   (makesIn K (dQ K x) && keepIn K (.ref (dQ K x))))))),none)
 |.at c f=>(findIn K (.ref (dQ K c)) f==some none,none)
 |.mt c m q _=>match findIn K (.ref (dQ K c)) m with
  |some (some (.ref f))=>(isFn K (.ref f),fnD K f m q)
  |_=>(false,none)
 |.ints x l=>(match nsIn K mainGlobals x with
  |some (some (.ref a))=>(match K.lookup a with
   |some ⟨c,_,.seq its _,_⟩=>c==.type "tuple" && (its.toList.map aBs==l.map some && decide (l.length<=100))
   |_=>false)
  |_=>false,none)
 |.exc x q _=>match aC0 K (dQ K x) with
  |some f=>(nsIn K mainGlobals x==some (some (.ref (dQ K x))),fnD K f "__init__" q)
  |none=>(false,none)
noncomputable def Ft.XX:Ft->Bool×Option Df
 |.fn _ st=>(true,some (aAg st))
 |.mt _ _ _ st=>(true,some (aAg st))
 |.exc _ _ st=>(true,some (aAg st))
 |_=>(true,none)
noncomputable def frH(as:List Addr)(h:Heap):Frag:=as.filterMap λa=>(h.get? a).map λo=>(a,o)
noncomputable def ftC:List Ft:=[.cl "Reader",.at "Reader" "text",.at "Reader" "position",.cl "Part",.at "Part" "name",.at "Part" "width",.at "Part" "depth",.at "Part" "height",.at "Part" "weight",.at "Part" "cells",.cl "Build",.at "Build" "name",.at "Build" "lines",.cl "Given",.at "Given" "refusal",.at "Given" "fault",.at "Given" "parts",.at "Given" "build",.at "Given" "room",.ints "SIGNS" cM,.exc "Stuck" "Stuck.__init__" rY,.fn "is_letter" oQ,.no "ord",.fn "is_digit" qS,.mt "Reader" "__init__" "Reader.__init__" Zx,.mt "Reader" "ended" "Reader.ended" Cy,.no "len",.int "NO_BYTE" 256,.mt "Reader" "here" "Reader.here" Lx,.mt "Reader" "take" "Reader.take" Oa,.mt "Reader" "read_one_of" "Reader.read_one_of" Ek,.mt "Reader" "read_word" "Reader.read_word" Nn,.mt "Reader" "read_name" "Reader.read_name" Oe,.no "tuple",.mt "Reader" "read_number" "Reader.read_number" vP,.mt "Reader" "read_end" "Reader.read_end" Xr,.mt "Part" "__init__" "Part.__init__" Dv,.mt "Build" "__init__" "Build.__init__" vW,.mt "Given" "__init__" "Given.__init__" wL,.fn "has_stud" sL,.int "STUD" 115,.int "BOTH" 98,.fn "has_tube" rZ,.int "TUBE" 116,.fn "above" Cq,.fn "below" Dz,.fn "read_cells" lD,.no "range",.int "NO_CELL" 46,.fn "read_part" oE,.int "LONGEST_PART_NAME" 8,.int "MOST_WIDTH" 16,.int "MOST_DEPTH" 16,.int "MOST_HEIGHT" 18,.int "MOST_WEIGHT" 9999,.fn "read_catalogue" rB,.int "MOST_PARTS" 64,.fn "studs_clear" Du,.fn "tubes_clear" Dq,.fn "fills_its_box" yF,.no "enumerate",.fn "neighbours" En,.fn "hangs_together" Dg,.no "list",.fn "names_grow" Mp,.fn "part_right" lZ,.fn "catalogue_right" jX,.no "all",.fn "some_begins" rA,.no "any",.fn "read_part_number" wE,.fn "read_line" oW,.int "MOST_COLOUR" 255,.int "ROOM_WIDTH" 64,.int "ROOM_DEPTH" 64,.int "ROOM_HEIGHT" 96,.int "MOST_TURNS" 3,.fn "read_build" mC,.int "LONGEST_BUILD_NAME" 16,.int "MOST_LINES" 256,.fn "names_of" nU,.fn "read_given" iS,.int "MOST_CATALOGUE_BYTES" 1048576,.int "MOST_BUILD_BYTES" 16384]
abbrev vU:Stmt:=gE 35
abbrev Ng:Stmt:=gE 36
abbrev vO:Stmt:=gE 34
abbrev wJ:Stmt:=gE 55
abbrev vV:Stmt:=gE 54
abbrev Mn:Stmt:=gE 56
abbrev Eo:Stmt:=eS (gE 47) 0
abbrev rJ:Stmt:=gE 57
abbrev rE:Stmt:=gE 53
abbrev Mr:Stmt:=gE 52
abbrev lL:Stmt:=gE 73
noncomputable def ftR:List Ft:=[.cl "Room",.at "Room" "signs",.at "Room" "owners",.at "Room" "wrong",.mt "Room" "__init__" "Room.__init__" Eo,.fn "turned_once" Ng,.fn "turned_part" vU,.no "range",.fn "turned_sizes" vO,.fn "beyond_room" wJ,.int "ROOM_WIDTH" 64,.int "ROOM_DEPTH" 64,.int "ROOM_HEIGHT" 96,.fn "leaves_room" vV,.fn "cells_in_room" Mn,.fn "blocked_lines" rJ,.fn "wrong_with" rE,.no "len",.no "min",.fn "fill_room" Mr,.no "enumerate",.fn "read_right" lL]
abbrev oZ:Stmt:=gE 59
abbrev jN:Stmt:=gE 60
abbrev kH:Stmt:=gE 61
abbrev kJ:Stmt:=gE 62
abbrev wN:Stmt:=gE 37
abbrev sO:Stmt:=gE 64
abbrev lM:Stmt:=gE 63
abbrev nL:Stmt:=gE 65
abbrev rP:Stmt:=gE 74
def tR:List Int:=[-2, -6, -8, -5, -9]
abbrev rH:Stmt:=gE 75
end Br1
namespace Br1
open PySem PySem.W
def vY(tb:String->Option Builtin)(p:Program)(w:World)(yr:Nat)(yt:Option Value):Nat->SharedT->Thread->Option SharedT
 |0,_,_=>none
 |n+1,s,t=>match through t with
  |true=>some s
  |false=>match stepOk yr yt t with
   |false=>none
   |true=>match stepT (denote tb) p w s t with
    |some (s',t')=>vY tb p w yr yt n s' t'
    |none=>none
theorem uZ{tb:String->Option Builtin}{p:Program}{yr:Nat}{yt:Option Value}:∀{n:Nat}{s s':SharedT}{t:Thread},vY tb p w yr yt n s t=some s'->topRun tb p w yr yt n s.abs t=some s'.abs
 |0,_,_,_,h=>by cases h
 |n+1,s,s',t,h=>by
  unfold vY at h
  unfold topRun
  cases he:through t with
  |true=>
   rw[he] at h
   cases h
   rfl
  |false=>
   rw[he] at h
   cases hk:stepOk yr yt t with
   |false=>
    rw[hk] at h
    cases h
   |true=>
    rw[hk] at h
    cases hs:stepT (denote tb) p w s t with
    |none=>
     rw[hs] at h
     cases h
    |some r=>
     obtain⟨fq,WQ⟩:=r
     rw[hs] at h
     dsimp only
     rw[stepT_spec hs]
     exact uZ h
def Hj:Nat->List Obj->BT->BT
 |_,[],t=>t
 |n,o::r,t=>Hj (n+1) r (t.ins n o)
noncomputable def aE3(P:Params):BT:=Hj 0 (boot_heap P).objs.toList .nil
noncomputable def aA8(P:Params)(os:OsState):SharedT:=⟨aE3 P,11,(boot_heap P).life,Array.mk [],boot_drawn,boot_toks,os⟩
theorem Ui(P:Params)(os:OsState):(aA8 P os).abs=⟨boot_heap P,Array.mk [],boot_drawn,boot_toks,os⟩:=by kernel_rfl
theorem Qv{p q:Program}{loose:List Str}{Xt:Shared->Bool}{Yf:Shared->α}{Ya:World->α}{N:Nat}{g0:Bool}(e:opening p=plainProg p.main.scope.names)(hN:Nat.ble 600 N=true)(f:∀s,fenceModules? p s=some s)
  (h1:∀w:World,((boot_heap w.params).isNs mainGlobals && (Array.mk ([]:List GenState)).size==0)=true)
  (h:∀(w:World)(os:OsState),(vY treeTable p w (boot_heap w.params).objs.size ((boot_heap w.params).nsMap mainGlobals "__annotations__") N (aA8 w.params os) (topStub p)).map (λs=>
   (staticsOk (importedModules p.main.body) (boot_heap w.params) s.abs.heap && namesBound p s.abs.heap && gensDone s.abs && laidKept (boot_heap w.params) s.abs.heap,openSeen q loose (importedModules p.main.body) Xt g0 s.abs,Yf s.abs))=some (true,openGood q loose,Ya w)):LeftO p q loose Xt Yf Ya N g0:=λw=>by
 obtain⟨⟨h0,gs,d,k,os⟩,e0,e'⟩:=o9.mp (boot_open e hN f w)
 obtain⟨rfl,rfl,rfl,rfl⟩:h0=boot_heap w.params/\gs=Array.mk []/\d=boot_drawn/\k=boot_toks:=by simpa using e'
 obtain⟨s',e1,e2⟩:=o9.mp (h w os)
 have e3:=uZ e1
 rw[Ui] at e3
 obtain⟨a1,a2⟩:=Prod.mk.inj e2
 unfold openEnds
 rw[e0]
 show (topFrom treeTable p w N _).map _=_
 have e4:topFrom treeTable p w N ⟨boot_heap w.params,Array.mk [],boot_drawn,boot_toks,os⟩=some s'.abs:=by
  unfold topFrom
  rw[show ((⟨boot_heap w.params,Array.mk [],boot_drawn,boot_toks,os⟩:Shared).heap.isNs mainGlobals && (⟨boot_heap w.params,Array.mk [],boot_drawn,boot_toks,os⟩:Shared).gens.size==0)=true from h1 w]
  dsimp only
  rw[e3]
  dsimp only[Option.bind]
  rw[a1]
 rw[e4]
 exact congrArg some a2
end Br1
namespace Br1
open PySem PySem.Spec PyProof.Rows L2
noncomputable def ftZ:List Ft:=ftC++(ftR++([.no "len",.no "min",.no "range",.no "sorted",.no "set",.int "ROOM_WIDTH" 64,.int "MOST_TURNS" 3,.ints "REFUSALS" Br1.tR,.fn "moved_lines" oZ,.fn "moved_home" jN,.fn "turned_line" kJ,.fn "turned_lines" kH,.fn "turns_until_alike" wN,.fn "plain_order" sO,.fn "plain_lines" lM,.fn "turns_between" nL,.fn "first_refusal" rP,.fn "same" rH]))
noncomputable def asC:List Addr:=[3,31,30,28,27,41,40,48,47,121,120,62,61,69,68,76,75,83,82,90,89,97,96,104,103,111,110,118,117,126,143,142,140,139,154,153,161,160,168,167,175,174,182,181,189,188,196,195,201,200,208,207,215,214,222,221,227,226,234,233,241,240,248,247,255,254,262,261,269,268,276,275,293,292,290,289,314,313,311,310,325,324,332,331,339,338,344,343,351,350,356,355,363,362,370,369,377,376,384,383,389,388,394,393,399,398,406,405,411,410,418,417,425,424,426,443,442,440,439,454,453,459,458,466,465,473,472,480,479]
noncomputable def Tf:List Str:=[.ofString "NO_BYTE",.ofString "Stuck",.ofString "is_letter",.ofString "is_digit",.ofString "Reader",.ofString "MOST_PARTS",.ofString "LONGEST_PART_NAME",.ofString "MOST_WIDTH",.ofString "MOST_DEPTH",.ofString "MOST_HEIGHT",.ofString "MOST_WEIGHT",.ofString "NO_CELL",.ofString "STUD",.ofString "TUBE",.ofString "BOTH",.ofString "SIGNS",.ofString "Part",.ofString "has_stud",.ofString "has_tube",.ofString "above",.ofString "below",.ofString "read_catalogue",.ofString "read_part",.ofString "read_cells",.ofString "catalogue_right",.ofString "part_right",.ofString "studs_clear",.ofString "tubes_clear",.ofString "fills_its_box",.ofString "hangs_together",.ofString "neighbours",.ofString "names_grow",.ofString "turned_sizes",.ofString "turned_part",.ofString "turned_once",.ofString "turns_until_alike",.ofString "ROOM_WIDTH",.ofString "ROOM_DEPTH",.ofString "ROOM_HEIGHT",.ofString "LONGEST_BUILD_NAME",.ofString "MOST_LINES",.ofString "MOST_COLOUR",.ofString "MOST_TURNS",.ofString "Build",.ofString "Room",.ofString "read_build",.ofString "read_line",.ofString "read_part_number",.ofString "some_begins",.ofString "fill_room",.ofString "wrong_with",.ofString "leaves_room",.ofString "beyond_room",.ofString "cells_in_room",.ofString "blocked_lines",.ofString "moved_lines",.ofString "moved_home",.ofString "turned_lines",.ofString "turned_line",.ofString "plain_lines",.ofString "plain_order",.ofString "turns_between",.ofString "MOST_CATALOGUE_BYTES",.ofString "MOST_BUILD_BYTES",.ofString "REFUSALS",.ofString "Given",.ofString "read_given",.ofString "names_of",.ofString "read_right",.ofString "first_refusal"]
noncomputable def vwC:Program:=PySem.W.view PySem.Challenge.pw_brickrooms_s11_same [75]
theorem aEj:PySem.W.LeftO PySem.Challenge.pw_brickrooms_s11_same vwC Tf (λ_=>true) (λs=>ftZ.map (Ft.DD (frH asC s.heap))) (λ_=>ftZ.map Ft.XX) 6528:=by
 refine Qv ?a ?b ?c ?d ?e
 case a=>kernel_rfl
 case b=>decide
 case c=>intro s;kernel_rfl
 case d=>intro w;kernel_rfl
 case e=>intro w os;kernel_rfl
end Br1
namespace L2
open PySem PySem.Spec PyProof.Rows
abbrev dL:=Sum Int Str
def uS:dL->Value->Bool
 |.inl k,v=>Value.isInt k v
 |.inr x,v=>Value.isStrOf x v
def aGl(w:World):dL->Int
 |.inl k=>hashInt k
 |.inr x=>hashStr w x
theorem dM:∀{k:dL}{v:Value},uS k v=true->(∃i t,k=Sum.inl i/\v=Value.int i t)\/(∃x t,k=Sum.inr x/\v=Value.str x t)
 |.inl i,v,h=>by
  obtain⟨t,e⟩:=JC (k:=i) (v:=v) h
  exact .inl ⟨i,t,rfl,e⟩
 |.inr x,v,h=>by
  obtain⟨t,e⟩:=Value.isStrOf_shape (x:=x) (v:=v) h
  exact .inr ⟨x,t,rfl,e⟩
theorem Pk(i:Int)(t:Tok):uS (.inl i) (.int i t)=true:=by simp[uS,Value.isInt]
theorem Qm(x:Str)(t:Tok):uS (.inr x) (.str x t)=true:=by simp[uS,Value.isStrOf]
theorem aCb(a b:Int):decide ((Sum.inl a:dL)=Sum.inl b)=(a==b):=by
 by_cases e:a=b
 ·subst e;simp
 ·have h:¬(Sum.inl a:dL)=Sum.inl b:=λq=>e (Sum.inl.inj q)
  rw[jk h]
  exact(pb.mpr e).symm
theorem aCn(a b:Str):decide ((Sum.inr a:dL)=Sum.inr b)=decide (a=b):=by
 by_cases e:a=b
 ·subst e;simp
 ·have h:¬(Sum.inr a:dL)=Sum.inr b:=λq=>e (Sum.inr.inj q)
  rw[jk h,jk e]
theorem aC2(a:Int)(b:Str):decide ((Sum.inl a:dL)=Sum.inr b)=false:=jk (λq=>nomatch q)
theorem aCu(a:Str)(b:Int):decide ((Sum.inr a:dL)=Sum.inl b)=false:=jk (λq=>nomatch q)
def dJ(prog:Program)(w:World):PySem.KeyKind prog w dL where
 is:=uS
 hash:=aGl w
 inj:=λv a b ha hb=>by
  rcases dM ha with ⟨i,t,rfl,rfl⟩|⟨x,t,rfl,rfl⟩
  ·rcases dM hb with ⟨j,u,rfl,e⟩|⟨y,u,rfl,e⟩
   ·injection e with e1 _;rw[e1]
   ·exact nomatch e
  ·rcases dM hb with ⟨j,u,rfl,e⟩|⟨y,u,rfl,e⟩
   ·exact nomatch e
   ·injection e with e1 _;rw[e1]
 byValue:=λk v h=>by
  rcases dM h with ⟨i,t,rfl,rfl⟩|⟨x,t,rfl,rfl⟩<;>rfl
 pyHash:=λhv h=>by
  rcases dM hv with ⟨i,t,rfl,rfl⟩|⟨x,t,rfl,rfl⟩
  ·exact wpAny_pyHash_int h
  ·exact wpAny_pyHash_str h
 eqBool:=λhu hv h=>by
  rcases dM hu with ⟨i,t,rfl,rfl⟩|⟨x,t,rfl,rfl⟩
  ·rcases dM hv with ⟨j,u,rfl,rfl⟩|⟨y,u,rfl,rfl⟩
   ·rw[aCb] at h;exact wpAny_eqBool_int h
   ·rw[aC2] at h;exact SeqAt.EqAt.int_str i t y u _ _ _ _ h
  ·rcases dM hv with ⟨j,u,rfl,rfl⟩|⟨y,u,rfl,rfl⟩
   ·rw[aCu] at h;exact SeqAt.EqAt.str_int x t j u _ _ _ _ h
   ·rw[aCn] at h;exact wpAny_eqBool_str h
 «strs»:=λk x t v h=>by
  rcases dM h with ⟨i,u,rfl,e⟩|⟨y,u,rfl,e⟩
  ·exact nomatch e
  ·injection e with e1 _
   subst e1
   cases v<;>rfl
theorem Ho(prog:Program)(w:World)(i:Int)(t:Tok):(dJ prog w).is (.inl i) (.int i t)=true:=Pk i t
theorem Im(prog:Program)(w:World)(x:Str)(t:Tok):(dJ prog w).is (.inr x) (.str x t)=true:=Qm x t
inductive V where
 |non|bl (b:Bool)|int (i:Int)|str (x:Str)|byt (b:Array UInt8)|flt (b:UInt64)|ref (a:Addr)|ty (n:String)
 deriving DecidableEq
def cB:V->Value->Prop
 |.non,u=>u=Value.none
 |.bl b,u=>u=Value.bool b
 |.int i,u=>∃t,u=Value.int i t
 |.str x,u=>∃t,u=Value.str x t
 |.byt b,u=>∃t,u=Value.bytes b t
 |.flt b,u=>∃t,u=Value.float b t
 |.ref a,u=>u=Value.ref a
 |.ty n,u=>u=Value.type n
abbrev bK:List V->List Value->Prop:=Paired cB
variable{xs:List V}
theorem bK.length(r:bK xs us):xs.length=us.length:=Paired.length r
theorem bK.get:∀{xs:List V}{us:List Value}{i:Nat}{x:V},bK xs us->xs[i]?=some x->∃u,us[i]?=some u/\cB x u
 |_,_,_,_,.nil,e=>by simp at e
 |_,_,0,_,.cons r _,e=>by simp at e;subst e;exact⟨_,rfl,r⟩
 |_,_,i+1,x,.cons _ t,e=>by
  obtain⟨u,h1,h2⟩:=bK.get (i:=i) (x:=x) t (by simpa using e)
  exact⟨u,by simpa using h1,h2⟩
theorem bK.append:∀{xs ys:List V}{us ws:List Value},bK xs us->bK ys ws->bK (xs++ys) (us++ws)
 |_,_,_,_,.nil,s=>s
 |_,_,_,_,.cons r t,s=>.cons r (bK.append t s)
theorem bK.take:∀{xs:List V}{us:List Value}(n:Nat),bK xs us->bK (xs.take n) (us.take n)
 |_,_,0,_=>.nil
 |_,_,_+1,.nil=>.nil
 |_,_,n+1,.cons r t=>.cons r (bK.take n t)
theorem bK.drop:∀{xs:List V}{us:List Value}(n:Nat),bK xs us->bK (xs.drop n) (us.drop n)
 |_,_,0,r=>r
 |_,_,_+1,.nil=>.nil
 |_,_,n+1,.cons _ t=>bK.drop n t
def lE:Option V->Option Value->Prop
 |some v,some u=>cB v u
 |none,none=>True
 |_,_=>False
def KV:List (κ×V)->List (κ×Value)->Prop:=Paired λ(p:κ×V)(q:κ×Value)=>p.1=q.1/\cB p.2 q.2
def kV:dL->V
 |.inl i=>.int i
 |.inr x=>.str x
inductive HO where
  |lst (xs:List V)
  |tup (xs:List V)
  |dK (aJ:List (dL×V))|dT (aJ:List (List dL×V))
  |set (S:Int->Bool) (n:Nat)
  |ins (C dx:Addr) (fs:List (Str×V))
  |own (x:Addr)
  |xd (fs:List (Str×V))
  |met (f x:Addr)
  |rng (lo hi:Int)
  |frz (o:Obj) (u:HO)
  |tbl (ps:Array Value)
  |ext (φ:Heap->Prop)
abbrev Hp:=Addr->Option HO
def upd(H:Hp)(a:Addr)(o:HO):Hp:=λb=>if b=a then some o else H b
variable{H:Hp}
theorem aB{o:HO}:upd H a o a=some o:=by unfold upd;rw[af rfl]
theorem aC{o:HO}(h:b≠a):upd H a o b=H b:=by unfold upd;rw[ae h]
theorem aBq{o u:HO}(h:H a=some o)(h':H b=some u)(d:o≠u):a≠b:=by
 intro e;subst e;rw[h] at h';exact d (Option.some.inj h')
theorem aD{o:HO}(h:H a=some o)(h':H b=none):a≠b:=by
 intro e;subst e;rw[h] at h';cases h'
section
variable(P:Program) (w:World)
def cF(H:Hp)(h:Heap)(a:Addr):HO->Prop
 |.lst xs=>xs.length<=sizeLine/\∃(its:List Value)(n:Nat),bK xs its/\h.get? a=some {cls:=.type "list",data:=.seq its.toArray n}
 |.tup xs=>xs.length<=sizeLine/\∃its:List Value,bK xs its/\IsTup h a its.toArray
 |.dK aJ=>aJ.length<=sizeLine/\(a==sysModules)=false/\∃vs,KV aJ vs/\h.DictOf (dJ P w) a vs
 |.dT aJ=>aJ.length<=sizeLine/\(a==sysModules)=false/\∃xs:List (List dL×Addr×Value),
   Paired (λ(p:List dL×V)(q:List dL×Addr×Value)=>p.1=q.1/\H q.2.1=some (.tup (p.1.map kV))/\cB p.2 q.2.2) aJ xs/\
   ∃o es ep,h.get? a=some o/\o.ExactDict/\o.data=.dict es ep/\es.toList=xs.map (entryOfKey (tupleKind (dJ P w)))/\(xs.map (·.1)).Nodup
 |.set S n=>h.SetOf (intKind P w) a S n
 |.ins C dx fs=>H dx=some (.own a)/\fs.length<=1000/\dx≠a/\h.get? a=some (instObj C dx)/\
   ∃mA,h.Ns1 dx mA/\(∀f,lE (fs.lookup f) (mA f))/\PySem.Within mA (fs.map (·.1))
 |.own _=>∃o,h.get? a=some o
 |.xd fs=>∃mA,h.Ns1 a mA/\∀f,lE (fs.lookup f) (mA f)
 |.rng lo hi=>∃t u v,h.get? a=some {cls:=.type "range",data:=.fields #[.int lo t,.int hi u,.int 1 v]}
 |.frz o u=>h.get? a=some o/\cF H h a u
 |.tbl ps=>h.get? a=some {cls:=.none,data:=.fields ps}
 |.met f x=>h.get? a=some (methodObj (.ref f) (.ref x))
 |.ext φ=>φ h/\(∃o,h.get? a=some o)/\∀h1 h2:Heap,φ h1->(∀o,h1.get? a=some o->h2.get? a=some o)->φ h2
def lC(H:Hp)(h:Heap):Prop:=∀a o,H a=some o->cF P w H h a o
end
section
variable{o:HO}{H':Hp}
theorem cF.lt(x:cF P w H h a o):a<h.objs.size:=by
 cases o with
 |lst xs=>obtain⟨_,_,_,_,e⟩:=x;exact ba e
 |tup xs=>obtain⟨_,_,_,p⟩:=x;exact p.lt
 |dK aJ=>obtain⟨_,_,_,_,o,_,_,e,_⟩:=x;exact ba e
 |dT aJ=>obtain⟨_,_,_,_,o,_,_,e,_⟩:=x;exact ba e
 |set S n=>obtain⟨o,_,_,_,e,_⟩:=x;exact ba e
 |ins C dx fs=>obtain⟨_,_,_,e,_⟩:=x;exact ba e
 |own y=>obtain⟨_,e⟩:=x;exact ba e
 |xd fs=>obtain⟨_,⟨_,_,_,e,_⟩,_⟩:=x;exact ba e
 |rng lo hi=>obtain⟨_,_,_,e⟩:=x;exact ba e
 |frz ob u=>obtain⟨e,_⟩:=x;exact ba e
 |tbl ps=>exact ba (show h.get? a=some _ from x)
 |met f y=>exact ba (show h.get? a=some _ from x)
 |ext φ=>obtain⟨_,⟨_,e⟩,_⟩:=x;exact ba e
theorem Paired.mapP{F G:α->β->Prop}:∀{we:List α}{wf:List β},Paired F we wf->(∀a b,F a b->G a b)->Paired G we wf
 |_,_,.nil,_=>.nil
 |_,_,.cons r t,f=>.cons (f _ _ r) (Paired.mapP t f)
theorem cF.stay(x:cF P w H h a o)(k:∀b u,(b=a\/H b=some (.own a))->h.get? b=some u->h'.get? b=some u)
  (ho:∀b,H b=some (.own a)->H' b=some (.own a)) (ht:∀b xs,H b=some (.tup xs)->H' b=some (.tup xs)):cF P w H' h' a o:=by
 induction o with
 |lst xs=>obtain⟨z,its,n,r,e⟩:=x;exact⟨z,its,n,r,k _ _ (.inl rfl) e⟩
 |tup xs=>obtain⟨z,its,r,ob,e,c⟩:=x;exact⟨z,its,r,ob,k _ _ (.inl rfl) e,c⟩
 |dK aJ=>obtain⟨z,y,vs,r,ob,es,ep,e,c⟩:=x;exact⟨z,y,vs,r,ob,es,ep,k _ _ (.inl rfl) e,c⟩
 |dT aJ=>
  obtain⟨z,y,xs,r,ob,es,ep,e,c⟩:=x
  exact⟨z,y,xs,Paired.mapP r λp q z=>⟨z.1,ht _ _ z.2.1,z.2.2⟩,ob,es,ep,k _ _ (.inl rfl) e,c⟩
 |set S n=>obtain⟨ob,es,ep,t,e,c⟩:=x;exact⟨ob,es,ep,t,k _ _ (.inl rfl) e,c⟩
 |ins C dx fs=>
  obtain⟨d,z,ne,e,mA,⟨od,es,ep,e2,c⟩,r⟩:=x
  exact⟨ho _ d,z,ne,k _ _ (.inl rfl) e,mA,⟨od,es,ep,k _ _ (.inr d) e2,c⟩,r⟩
 |own y=>obtain⟨ob,e⟩:=x;exact⟨ob,k _ _ (.inl rfl) e⟩
 |xd fs=>obtain⟨mA,⟨od,es,ep,e,c⟩,r⟩:=x;exact⟨mA,⟨od,es,ep,k _ _ (.inl rfl) e,c⟩,r⟩
 |rng lo hi=>obtain⟨t,u,v,e⟩:=x;exact⟨t,u,v,k _ _ (.inl rfl) e⟩
 |frz ob u ih=>obtain⟨e,q⟩:=x;exact⟨k _ _ (.inl rfl) e,ih q⟩
 |tbl ps=>
  have e:h.get? a=some {cls:=.none,data:=.fields ps}:=x
  show h'.get? a=some {cls:=.none,data:=.fields ps}
  exact k a _ (.inl rfl) e
 |met f y=>
  have e:h.get? a=some (methodObj (.ref f) (.ref y)):=x
  show h'.get? a=some (methodObj (.ref f) (.ref y))
  exact k a _ (.inl rfl) e
 |ext φ=>obtain⟨p,⟨o,e⟩,st⟩:=x;exact⟨st _ _ p λo q=>k _ _ (.inl rfl) q,⟨o,k _ _ (.inl rfl) e⟩,st⟩
theorem lC.lt(x:lC P w H h)(e:H a=some o):a<h.objs.size:=(x a o e).lt
theorem lC.fresh(x:lC P w H h)(e:h.objs.size<=a):H a=none:=by
 cases q:H a with
 |none=>rfl
 |some u=>exact absurd (i7 (x.lt q) e) (j6 _)
theorem lC.kept(x:lC P w H h)(k:∀b u,h.get? b=some u->h'.get? b=some u):lC P w H h':=λa o e=>
 (x a o e).stay (λb u _ q=>k b u q) (λ_ q=>q) λ_ _ q=>q
theorem lC.laid(x:lC P w H h)(k:∀b u,h.get? b=some u->h'.get? b=some u)(hp:h.objs.size<=a)(new:cF P w (upd H a o) h' a o):lC P w (upd H a o) h':=λb u e=>by
 have hn:=x.fresh hp
 by_cases hb:b=a
 ·subst hb;rw[aB] at e;cases e;exact new
 ·rw[aC hb] at e
  exact(x b u e).stay (λc v _ q=>k c v q) (λc q=>by rw[aC (aD q hn)];exact q) λc xs q=>by rw[aC (aD q hn)];exact q
end
def Rd(H:Hp)(a:Addr)(u:HO):Prop:=H a=some u\/∃o,H a=some (.frz o u)
theorem Rd.ok{u:HO}(r:Rd H a u)(x:lC P w H h):cF P w H h a u:=by
 rcases r with r|⟨o,r⟩
 ·exact x a u r
 ·obtain⟨_,q⟩:=x a _ r
  exact q
def Mut:Option HO->Prop
 |some (.lst _)=>True
 |some (.dK _)=>True
 |some (.dT _)=>True
 |some (.set _ _)=>True
 |some (.ins _ _ _)=>True
 |some (.ext _)=>True
 |_=>False
section
variable{x e:Addr}{o':HO}
theorem lC.write(ok:lC P w H h)(mu:Mut (H x))(he:e=x\/H e=some (.own x))(k:∀b u,b≠e->h.get? b=some u->h'.get? b=some u)(yw:∃u,h'.get? e=some u)
  (new:cF P w (upd H x o') h' x o'):lC P w (upd H x o') h':=λb u q=>by
 have KD:∀c y,H c=some (.own y)->c≠x:=λc y r z=>by subst z;rw[r] at mu;exact mu
 have P6:∀c xs,H c=some (.tup xs)->c≠x:=λc xs r z=>by subst z;rw[r] at mu;exact mu
 by_cases hb:b=x
 ·subst hb;rw[aB] at q;cases q;exact new
 ·rw[aC hb] at q
  by_cases k9:b=e
  ·have q':H b=some (.own x):=by
    rcases he with z|z
    ·exact absurd (k9.trans z) hb
    ·rw[k9];exact z
   rw[q] at q';cases q'
   obtain⟨v,hv⟩:=yw
   exact⟨v,by rw[k9];exact hv⟩
  ·refine(ok b u q).stay (λc v hc r=>k c v ?_ r) (λc r=>by rw[aC (KD c b r)];exact r) λc xs r=>by rw[aC (P6 c xs r)];exact r
   rcases hc with rfl|hc
   ·exact k9
   ·rintro rfl
    rcases he with z|z
    ·exact KD c b hc z
    ·rw[hc] at z;cases z;exact hb rfl
end
structure Un(fs ex:List Addr)(H H':Hp)(h h':Heap):Prop where
 keep:∀b o,h.get? b=some o->H b=none->b∉fs->b∉ex->h'.get? b=some o
 slot:∀b o,h.get? b=some o->H b=none->b∈fs->b∉ex->∃sl,h'.get? b=some {o with slots:=sl}
 free:∀b o,h.get? b=some o->H b=none->b∉ex->H' b=none
 there:∀b o,h.get? b=some o->b∉ex->∃o',h'.get? b=some o'
 tups:∀b xs,H b=some (.tup xs)->H' b=some (.tup xs)
 frzs:∀b o u,H b=some (.frz o u)->H' b=some (.frz o u)
 tbls:∀b ps,H b=some (.tbl ps)->∃more,H' b=some (.tbl (ps++more))
section
variable{fs yx ex KE:List Addr}{h2:Heap}{x e:Addr}{o:HO}{H1 H2:Hp}
theorem Un.any(u:Un fs ex H H1 h h1){ob:Obj}(q:h.get? b=some ob)(n:H b=none)(hx:b∉ex):∃sl,h1.get? b=some {ob with slots:=sl}:=by
 by_cases hb:b∈fs
 ·exact u.slot b ob q n hb hx
 ·exact⟨ob.slots,u.keep b ob q n hb hx⟩
theorem Un.kept(k:∀b u,h.get? b=some u->h'.get? b=some u):Un fs ex H H h h':=
 ⟨λb ob q _ _ _=>k b ob q,λb ob q _ _ _=>⟨ob.slots,k b ob q⟩,λ_ _ _ n _=>n,λb ob q _=>⟨ob,k b ob q⟩,λ_ _ q=>q,λ_ _ _ q=>q,λ_ ps q=>⟨#[],by rw[q];simp⟩⟩
theorem Un.refl:Un fs ex H H h h:=Un.kept λ_ _ q=>q
theorem Un.laid(k:∀b u,h.get? b=some u->h'.get? b=some u)(hp:h.objs.size<=a)(hn:H a=none):Un fs ex H (upd H a o) h h' where
 keep:=λb u q _ _ _=>k b u q
 slot:=λb u q _ _ _=>⟨u.slots,k b u q⟩
 free:=λb u q n _=>by rw[aC (b8 (i7 (ba q) hp))];exact n
 there:=λb u q _=>⟨u,k b u q⟩
 tups:=λb xs q=>by rw[aC (aD q hn)];exact q
 frzs:=λb u xs q=>by rw[aC (aD q hn)];exact q
 tbls:=λb ps q=>⟨#[],by rw[aC (aD q hn),q];simp⟩
theorem Un.write(mu:Mut (H x))(he:e=x\/H e=some (.own x))(k:∀b u,b≠e->h.get? b=some u->h'.get? b=some u)(yw:∃u,h'.get? e=some u):Un fs ex H (upd H x o) h h':=by
 have hx:∀b,H b=none->b≠x:=λb n z=>by subst z;rw[n] at mu;exact mu
 have hb:∀b,H b=none->b≠e:=λb n z=>by
  subst z
  rcases he with r|r
  ·exact hx b n r
  ·rw[n] at r;cases r
 have hm:∀b u,H b=some u->¬Mut (some u)->b≠x:=λb u q nm z=>by subst z;rw[q] at mu;exact nm mu
 refine⟨λb u q n _ _=>k b u (hb b n) q,λb u q n _ _=>⟨u.slots,k b u (hb b n) q⟩,λb u q n _=>by rw[aC (hx b n)];exact n,λb u q _=>?_,
  λb xs q=>by rw[aC (hm b _ q λz=>z)];exact q,λb u xs q=>by rw[aC (hm b _ q λz=>z)];exact q,λb ps q=>⟨#[],by rw[aC (hm b _ q λz=>z),q];simp⟩⟩
 by_cases k9:b=e
 ·subst k9;exact yw
 ·exact⟨u,k b u k9 q⟩
end
def trk(h:Heap)(H:Hp):List Addr:=(List.range h.objs.size).filter λa=>(H a).isSome
def Cu(h:Heap)(H:Hp):Heap:=PySem.W.hideAll h (trk h H)
theorem Rv(h:Heap)(H:Hp):(Cu h H).objs.size=h.objs.size:=PySem.W.hideAll_size _ _
theorem Tp(e:h.get? b=some o)(n:H b=none):(Cu h H).get? b=some o:=
 PySem.W.hideAll_get _ e λhm=>by
  have q:(H b).isSome=true:=(jl.mp hm).2
  rw[n] at q;simp at q
theorem Ys(e:(Cu h H).get? b=some o):h.get? b=some o/\H b=none:=by
 have e':h.get? b=some o:=PySem.W.of_hideAll (trk h H) e
 refine⟨e',?_⟩
 cases q:H b with
 |none=>rfl
 |some x=>
  have hm:b∈trk h H:=jl.mpr ⟨vm.mpr (ba e'),by simp[q]⟩
  have z:(Cu h H).get? b=none:=PySem.W.hideAll_none (trk h H) hm
  rw[z] at e;cases e
structure Mod(K:Frag)(mg:Str->Option Value)(base:Heap):Prop where
 kin:K.In base
 glob:base.Ns mainGlobals mg
 blt:∃mb,base.Ns builtinsNs mb/\∀x:Str,x≠"__name__"->mb x=bootBuiltins x
 nolimit:base.NoLimit
structure Cx where
 prog:Program
 w:World
 K:Frag
 mg:Str->Option Value
 base:Heap
 A:Around
 N:List Str
 s_0:Shared
 H_0:Hp
 env:Env
 outer:List Env
 stack:List Env
 ex:List Addr
 fn:Str->Bool
 calm:Bool
 pn:List (Addr×Obj)
 xe:Value->Shared->Prop
def Al(l:List Env):List Addr:=l.filterMap (·.frame)
abbrev Cx.fs(X:Cx):List Addr:=Al X.outer
def Vis(sc:Scope)(x:Str):Prop:=sc.names.lookup x=some .local\/sc.names.lookup x=some .cell\/sc.names.lookup x=some .free
def Loc(sc:Scope)(x:Str):Prop:=sc.names.lookup x=some .local\/sc.names.lookup x=some .cell
def aG5(env:Env)(h:Heap)(m:Str->Option Value)(x:Str)(u:Value):Prop:=
 (env.kindOf x=some .local/\m x=some u)\/((env.kindOf x=some .cell\/env.kindOf x=some .free)/\∃c,env.cells.lookup x=some c/\h.IsCell c (some u))
structure Cx.Ok(X:Cx):Prop where
 mod:Mod X.K X.mg X.base
 kind:X.env.scope.kind=.function
 glob:X.env.globals=mainGlobals
 blt:X.env.builtins=builtinsNs
 above:X.s_0.heap.objs.size<=X.env.locals
 inj:∀x y c,X.env.cells.lookup x=some c->X.env.cells.lookup y=some c->x=y
 has:∀x,(X.env.kindOf x=some .cell\/X.env.kindOf x=some .free)->∃c,X.env.cells.lookup x=some c
 cab:∀x c,X.fn x=true->X.env.cells.lookup x=some c->X.s_0.heap.objs.size<=c
 hd:X.calm=true->X.A.handled=none
 frames:X.A.frames=some X.stack
 stk:X.stack=X.outer\/(X.stack=X.env::X.outer/\X.env.frame=some X.env.locals)
 exf:∀b∈X.ex,b≠X.env.locals/\∀x c,X.env.cells.lookup x=some c->c≠b
 bs:∀b o,X.base.get? b=some o->X.s_0.heap.get? b=some o/\X.H_0 b=none
 bsz:X.base.objs.size<=X.s_0.heap.objs.size
 noex:∀b o,X.base.get? b=some o->b∉X.ex
 exfs:∀b∈X.ex,b∉X.fs
 funs:X.s_0.heap.FunFrames X.base X.outer
 frf:∀b∈X.fs,X.H_0 b=none
structure aQ(X:Cx)(aa:List (Addr×Obj))(σ:List (Option V))(H:Hp)(s:Shared):Prop where
 ok:X.Ok
 os:s.os=X.s_0.os
 bare:AllBare s.gens
 base:Un X.fs X.ex X.H_0 H X.s_0.heap s.heap
 loc:∃m,s.heap.Ns X.env.locals m/\∀(i:Nat)(x:Str)(v:V),X.N[i]?=some x->σ[i]?=some (some v)->Vis X.env.scope x->∃u,cB v u/\aG5 X.env s.heap m x u
 cell:∀x c,X.env.cells.lookup x=some c->∃v,s.heap.IsCell c v
 free:H X.env.locals=none
 freeC:∀x c,X.env.cells.lookup x=some c->H c=none
 pin:∀p∈X.pn++aa,s.heap.get? p.1=some p.2/\H p.1=none/\p.1≠X.env.locals/\p.1∉X.fs/\∀v,p.2.data≠.cell v
 hok:lC X.prog X.w H s.heap
 len:σ.length=X.N.length
section
variable{σ:List (Option V)}{X:Cx}{H':Hp}
theorem Cx.Ok.nofr(ok:X.Ok)(e:X.base.get? b=some o):b∉X.fs:=λhb=>by
 have:=(ok.funs.mem hb).1
 rw[e] at this;cases this
theorem aQ.bs(I:aQ X aa σ H s):∀b o,X.base.get? b=some o->s.heap.get? b=some o/\H b=none:=λb o e=>
 ⟨I.base.keep b o (I.ok.bs b o e).1 (I.ok.bs b o e).2 (I.ok.nofr e) (I.ok.noex b o e),I.base.free b o (I.ok.bs b o e).1 (I.ok.bs b o e).2 (I.ok.noex b o e)⟩
theorem aQ.bk(I:aQ X aa σ H s):∀b o,X.base.get? b=some o->s.heap.get? b=some o:=λb o e=>(I.bs b o e).1
theorem aQ.mod(I:aQ X aa σ H s):Mod X.K X.mg X.base:=I.ok.mod
theorem aQ.kIn(I:aQ X aa σ H s):X.K.In s.heap:=I.ok.mod.kin.keeps I.bk
theorem aQ.lt(I:aQ X aa σ H s):X.env.locals<s.heap.objs.size:=let ⟨_,hn,_⟩:=I.loc;hn.lt
theorem aQ.sz(I:aQ X aa σ H s):X.s_0.heap.objs.size<=s.heap.objs.size:=gm I.ok.above (B7 I.lt)
theorem aQ.nofs(I:aQ X aa σ H s)(h:s.heap.objs.size<=a):a∉X.fs:=λhb=>by
 obtain⟨_,o,ho,_⟩:=I.ok.funs.mem hb
 exact absurd (i7 (ba ho) (gm I.sz h)) (j6 _)
theorem aQ.cne(I:aQ X aa σ H s):∀x c,X.env.cells.lookup x=some c->c≠X.env.locals:=λx c e z=>by
 obtain⟨v,o,ho,hd⟩:=I.cell x c e
 obtain⟨m,⟨o',es,ep,lf,FX,_⟩,_⟩:=I.loc
 rw[z,lf] at ho;cases ho;rw[FX] at hd;cases hd
theorem aQ.funs(I:aQ X aa σ H s):s.heap.FunFrames X.base X.outer:=by
 have all:∀(l:List Env),(∀b∈Al l,b∈X.fs)->X.s_0.heap.FunFrames X.base l->s.heap.FunFrames X.base l:=by
  intro l
  induction l with
  |nil=>intro _ _;trivial
  |cons env r ih=>
   intro hs hl
   obtain⟨hk,⟨L,o,hf,hn,ho,hd⟩,hr⟩:=hl
   have hL:L∈X.fs:=hs L (by unfold Al;rw[z8,hf];exact bf)
   obtain⟨sl,e⟩:=I.base.slot L o ho (I.ok.frf L hL) hL λz=>I.ok.exfs L z hL
   exact⟨hk,⟨L,_,hf,hn,e,hd⟩,ih (λb hb=>hs b (by unfold Al;rw[z8,hf];exact az _ hb)) hr⟩
 exact all X.outer (λ_ hb=>hb) I.ok.funs
theorem aQ.stack(I:aQ X aa σ H s):s.heap.FunFrames X.base X.stack:=by
 rcases I.ok.stk with e|⟨e,hf⟩
 ·rw[e];exact I.funs
 ·rw[e]
  obtain⟨m,hn,_⟩:=I.loc
  refine .cons (by rw[I.ok.kind];decide) hf hn ?_ I.funs
  exact Heap.get?_none_of_le (gm I.ok.bsz I.ok.above)
theorem aQ.stkSub(I:aQ X aa σ H s):∀b∈Al X.stack,b∈X.env.locals::X.fs:=λb hb=>by
 rcases I.ok.stk with e|⟨e,hf⟩
 ·rw[e] at hb;exact az _ hb
 ·rw[e] at hb
  unfold Al at hb
  rw[z8,hf] at hb
  exact hb
theorem aQ.stkFree(I:aQ X aa σ H s):∀b∈Al X.stack,H b=none:=λb hb=>by
 rcases ao.mp (I.stkSub b hb) with e|hb
 ·rw[e];exact I.free
 ·obtain⟨_,o,ho,_⟩:=I.ok.funs.mem hb
  exact I.base.free b o ho (I.ok.frf b hb) λz=>I.ok.exfs b z hb
theorem aQ.step{g':Array GenState}{t':Nat}{d':Drawn}{ch:List Addr}(I:aQ X aa σ H s)
  (i9:∀b∈ch,(b∈X.ex\/X.s_0.heap.objs.size<=b)/\b≠X.env.locals/\(∀x c,X.env.cells.lookup x=some c->c≠b)/\∀p∈X.pn++aa,p.1≠b)
  (keep:∀b o,b≠X.env.locals->b∉X.fs->b∉ch->s.heap.get? b=some o->H b=none->h'.get? b=some o)
  (slot:∀b o,b≠X.env.locals->b∈X.fs->b∉ch->s.heap.get? b=some o->H b=none->∃sl,h'.get? b=some {o with slots:=sl}) (free:∀b o,b∉ch->s.heap.get? b=some o->H b=none->H' b=none)
  (there:∀b o,b∉ch->s.heap.get? b=some o->∃o',h'.get? b=some o')
  (tups:∀b xs,H b=some (.tup xs)->H' b=some (.tup xs)) (frzs:∀b o u,H b=some (.frz o u)->H' b=some (.frz o u)) (tbls:∀b ps,H b=some (.tbl ps)->∃more,H' b=some (.tbl (ps++more)))
  (ns:∀m,s.heap.Ns X.env.locals m->h'.Ns X.env.locals m) (hok:lC X.prog X.w H' h') (hg:AllBare g'):
  aQ X aa σ H' {s with heap:=h',gens:=g',drawn:=d',toks:=t'}:=by
 have AT:∀b o,X.s_0.heap.get? b=some o->b≠X.env.locals:=λb o e=>b8 (i7 (ba e) I.ok.above)
 have rk:∀b o,X.s_0.heap.get? b=some o->b∉X.ex->b∉ch:=λb o e hx hb=>by
  rcases(i9 b hb).1 with z|z
  ·exact hx z
  ·exact absurd (i7 (ba e) z) (j6 _)
 have cellK:∀x c,X.env.cells.lookup x=some c->∀v,s.heap.IsCell c v->h'.IsCell c v:=λx c e v ⟨o,ho,hd⟩=>by
  have ot:c∉ch:=λz=>(i9 c z).2.2.1 x c e rfl
  by_cases hc:c∈X.fs
  ·obtain⟨sl,q⟩:=slot c o (I.cne x c e) hc ot ho (I.freeC x c e)
   exact⟨_,q,hd⟩
  ·exact⟨o,keep c o (I.cne x c e) hc ot ho (I.freeC x c e),hd⟩
 refine⟨I.ok,I.os,hg,⟨λb o e n hb hx=>?_,λb o e n hb hx=>?_,λb o e n hx=>?_,λb o e hx=>?_,λb xs e=>tups b xs (I.base.tups b xs e),λb o xs e=>frzs b o xs (I.base.frzs b o xs e),λb ps e=>?_⟩,?_,λx c e=>?_,?_,λx c e=>?_,λp hp=>?_,hok,I.len⟩
 ·exact keep b o (AT b o e) hb (rk b o e hx) (I.base.keep b o e n hb hx) (I.base.free b o e n hx)
 ·obtain⟨sl,e1⟩:=I.base.slot b o e n hb hx
  obtain⟨FY,e2⟩:=slot b _ (AT b o e) hb (rk b o e hx) e1 (I.base.free b o e n hx)
  exact⟨FY,e2⟩
 ·obtain⟨o',e1⟩:=I.base.there b o e hx
  exact free b o' (rk b o e hx) e1 (I.base.free b o e n hx)
 ·obtain⟨o',e1⟩:=I.base.there b o e hx
  exact there b o' (rk b o e hx) e1
 ·obtain⟨m1,e1⟩:=I.base.tbls b ps e
  obtain⟨m2,e2⟩:=tbls b _ e1
  exact⟨m1++m2,by rw[e2,N4]⟩
 ·obtain⟨m,hn,hl⟩:=I.loc
  refine⟨m,ns m hn,λi x v e1 e2 e3=>?_⟩
  obtain⟨u,r,l⟩:=hl i x v e1 e2 e3
  refine⟨u,r,?_⟩
  rcases l with l|⟨k,c,e,z⟩
  ·exact .inl l
  ·exact .inr ⟨k,c,e,cellK x c e _ z⟩
 ·obtain⟨v,z⟩:=I.cell x c e
  exact⟨v,cellK x c e v z⟩
 ·obtain⟨m,⟨o,_,_,ho,_⟩,_⟩:=I.loc
  exact free _ o (λz=>(i9 _ z).2.1 rfl) ho I.free
 ·obtain⟨v,o,ho,hd⟩:=I.cell x c e
  exact free c o (λz=>(i9 c z).2.2.1 x c e rfl) ho (I.freeC x c e)
 ·obtain⟨e,n,ne,nf,d⟩:=I.pin p hp
  have ot:p.1∉ch:=λz=>(i9 p.1 z).2.2.2 p hp rfl
  exact⟨keep p.1 p.2 ne nf ot e n,free p.1 p.2 ot e n,ne,nf,d⟩
theorem aQ.un(I:aQ X aa σ H s)(u:Un X.fs [] H H' s.heap h')(hok:lC X.prog X.w H' h'):aQ X aa σ H' {s with heap:=h',toks:=t'}:=by
 obtain⟨m,⟨o,es,ep,ho,r⟩,_⟩:=id I.loc
 obtain⟨sl,hL⟩:=u.any ho I.free (by simp)
 exact I.step (g':=s.gens) (d':=s.drawn) (ch:=[]) (λ_ z=>nomatch z) (λb o _ hb _ e n=>u.keep b o e n hb (by simp)) (λb o _ hb _ e n=>u.slot b o e n hb (by simp)) (λb o _ e n=>u.free b o e n (by simp)) (λb o _ e=>u.there b o e (by simp)) u.tups u.frzs u.tbls (λm' hm=>by
  obtain⟨o',fv,l0,lf,r'⟩:=hm
  rw[ho] at lf;cases lf
  exact⟨_,fv,l0,hL,r'⟩) hok I.bare
theorem aQ.call(I:aQ X aa σ H s)(u:Un (Al X.stack) ch H H' s.heap h')(hok:lC X.prog X.w H' h')(hg:AllBare g')
  (i9:∀b∈ch,(b∈X.ex\/X.s_0.heap.objs.size<=b)/\b≠X.env.locals/\(∀x c,X.env.cells.lookup x=some c->c≠b)/\∀p∈X.pn++aa,p.1≠b):
  aQ X aa σ H' {s with heap:=h',gens:=g',drawn:=d',toks:=t'}:=by
 obtain⟨m,⟨o,es,ep,ho,r⟩,_⟩:=id I.loc
 obtain⟨sl,hL⟩:=u.any ho I.free λz=>(i9 _ z).2.1 rfl
 exact I.step (ch:=ch) i9 (λb o hL hb hc e n=>u.keep b o e n (λz=>(ao.mp (I.stkSub b z)).elim hL hb) hc) (λb o _ _ hc e n=>u.any e n hc) (λb o hc e n=>u.free b o e n hc) (λb o hc e=>u.there b o e hc) u.tups u.frzs u.tbls (λm' hm=>by
  obtain⟨o',fv,l0,lf,r'⟩:=hm
  rw[ho] at lf;cases lf
  exact⟨_,fv,l0,hL,r'⟩) hok hg
theorem aQ.turned(I:aQ X aa σ H s)(k:∀b o,b≠it->s.heap.get? b=some o->h'.get? b=some o)(hn:H it=none)(hL:it≠X.env.locals)
  (h1:it∈X.ex\/X.s_0.heap.objs.size<=it) (h2:∀x c,X.env.cells.lookup x=some c->c≠it) (h3:∀p∈X.pn++aa,p.1≠it):aQ X aa σ H {s with heap:=h',toks:=t'}:=by
 have um:∀b u,H b=some u->b≠it:=λb u e z=>by rw[z,hn] at e;cases e
 refine I.step (g':=s.gens) (d':=s.drawn) (ch:=[it]) (λb hb=>?_) (λb o _ _ hc e _=>k b o (λz=>hc (by simp[z])) e) (λb o _ _ hc e _=>⟨o.slots,k b o (λz=>hc (by simp[z])) e⟩) (λ_ _ _ _ n=>n)
  (λb o hc e=>⟨o,k b o (λz=>hc (by simp[z])) e⟩) (λ_ _ e=>e) (λ_ _ _ e=>e) (λb ps e=>⟨#[],by rw[e];simp⟩) (λm hm=>?_) (λb u e=>?_) I.bare
 ·have e:b=it:=by simpa using hb
  subst e
  exact⟨h1,hL,h2,h3⟩
 ·obtain⟨o,es,ep,ho,r⟩:=hm
  exact⟨o,es,ep,k _ o (au hL) ho,r⟩
 ·refine(I.hok b u e).stay (λc v hc q=>k c v ?_ q) (λ_ q=>q) λ_ _ q=>q
  rcases hc with z|z
  ·rw[z];exact um b u e
  ·exact um c _ z
theorem aQ.tok(I:aQ X aa σ H s)(t:Nat):aQ X aa σ H {s with toks:=t}:=I.un (h':=s.heap) (t':=t) Un.refl I.hok
theorem aQ.kept(I:aQ X aa σ H s)(k:∀b u,s.heap.get? b=some u->h'.get? b=some u):aQ X aa σ H {s with heap:=h',toks:=t'}:=I.un (Un.kept k) (I.hok.kept k)
theorem aQ.laid{o:HO}(I:aQ X aa σ H s)(k:∀b u,s.heap.get? b=some u->h'.get? b=some u)(hp:s.heap.objs.size<=a)(new:cF X.prog X.w (upd H a o) h' a o):
  aQ X aa σ (upd H a o) {s with heap:=h',toks:=t'}:=I.un (Un.laid k hp (I.hok.fresh hp)) (I.hok.laid k hp new)
theorem aQ.write{x e:Addr}{o:HO}(I:aQ X aa σ H s)(mu:Mut (H x))(he:e=x\/H e=some (.own x))(k:∀b u,b≠e->s.heap.get? b=some u->h'.get? b=some u)(yw:∃u,h'.get? e=some u)
  (new:cF X.prog X.w (upd H x o) h' x o):aQ X aa σ (upd H x o) {s with heap:=h',toks:=t'}:=I.un (Un.write mu he k yw) (I.hok.write mu he k yw new)
theorem aQ.weak{ah:List (Option V)}(I:aQ X aa σ H s)(hl:ah.length=σ.length)(w:∀(i:Nat) v,ah[i]?=some (some v)->σ[i]?=some (some v)):aQ X aa ah H s:=
 ⟨I.ok,I.os,I.bare,I.base,let ⟨m,hn,p8⟩:=I.loc;⟨m,hn,λi x v e1 e2 e3=>p8 i x v e1 (w i v e2) e3⟩,I.cell,I.free,I.freeC,I.pin,I.hok,hl.trans I.len⟩
theorem aQ.pins_of{wg:List (Addr×Obj)}(I:aQ X aa σ H s)(h:∀p∈wg,s.heap.get? p.1=some p.2/\H p.1=none/\p.1≠X.env.locals/\p.1∉X.fs/\∀v,p.2.data≠.cell v):aQ X wg σ H s:=
 ⟨I.ok,I.os,I.bare,I.base,I.loc,I.cell,I.free,I.freeC,λp hp=>(je.mp hp).elim (λz=>I.pin p (lq _ z)) (h p),I.hok,I.len⟩
theorem xL(hN:N.Nodup)(a:N[i]?=some x)(b:N[j]?=some x):i=j:=by
 obtain⟨h1,e1⟩:=bp.mp a
 obtain⟨h2,e2⟩:=bp.mp b
 exact(List.getElem_inj hN).mp (e1.trans e2.symm)
theorem Bl{v:V}{Q:Unit->Shared->Prop}(I:aQ X aa σ H s)(hN:X.N.Nodup)(hi:X.N[i]?=some x)(hx:Loc X.env.scope x)(r:cB v u)
  (h:∀s',aQ X aa (σ.set i (some v)) H s'->(∃a,Heap.SameBut a s.heap s'.heap/\(a=X.env.locals\/X.env.cells.lookup x=some a))->Q () s') (hf:X.fn x=true\/X.env.scope.names.lookup x=some .local:=by first|exact .inl rfl|exact .inr rfl|assumption):wpAny M A (storeName X.env x u) Q E s:=by
 obtain⟨m,hn,hl⟩:=id I.loc
 have P7:(X.env.scope.kind==.class||(X.env.scope.kind==.module && X.env.locals !=X.env.globals))=false:=by rw[I.ok.kind];rfl
 have KF:i<σ.length:=by rw[I.len];exact(bp.mp hi).1
 have cne:=I.cne
 have tracked:∀{a:Addr}{h':Heap},(∃o,s.heap.get? a=some o/\H a=none)->Heap.SameBut a s.heap h'->lC X.prog X.w H h':=λ{a h'} ha hs b ob e=>by
  obtain⟨_,_,yy⟩:=ha
  refine(I.hok b ob e).stay (λc w' hc q=>(hs.2 c ?_).trans q) (λ_ q=>q) λ_ _ q=>q
  rintro rfl
  rcases hc with rfl|hc
  ·rw[yy] at e;cases e
  ·rw[yy] at hc;cases hc
 rcases hx with hk|hk
 ·refine wpAny_storeName_local hk hn (λh' yz hs=>?_) P7
  obtain⟨oL,_,_,wj,_⟩:=id hn
  refine h _ ⟨I.ok,I.os,I.bare,⟨λb o e n hb hx=>?_,λb o e n hb hx=>?_,I.base.free,λb o e hx=>?_,I.base.tups,I.base.frzs,I.base.tbls⟩,⟨_,yz,λj y v' e1 e2 e3=>?_⟩,λy c e=>?_,I.free,I.freeC,λp hp=>?_,tracked ⟨oL,wj,I.free⟩ hs,by simpa using I.len⟩ ⟨_,hs,.inl rfl⟩
  ·exact(hs.2 b (b8 (i7 (ba e) I.ok.above))).trans (I.base.keep b o e n hb hx)
  ·obtain⟨sl,e1⟩:=I.base.slot b o e n hb hx
   exact⟨sl,(hs.2 b (b8 (i7 (ba e) I.ok.above))).trans e1⟩
  ·obtain⟨o',e1⟩:=I.base.there b o e hx
   exact⟨o',(hs.2 b (b8 (i7 (ba e) I.ok.above))).trans e1⟩
  ·by_cases hj:j=i
   ·subst hj
    rw[hi] at e1;cases e1
    rw[ER KF] at e2
    cases e2
    exact⟨u,r,.inl ⟨hk,by simp⟩⟩
   ·rw[JD (au hj)] at e2
    obtain⟨u',r',q⟩:=hl j y v' e1 e2 e3
    refine⟨u',r',?_⟩
    rcases q with ⟨k,e⟩|⟨k,c,e,z⟩
    ·refine .inl ⟨k,?_⟩
     have:y≠x:=λe=>hj (xL hN e1 (e▸hi))
     simp[this,e]
    ·exact .inr ⟨k,c,e,z.sameBut hs (cne y c e)⟩
  ·obtain⟨w',z⟩:=I.cell y c e
   exact⟨w',z.sameBut hs (cne y c e)⟩
  ·obtain⟨e,n,ne,nf,d⟩:=I.pin p hp
   exact⟨(hs.2 p.1 ne).trans e,n,ne,nf,d⟩
 ·have AU:X.fn x=true:=by
   rcases hf with z|z
   ·exact z
   ·rw[z] at hk;cases hk
  obtain⟨c,hc⟩:=I.ok.has x (.inl hk)
  obtain⟨w',z⟩:=I.cell x c hc
  refine wpAny_storeName_cell I.ok.kind hk hc z (λh' qb hs=>?_)
  obtain⟨oc,KG,P8⟩:=id z
  refine h {s with heap:=h'} ⟨I.ok,I.os,I.bare,⟨λb o e n hb hx=>?_,λb o e n hb hx=>?_,I.base.free,λb o e hx=>?_,I.base.tups,I.base.frzs,I.base.tbls⟩,⟨m,hn.sameBut hs (au (cne x c hc)),λj y v' e1 e2 e3=>?_⟩,λy c' e=>?_,I.free,I.freeC,λp hp=>?_,tracked ⟨oc,KG,I.freeC x c hc⟩ hs,by simpa using I.len⟩ ⟨c,hs,.inr hc⟩
  ·exact(hs.2 b (b8 (i7 (ba e) (I.ok.cab x c AU hc)))).trans (I.base.keep b o e n hb hx)
  ·obtain⟨sl,e1⟩:=I.base.slot b o e n hb hx
   exact⟨sl,(hs.2 b (b8 (i7 (ba e) (I.ok.cab x c AU hc)))).trans e1⟩
  ·obtain⟨o',e1⟩:=I.base.there b o e hx
   exact⟨o',(hs.2 b (b8 (i7 (ba e) (I.ok.cab x c AU hc)))).trans e1⟩
  ·by_cases hj:j=i
   ·subst hj
    rw[hi] at e1;cases e1
    rw[ER KF] at e2
    cases e2
    exact⟨u,r,.inr ⟨.inl hk,c,hc,qb⟩⟩
   ·rw[JD (au hj)] at e2
    obtain⟨u',r',q⟩:=hl j y v' e1 e2 e3
    refine⟨u',r',?_⟩
    rcases q with q|⟨k,c',e,z'⟩
    ·exact .inl q
    ·refine .inr ⟨k,c',e,z'.sameBut hs ?_⟩
     rintro rfl
     exact hj (xL hN e1 (I.ok.inj _ _ _ e hc▸hi))
  ·by_cases C4:c'=c
   ·subst C4;exact⟨_,qb⟩
   ·obtain⟨w2,z2⟩:=I.cell y c' e
    exact⟨w2,z2.sameBut hs C4⟩
  ·obtain⟨e,n,ne,nf,d⟩:=I.pin p hp
   refine⟨(hs.2 p.1 ?_).trans e,n,ne,nf,d⟩
   intro q
   rw[q,KG] at e
   have q':oc=p.2:=Option.some.inj e
   exact d w' (by rw[<-q'];exact P8)
theorem yI{v:V}{Q:Unit->Shared->Prop}(I:aQ X aa σ H s)(hN:X.N.Nodup)(hi:X.N[i]?=some x)(hx:Loc X.env.scope x)(r:cB v u)
  (h:∀s',aQ X aa (σ.set i (some v)) H s'->Q () s') (hf:X.fn x=true\/X.env.scope.names.lookup x=some .local:=by first|exact .inl rfl|exact .inr rfl|assumption):wpAny M A (storeName X.env x u) Q E s:=
 Bl I hN hi hx r (λs' I' _=>h s' I') hf
theorem aQ.call'(I:aQ X aa σ H s)(ho:s'.os=s.os)(u:Un (Al X.stack) ch H H' s.heap s'.heap)(hok:lC X.prog X.w H' s'.heap)(hg:AllBare s'.gens)
  (i9:∀b∈ch,(b∈X.ex\/X.s_0.heap.objs.size<=b)/\b≠X.env.locals/\(∀x c,X.env.cells.lookup x=some c->c≠b)/\∀p∈X.pn++aa,p.1≠b):aQ X aa σ H' s':=by
 obtain⟨h',g',d',t',o'⟩:=s'
 have e:o'=s.os:=ho
 subst e
 exact I.call (g':=g') (t':=t') (d':=d') u hok hg i9
end
abbrev XK:=Value->Option Addr->Hp->Prop
abbrev St:=List (Option V)
abbrev VK:=V->Hp->Prop
abbrev TE:=St->Hp->VK->Prop
abbrev TT:=St->Hp->(Bool->Hp->Prop)->Prop
abbrev TA:=St->Hp->(List V->Hp->Prop)->Prop
structure fX where
 nx:St->Hp->Prop
 rt:VK
 bk:St->Hp->Prop:=λ_ _=>False
 ct:St->Hp->Prop:=λ_ _=>False
abbrev TS:=fX->St->Hp->Prop
def EP(X:Cx)(aa:List (Addr×Obj))(σ:St)(Q:VK)(u:Value)(s':Shared):Prop:=∃v H',aQ X aa σ H' s'/\cB v u/\Q v H'
def TP(X:Cx)(aa:List (Addr×Obj))(σ:St)(Q:Bool->Hp->Prop)(b:Bool)(s':Shared):Prop:=∃H',aQ X aa σ H' s'/\Q b H'
def AP(X:Cx)(aa:List (Addr×Obj))(σ:St)(Q:List V->Hp->Prop)(us:List Value)(s':Shared):Prop:=∃vs H',aQ X aa σ H' s'/\bK vs us/\Q vs H'
def SP(X:Cx)(aa:List (Addr×Obj))(D:fX)(f:Flow)(s':Shared):Prop:=
 match f with
 |.next=>∃ah H',aQ X aa ah H' s'/\D.nx ah H'
 |.brk=>∃ah H',aQ X aa ah H' s'/\D.bk ah H'
 |.cont=>∃ah H',aQ X aa ah H' s'/\D.ct ah H'
 |.ret u=>∃v ah H',aQ X aa ah H' s'/\cB v u/\D.rt v H'
def PE(X:Cx)(e:Expr)(t:TE):Prop:=
 ∀(aa:List (Addr×Obj)) (s:Shared) (σ:St) (H:Hp) (Q:VK),aQ X aa σ H s->t σ H Q->wpAny (model X.prog X.w) X.A (eval e X.env) (EP X aa σ Q) X.xe s
def PT(X:Cx)(e:Expr)(t:TT):Prop:=
 ∀(aa:List (Addr×Obj)) (s:Shared) (σ:St) (H:Hp) (Q:Bool->Hp->Prop),aQ X aa σ H s->t σ H Q->wpAny (model X.prog X.w) X.A (isTrue e X.env (eval e X.env)) (TP X aa σ Q) X.xe s
def PW(X:Cx)(e:Expr)(t:TT):Prop:=
 ∀(whole:Sem Value) (aa:List (Addr×Obj)) (s:Shared) (σ:St) (H:Hp) (Q:Bool->Hp->Prop),aQ X aa σ H s->t σ H Q->wpAny (model X.prog X.w) X.A (isTrue e X.env whole) (TP X aa σ Q) X.xe s
variable{X:Cx}
theorem PW.pt{t:TT}(h:PW X e t):PT X e t:=h _
def PA(X:Cx)(es:List Expr)(t:TA):Prop:=
 ∀(pos:Pos) (aa:List (Addr×Obj)) (s:Shared) (σ:St) (H:Hp) (Q:List V->Hp->Prop),aQ X aa σ H s->t σ H Q->wpAny (model X.prog X.w) X.A (spliced (backTo pos (starEach es X.env))) (AP X aa σ Q) X.xe s
def PS(X:Cx)(st:Stmt)(t:TS):Prop:=
 ∀(aa:List (Addr×Obj)) (s:Shared) (σ:St) (H:Hp) (D:fX),aQ X aa σ H s->t D σ H->wpAny (model X.prog X.w) X.A (exec st X.env) (SP X aa D) X.xe s
def Ar(X:Cx)(st:List Stmt)(t:TS):Prop:=
 ∀(aa:List (Addr×Obj)) (s:Shared) (σ:St) (H:Hp) (D:fX),aQ X aa σ H s->t D σ H->wpAny (model X.prog X.w) X.A (execs st X.env) (SP X aa D) X.xe s
theorem cV{t:Sem α}{Q Q':α->Shared->Prop}(h:wpAny M A t Q E s)(hQ:∀a s,Q a s->Q' a s):wpAny M A t Q' E s:=jm h hQ λ_ _ x=>x
section
variable{ta:TE}{σ:St}
theorem bin{a b:Expr}{tb:TE}(ha:PE X a ta)(hb:PE X b tb){R:V->V->Hp->Prop}(I:aQ X aa σ H s)(h:ta σ H λx H1=>tb σ H1 λy H2=>R x y H2)
  {α:Type} {Q:α->Shared->Prop} {f:Value->Value->Sem α}
  (hf:∀v u s2 x y H2,aQ X aa σ H2 s2->cB x v->cB y u->R x y H2->wpAny (model X.prog X.w) X.A (f v u) Q X.xe s2):
  wpAny (model X.prog X.w) X.A (eval a X.env) (λv ay=>wpAny (model X.prog X.w) X.A (eval b X.env) (λu fq=>wpAny (model X.prog X.w) X.A (f v u) Q X.xe fq) X.xe ay) X.xe s:=by
 refine cV (ha aa s σ H _ I h) λv s1 ⟨x,H1,I1,r1,q1⟩=>?_
 refine cV (hb aa s1 σ H1 _ I1 q1) λu s2 ⟨y,H2,I2,r2,q2⟩=>?_
 exact hf v u s2 x y H2 I2 r1 r2 q2
def cU(i:Nat):TE:=fun σ H Q=>∃v,σ[i]?=some (some v)/\Q v H
def tC(v:V):TE:=λ_ H Q=>Q v H
theorem aCg(hN:X.N[i]?=some x)(hv:Vis X.env.scope x)(hd:(x==("__debug__":Str))=false:=by decide)(i':(x==("__classdict__":Str))=false:=by decide):PE X (.Name x pos) (cU i):=by
 intro aa s σ H Q I h
 obtain⟨v,e,h⟩:=h
 obtain⟨m,hn,hl⟩:=I.loc
 obtain⟨u,r,l⟩:=hl i x v hN e hv
 have fin:EP X aa σ Q u s:=⟨v,H,I,r,h⟩
 rcases l with ⟨hk,hm⟩|⟨hk,c,hc,ro⟩
 ·exact wpAny_Name (wpAny_loadName_local I.ok.kind hk hn hm fin) hd
 ·rcases hk with hk|hk
  ·exact wpAny_Name (wpAny_loadName_cell I.ok.kind hk hc ro fin) hd
  ·exact wpAny_Name (wpAny_loadName_free I.ok.kind hk hc ro fin i') hd
theorem aI{i j pos}:PE X (.Constant (.int i) j pos) (tC (.int i)):=λ_ _ _ H _ I h=>wpAny_Constant_int ⟨.int i,H,I.tok _,⟨_,rfl⟩,h⟩
theorem nO{b j pos}:PE X (.Constant (.bool b) j pos) (tC (.bl b)):=λ_ _ _ H _ I h=>Constant_bool ⟨.bl b,H,I,rfl,h⟩
theorem xE{j pos}:PE X (.Constant .none j pos) (tC .non):=λ_ _ _ H _ I h=>Constant_none ⟨.non,H,I,rfl,h⟩
theorem gM{x j pos}:PE X (.Constant (.str x) j pos) (tC (.str x)):=λ_ _ _ H _ I h=>Calls.Constant_str ⟨.str x,H,I.tok _,⟨_,rfl⟩,h⟩
def Gl(X:Cx)(x:Str):Prop:=X.env.kindOf x=some .globalImplicit
theorem iG(I:aQ X aa σ H s)(hg:Gl X x)(hm:X.mg x=some u)(h:Q u s)
  (hd:(x==("__debug__":Str))=false:=by decide):wpAny (model X.prog X.w) X.A (eval (.Name x pos) X.env) Q E s:=
 N5 I.ok.kind hg (Calls.loadGlobal_global (by rw[I.ok.glob];exact I.mod.glob.keeps I.bk) hm h) hd
theorem lY(I:aQ X aa σ H s)(hg:Gl X x)(hm:X.mg x=none)(hv:bootBuiltins x=some u)(h:Q u s)
  (hn:x≠"__name__":=by decide) (hd:(x==("__debug__":Str))=false:=by decide):wpAny (model X.prog X.w) X.A (eval (.Name x pos) X.env) Q E s:=by
 obtain⟨mb,h1,h2⟩:=I.mod.blt
 exact N5 I.ok.kind hg (Calls.loadGlobal_builtin (by rw[I.ok.glob];exact I.mod.glob.keeps I.bk) hm (by rw[I.ok.blt];exact h1.keeps I.bk) ((h2 x hn).trans hv) h) hd
theorem wD{v:V}(hg:Gl X x)(hm:X.mg x=some u)(r:cB v u)(hd:(x==("__debug__":Str))=false:=by decide):PE X (.Name x pos) (tC v):=
 λ_ _ _ H _ I h=>iG I hg hm ⟨v,H,I,r,h⟩ hd
def t2I(ta tb:TE)(k:Int->Int->Hp->Prop):St->Hp->Prop:=fun σ H=>ta σ H λx H1=>tb σ H1 λy H2=>∃i j,x=.int i/\y=.int j/\k i j H2
variable{a b:Expr}{tb:TE}
def PC(X:Cx)(op:CmpOp)(a b:Expr)(t:TE):Prop:=
 ∀(aa:List (Addr×Obj)) (s:Shared) (σ:St) (H:Hp) (Q:VK),aQ X aa σ H s->t σ H Q->
  wpAny (model X.prog X.w) X.A (eval a X.env) (λv ay=>wpAny (model X.prog X.w) X.A (eval b X.env) (λu fq=>wpAny (model X.prog X.w) X.A (compareOp op v u) (EP X aa σ Q) X.xe fq) X.xe ay) X.xe s
theorem xY(b:Expr)(h:op≠.In)(h2:op≠.NotIn):behindInMarks op b=false:=by
 have e1:(op==CmpOp.In)=false:=by cases op<;>first|rfl|exact absurd rfl h
 have e2:(op==CmpOp.NotIn)=false:=by cases op<;>first|rfl|exact absurd rfl h2
 cases b<;>simp[behindInMarks,e1,e2]
def Xc(p:Int->Int->Bool)(ta tb:TE):TE:=fun σ H Q=>t2I ta tb (λi j H2=>Q (.bl (p i j)) H2) σ H
abbrev tLt:TE->TE->TE:=Xc λi j=>decide (i<j)
abbrev tLe:TE->TE->TE:=Xc λi j=>decide (i<=j)
abbrev tGt:TE->TE->TE:=Xc λi j=>decide (j<i)
abbrev aGw:TE->TE->TE:=Xc λi j=>decide (i=j)
theorem Dy{p:Int->Int->Bool}(ha:PE X a ta)(hb:PE X b tb)
  (rule:∀(i j:Int)(t u:Tok)(Q:Value->Shared->Prop)(s:Shared),Q (.bool (p i j)) s->wpAny (model X.prog X.w) X.A (compareOp op (.int i t) (.int j u)) Q X.xe s):PC X op a b (Xc p ta tb):=by
 intro aa s σ H Q I h
 refine bin ha hb I h λv u s2 x y H2 I2 rx ry q=>?_
 obtain⟨i,j,rfl,rfl,q⟩:=q
 obtain⟨t,rfl⟩:=rx
 obtain⟨t',rfl⟩:=ry
 exact rule i j t t' _ s2 ⟨.bl _,H2,I2,rfl,q⟩
theorem Op(ha:PE X a ta)(hb:PE X b tb):PC X .Lt a b (tLt ta tb):=Dy ha hb λ_ _ _ _ _ _ h=>lt_int h
theorem aEu(ha:PE X a ta)(hb:PE X b tb):PC X .LtE a b (tLe ta tb):=Dy ha hb λ_ _ _ _ _ _ h=>le_int h
theorem sN(ha:PE X a ta)(hb:PE X b tb):PC X .Gt a b (tGt ta tb):=Dy ha hb λ_ _ _ _ _ _ h=>gt_int h
theorem aB7(ha:PE X a ta)(hb:PE X b tb):PC X .Eq a b (aGw ta tb):=Dy ha hb λ_ _ _ _ _ _ h=>eq_int (by rw[JE];exact h)
def tB(t:TE):TT:=fun σ H Q=>t σ H λx H1=>∃c,x=.bl c/\Q c H1
theorem dS{t:TE}(h:PC X op a b t)(h1:behindInMarks op b=false:=by first|exact xY _ (by decide) (by decide)|rfl):PT X (.Compare a [op] [b] pos) (tB t):=by
 intro aa s σ H Q I hw
 refine wpAny_isTrue_Compare1 (cV (h aa s σ H _ I hw) λv s1 h1=>cV h1 λu s2 h2=>cV h2 λc s3 ⟨x,H1,I1,r1,q1⟩=>?_) h1
 obtain⟨d,rfl,q⟩:=q1
 cases r1
 exact wpAny_truthy_bool ⟨H1,I1,q⟩
theorem eQ{t:TE}(h:PE X e t)(he:∀whole,isTrue e X.env whole=(do let v <-whole;standAt e.pos;holding [v] (truthy v)):=by intro _;rfl):PT X e (tB t):=by
 intro aa s σ H Q I hw
 refine isTrue_plain (cV (h aa s σ H _ I hw) λv s1 ⟨x,H1,I1,r1,q1⟩=>?_) (he _)
 obtain⟨d,rfl,q⟩:=q1
 cases r1
 exact wpAny_truthy_bool ⟨H1,I1,q⟩
variable{tA C5:TT}{rest:List Expr}
def aFx(t u:TT):TT:=fun σ H Q=>t σ H λc H1=>if c=true then u σ H1 Q else Q false H1
def tOr(t u:TT):TT:=fun σ H Q=>t σ H λc H1=>if c=true then Q true H1 else u σ H1 Q
def aG6(t:TT):TT:=fun σ H Q=>t σ H λc H1=>Q (!c) H1
theorem iE(ha:PT X a tA):PW X (.BoolOp .And [a] pos) tA:=by
 intro wh aa s σ H Q I h
 refine isTrue_and (cV (ha aa s σ H Q I h) λc s1 e=>?_)
 cases c with
 |true=>exact isTrue_and_nil e
 |false=>exact e
theorem Co(ha:PT X a tA):PW X (.BoolOp .Or [a] pos) tA:=by
 intro wh aa s σ H Q I h
 refine isTrue_or (cV (ha aa s σ H Q I h) λc s1 e=>?_)
 cases c with
 |false=>exact isTrue_or_nil e
 |true=>exact e
theorem hJ(ha:PT X a tA)(hb:PW X (.BoolOp .And (b::rest) pos) C5):PW X (.BoolOp .And (a::b::rest) pos) (aFx tA C5):=by
 intro wh aa s σ H Q I h
 refine isTrue_and (cV (ha aa s σ H _ I h) λc s1 ⟨H1,I1,q1⟩=>?_)
 cases c with
 |true=>exact hb wh aa s1 σ H1 Q I1 q1
 |false=>exact⟨H1,I1,q1⟩
theorem Nb(ha:PT X a tA)(hb:PW X (.BoolOp .Or (b::rest) pos) C5):PW X (.BoolOp .Or (a::b::rest) pos) (tOr tA C5):=by
 intro wh aa s σ H Q I h
 refine isTrue_or (cV (ha aa s σ H _ I h) λc s1 ⟨H1,I1,q1⟩=>?_)
 cases c with
 |true=>exact⟨H1,I1,q1⟩
 |false=>exact hb wh aa s1 σ H1 Q I1 q1
theorem lQ(ha:PT X a tA):PT X (.UnaryOp .Not a pos) (aG6 tA):=by
 intro aa s σ H Q I h
 exact isTrue_not (ha aa s σ H (λc H1=>Q (!c) H1) I h)
def aE7(ta tb:TE):TE:=fun σ H Q=>ta σ H λx H1=>∃c,x=.bl c/\if c=true then tb σ H1 Q else Q (.bl false) H1
def aGs(ta tb:TE):TE:=fun σ H Q=>ta σ H λx H1=>∃c,x=.bl c/\if c=true then Q (.bl true) H1 else tb σ H1 Q
def aFe(ta:TE):TE:=fun σ H Q=>ta σ H λx H1=>∃c,x=.bl c/\Q (.bl (!c)) H1
theorem uE{op}{t:TE}(h:PE X a t):PE X (.BoolOp op [a] pos) t:=λaa s σ H Q I hw=>BoolOp_one (h aa s σ H Q I hw)
theorem sS(ha:PE X a ta)(hb:PE X (.BoolOp .And (b::rest) pos) tb):PE X (.BoolOp .And (a::b::rest) pos) (aE7 ta tb):=by
 intro aa s σ H Q I h
 refine BoolOp_and (cV (ha aa s σ H _ I h) λv s1 ⟨x,H1,I1,r1,q1⟩=>?_)
 obtain⟨c,rfl,q1⟩:=q1
 cases r1
 refine wpAny_truthy_bool ?_
 cases c with
 |true=>exact hb aa s1 σ H1 Q I1 q1
 |false=>exact⟨.bl false,H1,I1,rfl,q1⟩
theorem Ss(ha:PE X a ta)(hb:PE X (.BoolOp .Or (b::rest) pos) tb):PE X (.BoolOp .Or (a::b::rest) pos) (aGs ta tb):=by
 intro aa s σ H Q I h
 refine BoolOp_or (cV (ha aa s σ H _ I h) λv s1 ⟨x,H1,I1,r1,q1⟩=>?_)
 obtain⟨c,rfl,q1⟩:=q1
 cases r1
 refine wpAny_truthy_bool ?_
 cases c with
 |false=>exact hb aa s1 σ H1 Q I1 q1
 |true=>exact⟨.bl true,H1,I1,rfl,q1⟩
theorem aBy(ha:PE X a ta):PE X (.UnaryOp .Not a pos) (aFe ta):=by
 intro aa s σ H Q I h
 refine UnaryOp_ (cV (ha aa s σ H _ I h) λv s1 ⟨x,H1,I1,r1,q1⟩=>?_)
 obtain⟨c,rfl,q1⟩:=q1
 cases r1
 exact not_of (wpAny_truthy_bool ⟨.bl (!c),H1,I1,rfl,q1⟩)
def tIf(t:TT)(ta tb:TE):TE:=fun σ H Q=>t σ H λc H1=>if c=true then ta σ H1 Q else tb σ H1 Q
theorem Fx(hc:PT X c tA)(ha:PE X a ta)(hb:PE X b tb):PE X (.IfExp c a b pos) (tIf tA ta tb):=by
 intro aa s σ H Q I h
 refine wpAny_IfExp (cV (hc aa s σ H _ I h) λd s1 ⟨H1,I1,q1⟩=>?_)
 cases d with
 |true=>exact ha aa s1 σ H1 Q I1 q1
 |false=>exact hb aa s1 σ H1 Q I1 q1
end
def cP(K:Frag)(H:Hp)(a:Addr)(xs:List V):Prop:=
 Rd H a (.lst xs)\/
  ∃(o:Obj)(its:Array Value)(n:Nat),K.lookup a=some o/\o.cls=.type "list"/\o.dict=none/\o.data=.seq its n/\its.size<=sizeLine/\bK xs its.toList
def cG(K:Frag)(H:Hp)(a:Addr)(xs:List V):Prop:=
 Rd H a (.tup xs)\/
  ∃(o:Obj)(its:Array Value)(n:Nat),K.lookup a=some o/\o.cls=.type "tuple"/\o.data=.seq its n/\its.size<=sizeLine/\bK xs its.toList
def aGb:Value->Option V
 |.none=>some .non
 |.bool b=>some (.bl b)
 |.int i _=>some (.int i)
 |.str x _=>some (.str x)
 |.bytes b _=>some (.byt b)
 |.float b _=>some (.flt b)
 |.ref a=>some (.ref a)
 |.type n=>some (.ty n)
 |_=>none
theorem cB.abs{x:V}(r:cB x u):aGb u=some x:=by
 cases x with
 |non=>cases r;rfl
 |bl _=>cases r;rfl
 |int _=>obtain⟨t,rfl⟩:=r;rfl
 |str _=>obtain⟨t,rfl⟩:=r;rfl
 |byt _=>obtain⟨t,rfl⟩:=r;rfl
 |flt _=>obtain⟨t,rfl⟩:=r;rfl
 |ref _=>cases r;rfl
 |ty _=>cases r;rfl
variable{y:V}
theorem cB.inj{x:V}(r:cB x u)(q:cB y u):x=y:=Option.some.inj (r.abs.symm.trans q.abs)
theorem bK.inj:∀{xs ys:List V}{us:List Value},bK xs us->bK ys us->xs=ys
 |_,_,_,.nil,.nil=>rfl
 |_,_,_,.cons r t,.cons r' t'=>by rw[r.inj r',bK.inj t t']
section
variable{ys:List V}{σ:St}
variable{K:Frag}
theorem cP.of(h:H a=some (.lst xs)):cP K H a xs:=.inl (.inl h)
theorem cG.of(h:H a=some (.tup xs)):cG K H a xs:=.inl (.inl h)
theorem aQ.list(I:aQ X aa σ H s)(h:cP X.K H a xs):∃its:List Value,bK xs its/\PlainL s.heap a its.toArray/\xs.length<=sizeLine:=by
 rcases h with h|⟨o,its,n,hk,hc,hd,hs,hz,r⟩
 ·obtain⟨z,its,n,r,e⟩:=h.ok I.hok
  exact⟨its,r,⟨_,n,e,rfl,rfl,rfl⟩,z⟩
 ·refine⟨its.toList,r,⟨o,n,I.kIn a o hk,hc,hd,by simpa using hs⟩,?_⟩
  have e:=r.length
  simp only[d5] at e
  omega
theorem aQ.tuple(I:aQ X aa σ H s)(h:cG X.K H a xs):∃its:List Value,bK xs its/\IsTup s.heap a its.toArray/\xs.length<=sizeLine:=by
 rcases h with h|⟨o,its,n,hk,hc,hs,hz,r⟩
 ·obtain⟨z,its,r,p⟩:=h.ok I.hok
  exact⟨its,r,p,z⟩
 ·refine⟨its.toList,r,⟨o,I.kIn a o hk,hc,n,by simpa using hs⟩,?_⟩
  have e:=r.length
  simp only[d5] at e
  omega
theorem aQ.list_inj(I:aQ X aa σ H s)(h:cP X.K H a xs)(h':cP X.K H a ys):xs=ys:=by
 obtain⟨its,r,⟨o,n,e,_,_,d⟩,_⟩:=I.list h
 obtain⟨its',r',⟨o',n',e',_,_,d'⟩,_⟩:=I.list h'
 rw[e] at e';cases e'
 rw[d] at d'
 injection d' with d1 _
 have:its=its':=by simpa using congrArg Array.toList d1
 subst this
 exact r.inj r'
theorem aQ.tuple_inj(I:aQ X aa σ H s)(h:cG X.K H a xs)(h':cG X.K H a ys):xs=ys:=by
 obtain⟨its,r,⟨o,e,_,n,d⟩,_⟩:=I.tuple h
 obtain⟨its',r',⟨o',e',_,n',d'⟩,_⟩:=I.tuple h'
 rw[e] at e';cases e'
 rw[d] at d'
 injection d' with d1 _
 have:its=its':=by simpa using congrArg Array.toList d1
 subst this
 exact r.inj r'
end
abbrev Cx.wish(X:Cx)(E:Value->Shared->Prop):Cx:={X with xe:=E}
abbrev Cx.nox(X:Cx):Cx:=X.wish λ_ _=>False
theorem Cx.Ok.wish(ok:X.Ok)(E:Value->Shared->Prop):(X.wish E).Ok:=
 ⟨ok.mod,ok.kind,ok.glob,ok.blt,ok.above,ok.inj,ok.has,ok.cab,ok.hd,ok.frames,ok.stk,ok.exf,ok.bs,ok.bsz,ok.noex,ok.exfs,ok.funs,ok.frf⟩
theorem Cx.Ok.unwish(ok:(X.wish E).Ok):X.Ok:=
 ⟨ok.mod,ok.kind,ok.glob,ok.blt,ok.above,ok.inj,ok.has,ok.cab,ok.hd,ok.frames,ok.stk,ok.exf,ok.bs,ok.bsz,ok.noex,ok.exfs,ok.funs,ok.frf⟩
variable{σ:St}
theorem aQ.wish(I:aQ X aa σ H s)(E:Value->Shared->Prop):aQ (X.wish E) aa σ H s:=⟨I.ok.wish E,I.os,I.bare,I.base,I.loc,I.cell,I.free,I.freeC,I.pin,I.hok,I.len⟩
theorem aQ.unwish(I:aQ (X.wish E) aa σ H s):aQ X aa σ H s:=⟨I.ok.unwish,I.os,I.bare,I.base,I.loc,I.cell,I.free,I.freeC,I.pin,I.hok,I.len⟩
variable{D:fX}
theorem SP.unwish{f:Flow}(h:SP (X.wish E) aa D f s'):SP X aa D f s':=by
 cases f with
 |next=>obtain⟨ah,H',I,q⟩:=h;exact⟨ah,H',I.unwish,q⟩
 |brk=>obtain⟨ah,H',I,q⟩:=h;exact⟨ah,H',I.unwish,q⟩
 |cont=>obtain⟨ah,H',I,q⟩:=h;exact⟨ah,H',I.unwish,q⟩
 |ret u=>obtain⟨v,ah,H',I,r,q⟩:=h;exact⟨v,ah,H',I.unwish,r,q⟩
theorem Ar.nox{st:List Stmt}{t:TS}(h:Ar X.nox st t):Ar X st t:=λaa s σ H D I hw=>
 jm (h aa s σ H D (I.wish _) hw) (λ_ _ q=>q.unwish) λ_ _ z=>False.elim z
section
variable{st:Stmt}{rest:List Stmt}{t u:TS}{te:TE}
def aA5:TS:=λD σ H=>D.nx σ H
def Fu(t u:TS):TS:=λD σ H=>t {D with nx:=u D} σ H
theorem bX:Ar X [] aA5:=λ_ _ σ H _ I h=>xz ⟨σ,H,I,h⟩
theorem aF(h1:PS X st t)(h2:Ar X rest u):Ar X (st::rest) (Fu t u):=by
 intro aa s σ H D I h
 refine wpAny_execs_cons (cV (h1 aa s σ H {D with nx:=u D} I h) λf s1 q=>?_)
 cases f with
 |next=>
  obtain⟨ah,H',I',q⟩:=q
  exact h2 aa s1 ah H' D I' q
 |ret v=>exact q
 |brk=>exact q
 |cont=>exact q
theorem aH(h1:PS X st t):Ar X [st] t:=by
 intro aa s σ H D I h
 refine wpAny_execs_cons (cV (h1 aa s σ H D I h) λf s1 q=>?_)
 cases f with
 |next=>exact xz q
 |ret v=>exact q
 |brk=>exact q
 |cont=>exact q
theorem aQ.quiet(I:aQ X aa σ H s):interactive X.env=false:=by simp[interactive,I.ok.kind]
def Ay(te:TE):TS:=λD σ H=>te σ H λ_ H1=>D.nx σ H1
theorem cR(he:PE X e te)(hs:swapsWith e none pos.line X.env=pure false:=by rfl):PS X (.Expr e pos) (Ay te):=by
 intro aa s σ H D I h
 exact wpAny_Expr_any (cV (he aa s σ H _ I h) λv s1 ⟨x,H1,I1,r1,q1⟩=>⟨σ,H1,I1,q1⟩) I.quiet hs
def aCq(te:TE):TS:=λD σ H=>te σ H D.rt
theorem aR(he:PE X e te):PS X (.Return (some e) pos) (aCq te):=by
 intro aa s σ H D I h
 exact wpAny_Return_some (cV (he aa s σ H _ I h) λv s1 ⟨x,H1,I1,r1,q1⟩=>⟨x,σ,H1,I1,r1,q1⟩)
def aDe(c:TT)(t u:TS):TS:=λD σ H=>c σ H λb H1=>if b=true then t D σ H1 else u D σ H1
theorem eA{a b:List Stmt}{tc:TT}(hc:PT X c tc)(ha:Ar X a t)(hb:Ar X b u):PS X (.If c a b pos) (aDe tc t u):=by
 intro aa s σ H D I h
 refine wpAny_If (cV (hc aa s σ H _ I h) λd s1 ⟨H1,I1,q1⟩=>?_)
 cases d with
 |true=>exact ha aa s1 σ H1 D I1 q1
 |false=>exact hb aa s1 σ H1 D I1 q1
end
abbrev TG:=V->St->Hp->(St->Hp->Prop)->Prop
abbrev TGs:=List V->St->Hp->(St->Hp->Prop)->Prop
def PG(X:Cx)(target:Expr)(t:TG):Prop:=
 ∀(aa:List (Addr×Obj)) (s:Shared) (σ:St) (H:Hp) (v:V) (u:Value) (Q:St->Hp->Prop),aQ X aa σ H s->cB v u->t v σ H Q->
  wpAny (model X.prog X.w) X.A (assign target X.env u) (λ_ s'=>∃ah H',aQ X aa ah H' s'/\Q ah H') X.xe s
def PGs(X:Cx)(ts:List Expr)(t:TGs):Prop:=
 ∀(aa:List (Addr×Obj)) (s:Shared) (σ:St) (H:Hp) (vs:List V) (us:List Value) (Q:St->Hp->Prop),aQ X aa σ H s->bK vs us->t vs σ H Q->
  wpAny (model X.prog X.w) X.A (assignInOrder ((assignEach ts X.env).map (·.2)) us) (λ_ s'=>∃ah H',aQ X aa ah H' s'/\Q ah H') X.xe s
def mG(i:Nat):TG:=λv σ H Q=>Q (σ.set i (some v)) H
theorem bE(hN:X.N.Nodup)(hi:X.N[i]?=some x)(hx:Loc X.env.scope x)(hf:X.fn x=true\/X.env.scope.names.lookup x=some .local:=by first|exact .inl rfl|exact .inr rfl|assumption):PG X (.Name x pos) (mG i):=by
 intro aa s σ H v u Q I r h
 exact wpAny_assign_Name (yI I hN hi hx r (λs' I'=>⟨_,H,I',h⟩) hf)
def aGm:TGs:=λvs σ H Q=>vs=[]/\Q σ H
def aEh(t:TG)(u:TGs):TGs:=λvs σ H Q=>∃v r,vs=v::r/\t v σ H λah H'=>u r ah H' Q
theorem jO:PGs X [] aGm:=by
 intro aa s σ H vs us Q I r h
 obtain⟨e,h⟩:=h
 subst e
 cases r
 exact assignInOrder_nil ⟨σ,H,I,h⟩
theorem dI{es:List Expr}{t:TG}{u:TGs}(h1:PG X e t)(h2:PGs X es u)
  (hs:(assignEach (e::es) X.env).map (·.2)=assign e X.env::(assignEach es X.env).map (·.2):=by rfl):PGs X (e::es) (aEh t u):=by
 intro aa s σ H vs us Q I r h
 obtain⟨v,vr,e1,h⟩:=h
 subst e1
 cases r with
 |cons r rr=>
  rw[hs]
  refine assignInOrder_cons (cV (h1 aa s σ H _ _ _ I r h) λ_ s1 ⟨y4,H1,I1,q1⟩=>?_)
  exact h2 aa s1 y4 H1 _ _ Q I1 rr q1
def aF0(K:Frag)(n:Nat)(t:TGs):TG:=λv σ H Q=>∃a xs,v=.ref a/\cG K H a xs/\xs.length=n/\t xs σ H Q
theorem nG{es:List Expr}{t:TGs}{n:Nat}(hc:X.calm=true)(h:PGs X es t)
  (hn:(assignEach es X.env).length=n:=by rfl) (d8:(assignEach es X.env).findIdx? (·.1)=none:=by rfl):PG X (.Tuple es k pos) (aF0 X.K n t):=by
 intro aa s σ H v u Q I r hw
 obtain⟨a,xs,e1,hq,hl,hw⟩:=hw
 subst e1
 cases r
 obtain⟨its,rv,ht,hz⟩:=I.tuple hq
 refine assign_Tuple_tuple (I.ok.hd hc) ht (by simp[hn,<-hl,rv.length]) d8 λh' hx=>?_
 have I1:aQ X aa σ H {s with heap:=h'}:=I.kept (t':=s.toks) λb o e=>hx b o (b8 (ba e)) e
 exact h aa _ σ H xs _ Q I1 (by simpa using rv) hw
def Fn(te:TE)(g:TG):TS:=λD σ H=>te σ H λx H1=>g x σ H1 D.nx
variable{te:TE}
theorem bF(hN:X.N.Nodup)(hi:X.N[i]?=some x)(hx:Loc X.env.scope x)(he:PE X e te)(hs:swapsWith e (some (.Name x l5)) pos.line X.env=pure false:=by rfl)(hf:X.fn x=true\/X.env.scope.names.lookup x=some .local:=by first|exact .inl rfl|exact .inr rfl|assumption):
  PS X (.Assign [.Name x l5] e pos) (Fn te (mG i)):=by
 intro aa s σ H D I h
 refine wpAny_Assign_Name (cV (he aa s σ H _ I h) λv s1 ⟨y,H1,I1,r1,q1⟩=>?_) hs
 exact yI I1 hN hi hx r1 (λs2 I2=>⟨_,H1,I2,q1⟩) hf
def aC3(c:TT)(tb:TS):TS:=λD σ H=>∃W:Nat->St->Hp->Prop,(∃m,W m σ H)/\∀m σ H,W m σ H->
 c σ H λb H1=>if b=true then ∃N:St->Hp->Prop,(∀ah H',N ah H'->∃m',m'<m/\W m' ah H')/\tb {D with nx:=N,ct:=N,bk:=D.nx} σ H1 else D.nx σ H1
variable{tb:TS}
theorem kR{tc:TT}(hp:PassesOwn (model X.prog X.w) X.A X.env X.xe)(hc:PT X c tc)(hb:Ar X body tb):PS X (.While c body [] pos) (aC3 tc tb):=by
 intro aa s σ H D I h
 obtain⟨W,⟨m0,w0⟩,turn⟩:=h
 refine wpAny_While (codeAny_whileLoop (λn s'=>∃ah H',aQ X aa ah H' s'/\W n ah H') ?_ m0 ⟨σ,H,I,w0⟩)
 rintro n s1 ⟨y4,H1,I1,w1⟩
 refine wpAny_passesOwn hp (cV (hc aa s1 y4 H1 _ I1 (turn n y4 H1 w1)) λb s2 ⟨H2,I2,q2⟩=>?_)
 cases b with
 |true=>
  obtain⟨N,hN,q2⟩:=q2
  rw[af rfl]
  refine wpAny_passesOwn hp (cV (hb aa s2 y4 H2 _ I2 q2) λf s3 q3=>?_)
  cases f with
  |next=>
   obtain⟨jp,H3,I3,n3⟩:=q3
   obtain⟨m',hm,w3⟩:=hN jp H3 n3
   exact⟨m',hm,jp,H3,I3,w3⟩
  |cont=>
   obtain⟨jp,H3,I3,n3⟩:=q3
   obtain⟨m',hm,w3⟩:=hN jp H3 n3
   exact⟨m',hm,jp,H3,I3,w3⟩
  |brk=>exact q3
  |ret v=>exact q3
 |false=>
  rw[ae b6]
  exact xz ⟨y4,H2,I2,q2⟩
structure It where
 go:Nat->Hp->Prop
 yld:Nat->Hp->V->Hp->Prop
 stop:Nat->Hp->Prop
def iV(X:Cx)(aa:List (Addr×Obj))(H:Hp)(b:Addr):Prop:=
 H b=none/\b≠X.env.locals/\b∉X.fs/\(b∈X.ex\/X.s_0.heap.objs.size<=b)/\(∀x c,X.env.cells.lookup x=some c->c≠b)/\∀p∈X.pn++aa,p.1≠b
variable{H':Hp}
theorem aQ.fpOk(I:aQ X aa σ H s)(hb:s.heap.objs.size<=b)(hn:H' b=none):iV X aa H' b:=by
 refine⟨hn,pc (i7 I.lt hb),I.nofs hb,.inr (gm I.sz hb),λx c e z=>?_,λp hp z=>?_⟩
 ·obtain⟨v,q⟩:=I.cell x c e
  exact absurd (i7 q.lt (by rw[z];exact hb)) (j6 _)
 ·exact absurd (i7 (ba (I.pin p hp).1) (by rw[z];exact hb)) (j6 _)
structure zI(P:Program)(w:World)(K:Frag)(tg:Expr)(J:It)(fp:List Addr)(it:Addr)(tn:Nat->Heap->Prop):Prop where
 mem:it∈fp
 obj:∀i h,tn i h->∀b∈fp,∃o,h.get? b=some o/\∀v,o.data≠.cell v
 keep:∀i h h',tn i h->(∀b∈fp,∀o,h.get? b=some o->h'.get? b=some o)->tn i h'
 item:∀(X:Cx),X.prog=P->X.w=w->X.K=K->X.calm=true->∀(i:Nat) (aa:List (Addr×Obj)) (s:Shared) (σ:St) (H:Hp) (E:Value->Shared->Prop),aQ X aa σ H s->(∀b∈fp,iV X aa H b)->tn i s.heap->J.go i H->
  wpAny (model P w) X.A (pyNext (.ref it)) (λr s1=>∃u,r=some u/\
   wpAny (model P w) X.A (letOwnedTupleGo tg (.ref it) u) (λ_ s2=>∃x H',aQ X aa σ H' s2/\cB x u/\J.yld i H x H'/\tn (i+1) s2.heap/\∀b∈fp,H' b=none) E s1) E s
 done:∀(X:Cx),X.prog=P->X.w=w->X.K=K->X.calm=true->∀(i:Nat) (aa:List (Addr×Obj)) (s:Shared) (σ:St) (H:Hp) (E:Value->Shared->Prop),aQ X aa σ H s->(∀b∈fp,iV X aa H b)->tn i s.heap->J.stop i H->
  wpAny (model P w) X.A (pyNext (.ref it)) (λr s1=>r=none/\aQ X aa σ H s1) E s
 self:∀(A:Around)(i:Nat)(s:Shared)(Q:Value->Shared->Prop)(E:Value->Shared->Prop),tn i s.heap->Q (.ref it) s->wpAny (model P w) A (pyIter (.ref it)) Q E s
abbrev TI:=St->Hp->(It->Hp->Prop)->Prop
def PIE(X:Cx)(aa:List (Addr×Obj))(σ:St)(tg:Expr)(R:It->Hp->Prop)(C6:Value)(s2:Shared):Prop:=
 ∃(it:Addr)(fp:List Addr)(tn:Nat->Heap->Prop)(J:It)(H':Hp),C6=.ref it/\aQ X aa σ H' s2/\zI X.prog X.w X.K tg J fp it tn/\tn 0 s2.heap/\(∀b∈fp,iV X aa H' b)/\R J H'
def PI(X:Cx)(tg iter:Expr)(wi:TI):Prop:=
 ∀(aa:List (Addr×Obj)) (s:Shared) (σ:St) (H:Hp) (R:It->Hp->Prop),aQ X aa σ H s->wi σ H R->
  wpAny (model X.prog X.w) X.A (eval iter X.env) (λv s1=>wpAny (model X.prog X.w) X.A (pyIter v) (PIE X aa σ tg R) X.xe s1) X.xe s
theorem As{n:String}{Q:Unit->Shared->Prop}(ho:s.heap.get? it=some o)(hc:o.cls=.type n)(hd:o.data=.fields vs)
  (hn:["enumerate","zip","dict_itemiterator","dict_reverseitemiterator","odict_iterator","itertools.zip_longest","itertools.pairwise"].contains n=false) (hQ:Q () s):wpAny M A (letOwnedTupleGo tg (.ref it) u) Q E s:=by
 unfold letOwnedTupleGo
 cases tg<;>first
  |exact ag hQ
  |(cases u<;>first
    |exact ag hQ
    |(refine ac (wpAny_load ho ?_)
      rw[hc,hd]
      show wpAny M A (if (["enumerate","zip","dict_itemiterator","dict_reverseitemiterator","odict_iterator","itertools.zip_longest","itertools.pairwise"].contains n && vs[0]?==some (rawInt _))=true then _ else _) Q E s
      rw[ae (by intro h;rw[hn,lr] at h;cases h)]
      exact ag hQ))
def Td(K:Frag)(a:Addr):It:=
 ⟨λi H=>∃xs x,cP K H a xs/\xs[i]?=some x,λi H x H'=>H'=H/\∀xs,cP K H a xs->xs[i]?=some x,λi H=>∃xs,cP K H a xs/\xs.length<=i⟩
def Itt(K:Frag)(a:Addr):It:=
 ⟨λi H=>∃xs x,cG K H a xs/\xs[i]?=some x,λi H x H'=>H'=H/\∀xs,cG K H a xs->xs[i]?=some x,λi H=>∃xs,cG K H a xs/\xs.length<=i⟩
def Xi(lo:Int)(n:Nat):It:=⟨λi _=>i<n,λi H x H'=>H'=H/\x=.int (lo+i),λi _=>n<=i⟩
variable{K:Frag}
theorem Qc(a it:Addr):zI P w K tg (Td K a) [it] it (λi h=>h.IsListIter it a i) where
 mem:=by simp
 obj:=λi h st b hb=>by
  have e:b=it:=by simpa using hb
  subst e
  obtain⟨o,e,c,d⟩:=st
  exact⟨o,e,λv z=>by rw[d] at z;cases z⟩
 keep:=λi h h' st k=>st.at λo e=>k it (by simp) o e
 item:=by
  intro X hP hw hK hc i aa s σ H E I hf st hg
  subst hP hw hK
  obtain⟨xs,x,hq,hx⟩:=hg
  obtain⟨its,rv,p,hz⟩:=I.list hq
  obtain⟨u,hu,ru⟩:=rv.get hx
  obtain⟨f0,f1,f2,f3,f4,f5⟩:=hf it (by simp)
  refine wpAny_pyNext_list_item st p.isList (x:=u) (by simpa using hu) λh' d9 sb=>?_
  have I1:aQ X aa σ H {s with heap:=h'}:=I.turned (t':=s.toks) (λb o hb e=>(sb.2 b hb).trans e) f0 f1 f3 f4 f5
  obtain⟨o,e,c,d⟩:=id d9
  exact⟨u,rfl,As (s:={s with heap:=h'}) e c d (by decide) ⟨x,H,I1,ru,⟨rfl,λys hy=>by rw[I.list_inj hy hq];exact hx⟩,d9,λb hb=>(hf b hb).1⟩⟩
 done:=by
  intro X hP hw hK hc i aa s σ H E I hf st hg
  subst hP hw hK
  obtain⟨xs,hq,hx⟩:=hg
  obtain⟨its,rv,p,hz⟩:=I.list hq
  obtain⟨f0,f1,f2,f3,f4,f5⟩:=hf it (by simp)
  have hl:=rv.length
  exact wpAny_pyNext_list_end (I.ok.hd hc) st p.isList (by simp;omega) λh' eb=>⟨rfl,I.turned (t':=s.toks) (λb o hb e=>eb b o hb e) f0 f1 f3 f4 f5⟩
 self:=λ_ _ _ _ _ st h=>wpAny_pyIter_listiter st h
theorem Ku(a it:Addr):zI P w K tg (Itt K a) [it] it (λi h=>h.IsTupleIter it a i) where
 mem:=by simp
 obj:=λi h st b hb=>by
  have e:b=it:=by simpa using hb
  subst e
  obtain⟨o,e,c,d⟩:=st
  exact⟨o,e,λv z=>by rw[d] at z;cases z⟩
 keep:=λi h h' st k=>st.at λo e=>k it (by simp) o e
 item:=by
  intro X hP hw hK hc i aa s σ H E I hf st hg
  subst hP hw hK
  obtain⟨xs,x,hq,hx⟩:=hg
  obtain⟨its,rv,p,hz⟩:=I.tuple hq
  obtain⟨u,hu,ru⟩:=rv.get hx
  obtain⟨f0,f1,f2,f3,f4,f5⟩:=hf it (by simp)
  refine wpAny_pyNext_tuple_item st (show s.heap.IsTuple a its.toArray from p) (x:=u) (by simpa using hu) λh' d9 sb=>?_
  have I1:aQ X aa σ H {s with heap:=h'}:=I.turned (t':=s.toks) (λb o hb e=>(sb.2 b hb).trans e) f0 f1 f3 f4 f5
  obtain⟨o,e,c,d⟩:=id d9
  exact⟨u,rfl,As (s:={s with heap:=h'}) e c d (by decide) ⟨x,H,I1,ru,⟨rfl,λys hy=>by rw[I.tuple_inj hy hq];exact hx⟩,d9,λb hb=>(hf b hb).1⟩⟩
 done:=by
  intro X hP hw hK hc i aa s σ H E I hf st hg
  subst hP hw hK
  obtain⟨xs,hq,hx⟩:=hg
  obtain⟨its,rv,p,hz⟩:=I.tuple hq
  obtain⟨f0,f1,f2,f3,f4,f5⟩:=hf it (by simp)
  have hl:=rv.length
  exact wpAny_pyNext_tuple_end (I.ok.hd hc) st (show s.heap.IsTuple a its.toArray from p) (by simp;omega) λh' eb=>⟨rfl,I.turned (t':=s.toks) (λb o hb e=>eb b o hb e) f0 f1 f3 f4 f5⟩
 self:=λ_ _ _ _ _ st h=>wpAny_pyIter_tupleiter st h
theorem Lv(it:Addr)(lo:Int)(n:Nat):zI P w K tg (Xi lo n) [it] it (λi h=>IsRangeIter h it (lo+(i:Nat) * 1) ((n:Int) - (i:Nat)) 1) where
 mem:=by simp
 obj:=λi h st b hb=>by
  have e:b=it:=by simpa using hb
  subst e
  exact⟨_,st,λv z=>by
   have z':Data.fields _=Data.cell v:=z
   cases z'⟩
 keep:=λi h h' st k=>k it (by simp) _ st
 item:=by
  intro X hP hw hK hc i aa s σ H E I hf st hg
  subst hP hw hK
  obtain⟨f0,f1,f2,f3,f4,f5⟩:=hf it (by simp)
  have W:=Walks.range (prog:=X.prog) (w:=X.w) (I.ok.hd hc) it lo 1 n
  refine W.item i s _ _ hg st λv h' tk hv d9 kk=>?_
  obtain⟨t,rfl⟩:=hv
  have I1:aQ X aa σ H {s with heap:=h',toks:=tk}:=I.turned (λb o hb e=>kk b o (by simpa using hb) e) f0 f1 f3 f4 f5
  refine⟨_,rfl,As (s:={s with heap:=h',toks:=tk}) (n:="range_iterator") d9 rfl rfl (by decide) ⟨.int (lo+i),H,I1,⟨t,?_⟩,⟨rfl,rfl⟩,d9,λb hb=>(hf b hb).1⟩⟩
  rw[Int.mul_one]
 done:=by
  intro X hP hw hK hc i aa s σ H E I hf st hg
  subst hP hw hK
  obtain⟨f0,f1,f2,f3,f4,f5⟩:=hf it (by simp)
  exact wpAny_pyNext_range_end (I.ok.hd hc) st (by have:n<=i:=hg;omega) λh' eb=>⟨rfl,I.turned (t':=s.toks) (λb o hb e=>eb b o hb e) f0 f1 f3 f4 f5⟩
 self:=λ_ _ _ _ _ st h=>wpAny_pyIter_rangeiter st h
def aD3(K:Frag)(tl:TE):TI:=fun σ H R=>tl σ H λx H1=>∃a,x=.ref a/\(∃xs,cP K H1 a xs)/\R (Td K a) H1
def aGu(K:Frag)(tl:TE):TI:=fun σ H R=>tl σ H λx H1=>∃a,x=.ref a/\(∃xs,cG K H1 a xs)/\R (Itt K a) H1
theorem fN{l:Expr}{tl:TE}(hl:PE X l tl):PI X tg l (aD3 X.K tl):=by
 intro aa s σ H R I h
 refine cV (hl aa s σ H _ I h) λv s1 ⟨x,H1,I1,r1,q1⟩=>?_
 obtain⟨a,e,⟨xs,hq⟩,q⟩:=q1
 subst e
 cases r1
 obtain⟨its,rv,p,hz⟩:=I1.list hq
 refine JF p.isList ?_
 refine⟨s1.heap.objs.size,[s1.heap.objs.size],_,_,H1,rfl,I1.kept (t':=s1.toks) λb o e=>bh _ e,Qc a _,⟨_,cb _ rfl,rfl,rfl⟩,λb hb=>?_,q⟩
 have e:b=s1.heap.objs.size:=by simpa using hb
 subst e
 exact I1.fpOk (ap _) (I1.hok.fresh (ap _))
theorem Jk{l:Expr}{tl:TE}(hl:PE X l tl):PI X tg l (aGu X.K tl):=by
 intro aa s σ H R I h
 refine cV (hl aa s σ H _ I h) λv s1 ⟨x,H1,I1,r1,q1⟩=>?_
 obtain⟨a,e,⟨xs,hq⟩,q⟩:=q1
 subst e
 cases r1
 obtain⟨its,rv,p,hz⟩:=I1.tuple hq
 refine ES (show s1.heap.IsTuple a its.toArray from p) ?_
 refine⟨s1.heap.objs.size,[s1.heap.objs.size],_,_,H1,rfl,I1.kept (t':=s1.toks) λb o e=>bh _ e,Ku a _,⟨_,cb _ rfl,rfl,rfl⟩,λb hb=>?_,q⟩
 have e:b=s1.heap.objs.size:=by simpa using hb
 subst e
 exact I1.fpOk (ap _) (I1.hok.fresh (ap _))
theorem Gh{R:It->Hp->Prop}{lo hi:Int}{t u v:Tok}{tk:Nat}(I:aQ X aa σ H s)(h1: -(2 ^ 62)<=lo)(h2:lo<2 ^ 62)(h3: -(2 ^ 62)<=hi)(h4:hi<2 ^ 62)
  (q:R (Xi lo (hi - lo).toNat) H):wpAny (model X.prog X.w) X.A (pyIter (.ref s.heap.objs.size)) (PIE X aa σ tg R) E {s with heap:=s.heap.push {cls:=.type "range",data:=.fields #[.int lo t,.int hi u,.int 1 v]},toks:=tk}:=by
 refine wpAny_pyIter_range (IsRange.new ..) (small_one h1 h2 h3 h4) ?_
 have I1:aQ X aa σ H {s with heap:=s.heap.push {cls:=.type "range",data:=.fields #[.int lo t,.int hi u,.int 1 v]},toks:=tk}:=I.kept λb o e=>bh _ e
 refine⟨(s.heap.push {cls:=.type "range",data:=.fields #[.int lo t,.int hi u,.int 1 v]}).objs.size,[(s.heap.push {cls:=.type "range",data:=.fields #[.int lo t,.int hi u,.int 1 v]}).objs.size],_,_,H,rfl,
  I1.kept (t':=tk) λb o e=>bh _ e,Lv _ lo (hi - lo).toNat,?_,λb hb=>?_,q⟩
 ·have e1:lo+((0:Nat):Int) * 1=lo:=by simp
  have e2:(((hi - lo).toNat:Nat):Int) - ((0:Nat):Int)=Builtin.Range.rangeSize lo hi 1:=by rw[rangeSize_one];split<;>omega
  show IsRangeIter _ _ (lo+((0:Nat):Int) * 1) ((((hi - lo).toNat:Nat):Int) - ((0:Nat):Int)) 1
  rw[e1,e2]
  exact cb _ rfl
 ·have e:b=(s.heap.push {cls:=.type "range",data:=.fields #[.int lo t,.int hi u,.int 1 v]}).objs.size:=by simpa using hb
  subst e
  exact I1.fpOk (ap _) (I1.hok.fresh (ap _))
def aD9(ta:TA):TI:=fun σ H R=>ta σ H λvs H1=>∃j:Int,vs=[.int j]/\ -(2 ^ 62)<=j/\j<2 ^ 62/\R (Xi 0 j.toNat) H1
def aEn(ta:TA):TI:=fun σ H R=>ta σ H λvs H1=>∃i j:Int,vs=[.int i,.int j]/\(-(2 ^ 62)<=i/\i<2 ^ 62/\ -(2 ^ 62)<=j/\j<2 ^ 62)/\R (Xi i (j - i).toNat) H1
theorem iM{a:Expr}{ta:TA}{p:Pos}(hg:Gl X "range")(hm:X.mg "range"=none)(ha:PA X [a] ta)(hs:starEach [a] X.env=[(false,eval a X.env)]:=by rfl):PI X tg (.Call (.Name "range" p) [a] [] pos) (aD9 ta):=by
 intro aa s σ H R I h
 refine Call_ (lY I hg hm boot_range (z9 (cV (ha pos aa s σ H _ I h) λus s1 ⟨vs,H1,I1,r1,q1⟩=>?_) hs rfl))
 obtain⟨j,e,q1,q2,q⟩:=q1
 subst e
 cases r1 with
 |cons r rr=>
  cases rr
  obtain⟨t,rfl⟩:=r
  exact call_range_1 (Gh I1 (by omega) (by omega) q1 q2 (by simpa using q))
theorem Pe{a b:Expr}{ta:TA}{p:Pos}(hg:Gl X "range")(hm:X.mg "range"=none)(ha:PA X [a,b] ta)(hs:starEach [a,b] X.env=[(false,eval a X.env),(false,eval b X.env)]:=by rfl)(lg:starEach [b] X.env=[(false,eval b X.env)]:=by rfl):
  PI X tg (.Call (.Name "range" p) [a,b] [] pos) (aEn ta):=by
 intro aa s σ H R I h
 refine Call_ (lY I hg hm boot_range (z9 (cV (ha pos aa s σ H _ I h) λus s1 ⟨vs,H1,I1,r1,q1⟩=>?_) (by rw[hs,lg]) (by rw[lg];rfl)))
 obtain⟨i,j,e,⟨q1,q2,q3,q4⟩,q⟩:=q1
 subst e
 cases r1 with
 |cons r rr=>
  cases rr with
  |cons r' rr=>
   cases rr
   obtain⟨t,rfl⟩:=r
   obtain⟨t',rfl⟩:=r'
   exact call_range_2 (Gh I1 q1 q2 q3 q4 q)
def aGa(wi:TI)(g:TG)(tb:TS):TS:=λD σ H=>wi σ H λJ H1=>∃W:Nat->Nat->St->Hp->Prop,(∃m,W 0 m σ H1)/\∀i m σ H,W i m σ H->
 (J.stop i H/\D.nx σ H)\/(J.go i H/\∃N:St->Hp->Prop,(∀ah H',N ah H'->∃m',m'<m/\W (i+1) m' ah H')/\∀x H',J.yld i H x H'->g x σ H' λa6 H2=>tb {D with nx:=N,ct:=N,bk:=D.nx} a6 H2)
def tG(fp:List Addr)(h:Heap):List (Addr×Obj):=fp.filterMap λb=>(h.get? b).map λo=>(b,o)
theorem iX(hb:b∈fp)(e:h.get? b=some o):(b,o)∈tG fp h:=AA.mpr ⟨b,hb,by rw[e];rfl⟩
theorem Rp{p:Addr×Obj}(hp:p∈tG fp h):p.1∈fp/\h.get? p.1=some p.2:=by
 obtain⟨b,hb,e⟩:=AA.mp hp
 cases q:h.get? b with
 |none=>rw[q] at e;cases e
 |some o=>
  rw[q] at e
  have e':(b,o)=p:=Option.some.inj e
  subst e'
  exact⟨hb,q⟩
theorem aQ.pinned(I:aQ X aa σ H s)(hf:∀b∈fp,iV X aa H b)(ho:∀b∈fp,∃o,s.heap.get? b=some o/\∀v,o.data≠.cell v):aQ X (aa++tG fp s.heap) σ H s:=
 I.pins_of λp hp=>(je.mp hp).elim (λz=>I.pin p (gd _ z)) λz=>by
  obtain⟨hb,e⟩:=Rp z
  obtain⟨f0,f1,f2,_⟩:=hf p.1 hb
  obtain⟨o,e',d⟩:=ho p.1 hb
  rw[e] at e';cases e'
  exact⟨e,f0,f1,f2,d⟩
theorem aQ.unpinned{pl:List (Addr×Obj)}(I:aQ X (aa++pl) σ H s):aQ X aa σ H s:=I.pins_of λp hp=>I.pin p (gd _ (lq _ hp))
variable{wi:TI}{g:TG}
theorem eG{iter:Expr}(hp:PassesOwn (model X.prog X.w) X.A X.env X.xe)(hc:X.calm=true)(hi:PI X tg iter wi)(hg:PG X tg g)(hb:Ar X body tb)
  (hs:∀x,foldedSetIterable iter X.env x=pure x:=by intro _;rfl):PS X (.For tg iter body [] pos) (aGa wi g tb):=by
 intro aa s σ H D I h
 refine wpAny_For (cV (hi aa s σ H _ I h) λv s1 h1=>cV h1 λC6 s2 h2=>?_) hs
 obtain⟨it,fp,tn,J,H2,e,I2,T,y6,f2,W,⟨m0,w0⟩,turn⟩:=h2
 subst e
 have stat:∀{H':Hp},(∀b∈fp,H' b=none)->∀b∈fp,iV X aa H' b:=λhn b hb=>⟨hn b hb,(f2 b hb).2⟩
 refine codeAny_forLoop_any (λn s'=>∃i ah H',aQ X aa ah H' s'/\tn i s'.heap/\(∀b∈fp,H' b=none)/\W i n ah H') ?_ m0 ⟨0,σ,H2,I2,y6,λb hb=>(f2 b hb).1,w0⟩
 rintro n s3 ⟨i,jp,H3,I3,wk,AV,w3⟩
 rcases turn i n jp H3 w3 with ⟨stop,qn⟩|⟨go,N,hN,step⟩
 ·refine wpAny_passesOwn hp (cV (T.done X rfl rfl rfl hc i aa s3 jp H3 X.xe I3 (stat AV) wk stop) λr s4 ⟨hr,I4⟩=>?_)
  subst hr
  exact xz ⟨jp,H3,I4,qn⟩
 ·refine wpAny_passesOwn hp (cV (T.item X rfl rfl rfl hc i aa s3 jp H3 X.xe I3 (stat AV) wk go) λr s4 ⟨u,hr,h4⟩=>?_)
  subst hr
  refine wpAny_passesOwn hp (cV h4 λ_ s5 ⟨x,H5,I5,r5,y5,qc,FZ⟩=>?_)
  have F0:=I5.pinned (stat FZ) (T.obj _ _ qc)
  refine wpAny_passesOwn hp (cV (hg _ s5 jp H5 x u _ F0 r5 (step x H5 y5)) λ_ s6 ⟨C7,H6,I6,q6⟩=>?_)
  refine wpAny_passesOwn hp (cV (hb _ s6 C7 H6 _ I6 q6) λf s7 q7=>?_)
  have again:∀{gg:St}{H7:Hp},aQ X (aa++tG fp s5.heap) gg H7 s7->N gg H7->∃m,m<n/\∃i ah H',aQ X aa ah H' s7/\tn i s7.heap/\(∀b∈fp,H' b=none)/\W i m ah H':=λ{gg H7} I7 n7=>by
   obtain⟨m',hm,w7⟩:=hN gg H7 n7
   refine⟨m',hm,i+1,gg,H7,I7.unpinned,T.keep _ _ _ qc λb hb o e=>(I7.pin (b,o) (gd _ (gd _ (iX hb e)))).1,λb hb=>?_,w7⟩
   obtain⟨o,e,d⟩:=T.obj _ _ qc b hb
   exact(I7.pin (b,o) (gd _ (gd _ (iX hb e)))).2.1
  cases f with
  |next=>obtain⟨gg,H7,I7,n7⟩:=q7;exact again I7 n7
  |cont=>obtain⟨gg,H7,I7,n7⟩:=q7;exact again I7 n7
  |brk=>obtain⟨gg,H7,I7,q7⟩:=q7;exact⟨gg,H7,I7.unpinned,q7⟩
  |ret v=>obtain⟨x7,gg,H7,I7,r7,q7⟩:=q7;exact⟨x7,gg,H7,I7.unpinned,r7,q7⟩
theorem Hy(Pv:Nat->St->Hp->Prop)(h0:Pv 0 σ H)(hl:∀i σ H,i<=xs.length->Pv i σ H->cP K H a xs)
  (hs:∀i x σ H,xs[i]?=some x->Pv i σ H->g x σ H λa6 H2=>tb {D with nx:=Pv (i+1),ct:=Pv (i+1),bk:=D.nx} a6 H2) (hd:∀ σ H,Pv xs.length σ H->D.nx σ H):
  ∃W:Nat->Nat->St->Hp->Prop,(∃m,W 0 m σ H)/\∀i m σ H,W i m σ H->
   ((Td K a).stop i H/\D.nx σ H)\/((Td K a).go i H/\∃N:St->Hp->Prop,(∀ah H',N ah H'->∃m',m'<m/\W (i+1) m' ah H')/\∀x H',(Td K a).yld i H x H'->g x σ H' λa6 H2=>tb {D with nx:=N,ct:=N,bk:=D.nx} a6 H2):=by
 refine⟨λi m σ H=>m=xs.length - i/\i<=xs.length/\Pv i σ H,⟨xs.length,by simp,c7 _,h0⟩,?_⟩
 rintro i m σ H ⟨rfl,hi,p⟩
 have q:=hl i σ H hi p
 by_cases am:i<xs.length
 ·refine .inr ⟨⟨xs,xs[i],q,by simp[am]⟩,Pv (i+1),λah H' p'=>⟨xs.length - (i+1),by omega,rfl,am,p'⟩,λx H' y=>?_⟩
  obtain⟨e,y⟩:=y
  subst e
  exact hs i x σ _ (y xs q) p
 ·have e:i=xs.length:=by omega
  subst e
  exact .inl ⟨⟨xs,q,ap _⟩,hd σ H p⟩
theorem Ct(Pv:Nat->St->Hp->Prop)(h0:Pv 0 σ H)(hl:∀i σ H,i<=xs.length->Pv i σ H->cG K H a xs)
  (hs:∀i x σ H,xs[i]?=some x->Pv i σ H->g x σ H λa6 H2=>tb {D with nx:=Pv (i+1),ct:=Pv (i+1),bk:=D.nx} a6 H2) (hd:∀ σ H,Pv xs.length σ H->D.nx σ H):
  ∃W:Nat->Nat->St->Hp->Prop,(∃m,W 0 m σ H)/\∀i m σ H,W i m σ H->
   ((Itt K a).stop i H/\D.nx σ H)\/((Itt K a).go i H/\∃N:St->Hp->Prop,(∀ah H',N ah H'->∃m',m'<m/\W (i+1) m' ah H')/\∀x H',(Itt K a).yld i H x H'->g x σ H' λa6 H2=>tb {D with nx:=N,ct:=N,bk:=D.nx} a6 H2):=by
 refine⟨λi m σ H=>m=xs.length - i/\i<=xs.length/\Pv i σ H,⟨xs.length,by simp,c7 _,h0⟩,?_⟩
 rintro i m σ H ⟨rfl,hi,p⟩
 have q:=hl i σ H hi p
 by_cases am:i<xs.length
 ·refine .inr ⟨⟨xs,xs[i],q,by simp[am]⟩,Pv (i+1),λah H' p'=>⟨xs.length - (i+1),by omega,rfl,am,p'⟩,λx H' y=>?_⟩
  obtain⟨e,y⟩:=y
  subst e
  exact hs i x σ _ (y xs q) p
 ·have e:i=xs.length:=by omega
  subst e
  exact .inl ⟨⟨xs,q,ap _⟩,hd σ H p⟩
theorem oR{lo:Int}{n:Nat}(Pv:Nat->St->Hp->Prop)(h0:Pv 0 σ H)
  (hs:∀i σ H,i<n->Pv i σ H->g (.int (lo+i)) σ H λa6 H2=>tb {D with nx:=Pv (i+1),ct:=Pv (i+1),bk:=D.nx} a6 H2) (hd:∀ σ H,Pv n σ H->D.nx σ H):
  ∃W:Nat->Nat->St->Hp->Prop,(∃m,W 0 m σ H)/\∀i m σ H,W i m σ H->
   ((Xi lo n).stop i H/\D.nx σ H)\/((Xi lo n).go i H/\∃N:St->Hp->Prop,(∀ah H',N ah H'->∃m',m'<m/\W (i+1) m' ah H')/\∀x H',(Xi lo n).yld i H x H'->g x σ H' λa6 H2=>tb {D with nx:=N,ct:=N,bk:=D.nx} a6 H2):=by
 refine⟨λi m σ H=>m=n - i/\i<=n/\Pv i σ H,⟨n,by simp,c7 _,h0⟩,?_⟩
 rintro i m σ H ⟨rfl,hi,p⟩
 by_cases am:i<n
 ·refine .inr ⟨am,Pv (i+1),λah H' p'=>⟨n - (i+1),by omega,rfl,am,p'⟩,λx H' y=>?_⟩
  obtain⟨e,y⟩:=y
  subst e y
  exact hs i σ _ am p
 ·have e:i=n:=by omega
  subst e
  exact .inl ⟨ap _,hd σ H p⟩
abbrev R2:=V->V->Hp->VK->Prop
def uI(X:Cx)(f:Value->Value->Sem Value)(r:R2):Prop:=
 ∀(aa:List (Addr×Obj)) (s:Shared) (σ:St) (H:Hp) (x y:V) (v u:Value) (Q:VK),aQ X aa σ H s->cB x v->cB y u->r x y H Q->
  wpAny (model X.prog X.w) X.A (f v u) (EP X aa σ Q) X.xe s
def UnR(X:Cx)(f:Value->Sem Value)(r:V->Hp->VK->Prop):Prop:=
 ∀(aa:List (Addr×Obj)) (s:Shared) (σ:St) (H:Hp) (x:V) (v:Value) (Q:VK),aQ X aa σ H s->cB x v->r x H Q->
  wpAny (model X.prog X.w) X.A (f v) (EP X aa σ Q) X.xe s
def pL(X:Cx)(f:Value)(r:List V->Hp->VK->Prop):Prop:=
 ∀(aa:List (Addr×Obj)) (s:Shared) (σ:St) (H:Hp) (xs:List V) (us:List Value) (Q:VK),aQ X aa σ H s->bK xs us->r xs H Q->
  wpAny (model X.prog X.w) X.A (call f us) (EP X aa σ Q) X.xe s
def vG(r:R2)(ta tb:TE):TE:=fun σ H Q=>ta σ H λx H1=>tb σ H1 λy H2=>r x y H2 Q
def tUn(r:V->Hp->VK->Prop)(ta:TE):TE:=fun σ H Q=>ta σ H λx H1=>r x H1 Q
def rI(C:Int->Int->Prop)(g:Int->Int->V):R2:=λx y H Q=>∃i j,x=.int i/\y=.int j/\C i j/\Q (g i j) H
def Wu(g:Int->Int->V):R2:=λx y H Q=>∃i j,x=.int i/\y=.int j/\Q (g i j) H
def rU(g:Int->V):V->Hp->VK->Prop:=λx H Q=>∃i,x=.int i/\Q (g i) H
section
variable{a b:Expr}{tb tc:TE}{ta:TE}
theorem aCl(ha:PE X a ta)(hb:PE X b tb){R:V->V->Hp->Prop}(I:aQ X aa σ H s)
  (h:ta σ H λx H1=>tb σ H1 λy H2=>R x y H2) {Q:Value->Shared->Prop} {f:Value->Value->Sem Value}
  (hf:∀v u s2 x y H2,aQ X aa σ H2 s2->cB x v->cB y u->R x y H2->wpAny (model X.prog X.w) X.A (f v u) Q X.xe s2):
  wpAny (model X.prog X.w) X.A (eval a X.env) (λv ay=>wpAny (model X.prog X.w) X.A (eval b X.env) (λu fq=>wpAny (model X.prog X.w) X.A (f v u) Q X.xe fq) X.xe ay) X.xe s:=by
 refine cV (ha aa s σ H _ I h) λv s1 ⟨x,H1,I1,r1,q1⟩=>?_
 refine cV (hb aa s1 σ H1 _ I1 q1) λu s2 ⟨y,H2,I2,r2,q2⟩=>?_
 exact hf v u s2 x y H2 I2 r1 r2 q2
theorem bY{op:Operator}{r:R2}(ho:uI X (binaryOp op) r)(ha:PE X a ta)(hb:PE X b tb):PE X (.BinOp a op b pos) (vG r ta tb):=by
 intro aa s σ H Q I h
 exact wpAny_BinOp (aCl ha hb I h λv u s2 x y H2 I2 rx ry q=>ho aa s2 σ H2 x y v u Q I2 rx ry q)
theorem rV{op:UnaryOp}{r:V->Hp->VK->Prop}(ho:UnR X (unaryOp op) r)(ha:PE X a ta):PE X (.UnaryOp op a pos) (tUn r ta):=by
 intro aa s σ H Q I h
 exact UnaryOp_ (cV (ha aa s σ H _ I h) λv s1 ⟨x,H1,I1,r1,q1⟩=>ho aa s1 σ H1 x v Q I1 r1 q1)
theorem opI{f:Value->Value->Sem Value}{C:Int->Int->Prop}{g:Int->Int->Int}
  (rule:∀(i j:Int)(t u:Tok)(s:Shared)(Q:Value->Shared->Prop)(E:Value->Shared->Prop),C i j->Q (.int (g i j) s.toks) {s with toks:=s.toks+1}->wpAny (model X.prog X.w) X.A (f (.int i t) (.int j u)) Q E s):
  uI X f (rI C λi j=>.int (g i j)):=by
 intro aa s σ H x y v u Q I rx ry h
 obtain⟨i,j,rfl,rfl,hc,q⟩:=h
 obtain⟨t,rfl⟩:=rx
 obtain⟨t',rfl⟩:=ry
 exact rule i j t t' s _ _ hc ⟨.int (g i j),H,I.tok _,⟨_,rfl⟩,q⟩
theorem aEe{f:Value->Value->Sem Value}{g:Int->Int->Int}
  (rule:∀(i j:Int)(t u:Tok)(s:Shared)(Q:Value->Shared->Prop)(E:Value->Shared->Prop),Q (.int (g i j) s.toks) {s with toks:=s.toks+1}->wpAny (model X.prog X.w) X.A (f (.int i t) (.int j u)) Q E s):
  uI X f (Wu λi j=>.int (g i j)):=by
 intro aa s σ H x y v u Q I rx ry h
 obtain⟨i,j,rfl,rfl,q⟩:=h
 obtain⟨t,rfl⟩:=rx
 obtain⟨t',rfl⟩:=ry
 exact rule i j t t' s _ _ ⟨.int (g i j),H,I.tok _,⟨_,rfl⟩,q⟩
theorem aEq{f:Value->Value->Sem Value}{g:Int->Int->Bool}
  (rule:∀(i j:Int)(t u:Tok)(s:Shared)(Q:Value->Shared->Prop)(E:Value->Shared->Prop),Q (.bool (g i j)) s->wpAny (model X.prog X.w) X.A (f (.int i t) (.int j u)) Q E s):
  uI X f (Wu λi j=>.bl (g i j)):=by
 intro aa s σ H x y v u Q I rx ry h
 obtain⟨i,j,rfl,rfl,q⟩:=h
 obtain⟨t,rfl⟩:=rx
 obtain⟨t',rfl⟩:=ry
 exact rule i j t t' s _ _ ⟨.bl (g i j),H,I,rfl,q⟩
def aDq(i j:Int):Prop:=(-(2 ^ 64)<i/\i<2 ^ 64)\/(-(2 ^ 64)<j/\j<2 ^ 64)
theorem aDq.ok{i j:Int}(h:aDq i j):IntMulOk i j:=by
 rcases h with ⟨h1,h2⟩|⟨h1,h2⟩
 ·exact .of_left (intBits_le_64 h1 h2)
 ·exact .of_right (intBits_le_64 h1 h2)
theorem eP:uI X (binaryOp .Add) (Wu λi j=>.int (i+j)):=aEe λ_ _ _ _ _ _ _ q=>add_int q
theorem eE:uI X (binaryOp .Sub) (Wu λi j=>.int (i - j)):=aEe λ_ _ _ _ _ _ _ q=>sub_int q
theorem To:uI X (binaryOp .Mult) (rI aDq λi j=>.int (i * j)):=opI λ_ _ _ _ _ _ _ hc q=>mul_int q hc.ok
theorem Lm:uI X (binaryOp .Mod) (rI (λ_ j=>0<j) λi j=>.int (i % j)):=opI λi j _ _ _ _ _ hc q=>by
 have h1:(0:Int)<j:=hc
 exact mod_int' (by omega) (by rw[Int.fmod_eq_emod_of_nonneg i (by omega)];exact q)
theorem unI{f:Value->Sem Value}{g:Int->Int}
  (rule:∀(i:Int)(t:Tok)(s:Shared)(Q:Value->Shared->Prop)(E:Value->Shared->Prop),Q (.int (g i) s.toks) {s with toks:=s.toks+1}->wpAny (model X.prog X.w) X.A (f (.int i t)) Q E s):
  UnR X f (rU λi=>.int (g i)):=by
 intro aa s σ H x v Q I rx h
 obtain⟨i,rfl,q⟩:=h
 obtain⟨t,rfl⟩:=rx
 exact rule i t s _ _ ⟨.int (g i),H,I.tok _,⟨_,rfl⟩,q⟩
theorem lO:UnR X (unaryOp .USub) (rU λi=>.int (-i)):=unI λ_ _ _ _ _ q=>neg_int q
end
def aFc:V->V->Bool
 |.non,.non=>true|.non,.int _=>true|.int _,.non=>true|.non,.bl _=>true|.bl _,.non=>true|.non,.str _=>true|.str _,.non=>true
 |.int _,.int _=>true|.bl _,.bl _=>true|.str _,.str _=>true|.byt _,.byt _=>true
 |.int _,.str _=>true|.str _,.int _=>true|.bl _,.str _=>true|.str _,.bl _=>true
 |_,_=>false
def rEq:R2:=λx y H Q=>aFc x y=true/\Q (.bl (decide (x=y))) H
def rNe:R2:=λx y H Q=>aFc x y=true/\Q (.bl (!decide (x=y))) H
theorem vS{i j:Int}:decide (V.int i=V.int j)=(i==j):=by
 rw[ge]
 simp
theorem Tr{i j:Bool}:decide (V.bl i=V.bl j)=(i==j):=by
 rw[ge]
 simp
theorem Na{i j:Str}:decide (V.str i=V.str j)=(i==j):=by
 rw[ge]
 simp
theorem My{i j:Array UInt8}:decide (V.byt i=V.byt j)=(i.toList==j.toList):=by
 rw[ge]
 cases i
 cases j
 simp
section
variable{a b:Expr}{tb tc:TE}{ta:TE}
theorem cH{Q:VK}{k k':Bool}(I:aQ X aa σ H s)(q:Q (.bl k) H)(e:k=k'):EP X aa σ Q (.bool k') s:=by
 subst e
 exact⟨.bl k,H,I,rfl,q⟩
theorem rD:uI X (compareOp .Eq) rEq:=by
 intro aa s σ H x y v u Q I rx ry h
 obtain⟨hs,q⟩:=h
 cases x with
 |non=>
  cases rx
  cases y with
  |non=>cases ry;exact PySem.EqNone.eq_none_none (cH I q (by simp))
  |bl j=>cases ry;exact PySem.EqNone.eq_none_bool (cH I q (by simp))
  |int j=>obtain⟨t',rfl⟩:=ry;exact PySem.EqNone.eq_none_int (cH I q (by simp))
  |str j=>obtain⟨t',rfl⟩:=ry;exact PySem.EqNone.eq_none_str (cH I q (by simp))
  |_=>exact absurd (show false=true from hs) b6
 |bl i=>
  cases rx
  cases y with
  |non=>cases ry;exact PySem.EqNone.eq_bool_none (cH I q (by simp))
  |bl j=>cases ry;exact eq_bool (cH I q Tr)
  |str j=>obtain⟨t',rfl⟩:=ry;exact PySem.EqMixed.eq_bool_str (cH I q (by simp))
  |_=>exact absurd (show false=true from hs) b6
 |int i=>
  obtain⟨t,rfl⟩:=rx
  cases y with
  |non=>cases ry;exact PySem.EqNone.eq_int_none (cH I q (by simp))
  |int j=>obtain⟨t',rfl⟩:=ry;exact eq_int (cH I q vS)
  |str j=>obtain⟨t',rfl⟩:=ry;exact PySem.EqMixed.eq_int_str (cH I q (by simp))
  |_=>exact absurd (show false=true from hs) b6
 |str i=>
  obtain⟨t,rfl⟩:=rx
  cases y with
  |non=>cases ry;exact PySem.EqNone.eq_str_none (cH I q (by simp))
  |bl j=>cases ry;exact PySem.EqMixed.eq_str_bool (cH I q (by simp))
  |int j=>obtain⟨t',rfl⟩:=ry;exact PySem.EqMixed.eq_str_int (cH I q (by simp))
  |str j=>obtain⟨t',rfl⟩:=ry;exact eq_str (cH I q Na)
  |_=>exact absurd (show false=true from hs) b6
 |byt i=>
  obtain⟨t,rfl⟩:=rx
  cases y with
  |byt j=>obtain⟨t',rfl⟩:=ry;exact PySem.W.eq_bytes (cH I q My)
  |_=>exact absurd (show false=true from hs) b6
 |_=>cases y<;>exact absurd (show false=true from hs) b6
theorem aD7:uI X (compareOp .NotEq) rNe:=by
 intro aa s σ H x y v u Q I rx ry h
 obtain⟨hs,q⟩:=h
 cases x with
 |non=>
  cases rx
  cases y with
  |non=>cases ry;exact PySem.EqNone.ne_none_none (cH I q (by simp))
  |bl j=>cases ry;exact PySem.EqNone.ne_none_bool (cH I q (by simp))
  |int j=>obtain⟨t',rfl⟩:=ry;exact PySem.EqNone.ne_none_int (cH I q (by simp))
  |str j=>obtain⟨t',rfl⟩:=ry;exact PySem.EqNone.ne_none_str (cH I q (by simp))
  |_=>exact absurd (show false=true from hs) b6
 |bl i=>
  cases rx
  cases y with
  |non=>cases ry;exact PySem.EqNone.ne_bool_none (cH I q (by simp))
  |bl j=>cases ry;exact ne_bool (cH I q (congrArg not Tr))
  |str j=>obtain⟨t',rfl⟩:=ry;exact PySem.EqMixed.ne_bool_str (cH I q (by simp))
  |_=>exact absurd (show false=true from hs) b6
 |int i=>
  obtain⟨t,rfl⟩:=rx
  cases y with
  |non=>cases ry;exact PySem.EqNone.ne_int_none (cH I q (by simp))
  |int j=>obtain⟨t',rfl⟩:=ry;exact ne_int (cH I q (congrArg not vS))
  |str j=>obtain⟨t',rfl⟩:=ry;exact PySem.EqMixed.ne_int_str (cH I q (by simp))
  |_=>exact absurd (show false=true from hs) b6
 |str i=>
  obtain⟨t,rfl⟩:=rx
  cases y with
  |non=>cases ry;exact PySem.EqNone.ne_str_none (cH I q (by simp))
  |bl j=>cases ry;exact PySem.EqMixed.ne_str_bool (cH I q (by simp))
  |int j=>obtain⟨t',rfl⟩:=ry;exact PySem.EqMixed.ne_str_int (cH I q (by simp))
  |str j=>obtain⟨t',rfl⟩:=ry;exact ne_str (cH I q (congrArg not Na))
  |_=>exact absurd (show false=true from hs) b6
 |byt i=>
  obtain⟨t,rfl⟩:=rx
  cases y with
  |byt j=>obtain⟨t',rfl⟩:=ry;exact PySem.W.ne_bytes (cH I q (congrArg not My))
  |_=>exact absurd (show false=true from hs) b6
 |_=>cases y<;>exact absurd (show false=true from hs) b6
theorem Vv:uI X (compareOp .Lt) (Wu λi j=>.bl (decide (i<j))):=aEq λ_ _ _ _ _ _ _ q=>lt_int q
theorem qX:uI X (compareOp .LtE) (Wu λi j=>.bl (decide (i<=j))):=aEq λ_ _ _ _ _ _ _ q=>le_int q
theorem gX(b:Expr)(h:op≠.In:=by decide)(h2:op≠.NotIn:=by decide):behindInMarks op b=false:=by
 have e1:(op==CmpOp.In)=false:=by cases op<;>first|rfl|exact absurd rfl h
 have e2:(op==CmpOp.NotIn)=false:=by cases op<;>first|rfl|exact absurd rfl h2
 cases b<;>simp[behindInMarks,e1,e2]
theorem mB{r:R2}(ho:uI X (compareOp op) r)(ha:PE X a ta)(hb:PE X b tb)(hm:behindInMarks op b=false):PE X (.Compare a [op] [b] pos) (vG r ta tb):=by
 intro aa s σ H Q I h
 exact wpAny_Compare1 (aCl ha hb I h λv u s2 x y H2 I2 rx ry q=>ho aa s2 σ H2 x y v u Q I2 rx ry q) hm
def Wm(t:TE):TT:=fun σ H Q=>t σ H λx H'=>∃k,x=.bl k/\Q k H'
theorem fM{r:R2}(ho:uI X (compareOp op) r)(ha:PE X a ta)(hb:PE X b tb)(hm:behindInMarks op b=false):PT X (.Compare a [op] [b] pos) (Wm (vG r ta tb)):=by
 intro aa s σ H Q I h
 refine wpAny_isTrue_Compare1 (cV (ha aa s σ H _ I h) λv s1 ⟨x,H1,I1,r1,q1⟩=>cV (hb aa s1 σ H1 _ I1 q1) λu s2 ⟨y,H2,I2,r2,q2⟩=>
  cV (ho aa s2 σ H2 x y v u _ I2 r1 r2 q2) λc s3 ⟨z,H3,I3,r3,k,e,q3⟩=>?_) hm
 subst e
 cases r3
 exact wpAny_truthy_bool ⟨H3,I3,q3⟩
def Jh(r r':R2)(ta tb tc:TE):TE:=fun σ H Q=>ta σ H λx H1=>tb σ H1 λy H2=>r x y H2 λz H3=>∃k,z=.bl k/\
 (if k=true then tc σ H3 λw' H4=>r' y w' H4 Q else Q (.bl false) H3)
theorem mX{wm:CmpOp}{r r':R2}(ho:uI X (compareOp op) r)(lf:uI X (compareOp wm) r')(ha:PE X a ta)(hb:PE X b tb)(hc:PE X c tc)
  (hm:lastMarks [op,wm] [b,c]=false:=by with_unfolding_all rfl):PE X (.Compare a [op,wm] [b,c] pos) (Jh r r' ta tb tc):=by
 intro aa s σ H Q I h
 refine Compare_chain (cV (ha aa s σ H _ I h) λv s1 ⟨x,H1,I1,r1,q1⟩=>chain_link (cV (hb aa s1 σ H1 _ I1 q1) λu s2 ⟨y,H2,I2,r2,q2⟩=>
  cV (ho aa s2 σ H2 x y v u _ I2 r1 r2 q2) λd s3 ⟨z,H3,I3,r3,k,e,q3⟩=>?_)) hm
 subst e
 cases r3
 refine wpAny_truthy_bool ?_
 cases k with
 |false=>exact ite_ff ⟨.bl false,H3,I3,rfl,q3⟩
 |true=>exact ite_tt (chain_last (cV (hc aa s3 σ H3 _ I3 q3) λw' s4 ⟨z',H4,I4,r4,q4⟩=>lf aa s4 σ H4 y z' u w' Q I4 r2 r4 q4))
theorem Wi{wm:CmpOp}{r r':R2}(ho:uI X (compareOp op) r)(lf:uI X (compareOp wm) r')(ha:PE X a ta)(hb:PE X b tb)(hc:PE X c tc)
  (hm:lastMarks [op,wm] [b,c]=false:=by with_unfolding_all rfl):PT X (.Compare a [op,wm] [b,c] pos) (Wm (Jh r r' ta tb tc)):=by
 intro aa s σ H Q I h
 refine isTrue_chain (cV (ha aa s σ H _ I h) λv s1 ⟨x,H1,I1,r1,q1⟩=>test_link (cV (hb aa s1 σ H1 _ I1 q1) λu s2 ⟨y,H2,I2,r2,q2⟩=>
  cV (ho aa s2 σ H2 x y v u _ I2 r1 r2 q2) λd s3 ⟨z,H3,I3,r3,k,e,q3⟩=>?_)) hm
 subst e
 cases r3
 refine wpAny_truthy_bool ?_
 cases k with
 |false=>
  obtain⟨k',e',q'⟩:=q3
  cases e'
  exact ite_ff ⟨H3,I3,q'⟩
 |true=>
  refine ite_tt (test_last (cV (hc aa s3 σ H3 _ I3 q3) λw' s4 ⟨z',H4,I4,r4,q4⟩=>cV (lf aa s4 σ H4 y z' u w' _ I4 r2 r4 q4) λd' s5 ⟨z2,H5,I5,r5,k2,e2,q5⟩=>?_))
  subst e2
  cases r5
  exact wpAny_truthy_bool ⟨H5,I5,q5⟩
theorem Ls:(sizeLine:Nat)<2 ^ 63:=by rw[qz];decide
theorem Bw{x:V}(r:bK [x] us):∃u,us=[u]/\cB x u:=by
 cases r with
 |cons r1 r2=>cases r2;exact⟨_,rfl,r1⟩
theorem Gf:pL X (.builtin "ord") (λxs H Q=>∃x,xs=[.str x]/\x.length=1/\Q (.int (x.cps.getD 0 0:Nat)) H):=by
 intro aa s σ H xs us Q I r h
 obtain⟨x,rfl,hz,q⟩:=h
 obtain⟨u,rfl,t,rfl⟩:=Bw r
 exact ord_of_one hz ⟨.int _,H,I.tok _,⟨_,rfl⟩,q⟩
end
structure Lq(h:Heap)(x dx C:Addr)(mA:Str->Option Value):Prop where
 obj:h.get? x=some (instObj C dx)
 ns:h.Ns1 dx mA
 ne:dx≠x
theorem Pq(n:h.Ns1 dx mA):∃od,h.get? dx=some od/\∀name,lookIn name od=some (mA name):=by
 obtain⟨o,es,ep,ho,hd,hk,_,hm⟩:=n
 refine⟨o,ho,λname=>?_⟩
 have e:=hm name
 unfold nsFind findBy at e
 rw[<-N6] at e
 unfold lookIn
 rw[hd]
 dsimp only
 split
 ·rename_i y q
  rw[q] at e
  exact congrArg some e
 ·rename_i q
  rw[q] at e
  have a:es.toList.any (·.refKey)=false:=by
   rw[List.any_eq_false]
   intro y hy
   obtain⟨z,t,wn⟩:=hk y (Array.mem_toList_iff.mp hy)
   simp[DictEntry.refKey,wn]
  have a':¬es.toList.any (·.refKey)=true:=by rw[a];exact b6
  rw[ae a']
  exact congrArg some e
theorem Lq.look{x:Addr}(I:Lq h x dx C mA):∃od,PySem.W.InstAt h x (instObj C dx) C (some od)/\∀name,lookIn name od=some (mA name):=
 let ⟨od,ho,hl⟩:=Pq I.ns
 ⟨od,⟨I.obj,rfl,rfl,ho⟩,hl⟩
section
variable{x:Addr}
theorem Zy(X:K.In s.heap)(I:Lq s.heap x dx C mA)(hg:plainGet K C name=true)(hh:hasDictIn K C=true)
  (ha:findIn K (.ref C) name=some none) (hv:mA name=some v) (C8:handedIn v=true) (h:Q v {s with toks:=s.toks+1}):
  wpAny (model prog w) A (getAttr (.ref x) name expr) Q E s:=by
 obtain⟨od,J,hl⟩:=I.look
 exact PySem.W.get_value X J (plainGet_of hg).1 (PySem.W.findObj_own hh ha rfl (by rw[hl,hv])) C8 h
theorem Sl{Q:Value×List Value->Shared->Prop}(X:K.In s.heap)(I:Lq s.heap x dx C mA)(hg:plainGet K C name=true)
  (hf:findIn K (.ref C) name=some (some (.ref f))) (ht:isFn K (.ref f)=true) (hv:mA name=none) (h:Q (.ref f,[.ref x]) s):
  wpAny (model prog w) A (getMethod (.ref x) name pl) Q E s:=by
 obtain⟨od,J,hl⟩:=I.look
 exact PySem.W.method_fn X J (plainGet_of hg).1 (plainGet_of hg).2 hf (cp.mp ht) (by show (lookIn name od).map (·.isSome)=some false;rw[hl,hv];rfl) h
theorem Yc{ns:List Str}{Q:Unit->Shared->Prop}(X:K.In s.heap)(I:Lq s.heap x dx C mA)
  (hs:findIn K (.ref C) "__setattr__"=some (some (.builtin "object.__setattr__"))) (hp:plainOver K C=true) (ht:takerIn K C name=some none) (hh:hasDictIn K C=true)
  (hw:PySem.Within mA ns) (hsz:ns.length<=sizeLine)
  (h:∀h',Lq h' x dx C (λy=>if y=name then some v else mA y)->Heap.SameBut dx s.heap h'->Q () {s with heap:=h',toks:=s.toks+2}):
  wpAny (model prog w) A (setAttr (.ref x) name v) Q E s:=by
 obtain⟨od,J,hl⟩:=I.look
 refine PySem.W.set_plain X J hs (PySem.W.osa_open (s:={s with toks:=s.toks+1}) (r:=none) X J hp ht λb=>?_)
 obtain⟨cd,hc,FX⟩:=PySem.W.any_some hh
 have hx:s.heap.get? x=some ⟨.ref C,some dx,.plain,#[]⟩:=I.obj
 refine ac (ag (ac (ac (wpAny_loadPart hx (ac (PySem.W.Looks.here (s:={s with toks:=s.toks+1}) (PySem.W.looks_clsIn X hc) ?_))))))
 rw[FX]
 refine ag (a:=some dx) (ac (ag (ac ?_)))
 refine wpAny_nsSet1 (s:={s with toks:=s.toks+1}) I.ns λh' mv lg=>?_
 obtain⟨oD,P9,P',F1,F2,C9⟩:=mv.count (PySem.Within.cons name v hw)
 refine ac (wpAny_lookBehind F1 (by rw[F2];exact pastItsLine_dict (gm C9 (by rw[bw];omega))) ?_)
 exact ag (h _ ⟨(lg.2 _ (au I.ne)).trans I.obj,mv,I.ne⟩ lg)
theorem Fc{vs:List Value}(X:K.In s.heap)(hm:makesIn K C=true)
  (hi:findIn K (.ref C) "__init__"=some (some (.ref f))) (hf:PySem.W.typeIn K (.ref f)=some (.type "function"))
  (h:codeAny (model prog w) (A.under (.builtin "type.__call__" ⟨.ref C::vs,kw⟩)) (.call (.ref f) ⟨.ref (s.heap.objs.size+1)::vs,kw⟩) (PySem.W.InitBack (s.heap.objs.size+1) R)
   {s with heap:=(s.heap.push emptyDict).push (instObj C s.heap.objs.size)}):
  codeAny (model prog w) A (.call (.ref C) ⟨vs,kw⟩) R s:=by
 obtain⟨hh,g,d,t,os⟩:=s
 exact PySem.W.make_core (PySem.W.makes_of X hm) (PySem.W.looks_findIn X hi) (λself=>PySem.W.bind_fn X self hf) (.inl rfl) h
end
def mK(f:Str)(v:V):List (Str×V)->List (Str×V)
 |[]=>[(f,v)]
 |(g,x)::r=>if g=f then (g,v)::r else (g,x)::mK f v r
theorem nW(f g:Str)(v:V):∀fs:List (Str×V),(mK f v fs).lookup g=if g=f then some v else fs.lookup g
 |[]=>by
  show List.lookup g [(f,v)]=_
  by_cases h:g=f
  ·have hb:(g==f)=true:=cp.mpr h
   simp only[List.lookup,hb,af h]
  ·have hb:(g==f)=false:=pb.mpr h
   simp only[List.lookup,hb,ae h]
 |(k,x)::r=>by
  have ih:=nW f g v r
  rw[show mK f v ((k,x)::r)=(if k=f then (k,v)::r else (k,x)::mK f v r) from rfl]
  by_cases hk:k=f
  ·rw[af hk]
   by_cases h:g=k
   ·have hb:(g==k)=true:=cp.mpr h
    simp only[List.lookup,hb,af (h.trans hk)]
   ·have hb:(g==k)=false:=pb.mpr h
    simp only[List.lookup,hb,ae (λe:g=f=>h (e.trans hk.symm))]
  ·rw[ae hk]
   by_cases h:g=k
   ·have hb:(g==k)=true:=cp.mpr h
    simp only[List.lookup,hb,ae (λe:g=f=>hk (h.symm.trans e))]
   ·have hb:(g==k)=false:=pb.mpr h
    simp only[List.lookup,hb]
    exact ih
theorem sZ(f:Str)(v:V):∀fs:List (Str×V),f∈(mK f v fs).map (·.1)/\∀g,g∈fs.map (·.1)->g∈(mK f v fs).map (·.1)
 |[]=>⟨by simp[mK],λg h=>by simp at h⟩
 |(k,x)::r=>by
  obtain⟨i1,i2⟩:=sZ f v r
  rw[show mK f v ((k,x)::r)=(if k=f then (k,v)::r else (k,x)::mK f v r) from rfl]
  by_cases hk:k=f
  ·rw[af hk]
   subst hk
   exact⟨by simp,λg h=>by simpa using h⟩
  ·rw[ae hk]
   refine⟨?_,λg h=>?_⟩
   ·rw[bn]
    exact az _ i1
   ·rw[bn] at h ⊢
    rcases ao.mp h with e|e
    ·exact ao.mpr (.inl e)
    ·exact az _ (i2 g e)
theorem uR(f:Str)(v:V):∀fs:List (Str×V),(mK f v fs).length<=fs.length+1
 |[]=>by simp[mK]
 |(k,x)::r=>by
  have ih:=uR f v r
  rw[show mK f v ((k,x)::r)=(if k=f then (k,v)::r else (k,x)::mK f v r) from rfl]
  by_cases hk:k=f
  ·rw[af hk,bw,bw];omega
  ·rw[ae hk,bw,bw];omega
theorem lE.some_of{v:V}{o:Option Value}(r:lE (some v) o):∃u,o=some u/\cB v u:=by
 cases o with
 |none=>exact(show False from r).elim
 |some u=>exact⟨u,rfl,r⟩
theorem lE.none_of{o:Option Value}(r:lE none o):o=none:=by
 cases o with
 |none=>rfl
 |some u=>exact(show False from r).elim
theorem Sb{v:V}(r:cB v u):handedIn u=true:=by
 cases v with
 |non=>cases (show u=Value.none from r);rfl
 |bl b=>cases (show u=Value.bool b from r);rfl
 |int i=>obtain⟨t,e⟩:=(show ∃t,u=Value.int i t from r);cases e;rfl
 |str x=>obtain⟨t,e⟩:=(show ∃t,u=Value.str x t from r);cases e;rfl
 |byt b=>obtain⟨t,e⟩:=(show ∃t,u=Value.bytes b t from r);cases e;rfl
 |flt b=>obtain⟨t,e⟩:=(show ∃t,u=Value.float b t from r);cases e;rfl
 |ref a=>cases (show u=Value.ref a from r);rfl
 |ty n=>cases (show u=Value.type n from r);rfl
section
variable{fs yx:List (Str×V)}
theorem Cv(hok:lC P w H h)(e:H a=some (.ins C dx fs)):∃mA,Lq h a dx C mA/\(∀f,lE (fs.lookup f) (mA f))/\PySem.Within mA (fs.map (·.1))/\fs.length<=1000/\H dx=some (.own a):=by
 obtain⟨d,z,ne,ob,mA,n,r,q⟩:=(show cF P w H h a (.ins C dx fs) from hok a _ e)
 exact⟨mA,⟨ob,n,ne⟩,r,q,z,d⟩
end
structure Ix(K:Frag)(C:Addr):Prop where
 pg:plainGet K C Str.empty=true
 hd:hasDictIn K C=true
 po:plainOver K C=true
 sa:findIn K (.ref C) "__setattr__"=some (some (.builtin "object.__setattr__"))
theorem Ix.get(c:Ix K C)(f:Str):plainGet K C f=true:=c.pg
def dG(K:Frag)(C:Addr)(f:Str):Prop:=findIn K (.ref C) f=some none
theorem dG.taker{f:Str}(n:dG K C f):takerIn K C f=some none:=by
 unfold takerIn
 rw[show findIn K (.ref C) f=some none from n]
 rfl
structure aAx(K:Frag)(C:Addr)(m:Str)(f:Addr):Prop where
 at_:findIn K (.ref C) m=some (some (.ref f))
 fn:isFn K (.ref f)=true
 kp:keepIn K (.ref f)=true
section
variable{fs:List (Str×V)}{f:Str}{v:V}
theorem yU{b:Bool}(I:aQ X aa σ H s)(e:H a=some (.ins C dx fs))(c:Ix X.K C)(n:dG X.K C f)(l:fs.lookup f=some v)
  (h:∀u s',aQ X aa σ H s'->cB v u->Q u s'):wpAny (model X.prog X.w) A (getAttr (.ref a) f b) Q E s:=by
 obtain⟨mA,O,r,_,_,_⟩:=Cv I.hok e
 obtain⟨u,hu,ru⟩:=lE.some_of (v:=v) (o:=mA f) (by rw[<-l];exact r f)
 exact Zy I.kIn O (c.get f) c.hd n hu (Sb ru) (h u _ (I.tok _) ru)
theorem zB{m:Str}{g:Addr}{Q:Value×List Value->Shared->Prop}(I:aQ X aa σ H s)(e:H a=some (.ins C dx fs))(c:Ix X.K C)(k:aAx X.K C m g)(l:fs.lookup m=none)
  (h:Q (.ref g,[.ref a]) s):wpAny (model X.prog X.w) A (getMethod (.ref a) m pl) Q E s:=by
 obtain⟨mA,O,r,_,_,_⟩:=Cv I.hok e
 have hn:mA m=none:=lE.none_of (by rw[<-l];exact r m)
 exact Sl I.kIn O (c.get m) k.at_ k.fn hn h
theorem yM{Q:Unit->Shared->Prop}(I:aQ X aa σ H s)(e:H a=some (.ins C dx fs))(c:Ix X.K C)(n:dG X.K C f)(hl:fs.length<1000)(ry:cB y u)
  (h:∀s',aQ X aa σ (upd H a (.ins C dx (mK f y fs))) s'->Q () s'):wpAny (model X.prog X.w) A (setAttr (.ref a) f u) Q E s:=by
 obtain⟨mA,O,r,wi,_,ho⟩:=Cv I.hok e
 have hz:(fs.map (·.1)).length<=sizeLine:=by rw[ai,qz];omega
 refine Yc I.kIn O c.sa c.po n.taker c.hd wi hz λh' O' sb=>h _ ?_
 have hd:∃o,h'.get? dx=some o:=let ⟨o,_,_,e',_⟩:=O'.ns;⟨o,e'⟩
 refine I.write (x:=a) (e:=dx) (by rw[e];exact True.intro) (.inr ho) (λb q hb z=>(sb.2 b hb).trans z) hd ?_
 refine⟨by rw[aC O.ne];exact ho,?_,O.ne,O'.obj,_,O'.ns,λg=>?_,λg hg=>?_⟩
 ·have:=uR f y fs;omega
 ·show lE ((mK f y fs).lookup g) (if g=f then some u else mA g)
  rw[nW]
  by_cases q:g=f
  ·rw[af q,af q];exact ry
  ·rw[ae q,ae q];exact r g
 ·by_cases q:g=f
  ·rw[q];exact(sZ f y fs).1
  ·refine(sZ f y fs).2 g (wi g λz=>hg ?_)
   show (if g=f then some u else mA g)=none
   rw[ae q];exact z
theorem aQ.made(I:aQ X aa σ H s):aQ X aa σ (upd (upd H s.heap.objs.size (.own (s.heap.objs.size+1))) (s.heap.objs.size+1) (.ins C s.heap.objs.size []))
  {s with heap:=(s.heap.push emptyDict).push (instObj C s.heap.objs.size)}:=by
 have e1:(s.heap.push emptyDict).get? s.heap.objs.size=some emptyDict:=cb s.heap rfl
 have e2:((s.heap.push emptyDict).push (instObj C s.heap.objs.size)).get? (s.heap.objs.size+1)=some (instObj C s.heap.objs.size):=by
  have:=cb (s.heap.push emptyDict) (o:=instObj C s.heap.objs.size) rfl
  rwa [gn] at this
 have e3:(s.heap.push emptyDict).Ns s.heap.objs.size (λ_=>none):=⟨emptyDict,#[],_,e1,rfl,(λe he=>absurd he (by simp)),λ_=>rfl⟩
 have I1:=I.laid (a:=s.heap.objs.size) (o:=.own (s.heap.objs.size+1)) (h':=s.heap.push emptyDict) (t':=s.toks) (λb u q=>bh _ q) (ap _) ⟨_,e1⟩
 refine I1.laid (a:=s.heap.objs.size+1) (o:=.ins C s.heap.objs.size []) (t':=s.toks) (λb u q=>bh _ q) (vn (gn _ _)) ?_
 have ne:s.heap.objs.size≠s.heap.objs.size+1:=b8 (lu _)
 refine⟨by rw[aC ne,aB],c7 _,ne,e2,λ_=>none,(Heap.Ns1.of_empty e3).at λo q=>bh _ q,λ_=>True.intro,λy hy=>absurd rfl hy⟩
theorem Nc{f:Str}(hb:attributeBase e f env (eval e env)=eval e env)
  (h:wpAny (model prog w) A (eval e env) (λo ay=>wpAny (model prog w) A (getAttr o f true) Q E ay) E s):wpAny (model prog w) A (eval (.Attribute e f pos) env) Q E s:=
 Attribute_any_ h (by rw[arm_eval_Attribute,hb])
end
def Yq(K:Frag)(ta:TE)(f:Str):TE:=fun σ H Q=>ta σ H λx H1=>∃a C dx fs v,x=.ref a/\H1 a=some (.ins C dx fs)/\Ix K C/\dG K C f/\fs.lookup f=some v/\Q v H1
def aDd(K:Frag)(ta tv:TE)(f:Str):TS:=λD σ H=>tv σ H λy H1=>ta σ H1 λx H2=>∃a C dx fs,x=.ref a/\H2 a=some (.ins C dx fs)/\Ix K C/\dG K C f/\fs.length<1000/\
 D.nx σ (upd H2 a (.ins C dx (mK f y fs)))
def aE8(X:Cx)(op:Operator)(rd:V->V->Hp->VK->Prop):Prop:=
 ∀(aa:List (Addr×Obj)) (s:Shared) (σ:St) (H:Hp) (x y:V) (u v:Value) (Q:VK),aQ X aa σ H s->cB x u->cB y v->rd x y H Q->wpAny (model X.prog X.w) X.A (inplaceOp op u v) (EP X aa σ Q) X.xe s
def Yh(K:Frag)(ta tv:TE)(rd:V->V->Hp->VK->Prop)(f:Str):TS:=λD σ H=>ta σ H λx H1=>∃a C dx fs v,x=.ref a/\H1 a=some (.ins C dx fs)/\Ix K C/\dG K C f/\fs.lookup f=some v/\
 tv σ H1 λy H2=>rd v y H2 λz H3=>∃F3 yx,H3 a=some (.ins C F3 yx)/\yx.length<1000/\D.nx σ (upd H3 a (.ins C F3 (mK f z yx)))
section
variable{o:Expr}{f:Str}{ta tv:TE}
theorem aU(he:PE X e ta)(hb:attributeBase e f X.env (eval e X.env)=eval e X.env):PE X (.Attribute e f pos) (Yq X.K ta f):=by
 intro aa s σ H Q I h
 refine Nc hb (cV (he aa s σ H _ I h) λu s1 ⟨x,H1,I1,rx,a,C,dx,fs,v,ex,ea,c,n,l,q⟩=>?_)
 subst ex
 obtain rfl:u=Value.ref a:=rx
 exact yU I1 ea c n l λu' s2 I2 ru=>⟨v,H1,I2,ru,q⟩
theorem dZ(ha:PE X o ta)(hv:PE X value tv)(hs:swapsWith value (some (.Attribute o f l5)) pos.line X.env=pure false):PS X (.Assign [.Attribute o f l5] value pos) (aDd X.K ta tv f):=by
 intro aa s σ H D I h
 refine plainObj_wpAny_Assign_Attribute (cV (hv aa s σ H _ I h) λu s1 ⟨y,H1,I1,ry,q⟩=>cV (ha aa s1 σ H1 _ I1 q) λov s2 ⟨x,H2,I2,rx,a,C,dx,fs,ex,ea,c,n,l,q2⟩=>?_) hs
 subst ex
 obtain rfl:ov=Value.ref a:=rx
 exact yM I2 ea c n l ry λs3 I3=>⟨σ,_,I3,q2⟩
theorem Pb{op:Operator}{rd:V->V->Hp->VK->Prop}(ha:PE X o ta)(hv:PE X value tv)(QA:aE8 X op rd):PS X (.AugAssign (.Attribute o f ip) op value pos) (Yh X.K ta tv rd f):=by
 intro aa s σ H D I h
 refine wpAny_AugAssign_AttributeAny (cV (ha aa s σ H _ I h) λov s1 ⟨x,H1,I1,rx,a,C,dx,fs,v,ex,ea,c,n,l,q⟩=>?_)
 subst ex
 obtain rfl:ov=Value.ref a:=rx
 refine yU I1 ea c n l λu s2 I2 ru=>cV (hv aa s2 σ H1 _ I2 q) λw3 s3 ⟨y,H2,I3,ry,q3⟩=>cV (QA aa s3 σ H2 v y u w3 _ I3 ru ry q3) λw4 s4 ⟨z,H3,I4,rz,F3,yx,QB,l',q4⟩=>?_
 exact yM I4 QB c n l' rz λs5 I5=>⟨σ,_,I5,q4⟩
def aF1:V->V->Hp->VK->Prop:=λx y H Q=>∃i j,x=.int i/\y=.int j/\Q (.int (i+j)) H
theorem aCv:aE8 X .Add aF1:=by
 rintro aa s σ H x y u v Q I rx ry ⟨i,j,rfl,rfl,q⟩
 obtain⟨t,rfl⟩:=(show ∃t,u=Value.int i t from rx)
 obtain⟨t',rfl⟩:=(show ∃t',v=Value.int j t' from ry)
 exact PyProof.Rows.iadd_int ⟨.int (i+j),H,I.tok _,⟨_,rfl⟩,q⟩
end
section
variable{c:Value}{b:Bool}
end
structure eY(k:Nat)(A:Around):Prop where
 hd:A.handled=none
 dp:A.depth+3 * k+5<recursionLimit
 un:A.units+16 * k+200<cLine
theorem eY.mono(r:eY k A)(h:j<=k):eY j A:=⟨r.hd,by have:=r.dp;omega,by have:=r.un;omega⟩
theorem eY.deeper(r:eY (k+1) A)(env:Env):eY k (A.deeper env):=
 ⟨r.hd,by have:=r.dp;show A.depth+1+3 * k+5<_;omega,by have:=r.un;show A.units+3+16 * k+200<_;omega⟩
theorem eY.in1(r:eY (k+1) A):eY k A.in1:=
 ⟨r.hd,by have:=r.dp;show A.depth+3 * k+5<_;omega,by have:=r.un;show A.units+1+16 * k+200<_;omega⟩
theorem yV:(A.under (.builtin "type.__call__" ⟨.ref C::us,kw⟩)).depth=A.depth+1:=by
 first|rfl|simp[Around.under,Code.weight,Code.isCreation,Code.isGuard,Code.isCaller,Code.frames,Code.isFrame,guardIds]
theorem zH:(A.under (.builtin "type.__call__" ⟨.ref C::us,kw⟩)).units=A.units+1:=by
 first|rfl|simp[Around.under,Code.cUnits,Code.frames,Code.isFrame]
theorem eY.make(r:eY (k+1) A)(C:Addr)(us:List Value)(kw:List (Str×Value)):eY k (A.under (.builtin "type.__call__" ⟨.ref C::us,kw⟩)):=
 ⟨r.hd,by have:=r.dp;rw[yV];omega,by have:=r.un;rw[zH];omega⟩
theorem eY.depth(r:eY k A):A.depth<recursionLimit:=by have:=r.dp;omega
theorem eY.units(r:eY k A):A.units+64<cLine:=by have:=r.un;omega
def gC:TA:=λ_ H Q=>Q [] H
def dH(ta:TE)(tr:TA):TA:=fun σ H Q=>ta σ H λx H1=>tr σ H1 λxs H2=>Q (x::xs) H2
section
variable{es:List Expr}{t:TA}
theorem aE:PA X [] gC:=λ_ _ _ _ H Q I h=>Calls.spliced_nil ⟨[],H,I,.nil,h⟩
theorem aA(ha:PE X e te)(hr:PA X es t)(hs:starEach (e::es) X.env=(false,eval e X.env)::starEach es X.env:=by rfl):PA X (e::es) (dH te t):=by
 intro pos aa s σ H Q I h
 rw[hs]
 show wpAny _ _ (spliced ((false,eval e X.env)::backTo pos (starEach es X.env))) _ _ s
 refine Calls.spliced_cons (cV (ha aa s σ H _ I h) λu s1 ⟨x,H1,I1,r1,q1⟩=>?_)
 exact cV (hr pos aa s1 σ H1 _ I1 q1) λus s2 ⟨xs,H2,I2,r2,q2⟩=>⟨x::xs,H2,I2,.cons r1 r2,q2⟩
def Xo(t:TA):TE:=fun σ H Q=>t σ H λxs H1=>xs.length<=sizeLine/\∀p,H1 p=none->Q (.ref p) (upd H1 p (.tup xs))
def aF9(t:TA):TE:=fun σ H Q=>t σ H λxs H1=>xs.length<=sizeLine/\∀p,H1 p=none->Q (.ref p) (upd H1 p (.lst xs))
theorem dO{x1}(h:PA X es t):PE X (.Tuple es x1 pos) (Xo t):=by
 intro aa s σ H Q I hq
 refine wpAny_Tuple_spliced (cV (h pos aa s σ H _ I hq) λus s1 ⟨xs,H1,I1,r,z,q⟩=>⟨by rw[<-r.length];exact z,?_⟩)
 have hf:H1 s1.heap.objs.size=none:=I1.hok.fresh (ap _)
 refine⟨.ref s1.heap.objs.size,upd H1 s1.heap.objs.size (.tup xs),I1.laid (t':=s1.toks) (λb u e=>bh _ e) (ap _) ?_,rfl,q _ hf⟩
 exact⟨z,us,r,⟨_,cb _ rfl,rfl,_,rfl⟩⟩
theorem eD(h:PA X es t):PE X (.List es pos) (aF9 t):=by
 intro aa s σ H Q I hq
 refine wpAny_List_spliced (cV (h pos aa s σ H _ I hq) λus s1 ⟨xs,H1,I1,r,z,q⟩=>⟨by rw[<-r.length];exact z,?_⟩)
 have hf:H1 s1.heap.objs.size=none:=I1.hok.fresh (ap _)
 refine⟨.ref s1.heap.objs.size,upd H1 s1.heap.objs.size (.lst xs),I1.laid (t':=s1.toks) (λb u e=>bh _ e) (ap _) ?_,rfl,q _ hf⟩
 exact⟨z,us,0,r,cb _ rfl⟩
end
abbrev Sp:=List V->Hp->VK->XK->Prop
abbrev Iz:=List Env->Hp->Shared->XK->Value->Shared->Prop
structure yT(P:Program)(w:World)(K:Frag)(mg:Str->Option Value)(base:Heap)(A:Around)(outer:List Env)(s:Shared)(H:Hp):Prop where
 frames:A.frames=some outer
 mod:Mod K mg base
 bs:∀b o,base.get? b=some o->s.heap.get? b=some o/\H b=none
 bsz:base.objs.size<=s.heap.objs.size
 funs:s.heap.FunFrames base outer
 frf:∀b∈Al outer,H b=none
 hok:lC P w H s.heap
 bare:AllBare s.gens
def CE(outer:List Env)(P:Program)(w:World)(H:Hp)(s:Shared)(Q:VK)(u:Value)(s':Shared):Prop:=
 ∃v H',s'.os=s.os/\AllBare s'.gens/\Un (Al outer) [] H H' s.heap s'.heap/\lC P w H' s'.heap/\cB v u/\Q v H'
def Cr9(CX:Iz)(outer:List Env)(P:Program)(w:World)(H:Hp)(s:Shared)(Q:VK)(E:XK)(r:Result)(s':Shared):Prop:=
 match r with
 |.ok (.ret u)=>CE outer P w H s Q u s'
 |.ok _=>False
 |.error e=>CX outer H s E e s'
structure bO(P:Program)(w:World)(K:Frag)(mg:Str->Option Value)(base:Heap)(CX:Iz)(k:Nat)(f:Addr)(fd:FuncData)(ps:List Str)(sp:Sp):Prop where
 len:∀vs H Q E,sp vs H Q E->vs.length=ps.length
 run:∀(A:Around)(outer:List Env)(s:Shared)(H:Hp)(args:Args)(us:List Value)(vs:List V)(Q:VK)(E:XK),eY k A->yT P w K mg base A outer s H->BindsTo s fd args (ps.zip us)->bK vs us->sp vs H Q E->
  codeAny (model P w) A (.call (.ref f) args) (Cr9 CX outer P w H s Q E) s
theorem yT.make(e:yT P w K mg base A outer s H)(C:Addr)(us:List Value)(kw:List (Str×Value)):
  yT P w K mg base (A.under (.builtin "type.__call__" ⟨.ref C::us,kw⟩)) outer s H:=⟨by first|exact e.frames|(simpa[Around.under,Code.envs,Code.isFrame,pushEnvs] using e.frames),e.mod,e.bs,e.bsz,e.funs,e.frf,e.hok,e.bare⟩
theorem yT.in1(e:yT P w K mg base A outer s H):
  yT P w K mg base A.in1 outer s H:=⟨e.frames,e.mod,e.bs,e.bsz,e.funs,e.frf,e.hok,e.bare⟩
theorem aQ.env0(I:aQ X aa σ H s):yT X.prog X.w X.K X.mg X.base X.A X.stack s H:=
 ⟨I.ok.frames,I.ok.mod,I.bs,gm I.ok.bsz I.sz,I.stack,I.stkFree,I.hok,I.bare⟩
theorem aQ.after{Q:VK}(I:aQ X aa σ H s)(h:CE X.stack X.prog X.w H s Q u s'):EP X aa σ Q u s':=by
 obtain⟨v,H',os,bare,un,hok,r,q⟩:=h
 obtain⟨hh,g,d,t,AW⟩:=s'
 obtain rfl:AW=s.os:=os
 exact⟨v,H',I.call (h':=hh) (g':=g) (d':=d) (t':=t) (ch:=[]) un hok bare (λb z=>absurd z (by simp)),r,q⟩
def Bg(sp:Sp)(gh:List V)(E:XK)(t:TA):TE:=fun σ H Q=>t σ H λvs H1=>sp (vs++gh) H1 Q E
def mQ(C:Addr)(m:Str)(sp:Sp)(gh:List V)(E:XK)(ta:TE)(t:TA):TE:=fun σ H Q=>ta σ H λx H1=>∃a dx fs,x=.ref a/\H1 a=some (.ins C dx fs)/\fs.lookup m=none/\
 t σ H1 λvs H2=>sp (x::(vs++gh)) H2 Q E
def Nf(C:Addr)(sp:Sp)(gh:List V)(E:XK)(t:TA):TE:=fun σ H Q=>t σ H λvs H1=>∀x dx,H1 x=none->H1 dx=none->dx≠x->
 sp (.ref x::(vs++gh)) (upd (upd H1 dx (.own x)) x (.ins C dx [])) (λv H2=>v=.non/\Q (.ref x) H2) E
def eR(K:Frag)(fd:FuncData)(ps:List Str)(ds:List Value):Prop:=
 ∀(s:Shared)(us:List Value),K.In s.heap->(us++ds).length=ps.length->BindsTo s fd ⟨us,[]⟩ (ps.zip (us++ds))
theorem eR.all(h:∀us:List Value,us.length=ps.length->bindArgs fd ⟨us,[]⟩=pure (ps.zip us)):eR K fd ps []:=λs us _ hl=>by
 rw[ie] at hl ⊢
 exact .of_eq (h us hl)
def iU(CX:Iz)(X:Cx)(E:XK):Prop:=∀(aa:List (Addr×Obj)) (σ:St) (H:Hp) (s:Shared) (e:Value) (s':Shared),aQ X aa σ H s->CX X.stack H s E e s'->X.xe e s'
section
variable{gh:List V}{ds:List Value}{E:XK}{m:Str}{p:Pos}{o:Expr}{es:List Expr}{t:TA}{CX:Iz}{sp:Sp}{ta:TE}
theorem Jb{Q:VK}{vs:List V}(F:bO X.prog X.w X.K X.mg X.base CX k f fd ps sp)(hr:eY k X.A)(hb:eR X.K fd ps ds)(hd:bK gh ds)(hx:iU CX X E)
  (I:aQ X aa σ H s) (r:bK vs us) (h:sp (vs++gh) H Q E):wpAny (model X.prog X.w) X.A (call (.ref f) us) (EP X aa σ Q) X.xe s:=by
 have r2:bK (vs++gh) (us++ds):=r.append hd
 have hl:(us++ds).length=ps.length:=by rw[<-r2.length];exact F.len _ _ _ _ h
 refine AB (ua (F.run X.A X.stack s H ⟨us,[]⟩ (us++ds) (vs++gh) Q E hr I.env0 (hb s us I.kIn hl) r2 h) λr s' hq=>?_)
 cases r with
 |error e=>exact hx aa σ H s e s' I hq
 |ok fl=>
  cases fl with
  |ret u=>exact I.after hq
  |next=>exact False.elim hq
  |brk=>exact False.elim hq
  |cont=>exact False.elim hq
theorem aP(F:bO X.prog X.w X.K X.mg X.base CX k f fd ps sp)(hr:eY k X.A)(hg:Gl X x)(hm:X.mg x=some (.ref f))(hk:keepIn X.K (.ref f)=true)(hb:eR X.K fd ps ds)(hd:bK gh ds)(hx:iU CX X E)
  (ha:PA X (e::es) t) (gi:(x==("__debug__":Str))=false:=by decide) (he:starEach (e::es) X.env=(false,eval e X.env)::starEach es X.env:=by rfl) (ff:(backTo pos (starEach es X.env)).any (·.1)=false:=by rfl):
  PE X (.Call (.Name x p) (e::es) [] pos) (Bg sp gh E t):=by
 intro aa s σ H Q I h
 refine wpAny_Call_Name_kw (iG I hg hm ?_ gi)
 refine callWith_K (h₀:=X.base) I.ok.mod.kin hk (cV (ha pos aa s σ H _ I h) λus s1 ⟨vs,H1,I1,r,q⟩=>⟨I1.kIn,?_⟩) he ff
 exact Jb F hr hb hd hx I1 r q
theorem cZ(he:PE X o ta)(c:Ix X.K C)(hm:aAx X.K C m f)(F:bO X.prog X.w X.K X.mg X.base CX k f fd ps sp)(hr:eY k X.A)(hb:eR X.K fd ps ds)(hd:bK gh ds)(hx:iU CX X E)(ha:PA X (e::es) t)
  (d8:starEach (e::es) X.env=(false,eval e X.env)::starEach es X.env:=by rfl) (ff:(backTo pos (starEach es X.env)).any (·.1)=false:=by rfl)
  (ht:eval (.Call (.Attribute o m gr) (e::es) [] pos) X.env=(do
   let ov <-eval o X.env
   standAt gr.atName
   let (f,first) <-holding [ov] (getMethod ov m pl)
   callWith pos f first (backTo pos (starEach (e::es) X.env)) (backToKw pos (keywordEach [] X.env))):=by rfl):
  PE X (.Call (.Attribute o m gr) (e::es) [] pos) (mQ C m sp gh E ta t):=by
 intro aa s σ H Q I h
 refine PySem.W.methodCall_KW (pl:=pl) (cV (he aa s σ H _ I h) λu s1 ⟨x,H1,I1,rx,a,dx,fs,ex,ea,l,q⟩=>?_) ht
 subst ex
 obtain rfl:u=Value.ref a:=rx
 refine zB I1 ea c hm l ?_
 refine callWith_K (first:=[.ref a]) (h₀:=X.base) I.ok.mod.kin hm.kp (cV (ha pos aa s1 σ H1 _ I1 q) λus s2 ⟨vs,H2,I2,r,q2⟩=>⟨I2.kIn,?_⟩) d8 ff
 exact Jb (us:=.ref a::us) (vs:=.ref a::vs) F hr hb hd hx I2 (.cons rfl r) q2
theorem cC(he:PE X o ta)(c:Ix X.K C)(hm:aAx X.K C m f)(F:bO X.prog X.w X.K X.mg X.base CX k f fd ps sp)(hr:eY k X.A)(hb:eR X.K fd ps ds)(hd:bK gh ds)(hx:iU CX X E)
  (ht:eval (.Call (.Attribute o m gr) [] [] pos) X.env=(do
   let ov <-eval o X.env
   standAt gr.atName
   let (f,first) <-holding [ov] (getMethod ov m pl)
   callWith pos f first (backTo pos (starEach [] X.env)) (backToKw pos (keywordEach [] X.env))):=by rfl):
  PE X (.Call (.Attribute o m gr) [] [] pos) (mQ C m sp gh E ta gC):=by
 intro aa s σ H Q I h
 refine PySem.W.methodCall_KW (pl:=pl) (cV (he aa s σ H _ I h) λu s1 ⟨x,H1,I1,rx,a,dx,fs,ex,ea,l,q⟩=>?_) ht
 subst ex
 obtain rfl:u=Value.ref a:=rx
 refine zB I1 ea c hm l ?_
 exact callWith_K0 (first:=[.ref a]) I1.kIn hm.kp (Jb (us:=[.ref a]) (vs:=[.ref a]) F hr hb hd hx I1 (.cons rfl .nil) q)
structure Mk(K:Frag)(C f:Addr):Prop where
 makes:makesIn K C=true
 init:findIn K (.ref C) "__init__"=some (some (.ref f))
 fn:isFn K (.ref f)=true
 kp:keepIn K (.ref C)=true
theorem Fw{Q:VK}{vs:List V}(M:Mk X.K C f)(F:bO X.prog X.w X.K X.mg X.base CX k f fd ps sp)(hr:eY (k+1) X.A)(hb:eR X.K fd ps ds)(hd:bK gh ds)
  (hx:iU CX X E) (I:aQ X aa σ H s) (r:bK vs us)
  (h:∀x dx,H x=none->H dx=none->dx≠x->sp (.ref x::(vs++gh)) (upd (upd H dx (.own x)) x (.ins C dx [])) (λv H2=>v=.non/\Q (.ref x) H2) E):
  wpAny (model X.prog X.w) X.A (call (.ref C) us) (EP X aa σ Q) X.xe s:=by
 have hq:=h (s.heap.objs.size+1) s.heap.objs.size (I.hok.fresh (AC _)) (I.hok.fresh (ap _)) (b8 (lu _))
 have I2:=aQ.made (C:=C) I
 have r2:bK (V.ref (s.heap.objs.size+1)::(vs++gh)) (Value.ref (s.heap.objs.size+1)::(us++ds)):=.cons rfl (r.append hd)
 have hl:(Value.ref (s.heap.objs.size+1)::us++ds).length=ps.length:=by
  have e:=r2.length
  rw[F.len _ _ _ _ hq] at e
  exact e.symm
 refine AB (Fc (f:=f) I.kIn M.makes M.init (cp.mp M.fn) (ua (F.run _ X.stack _ _ ⟨Value.ref (s.heap.objs.size+1)::us,[]⟩ (Value.ref (s.heap.objs.size+1)::(us++ds)) _ _ E (hr.make C us [])
  (I2.env0.make C us []) (hb _ (Value.ref (s.heap.objs.size+1)::us) I2.kIn hl) r2 hq) λr s' ir=>?_))
 cases r with
 |error e=>exact hx aa σ _ _ e s' I2 ir
 |ok fl=>
  cases fl with
  |ret u=>
   obtain⟨v,H',I3,rv,ev,q3⟩:=I2.after ir
   subst ev
   exact⟨rv,⟨V.ref (s.heap.objs.size+1),H',I3,rfl,q3⟩⟩
  |next=>exact False.elim ir
  |brk=>exact False.elim ir
  |cont=>exact False.elim ir
theorem qQ(M:Mk X.K C f)(F:bO X.prog X.w X.K X.mg X.base CX k f fd ps sp)(hr:eY (k+1) X.A)(hg:Gl X x)(hm:X.mg x=some (.ref C))(hb:eR X.K fd ps ds)(hd:bK gh ds)(hx:iU CX X E)
  (ha:PA X (e::es) t) (gi:(x==("__debug__":Str))=false:=by decide) (he:starEach (e::es) X.env=(false,eval e X.env)::starEach es X.env:=by rfl) (ff:(backTo pos (starEach es X.env)).any (·.1)=false:=by rfl):
  PE X (.Call (.Name x p) (e::es) [] pos) (Nf C sp gh E t):=by
 intro aa s σ H Q I h
 refine wpAny_Call_Name_kw (iG I hg hm ?_ gi)
 refine callWith_K (h₀:=X.base) I.ok.mod.kin M.kp (cV (ha pos aa s σ H _ I h) λus s1 ⟨vs,H1,I1,r,q⟩=>⟨I1.kIn,?_⟩) he ff
 exact Fw M F hr hb hd hx I1 r q
theorem Ts(M:Mk X.K C f)(F:bO X.prog X.w X.K X.mg X.base CX k f fd ps sp)(hr:eY (k+1) X.A)(hg:Gl X x)(hm:X.mg x=some (.ref C))(hb:eR X.K fd ps ds)(hd:bK gh ds)(hx:iU CX X E)
  (gi:(x==("__debug__":Str))=false:=by decide):PE X (.Call (.Name x p) [] [] pos) (Nf C sp gh E gC):=by
 intro aa s σ H Q I h
 refine wpAny_Call_Name_kw (iG I hg hm ?_ gi)
 exact callWith_K0 I.kIn M.kp (Fw (us:=[]) M F hr hb hd hx I .nil h)
end
section
variable{ks:List Str}{E:XK}{m:Str}{p WR:Pos}{o:Expr}{es:List Expr}{WS:List Keyword}{t tk:TA}{nm:Option Str}{CX:Iz}{sp:Sp}{ta:TE}
variable{g:List Value->List Value->List Value}{gV:List V->List V->List V}
end
structure aN(N P:List Str)(sc:Scope):Prop where
 kind:sc.kind=.function
 co:sc.isCoroutine=false
 gen:sc.isGenerator=false
 nd:N.Nodup
 pre:N.take P.length=P
 par:∀x∈P,sc.names.lookup x=some .local\/sc.names.lookup x=some .cell
 nofree:∀y∈sc.names,y.2≠.free
theorem Ac{kindOf:Str->Option NameKind}:∀{binds:List (Str×Value)} {m:Str->Option Value},(∀v,(x,v)∉binds)->bindL kindOf binds m x=m x
 |[],_,_=>rfl
 |(n,v)::r,m,h=>by
  unfold bindL
  rw[Ac λw hw=>h w (az _ hw)]
  split
  ·have:x≠n:=by rintro rfl;exact h v bf
   simp[this]
  ·rfl
theorem Ap{kindOf:Str->Option NameKind}:∀{binds:List (Str×Value)} {m:Str->Option Value},(∀v,(x,v)∉binds)->bindC kindOf binds m x=m x
 |[],_,_=>rfl
 |(n,v)::r,m,h=>by
  unfold bindC
  rw[Ap λw hw=>h w (az _ hw)]
  split
  ·rfl
  ·have:x≠n:=by rintro rfl;exact h v bf
   simp[this]
theorem Ck{kindOf:Str->Option NameKind}:∀{P:List Str}{vs:List Value}{i:Nat}{m:Str->Option Value},P.Nodup->P[i]?=some x->vs[i]?=some v->kindOf x=some .local->
  bindL kindOf (P.zip vs) m x=some v
 |[],_,_,_,_,h,_,_=>by simp at h
 |_::_,[],_,_,_,_,h,_=>by simp at h
 |p::P,w::vs,0,m,nd,h1,h2,hk=>by
  simp at h1 h2;subst h1;subst h2
  show bindL kindOf ((p,w)::P.zip vs) m p=_
  unfold bindL
  rw[Ac λv hv=>(pd.mp nd).1 (B8 hv).1,af hk]
  simp
 |p::P,w::vs,i+1,m,nd,h1,h2,hk=>by
  show bindL kindOf ((p,w)::P.zip vs) m x=_
  unfold bindL
  exact Ck (i:=i) (pd.mp nd).2 (by simpa using h1) (by simpa using h2) hk
theorem Bq{kindOf:Str->Option NameKind}:∀{P:List Str}{vs:List Value}{i:Nat}{m:Str->Option Value},P.Nodup->P[i]?=some x->vs[i]?=some v->kindOf x≠some .local->
  bindC kindOf (P.zip vs) m x=some v
 |[],_,_,_,_,h,_,_=>by simp at h
 |_::_,[],_,_,_,_,h,_=>by simp at h
 |p::P,w::vs,0,m,nd,h1,h2,hk=>by
  simp at h1 h2;subst h1;subst h2
  show bindC kindOf ((p,w)::P.zip vs) m p=_
  unfold bindC
  rw[Ap λv hv=>(pd.mp nd).1 (B8 hv).1,ae hk]
  simp
 |p::P,w::vs,i+1,m,nd,h1,h2,hk=>by
  show bindC kindOf ((p,w)::P.zip vs) m x=_
  unfold bindC
  exact Bq (i:=i) (pd.mp nd).2 (by simpa using h1) (by simpa using h2) hk
def mH(N:List Str)(vs:List V):St:=vs.map some++List.replicate (N.length - vs.length) none
def Dd(CX:Iz)(P:Program)(w:World)(K:Frag)(mg:Str->Option Value)(base:Heap)(N:List Str)(aq:Str)(scope:Scope)(f:Addr)(cd:Value)(A:Around)(outer:List Env)(s:Shared)(H:Hp)(E:XK):Cx where
 prog:=P
 w:=w
 K:=K
 mg:=mg
 base:=base
 A:=A.deeper (envOfC aq scope s.heap.objs.size f cd)
 N:=N
 s_0:=s
 H_0:=H
 env:=envOfC aq scope s.heap.objs.size f cd
 outer:=outer
 stack:=envOfC aq scope s.heap.objs.size f cd::outer
 ex:=[]
 calm:=true
 fn:=λ_=>true
 pn:=[]
 xe:=λe s'=>wpAny (model P w) (A.deeper (envOfC aq scope s.heap.objs.size f cd)) (leaving (envOfC aq scope s.heap.objs.size f cd) e) (λ_ AX=>CX outer H s E e AX) (λe' AX=>CX outer H s E e' AX) s'
theorem Ga{n:Nat}(h:sc.names.lookup x=some .cell):∃c,(cellsFrom n sc.names []).lookup x=some c:=by
 have q:=cellsFrom_some sc.names n [] (.inl h)
 exact vo.mp q
variable{CX:Iz}
theorem Ax{cd:Value}{s1:Shared}{E:XK}{vs:List V}
  (S:aN N ps scope) (hd:A.handled=none) (e0:yT P w K mg base A outer s H) (hl:vs.length=ps.length) (r:bK vs us)
  (x:InCallC s s.heap.objs.size (bindL (envOfC aq scope s.heap.objs.size f cd).kindOf (ps.zip us) λ_=>none) (cellsFrom (s.heap.objs.size+1) scope.names []) (bindC (envOfC aq scope s.heap.objs.size f cd).kindOf (ps.zip us) λ_=>none) s1):
  aQ (Dd CX P w K mg base N aq scope f cd A outer s H E) [] (mH N vs) H s1:=by
 have ff:ps.length<=N.length:=by have:=congrArg List.length S.pre;rw[gf] at this;omega
 obtain⟨h1,tk,rfl,hk⟩:=x.done
 have y8:∀b:Addr,b∉(Dd CX P w K mg base N aq scope f cd A outer s H E).ex:=λb z=>absurd (show b∈([]:List Addr) from z) (by simp)
 refine⟨⟨e0.mod,S.kind,rfl,rfl,ap _,λy z c h1 h2=>?_,λy hy=>?_,λy c _ h=>?_,λ_=>hd,Around.frames_deeper e0.frames,.inr ⟨rfl,rfl⟩,λb z=>absurd z (y8 b),e0.bs,e0.bsz,λb _ _=>y8 b,λb z=>absurd z (y8 b),e0.funs,e0.frf⟩,
  rfl,e0.bare,Un.kept hk,⟨_,x.toInCall.ns,λi y v h1 h2 h3=>?_⟩,λy c h=>⟨_,x.cell y c h⟩,e0.hok.fresh (ap _),λy c h=>?_,λp hp=>absurd (show p∈([]:List (Addr×Obj)) from hp) (by simp),e0.hok.kept hk,?_⟩
 ·exact name_of_addr x.apart (PySem.mem_of_lookup h1) (PySem.mem_of_lookup h2)
 ·have hy:scope.names.lookup y=some .cell\/scope.names.lookup y=some .free:=hy
  rcases hy with hy|hy
  ·exact Ga hy
  ·exact absurd rfl (S.nofree _ (PySem.mem_of_lookup hy))
 ·exact B7 (x.above y c (PySem.mem_of_lookup h))
 ·have hi:i<vs.length:=by
   unfold mH at h2
   by_cases hi:i<vs.length
   ·exact hi
   ·rw[JG (by simpa using hi)] at h2
    rw[N7] at h2
    split at h2<;>cases h2
  have ha:vs[i]?=some v:=by
   unfold mH at h2
   rw[JH (by simpa using hi),bg] at h2
   cases e:vs[i]? with
   |none=>rw[e] at h2;cases h2
   |some a=>rw[e] at h2;cases h2;rfl
  obtain⟨u,hu,rv⟩:=r.get ha
  have hp:ps[i]?=some y:=by
   rw[<-S.pre,List.getElem?_take_of_lt (by omega)];exact h1
  have KH:ps.Nodup:=by rw[<-S.pre];exact S.nd.sublist (N8 _ _)
  refine⟨u,rv,?_⟩
  rcases S.par y (fj hp) with k|k
  ·exact .inl ⟨k,Ck KH hp hu k⟩
  ·obtain⟨c,e⟩:=Ga (n:=s.heap.objs.size+1) k
   refine .inr ⟨.inl k,c,e,?_⟩
   have q:=x.cell y c e
   rw[Bq KH hp hu (by show scope.names.lookup y≠_;rw[k];decide)] at q
   exact q
 ·exact e0.hok.fresh (B7 (x.above y c (PySem.mem_of_lookup h)))
 ·unfold mH
  show _=N.length
  rw[c8,ai,List.length_replicate]
  omega
theorem aBe{params:Arguments}{dV kV bq pm ak ct oc:Value}{an od:Option Addr}
  {df:Array (Option Value)} {N ps:List Str} {sp:Sp} (lk:K.lookup f=some ⟨oc,od,.func (fnOf name aq params body scope dV kV bq pm an ak ct),df⟩) (i':codeIn K ak aq=true) (S:aN N ps scope)
  (len:∀vs H Q E,sp vs H Q E->vs.length=ps.length)
  (wo:∀(A:Around)(outer:List Env)(s:Shared)(H:Hp)(vs:List V)(Q:VK)(E:XK),eY k (A.deeper (envOfC aq scope s.heap.objs.size f ak))->sp vs H Q E->
   ∃t,Ar (Dd CX P w K mg base N aq scope f ak A outer s H E) body t/\t {nx:=λ_ H'=>Q .non H',rt:=Q} (mH N vs) H):
  bO P w K mg base CX (k+1) f (fnOf name aq params body scope dV kV bq pm an ak ct) ps sp:=by
 refine⟨len,λA outer s H args us vs Q E hr e0 hb r ke=>?_⟩
 have hl:=len _ _ _ _ ke
 have KX:K.In s.heap:=e0.mod.kin.keeps λb o e=>(e0.bs b o e).1
 have lim:s.heap.NoLimit:=e0.mod.nolimit.keeps λb o e=>(e0.bs b o e).1
 have F4:∀y∈ps.zip us,scope.names.lookup y.1=some .local\/(scope.names.lookup y.1=some .cell/\((cellsFrom (s.heap.objs.size+1) scope.names []).lookup y.1).isSome=true):=λ⟨n,v⟩ hy=>by
  rcases S.par n (B8 hy).1 with q|q
  ·exact .inl q
  ·exact .inr ⟨q,cellsFrom_some _ _ _ (.inl q)⟩
 refine N9 hr.depth (KX _ _ lk) rfl S.co S.gen rfl (codeRec_of KX i') (hb _ _ _ _ ?_)
 refine N' S.kind F4 λenv he s1 x=>?_
 subst he
 refine⟨lim.keeps x.toInCall.keep,codeAny_func ?_⟩
 obtain⟨t,ht,hq⟩:=wo A outer s H vs Q E (hr.deeper _) ke
 have I:aQ (Dd CX P w K mg base N aq scope f ak A outer s H E) [] (mH N vs) H s1:=Ax S hr.hd e0 hl r x
 refine jm (ht [] s1 (mH N vs) H _ I hq) (λfl s' hs=>?_) λe s' hs=>hs
 have fin:∀{ah:St}{H':Hp}{v:V}{u:Value},aQ (Dd CX P w K mg base N aq scope f ak A outer s H E) [] ah H' s'->cB v u->Q v H'->CE outer P w H s Q u s':=
  λ{ah H' v u} J rv q=>⟨v,H',J.os,J.bare,J.base,J.hok,rv,q⟩
 cases fl with
 |ret u=>
  obtain⟨v,ah,H',J,rv,q⟩:=hs
  exact fin J rv q
 |next=>
  obtain⟨ah,H',J,q⟩:=hs
  exact fin (v:=V.non) (u:=Value.none) J rfl q
 |brk=>
  obtain⟨_,_,_,q⟩:=hs
  exact False.elim q
 |cont=>
  obtain⟨_,_,_,q⟩:=hs
  exact False.elim q
section
variable{p:Pos}{es:List Expr}{t:TA}{id T:String}{r:List V->Hp->VK->Prop}
def tCB(r:List V->Hp->VK->Prop)(t:TA):TE:=fun σ H Q=>t σ H λvs H1=>r vs H1 Q
theorem bS(hc:pL X (.builtin id) r)(hg:Gl X x)(hm:X.mg x=none)(hv:bootBuiltins x=some (.builtin id))(ha:PA X (e::es) t)(hn:x≠"__name__":=by decide)(gi:(x==("__debug__":Str))=false:=by decide)
  (he:starEach (e::es) X.env=(false,eval e X.env)::starEach es X.env:=by rfl) (ff:(backTo pos (starEach es X.env)).any (·.1)=false:=by rfl):PE X (.Call (.Name x p) (e::es) [] pos) (tCB r t):=by
 intro aa s σ H Q I h
 refine wpAny_Call_Name_kw (lY I hg hm hv ?_ hn gi)
 exact OA (cV (ha pos aa s σ H _ I h) λus s1 ⟨vs,H1,I1,r1,q1⟩=>hc aa s1 σ H1 vs us Q I1 r1 q1) he ff
theorem uC(hc:pL X (.type T) r)(hg:Gl X x)(hm:X.mg x=none)(hv:bootBuiltins x=some (.type T))(ha:PA X (e::es) t)(hn:x≠"__name__":=by decide)(gi:(x==("__debug__":Str))=false:=by decide)
  (he:starEach (e::es) X.env=(false,eval e X.env)::starEach es X.env:=by rfl) (ff:(backTo pos (starEach es X.env)).any (·.1)=false:=by rfl):PE X (.Call (.Name x p) (e::es) [] pos) (tCB r t):=by
 intro aa s σ H Q I h
 refine wpAny_Call_Name_kw (lY I hg hm hv ?_ hn gi)
 exact z9 (cV (ha pos aa s σ H _ I h) λus s1 ⟨vs,H1,I1,r1,q1⟩=>hc aa s1 σ H1 vs us Q I1 r1 q1) he ff
end
end L2
variable{tb:L2.TS}{xs:List L2.V}{H H' H1 H2:L2.Hp}{X:L2.Cx}{σ:L2.St}{ta te tv td:L2.TE}{y:L2.V}{D:L2.fX}{wi:L2.TI}{g:L2.TG}{CX:L2.Iz}{sp:L2.Sp}{Qd:L2.Hp->Prop}
namespace HT
open PySem PyProof.Rows
theorem Sz(A:Around)(s:Shared)(a:Int)(t:Tok)(c:Int)(u:Tok):∃e,SeqAt.EqAt A s (.int a t) (.int c u) e/\(e=true↔a=c):=
 ⟨(a==c),JI a t c u,by simp⟩
section
open PySem.SeqAt
open PySem.AutoSeq1 (wpAny_loadPart')
open PySem.MeetsSeq PySem.MeetsSeq2 PySem.MeetsSeq3
end
theorem Zf{t:Addr}{vs ws:List Value}(ht:IsTup s.heap t vs.toArray)(hb:IsTup s.heap b ws.toArray)(hv:vs≠[])
  (h1:ws=[]->Q (.ref t) s) (h2:ws≠[]->Q (.ref s.heap.objs.size) {s with heap:=s.heap.push {cls:=.type "tuple",data:=.seq (vs++ws).toArray}})
  (hsz:vs.length+ws.length<=sizeLine):wpAny (model prog w) A (binaryOp .Add (.ref t) (.ref b)) Q E s:=by
 obtain⟨⟨cls,dd,data,sl⟩,ho,hc,n,hd⟩:=id ht
 obtain⟨⟨KI,uo,data2,uq⟩,qd,dk,n2,ja⟩:=id hb
 simp only at hc hd dk ja
 subst hc hd dk ja
 have e:vs.toArray++ws.toArray=(vs++ws).toArray:=by simp
 by_cases hw:ws=[]
 ·exact JJ ⟨_,ho,rfl⟩ ⟨_,qd,rfl⟩ JK JL slot_tuple_add entry_tuple_add (args_tuple_add_2 _ _)
   (tuple_addW1 t b vs.toArray ws.toArray n n2 dd uo sl uq (by simpa using hv) (by simp[hw])) ⟨ho,qd,h1 hw⟩
 ·refine JJ ⟨_,ho,rfl⟩ ⟨_,qd,rfl⟩ JK JL slot_tuple_add entry_tuple_add (args_tuple_add_2 _ _)
   (tuple_addW2 t b vs.toArray ws.toArray n n2 dd uo sl uq (by simpa using hv) (by simpa using hw) (by rw[ca,ca];exact hsz)) ⟨ho,qd,?_⟩
  rw[e]
  exact h2 hw
def hG(n d:Nat):Option Int->Nat
 |none=>d
 |some v=>if v<0 then (v+(n:Int)).toNat else min v.toNat n
theorem Wb(n d:Nat):hG n d none=d:=rfl
theorem Xv(n d k:Nat):hG n d (some (k:Int))=min k n:=by
 show (if (k:Int)<0 then ((k:Int)+(n:Int)).toNat else min (k:Int).toNat n)=min k n
 rw[ae (by omega),fc]
theorem aDa(n d:Nat)(hd:d<=n)(o:Option Int):hG n d o<=n:=by
 cases o with
 |none=>exact hd
 |some v=>
  show (if v<0 then (v+(n:Int)).toNat else min v.toNat n)<=n
  by_cases hv:v<0
  ·rw[af hv];omega
  ·rw[ae hv];exact OB _ _
theorem Oc(v:Int)(n d:Nat):(if v<0 then max (v+(n:Int)) 0 else min v (n:Int))=((hG n d (some v):Nat):Int):=by
 show (if v<0 then max (v+(n:Int)) 0 else min v (n:Int))=(((if v<0 then (v+(n:Int)).toNat else min v.toNat n):Nat):Int)
 by_cases hv:v<0
 ·simp only[af hv];omega
 ·simp only[ae hv];omega
theorem Ji(lo hi:Option Int)(n:Nat):Builtin.Slice.sliceAdjust lo hi 1 (n:Int)=(((hG n 0 lo:Nat):Int),((hG n n hi:Nat):Int)):=by
 have h1:¬((1:Int)<0):=by omega
 unfold Builtin.Slice.sliceAdjust
 simp only[h1,ju]
 refine d6 ?_ ?_
 ·cases lo with
  |none=>rfl
  |some v=>exact Oc v n 0
 ·cases hi with
  |none=>rfl
  |some v=>exact Oc v n n
theorem Kx(i j:Nat):Builtin.Slice.slicePlaces (i:Int) (j:Int) 1=j - i:=by
 unfold Builtin.Slice.slicePlaces
 have h1:(1:Int)>0:=by omega
 simp only[h1,vp,Int.ediv_one]
 split<;>omega
theorem wR{o:Option Int}{Q:Option Int->Shared->Prop}(p:IsPart v o)(h:Q o s):wpAny (model prog w) A (Builtin.Slice.slicePartIndex v) Q E s:=by
 cases p with
 |none=>exact slicePart_none h
 |int i t=>exact slicePart_int h
theorem jZ{sl:Addr}{lo hi:Option Int}{n:Nat}{Q:Int×Int×Nat->Shared->Prop}(hs:s.heap.IsSliceOf sl vl vu .none)(pl:IsPart vl lo)(pu:IsPart vu hi)
  (h:Q (((hG n 0 lo:Nat):Int),1,hG n n hi - hG n 0 lo) s):wpAny (model prog w) A (Builtin.Slice.sliceApplied (.ref sl) (pure (n:Int))) Q E s:=by
 obtain⟨os,fh,qe,r6⟩:=id hs
 unfold Builtin.Slice.sliceApplied Builtin.Slice.sliceFields
 refine ac (ac (j7 fh r6 (x:=vl) rfl (ac (j7 fh r6 (x:=vu) rfl (ac (j7 fh r6 (x:=.none) rfl (ag ?_)))))))
 refine ac (slicePart_none ?_)
 show wpAny _ _ (if ((1:Int)==0)=true then _ else _) _ _ s
 rw[ae (by decide)]
 refine ac (wR pl (ac (wR pu (ac (ag ?_)))))
 show wpAny _ _ (match Builtin.Slice.sliceAdjust lo hi 1 (n:Int) with|(lo,hi)=>pure (lo,(1:Int),Builtin.Slice.slicePlaces lo hi 1)) _ _ s
 rw[Ji lo hi n]
 show wpAny _ _ (pure (((hG n 0 lo:Nat):Int),(1:Int),Builtin.Slice.slicePlaces ((hG n 0 lo:Nat):Int) ((hG n n hi:Nat):Int) 1)) _ _ s
 rw[Kx]
 exact ag h
theorem Us(xs:Array Value)(i k:Nat):((List.range k).filterMap λ(m:Nat)=>xs[((i:Int)+(m:Int) * 1).toNat]?).toArray=((xs.toList.drop i).take k).toArray:=by
 have e:(λ(m:Nat)=>xs[((i:Int)+(m:Int) * 1).toNat]?)=λm=>xs[i+m]?:=by
  funext m
  have:((i:Int)+(m:Int) * 1).toNat=i+m:=by omega
  rw[this]
 rw[e]
 have:=pick_run xs i k
 rw[List.filterMap_map] at this
 have e2:((λx=>xs[x]?)∘λx=>i+x)=λm=>xs[i+m]?:=rfl
 rw[e2] at this
 rw[this]
theorem rW{t sl:Addr}{lo hi:Option Int}(ht:IsTup s.heap t items)(hs:s.heap.IsSliceOf sl vl vu .none)(pl:IsPart vl lo)(pu:IsPart vu hi)
  (hw:¬(hG items.size 0 lo=0/\hG items.size items.size hi=items.size))
  (h:Q (.ref s.heap.objs.size) {s with heap:=s.heap.push {cls:=.type "tuple",data:=.seq ((items.toList.drop (hG items.size 0 lo)).take (hG items.size items.size hi - hG items.size 0 lo)).toArray}})
  (hsz:items.size<=sizeLine):wpAny (model prog w) A (getItem (.ref t) (.ref sl)) Q E s:=by
 have DA:sizeOk (.seq ((items.toList.drop (hG items.size 0 lo)).take (hG items.size items.size hi - hG items.size 0 lo)).toArray):=by
  show ((items.toList.drop (hG items.size 0 lo)).take (hG items.size items.size hi - hG items.size 0 lo)).toArray.size<=sizeLine
  rw[ca,gf,JM,d5]
  omega
 have hj:hG items.size items.size hi<=items.size:=aDa _ _ (ap _) hi
 obtain⟨os,fh,qe,r6⟩:=id hs
 have AY:s.TypeIs (.ref sl) "slice":=⟨os,fh,qe⟩
 unfold getItem
 try with_reducible refine j8 ?_
 first|refine ac (ag ?_)|skip
 refine ac (wpAny_sequenceKey ht.typeIs (by decide) ?_)
 refine ac (mj (name:=Str.ofString "__getitem__") ht.typeIs AD
  (jf AD ht.typeIs entry_tuple_getitem ?_ (args_tuple_getitem _ _)))
 show wpAny _ _ (Builtin.Tuple.tupleItemsOf (.ref t)>>=_) _ _ s
 refine ac (tupleItemsOf_ ht ?_)
 refine ac (B9 AY ?_)
 rw[af (by decide)]
 refine ac (jZ hs pl pu ?_)
 have cg:¬((((hG items.size 0 lo:Nat):Int)==0 && (1:Int)==1 && (hG items.size items.size hi - hG items.size 0 lo)==items.size)=true):=by
  intro q
  rw[cn,cn] at q
  have q1:((hG items.size 0 lo:Nat):Int)=0:=eq_of_beq q.1.1
  have q2:hG items.size items.size hi - hG items.size 0 lo=items.size:=eq_of_beq q.2
  exact hw ⟨by omega,by omega⟩
 show wpAny _ _ (if (((hG items.size 0 lo:Nat):Int)==0 && (1:Int)==1 && (hG items.size items.size hi - hG items.size 0 lo)==items.size)=true then _ else _) _ _ s
 rw[ae cg,Us]
 first
  |exact ac (m:=Builtin.Tuple.tupleExact _) (ig (ag ⟨_,rfl,ag h⟩) DA)
  |exact ac (m:=Builtin.Tuple.tupleExact _) (ig (ac (ag (ag ⟨_,rfl,ag h⟩))) DA)
  |exact ac (ac (m:=Builtin.Tuple.tupleExact _) (ig (ag (ag ⟨_,rfl,ag h⟩)) DA))
  |exact ac (ac (m:=Builtin.Tuple.tupleExact _) (ig (ag ⟨_,rfl,ag h⟩) DA))
end HT
namespace L2
open PySem PySem.Spec PyProof.Rows
abbrev TO:=St->Hp->(Option Int->Hp->Prop)->Prop
def PO(X:Cx)(e:Option Expr)(t:TO):Prop:=
 ∀(aa:List (Addr×Obj)) (s:Shared) (σ:St) (H:Hp) (Q:Option Int->Hp->Prop),aQ X aa σ H s->t σ H Q->
  wpAny (model X.prog X.w) X.A (evalPart e X.env) (λu s'=>∃o H',aQ X aa σ H' s'/\IsPart u o/\Q o H') X.xe s
def Ei:TO:=λ_ H Q=>Q none H
def Ta(t:TE):TO:=fun σ H Q=>t σ H λx H1=>∃i,x=.int i/\Q (some i) H1
theorem eK:∀{us:List Value},bK (ns.map V.int) us->IntsAre us ns:=by
 induction ns with
 |nil=>intro us r;rw[vq] at r;cases r;exact .nil
 |cons n ns ih=>
  intro us r
  rw[bn] at r
  cases r with
  |cons r1 r2=>
   obtain⟨t,e⟩:=r1
   subst e
   exact .cons n t (ih r2)
section
variable{lo hi:Option Expr}{tl th:TO}
theorem No:PO X none Ei:=by
 intro aa s σ H Q I h
 rw[evalPart_none]
 exact ag ⟨none,H,I,.none,h⟩
theorem Ou(h:PE X e te):PO X (some e) (Ta te):=by
 intro aa s σ H Q I hw
 rw[evalPart_some]
 refine cV (h aa s σ H _ I hw) λu s1 ⟨x,H1,I1,r1,q1⟩=>?_
 obtain⟨i,rfl,q⟩:=q1
 obtain⟨t,rfl⟩:=r1
 exact⟨some i,H1,I1,.int i t,q⟩
def SlR(X:Cx)(r:V->Option Int->Option Int->Hp->VK->Prop):Prop:=
 ∀(aa:List (Addr×Obj)) (s:Shared) (σ:St) (H:Hp) (x:V) (v vl vu:Value) (lo hi:Option Int) (sl:Addr) (Q:VK),aQ X aa σ H s->cB x v->s.heap.IsSliceOf sl vl vu .none->IsPart vl lo->IsPart vu hi->r x lo hi H Q->
  ∃T id,typeLookup (.type T) "__getitem__"=pure (some (.builtin id))/\s.TypeIs v T/\wpAny (model X.prog X.w) X.A (getItem v (.ref sl)) (EP X aa σ Q) X.xe s
def tSl(r:V->Option Int->Option Int->Hp->VK->Prop)(te:TE)(tl th:TO):TE:=fun σ H Q=>te σ H λx H1=>tl σ H1 λl H2=>th σ H2 λu H3=>r x l u H3 Q
theorem Hi{r:V->Option Int->Option Int->Hp->VK->Prop}(hr:SlR X r)(he:PE X e te)(hl:PO X lo tl)(hu:PO X hi th):PE X (.Subscript e (.Slice lo hi none p2) pos) (tSl r te tl th):=by
 intro aa s σ H Q I h
 refine Subscript_ (cV (he aa s σ H _ I h) λv s1 ⟨x,H1,I1,r1,q1⟩=>?_)
 refine wpAny_Slice (cV (hl aa s1 σ H1 _ I1 q1) λvl s2 ⟨l,H2,I2,pl,q2⟩=>cV (hu aa s2 σ H2 _ I2 q2) λvu s3 ⟨u,H3,I3,pu,q3⟩=>?_)
 rw[evalPart_none]
 refine ag ?_
 have I4:aQ X aa σ H3 {s3 with heap:=s3.heap.push {cls:=.type "slice",data:=.fields #[vl,vu,.none]}}:=I3.kept (t':=s3.toks) λb ob q=>bh _ q
 obtain⟨T,id,hT,ht,hg⟩:=hr aa {s3 with heap:=s3.heap.push {cls:=.type "slice",data:=.fields #[vl,vu,.none]}} σ H3 x v vl vu l u s3.heap.objs.size Q I4 r1 (Heap.IsSliceOf.new ..) pl pu q3
 show wpAny (model X.prog X.w) X.A (subscriptTail e (.Slice lo hi none p2) v (.ref s3.heap.objs.size)) (EP X aa σ Q) X.xe {s3 with heap:=s3.heap.push {cls:=.type "slice",data:=.fields #[vl,vu,.none]}}
 exact tail_any (ops:=[.ref s3.heap.objs.size,v]) ht hT hg (by with_unfolding_all rfl)
def zX(xs:List V)(lo hi:Option Int):List V:=(xs.drop (HT.hG xs.length 0 lo)).take (HT.hG xs.length xs.length hi - HT.hG xs.length 0 lo)
theorem Ih(xs:List V)(lo hi:Option Int):(zX xs lo hi).length<=xs.length:=by
 unfold zX
 rw[gf,JM]
 omega
def aF6(K:Frag):V->Option Int->Option Int->Hp->VK->Prop:=λx lo hi H Q=>∃a xs,x=.ref a/\cG K H a xs/\
 ¬(HT.hG xs.length 0 lo=0/\HT.hG xs.length xs.length hi=xs.length)/\∀p,H p=none->Q (.ref p) (upd H p (.tup (zX xs lo hi)))
theorem aDh:SlR X (aF6 X.K):=by
 intro aa s σ H x v vl vu lo hi sl Q I rx hs pl pu h
 obtain⟨a,xs,rfl,hx,hw,q⟩:=h
 cases rx
 obtain⟨its,r,ht,hz⟩:=I.tuple hx
 have bi:its.toArray.size=xs.length:=by rw[ca];exact r.length.symm
 refine⟨"tuple",_,AD.lookup,ht.typeIs,?_⟩
 refine HT.rW ht hs pl pu (by rw[bi];exact hw) ?_ (by rw[bi];exact hz)
 rw[bi]
 refine⟨.ref s.heap.objs.size,_,I.laid (t':=s.toks) (o:=.tup (zX xs lo hi)) (λb ob q=>bh _ q) (ap _) ?_,rfl,q _ (I.hok.fresh (ap _))⟩
 exact⟨gm (Ih xs lo hi) hz,_,(r.drop (HT.hG xs.length 0 lo)).take (HT.hG xs.length xs.length hi - HT.hG xs.length 0 lo),IsTup.new _ _⟩
def aBg(K:Frag):R2:=λx y H Q=>∃a b xs ys,x=.ref a/\y=.ref b/\cG K H a xs/\cG K H b ys/\xs≠[]/\xs.length+ys.length<=sizeLine/\
 (ys=[]->Q (.ref a) H)/\(ys≠[]->∀p,H p=none->Q (.ref p) (upd H p (.tup (xs++ys))))
theorem bK.nil_iff(r:bK xs us):us=[]↔xs=[]:=by
 cases r with
 |nil=>simp
 |cons _ _=>simp
theorem Ow:uI X (binaryOp .Add) (aBg X.K):=by
 intro aa s σ H x y v u Q I rx ry h
 obtain⟨a,b,xs,ys,rfl,rfl,ha,hb,hx,hz,q1,q2⟩:=h
 cases rx
 cases ry
 obtain⟨its,r1,p1,_⟩:=I.tuple ha
 obtain⟨DB,r2,p2,_⟩:=I.tuple hb
 refine HT.Zf p1 p2 (λz=>hx (r1.nil_iff.mp z)) (λz=>⟨.ref a,H,I,rfl,q1 (r2.nil_iff.mp z)⟩) (λz=>?_) (by rw[<-r1.length,<-r2.length];exact hz)
 refine⟨.ref s.heap.objs.size,_,I.laid (t':=s.toks) (o:=.tup (xs++ys)) (λb ob q=>bh _ q) (ap _) ?_,rfl,q2 (λw=>z (r2.nil_iff.mpr w)) _ (I.hok.fresh (ap _))⟩
 exact⟨by rw[c8];exact hz,_,r1.append r2,IsTup.new _ _⟩
end
def ixN(n:Nat)(i:Int):Option Nat:=if 0<=i then (if i<n then some i.toNat else none) else if -(n:Int)<=i then some (i+n).toNat else none
def Ps(xs:List α)(i:Int):Option α:=(ixN xs.length i).bind λj=>xs[j]?
theorem Xy{n:Nat}{i:Int}(h:ixN n i=some j):seqIndex? i n=some j/\j<n/\ -(n:Int)<=i/\i<n:=by
 unfold ixN at h
 by_cases h0:0<=i
 ·rw[af h0] at h
  by_cases h1:i<n
  ·rw[af h1] at h
   have e:i.toNat=j:=Option.some.inj h
   exact⟨by rw[seqIndex_of h0 h1,e],by omega,by omega,h1⟩
  ·rw[ae h1] at h;cases h
 ·rw[ae h0] at h
  by_cases h1: -(n:Int)<=i
  ·rw[af h1] at h
   have e:(i+n).toNat=j:=Option.some.inj h
   exact⟨by rw[seqIndex_neg (by omega) h1,e],by omega,h1,by omega⟩
  ·rw[ae h1] at h;cases h
theorem Og{xs:List α}{i:Int}{v:α}(h:Ps xs i=some v):∃j,seqIndex? i xs.length=some j/\xs[j]?=some v/\j<xs.length/\ -(xs.length:Int)<=i/\i<xs.length:=by
 unfold Ps at h
 cases e:ixN xs.length i with
 |none=>rw[e] at h;cases h
 |some j=>
  rw[e] at h
  obtain⟨h1,h2,h3,h4⟩:=Xy e
  exact⟨j,h1,h,h2,h3,h4⟩
theorem jF{xs:List α}{v:α}(h:xs[j]?=some v):Ps xs (j:Int)=some v:=by
 have hj:j<xs.length:=(bp.mp h).1
 have e:ixN xs.length (j:Int)=some j:=by
  unfold ixN
  rw[af (by omega),af (by omega)];simp
 unfold Ps;rw[e];exact h
def aAj(b:Expr):Prop:=∀o i,subscripted b false o i=operate [o,i] (getItem o i)
def IxR(X:Cx)(r:R2):Prop:=
 ∀(value slice:Expr) (aa:List (Addr×Obj)) (s:Shared) (σ:St) (H:Hp) (x y:V) (v u:Value) (Q:VK),aQ X aa σ H s->cB x v->cB y u->r x y H Q->
  subscripted slice false v u=operate [v,u] (getItem v u)->wpAny (model X.prog X.w) X.A (subscriptTail value slice v u) (EP X aa σ Q) X.xe s
def MtR(X:Cx)(id:String)(r:V->List V->Hp->VK->Prop):Prop:=
 ∀(aa:List (Addr×Obj)) (s:Shared) (σ:St) (H:Hp) (x:V) (xs:List V) (v:Value) (us:List Value) (Q:VK),aQ X aa σ H s->cB x v->bK xs us->r x xs H Q->
  wpAny (model X.prog X.w) X.A (call (.builtin id) (v::us)) (EP X aa σ Q) X.xe s
section
variable{a b:Expr}{tb:TE}
theorem bH{r:R2}(hr:IxR X r)(ha:PE X a ta)(hb:PE X b tb)(hs:aAj b):PE X (.Subscript a b pos) (vG r ta tb):=by
 intro aa s σ H Q I h
 exact Subscript_ (aCl ha hb I h λv u s2 x y H2 I2 rx ry q=>hr a b aa s2 σ H2 x y v u Q I2 rx ry q (hs _ _))
def aGg(K:Frag):R2:=λx y H Q=>∃p xs i v,x=.ref p/\y=.int i/\cP K H p xs/\Ps xs i=some v/\Q v H
def gD(K:Frag):R2:=λx y H Q=>∃p xs i v,x=.ref p/\y=.int i/\cG K H p xs/\Ps xs i=some v/\Q v H
theorem jM:IxR X (aGg X.K):=by
 intro value slice aa s σ H x y v u Q I rx ry h hs
 obtain⟨p,xs,i,z,rfl,rfl,hq,he,q⟩:=h
 cases rx
 obtain⟨t,rfl⟩:=ry
 obtain⟨its,r,pl,hz⟩:=I.list hq
 obtain⟨j,h1,h2,h3,h4,h5⟩:=Og he
 obtain⟨w,ew,r8⟩:=r.get h2
 have hl:=r.length
 have hn:=Ls
 have fin:EP X aa σ Q w s:=⟨z,H,I,r8,q⟩
 by_cases h0:0<=i
 ·have hj:i.toNat=j:=by
   rw[seqIndex_of h0 h5] at h1
   exact Option.some.inj h1
  exact item_listR pl.isList h0 (by omega) (by rw[hj];simpa using ew) fin hs
 ·have hj:(i+(its.toArray.size:Int)).toNat=j:=by
   rw[seqIndex_neg (by omega) h4] at h1
   rw[ca,<-hl]
   exact Option.some.inj h1
  exact subscriptTail_builtinR (x:=w) pl.isList.typeIs slot_list_getitem.lookup
   (wpAny_getItem_list_neg (Q:=λr s'=>r=w/\EP X aa σ Q r s') pl.isList (by omega) (by rw[ca]<;>omega) (by omega) (by rw[hj];simpa using ew) ⟨rfl,fin⟩) hs
theorem aW:IxR X (gD X.K):=by
 intro value slice aa s σ H x y v u Q I rx ry h hs
 obtain⟨p,xs,i,z,rfl,rfl,hq,he,q⟩:=h
 cases rx
 obtain⟨t,rfl⟩:=ry
 obtain⟨its,r,pl,hz⟩:=I.tuple hq
 obtain⟨j,h1,h2,h3,h4,h5⟩:=Og he
 obtain⟨w,ew,r8⟩:=r.get h2
 have hl:=r.length
 have hn:=Ls
 have fin:EP X aa σ Q w s:=⟨z,H,I,r8,q⟩
 exact subscriptTail_builtinR (x:=w) pl.typeIs slot_tuple_getitem.lookup
  (getItem_tuple (j:=j) (Q:=λr s'=>r=w/\EP X aa σ Q r s') pl (by omega) (by omega) (by rw[ca,<-hl];exact h1) (by simpa using ew) ⟨rfl,fin⟩) hs
def pR:V->Bool
 |.non=>true
 |.bl _=>true
 |.int _=>true
 |.str _=>true
 |_=>false
def eqV:V->V->Bool
 |.non,.non=>true
 |.bl a,.bl b=>a==b
 |.bl a,.int b=>(if a then 1 else 0)==b
 |.int a,.bl b=>a==(if b then 1 else 0)
 |.int a,.int b=>a==b
 |.str a,.str b=>a==b
 |_,_=>false
theorem aB4{x:V}(ry:cB y u)(rx:cB x v)(fy:pR y=true)(fx:pR x=true):SeqAt.EqAt A s u v (eqV y x):=by
 cases y with
 |non=>
  cases ry
  cases x with
  |non=>cases rx;exact SeqAt.EqAt.same _
  |bl b=>cases rx;exact SeqAt.EqAt.none_bool b
  |int b=>obtain⟨t,rfl⟩:=rx;exact SeqAt.EqAt.none_int b t
  |str b=>obtain⟨t,rfl⟩:=rx;exact SeqAt.EqAt.none_str b t
  |_=>exact absurd (show false=true from fx) b6
 |bl a=>
  cases ry
  cases x with
  |non=>cases rx;exact SeqAt.EqAt.bool_none a
  |bl b=>cases rx;exact SeqAt.EqAt.bool_bool a b
  |int b=>obtain⟨t,rfl⟩:=rx;exact SeqAt.EqAt.bool_int a b t
  |str b=>obtain⟨t,rfl⟩:=rx;exact SeqAt.EqAt.bool_str a b t
  |_=>exact absurd (show false=true from fx) b6
 |int a=>
  obtain⟨t',rfl⟩:=ry
  cases x with
  |non=>cases rx;exact SeqAt.EqAt.int_none a t'
  |bl b=>cases rx;exact SeqAt.EqAt.int_bool a t' b
  |int b=>obtain⟨t,rfl⟩:=rx;exact JI a t' b t
  |str b=>obtain⟨t,rfl⟩:=rx;exact SeqAt.EqAt.int_str a t' b t
  |_=>exact absurd (show false=true from fx) b6
 |str a=>
  obtain⟨t',rfl⟩:=ry
  cases x with
  |non=>cases rx;exact SeqAt.EqAt.str_none a t'
  |bl b=>cases rx;exact SeqAt.EqAt.str_bool a t' b
  |int b=>obtain⟨t,rfl⟩:=rx;exact SeqAt.EqAt.str_int a t' b t
  |str b=>obtain⟨t,rfl⟩:=rx;exact SeqAt.EqAt.str_str a t' b t
  |_=>exact absurd (show false=true from fx) b6
 |_=>exact absurd (show false=true from fy) b6
def Kb(x:V)(u:Value):Bool:=match u with
 |.none=>eqV .non x
 |.bool b=>eqV (.bl b) x
 |.int i _=>eqV (.int i) x
 |.str z _=>eqV (.str z) x
 |_=>false
theorem Te{x:V}(r:cB y u)(f:pR y=true):Kb x u=eqV y x:=by
 cases y with
 |non=>cases r;rfl
 |bl b=>cases r;rfl
 |int i=>obtain⟨t,rfl⟩:=r;rfl
 |str z=>obtain⟨t,rfl⟩:=r;rfl
 |_=>exact absurd (show false=true from f) b6
theorem sD{x:V}:∀{xs:List V}{us:List Value},bK xs us->xs.all pR=true->us.any (Kb x)=xs.any λy=>eqV y x
 |_,_,.nil,_=>rfl
 |y::xs,u::us,.cons r t,f=>by
  rw[ub,cn] at f
  rw[re,re,Te r f.1,sD t f.2]
theorem nS{x:V}(rx:cB x v)(fx:pR x=true):∀{xs:List V}{us:List Value},bK xs us->xs.all pR=true->∀u∈us,SeqAt.EqAt A s u v (Kb x u)
 |_,_,.nil,_=>λu hu=>by cases hu
 |y::xs,u::us,.cons r t,f=>λu' hu=>by
  rw[ub,cn] at f
  rcases ao.mp hu with rfl|hu
  ·rw[Te r f.1];exact aB4 r rx f.1 fx
  ·exact nS rx fx t f.2 u' hu
def Kr(x:V)(xs:List V):Bool:=xs.any λy=>eqV y x
def rIn(K:Frag)(neg:Bool):R2:=λx y H Q=>∃p xs,y=.ref p/\(cP K H p xs\/cG K H p xs)/\pR x=true/\xs.all pR=true/\Q (.bl (if neg then !Kr x xs else Kr x xs)) H
theorem Pd:uI X (compareOp .In) (rIn X.K false):=by
 intro aa s σ H x y v u Q I rx ry h
 obtain⟨p,xs,rfl,hq,fx,fs,q⟩:=h
 cases ry
 rcases hq with hq|hq
 ·obtain⟨its,r,pl,hz⟩:=I.list hq
  refine SeqAt.in_listAt (Kb x) pl.isList (λw hw=>nS rx fx r fs w (by simpa using hw)) ⟨.bl _,H,I,rfl,?_⟩
  rw[show its.toArray.any (Kb x)=its.any (Kb x) by simp,sD r fs]
  exact q
 ·obtain⟨its,r,pl,hz⟩:=I.tuple hq
  refine SeqAt.in_tupleAt (Kb x) pl (λw hw=>nS rx fx r fs w (by simpa using hw)) ⟨.bl _,H,I,rfl,?_⟩
  rw[show its.toArray.any (Kb x)=its.any (Kb x) by simp,sD r fs]
  exact q
theorem lH:uI X (compareOp .NotIn) (rIn X.K true):=by
 intro aa s σ H x y v u Q I rx ry h
 obtain⟨p,xs,rfl,hq,fx,fs,q⟩:=h
 cases ry
 rcases hq with hq|hq
 ·obtain⟨its,r,pl,hz⟩:=I.list hq
  refine SeqAt.notIn_listAt (Kb x) pl.isList (λw hw=>nS rx fx r fs w (by simpa using hw)) ⟨.bl _,H,I,rfl,?_⟩
  rw[show its.toArray.any (Kb x)=its.any (Kb x) by simp,sD r fs]
  exact q
 ·obtain⟨its,r,pl,hz⟩:=I.tuple hq
  refine SeqAt.notIn_tupleAt (Kb x) pl (λw hw=>nS rx fx r fs w (by simpa using hw)) ⟨.bl _,H,I,rfl,?_⟩
  rw[show its.toArray.any (Kb x)=its.any (Kb x) by simp,sD r fs]
  exact q
theorem bW:pL X (.builtin "len") (λxs H Q=>∃p ys,xs=[.ref p]/\(cP X.K H p ys\/cG X.K H p ys)/\Q (.int ys.length) H):=by
 intro aa s σ H xs us Q I r h
 obtain⟨p,ys,rfl,hq,q⟩:=h
 obtain⟨u,rfl,rx⟩:=Bw r
 cases rx
 have hn:=Ls
 rcases hq with hq|hq
 ·obtain⟨its,r',pl,hz⟩:=I.list hq
  have bi:=r'.length
  exact Calls.call_len_list pl.isList (by simp only[ca]<;>omega) ⟨.int ys.length,H,I.tok _,⟨s.toks+1,by rw[ca,bi]⟩,q⟩
 ·obtain⟨its,r',pl,hz⟩:=I.tuple hq
  have bi:=r'.length
  exact len_tuple pl (by simp only[ca]<;>omega) ⟨.int ys.length,H,I.tok _,⟨s.toks+1,by rw[ca,bi]⟩,q⟩
theorem pP:pL X (.type "tuple") (λxs H Q=>∃p ys,xs=[.ref p]/\((cP X.K H p ys/\∀l,H l=none->Q (.ref l) (upd H l (.tup ys)))\/(cG X.K H p ys/\Q (.ref p) H))):=by
 intro aa s σ H xs us Q I r h
 obtain⟨p,ys,rfl,h⟩:=h
 obtain⟨u,rfl,rx⟩:=Bw r
 cases rx
 rcases h with ⟨hq,q⟩|⟨hq,q⟩
 ·obtain⟨its,r',pl,hz⟩:=I.list hq
  have bi:=r'.length
  refine call_tuple_list pl.isList (λh' kp=>?_) (by simp only[ca]<;>omega)
  have I1:aQ X aa σ H {s with heap:=h'}:=I.kept (t':=s.toks) kp
  have I2:aQ X aa σ (upd H h'.objs.size (.tup ys)) {s with heap:=h'.push {cls:=.type "tuple",data:=.seq its.toArray}}:=
   I1.laid (t':=s.toks) (λb o e=>bh _ e) (ap _) (show cF X.prog X.w _ _ _ (.tup ys) from ⟨hz,its,r',IsTup.new _ _⟩)
  exact⟨.ref h'.objs.size,_,I2,rfl,q _ (I1.hok.fresh (ap _))⟩
 ·obtain⟨its,r',pl,hz⟩:=I.tuple hq
  exact call_tuple_same pl ⟨.ref p,H,I,rfl,q⟩
def tyV(K:Frag)(T:String)(x:V)(H:Hp):Prop:=match x with
 |.str _=>T="str"
 |.int _=>T="int"
 |.ref p=>(T="list"/\∃xs,cP K H p xs)\/(T="tuple"/\∃o,K.lookup p=some o/\o.cls=.type "tuple"/\o.dict=none)\/
   (T="dict"/\((∃aJ,H p=some (.dK aJ))\/∃aJ,H p=some (.dT aJ)))\/(T="set"/\∃S n,H p=some (.set S n))
 |_=>False
theorem Vm{T:String}{x:V}(I:aQ X aa σ H s)(r:cB x v)(ty:tyV X.K T x H):
  s.TypeIs v T/\∀a,v=.ref a->∃ob,s.heap.get? a=some ob/\ob.dict=none:=by
 cases x with
 |str z=>
  obtain⟨t,rfl⟩:=r
  cases (show T="str" from ty)
  exact⟨typeIs_str s z t,λ_ e=>nomatch e⟩
 |int i=>
  obtain⟨t,rfl⟩:=r
  cases (show T="int" from ty)
  exact⟨typeIs_int s i t,λ_ e=>nomatch e⟩
 |ref p=>
  cases r
  rcases ty with ⟨rfl,xs,hq⟩|⟨rfl,o,hk,hc,hd⟩|⟨rfl,hk⟩|⟨rfl,S,n,hk⟩
  ·obtain⟨its,_,pl,_⟩:=I.list hq
   refine⟨pl.isList.typeIs,λa e=>?_⟩
   cases e
   obtain⟨o,n,e,c,hd,_⟩:=pl
   exact⟨o,e,hd⟩
  ·refine⟨⟨o,I.kIn p o hk,hc⟩,λa e=>?_⟩
   cases e
   exact⟨o,I.kIn _ o hk,hd⟩
  ·have z:∃o,s.heap.get? p=some o/\o.ExactDict:=by
    rcases hk with ⟨aJ,hk⟩|⟨aJ,hk⟩
    ·obtain⟨_,_,_,_,o,_,_,e,ex,_⟩:=I.hok p _ hk
     exact⟨o,e,ex⟩
    ·obtain⟨_,_,_,_,o,_,_,e,ex,_⟩:=I.hok p _ hk
     exact⟨o,e,ex⟩
   obtain⟨o,e,ex⟩:=z
   refine⟨⟨o,e,ex.1⟩,λa e2=>?_⟩
   cases e2
   exact⟨o,e,ex.2.1⟩
  ·obtain⟨o,_,_,_,e,ex,_⟩:=I.hok p _ hk
   refine⟨⟨o,e,ex.1⟩,λa e2=>?_⟩
   cases e2
   exact⟨o,e,ex.2.1⟩
 |_=>exact False.elim ty
def aGh(K:Frag)(T:String)(r:V->List V->Hp->VK->Prop)(to:TE):TE:=fun σ H Q=>to σ H λx H1=>tyV K T x H1/\r x [] H1 Q
def tBM(K:Frag)(T:String)(r:V->List V->Hp->VK->Prop)(to:TE)(t:TA):TE:=fun σ H Q=>to σ H λx H1=>tyV K T x H1/\t σ H1 λxs H2=>r x xs H2 Q
variable{o:Expr}{es:List Expr}{to:TE}{t:TA}{T id:String}{r:V->List V->Hp->VK->Prop}
theorem aDk(pa:PlainAttrs T)(slot:Slot T name id)(jz:typeOf (.builtin id)=pure (.type "method_descriptor"))(hm:MtR X id r)(ho:PE X o to)
  (r9:attributeBase o name X.env (eval o X.env)=eval o X.env:=by rfl) (wp:(gr.endLine==f6.line)=true:=by rfl):PE X (.Call (.Attribute o name gr) [] [] f6) (aGh X.K T r to):=by
 intro aa s σ H Q I h
 refine wpAny_Call_method0_late r9 wp (cV (ho aa s σ H _ I h) λv s1 ⟨x,H1,I1,r1,ty,q1⟩=>?_)
 obtain⟨h1,h2⟩:=Vm I1 r1 ty
 exact⟨T,id,pa,slot,jz,h1,h2,OC rfl (PySem.evalArgs_none (hm aa s1 σ H1 x [] v [] Q I1 r1 .nil q1))⟩
theorem uY(pa:PlainAttrs T)(slot:Slot T name id)(jz:typeOf (.builtin id)=pure (.type "method_descriptor"))(hm:MtR X id r)(ho:PE X o to)(ha:PA X (e::es) t)
  (r9:attributeBase o name X.env (eval o X.env)=eval o X.env:=by rfl)
  (QC:((backTo f6 (starEach (e::es) X.env)).all (λx=> !x.1) && (backToKw f6 (keywordEach [] X.env)).all (λx=>x.1.isSome)
   && decide ((e::es).length+([]:List Keyword).length+(if ([]:List Keyword).isEmpty then 0 else 1)<30))=true:=by rfl)
  (wp:(gr.endLine==f6.line)=true:=by rfl) (hs:starEach (e::es) X.env=(false,eval e X.env)::starEach es X.env:=by rfl) (QD:(backTo f6 (starEach es X.env)).any (·.1)=false:=by rfl):
  PE X (.Call (.Attribute o name gr) (e::es) [] f6) (tBM X.K T r to t):=by
 intro aa s σ H Q I h
 refine wpAny_Call_method_late r9 QC wp rfl (cV (ho aa s σ H _ I h) λv s1 ⟨x,H1,I1,r1,ty,q1⟩=>?_)
 obtain⟨h1,h2⟩:=Vm I1 r1 ty
 refine⟨T,id,pa,slot,jz,h1,h2,?_⟩
 have hA:=ha f6 aa s1 σ H1 _ I1 q1
 rw[hs] at hA ⊢
 refine OC (by show (false||(backTo f6 (starEach es X.env)).any (·.1))=false;rw[QD]<;>rfl) (Calls.evalArgs_plain ?_)
 exact cV hA λus s2 ⟨vs,H2,I2,r2,q2⟩=>hm aa s2 σ H2 x vs v us Q I2 r1 r2 q2
end
def MtM(X:Cx)(id:String)(r:V->List V->Hp->VK->Prop):Prop:=
 ∀(aa:List (Addr×Obj)) (s:Shared) (σ:St) (H:Hp) (x:V) (xs:List V) (v:Value) (us:List Value) (Q:VK),aQ X aa σ H s->cB x v->bK xs us->r x xs H Q->
  wpAny (model X.prog X.w) X.A (call (.builtin id) (v::us)) (EP X aa σ Q) X.xe s
theorem bK.one:∀{x:V}{us:List Value},bK [x] us->∃u,us=[u]/\cB x u
 |_,_,.cons r .nil=>⟨_,rfl,r⟩
theorem bK.zero:∀{us:List Value},bK [] us->us=[]
 |_,.nil=>rfl
theorem bK.dropLast(h:bK xs us):bK xs.dropLast us.dropLast:=by
 induction h with
 |nil=>exact .nil
 |cons r t ih=>
  cases t with
  |nil=>exact .nil
  |cons q t'=>exact .cons r ih
theorem Lu(l:List α):l.eraseIdx (l.length - 1)=l.dropLast:=by
 induction l with
 |nil=>rfl
 |cons a r ih=>
  cases r with
  |nil=>rfl
  |cons b r=>
   have e:(a::b::r).length - 1=((b::r).length - 1)+1:=by
    have h1:(a::b::r).length=r.length+2:=rfl
    have h2:(b::r).length=r.length+1:=rfl
    omega
   rw[e,List.eraseIdx_cons_succ,ih]
   all_goals rfl
section
variable{l:Addr}{ys zs:List V}
theorem aQ.lset{its':List Value}{n:Nat}{f:Array Value->Array Value}(I:aQ X aa σ H s)(hH:H l=some (.lst xs))
  (e:s.heap.get? l=some {cls:=.type "list",data:=.seq its.toArray n}) (hf:f its.toArray=its'.toArray) (hv:bK ys its') (hz:ys.length<=sizeLine):
  aQ X aa σ (upd H l (.lst ys)) {s with heap:=s.heap.update l (Obj.mapSeq f),toks:=t'}:=by
 have q:=PySem.IsL.update e f
 rw[hf] at q
 refine I.write (x:=l) (e:=l) (by rw[hH];exact trivial) (.inl rfl) (λb' u hb hu=>(vt s.heap (Obj.mapSeq f) (au hb)).trans hu) ⟨_,q⟩ ?_
 exact⟨hz,its',_,hv,q⟩
theorem aQ.lstM(I:aQ X aa σ H s)(hH:H l=some (.lst xs)):xs.length<=sizeLine/\∃(its:List Value)(n:Nat),bK xs its/\xs.length=its.length/\s.heap.get? l=some {cls:=.type "list",data:=.seq its.toArray n}:=by
 obtain⟨z,its,n,r,e⟩:=I.hok l _ hH
 exact⟨z,its,n,r,r.length,e⟩
end
def Nw:V->List V->Hp->VK->Prop:=λx vs H Q=>∃l xs y,x=.ref l/\vs=[y]/\H l=some (.lst xs)/\xs.length<sizeLine/\Q .non (upd H l (.lst (xs++[y])))
theorem gN:MtM X "list.append" Nw:=by
 intro aa s σ H x vs v us Q I rx rv h
 obtain⟨l,xs,y,rfl,rfl,hH,hz,q⟩:=h
 cases rx
 obtain⟨u,rfl,ru⟩:=rv.one
 obtain⟨z,its,n,r,hl,e⟩:=I.lstM hH
 refine call_meets F.slot_list_append ⟨_,e,rfl⟩ F.entry_list_append (F.args_list_append_2 _ _) (PySem.list_append l its.toArray n u (by rw[ca];omega)) ⟨e,?_⟩
 refine⟨.non,_,I.lset (its':=its++[u]) hH e (by simp) (r.append (.cons ru .nil)) ?_,rfl,q⟩
 rw[c8,AE]
 omega
def aGf:V->List V->Hp->VK->Prop:=λx vs H Q=>∃l xs y,x=.ref l/\vs=[]/\H l=some (.lst xs)/\xs[xs.length - 1]?=some y/\Q y (upd H l (.lst xs.dropLast))
theorem aDr:MtM X "list.pop" aGf:=by
 intro aa s σ H x vs v us Q I rx rv h
 obtain⟨l,xs,y,rfl,rfl,hH,hy,q⟩:=h
 cases rx
 have QE:=rv.zero
 subst QE
 obtain⟨z,its,n,r,hl,e⟩:=I.lstM hH
 obtain⟨u,hu,ru⟩:=r.get hy
 have F5:its.toArray[its.toArray.size - 1]?=some u:=by
  show its.toArray[its.length - 1]?=some u
  rw[<-oh,<-hl]
  exact hu
 refine call_meets F.slot_list_pop ⟨_,e,rfl⟩ F.entry_list_pop (F.args_list_pop_1 _) (MeetsSeq.list_pop_last l its.toArray n u F5 (by rw[ca];omega)) ⟨e,?_⟩
 refine⟨y,_,I.lset (its':=its.dropLast) hH e ?_ r.dropLast ?_,ru,q⟩
 ·show its.toArray.eraseIdxIfInBounds (its.toArray.size - 1)=its.dropLast.toArray
  rw[ca,List.eraseIdxIfInBounds_toArray,Lu]
 ·rw[OD]
  omega
theorem bK.ints:∀{ns:List Int}{us:List Value},bK (ns.map V.int) us->IntsAre us ns
 |[],us,h=>by
  rw[vq] at h
  cases h
  exact IntsAre.nil
 |n::ns,us,h=>by
  rw[bn] at h
  cases h with
  |cons r t=>
   obtain⟨k,rfl⟩:=r
   exact IntsAre.cons n k (bK.ints t)
theorem rQ:∀{us:List Value}{ns:List Int},IntsAre us ns->bK (ns.map V.int) us
 |_,_,.nil=>by rw[vq];exact Paired.nil
 |_,_,.cons n t h=>by rw[bn];exact Paired.cons (show cB (V.int n) (Value.int n t) from ⟨t,rfl⟩) (rQ h)
theorem bK.bls:∀{bs:List Bool}{us:List Value},bK (bs.map V.bl) us->us=bs.map Value.bool
 |[],us,h=>by
  rw[vq] at h
  cases h
  rfl
 |b::bs,us,h=>by
  rw[bn] at h
  cases h with
  |cons r t=>
   cases r
   rw[bK.bls t,bn]
theorem bK.ref1(r:bK [V.ref a] us):us=[Value.ref a]:=by
 cases r with
 |cons r t=>
  cases t
  cases r
  rfl
section
variable{l:Addr}
theorem Zj(hh:A.handled=none)(hl:s.heap.IsList l its.toArray)(hi:IntsAre its ns)(aw:0<ns.length)
  (h:∀h' tk M t',(∀b o,s.heap.get? b=some o->h'.get? b=some o)->M∈ns->(∀a,a∈ns->M<=a)->Q (.int M t') {s with heap:=h',toks:=tk}):wpAny (model prog w) A (call (.builtin "min") [.ref l]) Q E s:=by
 obtain⟨xs,e⟩:=hi.allInts.items
 have hn:numsOf (intItems xs).toList=ns:=by rw[<-e];exact hi.numsOf
 rw[nums_intItems] at hn
 subst hn
 rw[e] at hl
 have hsz:0<xs.size:=by simpa using aw
 refine PySem.min_intList hh hl hsz λv h' tk hv hk=>?_
 obtain⟨t,rfl⟩:=intItems_at hv
 obtain⟨h1,h2⟩:=argBest_lt (numAt xs) (xs.size - 1)
 refine h h' tk _ t hk ?_ λa ha=>?_
 ·rw[numAt_eq];exact PySem.getD_mem (by rw[ai,d5];omega)
 ·obtain⟨j,hj,rfl⟩:=mem_getD ha
  rw[ai,d5] at hj
  rw[<-numAt_eq];exact h2 j (by omega)
end
def aFz(K:Frag):List V->Hp->VK->Prop:=λvs H Q=>∃(a:Addr)(ns:List Int),vs=[V.ref a]/\cP K H a (ns.map V.int)/\0<ns.length/\∀m,m∈ns->(∀y,y∈ns->m<=y)->Q (.int m) H
theorem yC(hc:X.calm=true):pL X (.builtin "min") (aFz X.K):=by
 intro aa s σ H vs us Q I r h
 obtain⟨a,ns,rfl,hs,aw,q⟩:=h
 obtain⟨its,rv,hl,_⟩:=I.list hs
 rw[bK.ref1 r]
 exact Zj (I.ok.hd hc) hl.isList rv.ints aw λh' tk m t' hk h1 h2=>⟨.int _,H,I.kept hk,⟨_,rfl⟩,q m h1 h2⟩
theorem Gn{l:Addr}(hl:s.heap.IsList l items)
  (h:∀fq:Shared,fq={s with heap:=s.heap.push {cls:=.type "list_iterator",data:=.fields #[.ref l,.int 0 0]}}->
   (fq.heap.IsListIter s.heap.objs.size l 0/\fq.heap.IsList l items)->l≠s.heap.objs.size->Q (.ref s.heap.objs.size) fq):wpAny (model prog w) A (pyIter (.ref l)) Q E s:=by
 have am:l<s.heap.objs.size:=by obtain⟨_,e,_⟩:=hl;exact ba e
 exact JF hl (h _ rfl ⟨⟨_,cb _ rfl,rfl,rfl⟩,hl.push _⟩ (b8 am))
theorem uV{bs:List Bool}(e:its=bs.map Value.bool):
  TruthOf prog w A (λi v=>its.toArray[i]?=some v) (λi=>bs.getD i false):=λi v s Q E hv hq=>by
 have C8:its[i]?=some v:=by simpa using hv
 rw[e,bg] at C8
 obtain⟨b,hb,rfl⟩:=o9.mp C8
 have hg:bs.getD i false=b:=by rw[cx,hb]<;>rfl
 have ir:Q (bs.getD i false) s:=hq
 rw[hg] at ir
 exact wpAny_truthy_bool ir
theorem Bd:∀bs:List Bool,(List.range bs.length).any (λi=>bs.getD i false)=bs.any id
 |[]=>rfl
 |b::bs=>by
  rw[bw,OE,re,B',re,<-Bd bs]
  all_goals rfl
theorem Ag:∀bs:List Bool,(List.range bs.length).all (λi=>bs.getD i false)=bs.all id
 |[]=>rfl
 |b::bs=>by
  rw[bw,OE,ub,ET,ub,<-Ag bs]
  all_goals rfl
def aG0(K:Frag):List V->Hp->VK->Prop:=λvs H Q=>∃(a:Addr)(bs:List Bool),vs=[V.ref a]/\cP K H a (bs.map V.bl)/\Q (.bl (bs.any id)) H
def aGi(K:Frag):List V->Hp->VK->Prop:=λvs H Q=>∃(a:Addr)(bs:List Bool),vs=[V.ref a]/\cP K H a (bs.map V.bl)/\Q (.bl (bs.all id)) H
theorem aDb(hc:X.calm=true):pL X (.builtin "any") (aG0 X.K):=by
 intro aa s σ H vs us Q I r h
 obtain⟨a,bs,rfl,hs,q⟩:=h
 obtain⟨its,rv,hl,_⟩:=I.list hs
 rw[bK.ref1 r]
 have hb:=rv.bls
 refine call_any_walk (Gn hl.isList λfq e2 st aw=>?_)
 subst e2
 refine⟨_,_,_,_,_,_,_,rfl,Walks.list (A:=X.A.in1) (I.ok.hd hc) _ a aw its.toArray,st,uV hb,λh' tk hk=>?_⟩
 refine⟨.bl _,H,I.kept λb o eo=>hk b o (λwq=>?_) (bh _ eo),?_,q⟩
 ·rcases ao.mp wq with e1|wq
  ·exact absurd (e1▸ba eo) (j6 _)
  ·cases wq
 ·show Value.bool _=Value.bool _
  rw[<-Bd,hb,ca,ai]
theorem aBu(hc:X.calm=true):pL X (.builtin "all") (aGi X.K):=by
 intro aa s σ H vs us Q I r h
 obtain⟨a,bs,rfl,hs,q⟩:=h
 obtain⟨its,rv,hl,_⟩:=I.list hs
 rw[bK.ref1 r]
 have hb:=rv.bls
 refine call_all_walk (Gn hl.isList λfq e2 st aw=>?_)
 subst e2
 refine⟨_,_,_,_,_,_,_,rfl,Walks.list (A:=X.A.in1) (I.ok.hd hc) _ a aw its.toArray,st,uV hb,λh' tk hk=>?_⟩
 refine⟨.bl _,H,I.kept λb o eo=>hk b o (λwq=>?_) (bh _ eo),?_,q⟩
 ·rcases ao.mp wq with e1|wq
  ·exact absurd (e1▸ba eo) (j6 _)
  ·cases wq
 ·show Value.bool _=Value.bool _
  rw[<-Ag,hb,ca,ai]
mutual
inductive Dp(K:Frag)(H:Hp):V->PyData->Prop
 |non:Dp K H .non .none
 |bl (b:Bool):Dp K H (.bl b) (.bool b)
 |int (i:Int):Dp K H (.int i) (.int i)
 |str (x:Str):Dp K H (.str x) (.str x)
 |lst {a:Addr} {xs:List V} {ds:List PyData}:cP K H a xs->Cl K H xs ds->Dp K H (.ref a) (.list ds)
 |tup {a:Addr} {xs:List V} {ds:List PyData}:cG K H a xs->Cl K H xs ds->Dp K H (.ref a) (.tuple ds)
inductive Cl(K:Frag)(H:Hp):List V->List PyData->Prop
 |nil:Cl K H [] []
 |cons {v:V} {vs:List V} {d:PyData} {ds:List PyData}:Dp K H v d->Cl K H vs ds->Cl K H (v::vs) (d::ds)
end
mutual
theorem Dp.reads(I:aQ X aa σ H s):∀(d:PyData)(v:V)(u:Value),Dp X.K H v d->cB v u->∃as,Reads s.heap u d as
 |.none,_,_,h,r=>by
  cases h
  cases r
  exact⟨_,Reads.none⟩
 |.bool b,_,_,h,r=>by
  cases h
  cases r
  exact⟨_,Reads.bool b⟩
 |.int i,_,_,h,r=>by
  cases h
  obtain⟨t,rfl⟩:=r
  exact⟨_,Reads.int i t⟩
 |.str x,_,_,h,r=>by
  cases h
  obtain⟨t,rfl⟩:=r
  exact⟨_,Reads.str x t⟩
 |.list ds,_,_,h,r=>by
  cases h with
  |lst hs ha=>
   cases r
   obtain⟨its,rv,⟨o,n,ho,hc,_,hd⟩,_⟩:=I.list hs
   obtain⟨as,hr⟩:=Dp.readsAll I ds _ its ha rv
   exact⟨_,Reads.list ho hc hd hr⟩
 |.tuple ds,_,_,h,r=>by
  cases h with
  |tup hs ha=>
   cases r
   obtain⟨its,rv,⟨o,ho,hc,n,hd⟩,_⟩:=I.tuple hs
   obtain⟨as,hr⟩:=Dp.readsAll I ds _ its ha rv
   exact⟨_,Reads.tuple ho hc hd hr⟩
 |.dict _,_,_,h,_=>by cases h
theorem Dp.readsAll(I:aQ X aa σ H s):∀(ds:List PyData)(vs:List V)(us:List Value),Cl X.K H vs ds->bK vs us->∃as,ReadsAll s.heap us ds as
 |[],_,_,h,r=>by
  cases h
  cases r
  exact⟨_,ReadsAll.nil⟩
 |d::ds,_,_,h,r=>by
  cases h with
  |cons h1 h2=>
   cases r with
   |cons r1 r2=>
    obtain⟨as,q1⟩:=Dp.reads I d _ _ h1 r1
    obtain⟨bs,q2⟩:=Dp.readsAll I ds _ _ h2 r2
    exact⟨_,ReadsAll.cons q1 q2⟩
end
abbrev Vs(h:Heap)(c:Addr)(v:Option Value):Prop:=h.IsCell c v
def aF2(scope sc:Scope):Scope:=
 {scope with names:=scope.names.map λ(n,k)=>if (k==.free && sc.kind==.function && sc.names.lookup n==some .cell) then (n,.cell) else (n,k)}
def dB(cells:List (Str×Addr)):List (Str×NameKind)->List (Str×Addr)->List (Str×Addr)
 |[],acc=>acc
 |(n,k)::r,acc=>if k==.free then dB cells r ((n,(cells.lookup n).getD 0)::acc) else dB cells r acc
theorem rL(env:Env)(f:Str×NameKind->List (Str×Addr)->Sem (ForInStep (List (Str×Addr))))
  (hf:∀n k c,f (n,k) c=if k==.free then (do let a <-cellOf env n;pure (.yield ((n,a)::c))) else pure (.yield c)):
  ∀(names:List (Str×NameKind)) (acc:List (Str×Addr)),(∀y∈names,y.2=.free->∃c,env.cells.lookup y.1=some c)->forIn names acc f=pure (dB env.cells names acc)
 |[],acc,_=>by rw[JN];rfl
 |(n,k)::r,acc,h=>by
  rw[OF,hf]
  have ih:=λacc=>rL env f hf r acc λy hy=>h y (az _ hy)
  unfold dB
  by_cases hk:(k==NameKind.free)=true
  ·rw[af hk,af hk]
   obtain⟨c,hc⟩:=h (n,k) bf (by simpa using hk)
   have e:cellOf env n=pure c:=by unfold cellOf;rw[hc]
   rw[e]
   have e2:(env.cells.lookup n).getD 0=c:=by rw[hc];rfl
   rw[e2]
   exact ih _
  ·rw[ae hk,ae hk]
   exact ih _
theorem Lh(h:∀y∈scope.names,y.2=.free->∃c,env.cells.lookup y.1=some c):closureFor scope env=pure (dB env.cells scope.names []):=by
 simp only[closureFor]
 rw[rL env _ (λn k c=>rfl) scope.names [] h]
 rfl
theorem pV:∀{l:List (Str×α)} {n:Str} {c:α},(n,c)∈l->∃c',l.lookup n=some c'
 |(k,v)::r,n,c,h=>by
  rw[vw]
  cases hb:n==k with
  |true=>exact⟨_,rfl⟩
  |false=>
   rcases ao.mp h with e|h
   ·cases e;simp at hb
   ·exact pV h
theorem jS:∀{names:List (Str×NameKind)} {acc:List (Str×Addr)} {n:Str} {c:Addr},(n,c)∈dB cells names acc->(n,c)∈acc\/((n,.free)∈names/\c=(cells.lookup n).getD 0)
 |[],_,_,_,h=>.inl h
 |(m,k)::r,acc,n,c,h=>by
  unfold dB at h
  split at h
  ·rename_i hk
   have hk:k=.free:=by simpa using hk
   rcases jS h with h|⟨h1,h2⟩
   ·rcases ao.mp h with e|h
    ·cases e;exact .inr ⟨hk▸bf,rfl⟩
    ·exact .inl h
   ·exact .inr ⟨az _ h1,h2⟩
  ·rcases jS h with h|⟨h1,h2⟩
   ·exact .inl h
   ·exact .inr ⟨az _ h1,h2⟩
theorem nJ:∀{names:List (Str×NameKind)} {acc:List (Str×Addr)} {p:Str×Addr},p∈acc->p∈dB cells names acc
 |[],_,_,h=>h
 |(m,k)::r,acc,p,h=>by
  unfold dB
  split
  ·exact nJ (az _ h)
  ·exact nJ h
theorem mW:∀{names:List (Str×NameKind)} {acc:List (Str×Addr)} {n:Str},(n,.free)∈names->(n,(cells.lookup n).getD 0)∈dB cells names acc
 |(m,k)::r,acc,n,h=>by
  unfold dB
  rcases ao.mp h with e|h
  ·cases e
   exact nJ bf
  ·split
   ·exact mW h
   ·exact mW h
theorem kF:∀{names:List (Str×NameKind)} {h:Heap} {acc:List (Str×Addr)} {x:Str} {c:Addr},(x,c)∈cellsFrom h.objs.size names acc->
  (x,c)∈acc\/((x,.cell)∈names/\h.objs.size<=c/\Vs (pushCells h names) c none)
 |[],_,_,_,_,h=>.inl h
 |(n,k)::r,h,acc,x,c,hm=>by
  unfold cellsFrom at hm
  unfold pushCells
  split at hm
  ·rename_i hk
   rw[af hk]
   have hk:k=.cell:=by simpa using hk
   rw[<-gn h {cls:=.type "cell",data:=.cell none}] at hm
   rcases kF hm with hm|⟨h1,h2,h3⟩
   ·rcases ao.mp hm with e|hm
    ·cases e
     exact .inr ⟨hk▸bf,ap _,_,EU r _ _ _ (cb _ rfl),rfl⟩
    ·exact .inl hm
   ·rw[gn] at h2
    exact .inr ⟨az _ h1,EV h2,h3⟩
  ·rename_i hk
   rw[ae hk]
   rcases kF hm with hm|⟨h1,h2,h3⟩
   ·exact .inl hm
   ·exact .inr ⟨az _ h1,h2,h3⟩
theorem oO:∀{names:List (Str×NameKind)} {n:Nat} {acc:List (Str×Addr)} {p:Str×Addr},p∈acc->p∈cellsFrom n names acc
 |[],_,_,_,h=>h
 |(m,k)::r,n,acc,p,h=>by
  unfold cellsFrom
  split
  ·exact oO (az _ h)
  ·exact oO h
theorem uA:∀{names:List (Str×NameKind)} {n:Nat} {acc:List (Str×Addr)} {x:Str},(x,.cell)∈names->∃c,(x,c)∈cellsFrom n names acc
 |(m,k)::r,n,acc,x,h=>by
  unfold cellsFrom
  rcases ao.mp h with e|h
  ·cases e
   exact⟨n,oO bf⟩
  ·split
   ·exact uA h
   ·exact uA h
theorem tN:∀{names:List (Str×NameKind)} {h:Heap} {acc:List (Str×Addr)} {x y:Str} {c:Addr},(∀p∈acc,p.2<h.objs.size)->(∀x y c,(x,c)∈acc->(y,c)∈acc->x=y)->
  (x,c)∈cellsFrom h.objs.size names acc->(y,c)∈cellsFrom h.objs.size names acc->x=y
 |[],_,_,_,_,_,_,hi,h1,h2=>hi _ _ _ h1 h2
 |(n,k)::r,h,acc,x,y,c,hl,hi,h1,h2=>by
  unfold cellsFrom at h1 h2
  split at h1
  ·rename_i hk
   rw[af hk] at h2
   rw[<-gn h {cls:=.type "cell",data:=.cell none}] at h1 h2
   refine tN (h:=h.push _) (λp hp=>?_) (λx y c a b=>?_) h1 h2
   ·rw[gn]
    rcases ao.mp hp with rfl|hp
    ·exact lu _
    ·exact v9 (hl p hp)
   ·rcases ao.mp a with e|a<;>rcases ao.mp b with e'|b
    ·cases e;cases e';rfl
    ·cases e;exact absurd (hl _ b) (j6 _)
    ·cases e';exact absurd (hl _ a) (j6 _)
    ·exact hi _ _ _ a b
  ·rename_i hk
   rw[ae hk] at h2
   exact tN hl hi h1 h2
theorem Gm{globals:Addr}{closure:List (Str×Addr)}{func:Option Addr}{code:Value}{around:Env}{builtins:Addr}{Q:Env->Shared->Prop}
  (h:Q (newEnv scope s.heap.objs.size globals (cellsFrom (s.heap.objs.size+1) scope.names closure) aq func code (some around) builtins)
   {s with heap:=pushCells (s.heap.push {cls:=.type "dict",data:=.dict #[]}) scope.names}):
  wpAny M A (newFunctionEnv scope globals closure [] aq func code (some around) builtins) Q E s:=by
 simp only[newFunctionEnv,OG,vp]
 refine ac (wpAny_alloc ?_)
 refine ac (wpAny_layCells _ (λn k c=>rfl) scope.names closure _ _ ?_)
 rw[show ({s with heap:=s.heap.push {cls:=.type "dict",data:=.dict #[]}}:Shared).heap.objs.size=s.heap.objs.size+1 from gn ..]
 rw[JN]
 exact ac (ag (ag h))
theorem nZ{sc:Scope}:∀{names:List (Str×NameKind)} {x:Str} {k:NameKind},
  (names.map λ(n,k)=>if (k==NameKind.free && sc.kind==.function && sc.names.lookup n==some .cell) then (n,NameKind.cell) else (n,k)).lookup x=some k->
  ∃k',names.lookup x=some k'/\(k=k'\/(k'=.free/\k=.cell))
 |[],_,_,h=>by simp at h
 |(n,k₀)::r,x,k,h=>by
  have ih:= @nZ sc r x k
  have h':List.lookup x ((if (k₀==NameKind.free && sc.kind==.function && sc.names.lookup n==some .cell)=true then (n,NameKind.cell) else (n,k₀))::(r.map _))=some k:=h
  cases hx:x==n with
  |true=>
   simp only[vw,hx]
   by_cases hc:(k₀==NameKind.free && sc.kind==.function && sc.names.lookup n==some .cell)=true
   ·rw[af hc] at h'
    simp only[vw,hx] at h'
    cases h'
    simp only[cn,cp] at hc
    exact⟨k₀,rfl,.inr ⟨hc.1.1,rfl⟩⟩
   ·rw[ae hc] at h'
    simp only[vw,hx] at h'
    cases h'
    exact⟨_,rfl,.inl rfl⟩
  |false=>
   simp only[vw,hx]
   by_cases hc:(k₀==NameKind.free && sc.kind==.function && sc.names.lookup n==some .cell)=true
   ·rw[af hc] at h'
    simp only[vw,hx] at h'
    exact ih h'
   ·rw[ae hc] at h'
    simp only[vw,hx] at h'
    exact ih h'
structure Ib(N:List Str)(sc scope:Scope)(own:List (Str×Nat)):Prop where
 kind:scope.kind=.function
 uniq:∀y∈scope.names,scope.names.lookup y.1=some y.2
 ix:∀p∈own,N[p.2]?=some p.1
 free:∀y∈scope.names,y.2=.free->sc.names.lookup y.1=some .cell\/sc.names.lookup y.1=some .free
 own:∀y∈scope.names,y.2=.local\/y.2=.cell->y.1∈own.map (·.1)\/y.1∉N
def gF(σ:St):List Nat->St
 |[]=>σ
 |v::vs=>(gF σ vs).set v none
theorem mU(σ:St):∀vs:List Nat,(gF σ vs).length=σ.length
 |[]=>rfl
 |v::vs=>by unfold gF;rw[List.length_set,mU σ vs]
theorem tD{x:V}:∀{vs:List Nat},(gF σ vs)[i]?=some (some x)->σ[i]?=some (some x)/\i∉vs
 |[],h=>⟨h,by simp⟩
 |v::vs,h=>by
  unfold gF at h
  by_cases hi:v=i
  ·subst hi
   by_cases hv:v<(gF σ vs).length
   ·rw[ER hv] at h;cases h
   ·rw[jv (by simpa using hv)] at h;cases h
  ·rw[JD hi] at h
   obtain⟨h1,h2⟩:=tD h
   exact⟨h1,by simp only[ao,CA];exact⟨λe=>hi e.symm,h2⟩⟩
abbrev Cx.blk(X:Cx)(s:Shared)(H:Hp)(scope:Scope)(dq:Env)(fp:List Addr):Cx:={X with s_0:=s,H_0:=H,env:=dq,outer:=X.stack,ex:=fp,fn:=λx=>scope.names.lookup x==some .cell,pn:=[],xe:=λ_ _=>False}
theorem Hl(I:aQ X aa σ H s)(ok:Ib X.N X.env.scope scope own)(hN:X.N.Nodup)(ur:∀b∈fp,iV X aa H b/\b<s.heap.objs.size):
  aQ (X.blk s H scope (compEnvC scope (cellsFrom (s.heap.objs.size+1) scope.names (dB X.env.cells scope.names [])) s.heap.objs.size X.env) fp) [] (gF σ (own.map (·.2))) H {s with heap:=pushCells (s.heap.push {cls:=.type "dict",data:=.dict #[]}) scope.names}:=by
 have yy:∀y∈scope.names,y.2=.free->∃c,X.env.cells.lookup y.1=some c:=λy hy e=>by
  rcases ok.free y hy e with k|k
  ·exact I.ok.has _ (.inl k)
  ·exact I.ok.has _ (.inr k)
 generalize hcenv:compEnvC scope (cellsFrom (s.heap.objs.size+1) scope.names (dB X.env.cells scope.names [])) s.heap.objs.size X.env=dq
 have kp:∀b o,s.heap.get? b=some o->(pushCells (s.heap.push {cls:=.type "dict",data:=.dict #[]}) scope.names).get? b=some o:=λb o e=>EU _ _ _ _ (bh _ e)
 have hL:dq.locals=s.heap.objs.size:=by rw[<-hcenv];rfl
 have jq:dq.cells=cellsFrom (s.heap.objs.size+1) scope.names (dB X.env.cells scope.names []):=by rw[<-hcenv];rfl
 have DC:dq.scope=aF2 scope X.env.scope:=by rw[<-hcenv];rfl
 rw[<-gn s.heap {cls:=.type "dict",data:=.dict #[]}] at jq
 have cm:∀{y c},(y,c)∈dB X.env.cells scope.names []->X.env.cells.lookup y=some c/\c<s.heap.objs.size:=λ{y c} hm=>by
  rcases jS hm with hm|⟨h1,rfl⟩
  ·cases hm
  ·obtain⟨c,hc⟩:=yy _ h1 rfl
   rw[hc]
   obtain⟨w,z⟩:=I.cell _ _ hc
   exact⟨rfl,z.lt⟩
 have mem:∀{y c},dq.cells.lookup y=some c->(X.env.cells.lookup y=some c/\c<s.heap.objs.size)\/(s.heap.objs.size+1<=c/\Vs (pushCells (s.heap.push {cls:=.type "dict",data:=.dict #[]}) scope.names) c none):=λ{y c} e=>by
  rw[jq] at e
  rcases kF (PySem.mem_of_lookup e) with hm|⟨_,h2,h3⟩
  ·exact .inl (cm hm)
  ·rw[gn] at h2;exact .inr ⟨h2,h3⟩
 have look:∀{y},scope.names.lookup y=some .free->∃c,dq.cells.lookup y=some c/\X.env.cells.lookup y=some c:=λ{y} hl=>by
  have hy:(y,NameKind.free)∈scope.names:=PySem.mem_of_lookup hl
  obtain⟨c',e'⟩:=pV (oO (names:=scope.names) (n:=(s.heap.push {cls:=.type "dict",data:=.dict #[]}).objs.size) (mW (cells:=X.env.cells) (acc:=[]) hy))
  rw[<-jq] at e'
  refine⟨c',e',?_⟩
  rw[jq] at e'
  rcases kF (PySem.mem_of_lookup e') with hm|⟨h1,_,_⟩
  ·exact(cm hm).1
  ·have:=ok.uniq _ h1
   rw[hl] at this;cases this
 have Uv:(X.blk s H scope dq fp).Ok:=by
  refine⟨I.ok.mod,by show dq.scope.kind=_;rw[DC];exact ok.kind,by show dq.globals=_;rw[<-hcenv];exact I.ok.glob,by show dq.builtins=_;rw[<-hcenv];exact I.ok.blt,by show s.heap.objs.size<=dq.locals;rw[hL];exact ap _,
   λy z c e1 e2=>?_,λy hy=>?_,λy c z e=>?_,I.ok.hd,I.ok.frames,.inl rfl,λb hb=>⟨?_,λy c e z=>?_⟩,I.bs,gm I.ok.bsz I.sz,λb o e hb=>?_,λb hb z=>?_,I.stack,I.stkFree⟩
  ·have e1:dq.cells.lookup y=some c:=e1
   have e2:dq.cells.lookup z=some c:=e2
   rw[jq] at e1 e2
   refine tN (λp hp=>?_) (λy z c a b=>I.ok.inj y z c (cm a).1 (cm b).1) (PySem.mem_of_lookup e1) (PySem.mem_of_lookup e2)
   rw[gn]
   exact v9 (cm (y:=p.1) (c:=p.2) hp).2
  ·show ∃c,dq.cells.lookup y=some c
   have key:∀k,dq.kindOf y=some k->(k=.cell\/k=.free)->∃c,dq.cells.lookup y=some c:=λk hk qf=>by
    unfold Env.kindOf at hk
    rw[DC] at hk
    obtain⟨k',e,r⟩:=nZ hk
    have:k'=.cell\/k'=.free:=by
     rcases r with rfl|⟨rfl,_⟩
     ·exact qf
     ·exact .inr rfl
    rcases this with rfl|rfl
    ·obtain⟨c,hm⟩:=uA (n:=(s.heap.push {cls:=.type "dict",data:=.dict #[]}).objs.size) (acc:=dB X.env.cells scope.names []) (PySem.mem_of_lookup e)
     obtain⟨c',e'⟩:=pV hm
     exact⟨c',by rw[jq];exact e'⟩
    ·obtain⟨c,h1,_⟩:=look e
     exact⟨c,h1⟩
   rcases hy with hy|hy
   ·exact key _ hy (.inl rfl)
   ·exact key _ hy (.inr rfl)
  ·have z:(scope.names.lookup y==some NameKind.cell)=true:=z
   have z:scope.names.lookup y=some .cell:=by simpa using z
   have e:dq.cells.lookup y=some c:=e
   rw[jq] at e
   rcases kF (PySem.mem_of_lookup e) with hm|⟨_,h2,_⟩
   ·rcases jS hm with hm|⟨h1,_⟩
    ·cases hm
    ·have q:=ok.uniq _ h1
     rw[z] at q;cases q
   ·rw[gn] at h2
    exact EV h2
  ·show b≠dq.locals
   rw[hL];exact b8 (ur b hb).2
  ·have e:dq.cells.lookup y=some c:=e
   rcases mem e with ⟨h1,_⟩|⟨h1,_⟩
   ·exact(ur b hb).1.2.2.2.2.1 y c h1 z
   ·have h2:s.heap.objs.size+1<=b:=by rw[<-z];exact h1
    exact absurd (i7 (ur b hb).2 (EV h2)) (j6 _)
  ·rcases(ur b hb).1.2.2.2.1 with z|z
   ·exact I.ok.noex b o e z
   ·exact absurd (i7 (ba e) (gm I.ok.bsz z)) (j6 _)
  ·rcases ao.mp (I.stkSub b z) with z|z
   ·exact(ur b hb).1.2.1 z
   ·exact(ur b hb).1.2.2.1 z
 refine⟨Uv,rfl,I.bare,Un.kept kp,⟨λ_=>none,?_,λi y av e1 e2 e3=>?_⟩,λy c e=>?_,?_,λy c e=>?_,λp hp=>?_,I.hok.kept kp,by rw[mU];exact I.len⟩
 ·show Heap.Ns _ dq.locals _
  rw[hL]
  exact Heap.Ns.keeps (Heap.Ns.new ..) λb o e=>EU _ _ _ _ e
 ·obtain⟨e2,aw⟩:=tD e2
  have jh:scope.names.lookup y=some .free/\(dq.kindOf y=some .cell\/dq.kindOf y=some .free):=by
   have key:∀k,dq.scope.names.lookup y=some k->k=.local\/k=.cell\/k=.free->scope.names.lookup y=some .free/\(dq.kindOf y=some .cell\/dq.kindOf y=some .free):=λk hk qf=>by
    have KJ:=hk
    rw[DC] at hk
    obtain⟨k',e,r⟩:=nZ hk
    have no:¬(k'=.local\/k'=.cell):=λhh=>by
     rcases ok.own _ (PySem.mem_of_lookup e) hh with e'|e'
     ·obtain⟨p,hp,QF⟩:=a8.mp e'
      have e3:=ok.ix p hp
      have:p.1=y:=QF
      rw[this] at e3
      exact aw (a8.mpr ⟨p,hp,xL hN e3 e1⟩)
     ·exact e' (fj e1)
    rcases r with rfl|⟨rfl,rfl⟩
    ·rcases qf with rfl|rfl|rfl
     ·exact absurd (.inl rfl) no
     ·exact absurd (.inr rfl) no
     ·exact⟨e,.inr KJ⟩
    ·exact⟨e,.inl KJ⟩
   have e3:Vis dq.scope y:=e3
   rcases e3 with e3|e3|e3
   ·exact key _ e3 (.inl rfl)
   ·exact key _ e3 (.inr (.inl rfl))
   ·exact key _ e3 (.inr (.inr rfl))
  obtain⟨m,hn,hl⟩:=I.loc
  have QG:Vis X.env.scope y:=(ok.free _ (PySem.mem_of_lookup jh.1) rfl).elim (λk=>.inr (.inl k)) (λk=>.inr (.inr k))
  obtain⟨w,r,q⟩:=hl i y av e1 e2 QG
  refine⟨w,r,.inr ⟨jh.2,?_⟩⟩
  obtain⟨c,h1,h2⟩:=look jh.1
  rcases q with ⟨k,_⟩|⟨_,c',e',z⟩
  ·have k:X.env.scope.names.lookup y=some .local:=k
   rcases ok.free _ (PySem.mem_of_lookup jh.1) rfl with k'|k'<;>rw[show X.env.scope.names.lookup y=_ from k'] at k<;>cases k
  ·rw[h2] at e';cases e'
   exact⟨c,h1,z.keeps kp⟩
 ·have e:dq.cells.lookup y=some c:=e
  rcases mem e with ⟨h1,_⟩|⟨_,z⟩
  ·obtain⟨w,z⟩:=I.cell y c h1
   exact⟨w,z.keeps kp⟩
  ·exact⟨_,z⟩
 ·show H dq.locals=none
  rw[hL];exact I.hok.fresh (ap _)
 ·have e:dq.cells.lookup y=some c:=e
  rcases mem e with ⟨h1,_⟩|⟨h1,_⟩
  ·exact I.freeC y c h1
  ·exact I.hok.fresh (EV h1)
 ·exact absurd (show p∈([]:List (Addr×Obj))++[] from hp) (by simp)
theorem aCp{D:Addr}(I:aQ X aa σ H s)(hD:H D=some (.lst xs))(hz:xs.length<sizeLine)(r:cB y v)
  (h:∀s',aQ X aa σ (upd H D (.lst (xs++[y]))) s'->Q .none s'):wpAny (model X.prog X.w) X.A (call (.builtin "list.append") [.ref D,v]) Q E s:=by
 obtain⟨KL,its,n,ri,e⟩:=I.hok D _ hD
 have hl:=ri.length
 refine append_at (hsz:=by rw[ca];omega) e λh' sb lf=>?_
 refine h {s with heap:=h'} (I.write (t':=s.toks) (by rw[hD];trivial) (.inl rfl) (λb u hb q=>(sb.2 b hb).trans q) ⟨_,lf⟩ ⟨by rw[c8];exact hz,its++[v],n+1,ri.append (.cons r .nil),?_⟩)
 rw[lf]
 simp
def PTs(X:Cx)(ifs:List Expr)(t:TT):Prop:=
 ∀(aa:List (Addr×Obj)) (s:Shared) (σ:St) (H:Hp) (Q:Bool->Hp->Prop),aQ X aa σ H s->t σ H Q->
  wpAny (model X.prog X.w) X.A (forIn ifs true λc r=>if r=true then do let ok <-isTrue c X.env (eval c X.env);pure (ForInStep.yield ok) else pure (ForInStep.yield r)) (TP X aa σ Q) X.xe s
def aEs:TT:=λ_ H Q=>Q true H
theorem fY:PTs X [] aEs:=λ_ _ _ H _ I h=>wpAny_tests_nil ⟨H,I,h⟩
theorem Zk{t:TT}(h:PT X c t):PTs X [c] t:=λaa s σ H Q I hw=>wpAny_tests_one (h aa s σ H Q I hw)
theorem Qt{t:Sem α}{Q Q':α->Shared->Prop}(h:wpAny M A t Q (λ_ _=>False) s)(hQ:∀a s,Q a s->Q' a s):wpAny M A t Q' E s:=jm h hQ λ_ _ z=>False.elim z
theorem Cp{target iter:Expr}{it acc:Value}(I:Nat->Shared->Prop)
  (turn:∀n s,I n s->wpAny (model prog w) A (pyNext it) (λr ay=>match r with
   |none=>R (.ok .next) ay
   |some v=>wpAny (model prog w) A (letOwnedTupleGo target it v) (λ_ KM=>wpAny (model prog w) A (assign target env v) (λ_ fq=>
     wpAny (model prog w) A (forIn ifs true λc r=>if r=true then do let ok <-isTrue c env (eval c env);pure (ForInStep.yield ok) else pure (ForInStep.yield r)) (λok y9=>
      if ok=true then wpAny (model prog w) A (eval jr env) (λx KN=>
       wpAny (model prog w) A (call (.builtin "list.append") [acc,x]) (λ_ KO=>∃m,m<n/\I m KO) (notedBy (model prog w) A env λe s'=>R (.error e) s') KN) (notedBy (model prog w) A env λe s'=>R (.error e) s') y9
      else ∃m,m<n/\I m y9) (notedBy (model prog w) A env λe s'=>R (.error e) s') fq) (notedBy (model prog w) A env λe s'=>R (.error e) s') KM) (notedBy (model prog w) A env λe s'=>R (.error e) s') ay) (notedBy (model prog w) A env λe s'=>R (.error e) s') s)
  (n:Nat) (h:I n s):
  codeAny (model prog w) A (.compLoop (.ListComp jr [⟨target,iter,ifs,0⟩] scope pos) 0 it acc env) R s:=by
 refine codeAny_loop rfl I (λn s hI=>?_) n h
 show wpAny _ A ((compTurn (.ListComp jr [⟨target,iter,ifs,0⟩] scope pos) 0 it acc env).onRaise (λx=>do noteFrame x env;theTreesLotGoes x)) _ _ s
 refine wpAny_noted ?_
 rw[compTurn_list]
 refine ac (CC (ac (jm (turn n s hI) (λr ay cy=>?_) λ_ _ h'=>h')))
 cases r with
 |none=>exact ag cy
 |some v=>
  refine ac (jm cy (λ_ KM QH=>?_) λ_ _ h'=>h')
  refine ac (jm QH (λ_ fq AZ=>ac (jm AZ (λok y9 DD=>?_) λ_ _ h'=>h')) λ_ _ h'=>h')
  cases ok with
  |false=>exact ag ⟨rfl,DD⟩
  |true=>
   exact ac (ac (jm DD (λx KN QI=>ac (jm QI (λ_ KO QJ=>ag (ag ⟨rfl,QJ⟩)) λ_ _ h'=>h')) λ_ _ h'=>h'))
def tLc(wi:TI)(g:TG)(tt:TT)(te:TE)(vs:List Nat):TE:=fun σ H Q=>wi σ H λJ H1=>∀D,H1 D=none->∃W:Nat->Nat->Hp->Prop,(∃m,W 0 m (upd H1 D (.lst [])))/\∀i m H,W i m H->
 (J.stop i H/\Q (.ref D) H)\/(J.go i H/\∃Nx:Hp->Prop,(∀H',Nx H'->∃m',m'<m/\W (i+1) m' H')/\∀x H',J.yld i H x H'->g x (gF σ vs) H' λa6 H2=>gF a6 vs=gF σ vs/\tt a6 H2 λb H3=>
  if b=true then te a6 H3 λy H4=>∃acc,H4 D=some (.lst acc)/\acc.length<sizeLine/\Nx (upd H4 D (.lst (acc++[y]))) else Nx H3)
theorem Mh{Q:VK}{iter:Expr}{tt:TT}{use:Option (Value->Sem Unit)}{Qf:Value->Shared->Prop}
  (hc:X.calm=true) (hN:X.N.Nodup) (I:aQ X aa σ H s) (hi:PI X tg iter wi) (ok:Ib X.N X.env.scope scope own)
  (hg:∀(s:Shared)(H:Hp)(C:Addr) (cl:List (Str×Addr)) (fp:List Addr),PG (X.blk s H scope (compEnvC scope cl C X.env) fp) tg g) (ht:∀(s:Shared)(H:Hp)(C:Addr) (cl:List (Str×Addr)) (fp:List Addr),PTs (X.blk s H scope (compEnvC scope cl C X.env) fp) ifs tt)
  (he:∀(s:Shared)(H:Hp)(C:Addr) (cl:List (Str×Addr)) (fp:List Addr),PE (X.blk s H scope (compEnvC scope cl C X.env) fp) jr te) (hs:∀x,foldedSetIterable iter X.env x=pure x)
  (h:tLc wi g tt te (own.map (·.2)) σ H Q)
  (QK:∀D C s' m H',aQ X aa σ H' s'->Q (.ref D) H'->s'.heap.Ns C m->iV X aa H' C->compPost (model X.prog X.w) X.A X.xe use Qf (.ref D) C (.ok .next) s'):
  wpAny (model X.prog X.w) X.A (comprehension (.ListComp jr [⟨tg,iter,ifs,0⟩] scope pos) scope X.env l5 (newList []) false (eval iter X.env) use) Qf X.xe s:=by
 have yy:∀y∈scope.names,y.2=.free->∃c,X.env.cells.lookup y.1=some c:=λy hy e=>by
  rcases ok.free y hy e with k|k
  ·exact I.ok.has _ (.inl k)
  ·exact I.ok.has _ (.inr k)
 refine wpAny_comprehension_free (use:=use) rfl hs (Lh yy) ok.kind (λy hy e=>by rw[ok.uniq y hy,e])
  (cV (hi aa s σ H _ I h) λxv s1 hx=>cV hx λC6 s2 h2=>?_)
 obtain⟨it,fp,tn,J,H2,e,I2,T,y6,f2,q⟩:=h2
 subst e
 refine ig (Gm ?_) (by show 0<=sizeLine;decide)
 generalize hD:s2.heap.objs.size=D
 have QL:H2 D=none:=I2.hok.fresh (vn hD)
 obtain⟨W,⟨m0,w0⟩,turn⟩:=q D QL
 generalize l7:({s2 with heap:=s2.heap.push {cls:=.type "list",data:=.seq ([]:List Value).toArray}}:Shared)=s3
 have I3:aQ X aa σ (upd H2 D (.lst [])) s3:=by
  rw[<-l7]
  refine I2.laid (t':=s2.toks) (λb o e=>bh _ e) (vn hD) ⟨c7 _,[],0,.nil,?_⟩
  rw[<-hD]
  exact cb _ rfl
 have h3:s3.heap=s2.heap.push {cls:=.type "list",data:=.seq ([]:List Value).toArray}:=by rw[<-l7]
 have sz:∀b∈fp,b<s2.heap.objs.size:=λb hb=>by
  obtain⟨o,e,_⟩:=T.obj _ _ y6 b hb
  exact ba e
 have f3:∀b∈fp,iV X aa (upd H2 D (.lst [])) b/\b<s3.heap.objs.size:=λb hb=>by
  have am:=sz b hb
  refine⟨⟨?_,(f2 b hb).2⟩,by rw[h3,gn];exact v9 am⟩
  rw[aC (by rw[<-hD];exact b8 am)]
  exact(f2 b hb).1
 have wk:tn 0 s3.heap:=T.keep _ _ _ y6 λb _ o e=>by rw[h3];exact bh _ e
 have I4:=Hl I3 ok hN f3
 have pg:=hg s3 (upd H2 D (.lst [])) s3.heap.objs.size (cellsFrom (s3.heap.objs.size+1) scope.names (dB X.env.cells scope.names [])) fp
 have pt:=ht s3 (upd H2 D (.lst [])) s3.heap.objs.size (cellsFrom (s3.heap.objs.size+1) scope.names (dB X.env.cells scope.names [])) fp
 have pe:=he s3 (upd H2 D (.lst [])) s3.heap.objs.size (cellsFrom (s3.heap.objs.size+1) scope.names (dB X.env.cells scope.names [])) fp
 show codeAny _ _ (.compStart (.ListComp jr [⟨tg,iter,ifs,0⟩] scope pos) 0 (.ref it) (.ref D) (compEnvC scope (cellsFrom (s3.heap.objs.size+1) scope.names (dB X.env.cells scope.names [])) s3.heap.objs.size X.env)) (compPost (model X.prog X.w) X.A X.xe use Qf (.ref D) s3.heap.objs.size) {s3 with heap:=pushCells (s3.heap.push {cls:=.type "dict",data:=.dict #[]}) scope.names}
 have KP:∀b∈fp,(upd H2 D (.lst [])) b=none:=λb hb=>(f3 b hb).1.1
 generalize hce:compEnvC scope (cellsFrom (s3.heap.objs.size+1) scope.names (dB X.env.cells scope.names [])) s3.heap.objs.size X.env=ce at I4 pg pt pe ⊢
 have cL:ce.locals=s3.heap.objs.size:=by subst hce;rfl
 generalize hH3:upd H2 D (.lst [])=H3 at I3 I4 pg pt pe w0 KP f3
 generalize wt:({s3 with heap:=pushCells (s3.heap.push {cls:=.type "dict",data:=.dict #[]}) scope.names}:Shared)=s4 at I4 ⊢
 have KQ:tn 0 s4.heap:=T.keep _ _ _ wk λb _ o e=>by rw[<-wt];exact EU _ _ _ _ (bh _ e)
 have stat:∀{ah:St}{H':Hp}{s':Shared},aQ (X.blk s3 H3 scope ce fp) [] ah H' s'->(∀b∈fp,H' b=none)->∀b∈fp,iV (X.blk s3 H3 scope ce fp) [] H' b:=λ{ah H' s'} I' hn b hb=>
  ⟨hn b hb,(I'.ok.exf b hb).1,I'.ok.exfs b hb,.inl hb,λx c e=>(I'.ok.exf b hb).2 x c e,λp hp=>absurd (show p∈([]:List (Addr×Obj))++[] from hp) (by simp)⟩
 have loop:codeAny (model X.prog X.w) X.A (.compLoop (.ListComp jr [⟨tg,iter,ifs,0⟩] scope pos) 0 (.ref it) (.ref D) ce) (compPost (model X.prog X.w) X.A X.xe use Qf (.ref D) s3.heap.objs.size) s4:=by
  refine Cp (λn s'=>∃i H',aQ (X.blk s3 H3 scope ce fp) [] (gF σ (own.map (·.2))) H' s'/\tn i s'.heap/\(∀b∈fp,H' b=none)/\W i n H') ?_ m0 ⟨0,H3,I4,KQ,KP,w0⟩
  rintro n s5 ⟨i,H5,I5,qc,n5,w5⟩
  rcases turn i n H5 w5 with ⟨stop,qq⟩|⟨go,Nx,QM,step⟩
  ·have td:=T.done (X.blk s3 H3 scope ce fp) rfl rfl rfl hc i [] s5 _ H5 (λ_ _=>False) I5 (stat I5 n5) qc stop
   refine Qt td λr s6 ⟨hr,I6⟩=>?_
   subst hr
   have I7:aQ X aa σ H5 s6:=I3.call' (ch:=fp) I6.os I6.base I6.hok I6.bare λb hb=>⟨(f3 b hb).1.2.2.2.1,(f3 b hb).1.2.1,(f3 b hb).1.2.2.2.2.1,(f3 b hb).1.2.2.2.2.2⟩
   have nC:H5 s3.heap.objs.size=none:=by
    have z:H5 ce.locals=none:=I6.free
    rw[cL] at z
    exact z
   obtain⟨m,hn,_⟩:=I6.loc
   have hn:s6.heap.Ns ce.locals m:=hn
   rw[cL] at hn
   exact QK D s3.heap.objs.size s6 m H5 I7 qq hn (I3.fpOk (ap _) nC)
  ·have ti:=T.item (X.blk s3 H3 scope ce fp) rfl rfl rfl hc i [] s5 _ H5 (λ_ _=>False) I5 (stat I5 n5) qc go
   refine Qt ti λr s6 ⟨u,hr,h6⟩=>?_
   subst hr
   refine Qt h6 λ_ s7 ⟨x,H7,I7,r7,y7,F6,n7⟩=>?_
   have QN:=I7.pinned (stat I7 n7) (T.obj _ _ F6)
   refine Qt (pg _ s7 _ H7 x u _ QN r7 (step x H7 y7)) λ_ s8 ⟨DE,H8,I8,KR,q8⟩=>?_
   refine Qt (pt _ s8 DE H8 _ I8 q8) λb s9 ⟨H9,I9,q9⟩=>?_
   have fin:∀{s':Shared}{H':Hp},aQ (X.blk s3 H3 scope ce fp) ([]++tG fp s7.heap) DE H' s'->Nx H'->∃m,m<n/\∃i H',aQ (X.blk s3 H3 scope ce fp) [] (gF σ (own.map (·.2))) H' s'/\tn i s'.heap/\(∀b∈fp,H' b=none)/\W i m H':=λ{s' H'} I' nx=>by
    obtain⟨m',hm,w'⟩:=QM H' nx
    have KS:∀b∈fp,∀o,s7.heap.get? b=some o->s'.heap.get? b=some o/\H' b=none:=λb hb o e=>
     let z:=I'.pin (b,o) (gd _ (gd _ (iX hb e)))
     ⟨z.1,z.2.1⟩
    have hl:(gF σ (own.map (·.2))).length=DE.length:=by rw[<-KR,mU]
    refine⟨m',hm,i+1,H',(I'.unpinned (aa:=[])).weak hl (λj v e=>?_),T.keep _ _ _ F6 λb hb o e=>(KS b hb o e).1,λb hb=>?_,w'⟩
    ·rw[<-KR] at e
     exact(tD e).1
    ·obtain⟨o,e,_⟩:=T.obj _ _ F6 b hb
     exact(KS b hb o e).2
   cases b with
   |false=>
    simp only[pf,ju] at q9 ⊢
    exact fin I9 q9
   |true=>
    simp only[vp] at q9 ⊢
    refine Qt (pe _ s9 DE H9 _ I9 q9) λz y' ⟨yv,QO,QP,QQ,acc,QR,QS,nx⟩=>?_
    exact aCp (X:=X.blk s3 H3 scope ce fp) QP QR QS QQ λut QT=>fin QT nx
 exact codeAny_compStart_list loop (T.self X.A 0 _ _ _ KQ loop)
theorem uQ{iter:Expr}{tt:TT}(hc:X.calm=true)(hN:X.N.Nodup)(hi:PI X tg iter wi)(ok:Ib X.N X.env.scope scope own)
  (hg:∀(s:Shared)(H:Hp)(C:Addr) (cl:List (Str×Addr)) (fp:List Addr),PG (X.blk s H scope (compEnvC scope cl C X.env) fp) tg g) (ht:∀(s:Shared)(H:Hp)(C:Addr) (cl:List (Str×Addr)) (fp:List Addr),PTs (X.blk s H scope (compEnvC scope cl C X.env) fp) ifs tt)
  (he:∀(s:Shared)(H:Hp)(C:Addr) (cl:List (Str×Addr)) (fp:List Addr),PE (X.blk s H scope (compEnvC scope cl C X.env) fp) jr te) (hs:∀x,foldedSetIterable iter X.env x=pure x:=by intro _;rfl):
  PE X (.ListComp jr [⟨tg,iter,ifs,0⟩] scope pos) (tLc wi g tt te (own.map (·.2))):=by
 intro aa s σ H Q I h
 rw[eval_ListComp]
 refine Mh hc hN I hi ok hg ht he hs h λD C s' m H' I' q hn f=>⟨m,hn,λmw sb=>?_⟩
 obtain⟨f0,f1,f2,f3,f4,f5⟩:=f
 exact⟨.ref D,H',I'.turned (t':=s'.toks) (λb o hb e=>(sb.2 b hb).trans e) f0 f1 f3 f4 f5,rfl,q⟩
theorem rK{y:Str}{py:Pos}{iter:Expr}{spos:Pos}{tt:TT}(hc:X.calm=true)(hN:X.N.Nodup)(hy:X.N[i]?=some y)(KU:X.env.scope.names.lookup y=some .local)
  (QU:swapsWith (.ListComp jr [⟨tg,iter,ifs,0⟩] scope pos) (some (.Name y py)) spos.line X.env=pure true) (hi:PI X tg iter wi) (ok:Ib X.N X.env.scope scope own)
  (hg:∀(s:Shared)(H:Hp)(C:Addr) (cl:List (Str×Addr)) (fp:List Addr),PG (X.blk s H scope (compEnvC scope cl C X.env) fp) tg g) (ht:∀(s:Shared)(H:Hp)(C:Addr) (cl:List (Str×Addr)) (fp:List Addr),PTs (X.blk s H scope (compEnvC scope cl C X.env) fp) ifs tt)
  (he:∀(s:Shared)(H:Hp)(C:Addr) (cl:List (Str×Addr)) (fp:List Addr),PE (X.blk s H scope (compEnvC scope cl C X.env) fp) jr te) (hs:∀x,foldedSetIterable iter X.env x=pure x:=by intro _;rfl):
  PS X (.Assign [.Name y py] (.ListComp jr [⟨tg,iter,ifs,0⟩] scope pos) spos) (Fn (tLc wi g tt te (own.map (·.2))) (mG i)):=by
 intro aa s σ H D I h
 rw[exec_Assign_Name_used _ _ _ _ QU]
 refine ac (CC (ac ?_))
 show wpAny _ X.A (do let _ <-comprehension (.ListComp jr [⟨tg,iter,ifs,0⟩] scope pos) scope X.env (firstIterPos [⟨tg,iter,ifs,0⟩] pos) (newList []) false (eval iter X.env) (some (assign (.Name y py) X.env))) _ _ s
 have h:tLc wi g tt te (own.map (·.2)) σ H (λx H1=>mG i x σ H1 D.nx):=h
 refine ac (cV (Mh (Qf:=λ_ s'=>SP X aa D .next s') hc hN I hi ok hg ht he hs h λL C s' m H' I' q hn f=>?_) λ_ s' hq=>ag (ag hq))
 show wpAny _ _ (assign (.Name y py) X.env (.ref L)) _ _ _
 refine wpAny_assign_Name (Bl (v:=V.ref L) I' hN hy (.inl KU) rfl (λs2 I2 ⟨a,sb,ha⟩=>?_) (.inr KU))
 obtain⟨f0,f1,f2,f3,f4,f5⟩:=f
 have QV:C≠a:=by
  rcases ha with z|z
  ·rw[z];exact f1
  ·exact λe=>f4 y a z e.symm
 refine⟨m,hn.sameBut sb QV,λh3 QW=>?_⟩
 exact⟨_,H',I2.turned (t':=s2.toks) (λb o hb e=>(QW.2 b hb).trans e) f0 f1 f3 f4 f5,q⟩
variable{K:Frag}
theorem jQ{tt:TT}{vs:List Nat}{D:Addr}(Pv:Nat->Hp->Prop)(h0:Pv 0 (upd H1 D (.lst [])))(hl:∀i H,i<=xs.length->Pv i H->cP K H a xs)
  (hs:∀i x H,xs[i]?=some x->Pv i H->g x (gF σ vs) H λa6 H2=>gF a6 vs=gF σ vs/\tt a6 H2 λb H3=>
   if b=true then te a6 H3 λy H4=>∃acc,H4 D=some (.lst acc)/\acc.length<sizeLine/\Pv (i+1) (upd H4 D (.lst (acc++[y]))) else Pv (i+1) H3) (hd:∀H,Pv xs.length H->Qd H):
  ∃W:Nat->Nat->Hp->Prop,(∃m,W 0 m (upd H1 D (.lst [])))/\∀i m H,W i m H->
   ((Td K a).stop i H/\Qd H)\/((Td K a).go i H/\∃Nx:Hp->Prop,(∀H',Nx H'->∃m',m'<m/\W (i+1) m' H')/\∀x H',(Td K a).yld i H x H'->g x (gF σ vs) H' λa6 H2=>gF a6 vs=gF σ vs/\tt a6 H2 λb H3=>
    if b=true then te a6 H3 λy H4=>∃acc,H4 D=some (.lst acc)/\acc.length<sizeLine/\Nx (upd H4 D (.lst (acc++[y]))) else Nx H3):=by
 refine⟨λi m H=>m=xs.length - i/\i<=xs.length/\Pv i H,⟨xs.length,by simp,c7 _,h0⟩,?_⟩
 rintro i m H ⟨rfl,hi,p⟩
 have q:=hl i H hi p
 by_cases am:i<xs.length
 ·refine .inr ⟨⟨xs,xs[i],q,by simp[am]⟩,Pv (i+1),λH' p'=>⟨xs.length - (i+1),by omega,rfl,am,p'⟩,λx H' y=>?_⟩
  obtain⟨e,y⟩:=y
  subst e
  exact hs i x _ (y xs q) p
 ·have e:i=xs.length:=by omega
  subst e
  exact .inl ⟨⟨xs,q,ap _⟩,hd H p⟩
def aE2(N:List Str)(sc scope:Scope)(own:List (Str×Nat)):Bool:=
 (match scope.kind with|.function=>true|_=>false) && (scope.names.all λy=>decide (scope.names.lookup y.1=some y.2)) && (own.all λp=>decide (N[p.2]?=some p.1)) &&
  (scope.names.all λy=>match y.2 with
   |.free=>(match sc.names.lookup y.1 with|some .cell=>true|some .free=>true|_=>false)
   |.local=>decide (y.1∈own.map (·.1))||decide (y.1∉N)
   |.cell=>decide (y.1∈own.map (·.1))||decide (y.1∉N)
   |_=>true)
theorem eN(h:aE2 N sc scope own=true):Ib N sc scope own:=by
 unfold aE2 at h
 simp only[cn,jw,OH] at h
 obtain⟨⟨⟨h1,h2⟩,h3⟩,h4⟩:=h
 refine⟨?_,h2,h3,λy hy e=>?_,λy hy e=>?_⟩
 ·split at h1
  ·assumption
  ·cases h1
 ·have q:=h4 y hy
  simp only[e] at q
  split at q<;>first|exact .inl (by assumption)|exact .inr (by assumption)|cases q
 ·have q:=h4 y hy
  rcases e with e|e<;>(simp only[e,ya,OH] at q;exact q)
section
variable{t0 i0 t1 i1:Expr}{WT WU:List Expr}{it acc:Value}
end
section
variable[DecidableEq κ]
def gB(aJ:List (κ×V))(k:κ):Option V:=(aJ.find? λkv=>decide (kv.1=k)).map (·.2)
def jU(aJ:List (κ×V))(k:κ)(v:V):List (κ×V):=
 if (aJ.any λkv=>decide (kv.1=k))=true then aJ.map (λkv=>if kv.1=k then (kv.1,v) else kv) else aJ++[(k,v)]
theorem qT{p:κ×V}{r:List (κ×V)}{k:κ}(e:p.1=k):gB (p::r) k=some p.2:=by simp[gB,jn,e]
theorem mV{p:κ×V}{r:List (κ×V)}{k:κ}(e:¬p.1=k):gB (p::r) k=gB r k:=by simp[gB,jn,e]
theorem yD(k:κ):∀aJ:List (κ×V),(aJ.any λkv=>decide (kv.1=k))=(gB aJ k).isSome
 |[]=>rfl
 |p::r=>by
  rw[re]
  by_cases e:p.1=k
  ·simp only[qT e,decide_eq_true e,Bool.true_or,OG]
  ·rw[mV e,jk e,Bool.false_or];exact yD k r
theorem uN(aJ:List (κ×V))(k:κ)(v:V):(jU aJ k v).length<=aJ.length+1:=by
 unfold jU
 split
 ·rw[ai];omega
 ·rw[c8,bw,AF];omega
theorem rN{aJ:List (κ×V)}{k:κ}(v:V)(h:gB aJ k=none):jU aJ k v=aJ++[(k,v)]:=by
 unfold jU
 rw[yD,h]
 exact ae (by decide)
theorem lE.isSome_eq{o:Option V}{u:Option Value}(r:lE o u):o.isSome=u.isSome:=by
 cases o with
 |none=>cases u with
  |none=>rfl
  |some _=>exact(show False from r).elim
 |some _=>cases u with
  |none=>exact(show False from r).elim
  |some _=>rfl
theorem KV.val{aJ:List (κ×V)}{vs:List (κ×Value)}(r:KV aJ vs)(k:κ):lE (gB aJ k) (valueAt vs k):=by
 unfold KV at r
 induction r with
 |nil=>exact True.intro
 | @cons p q ps qs h t ih=>
  obtain⟨h1,h2⟩:=h
  by_cases e:p.1=k
  ·have e':q.1=k:=h1.symm.trans e
   have b:valueAt (q::qs) k=some q.2:=by simp[valueAt,jn,e']
   rw[qT e,b];exact h2
  ·have e':¬q.1=k:=λz=>e (h1.trans z)
   have b:valueAt (q::qs) k=valueAt qs k:=by simp[valueAt,jn,e']
   rw[mV e,b];exact ih
theorem KV.any{aJ:List (κ×V)}{vs:List (κ×Value)}(r:KV aJ vs)(k:κ):(aJ.any λkv=>decide (kv.1=k))=vs.any λkv=>decide (kv.1=k):=by
 unfold KV at r
 induction r with
 |nil=>rfl
 |cons h t ih=>rw[re,re,ih,h.1]
theorem KV.repl{aJ:List (κ×V)}{vs:List (κ×Value)}(r:KV aJ vs)(k:κ)(ry:cB y u):
  KV (aJ.map λkv=>if kv.1=k then (kv.1,y) else kv) (vs.map λkv=>if kv.1=k then (kv.1,u) else kv):=by
 unfold KV at r ⊢
 induction r with
 |nil=>exact .nil
 | @cons p q ps qs h t ih=>
  rw[bn,bn]
  refine .cons ?_ ih
  obtain⟨h1,h2⟩:=h
  by_cases e:p.1=k
  ·rw[af e,af (h1.symm.trans e)];exact⟨h1,ry⟩
  ·rw[ae e,ae (λz=>e (h1.trans z))];exact⟨h1,h2⟩
theorem KV.put{aJ:List (κ×V)}{vs:List (κ×Value)}(r:KV aJ vs)(k:κ)(ry:cB y u):KV (jU aJ k y) (stored vs k u):=by
 unfold jU stored
 rw[r.any k]
 by_cases e:(vs.any λkv=>decide (kv.1=k))=true
 ·rw[af e,af e];exact r.repl k ry
 ·rw[ae e,ae e];exact Paired.snoc r ⟨rfl,ry⟩
theorem KV.length{aJ:List (κ×V)}{vs:List (κ×Value)}(r:KV aJ vs):aJ.length=vs.length:=Paired.length r
end
theorem Hx{k:dL}(r:cB (kV k) u):(dJ P w).is k u=true:=by
 cases k with
 |inl i=>obtain⟨t,e⟩:=(show ∃t,u=Value.int i t from r);subst e;exact Ho P w i t
 |inr x=>obtain⟨t,e⟩:=(show ∃t,u=Value.str x t from r);subst e;exact Im P w x t
theorem Bo:∀{ks:List dL}{us:List Value},bK (ks.map kV) us->ItemsAre (dJ P w) ks us
 |[],_,r=>by rw[vq] at r;cases r;exact .nil
 |k::ks,_,r=>by
  rw[bn] at r
  cases r with
  |cons h t=>exact .cons (Hx h) (Bo t)
abbrev KT(H:Hp):List (List dL×V)->List (List dL×Addr×Value)->Prop:=Paired λp q=>p.1=q.1/\H q.2.1=some (.tup (p.1.map kV))/\cB p.2 q.2.2
theorem KT.val{aJ:List (List dL×V)}{xs:List (List dL×Addr×Value)}(r:KT H aJ xs)(k:List dL):lE (gB aJ k) ((atKey xs k).map (·.2)):=by
 induction r with
 |nil=>exact True.intro
 | @cons p q ps qs h t ih=>
  obtain⟨h1,_,h2⟩:=h
  by_cases e:p.1=k
  ·have e':q.1=k:=h1.symm.trans e
   have b:atKey (q::qs) k=some q.2:=by simp[atKey,jn,e']
   rw[qT e,b];exact h2
  ·have e':¬q.1=k:=λz=>e (h1.trans z)
   have b:atKey (q::qs) k=atKey qs k:=by simp[atKey,jn,e']
   rw[mV e,b];exact ih
theorem KT.repl{aJ:List (List dL×V)}{xs:List (List dL×Addr×Value)}(r:KT H aJ xs)(k:List dL)(ry:cB y u):
  KT H (aJ.map λkv=>if kv.1=k then (kv.1,y) else kv) (xs.map (putAt k u)):=by
 induction r with
 |nil=>exact .nil
 | @cons p q ps qs h t ih=>
  rw[bn,bn]
  refine .cons ?_ ih
  obtain⟨h1,h2,h3⟩:=h
  unfold putAt
  by_cases e:p.1=k
  ·rw[af e,af (h1.symm.trans e)];exact⟨h1,h2,ry⟩
  ·rw[ae e,ae (λz=>e (h1.trans z))];exact⟨h1,h2,h3⟩
theorem KT.put{aJ:List (List dL×V)}{xs:List (List dL×Addr×Value)}(r:KT H aJ xs)(k:List dL)(hb:H b=some (.tup (k.map kV)))(ry:cB y u):
  KT H (jU aJ k y) (storedH xs k b u):=by
 have e:(aJ.any λkv=>decide (kv.1=k))=(atKey xs k).isSome:=by
  rw[yD,(r.val k).isSome_eq,j9]
 unfold jU storedH
 rw[e]
 by_cases q:(atKey xs k).isSome=true
 ·rw[af q,af q];exact r.repl k ry
 ·rw[ae q,ae q];exact Paired.snoc r ⟨rfl,hb,ry⟩
theorem KT.keeps{aJ:List (List dL×V)}{xs:List (List dL×Addr×Value)}(r:KT H aJ xs)(ht:∀b ys,H b=some (.tup ys)->H' b=some (.tup ys)):KT H' aJ xs:=
 Paired.mapP r λ_ _ z=>⟨z.1,ht _ _ z.2.1,z.2.2⟩
theorem Vj{u:HO}(ok:lC P w H h)(e:Rd H a u):cF P w H h a u:=e.ok ok
theorem Gu{aJ:List (dL×V)}(ok:lC P w H h)(e:Rd H a (.dK aJ)):aJ.length<=sizeLine/\(a==sysModules)=false/\∃vs,KV aJ vs/\h.DictOf (dJ P w) a vs:=
 show cF P w H h a (.dK aJ) from Vj ok e
theorem aEc{aJ:List (dL×V)}(ok:lC P w H h)(e:H a=some (.dK aJ)):aJ.length<=sizeLine/\(a==sysModules)=false/\∃vs,KV aJ vs/\h.DictOf (dJ P w) a vs:=Gu ok (.inl e)
theorem tQ{ks:List dL}(ok:lC P w H h)(e:H a=some (.tup (ks.map kV))):(tupleKind (dJ P w)).is h ks a:=by
 obtain⟨_,its,r,o,h1,h2,n,h3⟩:=(show cF P w H h a (.tup (ks.map kV)) from ok a _ e)
 exact⟨o,its.toArray,n,h1,h2,h3,by simpa using Bo r⟩
theorem Ff{aJ:List (List dL×V)}(ok:lC P w H h)(e:Rd H a (.dT aJ)):aJ.length<=sizeLine/\(a==sysModules)=false/\
  ∃xs,KT H aJ xs/\h.DictOfH (tupleKind (dJ P w)) a xs:=by
 obtain⟨z,y,xs,r,o,es,ep,h1,h2,h3,h4,h5⟩:=(show cF P w H h a (.dT aJ) from Vj ok e)
 refine⟨z,y,xs,r,o,es,ep,h1,h2,h3,h4,λx hx=>?_,h5⟩
 have all:∀{l:List (List dL×V)} {m:List (List dL×Addr×Value)},KT H l m->∀x∈m,(tupleKind (dJ P w)).is h x.1 x.2.1:=by
  intro l m q
  induction q with
  |nil=>intro x hx;exact nomatch hx
  | @cons p q ps qs hq t ih=>
   intro x hx
   rcases ao.mp hx with e|hx
   ·subst e
    exact tQ ok (by rw[<-hq.1];exact hq.2.1)
   ·exact ih x hx
 exact all r x hx
theorem Me{aJ:List (List dL×V)}(ok:lC P w H h)(e:H a=some (.dT aJ)):aJ.length<=sizeLine/\(a==sysModules)=false/\
  ∃xs,KT H aJ xs/\h.DictOfH (tupleKind (dJ P w)) a xs:=Ff ok (.inl e)
def mP(H:Hp)(a:Addr)(y:V)(r:Option V):Prop:=
 (∃aJ k,Rd H a (.dK aJ)/\y=kV k/\r=gB aJ k)\/∃aJ k b,Rd H a (.dT aJ)/\y=.ref b/\H b=some (.tup (k.map kV))/\r=gB aJ k
def tE(H:Hp)(a:Addr)(y v:V)(H':Hp):Prop:=
 (∃aJ k,H a=some (.dK aJ)/\y=kV k/\aJ.length<sizeLine/\H'=upd H a (.dK (jU aJ k v)))\/
 ∃aJ k b,H a=some (.dT aJ)/\y=.ref b/\H b=some (.tup (k.map kV))/\aJ.length<sizeLine/\H'=upd H a (.dT (jU aJ k v))
theorem mP.kk{aJ:List (dL×V)}{k:dL}(e:H a=some (.dK aJ)):mP H a (kV k) (gB aJ k):=.inl ⟨aJ,k,.inl e,rfl,rfl⟩
theorem mP.tt{aJ:List (List dL×V)}{k:List dL}(e:H a=some (.dT aJ))(eb:H b=some (.tup (k.map kV))):mP H a (.ref b) (gB aJ k):=.inr ⟨aJ,k,b,.inl e,rfl,eb,rfl⟩
theorem tE.kk{aJ:List (dL×V)}{k:dL}{v:V}(e:H a=some (.dK aJ))(hl:aJ.length<sizeLine):tE H a (kV k) v (upd H a (.dK (jU aJ k v))):=.inl ⟨aJ,k,e,rfl,hl,rfl⟩
theorem tE.tt{aJ:List (List dL×V)}{k:List dL}{v:V}(e:H a=some (.dT aJ))(eb:H b=some (.tup (k.map kV)))(hl:aJ.length<sizeLine):
  tE H a (.ref b) v (upd H a (.dT (jU aJ k v))):=.inr ⟨aJ,k,b,e,rfl,eb,hl,rfl⟩
section
variable{v:V}{r:Value}{o:Option V}
theorem aQ.big(I:aQ X aa σ H s):sysModules<s.heap.objs.size:=by
 have h:mainGlobals<s.heap.objs.size:=(I.mod.glob.keeps I.bk).lt
 exact EW (by decide) h
theorem Rj(hu:A.units+1<cLine)(I:aQ X aa σ H s)(g:mP H a y (some v))(ry:cB y u)(h:∀w' s',aQ X aa σ H s'->cB v w'->Q w' s'):
  wpAny (model X.prog X.w) A (getItem (.ref a) u) Q E s:=by
 rcases g with ⟨aJ,k,e,ey,l⟩|⟨aJ,k,b,e,ey,eb,l⟩
 ·subst ey
  obtain⟨z,hd,vs,rel,dd⟩:=Gu I.hok e
  obtain⟨w',hw,r8⟩:=lE.some_of (v:=v) (o:=valueAt vs k) (by rw[l];exact rel.val k)
  exact wpAny_getItem_of (Hx ry) dd.mapOf hw (h w' _ (I.tok _) r8)
 ·subst ey
  cases (show u=Value.ref b from ry)
  obtain⟨z,hd,xs,rel,dd⟩:=Ff I.hok e
  obtain⟨w',hw,r8⟩:=lE.some_of (v:=v) (o:=(atKey xs k).map (·.2)) (by rw[l];exact rel.val k)
  obtain⟨p,hp,uu⟩:=o9.mp hw
  refine wpAny_getItem_heap (CD hu) (tQ I.hok eb) dd hp ?_
  rw[uu]
  exact h w' _ (I.tok _) r8
theorem aG7(hu:A.units+1<cLine)(I:aQ X aa σ H s)(g:mP H a y o)(ry:cB y u)(h:∀s',aQ X aa σ H s'->Q (.bool o.isSome) s'):
  wpAny (model X.prog X.w) A (compareOp .In u (.ref a)) Q E s:=by
 rcases g with ⟨aJ,k,e,ey,l⟩|⟨aJ,k,b,e,ey,eb,l⟩
 ·subst ey
  obtain⟨z,hd,vs,rel,dd⟩:=Gu I.hok e
  refine wpAny_in_of (Hx ry) hd dd.mapOf ?_
  rw[<-(rel.val k).isSome_eq,<-l]
  exact h _ (I.tok _)
 ·subst ey
  cases (show u=Value.ref b from ry)
  obtain⟨z,hd,xs,rel,dd⟩:=Ff I.hok e
  refine wpAny_in_heap (CD hu) (tQ I.hok eb) hd dd ?_
  have q:=(rel.val k).isSome_eq
  rw[j9] at q
  rw[<-q,<-l]
  exact h _ (I.tok _)
theorem Yi(hu:A.units+1<cLine)(I:aQ X aa σ H s)(g:mP H a y o)(ry:cB y u)(h:∀s',aQ X aa σ H s'->Q (.bool (!o.isSome)) s'):
  wpAny (model X.prog X.w) A (compareOp .NotIn u (.ref a)) Q E s:=by
 rcases g with ⟨aJ,k,e,ey,l⟩|⟨aJ,k,b,e,ey,eb,l⟩
 ·subst ey
  obtain⟨z,hd,vs,rel,dd⟩:=Gu I.hok e
  refine wpAny_notIn_of (Hx ry) hd dd.mapOf ?_
  rw[<-(rel.val k).isSome_eq,<-l]
  exact h _ (I.tok _)
 ·subst ey
  cases (show u=Value.ref b from ry)
  obtain⟨z,hd,xs,rel,dd⟩:=Ff I.hok e
  refine wpAny_notIn_heap (CD hu) (tQ I.hok eb) hd dd ?_
  have q:=(rel.val k).isSome_eq
  rw[j9] at q
  rw[<-q,<-l]
  exact h _ (I.tok _)
theorem Dc{ob:HO}(I:aQ X aa σ H s)(mu:Mut (H a))(hs:Heap.SameBut a s.heap h')(he:∃q,h'.get? a=some q)(new:cF X.prog X.w (upd H a ob) h' a ob):
  aQ X aa σ (upd H a ob) {s with heap:=h',toks:=t'}:=
 I.write (x:=a) (e:=a) mu (.inl rfl) (λb q hb z=>(hs.2 b hb).trans z) he new
theorem aCz{aJ:List (dL×V)}{vs:List (dL×Value)}(z:aJ.length<=sizeLine)(hd:(a==sysModules)=false)(rel:KV aJ vs)(dd:h'.DictOf (dJ P w) a vs):
  cF P w H' h' a (.dK aJ):=⟨z,hd,vs,rel,dd⟩
theorem Rm{Q:Unit->Shared->Prop}(hu:A.units+1<cLine)(I:aQ X aa σ H s)(g:tE H a y v H')(ry:cB y u)(rv:cB v r)(h:∀s',aQ X aa σ H' s'->Q () s'):
  wpAny (model X.prog X.w) A (setItem (.ref a) u r) Q E s:=by
 rcases g with ⟨aJ,k,e,ey,l,eH⟩|⟨aJ,k,b,e,ey,eb,l,eH⟩
 ·subst ey eH
  obtain⟨z,hd,vs,rel,dd⟩:=aEc I.hok e
  have hz:vs.length<=sizeLine:=by rw[<-rel.length];exact z
  have hl:(jU aJ k v).length<=sizeLine:=by have:=uN aJ k v;omega
  refine wpAny_setItem_pairs (hsz:=hz) (Hx ry) dd λh' zc hs=>h _ ?_
  have he:∃q,h'.get? a=some q:=let ⟨q,_,_,hq,_⟩:=zc;⟨q,hq⟩
  exact Dc I (by rw[e];exact True.intro) hs he (aCz hl hd (rel.put k rv) zc)
 ·subst ey eH
  cases (show u=Value.ref b from ry)
  obtain⟨z,hd,xs,rel,dd⟩:=Me I.hok e
  have hz:xs.length<=sizeLine:=by rw[<-Paired.length rel];exact z
  have hl:(jU aJ k v).length<=sizeLine:=by have:=uN aJ k v;omega
  refine wpAny_setItem_heap (hsz:=hz) (CD hu) (tQ I.hok eb) dd λh' zc hs=>h _ ?_
  obtain⟨q,es,ep,hq,h2,h3,h4,_,h5⟩:=zc
  refine Dc I (by rw[e];exact True.intro) hs ⟨q,hq⟩ ⟨hl,hd,_,(rel.put k eb rv).keeps λc ys ec=>?_,q,es,ep,hq,h2,h3,h4,h5⟩
  rw[aC (aBq ec e (λz=>nomatch z))]
  exact ec
end
section
variable{aJ:List (dL×V)}{k:dL}
end
def aD4(i:Expr):Prop:=∀ov iv,subscripted i false ov iv=operate [ov,iv] (getItem ov iv)
theorem Xl{slice:Expr}{T id:String}
  (hl:typeLookup (.type T) "__getitem__"=pure (some (.builtin id))) (hs:aD4 slice)
  (h:wpAny (model prog w) A (eval value env) (λo ay=>wpAny (model prog w) A (eval slice env) (λi fq=>fq.TypeIs o T/\wpAny (model prog w) A (getItem o i) Q E fq) E ay) E s):
  wpAny (model prog w) A (eval (.Subscript value slice pos) env) Q E s:=by
 refine Subscript_ (jm h (λo ay cy=>jm cy (λi fq AZ=>?_) λ_ _ x=>x) λ_ _ x=>x)
 obtain⟨hT,AZ⟩:=AZ
 unfold subscriptTail
 refine ac ?_
 rw[getitemInPython_of_ne hT.not_modules]
 refine ac (wpAny_specialOf hT hl ?_)
 have fin:wpAny (model prog w) A (subscripted slice false o i) (λr y9=>wpAny (model prog w) A (letTemporaryGo value o r>>=λ_=>pure r) Q E y9) E fq:=by
  rw[hs o i]
  exact wpAny_operating (jm AZ (λr y9 DD=>ac (wpAny_letTemporaryGo (ag DD))) λ_ _ x=>x)
 first
  |exact ag (ac fin)
  |exact ac (ag (ac fin))
  |exact ac fin
theorem Ir{o:Option V}(I:aQ X aa σ H s)(g:mP H a y o):s.TypeIs (.ref a) "dict":=by
 rcases g with ⟨aJ,k,e,_,_⟩|⟨aJ,k,b,e,_,_,_⟩
 ·obtain⟨_,_,vs,_,dd⟩:=Gu I.hok e
  exact dd.typeIs
 ·obtain⟨_,_,xs,_,dd⟩:=Ff I.hok e
  exact dd.typeIs
def Uz(td ty:TE):TE:=fun σ H Q=>td σ H λx H1=>ty σ H1 λy H2=>∃a v,x=.ref a/\mP H2 a y (some v)/\Q v H2
def aFj(ty td:TE):TE:=fun σ H Q=>ty σ H λy H1=>td σ H1 λx H2=>∃a o,x=.ref a/\mP H2 a y o/\Q (.bl o.isSome) H2
def Yv(ty td:TE):TE:=fun σ H Q=>ty σ H λy H1=>td σ H1 λx H2=>∃a o,x=.ref a/\mP H2 a y o/\Q (.bl (!o.isSome)) H2
def aBb(td ty tv:TE):TS:=λD σ H=>tv σ H λv H1=>td σ H1 λx H2=>ty σ H2 λy H3=>∃a H4,x=.ref a/\tE H3 a y v H4/\D.nx σ H4
section
variable{o i:Expr}{ty:TE}
theorem oJ(hu:X.A.units+1<cLine)(ho:PE X o td)(hi:PE X i ty)(hs:aD4 i):PE X (.Subscript o i pos) (Uz td ty):=by
 intro aa s σ H Q I h
 refine Xl PySem.F.slot_dict_getitem.lookup hs (cV (ho aa s σ H _ I h) λu s1 ⟨x,H1,I1,rx,q1⟩=>cV (hi aa s1 σ H1 _ I1 q1) λiv s2 ⟨y,H2,I2,ry,a,v,ex,g,q2⟩=>?_)
 subst ex
 obtain rfl:u=Value.ref a:=rx
 exact⟨Ir I2 g,Rj hu I2 g ry λw' s3 I3 r8=>⟨v,H2,I3,r8,q2⟩⟩
theorem tZ(hu:X.A.units+1<cLine)(hi:PE X i ty)(ho:PE X o td):PC X .In i o (aFj ty td):=by
 intro aa s σ H Q I h
 refine cV (hi aa s σ H _ I h) λiv s1 ⟨y,H1,I1,ry,q1⟩=>cV (ho aa s1 σ H1 _ I1 q1) λu s2 ⟨x,H2,I2,rx,a,ov,ex,g,q2⟩=>?_
 subst ex
 obtain rfl:u=Value.ref a:=rx
 exact aG7 hu I2 g ry λs3 I3=>⟨.bl ov.isSome,H2,I3,rfl,q2⟩
theorem Qw(hu:X.A.units+1<cLine)(hi:PE X i ty)(ho:PE X o td):PC X .NotIn i o (Yv ty td):=by
 intro aa s σ H Q I h
 refine cV (hi aa s σ H _ I h) λiv s1 ⟨y,H1,I1,ry,q1⟩=>cV (ho aa s1 σ H1 _ I1 q1) λu s2 ⟨x,H2,I2,rx,a,ov,ex,g,q2⟩=>?_
 subst ex
 obtain rfl:u=Value.ref a:=rx
 exact Yi hu I2 g ry λs3 I3=>⟨.bl (!ov.isSome),H2,I3,rfl,q2⟩
theorem lF(hu:X.A.units+1<cLine)(ho:PE X o td)(hi:PE X i ty)(hv:PE X value tv)(hs:swapsWith value (some (.Subscript o i l5)) pos.line X.env=pure false):
  PS X (.Assign [.Subscript o i l5] value pos) (aBb td ty tv):=by
 intro aa s σ H D I h
 refine wpAny_Assign_Subscript (cV (hv aa s σ H _ I h) λr s1 ⟨v,H1,I1,rv,q1⟩=>cV (ho aa s1 σ H1 _ I1 q1) λu s2 ⟨x,H2,I2,rx,q2⟩=>cV (hi aa s2 σ H2 _ I2 q2) λiv s3 ⟨y,H3,I3,ry,a,H4,ex,g,q3⟩=>?_) hs
 subst ex
 obtain rfl:u=Value.ref a:=rx
 exact Rm hu I3 g ry rv λs4 I4=>⟨σ,H4,I4,q3⟩
end
theorem Tz(h:Heap)(hb:sysModules<h.objs.size):cF P w H (h.push {cls:=.type "dict",data:=.dict #[]}) h.objs.size (.dK []):=
 ⟨c7 _,pb.mpr (au (b8 hb)),[],.nil,Heap.DictOf.new h⟩
theorem Is(h:Heap)(hb:sysModules<h.objs.size):cF P w H (h.push {cls:=.type "dict",data:=.dict #[]}) h.objs.size (.dT []):=
 ⟨c7 _,pb.mpr (au (b8 hb)),[],.nil,_,#[],0,cb _ rfl,⟨rfl,rfl,rfl⟩,rfl,rfl,JO⟩
def aCy:TE:=λ_ H Q=>∀p,H p=none->Q (.ref p) (upd H p (.dK []))
def aDs:TE:=λ_ H Q=>∀p,H p=none->Q (.ref p) (upd H p (.dT []))
theorem Tk:PE X (.Dict [] [] pos) aCy:=λaa s σ H Q I h=>
 wpAny_Dict_empty ⟨.ref s.heap.objs.size,_,I.laid (a:=s.heap.objs.size) (o:=.dK []) (t':=s.toks) (λ_ _ q=>bh _ q) (ap _) (Tz s.heap I.big),rfl,h _ (I.hok.fresh (ap _))⟩
theorem nH:PE X (.Dict [] [] pos) aDs:=λaa s σ H Q I h=>
 wpAny_Dict_empty ⟨.ref s.heap.objs.size,_,I.laid (a:=s.heap.objs.size) (o:=.dT []) (t':=s.toks) (λ_ _ q=>bh _ q) (ap _) (Is s.heap I.big),rfl,h _ (I.hok.fresh (ap _))⟩
section
variable{d:V}{r:Value}{o:Option V}
end
section
variable{o f:Expr}{ty tx:TE}
end
section
variable{aJ:List (dL×V)}
end
theorem aQ.turnedL(I:aQ X aa σ H s)(k:∀b o,b∉ch->s.heap.get? b=some o->h'.get? b=some o)(hf:∀b∈ch,iV X aa H b):aQ X aa σ H {s with heap:=h',toks:=t'}:=by
 have um:∀b u,H b=some u->b∉ch:=λb u e z=>by
  have q:=(hf b z).1
  rw[q] at e;cases e
 refine I.step (g':=s.gens) (d':=s.drawn) (ch:=ch) (λb hb=>⟨(hf b hb).2.2.2.1,(hf b hb).2.1,(hf b hb).2.2.2.2.1,(hf b hb).2.2.2.2.2⟩) (λb o _ _ hc e _=>k b o hc e) (λb o _ _ hc e _=>⟨o.slots,k b o hc e⟩)
  (λ_ _ _ _ n=>n) (λb o hc e=>⟨o,k b o hc e⟩) (λ_ _ e=>e) (λ_ _ _ e=>e) (λb ps e=>⟨#[],by rw[e];simp⟩) (λm hm=>?_) (λb u e=>?_) I.bare
 ·obtain⟨o,es,ep,ho,r⟩:=hm
  exact⟨o,es,ep,k _ o (λz=>(hf _ z).2.1 rfl) ho,r⟩
 ·refine(I.hok b u e).stay (λc v hc q=>k c v ?_ q) (λ_ q=>q) λ_ _ q=>q
  rcases hc with z|z
  ·rw[z];exact um b u e
  ·exact um c _ z
theorem aQ.turnedNew{ob:HO}(I:aQ X aa σ H s)(k:∀b o,b∉ch->s.heap.get? b=some o->h'.get? b=some o)(hf:∀b∈ch,iV X aa H b)(hT:s.heap.objs.size<=T)
  (new:cF X.prog X.w (upd H T ob) h' T ob):aQ X aa σ (upd H T ob) {s with heap:=h',toks:=t'}:=by
 have hn:H T=none:=I.hok.fresh hT
 have um:∀b u,H b=some u->b∉ch:=λb u e z=>by
  have q:=(hf b z).1
  rw[q] at e;cases e
 refine I.step (g':=s.gens) (d':=s.drawn) (ch:=ch) (λb hb=>⟨(hf b hb).2.2.2.1,(hf b hb).2.1,(hf b hb).2.2.2.2.1,(hf b hb).2.2.2.2.2⟩) (λb o _ _ hc e _=>k b o hc e) (λb o _ _ hc e _=>⟨o.slots,k b o hc e⟩)
  (λb o _ e n=>?_) (λb o hc e=>⟨o,k b o hc e⟩) (λb xs e=>?_) (λb o u e=>?_) (λb ps e=>⟨#[],?_⟩) (λm hm=>?_) (λb u e=>?_) I.bare
 ·rw[aC (b8 (i7 (ba e) hT))];exact n
 ·rw[aC (aD e hn)];exact e
 ·rw[aC (aD e hn)];exact e
 ·rw[aC (aD e hn),e];simp
 ·obtain⟨o,es,ep,ho,r⟩:=hm
  exact⟨o,es,ep,k _ o (λz=>(hf _ z).2.1 rfl) ho,r⟩
 ·by_cases hb:b=T
  ·subst hb
   rw[aB] at e
   cases e
   exact new
  ·rw[aC hb] at e
   refine(I.hok b u e).stay (λc v hc q=>k c v ?_ q) (λc q=>by rw[aC (aD q hn)];exact q) λc xs q=>by rw[aC (aD q hn)];exact q
   rcases hc with z|z
   ·rw[z];exact um b u e
   ·exact um c _ z
theorem aQ.lock{u:HO}(I:aQ X aa σ H s)(h:H d=some u)(mu:Mut (some u)):∃od,aQ X aa σ (upd H d (.frz od u)) s:=by
 have x:=I.hok d u h
 have ex:∃od,s.heap.get? d=some od:=by
  cases u with
  |lst xs=>obtain⟨_,_,_,_,e⟩:=x;exact⟨_,e⟩
  |dK aJ=>obtain⟨_,_,_,_,o,_,_,e,_⟩:=x;exact⟨o,e⟩
  |dT aJ=>obtain⟨_,_,_,_,o,_,_,e,_⟩:=x;exact⟨o,e⟩
  |set S n=>obtain⟨o,_,_,_,e,_⟩:=x;exact⟨o,e⟩
  |ins C dx fs=>obtain⟨_,_,_,e,_⟩:=x;exact⟨_,e⟩
  |ext φ=>obtain⟨_,⟨_,e⟩,_⟩:=x;exact⟨_,e⟩
  |_=>exact False.elim mu
 obtain⟨od,e⟩:=ex
 have new:cF X.prog X.w (upd H d (.frz od u)) s.heap d (.frz od u):=by
  refine⟨e,x.stay (λb v _ q=>q) (λb q=>?_) λb xs q=>?_⟩
  ·rw[aC (λz=>by rw[z,h] at q;cases q;exact mu)];exact q
  ·rw[aC (λz=>by rw[z,h] at q;cases q;exact mu)];exact q
 exact⟨od,I.write (x:=d) (e:=d) (t':=s.toks) (h':=s.heap) (by rw[h];exact mu) (.inl rfl) (λb v _ q=>q) ⟨od,e⟩ new⟩
theorem aQ.nofrz{u:HO}(I:aQ X aa σ H s)(h:H d=some u)(mu:Mut (some u)):∀o' u',X.H_0 d≠some (.frz o' u'):=λo' u' e=>by
 have q:=I.base.frzs d o' u' e
 rw[h] at q
 cases q
 exact mu
theorem aQ.unlock{u:HO}(I:aQ X aa σ H s)(h:H d=some (.frz od u))(hn:∀o' u',X.H_0 d≠some (.frz o' u')):aQ X aa σ (upd H d u) s:=by
 have zd:∀b o,H b=some o->(∀o' u',o≠.frz o' u')->b≠d:=λb o e aw z=>by
  rw[z,h] at e
  cases e
  exact aw _ _ rfl
 have neN:∀b,H b=none->b≠d:=λb e z=>by rw[z,h] at e;cases e
 refine⟨I.ok,I.os,I.bare,⟨I.base.keep,I.base.slot,λb o e n hx=>?_,I.base.there,λb xs e=>?_,λb o x e=>?_,λb ps e=>?_⟩,I.loc,I.cell,?_,λx c e=>?_,λp hp=>?_,λb o e=>?_,I.len⟩
 ·rw[aC (neN b (I.base.free b o e n hx))];exact I.base.free b o e n hx
 ·have q:=I.base.tups b xs e
  rw[aC (zd b _ q (λ_ _ z=>nomatch z))];exact q
 ·have q:=I.base.frzs b o x e
  rw[aC (λz=>by rw[z] at e;exact hn _ _ e)];exact q
 ·obtain⟨m,q⟩:=I.base.tbls b ps e
  exact⟨m,by rw[aC (zd b _ q (λ_ _ z=>nomatch z))];exact q⟩
 ·rw[aC (neN _ I.free)];exact I.free
 ·rw[aC (neN c (I.freeC x c e))];exact I.freeC x c e
 ·obtain⟨e,n,r⟩:=I.pin p hp
  exact⟨e,by rw[aC (neN _ n)];exact n,r⟩
 ·by_cases hb:b=d
  ·rw[hb,aB] at e
   cases e
   rw[hb]
   obtain⟨_,x⟩:=I.hok d _ h
   exact x.stay (λc v _ q=>q) (λc q=>by rw[aC (zd c _ q (λ_ _ z=>nomatch z))];exact q) λc xs q=>by rw[aC (zd c _ q (λ_ _ z=>nomatch z))];exact q
  ·rw[aC hb] at e
   exact(I.hok b o e).stay (λc v _ q=>q) (λc q=>by rw[aC (zd c _ q (λ_ _ z=>nomatch z))];exact q) λc xs q=>by rw[aC (zd c _ q (λ_ _ z=>nomatch z))];exact q
def aFh(t:TS):TS:=λD σ H=>∃d u,H d=some u/\Mut (some u)/\∀od,t ⟨λah H'=>H' d=some (.frz od u)/\D.nx ah (upd H' d u),λv H'=>H' d=some (.frz od u)/\D.rt v (upd H' d u),λah H'=>H' d=some (.frz od u)/\D.bk ah (upd H' d u),λah H'=>H' d=some (.frz od u)/\D.ct ah (upd H' d u)⟩ σ (upd H d (.frz od u))
theorem lT{st:Stmt}{t:TS}(h:PS X st t):PS X st (aFh t):=by
 intro aa s σ H D I hw
 obtain⟨d,u,hd,mu,hw⟩:=hw
 obtain⟨od,I1⟩:=I.lock hd mu
 refine cV (h aa s σ _ _ I1 (hw od)) λf s1 q=>?_
 cases f with
 |next=>obtain⟨ah,H',I2,e,q⟩:=q;exact⟨ah,_,I2.unlock e (I.nofrz hd mu),q⟩
 |brk=>obtain⟨ah,H',I2,e,q⟩:=q;exact⟨ah,_,I2.unlock e (I.nofrz hd mu),q⟩
 |cont=>obtain⟨ah,H',I2,e,q⟩:=q;exact⟨ah,_,I2.unlock e (I.nofrz hd mu),q⟩
 |ret v=>obtain⟨x,ah,H',I2,r,e,q⟩:=q;exact⟨x,ah,_,I2.unlock e (I.nofrz hd mu),r,q⟩
theorem sX{R:It->Hp->Prop}{J:It}{tn:Nat->Heap->Prop}{tk:Nat}(I:aQ X aa σ H s)(o:Obj)
  (T:zI X.prog X.w X.K tg J [s.heap.objs.size] s.heap.objs.size tn) (st:tn 0 (s.heap.push o)) (q:R J H):PIE X aa σ tg R (.ref s.heap.objs.size) {s with heap:=s.heap.push o,toks:=tk}:=by
 refine⟨s.heap.objs.size,[s.heap.objs.size],tn,J,H,rfl,I.kept λb ob e=>bh _ e,T,st,λb hb=>?_,q⟩
 have e:b=s.heap.objs.size:=by simpa using hb
 subst e
 exact I.fpOk (ap _) (I.hok.fresh (ap _))
def Its(x:Str):It:=⟨λi _=>i<x.cps.size,λi H v H'=>H'=H/\∃c,x.cps[i]?=some c/\v=.str ⟨#[c]⟩,λi _=>x.cps.size<=i⟩
theorem Hq(it:Addr)(x:Str)(t:Tok)(ty:String)(jz:ty="str_ascii_iterator"\/ty="str_iterator"):
  zI P w K tg (Its x) [it] it (λi h=>h.IsStrIter it ty x t i) where
 mem:=by simp
 obj:=λi h st b hb=>by
  have e:b=it:=by simpa using hb
  subst e
  obtain⟨o,e,c,d⟩:=st
  exact⟨o,e,λv z=>by rw[d] at z;cases z⟩
 keep:=λi h h' st k=>let ⟨o,ho,r⟩:=st;⟨o,k it (by simp) o ho,r⟩
 item:=by
  intro X hP hw hK hc i aa s σ H E I hf st hg
  subst hP hw hK
  obtain⟨f0,f1,f2,f3,f4,f5⟩:=hf it (by simp)
  have W:Walks X.prog X.w X.A it [it] [it] x.cps.size (SignAt x) (λi h=>h.IsStrIter it ty x t i):=by
   rcases jz with e|e
   ·rw[e];exact Walks.strAscii (I.ok.hd hc) it x t
   ·rw[e];exact Walks.strWide (I.ok.hd hc) it x t
  have cg:["enumerate","zip","dict_itemiterator","dict_reverseitemiterator","odict_iterator","itertools.zip_longest","itertools.pairwise"].contains ty=false:=by
   rcases jz with e|e
   ·rw[e];decide
   ·rw[e];decide
  refine W.item i s _ _ hg st λv h' tk hv d9 kk=>?_
  obtain⟨c,u,QX,rfl⟩:=hv
  have I1:aQ X aa σ H {s with heap:=h',toks:=tk}:=I.turned (λb o hb e=>kk b o (by simpa using hb) e) f0 f1 f3 f4 f5
  obtain⟨oi,e,cc,dd⟩:=id d9
  exact⟨_,rfl,As (s:={s with heap:=h',toks:=tk}) e cc dd cg ⟨.str ⟨#[c]⟩,H,I1,⟨u,rfl⟩,⟨rfl,c,QX,rfl⟩,d9,λb hb=>(hf b hb).1⟩⟩
 done:=by
  intro X hP hw hK hc i aa s σ H E I hf st hg
  subst hP hw hK
  obtain⟨f0,f1,f2,f3,f4,f5⟩:=hf it (by simp)
  have hx:x.cps[i]?=none:=JP hg
  rcases jz with e|e
  ·rw[e] at st
   exact wpAny_pyNext_ascii_end (I.ok.hd hc) st hx λh' eb=>⟨rfl,I.turned (t':=s.toks) (λb o hb e=>eb b o hb e) f0 f1 f3 f4 f5⟩
  ·rw[e] at st
   exact wpAny_pyNext_wide_end (I.ok.hd hc) st hx λh' eb=>⟨rfl,I.turned (t':=s.toks) (λb o hb e=>eb b o hb e) f0 f1 f3 f4 f5⟩
 self:=λA i s Q E st h=>by
  rcases jz with e|e
  ·rw[e] at st;exact wpAny_pyIter_striter_ascii st h
  ·rw[e] at st;exact wpAny_pyIter_striter_wide st h
def aFu(te:TE):TI:=fun σ H R=>te σ H λv H1=>∃x,v=.str x/\R (Its x) H1
theorem aBv(he:PE X e te):PI X tg e (aFu te):=by
 intro aa s σ H R I h
 refine cV (he aa s σ H _ I h) λv s1 ⟨y,H1,I1,r1,x,ex,q⟩=>?_
 subst ex
 obtain⟨t,rfl⟩:=r1
 cases ha:x.cps.all (· <128)
 ·exact wpAny_pyIter_wide ha (sX (tk:=s1.toks) I1 _ (Hq _ x t "str_iterator" (.inr rfl)) ⟨_,cb _ rfl,rfl,rfl⟩ q)
 ·exact wpAny_pyIter_ascii ha (sX (tk:=s1.toks) I1 _ (Hq _ x t "str_ascii_iterator" (.inl rfl)) ⟨_,cb _ rfl,rfl,rfl⟩ q)
theorem tP{es:Array DictEntry}(hd:(d==sysModules)=false)(ho:s.heap.get? d=some o)(hc:o.ExactDict)(kg:o.data=.dict es ep)
  (hQ:Q (.ref s.heap.objs.size) {s with heap:=s.heap.push {cls:=.type "dict_keyiterator",data:=.fields #[.ref d,.int 0 0,.int es.size 0,.int ep 0]}}):
  wpAny (model prog w) A (pyIter (.ref d)) Q E s:=by
 have hT:s.TypeIs (.ref d) "dict":=⟨o,ho,hc.1⟩
 refine CF hT F.slot_dict_iter (jf F.slot_dict_iter hT F.entry_dict_iter ?_ (F.args_dict_iter_1 _))
 unfold Builtin.«dict.__iter__»
 refine ac ?_
 unfold Builtin.Dict.dictSlotNone
 refine ac (JQ hT ?_)
 show wpAny _ _ (pure (Value.ref d)) _ _ s
 refine ag ?_
 show wpAny _ _ (Builtin.Dict.showsAll d>>=_) _ _ s
 unfold Builtin.Dict.showsAll
 rw[ae (by rw[hd];exact b6)]
 refine ac (ag ?_)
 refine ac (ph ho kg ?_)
 refine ac (wa ho kg ?_)
 refine ac (ig (ag ⟨_,rfl,"dict_keyiterator",_,⟨_,cb _ rfl,rfl⟩,AG.lookup,?_⟩))
 simpa[rawInt] using hQ
theorem pM{n:Nat}{es:Array DictEntry}{en:DictEntry}{Q:Option Value->Shared->Prop}(br:s.heap.IsKeyIter it d i n ep)(iu:s.heap.get? d=some od)(ou:od.data=.dict es ep)
  (hsz:es.size=n) (hx:es[i]?=some en) (hQ:∀h',h'.IsKeyIter it d (i+1) n ep->Heap.SameBut it s.heap h'->Q (some en.key) {s with heap:=h'}):wpAny (model prog w) A (pyNext (.ref it)) Q E s:=by
 obtain⟨o,ho,hc,hd⟩:=id br
 unfold pyNext
 refine ac (uc (mj (name:=Str.ofString "__next__") br.typeIs AG
  (jf AG br.typeIs OI ?_ (OJ _))))
 refine ac (ag ?_)
 refine ac ?_
 refine ac ?_
 first|refine ac (EX br.typeIs (ag ?_))|refine ac (EY br.typeIs (ag ?_))
 refine ac (wb ho hd ?_)
 have sd:Builtin.Dict_items.ownsTuple "dict_keyiterator"=false:=by decide
 simp only[sd,pf,ju]
 show wpAny _ _ (if (Value.ref d==Value.none)=true then _ else _) _ _ s
 rw[ae (show ¬((Value.ref d==Value.none)=true) from b6)]
 refine ac (ag ?_)
 refine ac (ph iu ou ?_)
 rw[ae (by rw[hsz];simp)]
 refine ac (ag ?_)
 refine ac (wa iu ou ?_)
 rw[ae (by simp)]
 refine ag ?_
 obtain⟨QY,uv⟩:=yb.mp hx
 simp only[show ¬((i:Int)<0) from by omega,ju,fc,EZ QY]
 refine ac ?_
 first|refine ac (EX br.typeIs (ag ?_))|refine ac (EY br.typeIs (ag ?_))
 refine ac (OK br.typeIs ?_)
 show wpAny _ _ (setField (.ref it) 1 (rawInt ((i:Int)+1))>>=_) _ _ s
 refine ac (lw ho hd (by simp) ?_)
 have uw:(s.heap.update it (Obj.mapFields (·.setIfInBounds 1 (rawInt ((i:Int)+1))))).IsKeyIter it d (i+1) n ep:=
  ⟨_,oj _ ho (ud (kc hd _)),(CH ..).trans hc,by rw[kc hd];simp[rawInt]⟩
 refine ac (j8 ?_)
 refine ac (OK (s:={s with heap:=s.heap.update it (Obj.mapFields (·.setIfInBounds 1 (rawInt ((i:Int)+1))))}) uw.typeIs ?_)
 show wpAny _ _ (pure es[i].key) _ _ _
 rw[uv]
 exact ag (ag ⟨_,rfl,ag (hQ _ uw (jx ..))⟩)
theorem lI{n:Nat}{es:Array DictEntry}{Q:Option Value->Shared->Prop}(hh:A.handled=none)(br:s.heap.IsKeyIter it d i n ep)(iu:s.heap.get? d=some od)(ou:od.data=.dict es ep)
  (hsz:es.size=n) (DF:n<=i) (hQ:∀h',Heap.ExtBut it s.heap h'->Q none {s with heap:=h'}):wpAny (model prog w) A (pyNext (.ref it)) Q E s:=by
 obtain⟨o,ho,hc,hd⟩:=id br
 unfold pyNext
 refine ac (uc (mj (name:=Str.ofString "__next__") br.typeIs AG
  (jf AG br.typeIs OI ?_ (OJ _))))
 refine ac (ag ?_)
 refine ac ?_
 refine ac ?_
 first|refine ac (EX br.typeIs (ag ?_))|refine ac (EY br.typeIs (ag ?_))
 refine ac (wb ho hd ?_)
 have sd:Builtin.Dict_items.ownsTuple "dict_keyiterator"=false:=by decide
 simp only[sd,pf,ju]
 show wpAny _ _ (if (Value.ref d==Value.none)=true then _ else _) _ _ s
 rw[ae (show ¬((Value.ref d==Value.none)=true) from b6)]
 refine ac (ag ?_)
 refine ac (ph iu ou ?_)
 rw[ae (by rw[hsz];simp)]
 refine ac (ag ?_)
 refine ac (wa iu ou ?_)
 rw[ae (by simp)]
 refine ag ?_
 have QZ:es.size<=i:=by rw[hsz];exact DF
 simp only[show ¬((i:Int)<0) from by omega,ju,fc,JP QZ]
 refine ac ?_
 first|refine ac (EX br.typeIs (ag ?_))|refine ac (EY br.typeIs (ag ?_))
 show wpAny _ _ (setField (.ref it) 0 .none>>=_) _ _ s
 refine ac (lw ho hd (by simp) ?_)
 show wpAny _ _ (newExc (.type "StopIteration") []>>=_) _ _ _
 refine ac ?_
 simp only[newExc,newTuple]
 refine ac (ig ?_ (by size_fits))
 refine ac (m:=firstArgMember _ _) (AH (a:=Value.none) (by first|rfl|(simp only[firstArgMember];rfl)) ?_)
 refine ig ?_ (by size_fits)
 simp only[raiseNew]
 refine ac (CJ ?_)
 rw[show A.in1.handled=none from hh]
 refine ac (ag (CK ?_))
 refine ac (AI (T:="StopIteration") (b:=true) ⟨_,cb _ rfl,rfl⟩ E1 ?_)
 exact ag (hQ _ (((jx ..).extBut.push _).push _))
theorem aDv{aJ:List (κ×V)}{vs:List (κ×Value)}(h:KV aJ vs):∀{i:Nat}{k:κ}{v:V},aJ[i]?=some (k,v)->∃u,vs[i]?=some (k,u)/\cB v u:=by
 unfold KV at h
 induction h with
 |nil=>intro i k v e;simp at e
 | @cons a b we wf r t ih=>
  intro i k v e
  cases i with
  |zero=>
   simp only[JR,Option.some.injEq] at e
   subst e
   refine⟨b.2,?_,r.2⟩
   simp only[JR]
   exact congrArg some (d6 r.1.symm rfl)
  |succ j=>
   simp only[OL] at e ⊢
   exact ih e
theorem iR{G:α->β->Prop}{we:List α}{wf:List β}(h:Paired G we wf):∀{i:Nat}{a:α},we[i]?=some a->∃b,wf[i]?=some b/\G a b:=by
 induction h with
 |nil=>intro i a e;simp at e
 | @cons a b we wf r t ih=>
  intro i a' e
  cases i with
  |zero=>
   simp only[JR,Option.some.injEq] at e
   subst e
   exact⟨b,rfl,r⟩
  |succ j=>
   simp only[OL] at e ⊢
   exact ih e
theorem Wf{k:dL}(h:uS k u=true):cB (kV k) u:=by
 rcases dM h with ⟨i,t,rfl,rfl⟩|⟨x,t,rfl,rfl⟩
 ·exact⟨t,rfl⟩
 ·exact⟨t,rfl⟩
theorem aQ.frzK{aJ:List (dL×V)}(I:aQ X aa σ H s)(h:H d=some (.frz o (.dK aJ))):
  (d==sysModules)=false/\s.heap.get? d=some o/\o.ExactDict/\∃(es:Array DictEntry)(ep:Nat) (vs:List (dL×Value)),o.data=.dict es ep/\es.size=aJ.length/\KV aJ vs/\s.heap.DictAt (dJ X.prog X.w) d vs ep:=by
 obtain⟨hd,z,hs,vs,kv,o',es,ep,ho,hx,b9,r⟩:=I.hok d _ h
 rw[hd] at ho
 cases ho
 refine⟨hs,hd,hx,es,ep,vs,b9,?_,kv,o,es,hd,hx,b9,r⟩
 have l1:=r.2.1.length
 have l2:aJ.length=vs.length:=Paired.length kv
 rw[d5] at l1
 omega
theorem aQ.frzT{aJ:List (List dL×V)}(I:aQ X aa σ H s)(h:H d=some (.frz o (.dT aJ))):
  (d==sysModules)=false/\s.heap.get? d=some o/\o.ExactDict/\∃(es:Array DictEntry)(ep:Nat),o.data=.dict es ep/\es.size=aJ.length/\
   ∀(i:Nat)(k:List dL)(v:V),aJ[i]?=some (k,v)->∃(en:DictEntry)(q:Addr),es[i]?=some en/\en.key=.ref q/\H q=some (.tup (k.map kV)):=by
 obtain⟨hd,z,hs,xs,pr,o',es,ep,ho,hx,b9,he,_⟩:=I.hok d _ h
 rw[hd] at ho
 cases ho
 refine⟨hs,hd,hx,es,ep,b9,?_,λi k v e=>?_⟩
 ·have l1:es.size=xs.length:=CN he
  have l2:aJ.length=xs.length:=Paired.length pr
  omega
 ·obtain⟨b,hb,e1,e2,_⟩:=iR pr e
  have q:=CO he i
  rw[hb] at q
  exact⟨_,b.2.1,q,rfl,e2⟩
def Itk(d:Addr)(o:Obj)(aJ:List (dL×V)):It:=
 ⟨λi H=>H d=some (.frz o (.dK aJ))/\i<aJ.length,λi H x H'=>H'=H/\∃k v,aJ[i]?=some (k,v)/\x=kV k,λi H=>H d=some (.frz o (.dK aJ))/\aJ.length<=i⟩
def Ue(d:Addr)(o:Obj)(aJ:List (List dL×V)):It:=
 ⟨λi H=>H d=some (.frz o (.dT aJ))/\i<aJ.length,λi H x H'=>H'=H/\∃(k:List dL)(v:V)(q:Addr),aJ[i]?=some (k,v)/\x=.ref q/\H q=some (.tup (k.map kV)),λi H=>H d=some (.frz o (.dT aJ))/\aJ.length<=i⟩
theorem pA{es fv:Array DictEntry}{l0:Nat}(h:o.data=.dict es ep)(h':o.data=.dict fv l0):fv=es/\l0=ep:=by
 rw[h] at h'
 cases h'
 exact⟨rfl,rfl⟩
section
variable{es:Array DictEntry}
theorem Rl{aJ:List (dL×V)}(it:Addr)(iu:o.data=.dict es ep):zI P w K tg (Itk d o aJ) [it] it (λi h=>h.IsKeyIter it d i aJ.length ep) where
 mem:=by simp
 obj:=λi h st b hb=>by
  have e:b=it:=by simpa using hb
  subst e
  obtain⟨oi,e,c,dd⟩:=st
  exact⟨oi,e,λv z=>by rw[dd] at z;cases z⟩
 keep:=λi h h' st k=>st.at λoi e=>k it (by simp) oi e
 item:=by
  intro X hP hw hK hc i aa s σ H E I hf st hg
  subst hP hw hK
  obtain⟨hd,hi⟩:=hg
  obtain⟨f0,f1,f2,f3,f4,f5⟩:=hf it (by simp)
  obtain⟨hs,f7,hx,fv,l0,vs,b9,hsz,kv,hm⟩:=I.frzK hd
  obtain⟨rfl,rfl⟩:=pA iu b9
  obtain⟨⟨k,v⟩,m6⟩:∃p,aJ[i]?=some p:=⟨aJ[i],ax hi⟩
  obtain⟨u,hu,ru⟩:=aDv kv m6
  have hl:aJ.length=vs.length:=Paired.length kv
  rw[hl] at st
  refine wpAny_pyNext_dict_item st hm hu λkey h' wn d9 sb=>?_
  have I1:aQ X aa σ H {s with heap:=h'}:=I.turned (t':=s.toks) (λb ob hb e=>(sb.2 b hb).trans e) f0 f1 f3 f4 f5
  obtain⟨oi,e,c,dd⟩:=id d9
  refine⟨key,rfl,As (s:={s with heap:=h'}) e c dd (by decide) ⟨kV k,H,I1,Wf (show uS k key=true from wn),⟨rfl,k,v,m6,rfl⟩,?_,λb hb=>(hf b hb).1⟩⟩
  show h'.IsKeyIter it d (i+1) aJ.length _
  rw[hl]
  exact d9
 done:=by
  intro X hP hw hK hc i aa s σ H E I hf st hg
  subst hP hw hK
  obtain⟨hd,hi⟩:=hg
  obtain⟨f0,f1,f2,f3,f4,f5⟩:=hf it (by simp)
  obtain⟨hs,f7,hx,fv,l0,vs,b9,hsz,kv,hm⟩:=I.frzK hd
  obtain⟨rfl,rfl⟩:=pA iu b9
  exact lI (I.ok.hd hc) st f7 b9 hsz hi λh' eb=>⟨rfl,I.turned (t':=s.toks) (λb ob hb e=>eb b ob hb e) f0 f1 f3 f4 f5⟩
 self:=λA i s Q E st h=>wpAny_pyIter_keyiter st h
theorem Lf{aJ:List (List dL×V)}(it:Addr)(iu:o.data=.dict es ep):zI P w K tg (Ue d o aJ) [it] it (λi h=>h.IsKeyIter it d i aJ.length ep) where
 mem:=by simp
 obj:=λi h st b hb=>by
  have e:b=it:=by simpa using hb
  subst e
  obtain⟨oi,e,c,dd⟩:=st
  exact⟨oi,e,λv z=>by rw[dd] at z;cases z⟩
 keep:=λi h h' st k=>st.at λoi e=>k it (by simp) oi e
 item:=by
  intro X hP hw hK hc i aa s σ H E I hf st hg
  subst hP hw hK
  obtain⟨hd,hi⟩:=hg
  obtain⟨f0,f1,f2,f3,f4,f5⟩:=hf it (by simp)
  obtain⟨hs,f7,hx,fv,l0,b9,hsz,qg⟩:=I.frzT hd
  obtain⟨rfl,rfl⟩:=pA iu b9
  obtain⟨⟨k,v⟩,m6⟩:∃p,aJ[i]?=some p:=⟨aJ[i],ax hi⟩
  obtain⟨en,q,uv,wn,hq⟩:=qg i k v m6
  refine pM st f7 b9 hsz uv λh' d9 sb=>?_
  have I1:aQ X aa σ H {s with heap:=h'}:=I.turned (t':=s.toks) (λb ob hb e=>(sb.2 b hb).trans e) f0 f1 f3 f4 f5
  obtain⟨oi,e,c,dd⟩:=id d9
  exact⟨en.key,rfl,As (s:={s with heap:=h'}) e c dd (by decide) ⟨.ref q,H,I1,wn,⟨rfl,k,v,q,m6,rfl,hq⟩,d9,λb hb=>(hf b hb).1⟩⟩
 done:=by
  intro X hP hw hK hc i aa s σ H E I hf st hg
  subst hP hw hK
  obtain⟨hd,hi⟩:=hg
  obtain⟨f0,f1,f2,f3,f4,f5⟩:=hf it (by simp)
  obtain⟨hs,f7,hx,fv,l0,b9,hsz,qg⟩:=I.frzT hd
  obtain⟨rfl,rfl⟩:=pA iu b9
  exact lI (I.ok.hd hc) st f7 b9 hsz hi λh' eb=>⟨rfl,I.turned (t':=s.toks) (λb ob hb e=>eb b ob hb e) f0 f1 f3 f4 f5⟩
 self:=λA i s Q E st h=>by
  refine CF st.typeIs OM (jf OM st.typeIs F.entry_dict_keyiterator_iter ?_ (F.args_dict_keyiterator_iter_1 _))
  show wpAny _ _ (ret (.ref it)) _ _ s
  exact ag ⟨_,rfl,"dict_keyiterator",_,st.typeIs,AG.lookup,h⟩
end
def aEx(td:TE):TI:=fun σ H R=>td σ H λx H1=>∃d o,x=.ref d/\((∃aJ,H1 d=some (.frz o (.dK aJ))/\R (Itk d o aJ) H1)\/∃aJ,H1 d=some (.frz o (.dT aJ))/\R (Ue d o aJ) H1)
theorem Mu(he:PE X e td):PI X tg e (aEx td):=by
 intro aa s σ H R I h
 refine cV (he aa s σ H _ I h) λu s1 ⟨x,H1,I1,rx,d,o,ex,q⟩=>?_
 subst ex
 obtain rfl:u=Value.ref d:=rx
 rcases q with ⟨aJ,hd,q⟩|⟨aJ,hd,q⟩
 ·obtain⟨hs,f7,hx,es,ep,vs,b9,hsz,kv,hm⟩:=I1.frzK hd
  refine tP hs f7 hx b9 (sX (tk:=s1.toks) I1 _ (Rl _ b9) ⟨_,cb _ rfl,rfl,?_⟩ q)
  rw[hsz]<;>rfl
 ·obtain⟨hs,f7,hx,es,ep,b9,hsz,qg⟩:=I1.frzT hd
  refine tP hs f7 hx b9 (sX (tk:=s1.toks) I1 _ (Lf _ b9) ⟨_,cb _ rfl,rfl,?_⟩ q)
  rw[hsz]<;>rfl
def Ite(K:Frag)(a:Addr):It:=
 ⟨λi H=>∃(xs:List V)(x:V),cP K H a xs/\xs[i]?=some x,λi H v H'=>∃T x,v=.ref T/\H T=none/\H'=upd H T (.tup [.int (i:Nat),x])/\∀xs,cP K H a xs->xs[i]?=some x,λi H=>∃xs:List V,cP K H a xs/\xs.length<=i⟩
theorem Pg{kk:Nat}(a e it:Addr):
  zI P w K (.Tuple js kk ip) (Ite K a) [e,it] e (λi h=>(∃old,IsEnum h e it ((i:Nat):Int) old)/\h.IsListIter it a i/\e≠it) where
 mem:=by simp
 obj:=λi h st b hb=>by
  obtain⟨⟨old,he⟩,⟨o,ho,hc,hd⟩,_⟩:=st
  have e':b=e\/b=it:=by simpa using hb
  rcases e' with z|z
  ·rw[z];exact⟨_,he,λv q=>nomatch q⟩
  ·rw[z];exact⟨o,ho,λv q=>by rw[hd] at q;cases q⟩
 keep:=λi h h' st k=>let ⟨⟨old,he⟩,hi,aw⟩:=st;⟨⟨old,k e (by simp) _ he⟩,hi.at λo q=>k it (by simp) o q,aw⟩
 item:=by
  intro X hP hw hK hc i aa s σ H E I hf st hg
  subst hP hw hK
  obtain⟨⟨old,he⟩,br,aw⟩:=st
  obtain⟨xs,x,hq,hx⟩:=hg
  obtain⟨its,rv,p,hz⟩:=I.list hq
  obtain⟨u,hu,ru⟩:=rv.get hx
  have l8:e<s.heap.objs.size:=ba he
  have ze:it<s.heap.objs.size:=by obtain⟨_,q,_⟩:=br;exact ba q
  refine wpAny_pyNext_enum_item he br p.isList (x:=u) (by simpa using hu) aw λh' ho uw hT hsz hk=>?_
  refine⟨_,rfl,wpAny_letOwnedTupleGo_enum (s:={s with heap:=h',toks:=s.toks+1}) ho λmw wu sb=>?_⟩
  have A0:mw.get? s.heap.objs.size=some {cls:=.type "tuple",data:=.seq #[.int i s.toks,u]}:=(sb.2 _ (pc l8)).trans hT
  have new:cF X.prog X.w (upd H s.heap.objs.size (.tup [.int (i:Nat),x])) mw s.heap.objs.size (.tup [.int (i:Nat),x]):=
   ⟨by show 2<=sizeLine;decide,[.int i s.toks,u],.cons ⟨_,rfl⟩ (.cons ru .nil),⟨_,A0,rfl,_,rfl⟩⟩
  have I1:aQ X aa σ (upd H s.heap.objs.size (.tup [.int (i:Nat),x])) {s with heap:=mw,toks:=s.toks+1}:=
   I.turnedNew (ch:=[e,it]) (λb ob hb q=>(sb.2 b (λz=>hb (by simp[z]))).trans (hk b ob (λz=>hb (by simp[z])) (λz=>hb (by simp[z])) q)) hf (ap _) new
  refine⟨.ref s.heap.objs.size,_,I1,rfl,⟨_,x,rfl,I.hok.fresh (ap _),rfl,λys hy=>by rw[I.list_inj hy hq];exact hx⟩,⟨⟨u,?_⟩,uw.at λo q=>(sb.2 it (au aw)).trans q,aw⟩,λb hb=>?_⟩
  ·have e1:((i+1:Nat):Int)=(i:Int)+1:=by omega
   rw[e1];exact wu
  ·have l9:b<s.heap.objs.size:=by
    have e':b=e\/b=it:=by simpa using hb
    rcases e' with z|z
    ·rw[z];exact l8
    ·rw[z];exact ze
   rw[aC (b8 l9)]
   exact(hf b hb).1
 done:=by
  intro X hP hw hK hc i aa s σ H E I hf st hg
  subst hP hw hK
  obtain⟨⟨old,he⟩,br,aw⟩:=st
  obtain⟨xs,hq,hx⟩:=hg
  obtain⟨its,rv,p,hz⟩:=I.list hq
  obtain⟨f0,f1,f2,f3,f4,f5⟩:=hf it (by simp)
  have hl:=rv.length
  exact wpAny_pyNext_enum_end (I.ok.hd hc) he br p.isList (by simp;omega) λh' eb=>⟨rfl,I.turned (t':=s.toks) (λb o hb q=>eb b o hb q) f0 f1 f3 f4 f5⟩
 self:=λA i s Q E st h=>let ⟨⟨_,he⟩,_⟩:=st;E2 he h
def aEp(K:Frag)(ta:TA):TI:=fun σ H R=>ta σ H λvs H1=>∃a xs,vs=[.ref a]/\cP K H1 a xs/\R (Ite K a) H1
theorem Xz{ta:TA}{p:Pos}{kk:Nat}(hg:Gl X "enumerate")(hm:X.mg "enumerate"=none)(ha:PA X [e] ta)(hs:starEach [e] X.env=[(false,eval e X.env)]:=by rfl):
  PI X (.Tuple js kk ip) (.Call (.Name "enumerate" p) [e] [] pos) (aEp X.K ta):=by
 intro aa s σ H R I h
 refine Call_ (lY I hg hm boot_enumerate (z9 (cV (ha pos aa s σ H _ I h) λus s1 ⟨vs,H1,I1,r1,q1⟩=>?_) hs rfl))
 obtain⟨a,xs,ex,hq,q⟩:=q1
 subst ex
 cases r1 with
 |cons r rr=>
  cases rr
  cases r
  obtain⟨its,rv,p',hz⟩:=I1.list hq
  refine call_enumerate_list p'.isList λh' he br hsz hk=>E2 he ?_
  have I2:aQ X aa σ H1 {s1 with heap:=h'}:=I1.kept (t':=s1.toks) hk
  refine⟨s1.heap.objs.size+1,[s1.heap.objs.size+1,s1.heap.objs.size],_,_,H1,rfl,I2,Pg a (s1.heap.objs.size+1) s1.heap.objs.size,⟨⟨.none,he⟩,br,ON _⟩,λb hb=>?_,q⟩
  have e':b=s1.heap.objs.size+1\/b=s1.heap.objs.size:=by simpa using hb
  have gj:s1.heap.objs.size<=b:=by
   rcases e' with z|z
   ·rw[z];exact CQ _ _
   ·rw[z];exact ap _
  exact I1.fpOk gj (I1.hok.fresh gj)
end L2
namespace Bits
open PySem PyProof.Rows
end Bits
namespace TL
open PySem PySem.Builtin PySem.Builtin.Str PySem.StrLaws
end TL
namespace L2
open PySem PySem.Spec PyProof.Rows
section
variable{Q:VK}
end
section
variable{o:Expr}{to:TE}
end
end L2
namespace Att
open PySem PySem.W PySem.Calls PyProof.Rows
section
variable{K:Frag}
end
end Att
namespace L2
open PySem PySem.Spec PyProof.Rows
abbrev bN:Iz:=λ_ _ _ _ _ _=>False
abbrev E0:XK:=λ_ _ _=>False
theorem aX:iU bN X E0:=λ_ _ _ _ _ _ _ h=>h.elim
structure eZ(K:Frag)(x aq:Str)(st:Stmt)(f:Addr)(fd:FuncData):Prop where
 ex:∃(oc:Value)(od:Option Addr)(kV bq pm:Value)(an:Option Addr)(ak ct:Value) (df:Array (Option Value)),
  fd=fnOf x aq (eU st) (dX st) (aG st) .none kV bq pm an ak ct/\K.lookup f=some ⟨oc,od,.func fd,df⟩/\codeIn K ak aq=true
 kp:keepIn K (.ref f)=true
variable{K:Frag}
theorem eZ.ok{st:Stmt}(F:eZ K x aq st f fd)(S:aN N ps (aG st))(len:∀vs H Q E,sp vs H Q E->vs.length=ps.length)
  (wo:∀(ak:Value)(A:Around)(outer:List Env)(s:Shared)(H:Hp)(vs:List V)(Q:VK)(E:XK),eY k (A.deeper (envOfC aq (aG st) s.heap.objs.size f ak))->sp vs H Q E->
   ∃t,Ar (Dd bN P w K mg base N aq (aG st) f ak A outer s H E).nox (dX st) t/\t {nx:=λ_ H'=>Q .non H',rt:=Q} (mH N vs) H):bO P w K mg base bN (k+1) f fd ps sp:=by
 obtain⟨oc,od,kV,bq,pm,an,ak,ct,df,rfl,lk,i'⟩:=F.ex
 refine aBe lk i' S len λA outer s H vs Q E hr ke=>?_
 obtain⟨t,h,q⟩:=wo ak A outer s H vs Q E hr ke
 exact⟨t,h.nox,q⟩
theorem eZ.binds{st:Stmt}(F:eZ K x aq st f fd)
  (h:∀(kV bq pm:Value)(an:Option Addr)(ak ct:Value)(us:List Value),us.length=ps.length->bindArgs (fnOf x aq (eU st) (dX st) (aG st) .none kV bq pm an ak ct) ⟨us,[]⟩=pure (ps.zip us)):eR K fd ps []:=by
 obtain⟨oc,od,kV,bq,pm,an,ak,ct,df,rfl,lk,i'⟩:=F.ex
 exact .all (h kV bq pm an ak ct)
theorem sW{st:Stmt}{oc:Value}{od an:Option Addr}{df:Array (Option Value)}{kV bq pm ak ct:Value}(l:K.lookup f=some ⟨oc,od,.func (fnOf x aq (eU st) (dX st) (aG st) .none kV bq pm an ak ct),df⟩)
  (c:codeIn K ak aq=true) (k:keepIn K (.ref f)=true):eZ K x aq st f (fnOf x aq (eU st) (dX st) (aG st) .none kV bq pm an ak ct):=⟨⟨oc,od,kV,bq,pm,an,ak,ct,df,rfl,l,c⟩,k⟩
theorem iQ(hr:eY k A):A.units+1<cLine:=Nat.lt_of_le_of_lt (Nat.add_le_add_left (by decide:1<=64) _) hr.units
theorem pv(i:Nat)(hN:X.N[i]?=some x:=by rfl)(hv:Vis X.env.scope x:=by first|exact Or.inl rfl|exact Or.inr (Or.inl rfl)|exact Or.inr (Or.inr rfl))(hd:(x==("__debug__":Str))=false:=by decide)
  (i':(x==("__classdict__":Str))=false:=by decide):PE X (.Name x pos) (cU i):=aCg hN hv hd i'
theorem vI{A:Prop}(h:B):if false=true then A else B:=by
 rw[ae b6]
 exact h
theorem Wd{A:Prop}(h:A):if true=true then A else B:=by
 rw[af rfl]
 exact h
theorem bZ{c A:Prop}[Decidable c](h1:c->A)(h2:¬c->B):if c then A else B:=by
 by_cases h:c
 ·rw[af h]
  exact h1 h
 ·rw[ae h]
  exact h2 h
def aK(H H':Hp):Prop:=∀b o,H b=some o->H' b=some o
theorem aK.trans{H H1 H2:Hp}(a:aK H H1)(b:aK H1 H2):aK H H2:=λc o h=>b c o (a c o h)
theorem aK.free(e:aK H H'){l:Addr}(h:H' l=Option.none):H l=Option.none:=by
 cases q:H l with
 |none=>rfl
 |some o=>
  rw[e l o q] at h
  cases h
theorem aK.seq(e:aK H H')(h:cP K H a xs):cP K H' a xs:=by
 rcases h with (h|⟨o,h⟩)|h
 ·exact .inl (.inl (e _ _ h))
 ·exact .inl (.inr ⟨o,e _ _ h⟩)
 ·exact .inr h
section
variable[DecidableEq κ]
end
end L2
namespace L2
open PySem PySem.Spec PyProof.Rows
open PySem.W (WData Codec OpenSpec Well WellAll ReadsW ReadsAllW)
mutual
inductive Dw(K:Frag)(H:Hp):V->WData->Prop
 |non:Dw K H .non .none
 |bl (b:Bool):Dw K H (.bl b) (.bool b)
 |int (i:Int):Dw K H (.int i) (.int i)
 |str (x:Str):Dw K H (.str x) (.str x)
 |byt (b:Array UInt8):Dw K H (.byt b) (.bytes b.toList)
 |lst {a:Addr} {xs:List V} {ds:List WData}:cP K H a xs->nR K H xs ds->Dw K H (.ref a) (.list ds)
 |tup {a:Addr} {xs:List V} {ds:List WData}:cG K H a xs->nR K H xs ds->Dw K H (.ref a) (.tuple ds)
inductive nR(K:Frag)(H:Hp):List V->List WData->Prop
 |nil:nR K H [] []
 |cons {v:V} {vs:List V} {d:WData} {ds:List WData}:Dw K H v d->nR K H vs ds->nR K H (v::vs) (d::ds)
end
variable{K:Frag}
theorem Nl:∀ns:List Int,nR K H (ns.map V.int) (ns.map WData.int)
 |[]=>.nil
 |n::r=>.cons (.int n) (Nl r)
theorem vT:∀(ns:List Int)(xs:List V),nR K H xs (ns.map WData.int)->xs=ns.map V.int
 |[],xs,h=>by
  cases h
  rfl
 |n::r,xs,h=>by
  cases h with
  |cons h1 h2=>
   cases h1
   rw[vT r _ h2]<;>rfl
section
variable{R:WRecords}{cl:Str->Option Addr}
theorem aB3(hok:lC P w H h)(KX:K.In h)(q:cP K H a xs):∃(its:List Value)(o:Obj)(n:Nat),bK xs its/\h.get? a=some o/\o.cls=.type "list"/\o.data=.seq its.toArray n:=by
 rcases q with q|⟨o,its,n,e,hc,_,hd,_,hv⟩
 ·obtain⟨_,its,n,hv,e⟩:=(show cF P w H h a (.lst xs) from q.ok hok)
  exact⟨its,_,n,hv,e,rfl,rfl⟩
 ·exact⟨its.toList,o,n,hv,KX _ _ e,hc,by simp[hd]⟩
theorem aDi(hok:lC P w H h)(KX:K.In h)(q:cG K H a xs):∃(its:List Value)(o:Obj)(n:Nat),bK xs its/\h.get? a=some o/\o.cls=.type "tuple"/\o.data=.seq its.toArray n:=by
 rcases q with q|⟨o,its,n,e,hc,hd,_,hv⟩
 ·obtain⟨_,its,hv,o,e,hc,n,hd⟩:=(show cF P w H h a (.tup xs) from q.ok hok)
  exact⟨its,o,n,hv,e,hc,hd⟩
 ·exact⟨its.toList,o,n,hv,KX _ _ e,hc,by simp[hd]⟩
mutual
theorem Dw.reads(hok:lC P w H h)(KX:K.In h):∀(d:WData)(v:V)(u:Value),Dw K H v d->cB v u->∃as,ReadsW R cl h u d as
 |.none,_,_,x,r=>by
  cases x
  cases r
  exact⟨_,ReadsW.none⟩
 |.bool b,_,_,x,r=>by
  cases x
  cases r
  exact⟨_,ReadsW.bool b⟩
 |.int i,_,_,x,r=>by
  cases x
  obtain⟨t,rfl⟩:=r
  exact⟨_,ReadsW.int i t⟩
 |.str s,_,_,x,r=>by
  cases x
  obtain⟨t,rfl⟩:=r
  exact⟨_,ReadsW.str s t⟩
 |.bytes b,_,_,x,r=>by
  cases x
  obtain⟨t,rfl⟩:=r
  exact⟨_,ReadsW.bytes _ t⟩
 |.list ds,_,_,x,r=>by
  cases x with
  |lst hs ha=>
   cases r
   obtain⟨its,o,n,rv,ho,hc,hd⟩:=aB3 hok KX hs
   obtain⟨as,hr⟩:=Dw.readsAll hok KX ds _ its ha rv
   exact⟨_,ReadsW.list ho hc hd hr⟩
 |.tuple ds,_,_,x,r=>by
  cases x with
  |tup hs ha=>
   cases r
   obtain⟨its,o,n,rv,ho,hc,hd⟩:=aDi hok KX hs
   obtain⟨as,hr⟩:=Dw.readsAll hok KX ds _ its ha rv
   exact⟨_,ReadsW.tuple ho hc hd hr⟩
 |.float _,_,_,x,_=>by cases x
 |.dict _,_,_,x,_=>by cases x
 |.bytearray _,_,_,x,_=>by cases x
 |.set _,_,_,x,_=>by cases x
 |.frozenset _,_,_,x,_=>by cases x
 |.obj _ _,_,_,x,_=>by cases x
theorem Dw.readsAll(hok:lC P w H h)(KX:K.In h):∀(ds:List WData)(vs:List V)(us:List Value),nR K H vs ds->bK vs us->∃as,ReadsAllW R cl h us ds as
 |[],_,_,x,r=>by
  cases x
  cases r
  exact⟨_,ReadsAllW.nil⟩
 |d::ds,_,_,x,r=>by
  cases x with
  |cons h1 h2=>
   cases r with
   |cons r1 r2=>
    obtain⟨as,q1⟩:=Dw.reads hok KX d _ _ h1 r1
    obtain⟨bs,q2⟩:=Dw.readsAll hok KX ds _ _ h2 r2
    exact⟨_,ReadsAllW.cons q1 q2⟩
end
end
mutual
def Mg:WData->Bool
 |.none=>true
 |.bool _=>true
 |.int _=>true
 |.str _=>true
 |.bytes _=>true
 |.list xs=>vK xs
 |.tuple xs=>vK xs
 |_=>false
def vK:List WData->Bool
 |[]=>true
 |x::r=>Mg x && vK r
end
theorem Il{f:α->WData}(h:∀a,Mg (f a)=true):∀l:List α,vK (l.map f)=true
 |[]=>rfl
 |x::r=>by
  show (Mg (f x) && vK (r.map f))=true
  rw[h x,Il h r]<;>rfl
theorem nV:∀(c:Codec)(a:c.denote),Mg (c.enc a)=true
 |.unit,_=>rfl
 |.bool,_=>rfl
 |.int _ _,_=>rfl
 |.nat _ _,_=>rfl
 |.u8,_=>rfl
 |.bytes _ _,_=>rfl
 |.text _ _ _ _,_=>rfl
 |.list _ _ c,a=>Il (λx=>nV c x) a
 |.pair c d,a=>by
  show (Mg (c.enc a.1) && (Mg (d.enc a.2) && true))=true
  rw[nV c a.1,nV d a.2]<;>rfl
 |.triple c d e,a=>by
  show (Mg (c.enc a.1) && (Mg (d.enc a.2.1) && (Mg (e.enc a.2.2) && true)))=true
  rw[nV c a.1,nV d a.2.1,nV e a.2.2]<;>rfl
 |.option c,none=>rfl
 |.option c,some x=>nV c x
theorem Af:∀(cs:List Codec)(a:Codec.denoteAll cs),vK (Codec.encAll cs a)=true
 |[],_=>rfl
 |c::cs,a=>by
  show (Mg (c.enc a.1) && vK (Codec.encAll cs a.2))=true
  rw[nV c a.1,Af cs a.2]<;>rfl
theorem pX:∀{xs:List WData}{d:WData},d∈xs->d.weight<=WData.weightAll xs
 |[],d,h=>absurd h (by simp)
 |x::r,d,h=>by
  show d.weight<=x.weight+1+WData.weightAll r
  rcases ao.mp h with e|m
  ·rw[e]
   omega
  ·have z:=pX m
   omega
def Ez:Value->V
 |.none=>.non
 |.bool b=>.bl b
 |.int i _=>.int i
 |.str x _=>.str x
 |.bytes b _=>.byt b
 |.ref a=>.ref a
 |_=>.non
def Qh(A:List Addr):Value->Prop
 |.none=>True
 |.bool _=>True
 |.int _ _=>True
 |.str _ _=>True
 |.bytes _ _=>True
 |.ref a=>a∈A
 |_=>False
theorem Qh.mono{A B:List Addr}(h:∀a∈A,a∈B):∀{u:Value},Qh A u->Qh B u:=λ{u} x=>by
 cases u with
 |ref a=>exact h a x
 |none=>trivial
 |bool b=>trivial
 |int i t=>trivial
 |str s t=>trivial
 |bytes b t=>trivial
 |_=>exact False.elim x
theorem Sk{A:List Addr}(x:Qh A u):cB (Ez u) u:=by
 cases u with
 |ref a=>rfl
 |none=>rfl
 |bool b=>rfl
 |int i t=>exact⟨t,rfl⟩
 |str s t=>exact⟨t,rfl⟩
 |bytes b t=>exact⟨t,rfl⟩
 |_=>exact False.elim x
theorem kT{A:List Addr}:∀{vs:List Value},(∀u∈vs,Qh A u)->bK (vs.map Ez) vs
 |[],_=>.nil
 |u::r,h=>.cons (Sk (h u (bf ..))) (kT λx hx=>h x (az _ hx))
def mE(h:Heap)(A:List Addr)(a:Addr):Prop:=∃vs:List Value,vs.length<=sizeLine/\(∀u∈vs,Qh A u)/\
 (h.get? a=some {cls:=.type "list",data:=.seq vs.toArray}\/h.get? a=some {cls:=.type "tuple",data:=.seq vs.toArray})
theorem mE.mono{A B:List Addr}(k:∀a∈A,a∈B)(x:mE h A a):mE h B a:=by
 obtain⟨vs,h1,h2,h3⟩:=x
 exact⟨vs,h1,λu hu=>(h2 u hu).mono k,h3⟩
theorem jJ{P:Params}:∀{vs:List Value}{ds:List WData},WellAll P h vs ds->vs.length=ds.length
 |_,_,.nil=>rfl
 |_,_,.cons _ b=>by
  show _+1=_+1
  rw[jJ b]
theorem Av{P:Params}(x:Well P h v (.list ds)):∃(a:Addr)(vs:List Value),v=.ref a/\h.get? a=some {cls:=.type "list",data:=.seq vs.toArray}/\WellAll P h vs ds:=by
 cases x with
 |list ho ki=>exact⟨_,_,rfl,ho,ki⟩
theorem yR{P:Params}(x:Well P h v (.tuple ds)):∃(a:Addr)(vs:List Value),v=.ref a/\h.get? a=some {cls:=.type "tuple",data:=.seq vs.toArray}/\WellAll P h vs ds:=by
 cases x with
 |tuple ho ki=>exact⟨_,_,rfl,ho,ki⟩
theorem Bf{P:Params}{d:WData}(x:WellAll P h us (d::ds)):∃(v:Value)(vs:List Value),us=v::vs/\Well P h v d/\WellAll P h vs ds:=by
 cases x with
 |cons a b=>exact⟨_,_,rfl,a,b⟩
theorem Mj{n:Nat}(h:n<=1048576):n<=sizeLine:=gm h (by decide)
section
variable{P:Params}
mutual
theorem Sr:∀(d:WData)(v:Value),Well P h v d->Mg d=true->d.weight<=1048576->∃A:List Addr,Qh A v/\∀a∈A,mE h A a
 |.none,_,x,_,_=>by
  cases x
  exact⟨[],trivial,λa m=>absurd m (by simp)⟩
 |.bool b,_,x,_,_=>by
  cases x
  exact⟨[],trivial,λa m=>absurd m (by simp)⟩
 |.int i,_,x,_,_=>by
  cases x
  exact⟨[],trivial,λa m=>absurd m (by simp)⟩
 |.str s,_,x,_,_=>by
  cases x
  exact⟨[],trivial,λa m=>absurd m (by simp)⟩
 |.bytes b,_,x,_,_=>by
  cases x
  exact⟨[],trivial,λa m=>absurd m (by simp)⟩
 |.list ds,_,x,p,z=>by
  obtain⟨a,vs,rfl,ho,ki⟩:=Av x
  have z2:WData.weightAll ds<=1048576:=z
  obtain⟨A,h1,h2⟩:=qP ds _ ki p λd hd=>gm (pX hd) z2
  have k:∀b∈A,b∈a::A:=λb hb=>az _ hb
  refine⟨a::A,bf ..,λb hb=>?_⟩
  rcases ao.mp hb with e|m
  ·rw[e]
   exact⟨vs,Mj (by rw[jJ ki];exact gm (PySem.W.length_le_weightAllW ds) z2),λu hu=>(h1 u hu).mono k,.inl ho⟩
  ·exact(h2 b m).mono k
 |.tuple ds,_,x,p,z=>by
  obtain⟨a,vs,rfl,ho,ki⟩:=yR x
  have z2:WData.weightAll ds<=1048576:=z
  obtain⟨A,h1,h2⟩:=qP ds _ ki p λd hd=>gm (pX hd) z2
  have k:∀b∈A,b∈a::A:=λb hb=>az _ hb
  refine⟨a::A,bf ..,λb hb=>?_⟩
  rcases ao.mp hb with e|m
  ·rw[e]
   exact⟨vs,Mj (by rw[jJ ki];exact gm (PySem.W.length_le_weightAllW ds) z2),λu hu=>(h1 u hu).mono k,.inr ho⟩
  ·exact(h2 b m).mono k
 |.float _,_,_,p,_=>Bool.noConfusion (show false=true from p)
 |.dict _,_,_,p,_=>Bool.noConfusion (show false=true from p)
 |.bytearray _,_,_,p,_=>Bool.noConfusion (show false=true from p)
 |.set _,_,_,p,_=>Bool.noConfusion (show false=true from p)
 |.frozenset _,_,_,p,_=>Bool.noConfusion (show false=true from p)
 |.obj _ _,_,_,p,_=>Bool.noConfusion (show false=true from p)
theorem qP:∀(ds:List WData)(vs:List Value),WellAll P h vs ds->vK ds=true->(∀d∈ds,d.weight<=1048576)->∃A:List Addr,(∀u∈vs,Qh A u)/\∀a∈A,mE h A a
 |[],_,x,_,_=>by
  cases x
  exact⟨[],λu m=>absurd m (by simp),λa m=>absurd m (by simp)⟩
 |d::ds,_,x,p,z=>by
  obtain⟨v,vs,rfl,x1,x2⟩:=Bf x
  have q:Mg d=true/\vK ds=true:=OO.mp p
  obtain⟨A,a1,a2⟩:=Sr d v x1 q.1 (z d (bf ..))
  obtain⟨B,b1,b2⟩:=qP ds vs x2 q.2 λe he=>z e (az _ he)
  have kA:∀b∈A,b∈A++B:=λb hb=>je.mpr (.inl hb)
  have kB:∀b∈B,b∈A++B:=λb hb=>je.mpr (.inr hb)
  refine⟨A++B,λu hu=>?_,λb hb=>?_⟩
  ·rcases ao.mp hu with e|m
   ·rw[e]
    exact a1.mono kA
   ·exact(b1 u m).mono kB
  ·rcases je.mp hb with m|m
   ·exact(a2 b m).mono kA
   ·exact(b2 b m).mono kB
end
end
def Zz(o:Obj):Option HO:=match o.data with
 |.seq vs _=>if (o.cls==Value.type "list")=true then some (.frz o (.lst (vs.toList.map Ez))) else some (.frz o (.tup (vs.toList.map Ez)))
 |_=>none
def lU(K:Frag)(h:Heap)(A:List Addr):Hp:=λb=>if b∈A then (if (K.lookup b).isNone=true then (h.get? b).bind Zz else none) else none
def Oj(H:Hp):Prop:=∀b,H b=none\/∃o u,H b=some (.frz o u)
theorem Gx(vs:List Value):Zz {cls:=.type "list",data:=.seq vs.toArray}=some (.frz {cls:=.type "list",data:=.seq vs.toArray} (.lst (vs.map Ez))):=by
 show (if (Value.type "list"==Value.type "list")=true then some (HO.frz {cls:=.type "list",data:=.seq vs.toArray} (.lst (vs.toArray.toList.map Ez))) else some (HO.frz {cls:=.type "list",data:=.seq vs.toArray} (.tup (vs.toArray.toList.map Ez))))=_
 rw[af (E3 _)]
theorem Hw(vs:List Value):Zz {cls:=.type "tuple",data:=.seq vs.toArray}=some (.frz {cls:=.type "tuple",data:=.seq vs.toArray} (.tup (vs.map Ez))):=by
 show (if (Value.type "tuple"==Value.type "list")=true then some (HO.frz {cls:=.type "tuple",data:=.seq vs.toArray} (.lst (vs.toArray.toList.map Ez))) else some (HO.frz {cls:=.type "tuple",data:=.seq vs.toArray} (.tup (vs.toArray.toList.map Ez))))=_
 rw[ae (by decide)]
section
variable{A:List Addr}
theorem vQ(hb:b∈A)(hk:K.lookup b=none)(e:h.get? b=some o):lU K h A b=Zz o:=by
 unfold lU
 rw[af hb,hk,af (show (none:Option Obj).isNone=true from rfl),e]<;>rfl
theorem aAi{u:HO}(q:lU K h A b=some u):b∈A/\K.lookup b=none:=by
 unfold lU at q
 by_cases hb:b∈A
 ·rw[af hb] at q
  cases hk:K.lookup b with
  |none=>exact⟨hb,rfl⟩
  |some o=>
   rw[hk,ae (by simp)] at q
   cases q
 ·rw[ae hb] at q
  cases q
theorem wK(ar:∀a∈A,mE h A a){u:HO}(q:lU K h A b=some u):K.lookup b=none/\∃vs:List Value,vs.length<=sizeLine/\(∀u∈vs,Qh A u)/\
  ((h.get? b=some {cls:=.type "list",data:=.seq vs.toArray}/\u=.frz {cls:=.type "list",data:=.seq vs.toArray} (.lst (vs.map Ez)))\/
   (h.get? b=some {cls:=.type "tuple",data:=.seq vs.toArray}/\u=.frz {cls:=.type "tuple",data:=.seq vs.toArray} (.tup (vs.map Ez)))):=by
 obtain⟨hb,hk⟩:=aAi q
 obtain⟨vs,h1,h2,h3⟩:=ar b hb
 refine⟨hk,vs,h1,h2,?_⟩
 rcases h3 with e|e
 ·rw[vQ hb hk e,Gx] at q
  exact .inl ⟨e,(Option.some.inj q).symm⟩
 ·rw[vQ hb hk e,Hw] at q
  exact .inr ⟨e,(Option.some.inj q).symm⟩
theorem Qa(ar:∀a∈A,mE h A a):Oj (lU K h A):=λb=>by
 cases q:lU K h A b with
 |none=>exact .inl rfl
 |some u=>
  obtain⟨_,vs,_,_,⟨_,e⟩|⟨_,e⟩⟩:=wK ar q
  ·exact .inr ⟨_,_,by rw[e]⟩
  ·exact .inr ⟨_,_,by rw[e]⟩
theorem Yp(ar:∀a∈A,mE h A a):lC P w (lU K h A) h:=λb u q=>by
 obtain⟨_,vs,h1,h2,⟨e,rfl⟩|⟨e,rfl⟩⟩:=wK ar q
 ·exact⟨e,by rw[ai];exact h1,vs,_,kT h2,e⟩
 ·exact⟨e,by rw[ai];exact h1,vs,kT h2,_,e,rfl,_,rfl⟩
theorem vL{c c':Value}{vs:List Value}(e:(some {cls:=c,data:=.seq vs.toArray}:Option Obj)=some {cls:=c',data:=.seq us.toArray}):c=c'/\vs=us:=by
 have e1:=Option.some.inj e
 have e2:c=c':=congrArg Obj.cls e1
 have e3:Data.seq vs.toArray=Data.seq us.toArray:=congrArg Obj.data e1
 injection e3 with e4
 refine⟨e2,?_⟩
 have e5:=congrArg Array.toList e4
 simpa using e5
theorem aF5(KX:K.In h)(ar:∀a∈A,mE h A a){vs:List Value}(ha:a∈A)(e:h.get? a=some {cls:=.type "list",data:=.seq vs.toArray}):(∀u∈vs,Qh A u)/\cP K (lU K h A) a (vs.map Ez):=by
 obtain⟨us,h1,h2,h3⟩:=ar a ha
 have hu:us=vs:=by
  rcases h3 with q|q
  ·rw[e] at q
   exact(vL q).2.symm
  ·rw[e] at q
   exact absurd (Value.type.inj (vL q).1) (by decide)
 subst hu
 refine⟨h2,?_⟩
 cases hk:K.lookup a with
 |none=>exact .inl (.inr ⟨_,by rw[vQ ha hk e,Gx]⟩)
 |some o=>
  have e2:=KX a o hk
  rw[e] at e2
  obtain rfl:=Option.some.inj e2
  exact .inr ⟨_,us.toArray,_,hk,rfl,rfl,rfl,by rw[ca];exact h1,by simpa using kT h2⟩
theorem aGe(KX:K.In h)(ar:∀a∈A,mE h A a){vs:List Value}(ha:a∈A)(e:h.get? a=some {cls:=.type "tuple",data:=.seq vs.toArray}):(∀u∈vs,Qh A u)/\cG K (lU K h A) a (vs.map Ez):=by
 obtain⟨us,h1,h2,h3⟩:=ar a ha
 have hu:us=vs:=by
  rcases h3 with q|q
  ·rw[e] at q
   exact absurd (Value.type.inj (vL q).1) (by decide)
  ·rw[e] at q
   exact(vL q).2.symm
 subst hu
 refine⟨h2,?_⟩
 cases hk:K.lookup a with
 |none=>exact .inl (.inr ⟨_,by rw[vQ ha hk e,Hw]⟩)
 |some o=>
  have e2:=KX a o hk
  rw[e] at e2
  obtain rfl:=Option.some.inj e2
  exact .inr ⟨_,us.toArray,_,hk,rfl,rfl,by rw[ca];exact h1,by simpa using kT h2⟩
mutual
theorem aDw{Pm:Params}(KX:K.In h)(ar:∀a∈A,mE h A a):∀(d:WData)(v:Value),Well Pm h v d->Mg d=true->Qh A v->Dw K (lU K h A) (Ez v) d
 |.none,_,x,_,_=>by
  cases x
  exact .non
 |.bool b,_,x,_,_=>by
  cases x
  exact .bl b
 |.int i,_,x,_,_=>by
  cases x
  exact .int i
 |.str s,_,x,_,_=>by
  cases x
  exact .str s
 |.bytes b,_,x,_,_=>by
  cases x
  have z:=Dw.byt (K:=K) (H:=lU K h A) b.toArray
  exact z
 |.list ds,_,x,p,hu=>by
  obtain⟨a,vs,rfl,ho,ki⟩:=Av x
  obtain⟨h2,hs⟩:=aF5 KX ar hu ho
  exact .lst hs (Eh KX ar ds _ ki p h2)
 |.tuple ds,_,x,p,hu=>by
  obtain⟨a,vs,rfl,ho,ki⟩:=yR x
  obtain⟨h2,hs⟩:=aGe KX ar hu ho
  exact .tup hs (Eh KX ar ds _ ki p h2)
 |.float _,_,_,p,_=>Bool.noConfusion (show false=true from p)
 |.dict _,_,_,p,_=>Bool.noConfusion (show false=true from p)
 |.bytearray _,_,_,p,_=>Bool.noConfusion (show false=true from p)
 |.set _,_,_,p,_=>Bool.noConfusion (show false=true from p)
 |.frozenset _,_,_,p,_=>Bool.noConfusion (show false=true from p)
 |.obj _ _,_,_,p,_=>Bool.noConfusion (show false=true from p)
theorem Eh{Pm:Params}(KX:K.In h)(ar:∀a∈A,mE h A a):∀(ds:List WData)(vs:List Value),WellAll Pm h vs ds->vK ds=true->(∀u∈vs,Qh A u)->nR K (lU K h A) (vs.map Ez) ds
 |[],_,x,_,_=>by
  cases x
  exact .nil
 |d::ds,_,x,p,hu=>by
  obtain⟨v,vs,rfl,x1,x2⟩:=Bf x
  have q:Mg d=true/\vK ds=true:=OO.mp p
  exact .cons (aDw KX ar d v x1 q.1 (hu _ (bf ..))) (Eh KX ar ds vs x2 q.2 λu m=>hu u (az _ m))
end
end
theorem Rz{mb:Str->Option Value}{fa:Addr}{ay:Shared}{qh:List Value}{R:WRecords}{cl:Str->Option Addr}{d0:WData}
  (KX:K.In ay.heap) (zf:ay.heap.Ns mainGlobals mg) (hb:ay.heap.Ns builtinsNs mb) (Q0:∀x:Str,x≠"__name__"->mb x=bootBuiltins x) (Q1:ay.heap.NoLimit) (hg:ay.gens=#[])
  (A1:WellAll w.params ay.heap qh ds) (ff:vK ds=true) (Q3:∀d∈ds,d.weight<=1048576) (hr:eY k callerA)
  (F:∀base:Heap,K.In base->base.Ns mainGlobals mg->bO P w K mg base CX k fa fd ps sp) (Q4:∀(s:Shared)(us:List Value),us.length=ps.length->BindsTo s fd ⟨us,[]⟩ (ps.zip us)) (bi:ds.length=ps.length)
  (ke:∀(H:Hp)(xs:List V),Oj H->nR K H xs ds->sp xs H (λv H'=>Dw K H' v d0) λ_ _ _=>False)
  (F7:∀H e s',CX [] H ay (λ_ _ _=>False) e s'->False):
  codeAny (model P w) callerA (.call (.ref fa) ⟨qh,[]⟩) (λr s'=>∃u as,r=.ok (.ret u)/\ReadsW R cl s'.heap u d0 as/\OldK ay.heap s'.heap/\s'.os=ay.os/\AllBare s'.gens) ay:=by
 obtain⟨A,ho,ar⟩:=qP ds qh A1 ff Q3
 have hO:Oj (lU K ay.heap A):=Qa ar
 have hok:lC P w (lU K ay.heap A) ay.heap:=Yp ar
 have hS:=Eh KX ar ds qh A1 ff ho
 have hV:=kT ho
 have hK:∀b u,lU K ay.heap A b=some u->K.lookup b=none:=λb u q=>(wK ar q).1
 have y8:∀{b:Addr}{o:Obj}{es:Array DictEntry}{ep:Nat},ay.heap.get? b=some o->o.data=.dict es ep->lU K ay.heap A b=none:=λ{b o es ep} e d=>by
  cases q:lU K ay.heap A b with
  |none=>rfl
  |some u=>
   obtain⟨_,vs,_,_,⟨e2,_⟩|⟨e2,_⟩⟩:=wK ar q
   ·rw[e2] at e
    cases e
    have d':Data.seq vs.toArray _=Data.dict es ep:=d
    cases d'
   ·rw[e2] at e
    cases e
    have d':Data.seq vs.toArray _=Data.dict es ep:=d
    cases d'
 generalize lU K ay.heap A=H at hO hok hS hK y8
 have base_of:∀{b:Addr}{o:Obj},ay.heap.get? b=some o->H b=none->(Cu ay.heap H).get? b=some o:=λe n=>Tp e n
 have nsK:∀{b:Addr}{m:Str->Option Value},ay.heap.Ns b m->(Cu ay.heap H).Ns b m:=λ{b m} ⟨o,es,ep,e,d,r⟩=>⟨o,es,ep,base_of e (y8 e d),d,r⟩
 have nK:∀b o,K.lookup b=some o->H b=none:=λb o e=>by
  cases q:H b with
  |none=>rfl
  |some u=>
   rw[hK b u q] at e
   cases e
 have KW:K.In (Cu ay.heap H):=λb o e=>base_of (KX b o e) (nK b o e)
 have hM:Mod K mg (Cu ay.heap H):=⟨KW,nsK zf,⟨mb,nsK hb,Q0⟩,let ⟨mc,h1,h2⟩:=Q1;⟨mc,nsK h1,h2⟩⟩
 have e0:yT P w K mg (Cu ay.heap H) callerA [] ay H:=⟨rfl,hM,λb o e=>Ys e,vn (Rv _ _),trivial,λb hb=>absurd (show b∈([]:List Addr) from hb) (by simp),hok,.of_eq hg⟩
 have hl:qh.length=ps.length:=by rw[jJ A1];exact bi
 refine ua ((F _ KW (nsK zf)).run callerA [] ay H ⟨qh,[]⟩ qh (qh.map Ez) _ _ hr e0 (Q4 ay qh hl) hV (ke H _ hO hS)) λr s' x=>?_
 cases r with
 |error e=>exact(F7 H e s' x).elim
 |ok fl=>
  cases fl with
  |next=>exact False.elim x
  |brk=>exact False.elim x
  |cont=>exact False.elim x
  |ret u=>
   obtain⟨v,H',os,bare,un,KY,r',q⟩:=x
   have kept:∀b o,ay.heap.get? b=some o->s'.heap.get? b=some o:=λb o e=>by
    cases q2:H b with
    |none=>exact un.keep b o e q2 (by intro z;exact absurd (show b∈([]:List Addr) from z) (by simp)) (by simp)
    |some u2=>
     rcases hO b with z|⟨ob,u3,z⟩
     ·rw[q2] at z
      cases z
     ·have z2:=un.frzs b ob _ z
      obtain⟨e1,_⟩:=hok b _ z
      obtain⟨e2,_⟩:=KY b _ z2
      rw[e] at e1
      cases e1
      exact e2
   have Q6:K.In s'.heap:=λb o e=>kept b o (KX b o e)
   obtain⟨as,KZ⟩:=Dw.reads (R:=R) (cl:=cl) KY Q6 d0 v u q r'
   exact⟨u,as,rfl,KZ,OldK.of_keep kept,os,bare⟩
theorem yN(h:WData.layableAll ds=true):∀d∈ds,d.weight<=1048576:=λd hd=>
 (PySem.W.layableW_iff.mp (jw.mp h d hd)).2.2
theorem yZ:∀(cs:List Codec)(a:Codec.denoteAll cs),(Codec.encAll cs a).length=cs.length
 |[],_=>rfl
 |c::cs,a=>by
  show (Codec.encAll cs a.2).length+1=cs.length+1
  rw[yZ cs a.2]
end L2
namespace L2
open PySem PySem.Spec PyProof.Rows
structure Fh(fr:List Addr)(e T0 T:Addr)(h h':Heap):Prop where
 keep:∀b o,b∉fr->b≠e->b≠T0->h.get? b=some o->h'.get? b=some o
 slot:∀b o,b∈fr->h.get? b=some o->∃sl,h'.get? b=some {o with slots:=sl}
 big:h.objs.size<=T
 self:∀oe vs,h.get? e=some oe->oe.data=.fields vs->1<vs.size->∃se ux,h'.get? e=some se/\se.cls=oe.cls/\se.dict=oe.dict/\se.data=.fields ux/\ux.size=vs.size/\ux[1]?=some (.ref T)
 head:∃oT ts,h'.get? T=some oT/\oT.data=.fields ts/\ts[3]?=some .none
 old:∀o,h.get? T0=some o->∃o',h'.get? T0=some o'
theorem mF(o:Obj)(f:Array Value->Array Value):(o.mapFields f).cls=o.cls/\(o.mapFields f).dict=o.dict:=by
 obtain⟨c,d,dt,sl⟩:=o
 cases dt<;>exact⟨rfl,rfl⟩
theorem yW{L e:Addr}{head:Value}{Q7:Bool}{Q:Unit->Shared->Prop}
  (jh:A.frames=some (env::outer)) (hl:s.heap.FunFrames base (env::outer)) (hf:env.frame=some L)
  (he:s.heap.get? e=some oe) (hd:oe.data=.fields vs) (hsz:1<vs.size)
  (h:∀h' T,Fh ((env::outer).filterMap (·.frame)) e e T s.heap h'->Q () {s with heap:=h'}):
  wpAny M A (do let a <-frameOf env;let pl <-entryPlaceOf L Q7;let b <-EntryCells.newEntry head a .none (rawInt L) .none pl;setField (.ref e) 1 b) (λ_ s'=>wpAny M A (setFlight (.ref e) none) Q E s') E s:=by
 have F8:e∉(env::outer).filterMap (·.frame):=λhm=>by
  obtain⟨_,o,ho,wv⟩:=hl.mem hm
  rw[he] at ho;injection ho with ho;subst ho;exact wv vs hd
 refine ac (wpAny_frameOf_fun jh hl hf λcy DG=>?_)
 refine ac (wpAny_entryPlaceOf λpl ff=>?_)
 unfold EntryCells.newEntry newFields
 refine ac (ig ?_ (ff.sizeOk5 _ _ _ _ _))
 have K0:cy.get? e=some oe:=(DG.2.1 e F8).trans he
 have K1:=bh (h:=cy) {cls:=.type "traceback",dict:=none,data:=.fields ([head,.ref L,.none,rawInt L,.none]++(if pl.isEmpty then List.replicate 6 Value.none else pl)).toArray} K0
 refine lw K1 hd hsz ?_
 have ma:cy.objs.size≠e:=pc (ba K0)
 have F9:=kc hd (·.setIfInBounds 1 (Value.ref cy.objs.size))
 have K2:=oj (Obj.mapFields (·.setIfInBounds 1 (Value.ref cy.objs.size))) K1 (ud F9)
 have K3:=(vt (cy.push {cls:=.type "traceback",dict:=none,data:=.fields ([head,.ref L,.none,rawInt L,.none]++(if pl.isEmpty then List.replicate 6 Value.none else pl)).toArray})
  (Obj.mapFields (·.setIfInBounds 1 (Value.ref cy.objs.size))) (au ma)).trans (cb cy rfl)
 unfold setFlight
 refine ac (j7 K2 F9 (x:=.ref cy.objs.size) (by simp[hsz]) ?_)
 rw[af (show (Value.ref cy.objs.size !=Value.none)=true from by simp)]
 refine lw K3 rfl (by simp only[ca,c8,bw,AF]<;>(clear ma F8 hsz;omega)) (h _ cy.objs.size ?_)
 have keep:∀b o,b≠e->cy.get? b=some o->
   (((cy.push {cls:=.type "traceback",dict:=none,data:=.fields ([head,.ref L,.none,rawInt L,.none]++(if pl.isEmpty then List.replicate 6 Value.none else pl)).toArray}).update e (Obj.mapFields (·.setIfInBounds 1 (Value.ref cy.objs.size)))).update cy.objs.size
    (Obj.mapFields (·.setIfInBounds 3 ((none:Option Addr).elim Value.none λf=>rawInt f)))).get? b=some o:=λb o k9 hb=>by
  have F':cy.objs.size≠b:=pc (ba hb)
  rw[vt _ _ F',vt _ _ (au k9)]
  exact bh _ hb
 have K4:=(vt ((cy.push {cls:=.type "traceback",dict:=none,data:=.fields ([head,.ref L,.none,rawInt L,.none]++(if pl.isEmpty then List.replicate 6 Value.none else pl)).toArray}).update e (Obj.mapFields (·.setIfInBounds 1 (Value.ref cy.objs.size))))
  (Obj.mapFields (·.setIfInBounds 3 ((none:Option Addr).elim Value.none λf=>rawInt f))) ma).trans K2
 refine⟨λb o hb k9 _ md=>keep b o k9 ((DG.2.1 b hb).trans md),λb o hb md=>?_,vn DG.1.symm,λse ux h1 h2 _=>?_,?_,λo ho=>⟨_,K4⟩⟩
 ·obtain⟨sl,hs⟩:=DG.2.2 b o md
  exact⟨sl,keep b _ (λq=>F8 (q▸hb)) hs⟩
 ·rw[he] at h1;cases h1
  rw[hd] at h2;cases h2
  exact⟨_,_,K4,(mF _ _).1,(mF _ _).2,F9,by simp,by simp[hsz]⟩
 ·exact⟨_,_,oj _ K3 (ud (kc rfl _)),kc rfl _,by first|(simp;done)|(rcases ff with rfl|⟨_,_,_,_,_,_,_,rfl⟩<;>simp)⟩
theorem Jx{L e:Addr}{Q:Unit->Shared->Prop}
  (jh:A.frames=some (env::outer)) (hl:s.heap.FunFrames base (env::outer)) (hf:env.frame=some L)
  (he:s.heap.get? e=some oe) (hd:oe.data=.fields vs) (h1:vs[1]?=some .none)
  (h:∀h' T,Fh ((env::outer).filterMap (·.frame)) e e T s.heap h'->Q () {s with heap:=h'}):
  wpAny M A (noteFrame (.ref e) env) (λ_ s'=>wpAny M A (setFlight (.ref e) none) Q E s') E s:=by
 unfold noteFrame
 simp only[hf]
 refine ac (j7 he hd h1 ?_)
 rw[ae (by decide)]
 exact yW jh hl hf he hd (yb.mp h1).1 h
theorem Be{L e oeT:Addr}{oT:Obj}{ts:Array Value}{Q:Unit->Shared->Prop}
  (jh:A.frames=some (env::outer)) (hl:s.heap.FunFrames base (env::outer)) (hf:env.frame=some L)
  (he:s.heap.get? e=some oe) (hd:oe.data=.fields vs) (h1:vs[1]?=some (.ref T)) (ma:T≠e) (hT:s.heap.get? T=some oT) (DI:oT.data=.fields ts) (h3:ts[3]?=some .none)
  (h:∀h' T',Fh ((env::outer).filterMap (·.frame)) e T T' s.heap h'->Q () {s with heap:=h'}):
  wpAny M A (noteFrame (.ref e) env) (λ_ s'=>wpAny M A (setFlight (.ref e) none) Q E s') E s:=by
 unfold noteFrame
 simp only[hf]
 refine ac (j7 he hd h1 ?_)
 rw[af (show (Value.ref T !=Value.none)=true from by simp)]
 refine ac (j7 hT DI h3 ?_)
 rw[ae (show ¬((Value.none==rawInt L)=true) from by simp[rawInt])]
 refine ac (lw hT DI (yb.mp h3).1 ?_)
 have other:∀b,b≠T->(s.heap.update T (Obj.mapFields (·.setIfInBounds 3 Value.none))).get? b=s.heap.get? b:=λb hb=>vt _ _ (au hb)
 have noRecord:∀b o,s.heap.get? b=some o->(∀vs,o.data≠.fields vs)->b≠T:=λb o hb wv q=>by
  rw[q,hT] at hb;injection hb with hb;subst hb;exact wv ts DI
 have K5:∀b∈(env::outer).filterMap (·.frame),b≠T:=λb hb=>by
  obtain⟨_,o,ho,wv⟩:=hl.mem hb
  exact noRecord b o ho wv
 have Q8:=oj (Obj.mapFields (·.setIfInBounds 3 Value.none)) hT (ud (kc DI _))
 refine yW (base:=base) jh (hl.of_keeps λb o hb wv=>⟨o,(other b (noRecord b o hb wv)).trans hb,rfl⟩) hf ((other e (au ma)).trans he) hd (yb.mp h1).1 λh' T' N=>h h' T' ?_
 refine⟨λb o hb k9 F' md=>N.keep b o hb k9 k9 ((other b F').trans md),λb o hb md=>N.slot b o hb ((other b (K5 b hb)).trans md),?_,λse ux q1 q2 q3=>N.self se ux ((other e (au ma)).trans q1) q2 q3,N.head,λo _=>?_⟩
 ·have:=N.big
  rwa [Heap.size_after_update] at this
 ·by_cases hb:T∈(env::outer).filterMap (·.frame)
  ·exact absurd rfl (K5 T hb)
  ·exact⟨_,N.keep T _ hb ma ma Q8⟩
section
variable{σ:List (Option V)}
theorem aQ.step2(I:aQ X aa σ H s)
  (i9:∀b∈ch,(b∈X.ex\/X.s_0.heap.get? b=none)/\b≠X.env.locals/\(∀x c,X.env.cells.lookup x=some c->c≠b)/\∀p∈X.pn++aa,p.1≠b)
  (keep:∀b o,b≠X.env.locals->b∉X.fs->b∉ch->s.heap.get? b=some o->H b=none->h'.get? b=some o)
  (slot:∀b o,b≠X.env.locals->b∈X.fs->b∉ch->s.heap.get? b=some o->H b=none->∃sl,h'.get? b=some {o with slots:=sl}) (free:∀b o,b∉ch->s.heap.get? b=some o->H b=none->H' b=none)
  (there:∀b o,b∉ch->s.heap.get? b=some o->∃o',h'.get? b=some o')
  (tups:∀b xs,H b=some (.tup xs)->H' b=some (.tup xs)) (frzs:∀b o u,H b=some (.frz o u)->H' b=some (.frz o u)) (tbls:∀b ps,H b=some (.tbl ps)->∃more,H' b=some (.tbl (ps++more)))
  (ns:∀m,s.heap.Ns X.env.locals m->h'.Ns X.env.locals m) (hok:lC X.prog X.w H' h') (hg:AllBare g'):
  aQ X aa σ H' {s with heap:=h',gens:=g',drawn:=d',toks:=t'}:=by
 have AT:∀b o,X.s_0.heap.get? b=some o->b≠X.env.locals:=λb o e=>b8 (i7 (ba e) I.ok.above)
 have rk:∀b o,X.s_0.heap.get? b=some o->b∉X.ex->b∉ch:=λb o e hx hb=>by
  rcases(i9 b hb).1 with z|z
  ·exact hx z
  ·rw[e] at z;cases z
 have cellK:∀x c,X.env.cells.lookup x=some c->∀v,s.heap.IsCell c v->h'.IsCell c v:=λx c e v ⟨o,ho,hd⟩=>by
  have ot:c∉ch:=λz=>(i9 c z).2.2.1 x c e rfl
  by_cases hc:c∈X.fs
  ·obtain⟨sl,q⟩:=slot c o (I.cne x c e) hc ot ho (I.freeC x c e)
   exact⟨_,q,hd⟩
  ·exact⟨o,keep c o (I.cne x c e) hc ot ho (I.freeC x c e),hd⟩
 refine⟨I.ok,I.os,hg,⟨λb o e n hb hx=>?_,λb o e n hb hx=>?_,λb o e n hx=>?_,λb o e hx=>?_,λb xs e=>tups b xs (I.base.tups b xs e),λb o xs e=>frzs b o xs (I.base.frzs b o xs e),λb ps e=>?_⟩,?_,λx c e=>?_,?_,λx c e=>?_,λp hp=>?_,hok,I.len⟩
 ·exact keep b o (AT b o e) hb (rk b o e hx) (I.base.keep b o e n hb hx) (I.base.free b o e n hx)
 ·obtain⟨sl,e1⟩:=I.base.slot b o e n hb hx
  obtain⟨FY,e2⟩:=slot b _ (AT b o e) hb (rk b o e hx) e1 (I.base.free b o e n hx)
  exact⟨FY,e2⟩
 ·obtain⟨o',e1⟩:=I.base.there b o e hx
  exact free b o' (rk b o e hx) e1 (I.base.free b o e n hx)
 ·obtain⟨o',e1⟩:=I.base.there b o e hx
  exact there b o' (rk b o e hx) e1
 ·obtain⟨m1,e1⟩:=I.base.tbls b ps e
  obtain⟨m2,e2⟩:=tbls b _ e1
  exact⟨m1++m2,by rw[e2,N4]⟩
 ·obtain⟨m,hn,hl⟩:=I.loc
  refine⟨m,ns m hn,λi x v e1 e2 e3=>?_⟩
  obtain⟨u,r,l⟩:=hl i x v e1 e2 e3
  refine⟨u,r,?_⟩
  rcases l with l|⟨k,c,e,z⟩
  ·exact .inl l
  ·exact .inr ⟨k,c,e,cellK x c e _ z⟩
 ·obtain⟨v,z⟩:=I.cell x c e
  exact⟨v,cellK x c e v z⟩
 ·obtain⟨m,⟨o,_,_,ho,_⟩,_⟩:=I.loc
  exact free _ o (λz=>(i9 _ z).2.1 rfl) ho I.free
 ·obtain⟨v,o,ho,hd⟩:=I.cell x c e
  exact free c o (λz=>(i9 c z).2.2.1 x c e rfl) ho (I.freeC x c e)
 ·obtain⟨e,n,ne,nf,d⟩:=I.pin p hp
  have ot:p.1∉ch:=λz=>(i9 p.1 z).2.2.2 p hp rfl
  exact⟨keep p.1 p.2 ne nf ot e n,free p.1 p.2 ot e n,ne,nf,d⟩
end
structure Xn(C:Addr)(H:Hp)(h h0:Heap)(e:Addr)(n:Int)(tb:Value):Prop where
 at_:∃oe vs d mA,h.get? e=some oe/\oe.cls=.ref C/\oe.dict=some d/\oe.data=.fields vs/\vs[1]?=some tb/\h.Ns1 d mA/\(∀f,lE (([("fault",V.int n)]:List (Str×V)).lookup f) (mA f))/\H d=none/\h0.get? d=none/\d≠e
 he:H e=none
 lo:h0.get? e=none
def uM(C:Addr)(H:Hp)(h h0:Heap)(e:Addr)(n:Int):Prop:=
 ∃T,Xn C H h h0 e n (.ref T)/\T≠e/\h0.get? T=none/\H T=none/\∃oT ts,h.get? T=some oT/\oT.data=.fields ts/\ts[3]?=some .none
def Sub(h0 h1:Heap):Prop:=∀b o,h0.get? b=some o->∃o',h1.get? b=some o'
theorem Sub.no(x:Sub h0 h1)(e:h1.get? b=none):h0.get? b=none:=by
 cases q:h0.get? b with
 |none=>rfl
 |some o=>
  obtain⟨o',z⟩:=x b o q
  rw[e] at z;cases z
theorem Xn.mono{e:Addr}{n:Int}{tb:Value}(x:Xn C H h h1 e n tb)(hl:Sub h0 h1):Xn C H h h0 e n tb:=by
 obtain⟨oe,vs,d,mA,g1,g2,g3,g4,g5,g6,g7,g8,g9,Q9⟩:=x.at_
 exact⟨⟨oe,vs,d,mA,g1,g2,g3,g4,g5,g6,g7,g8,hl.no g9,Q9⟩,x.he,hl.no x.lo⟩
theorem uM.mono{e:Addr}{n:Int}(x:uM C H h h1 e n)(hl:Sub h0 h1):uM C H h h0 e n:=by
 obtain⟨T,x,g1,g2,g3⟩:=x
 exact⟨T,x.mono hl,g1,hl.no g2,g3⟩
def jA(C:Addr)(P:Program)(w:World):Iz:=λouter H s E e s'=>
 ∃(ea:Addr)(n:Int)(H':Hp),e=.ref ea/\s'.os=s.os/\AllBare s'.gens/\Un (Al outer) [] H H' s.heap s'.heap/\lC P w H' s'.heap/\uM C H' s'.heap s.heap ea n/\E (.int n 0) none H'
section
variable{e T0:Addr}
structure Fk(X:Cx)(aa:List (Addr×Obj))(h0:Heap):Prop where
 s0:∀b o,X.s_0.heap.get? b=some o->b∉X.ex->∃o',h0.get? b=some o'
 loc:∃o,h0.get? X.env.locals=some o
 cell:∀x c,X.env.cells.lookup x=some c->∃o,h0.get? c=some o
 pin:∀p∈X.pn++aa,∃o,h0.get? p.1=some o
 fr:∀b∈Al X.stack,∃o,h0.get? b=some o
theorem eO(x:∃o,h0.get? a=some o)(e:h0.get? b=none):a≠b:=by
 rintro rfl
 obtain⟨o,q⟩:=x
 rw[e] at q;cases q
theorem aQ.below(I:aQ X aa σ H s):Fk X aa s.heap where
 s0:=I.base.there
 loc:=let ⟨_,⟨o,_,_,ho,_⟩,_⟩:=I.loc;⟨o,ho⟩
 cell:=λx c e=>let ⟨_,o,z,_⟩:=I.cell x c e;⟨o,z⟩
 pin:=λp hp=>⟨_,(I.pin p hp).1⟩
 fr:=λb hb=>let ⟨_,o,ho,_⟩:=I.stack.mem hb;⟨o,ho⟩
theorem aQ.noted(I:aQ X aa σ H s)(N:Fh (Al X.stack) e T0 T s.heap h')(B:Fk X aa h0)(he:h0.get? e=none)(ht:h0.get? T0=none)(ne:H e=none)(nt:H T0=none):aQ X aa σ H {s with heap:=h'}:=by
 have i9:∀b∈[e,T0],h0.get? b=none:=λb hb=>by
  rcases ao.mp hb with rfl|hb
  ·exact he
  ·rw[gq.mp hb];exact ht
 have keep:∀b o,b∉Al X.stack->b∉[e,T0]->s.heap.get? b=some o->h'.get? b=some o:=λb o h1 h2 h3=>N.keep b o h1 (λz=>h2 (by simp[z])) (λz=>h2 (by simp[z])) h3
 have any:∀b o,b∉[e,T0]->s.heap.get? b=some o->∃sl,h'.get? b=some {o with slots:=sl}:=λb o h2 h3=>by
  by_cases hb:b∈Al X.stack
  ·exact N.slot b o hb h3
  ·exact⟨o.slots,keep b o hb h2 h3⟩
 refine I.step2 (g':=s.gens) (d':=s.drawn) (t':=s.toks) (ch:=[e,T0]) (λb hb=>?_) (λb o h1 h2 h3 h4 _=>?_) (λb o _ _ h3 h4 _=>any b o h3 h4) (λ_ _ _ _ n=>n) (λb o h3 h4=>?_) (λ_ _ q=>q) (λ_ _ _ q=>q) (λb ps q=>⟨#[],by rw[q];simp⟩) (λm hm=>?_) (λb u q=>?_) I.bare
 ·have hb:=i9 b hb
  refine⟨?_,au (eO B.loc hb),λx c q=>eO (B.cell x c q) hb,λp hp=>eO (B.pin p hp) hb⟩
  by_cases hx:b∈X.ex
  ·exact .inl hx
  ·refine .inr ?_
   cases q:X.s_0.heap.get? b with
   |none=>rfl
   |some o=>exact absurd rfl (eO (B.s0 b o q hx) hb)
 ·refine keep b o (λz=>?_) h3 h4
  rcases ao.mp (I.stkSub b z) with z|z
  ·exact h1 z
  ·exact h2 z
 ·obtain⟨sl,q⟩:=any b o h3 h4
  exact⟨_,q⟩
 ·obtain⟨o,es,ep,ho,hd,r⟩:=hm
  obtain⟨sl,q⟩:=any X.env.locals o (λz=>absurd rfl (eO B.loc (i9 _ z))) ho
  exact⟨_,es,ep,q,hd,r⟩
 ·have tr:∀c v,H c=some v->c∉Al X.stack/\c∉[e,T0]:=λc v q=>by
   refine⟨λz=>?_,λz=>?_⟩
   ·rw[I.stkFree c z] at q;cases q
   ·rcases ao.mp z with rfl|z
    ·rw[ne] at q;cases q
    ·rw[gq.mp z,nt] at q;cases q
  refine(I.hok b u q).stay (λc v hc r=>?_) (λ_ z=>z) λ_ _ z=>z
  rcases hc with rfl|hc
  ·exact keep c v (tr c u q).1 (tr c u q).2 r
  ·exact keep c v (tr c _ hc).1 (tr c _ hc).2 r
theorem Xn.noted{n:Int}{tb:Value}(I:aQ X aa σ H s)(N:Fh (Al X.stack) e T0 T s.heap h')(B:Fk X aa h0)(hs:Sub h0 s.heap)(x:Xn C H s.heap h0 e n tb)(hk:∀o es ep,s.heap.get? T0=some o->o.data≠.dict es ep):uM C H h' h0 e n:=by
 obtain⟨oe,vs,d,mA,h1,h2,h3,h4,h5,h6,h7,h8,h9,di⟩:=x.at_
 obtain⟨se,ux,g1,g2,g3,g4,g5,g6⟩:=N.self oe vs h1 h4 (yb.mp h5).1
 have AY:e<s.heap.objs.size:=ba h1
 refine⟨T,⟨⟨se,ux,d,mA,g1,g2.trans h2,g3.trans h3,g4,g6,h6.at λo q=>N.keep d o (λz=>absurd rfl (eO (B.fr d z) h9)) di (λz=>?_) q,h7,h8,h9,di⟩,x.he,x.lo⟩,λz=>?_,hs.no (Heap.get?_none_of_le N.big),I.hok.fresh N.big,N.head⟩
 ·obtain⟨o',es,ep,q1,q2,_⟩:=h6
  rw[z] at q1
  exact hk o' es ep q1 q2
 ·exact absurd (i7 AY N.big) (by rw[z];exact j6 _)
end
structure Sy(C:Addr)(X:Cx)(E:XK):Prop where
 pass:iU (jA C X.prog X.w) X E
 new:∀(aa:List (Addr×Obj)) (σ:St) (H:Hp) (s:Shared) (ea:Addr) (n:Int) (h0:Heap),aQ X aa σ H s->Fk X aa h0->Sub h0 s.heap->Xn C H s.heap h0 ea n .none->E (.int n 0) none H->X.xe (.ref ea) s
 own:PassesOwn (model X.prog X.w) X.A X.env X.xe
variable{K:Frag}
theorem aO{cd:Value}{E:XK}:
  Sy C (Dd (jA C P w) P w K mg base N aq scope f cd A outer s H E) E where
 pass:=by
  intro aa σ H1 s1 e s' I ⟨ea,n,H',he,fh,hb,un,hok,fl,hE⟩
  subst he
  have I':=I.call' (ch:=[]) fh un hok hb (λ_ z=>nomatch z)
  have B:=I.below
  obtain⟨T,x,ma,DJ,DK,oT,ts,t1,t2,t3⟩:=fl
  obtain⟨oe,vs,d,mA,h1,h2,h3,h4,h5,h6,h7,h8,h9,di⟩:=id x.at_
  show wpAny _ _ (leaving _ _) _ _ _
  unfold leaving
  refine ac (Be (oeT:=0) I'.ok.frames I'.stack rfl h1 h4 h5 ma t1 t2 t3 λh' T' Nt=>?_)
  have I2:=I'.noted Nt B x.lo DJ x.he DK
  have A2:=Xn.noted (C:=C) I' Nt B (λb o q=>un.there b o q (by simp)) x (λo es ep q z=>by rw[t1] at q;cases q;rw[t2] at z;cases z)
  exact⟨ea,n,H',rfl,I2.os,I2.bare,I2.base,I2.hok,(A2.mono λb o q=>B.s0 b o q (λz=>nomatch (show b∈([]:List Addr) from z))),hE⟩
 new:=by
  intro aa σ H1 s1 ea n h0 I B hs x hE
  obtain⟨oe,vs,d,mA,h1,h2,h3,h4,h5,h6,h7,h8,h9,di⟩:=id x.at_
  show wpAny _ _ (leaving _ _) _ _ _
  unfold leaving
  refine ac (Jx I.ok.frames I.stack rfl h1 h4 h5 λh' T' Nt=>?_)
  have I2:=I.noted Nt B x.lo x.lo x.he x.he
  have A2:=Xn.noted (C:=C) I Nt B hs x (λo es ep q z=>by rw[h1] at q;cases q;rw[h4] at z;cases z)
  exact⟨ea,n,H1,rfl,I2.os,I2.bare,I2.base,I2.hok,(A2.mono λb o q=>B.s0 b o q (λz=>nomatch (show b∈([]:List Addr) from z))),hE⟩
 own:=PassesOwn.leaving
section
open Builtin Builtin.ObjectAttr
variable{g:Array GenState}{d:Drawn}{t:Nat}{os:OsState}
variable{nm q:Str}{N x:Addr}{bs:List Value}{sub:List Value}{B sa owner:String}
 {mN:Str->Option Value} {name:Str} {v:Value} {o:Obj}
structure Ao(h h':Heap)(x:Addr)(o:Obj)(name:Str)(v:Value):Prop where
 obj:h'.get? x=some {o with dict:=some h.objs.size}
 ns:h'.Ns1 h.objs.size (λy=>if y=name then some v else none)
 keep:∀b ob,b≠x->h.get? b=some ob->h'.get? b=some ob
theorem Hz{Q:Fin->Shared->Prop}(SF:StoreFacts B bm sa owner)
  (hC:h.get? C=some (excClassObj nm q C N bs bm true sn sub ab col dd k0 k1 k2 k3 k5 newId)) (hn:h.Ns N mN) (m7:mN name=none)
  (hB:typeLookup (.type B) name=pure none) (hx:h.get? x=some o) (hc:o.cls=.ref C) (sf:∀c,o.data≠.cls c) (ox:o.dict=none)
  (hq:∀h' m8,Ao h h' x o name v->Q (.done (.ret .none)) ⟨h',g,d,m8,os⟩):
  wpAny (model prog w) A (Builtin.«object.__setattr__» ⟨[.ref x,.str name tk,v],[]⟩) Q E ⟨h,g,d,t,os⟩:=by
 have RA:=SF.passes (.ref x)
 unfold Builtin.«object.__setattr__»
 repeat (first|rw[refuse_eq]|(rw[refuseLoop_ref,RA])|(with_reducible refine wc hx ?_;rw[hc])|with_reducible refine wpAny_mroOf_exc hC ?_|(with_reducible refine CU hC hn SF.mro hB ?_;rw[m7])|wp_step)
 rw[ox,ae (by simp[typeHasDict])]
 split
 ·rename_i i'
  cases i'
 split
 ·rename_i c i'
  exact absurd i' (sf c)
 ·have GA:(h.push {cls:=.type "dict",data:=.dict #[]}).get? x=some o:=bh _ hx
  have K6:x≠h.objs.size:=b8 (ba hx)
  refine ac (wpAny_alloc' (ac (wpAny_update' GA (ag ?_))))
  have f7:((h.push {cls:=.type "dict",data:=.dict #[]}).update x λo=>{cls:=o.cls,dict:=some h.objs.size,data:=o.data,slots:=o.slots}).get? h.objs.size
    =some {cls:=.type "dict",data:=.dict #[]}:=(JS _ _ _ _ K6.symm).trans (Heap.get?_push_at rfl rfl)
  have RB:((h.push {cls:=.type "dict",data:=.dict #[]}).update x λo=>{cls:=o.cls,dict:=some h.objs.size,data:=o.data,slots:=o.slots}).Ns h.objs.size (λ_=>none):=
   ⟨_,#[],_,f7,rfl,λe he=>absurd he (by simp),λ_=>rfl⟩
  show wpAny _ _ (storeInDict h.objs.size (.str name tk) name v) _ _ _
  unfold storeInDict newKeyGuard
  refine ac (ag (ac (wpAny_nsSet1 (Heap.Ns1.of_empty RB) λh' yz hs=>?_)))
  obtain⟨oD,P9,P',F1,F2,C9⟩:=yz.count (Within.cons name v Within.nil)
  refine ac (wpAny_lookBehind F1 (by rw[F2];exact pastItsLine_dict (gm C9 (by rw[bw,AF,qz];(clear C9;omega)))) ?_)
  wp_walk
  refine hq h' _ ⟨?_,yz,λb ob RC hb=>(hs.2 b (b8 (ba hb))).trans ((JS _ _ _ _ RC).trans (bh _ hb))⟩
  refine(hs.2 x K6).trans (oj _ GA ?_)
  have jh:=(Heap.get?_some_iff.mp hx).2
  obtain⟨oc,od,odt,df⟩:=o
  cases odt<;>first|rfl|exact jh
theorem Kg{Q:Unit->Shared->Prop}(SF:StoreFacts B bm sa owner)
  (hC:h.get? C=some (excClassObj nm q C N bs bm true sn sub ab col dd k0 k1 k2 k3 k5 newId)) (hn:h.Ns N mN) (zf:mN "__setattr__"=none) (m7:mN name=none)
  (hB:typeLookup (.type B) name=pure none) (hx:h.get? x=some o) (hc:o.cls=.ref C) (sf:∀c,o.data≠.cls c) (ox:o.dict=none)
  (hq:∀h' m8,Ao h h' x o name v->Q () ⟨h',g,d,m8,os⟩):
  wpAny (model prog w) A (setAttr (.ref x) name v) Q E ⟨h,g,d,t,os⟩:=by
 have f3:=SF.slot.bind (.ref x)
 unfold setAttr callSpecial? specialOf
 repeat (any_goals (first|assumption|(with_reducible refine wc hx ?_;rw[hc])|(with_reducible refine CU hC hn SF.mro SF.slot.lookup ?_;rw[zf])|wp_step))
 refine JT SF.slot.plain SF.entry (wpAny_check_sa SF hC hx hc (Hz SF hC hn m7 hB hx hc sf ox λh' m8 I'=>?_))
 repeat (any_goals (first|assumption|wp_step))
 exact hq h' m8 I'
end
section
open Builtin Builtin.ObjectAttr
variable{g:Array GenState}{d:Drawn}{t:Nat}{os:OsState}
variable{nm q:Str}{N x:Addr}{bs:List Value}{sub:List Value}{B:String}
 {mN mA:Str->Option Value} {name:Str} {v:Value} {o:Obj}
theorem Ry{Q:Fin->Shared->Prop}(FB:ExcAttrBase B bm)
  (hC:h.get? C=some (excClassObj nm q C N bs bm true sn sub ab col dd k0 k1 k2 k3 k5 newId)) (hn:h.Ns N mN) (m7:mN name=none)
  (hB:typeLookup (.type B) name=pure none) (hx:h.get? x=some o) (hc:o.cls=.ref C) (sf:∀c,o.data≠.cls c) (si:o.dict=some dx) (hA:h.Ns1 dx mA) (hv:mA name=some v) (hq:Q (.done (.ret v)) ⟨h,g,d,t,os⟩):
  wpAny (model prog w) A (Builtin.«object.__getattribute__» ⟨[.ref x,.str name tk],[]⟩) Q E ⟨h,g,d,t,os⟩:=by
 unfold Builtin.«object.__getattribute__»
 repeat (first|(with_reducible refine wc hx ?_;rw[hc])|(with_reducible refine CU hC hn FB.mro hB ?_;rw[m7])|wp_step)
 split
 ·rename_i c i'
  exact absurd i' (sf c)
 unfold instanceDict
 repeat (first|(with_reducible refine wc hx ?_;rw[hc])|with_reducible refine wc hC ?_|wp_step)
 rw[si]
 repeat (first|(with_reducible refine wpAny_nsGet hA.ns ?_;rw[hv])|wp_step)
 exact hq
theorem aB2{fill:Bool}(FB:ExcAttrBase B bm)
  (hC:h.get? C=some (excClassObj nm q C N bs bm true sn sub ab col dd k0 k1 k2 k3 k5 newId)) (hn:h.Ns N mN) (GF:mN "__getattribute__"=none) (GH:mN "__getattr__"=none) (m7:mN name=none)
  (hB:typeLookup (.type B) name=pure none) (hx:h.get? x=some o) (hc:o.cls=.ref C) (sf:∀c,o.data≠.cls c) (si:o.dict=some dx) (hA:h.Ns1 dx mA) (hv:mA name=some v) (hh:handedOut v=pure v) (hq:Q v ⟨h,g,d,t,os⟩):
  wpAny (model prog w) A (getAttrBy (.ref x) (.str name tk) fill expr) Q E ⟨h,g,d,t,os⟩:=by
 have f3:=FB.ga.bind (.ref x)
 have uz:(expr && onTheHeap (Value.builtin "BaseException.__getattribute__"))=false:=by cases expr<;>rfl
 have RD:(Value.builtin "BaseException.__getattribute__"==Value.builtin "object.__getattribute__")=false:=by decide+kernel
 have GA:(onTheHeap (Value.ref C) && Value.builtin "BaseException.__getattribute__"==Value.builtin "object.__getattribute__")=false:=by rw[RD];rfl
 repeat (any_goals (first|assumption|(with_reducible refine wc hx ?_;rw[hc])|(with_reducible refine CU hC hn FB.mro FB.ga.lookup ?_;rw[GF])|(with_reducible refine CU hC hn FB.mro FB.noGetattr ?_;rw[GH])|wp_step))
 refine JT FB.ga.plain F.entry_bexc_ga (wpAny_check_ga_own FB hC .base hx hc (Ry FB hC hn m7 hB hx hc sf si hA hv ?_))
 repeat (any_goals (first|assumption|wp_step))
theorem Vk(FB:ExcAttrBase B bm)
  (hC:h.get? C=some (excClassObj nm q C N bs bm true sn sub ab col dd k0 k1 k2 k3 k5 newId)) (hn:h.Ns N mN) (GF:mN "__getattribute__"=none) (GH:mN "__getattr__"=none) (m7:mN name=none)
  (hB:typeLookup (.type B) name=pure none) (hx:h.get? x=some o) (hc:o.cls=.ref C) (sf:∀c,o.data≠.cls c) (si:o.dict=some dx) (hA:h.Ns1 dx mA) (hv:mA name=some v) (hh:handedOut v=pure v) (hq:Q v ⟨h,g,d,t+1,os⟩):
  wpAny (model prog w) A (getAttr (.ref x) name expr) Q E ⟨h,g,d,t,os⟩:=by
 unfold getAttr
 repeat (any_goals (first|assumption|with_reducible apply aB2 FB hC hn GF GH m7 hB hx hc sf si hA hv hh|wp_step))
end
structure Ex(K:Frag)(C fI:Addr):Prop where
 cls:∃nm q N bs sn sub ab col dd k0 k1 k2 k3 k5,K.lookup C=some (excClassObj nm q C N bs El true sn sub ab col dd k0 k1 k2 k3 k5 "Exception.__new__")/\nsOkIn K N=true/\nsIn K N "__init__"=some (some (.ref fI))/\
  nsIn K N "fault"=some none/\nsIn K N "__setattr__"=some none/\nsIn K N "__getattribute__"=some none/\nsIn K N "__getattr__"=some none
 fn:isFn K (.ref fI)=true
 kp:keepIn K (.ref C)=true
theorem aAh{N:Addr}{m:Str->Option Value}(X:K.In h)(G:h.Ns N m)(e:nsIn K N x=some (some v)):m x=some v:=by
 obtain⟨o,es,ep,ho,hd,_,hf⟩:=G
 unfold nsIn at e
 split at e
 ·rename_i q
  have z:=X _ _ q
  rw[ho] at z
  cases z
  cases hd
  split at e
  ·rename_i en he
   cases e
   rw[<-hf]
   unfold nsFind findBy
   rw[<-N6,he]
   rfl
  ·split at e<;>cases e
 ·cases e
theorem xB:typeLookup (.type "Exception") "fault"=pure none:=by rw[E4,E5];kernel_rfl
theorem aC9(h:isFn K (.ref f)=true):∃o,K.lookup f=some o/\o.cls=.type "function":=by
 have h:((K.lookup f).map (·.cls)==some (.type "function"))=true:=h
 cases q:K.lookup f with
 |none=>rw[q] at h;cases h
 |some o=>
  rw[q] at h
  exact⟨o,rfl,Option.some.inj (cp.mp h)⟩
theorem cF.there{o:HO}(x:cF P w H h a o):∃ob,h.get? a=some ob:=by
 cases o with
 |lst xs=>obtain⟨_,_,_,_,e⟩:=x;exact⟨_,e⟩
 |tup xs=>obtain⟨_,_,_,o,e,_⟩:=x;exact⟨_,e⟩
 |dK aJ=>obtain⟨_,_,_,_,o,_,_,e,_⟩:=x;exact⟨_,e⟩
 |dT aJ=>obtain⟨_,_,_,_,o,_,_,e,_⟩:=x;exact⟨_,e⟩
 |set S n=>obtain⟨o,_,_,_,e,_⟩:=x;exact⟨_,e⟩
 |ins C dx fs=>obtain⟨_,_,_,e,_⟩:=x;exact⟨_,e⟩
 |own y=>exact x
 |xd fs=>obtain⟨_,⟨_,_,_,e,_⟩,_⟩:=x;exact⟨_,e⟩
 |rng lo hi=>obtain⟨_,_,_,e⟩:=x;exact⟨_,e⟩
 |frz ob u=>obtain⟨e,_⟩:=x;exact⟨_,e⟩
 |tbl ps=>exact⟨_,(show h.get? a=some _ from x)⟩
 |met f y=>exact⟨_,(show h.get? a=some _ from x)⟩
 |ext φ=>obtain⟨_,e,_⟩:=x;exact e
theorem lC.none_of(x:lC P w H h)(e:h.get? a=none):H a=none:=by
 cases q:H a with
 |none=>rfl
 |some o=>
  obtain⟨ob,z⟩:=(x a o q).there
  rw[e] at z;cases z
section
variable{o:HO}
theorem aQ.laidN(I:aQ X aa σ H s)(k:∀b u,s.heap.get? b=some u->h'.get? b=some u)(hp:s.heap.get? a=none)(new:cF X.prog X.w (upd H a o) h' a o):
  aQ X aa σ (upd H a o) {s with heap:=h',toks:=t'}:=by
 have hn:=I.hok.none_of hp
 have ne:∀b u,s.heap.get? b=some u->b≠a:=λb u q z=>by rw[z,hp] at q;cases q
 refine I.un ⟨λb u q _ _ _=>k b u q,λb u q _ _ _=>⟨u.slots,k b u q⟩,λb u q n _=>by rw[aC (ne b u q)];exact n,λb u q _=>⟨u,k b u q⟩,
  λb xs q=>by rw[aC (aD q hn)];exact q,λb u xs q=>by rw[aC (aD q hn)];exact q,λb ps q=>⟨#[],by rw[aC (aD q hn),q];simp⟩⟩ λb u q=>?_
 by_cases hb:b=a
 ·subst hb;rw[aB] at q;cases q;exact new
 ·rw[aC hb] at q
  exact(I.hok b u q).stay (λc v _ z=>k c v z) (λc z=>by rw[aC (aD z hn)];exact z) λc xs z=>by rw[aC (aD z hn)];exact z
theorem aQ.untrack{RE:List (Addr×Obj)}{RF:St}{s0:Shared}(I:aQ X aa σ H' s)(I0:aQ X RE RF H s0)(sub:∀b o,H b=some o->H' b=some o)
  (own:∀b a,H' b=some (.own a)->H b=some (.own a)) (tup:∀b xs,H' b=some (.tup xs)->H b=some (.tup xs)):aQ X aa σ H s:=by
 have no:∀b,H' b=none->H b=none:=λb e=>by
  cases q:H b with
  |none=>rfl
  |some o=>rw[sub b o q] at e;cases e
 refine⟨I.ok,I.os,I.bare,⟨I.base.keep,I.base.slot,λb o e n hx=>no b (I.base.free b o e n hx),I.base.there,I0.base.tups,I0.base.frzs,I0.base.tbls⟩,I.loc,I.cell,no _ I.free,λx c e=>no c (I.freeC x c e),λp hp=>?_,λb o e=>?_,I.len⟩
 ·obtain⟨h1,h2,h3⟩:=I.pin p hp
  exact⟨h1,no _ h2,h3⟩
 ·exact(I.hok b o (sub b o e)).stay (λ_ _ _ q=>q) (λc q=>own c b q) λc xs q=>tup c xs q
end
def XO(C t e:Addr)(od:Option Addr):HO:=.ext λh=>h.get? e=some {cls:=.ref C,dict:=od,data:=.fields #[.ref t,.none,.none,.none,.bool false,.none]}
theorem XO.ok{t e:Addr}{od:Option Addr}(q:h.get? e=some {cls:=.ref C,dict:=od,data:=.fields #[.ref t,.none,.none,.none,.bool false,.none]}):cF P w H h e (XO C t e od):=
 ⟨q,⟨_,q⟩,λ_ _ z k=>k _ z⟩
def aCj(C:Addr):Sp:=λvs H Q _=>∃e t n,vs=[.ref e,.int n]/\H e=some (XO C t e none)/\∀d,H d=none->d≠e->Q .non (upd (upd H d (.xd [("fault",.int n)])) e (XO C t e (some d)))
def sXF(C:Addr)(ta tv:TE):TS:=λD σ H=>tv σ H λy H1=>ta σ H1 λx H2=>∃e t n,y=.int n/\x=.ref e/\H2 e=some (XO C t e none)/\∀d,H2 d=none->d≠e->D.nx σ (upd (upd H2 d (.xd [("fault",.int n)])) e (XO C t e (some d)))
theorem Yu{o:Expr}(T:Ex X.K C fI)(ha:PE X o ta)(hv:PE X value tv)(hs:swapsWith value (some (.Attribute o "fault" l5)) pos.line X.env=pure false):
  PS X (.Assign [.Attribute o "fault" l5] value pos) (sXF C ta tv):=by
 intro aa s σ H D I h
 refine plainObj_wpAny_Assign_Attribute (cV (hv aa s σ H _ I h) λu s1 ⟨y,H1,I1,ry,q⟩=>cV (ha aa s1 σ H1 _ I1 q) λov s2 ⟨x,H2,I2,rx,e,t,n,ey,ex,ee,q2⟩=>?_) hs
 subst ex ey
 obtain rfl:ov=Value.ref e:=rx
 obtain⟨tk,rfl⟩:=(show ∃t,u=Value.int n t from ry)
 obtain⟨nm,qn,N,bs,sn,sub,ab,col,dd,k0,k1,k2,k3,k5,lk,ww,ni,nf,ns,ng,nh⟩:=T.cls
 have hC:=I2.kIn _ _ lk
 have hN:s2.heap.Ns N (s2.heap.nsMap N):=.of_isNs (isNs_of_in I2.kIn ww)
 obtain⟨obj,_,_⟩:=(show cF X.prog X.w H2 s2.heap e (XO C t e none) from I2.hok e _ ee)
 obtain⟨hp,g,dr,wx,os⟩:=s2
 refine Kg F.store_Exception hC hN (ns_none_of I2.kIn hN ns) (ns_none_of I2.kIn hN nf) xB obj rfl (λc z=>nomatch z) rfl λh' m8 A=>?_
 have u4:hp.objs.size≠e:=pc (ba obj)
 have ox:H2 hp.objs.size=none:=I2.hok.fresh (ap _)
 refine⟨σ,_,?_,q2 hp.objs.size ox u4⟩
 have nb:∀b (u:Obj),H2 b=none->b≠e:=λb u z y=>by rw[y,ee] at z;cases z
 have nd:∀b u,hp.get? b=some u->b≠hp.objs.size:=λb u z=>b8 (ba z)
 have other:∀b u,H2 b=some u->b≠e->upd (upd H2 hp.objs.size (.xd [("fault",.int n)])) e (XO C t e (some hp.objs.size)) b=some u:=λb u z y=>by
  rw[aC y,aC (aD z ox)];exact z
 refine I2.un (t':=m8) ⟨λb u z y _ _=>A.keep b u (nb b u y) z,λb u z y _ _=>⟨u.slots,A.keep b u (nb b u y) z⟩,λb u z y _=>by rw[aC (nb b u y),aC (nd b u z)];exact y,λb u z _=>?_,λb xs z=>other b _ z ?_,λb u xs z=>other b _ z ?_,λb ps z=>⟨#[],by rw[other b _ z (by rintro rfl;rw[ee] at z;cases z)];simp⟩⟩ λb u z=>?_
 ·by_cases y:b=e
  ·exact⟨_,by rw[y];exact A.obj⟩
  ·exact⟨u,A.keep b u y z⟩
 ·rintro rfl;rw[ee] at z;cases z
 ·rintro rfl;rw[ee] at z;cases z
 ·by_cases y:b=e
  ·subst y
   rw[aB] at z
   cases z
   exact XO.ok A.obj
  ·rw[aC y] at z
   by_cases y2:b=hp.objs.size
   ·subst y2
    rw[aB] at z
    cases z
    refine⟨_,A.ns,λf=>?_⟩
    show lE ((mK "fault" (V.int n) []).lookup f) (if f="fault" then some (Value.int n tk) else none)
    rw[nW]
    by_cases y3:f="fault"
    ·rw[af y3,af y3];exact⟨tk,rfl⟩
    ·rw[ae y3,ae y3];exact True.intro
   ·rw[aC y2] at z
    refine(I2.hok b u z).stay (λc v hc q=>A.keep c v ?_ q) (λc q=>other c _ q ?_) λc xs q=>other c _ q ?_
    ·rcases hc with rfl|hc
     ·exact y
     ·rintro rfl;rw[ee] at hc;cases hc
    ·rintro rfl;rw[ee] at q;cases q
    ·rintro rfl;rw[ee] at q;cases q
section
variable{nm q:Str}{N:Addr}{bs:List Value}{hdct:Bool}{sub:List Value}
theorem Jr{x:Sem Value}{Q:Flow->Shared->Prop}(r9:bm.contains (.type "BaseException")=true)(hh:A.handled=none)
  (h:wpAny M A x (λv s1=>∃e oe vs,v=.ref e/\s1.heap.get? C=some (excClassObj nm q C N bs bm hdct sn sub ab col dd k0 k1 k2 k3 k5 newId)/\s1.heap.get? e=some oe/\oe.cls=.ref C/\oe.data=.fields vs/\vs[1]?=some .none/\E (.ref e) s1) E s):
  wpAny M A (raiseStmt env (some x) none) Q E s:=by
 have RG:(Value.ref C::bm).contains (.type "BaseException")=true:=by rw[List.contains_cons,r9,Bool.or_true]
 unfold raiseStmt
 refine ac (jm h (λv s1 h1=>?_) λ_ _ x=>x)
 obtain⟨e,oe,vs,rfl,hC,he,jq,hd,h1,hE⟩:=h1
 obtain⟨hp,g,d,tk,os⟩:=s1
 repeat (first|(with_reducible refine wc he ?_;rw[jq])|with_reducible refine wc hC ?_|(with_reducible refine wpAny_isSubtype_exc hC ?_;rw[RG])|with_reducible refine j7 he hd h1 ?_|wp_step)
 exact wpAny_raiseNew_none hh hE
end
def aCd(E:XK):List V->Hp->Prop:=λvs H=>match vs with
 |[x]=>∃n,x=.int n/\E (.int n 0) none H
 |_=>False
def aCt(E:XK)(te:TE):TS:=λ_ σ H=>te σ H λv H1=>∃n,v=.int n/\E (.int n 0) none H1
theorem nA{E:XK}(L:Sy C X E)(hc:X.calm=true)(T:Ex X.K C fI)
  (G:bO X.prog X.w X.K X.mg X.base bN k fI fd ["self","fault"] (aCj C)) (hr:eY (k+1) X.A) (hg:Gl X x) (hm:X.mg x=some (.ref C)) (hb:eR X.K fd ["self","fault"] []) (he:PE X e te)
  (gi:(x==("__debug__":Str))=false:=by decide) (d8:starEach [e] X.env=(false,eval e X.env)::starEach [] X.env:=by rfl):
  PS X (.Raise (some (.Call (.Name x np) [e] [] f6)) none pos) (aCt E te):=by
 intro aa s σ H D I h
 have ha:PA X [e] (dH te gC):=aA he aE d8
 have h':dH te gC σ H (aCd E):=h
 obtain⟨nm,qn,N,bs,sn,sub,ab,col,dd,k0,k1,k2,k3,k5,lk,ww,ni,nf,ns,ng,nh⟩:=id T.cls
 rw[arm_exec_Raise]
 refine ac (CC (Jr (C:=C) (nm:=nm) (q:=qn) (N:=N) (bs:=bs) (bm:=El) (hdct:=true) (sn:=sn) (sub:=sub) (ab:=ab) (col:=col) (dd:=dd) (k0:=k0) (k1:=k1) (k2:=k2) (k3:=k3) (k5:=k5) (newId:="Exception.__new__")
  E6.hasBase (I.ok.hd hc) (ac (cV (Q:=λv s3=>∃ea oe vs,v=.ref ea/\s3.heap.get? C=some (excClassObj nm qn C N bs El true sn sub ab col dd k0 k1 k2 k3 k5 "Exception.__new__")/\s3.heap.get? ea=some oe/\oe.cls=.ref C/\oe.data=.fields vs/\vs[1]?=some .none/\X.xe (.ref ea) s3) ?_ λv s3 h3=>ac (CC (ag h3))))))
 refine wpAny_Call_Name_kw (iG I hg hm ?_ gi)
 refine callWith_K (h₀:=X.base) I.ok.mod.kin T.kp (cV (ha f6 aa s σ H _ I h') λus s1 ⟨vs,H1,I1,r,q⟩=>⟨I1.kIn,?_⟩) d8 rfl
 match vs,r,q with
 |[x1],.cons (b:=u) r1 .nil,q=>
  obtain⟨n,rfl,hE⟩:=q
  obtain⟨tk,rfl⟩:=(show ∃t,u=Value.int n t from r1)
  obtain⟨oI,RH,RI⟩:=aC9 T.fn
  have hC:=I1.kIn _ _ lk
  have hN:s1.heap.Ns N (s1.heap.nsMap N):=.of_isNs (isNs_of_in I1.kIn ww)
  have B:=I1.below
  obtain⟨hp,g,dr,wx,os⟩:=s1
  refine wpAny_call_exc_init E6 hC hN (aAh I1.kIn hN ni) (I1.kIn _ _ RH) RI (λh1 ea hm=>?_)
  obtain⟨t,ht,WV,K7⟩:=hm.there
  have I2:aQ X aa σ (upd H1 ea (XO C t ea none)) ⟨h1,g,dr,wx,os⟩:=I1.laidN (t':=wx) hm.keeps hm.new (XO.ok ht)
  refine AB (ua (G.run (X.A.under (.builtin "type.__call__" ⟨.ref C::[.int n tk],[]⟩)) X.stack ⟨h1,g,dr,wx,os⟩ (upd H1 ea (XO C t ea none)) ⟨.ref ea::[.int n tk],[]⟩ [.ref ea,.int n tk] [.ref ea,.int n]
   (λv H2=>v=.non/\∃d,d≠ea/\H1 d=none/\H2=upd (upd (upd H1 ea (XO C t ea none)) d (.xd [("fault",.int n)])) ea (XO C t ea (some d))) E0 (hr.make C [.int n tk] []) (I2.env0.make C [.int n tk] [])
   (hb _ [.ref ea,.int n tk] I2.kIn rfl) (.cons rfl (.cons ⟨tk,rfl⟩ .nil)) ⟨ea,t,n,rfl,aB,λd hd u4=>⟨rfl,d,u4,by rw[aC u4] at hd;exact hd,rfl⟩⟩) λr s' ir=>?_)
  cases r with
  |error e=>exact False.elim ir
  |ok fl=>
   cases fl with
   |ret u=>
    obtain⟨v,H',fh,A3,un,hok,rv,ev,d,u4,ox,hH⟩:=ir
    subst ev
    have I3:aQ X aa σ H' s':=I2.call' (ch:=[]) fh un hok A3 (λ_ z=>nomatch z)
    have K8:=(show cF X.prog X.w H' s'.heap ea (XO C t ea (some d)) from I3.hok ea _ (by rw[hH];exact aB)).1
    refine⟨rv,ea,_,_,rfl,I3.kIn _ _ lk,K8,rfl,rfl,rfl,?_⟩
    have K9:H1 ea=none:=I1.hok.none_of hm.new
    have DL:H' d=some (.xd [("fault",.int n)]):=by rw[hH,aC u4,aB]
    have K':H' ea=some (XO C t ea (some d)):=by rw[hH];exact aB
    have mf:∀b,b≠ea->b≠d->H' b=H1 b:=λb z1 z2=>by rw[hH,aC z1,aC z2,aC z1]
    have LA:h1.get? d=none:=by
     cases z:h1.get? d with
     |none=>rfl
     |some ob=>
      have y:=un.free d ob z (by rw[aC u4];exact ox) (by simp)
      rw[DL] at y;cases y
    have qi:hp.get? d=none:=by
     cases z:hp.get? d with
     |none=>rfl
     |some ob=>rw[hm.keeps d ob z] at LA;cases LA
    have I4:aQ X aa σ H1 s':=I3.untrack I1 (λb o z=>by rw[mf b (aD z K9) (aD z ox)];exact z)
     (λb a z=>by rw[<-mf b (by rintro rfl;rw[K'] at z;cases z) (by rintro rfl;rw[DL] at z;cases z)];exact z)
     (λb a z=>by rw[<-mf b (by rintro rfl;rw[K'] at z;cases z) (by rintro rfl;rw[DL] at z;cases z)];exact z)
    obtain⟨mA,A4,rel⟩:=(show cF X.prog X.w H' s'.heap d (.xd [("fault",.int n)]) from I3.hok d _ DL)
    exact L.new aa σ H1 s' ea n hp I4 B (λb o z=>un.there b o (hm.keeps b o z) (by simp)) ⟨⟨_,_,d,mA,K8,rfl,rfl,rfl,rfl,A4,rel,ox,qi,u4⟩,K9,hm.new⟩ hE
   |next=>exact False.elim ir
   |brk=>exact False.elim ir
   |cont=>exact False.elim ir
abbrev Cx.tryIn(X:Cx)(xe:Value->Shared->Prop)(pn:List (Addr×Obj)):Cx:={X with xe:=xe,pn:=pn}
abbrev Cx.inH(X:Cx)(ea:Addr):Cx:={X with A:=X.A.mark (some (.ref ea)),calm:=false,xe:=λ_ _=>False}
section
variable{wg:List (Addr×Obj)}{xe:Value->Shared->Prop}{ea:Addr}
theorem Cx.Ok.tryIn(ok:X.Ok)(xe:Value->Shared->Prop)(pn:List (Addr×Obj)):(X.tryIn xe pn).Ok:=
 ⟨ok.mod,ok.kind,ok.glob,ok.blt,ok.above,ok.inj,ok.has,ok.cab,ok.hd,ok.frames,ok.stk,ok.exf,ok.bs,ok.bsz,ok.noex,ok.exfs,ok.funs,ok.frf⟩
theorem Cx.Ok.inH(ok:X.Ok)(ea:Addr):(X.inH ea).Ok:=
 ⟨ok.mod,ok.kind,ok.glob,ok.blt,ok.above,ok.inj,ok.has,ok.cab,(λz=>nomatch (show false=true from z)),ok.frames,ok.stk,ok.exf,ok.bs,ok.bsz,ok.noex,ok.exfs,ok.funs,ok.frf⟩
theorem aQ.tryIn(I:aQ X aa σ H s)(xe:Value->Shared->Prop):aQ (X.tryIn xe (X.pn++aa)) [] σ H s:=
 ⟨I.ok.tryIn _ _,I.os,I.bare,I.base,I.loc,I.cell,I.free,I.freeC,λp hp=>I.pin p (by rw[ie] at hp;exact hp),I.hok,I.len⟩
theorem aQ.untry(ok:X.Ok)(I:aQ (X.tryIn xe (X.pn++aa)) wg σ H s):aQ X aa σ H s:=
 ⟨ok,I.os,I.bare,I.base,I.loc,I.cell,I.free,I.freeC,λp hp=>I.pin p (lq _ hp),I.hok,I.len⟩
theorem aQ.inH(I:aQ X aa σ H s)(ea:Addr):aQ (X.inH ea) aa σ H s:=⟨I.ok.inH ea,I.os,I.bare,I.base,I.loc,I.cell,I.free,I.freeC,I.pin,I.hok,I.len⟩
theorem aQ.outH(ok:X.Ok)(I:aQ (X.inH ea) aa σ H s):aQ X aa σ H s:=⟨ok,I.os,I.bare,I.base,I.loc,I.cell,I.free,I.freeC,I.pin,I.hok,I.len⟩
theorem SP.untry{f:Flow}(ok:X.Ok)(h:SP (X.tryIn xe (X.pn++aa)) wg D f s):SP X aa D f s:=by
 cases f with
 |next=>obtain⟨ah,H',I,q⟩:=h;exact⟨ah,H',I.untry ok,q⟩
 |brk=>obtain⟨ah,H',I,q⟩:=h;exact⟨ah,H',I.untry ok,q⟩
 |cont=>obtain⟨ah,H',I,q⟩:=h;exact⟨ah,H',I.untry ok,q⟩
 |ret u=>obtain⟨v,ah,H',I,r,q⟩:=h;exact⟨v,ah,H',I.untry ok,r,q⟩
theorem SP.outH{f:Flow}(ok:X.Ok)(h:SP (X.inH ea) aa D f s):SP X aa D f s:=by
 cases f with
 |next=>obtain⟨ah,H',I,q⟩:=h;exact⟨ah,H',I.outH ok,q⟩
 |brk=>obtain⟨ah,H',I,q⟩:=h;exact⟨ah,H',I.outH ok,q⟩
 |cont=>obtain⟨ah,H',I,q⟩:=h;exact⟨ah,H',I.outH ok,q⟩
 |ret u=>obtain⟨v,ah,H',I,r,q⟩:=h;exact⟨v,ah,H',I.outH ok,r,q⟩
theorem vA{Q:Shared->Prop}{n:Int}(d8:X.stack=X.env::X.outer)(jh:X.env.frame=some X.env.locals)(I:aQ X aa σ H s)(fh:s'.os=s.os)(hb:AllBare s'.gens)
  (un:Un (Al X.stack) [] H H' s.heap s'.heap) (hok:lC X.prog X.w H' s'.heap) (fl:uM C H' s'.heap s.heap ea n)
  (h:∀s3,aQ X aa σ H' s3->uM C H' s3.heap s.heap ea n->Q s3):
  wpAny (model X.prog X.w) X.A (noteFrame (.ref ea) X.env) (λ_ s2=>wpAny (model X.prog X.w) X.A (setFlight (.ref ea) none) (λ_ s3=>Q s3) E s2) E s':=by
 have I':=I.call' (ch:=[]) fh un hok hb (λ_ z=>nomatch z)
 have B:=I.below
 obtain⟨T,x,ma,DJ,DK,oT,ts,t1,t2,t3⟩:=fl
 obtain⟨oe,vs,d,mA,h1,h2,h3,h4,h5,h6,h7,h8,h9,di⟩:=id x.at_
 have fe:Al X.stack=(X.env::X.outer).filterMap (·.frame):=by rw[d8];rfl
 refine Be (outer:=X.outer) (base:=X.base) (oeT:=0) (by rw[I'.ok.frames,d8]) (by rw[<-d8];exact I'.stack) jh h1 h4 h5 ma t1 t2 t3 λh' T' Nt=>?_
 rw[<-fe] at Nt
 have I2:=I'.noted Nt B x.lo DJ x.he DK
 have A2:=Xn.noted (C:=C) I' Nt B (λb o q=>un.there b o q (by simp)) x (λo es ep q z=>by rw[t1] at q;cases q;rw[t2] at z;cases z)
 exact h _ I2 A2
theorem uX{n:Int}{Q:Unit->Shared->Prop}(fl:uM C H s.heap h0 ea n)(h:Q () s):wpAny M A (setFlight (.ref ea) none) Q E s:=by
 obtain⟨T,x,ma,DJ,DK,oT,ts,t1,t2,t3⟩:=fl
 obtain⟨oe,vs,d,mA,h1,h2,h3,h4,h5,h6,h7,h8,h9,di⟩:=id x.at_
 refine wpAny_setFlight_none h1 h4 h5 t1 t2 (yb.mp t3).1 ?_
 rw[Heap.update_setField_same s.heap T oT ts 3 .none t1 t2 t3]
 exact h
end
def aGr(n:Nat)(tb:XK->TS)(ts:TS):TS:=λD σ H=>tb (λ_ _ H'=>∀ah:St,ah.length=n->ts D ah H') D σ H
theorem aB8{DM:Pos}{b0:Stmt}{suite:List Stmt}{tb:XK->TS}{ts:TS}(T:Ex X.K C fI)(d8:X.stack=X.env::X.outer)(jh:X.env.frame=some X.env.locals)(hg:Gl X x)(hm:X.mg x=some (.ref C))
  (hb:∀xe pn E',iU (jA C X.prog X.w) (X.tryIn xe pn) E'->Ar (X.tryIn xe pn) body (tb E')) (hs:∀ea,Ar (X.inH ea) (b0::suite) ts) (gi:(x==("__debug__":Str))=false:=by decide):
  PS X (.Try body [.ExceptHandler (some (.Name x np)) none (b0::suite) DM] [] [] pos) (aGr X.N.length tb ts):=by
 intro aa s σ H D I h
 have ok:=I.ok
 refine wpAny_Try_except (cV (hb _ (X.pn++aa) _ ?_ [] s σ H D (I.tryIn _) h) λf s1 q=>?_)
 ·intro wg ah H1 s1 e s' I1 ⟨ea,n,H',he,fh,A3,un,hok,fl,hE⟩
  subst he
  refine vA d8 jh (I1.untry ok) fh A3 un hok fl λs3 I3 A5=>?_
  obtain⟨nm,qn,N,bs,sn,sub,ab,col,dd,k0,k1,k2,k3,k5,lk,ww,ni,nf,ns,ng,nh⟩:=id T.cls
  refine wpAny_handleBy_cons (OP (iG (X:=X.inH ea) (I3.inH ea) hg hm ?_ gi)) (λz=>nomatch z)
  obtain⟨oe,vs,d,mA,h1,h2,h3,h4,h5,h6⟩:=A5.choose_spec.1.at_
  have hC:=I3.kIn _ _ lk
  obtain⟨hp,g,dr,wx,os⟩:=s3
  refine OQ hC h1 h2 E6.hasBase ?_
  refine codeAny_handlers_suite (uX A5 ?_)
  exact jm (hs ea aa _ ah H' D (I3.inH ea) (hE ah I3.len)) (λf s4 q=>q.outH ok) λ_ _ z=>False.elim z
 ·have q':=q.untry ok
  cases f with
  |next=>exact xz q'
  |brk=>exact q'
  |cont=>exact q'
  |ret u=>exact q'
section
variable{o:HO}
theorem aQ.track(I:aQ X aa σ H s)(B:Fk X aa h0)(hn:h0.get? a=none)(hH:H a=none)(ok:cF X.prog X.w (upd H a o) s.heap a o):aQ X aa σ (upd H a o) s:=by
 refine⟨I.ok,I.os,I.bare,⟨I.base.keep,I.base.slot,λb ob e n hx=>?_,I.base.there,λb xs e=>?_,λb ob xs e=>?_,λb ps e=>?_⟩,I.loc,I.cell,?_,λx c e=>?_,λp hp=>?_,λb u e=>?_,I.len⟩
 ·rw[aC (eO (B.s0 b ob e hx) hn)]
  exact I.base.free b ob e n hx
 ·have e:=I.base.tups b xs e
  rw[aC (aD e hH)];exact e
 ·have e:=I.base.frzs b ob xs e
  rw[aC (aD e hH)];exact e
 ·obtain⟨m,e⟩:=I.base.tbls b ps e
  exact⟨m,by rw[aC (aD e hH)];exact e⟩
 ·rw[aC (eO B.loc hn)];exact I.free
 ·rw[aC (eO (B.cell x c e) hn)];exact I.freeC x c e
 ·obtain⟨h1,h2,h3⟩:=I.pin p hp
  exact⟨h1,by rw[aC (eO (B.pin p hp) hn)];exact h2,h3⟩
 ·by_cases hb:b=a
  ·subst hb;rw[aB] at e;cases e;exact ok
  ·rw[aC hb] at e
   exact(I.hok b u e).stay (λ_ _ _ q=>q) (λc q=>by rw[aC (aD q hH)];exact q) λc xs q=>by rw[aC (aD q hH)];exact q
theorem aQ.forget{m':Str->Option Value}(I:aQ X aa σ H s)(hn:h'.Ns X.env.locals m')(hs:Heap.SameBut X.env.locals s.heap h'):aQ X aa (List.replicate X.N.length none) H {s with heap:=h',toks:=t'}:=by
 have old:∀b ob,X.s_0.heap.get? b=some ob->b≠X.env.locals:=λb ob e=>b8 (i7 (ba e) I.ok.above)
 refine⟨I.ok,I.os,I.bare,⟨λb ob e n hb hx=>(hs.2 b (old b ob e)).trans (I.base.keep b ob e n hb hx),λb ob e n hb hx=>?_,I.base.free,λb ob e hx=>?_,I.base.tups,I.base.frzs,I.base.tbls⟩,⟨_,hn,λj y v e1 e2 e3=>?_⟩,λy c e=>?_,I.free,I.freeC,λp hp=>?_,λb ob e=>?_,by simp⟩
 ·obtain⟨sl,e1⟩:=I.base.slot b ob e n hb hx
  exact⟨sl,(hs.2 b (old b ob e)).trans e1⟩
 ·obtain⟨o',e1⟩:=I.base.there b ob e hx
  exact⟨o',(hs.2 b (old b ob e)).trans e1⟩
 ·rw[N7] at e2
  split at e2<;>cases e2
 ·obtain⟨w',z⟩:=I.cell y c e
  exact⟨w',z.sameBut hs (I.cne y c e)⟩
 ·obtain⟨e,n,ne,nf,d⟩:=I.pin p hp
  exact⟨(hs.2 p.1 ne).trans e,n,ne,nf,d⟩
 ·refine(I.hok b ob e).stay (λc w' hc q=>(hs.2 c ?_).trans q) (λ_ q=>q) λ_ _ q=>q
  rintro rfl
  rcases hc with rfl|hc
  ·rw[I.free] at e;cases e
  ·rw[I.free] at hc;cases hc
end
def XR(C d e:Addr):HO:=.ext λh=>∃oe vs,h.get? e=some oe/\oe.cls=.ref C/\oe.dict=some d/\oe.data=.fields vs
theorem XR.ok{e:Addr}(h1:h.get? e=some oe)(h2:oe.cls=.ref C)(h3:oe.dict=some d)(h4:oe.data=.fields vs):cF P w H h e (XR C d e):=
 ⟨⟨oe,vs,h1,h2,h3,h4⟩,⟨_,h1⟩,λ_ _ ⟨oe,vs,z,r⟩ k=>⟨oe,vs,k _ z,r⟩⟩
def aE6(C:Addr)(ta:TE):TE:=fun σ H Q=>ta σ H λx H1=>∃e d n,x=.ref e/\H1 e=some (XR C d e)/\H1 d=some (.xd [("fault",.int n)])/\Q (.int n) H1
theorem Xw(T:Ex X.K C fI)(he:PE X e ta)(hb:attributeBase e "fault" X.env (eval e X.env)=eval e X.env):PE X (.Attribute e "fault" pos) (aE6 C ta):=by
 intro aa s σ H Q I h
 refine Nc hb (cV (he aa s σ H _ I h) λu s1 ⟨x,H1,I1,rx,ea,d,n,ex,h1,h2,q⟩=>?_)
 subst ex
 obtain rfl:u=Value.ref ea:=rx
 obtain⟨nm,qn,N,bs,sn,sub,ab,col,dd,k0,k1,k2,k3,k5,lk,ww,ni,nf,ns,ng,nh⟩:=id T.cls
 have hC:=I1.kIn _ _ lk
 have hN:s1.heap.Ns N (s1.heap.nsMap N):=.of_isNs (isNs_of_in I1.kIn ww)
 obtain⟨⟨oe,vs,g1,g2,g3,g4⟩,_,_⟩:=(show cF X.prog X.w H1 s1.heap ea (XR C d ea) from I1.hok ea _ h1)
 obtain⟨mA,A4,rel⟩:=(show cF X.prog X.w H1 s1.heap d (.xd [("fault",.int n)]) from I1.hok d _ h2)
 obtain⟨uf,hf,m8,rfl⟩:=lE.some_of (v:=V.int n) (o:=mA "fault") (rel "fault")
 have I2:=I1.tok (s1.toks+1)
 obtain⟨hp,g,dr,wx,os⟩:=s1
 exact Vk F.attrBase_Exception hC hN (ns_none_of I1.kIn hN ng) (ns_none_of I1.kIn hN nh) (ns_none_of I1.kIn hN nf) xB g1 g2 (λc z=>by rw[g4] at z;cases z) g3 A4 hf rfl ⟨.int n,H1,I2,⟨_,rfl⟩,q⟩
def aB9(C:Addr)(i n:Nat)(tb:XK->TS)(ts:TS):TS:=λD σ H=>tb (λv _ H'=>∃f,v=.int f 0/\∀(ah:St)(e d:Addr),ah.length=n->H' e=none->H' d=none->d≠e->
 ts {nx:=λ_ _=>False,rt:=D.rt} (ah.set i (some (.ref e))) (upd (upd H' d (.xd [("fault",.int f)])) e (XR C d e))) D σ H
theorem Wh{y:Str}{DM:Pos}{b0:Stmt}{suite:List Stmt}{tb:XK->TS}{ts:TS}(T:Ex X.K C fI)(d8:X.stack=X.env::X.outer)(jh:X.env.frame=some X.env.locals)(hg:Gl X x)(hm:X.mg x=some (.ref C))
  (hN:X.N.Nodup) (hi:X.N[i]?=some y) (hy:X.env.kindOf y=some .local)
  (hb:∀xe pn E',iU (jA C X.prog X.w) (X.tryIn xe pn) E'->Ar (X.tryIn xe pn) body (tb E')) (hs:∀ea,Ar (X.inH ea) (b0::suite) ts) (gi:(x==("__debug__":Str))=false:=by decide):
  PS X (.Try body [.ExceptHandler (some (.Name x np)) (some y) (b0::suite) DM] [] [] pos) (aB9 C i X.N.length tb ts):=by
 intro aa s σ H D I h
 have ok:=I.ok
 refine wpAny_Try_except (cV (hb _ (X.pn++aa) _ ?_ [] s σ H D (I.tryIn _) h) λf s1 q=>?_)
 ·intro wg ah H1 s1 e s' I1 ⟨ea,n,H',he,fh,A3,un,hok,fl,fn,AU,hE⟩
  subst he
  obtain rfl:n=fn:=by cases AU;rfl
  have B:=(I1.untry ok).below
  refine vA d8 jh (I1.untry ok) fh A3 un hok fl λs3 I3 A5=>?_
  obtain⟨nm,qn,N,bs,sn,sub,ab,col,dd,k0,k1,k2,k3,k5,lk,ww,ni,nf,ns,ng,nh⟩:=id T.cls
  refine wpAny_handleBy_cons (OP (iG (X:=X.inH ea) (I3.inH ea) hg hm ?_ gi)) (λz=>nomatch z)
  have RJ:=A5
  obtain⟨TT,xn,_⟩:=RJ
  obtain⟨oe,vs,d,mA,h1,h2,h3,h4,h5,h6,h7,h8,h9,di⟩:=id xn.at_
  have hC:=I3.kIn _ _ lk
  have It:aQ X aa ah (upd (upd H' d (.xd [("fault",.int n)])) ea (XR C d ea)) s3:=by
   have J:=I3.track (a:=d) (o:=.xd [("fault",.int n)]) B h9 h8 ?_
   ·exact J.track (a:=ea) (o:=XR C d ea) B xn.lo (by rw[aC (au di)];exact xn.he) (XR.ok h1 h2 h3 h4)
   ·exact⟨mA,h6,h7⟩
  obtain⟨hp,g,dr,wx,os⟩:=s3
  refine OQ hC h1 h2 E6.hasBase ?_
  refine codeAny_handlers_suite_as (uX A5 ?_)
  refine yI (X:=X.inH ea) (v:=.ref ea) (It.inH ea) hN hi (.inl hy) rfl (λs4 I4=>?_) (.inr hy)
  refine jm (hs ea aa _ _ _ _ I4 (hE ah ea d I3.len xn.he h8 di)) (λf s5 q=>?_) λ_ _ z=>False.elim z
  cases f with
  |next=>obtain⟨_,_,_,z⟩:=q;exact False.elim z
  |brk=>obtain⟨_,_,_,z⟩:=q;exact False.elim z
  |cont=>obtain⟨_,_,_,z⟩:=q;exact False.elim z
  |ret u=>
   obtain⟨v,C7,H6,I6,r,q⟩:=q
   have I6:=I6.outH ok
   obtain⟨m,zf,_⟩:=id I6.loc
   refine wpAny_nameGoes hy zf (by rw[ok.kind];rfl) λh' m' yz wy=>?_
   exact⟨v,_,H6,I6.forget yz wy,r,q⟩
 ·have q':=q.untry ok
  cases f with
  |next=>exact xz q'
  |brk=>exact q'
  |cont=>exact q'
  |ret u=>exact q'
structure hU(k:Nat)(A:Around):Prop where
 dp:A.depth+3 * k+5<recursionLimit
 un:A.units+16 * k+200<cLine
theorem eY.n(r:eY k A):hU k A:=⟨r.dp,r.un⟩
theorem hU.mark(r:hU k A)(h:Option Value):hU k (A.mark h):=⟨r.dp,r.un⟩
theorem hU.make(r:hU (k+1) A)(C:Addr)(us:List Value)(kw:List (Str×Value)):hU k (A.under (.builtin "type.__call__" ⟨.ref C::us,kw⟩)):=
 ⟨by have:=r.dp;rw[yV];omega,by have:=r.un;rw[zH];omega⟩
theorem hU.deeper(r:hU (k+1) A)(env:Env):hU k (A.deeper env):=
 ⟨by have:=r.dp;show A.depth+1+3 * k+5<_;omega,by have:=r.un;show A.units+3+16 * k+200<_;omega⟩
theorem hU.depth(r:hU k A):A.depth<recursionLimit:=by have:=r.dp;omega
structure Cf(P:Program)(w:World)(K:Frag)(mg:Str->Option Value)(base:Heap)(CX:Iz)(k:Nat)(f:Addr)(fd:FuncData)(ps:List Str)(sp:Sp):Prop where
 len:∀vs H Q E,sp vs H Q E->vs.length=ps.length
 run:∀(A:Around)(outer:List Env)(s:Shared)(H:Hp)(args:Args)(us:List Value)(vs:List V)(Q:VK)(E:XK),hU k A->yT P w K mg base A outer s H->BindsTo s fd args (ps.zip us)->bK vs us->sp vs H Q E->
  codeAny (model P w) A (.call (.ref f) args) (Cr9 CX outer P w H s Q E) s
abbrev cxN(P:Program)(w:World)(K:Frag)(mg:Str->Option Value)(base:Heap)(N:List Str)(aq:Str)(scope:Scope)(f:Addr)(cd:Value)(A:Around)(outer:List Env)(s:Shared)(H:Hp)(E:XK):Cx:=
 {Dd bN P w K mg base N aq scope f cd A outer s H E with calm:=false}
theorem eZ.okN{st:Stmt}(F:eZ K x aq st f fd)(S:aN N ps (aG st))
  (len:∀vs H Q E,sp vs H Q E->vs.length=ps.length)
  (wo:∀(ak:Value)(A:Around)(outer:List Env)(s:Shared)(H:Hp)(vs:List V)(Q:VK)(E:XK),hU k (A.deeper (envOfC aq (aG st) s.heap.objs.size f ak))->sp vs H Q E->
   ∃t,Ar (cxN P w K mg base N aq (aG st) f ak A outer s H E).nox (dX st) t/\t {nx:=λ_ H'=>Q .non H',rt:=Q} (mH N vs) H):Cf P w K mg base bN (k+1) f fd ps sp:=by
 obtain⟨oc,od,kV,bq,pm,an,ak,ct,df,rfl,lk,i'⟩:=F.ex
 refine⟨len,λA outer s H args us vs Q E hr e0 hb r ke=>?_⟩
 have hl:=len _ _ _ _ ke
 have KX:K.In s.heap:=e0.mod.kin.keeps λb o e=>(e0.bs b o e).1
 have lim:s.heap.NoLimit:=e0.mod.nolimit.keeps λb o e=>(e0.bs b o e).1
 have F4:∀y∈ps.zip us,(aG st).names.lookup y.1=some .local\/((aG st).names.lookup y.1=some .cell/\((cellsFrom (s.heap.objs.size+1) (aG st).names []).lookup y.1).isSome=true):=λ⟨n,v⟩ hy=>by
  rcases S.par n (B8 hy).1 with q|q
  ·exact .inl q
  ·exact .inr ⟨q,cellsFrom_some _ _ _ (.inl q)⟩
 refine N9 hr.depth (KX _ _ lk) rfl S.co S.gen rfl (codeRec_of KX i') (hb _ _ _ _ ?_)
 refine N' S.kind F4 λenv he s1 x=>?_
 subst he
 refine⟨lim.keeps x.toInCall.keep,codeAny_func ?_⟩
 obtain⟨t,ht,hq⟩:=wo ak A outer s H vs Q E (hr.deeper _) ke
 have I0:=Ax (CX:=bN) (P:=P) (w:=w) (K:=K) (mg:=mg) (base:=base) (N:=N) (aq:=aq) (f:=f) (cd:=ak) (A:={A with handled:=none}) (outer:=outer) (H:=H) (E:=E) S rfl ⟨e0.frames,e0.mod,e0.bs,e0.bsz,e0.funs,e0.frf,e0.hok,e0.bare⟩ hl r x
 have ok:=I0.ok
 have I:aQ (cxN P w K mg base N aq (aG st) f ak A outer s H E).nox [] (mH N vs) H s1:=
  ⟨⟨ok.mod,ok.kind,ok.glob,ok.blt,ok.above,ok.inj,ok.has,ok.cab,(λz=>nomatch (show false=true from z)),ok.frames,ok.stk,ok.exf,ok.bs,ok.bsz,ok.noex,ok.exfs,ok.funs,ok.frf⟩,I0.os,I0.bare,I0.base,I0.loc,I0.cell,I0.free,I0.freeC,I0.pin,I0.hok,I0.len⟩
 refine jm (ht [] s1 (mH N vs) H _ I hq) (λfl s' hs=>?_) λe s' hs=>False.elim hs
 have fin:∀{ah:St}{H':Hp}{v:V}{u:Value},aQ (cxN P w K mg base N aq (aG st) f ak A outer s H E).nox [] ah H' s'->cB v u->Q v H'->CE outer P w H s Q u s':=
  λ{ah H' v u} J rv q=>⟨v,H',J.os,J.bare,J.base,J.hok,rv,q⟩
 cases fl with
 |ret u=>
  obtain⟨v,ah,H',J,rv,q⟩:=hs
  exact fin J rv q
 |next=>
  obtain⟨ah,H',J,q⟩:=hs
  exact fin (v:=V.non) (u:=Value.none) J rfl q
 |brk=>
  obtain⟨_,_,_,q⟩:=hs
  exact False.elim q
 |cont=>
  obtain⟨_,_,_,q⟩:=hs
  exact False.elim q
section
variable{p:Pos}{es:List Expr}{t:TA}
theorem mY(M:Mk X.K C f)(F:Cf X.prog X.w X.K X.mg X.base bN k f fd ps sp)(hr:hU (k+1) X.A)(hg:Gl X x)(hm:X.mg x=some (.ref C))(hb:eR X.K fd ps [])
  (ha:PA X (e::es) t) (gi:(x==("__debug__":Str))=false:=by decide) (he:starEach (e::es) X.env=(false,eval e X.env)::starEach es X.env:=by rfl) (ff:(backTo pos (starEach es X.env)).any (·.1)=false:=by rfl):
  PE X (.Call (.Name x p) (e::es) [] pos) (Nf C sp [] E0 t):=by
 intro aa s σ H Q I h
 refine wpAny_Call_Name_kw (iG I hg hm ?_ gi)
 refine callWith_K (h₀:=X.base) I.ok.mod.kin M.kp (cV (ha pos aa s σ H _ I h) λus s1 ⟨vs,H1,I1,r,q⟩=>⟨I1.kIn,?_⟩) he ff
 have hq:=q (s1.heap.objs.size+1) s1.heap.objs.size (I1.hok.fresh (AC _)) (I1.hok.fresh (ap _)) (b8 (lu _))
 rw[ie] at hq
 have I2:=aQ.made (C:=C) I1
 have r2:bK (V.ref (s1.heap.objs.size+1)::vs) (Value.ref (s1.heap.objs.size+1)::us):=.cons rfl r
 have hl:(Value.ref (s1.heap.objs.size+1)::us++[]).length=ps.length:=by
  have e:=r2.length
  rw[F.len _ _ _ _ hq] at e
  rw[ie]
  exact e.symm
 have j0:=hb _ (Value.ref (s1.heap.objs.size+1)::us) I2.kIn hl
 rw[ie] at j0
 refine AB (Fc (f:=f) I1.kIn M.makes M.init (cp.mp M.fn) (ua (F.run _ X.stack _ _ ⟨Value.ref (s1.heap.objs.size+1)::us,[]⟩ (Value.ref (s1.heap.objs.size+1)::us) _ _ E0 (hr.make C us [])
  (I2.env0.make C us []) j0 r2 hq) λr s' ir=>?_))
 cases r with
 |error e=>exact False.elim ir
 |ok fl=>
  cases fl with
  |ret u=>
   obtain⟨v,H',I3,rv,ev,q3⟩:=I2.after ir
   subst ev
   exact⟨rv,⟨V.ref (s1.heap.objs.size+1),H',I3,rfl,q3⟩⟩
  |next=>exact False.elim ir
  |brk=>exact False.elim ir
  |cont=>exact False.elim ir
end
theorem eZ.okX{st:Stmt}(F:eZ K x aq st f fd)(S:aN N ps (aG st))
  (len:∀vs H Q E,sp vs H Q E->vs.length=ps.length)
  (wo:∀(ak:Value)(A:Around)(outer:List Env)(s:Shared)(H:Hp)(vs:List V)(Q:VK)(E:XK),eY k (A.deeper (envOfC aq (aG st) s.heap.objs.size f ak))->sp vs H Q E->
   ∃t,Ar (Dd (jA C P w) P w K mg base N aq (aG st) f ak A outer s H E) (dX st) t/\t {nx:=λ_ H'=>Q .non H',rt:=Q} (mH N vs) H):bO P w K mg base (jA C P w) (k+1) f fd ps sp:=by
 obtain⟨oc,od,kV,bq,pm,an,ak,ct,df,rfl,lk,i'⟩:=F.ex
 exact aBe lk i' S len λA outer s H vs Q E hr ke=>wo ak A outer s H vs Q E hr ke
theorem jC(n:Int){p pp:Pos}(hm:X.mg "ord"=none)(hg:Gl X "ord":=by rfl)(hl:x.length=1:=by decide+kernel)(hn:((x.cps.getD 0 0:Nat):Int)=n:=by decide+kernel)
  (he:starEach [.Constant (.str x) j pp] X.env=(false,eval (.Constant (.str x) j pp) X.env)::starEach [] X.env:=by rfl):PE X (.Call (.Name "ord" p) [.Constant (.str x) j pp] [] pos) (tC (.int n)):=by
 intro aa s σ H Q I h
 refine bS (r:=λxs H Q=>∃x,xs=[.str x]/\x.length=1/\Q (.int (x.cps.getD 0 0:Nat)) H) Gf hg hm boot_ord (aA gM aE he) (by decide) (by decide) he rfl aa s σ H Q I ?_
 refine⟨x,rfl,hl,?_⟩
 rw[hn]
 exact h
end L2
namespace Br1
open PySem PySem.Spec PyProof.Rows L2
variable{K:Frag}
def kX(b:Int):Bool:=decide (97<=b) && decide (b<=122)
def jG(b:Int):Bool:=decide (48<=b) && decide (b<=57)
def qI:Sp:=λvs H Q _=>∃b:Int,vs=[.int b]/\Q (.bl (kX b)) H
def oP:Sp:=λvs H Q _=>∃b:Int,vs=[.int b]/\Q (.bl (jG b)) H
theorem Ik:aN ["byte"] ["byte"] (aG oQ):=⟨rfl,rfl,rfl,by decide+kernel,rfl,by decide+kernel,by decide+kernel⟩
theorem Gv(F:eZ K "is_letter" "is_letter" oQ f fd)(m9:mg "ord"=none):bO P w K mg base bN 1 f fd ["byte"] qI:=by
 refine F.ok Ik (λvs H Q E h=>?_) (λak A outer s H vs Q E hr h=>?_)
 ·obtain⟨b,rfl,_⟩:=h
  rfl
 ·obtain⟨b,rfl,k⟩:=h
  refine⟨_,aH (aR (mX qX qX (jC 97 m9) (pv 0) (jC 122 m9))),?_⟩
  refine⟨_,rfl,_,_,rfl,rfl,_,rfl,bZ (λh1=>⟨_,_,rfl,rfl,?_⟩) (λh1=>?_)⟩
  ·have e:kX b=decide (b<=122):=by unfold kX;rw[h1,i8]
   rw[e] at k
   exact k
  ·have e:kX b=false:=by unfold kX;rw[OR h1,lr]
   rw[e] at k
   exact k
theorem Js:aN ["byte"] ["byte"] (aG qS):=⟨rfl,rfl,rfl,by decide+kernel,rfl,by decide+kernel,by decide+kernel⟩
theorem Jl(F:eZ K "is_digit" "is_digit" qS f fd)(m9:mg "ord"=none):bO P w K mg base bN 1 f fd ["byte"] oP:=by
 refine F.ok Js (λvs H Q E h=>?_) (λak A outer s H vs Q E hr h=>?_)
 ·obtain⟨b,rfl,_⟩:=h
  rfl
 ·obtain⟨b,rfl,k⟩:=h
  refine⟨_,aH (aR (mX qX qX (jC 48 m9) (pv 0) (jC 57 m9))),?_⟩
  refine⟨_,rfl,_,_,rfl,rfl,_,rfl,bZ (λh1=>⟨_,_,rfl,rfl,?_⟩) (λh1=>?_)⟩
  ·have e:jG b=decide (b<=57):=by unfold jG;rw[h1,i8]
   rw[e] at k
   exact k
  ·have e:jG b=false:=by unfold jG;rw[OR h1,lr]
   rw[e] at k
   exact k
def RdF(a:Addr)(p:Int):List (Str×V):=[("text",.ref a),("position",.int p)]
theorem Hg(a:Addr)(p:Int):(RdF a p).lookup ("text":Str)=some (V.ref a):=rfl
theorem gQ(a:Addr)(p:Int):(RdF a p).lookup ("position":Str)=some (V.int p):=rfl
def iB(CR:Addr)(H:Hp)(r a:Addr)(p:Nat):Prop:=∃dx,H r=some (.ins CR dx (RdF a p))
def SX(r:Addr)(H H':Hp):Prop:=∀b o,H b=some o->b≠r->H' b=some o
theorem SX.refl(r:Addr)(H:Hp):SX r H H:=λ_ _ e _=>e
theorem SX.trans{r:Addr}{H H1 H2:Hp}(a:SX r H H1)(b:SX r H1 H2):SX r H H2:=λc o e n=>b c o (a c o e n) n
theorem SX.upd(o:HO):SX r H (upd H r o):=λb u e n=>by rw[aC n];exact e
theorem aK.sx(s:aK H H'):SX r H H':=λb o e _=>s b o e
theorem SX.seq{fs:List (Str×V)}(s:SX r H H')(hr:H r=some (.ins C dx fs))(h:cP K H a xs):cP K H' a xs:=by
 rcases h with (h|⟨o,h⟩)|h
 ·exact .inl (.inl (s _ _ h (by rintro rfl;rw[hr] at h;cases h)))
 ·exact .inl (.inr ⟨o,s _ _ h (by rintro rfl;rw[hr] at h;cases h)⟩)
 ·exact .inr h
theorem SX.seqT{fs:List (Str×V)}(s:SX r H H')(hr:H r=some (.ins C dx fs))(h:cG K H a xs):cG K H' a xs:=by
 rcases h with (h|⟨o,h⟩)|h
 ·exact .inl (.inl (s _ _ h (by rintro rfl;rw[hr] at h;cases h)))
 ·exact .inl (.inr ⟨o,s _ _ h (by rintro rfl;rw[hr] at h;cases h)⟩)
 ·exact .inr h
structure Iw(K:Frag)(CR:Addr):Prop where
 cl:Ix K CR
 nT:dG K CR "text"
 nP:dG K CR "position"
def aT(l:List Int)(p:Nat):Int:=(l[p]?).getD 256
structure jW(K:Frag)(CR:Addr)(H:Hp)(r a:Addr)(l:List Int)(p:Nat):Prop where
 rd:iB CR H r a p
 tx:cP K H a (l.map V.int)
 le:p<=l.length
theorem jW.same{q:Nat}(x:jW K CR H r a l p)(s:SX r H H')(hr:iB CR H' r a q)(hq:q<=l.length):jW K CR H' r a l q:=
 let ⟨_,e⟩:=x.rd
 ⟨hr,s.seq e x.tx,hq⟩
theorem Rn:aN ["self","fault"] ["self","fault"] (aG rY):=⟨rfl,rfl,rfl,by decide+kernel,rfl,by decide+kernel,by decide+kernel⟩
theorem Oz(F:eZ K "__init__" "Stuck.__init__" rY f fd)(T:Ex K C f):bO P w K mg base bN 1 f fd ["self","fault"] (aCj C):=by
 refine F.ok Rn (λvs H Q E h=>?_) (λak A outer s H vs Q E hr h=>?_)
 ·obtain⟨e,t,n,rfl,_⟩:=h
  rfl
 ·obtain⟨e,t,n,rfl,he,k⟩:=h
  refine⟨_,aH (Yu T (pv 0) (pv 1) rfl),?_⟩
  exact⟨_,rfl,_,rfl,e,t,n,rfl,rfl,he,k⟩
def aFg(CR:Addr):Sp:=λvs H Q _=>∃r dx a:Addr,vs=[.ref r,.ref a]/\H r=some (.ins CR dx [])/\∀H':Hp,iB CR H' r a 0->SX r H H'->Q .non H'
theorem aC6:aN ["self","text"] ["self","text"] (aG Zx):=⟨rfl,rfl,rfl,by decide+kernel,rfl,by decide+kernel,by decide+kernel⟩
theorem aB6(F:eZ K "__init__" "Reader.__init__" Zx f fd)(T:Iw K CR):bO P w K mg base bN 1 f fd ["self","text"] (aFg CR):=by
 refine F.ok aC6 (λvs H Q E h=>?_) (λak A outer s H vs Q E hr h=>?_)
 ·obtain⟨r,dx,a,rfl,_⟩:=h
  rfl
 ·obtain⟨r,dx,a,rfl,hp,k⟩:=h
  refine⟨_,aF (dZ (pv 0) (pv 1) rfl) (aH (dZ (pv 0) aI rfl)),?_⟩
  refine⟨_,rfl,_,rfl,r,CR,dx,[],rfl,hp,T.cl,T.nT,(by show 0<1000;decide),?_⟩
  refine⟨_,rfl,r,CR,dx,_,rfl,aB,T.cl,T.nP,(by show 1<1000;decide),?_⟩
  exact k _ ⟨dx,aB⟩ λb o e hb=>by rw[aC hb,aC hb];exact e
def pE(K:Frag)(CR:Addr):Sp:=λvs H Q _=>∃(r a:Addr)(l:List Int)(p:Nat),vs=[.ref r]/\jW K CR H r a l p/\Q (.bl (decide (p=l.length))) H
theorem Ty:aN ["self"] ["self"] (aG Cy):=⟨rfl,rfl,rfl,by decide+kernel,rfl,by decide+kernel,by decide+kernel⟩
theorem Vh(F:eZ K "ended" "Reader.ended" Cy f fd)(T:Iw K CR)(bi:mg "len"=none):bO P w K mg base bN 1 f fd ["self"] (pE K CR):=by
 refine F.ok Ty (λvs H Q E h=>?_) (λak A outer s H vs Q E hr h=>?_)
 ·obtain⟨r,a,l,p,rfl,_⟩:=h
  rfl
 ·obtain⟨r,a,l,p,rfl,⟨⟨dx,h1⟩,tx,le⟩,k⟩:=h
  refine⟨_,aH (aR (mB rD (aU (pv 0) rfl) (bS bW (by rfl) bi boot_len (aA (aU (pv 0) rfl) aE)) (gX _))),?_⟩
  refine⟨_,rfl,r,CR,dx,_,_,rfl,h1,T.cl,T.nP,gQ _ _,_,rfl,r,CR,dx,_,_,rfl,h1,T.cl,T.nT,Hg _ _,a,_,rfl,.inl tx,rfl,?_⟩
  have e:decide (V.int (p:Int)=V.int ((l.map V.int).length:Int))=decide (p=l.length):=by
   rw[ai,vS,ge,cp,b7]
   (clear le;omega)
  show Q (.bl (decide (V.int (p:Int)=V.int ((l.map V.int).length:Int)))) H
  rw[e]
  exact k
structure oK(P:Program)(w:World)(K:Frag)(mg:Str->Option Value)(base:Heap)(CR:Addr)(m:Str)(CX:Iz)(k:Nat)(ps:List Str)(sp:Sp):Prop where
 ex:∃f fd,aAx K CR m f/\bO P w K mg base CX k f fd ps sp/\eR K fd ps []
def qH(K:Frag)(CR:Addr):Sp:=λvs H Q _=>∃(r a:Addr)(l:List Int)(p:Nat),vs=[.ref r]/\jW K CR H r a l p/\Q (.int (aT l p)) H
theorem Zr:aN ["self"] ["self"] (aG Lx):=⟨rfl,rfl,rfl,by decide+kernel,rfl,by decide+kernel,by decide+kernel⟩
theorem aA1(F:eZ K "here" "Reader.here" Lx f fd)(T:Iw K CR)(cg:mg "NO_BYTE"=some (.int 256 tk))(M:oK P w K mg base CR "ended" bN 1 ["self"] (pE K CR)):bO P w K mg base bN 2 f fd ["self"] (qH K CR):=by
 obtain⟨fe,fde,me,Ge,be⟩:=M.ex
 refine F.ok Zr (λvs H Q E h=>?_) (λak A outer s H vs Q E hr h=>?_)
 ·obtain⟨r,a,l,p,rfl,_⟩:=h
  rfl
 ·obtain⟨r,a,l,p,rfl,x,k⟩:=h
  obtain⟨⟨dx,h1⟩,tx,le⟩:=id x
  refine⟨_,aF (eA (eQ (cC (pv 0) T.cl me Ge hr be .nil aX)) (aH (aR (wD (v:=.int 256) (by rfl) cg ⟨tk,rfl⟩))) bX) (aH (aR (bH jM (aU (pv 0) rfl) (aU (pv 0) rfl) (λ_ _=>rfl)))),?_⟩
  refine⟨_,rfl,r,dx,_,rfl,h1,rfl,r,a,l,p,rfl,x,_,rfl,bZ (λhc=>?_) (λhc=>?_)⟩
  ·have e:p=l.length:=dw hc
   have e2:aT l p=256:=by unfold aT;rw[jv (vn e.symm)];rfl
   rw[e2] at k
   exact k
  ·have e:p<l.length:=Nat.lt_of_le_of_ne le λz=>hc (decide_eq_true z)
   refine⟨_,rfl,r,CR,dx,_,_,rfl,h1,T.cl,T.nT,Hg _ _,_,rfl,r,CR,dx,_,_,rfl,h1,T.cl,T.nP,gQ _ _,a,_,_,_,rfl,rfl,tx,jF (j:=p) (v:=V.int (aT l p)) ?_,k⟩
   unfold aT
   rw[bg,ax e]
   rfl
def qJ(K:Frag)(CR:Addr):Sp:=λvs H Q _=>∃(r a:Addr)(l:List Int)(p:Nat),vs=[.ref r]/\jW K CR H r a l p/\∀H':Hp,iB CR H' r a (p+1)->SX r H H'->Q (.int (aT l p)) H'
theorem Nd:aN ["self","byte"] ["self"] (aG Oa):=⟨rfl,rfl,rfl,by decide+kernel,rfl,by decide+kernel,by decide+kernel⟩
theorem Zd(F:eZ K "take" "Reader.take" Oa f fd)(T:Iw K CR)(M:oK P w K mg base CR "here" bN 2 ["self"] (qH K CR)):bO P w K mg base bN 3 f fd ["self"] (qJ K CR):=by
 obtain⟨fe,fde,me,Ge,be⟩:=M.ex
 refine F.ok Nd (λvs H Q E h=>?_) (λak A outer s H vs Q E hr h=>?_)
 ·obtain⟨r,a,l,p,rfl,_⟩:=h
  rfl
 ·obtain⟨r,a,l,p,rfl,x,k⟩:=h
  obtain⟨⟨dx,h1⟩,tx,le⟩:=id x
  refine⟨_,aF (bF (i:=1) Nd.nd rfl (Or.inl rfl) (cC (pv 0) T.cl me Ge hr be .nil aX)) (aF (Pb (pv 0) aI aCv) (aH (aR (pv 1)))),?_⟩
  refine⟨_,rfl,r,dx,_,rfl,h1,rfl,r,a,l,p,rfl,x,?_⟩
  refine⟨_,rfl,r,CR,dx,_,_,rfl,h1,T.cl,T.nP,gQ _ _,_,_,rfl,rfl,dx,_,h1,(by show 2<1000;decide),?_⟩
  refine⟨_,rfl,k _ ⟨dx,?_⟩ (SX.upd _)⟩
  rw[aB]
  rfl
structure StT(P:Program)(w:World)(K:Frag)(mg:Str->Option Value)(base:Heap)(C:Addr):Prop where
 ex:∃f fd,Ex K C f/\bO P w K mg base bN 1 f fd ["self","fault"] (aCj C)/\eR K fd ["self","fault"] []
 mg:mg "Stuck"=some (.ref C)
theorem gA(h:aT l p≠256):p<l.length:=by
 by_cases z:p<l.length
 ·exact z
 ·refine absurd ?_ h
  unfold aT
  rw[jv (Nat.le_of_not_lt z)]
  rfl
theorem iT(x:Int):∀l:List Int,Kr (.int x) (l.map V.int)=decide (x∈l)
 |[]=>by simp[Kr]
 |y::r=>by
  have ih:=iT x r
  unfold Kr at ih ⊢
  rw[bn,re,ih,ge]
  show ((y==x)||decide (x∈r))=true↔_
  rw[ya,cp,b7,b7,ao]
  constructor
  ·rintro(h|h)
   ·exact .inl h.symm
   ·exact .inr h
  ·rintro(h|h)
   ·exact .inl h.symm
   ·exact .inr h
theorem Bu:∀l:List Int,(l.map V.int).all pR=true
 |[]=>rfl
 |_::r=>by rw[bn,ub,Bu r];rfl
def qV(K:Frag)(CR:Addr):Sp:=λvs H Q E=>∃(r a g:Addr)(l sl:List Int)(p:Nat),vs=[.ref r,.ref g]/\jW K CR H r a l p/\cG K H g (sl.map V.int)/\256∉sl/\
 (aT l p∈sl->∀H':Hp,iB CR H' r a (p+1)->SX r H H'->Q (.int (aT l p)) H')/\(aT l p∉sl->E (.int p 0) none H)
theorem Tj:aN ["self","signs"] ["self","signs"] (aG Ek):=⟨rfl,rfl,rfl,by decide+kernel,rfl,by decide+kernel,by decide+kernel⟩
theorem Wl(F:eZ K "read_one_of" "Reader.read_one_of" Ek f fd)(T:Iw K CR)(S:StT P w K mg base C)(M1:oK P w K mg base CR "here" bN 2 ["self"] (qH K CR))(M2:oK P w K mg base CR "take" bN 3 ["self"] (qJ K CR)):
  bO P w K mg base (jA C P w) 4 f fd ["self","signs"] (qV K CR):=by
 obtain⟨f1,qj,m1,G1,b1⟩:=M1.ex
 obtain⟨f2,wz,m2,G2,b2⟩:=M2.ex
 obtain⟨fx,A6,XT,GX,bx⟩:=S.ex
 refine F.okX Tj (λvs H Q E h=>?_) (λak A outer s H vs Q E hr h=>?_)
 ·obtain⟨r,a,g,l,sl,p,rfl,_⟩:=h
  rfl
 ·obtain⟨r,a,g,l,sl,p,rfl,x,hg,kx,k1,k2⟩:=h
  obtain⟨⟨dx,h1⟩,tx,le⟩:=id x
  have a9:=hr.mono (j:=2) (by decide)
  refine⟨_,aF (eA (fM lH (cC (pv 0) T.cl m1 G1 a9 b1 .nil aX) (pv 1) (by with_unfolding_all rfl)) (aH (nA aO rfl XT GX a9 (by rfl) S.mg bx (aU (pv 0) rfl))) bX)
   (aH (aR (cC (pv 0) T.cl m2 G2 hr b2 .nil aX))),?_⟩
  refine⟨_,rfl,r,dx,_,rfl,h1,rfl,r,a,l,p,rfl,x,_,rfl,g,_,rfl,.inr hg,rfl,Bu sl,_,rfl,bZ (λhc=>?_) (λhc=>?_)⟩
  ·have hc:(!Kr (.int (aT l p)) (sl.map V.int))=true:=hc
   rw[iT,cq,lx] at hc
   exact⟨_,rfl,r,CR,dx,_,_,rfl,h1,T.cl,T.nP,gQ _ _,_,rfl,k2 hc⟩
  ·have hc:¬(!Kr (.int (aT l p)) (sl.map V.int))=true:=hc
   rw[iT,cq,lx,AJ] at hc
   exact⟨_,rfl,r,dx,_,rfl,h1,rfl,r,a,l,p,rfl,x,k1 hc⟩
end Br1
namespace L2
open PySem PySem.Spec PyProof.Rows
theorem aAe(Pv:Nat->St->Hp->Prop)(h0:Pv 0 σ H)
  (hs:∀i c σ H,x.cps[i]?=some c->Pv i σ H->g (.str ⟨#[c]⟩) σ H λa6 H2=>tb {D with nx:=Pv (i+1),ct:=Pv (i+1),bk:=D.nx} a6 H2) (hd:∀ σ H,Pv x.cps.size σ H->D.nx σ H):
  ∃W:Nat->Nat->St->Hp->Prop,(∃m,W 0 m σ H)/\∀i m σ H,W i m σ H->
   ((Its x).stop i H/\D.nx σ H)\/((Its x).go i H/\∃N:St->Hp->Prop,(∀ah H',N ah H'->∃m',m'<m/\W (i+1) m' ah H')/\∀v H',(Its x).yld i H v H'->g v σ H' λa6 H2=>tb {D with nx:=N,ct:=N,bk:=D.nx} a6 H2):=by
 refine⟨λi m σ H=>m=x.cps.size - i/\i<=x.cps.size/\Pv i σ H,⟨x.cps.size,by simp,c7 _,h0⟩,?_⟩
 rintro i m σ H ⟨rfl,hi,p⟩
 by_cases am:i<x.cps.size
 ·refine .inr ⟨am,Pv (i+1),λah H' p'=>⟨x.cps.size - (i+1),by (clear hi;omega),rfl,am,p'⟩,λv H' y=>?_⟩
  obtain⟨e,c,hc,rfl⟩:=y
  subst e
  exact hs i c σ _ hc p
 ·have e:i=x.cps.size:=by omega
  subst e
  exact .inl ⟨ap _,hd σ H p⟩
end L2
namespace Br1
open PySem PySem.Spec PyProof.Rows L2
def aV(l:List Int):Nat->List Nat->Except Nat Nat
 |p,[]=>.ok p
 |p,c::r=>if aT l p=c then aV l (p+1) r else .error p
def gT(b:Int):Bool:=kX b||jG b
def bJ(l:List Int):Nat->Nat->List Int
 |_,0=>[]
 |p,n+1=>if gT (aT l p)=true then aT l p::bJ l (p+1) n else []
def dD(l:List Int)(hi:Int):Nat->Nat->Int->Int×Nat
 |0,p,v=>(v,p)
 |n+1,p,v=>if 0<v/\jG (aT l p)=true/\v * 10+aT l p - 48<=hi then dD l hi n (p+1) (v * 10+aT l p - 48) else (v,p)
def jH(l:List Int)(p:Nat)(lo hi:Int):Prop:=jG (aT l p)=true/\lo<=aT l p - 48/\aT l p - 48<=hi
def eL(l:List Int)(p:Nat)(hi:Int):Int×Nat:=dD l hi (l.length - (p+1)) (p+1) (aT l p - 48)
theorem Wq(h:gT (aT l p)=true):p<l.length:=gA λz=>by rw[z] at h;revert h;decide
theorem Sv(h:jG (aT l p)=true):p<l.length:=gA λz=>by rw[z] at h;revert h;decide
theorem iP{b:Int}(h:jG b=true):48<=b/\b<=57:=by
 unfold jG at h
 rw[cn,b7,b7] at h
 exact h
variable{K:Frag}
def lP(K:Frag)(CR:Addr):Sp:=λvs H Q E=>∃(r a:Addr)(l:List Int)(p:Nat)(x:Str),vs=[.ref r,.str x]/\jW K CR H r a l p/\(∀c∈x.cps.toList,c<256)/\
 match aV l p x.cps.toList with
 |.ok p'=>∀H':Hp,iB CR H' r a p'->p'<=l.length->SX r H H'->Q .non H'
 |.error i=>∀H':Hp,SX r H H'->E (.int i 0) none H'
theorem Od:aN ["self","word","sign"] ["self","word"] (aG Nn):=⟨rfl,rfl,rfl,by decide+kernel,rfl,by decide+kernel,by decide+kernel⟩
theorem Yx(F:eZ K "read_word" "Reader.read_word" Nn f fd)(T:Iw K CR)(m9:mg "ord"=none)(M1:oK P w K mg base CR "read_one_of" (jA C P w) 4 ["self","signs"] (qV K CR)):
  bO P w K mg base (jA C P w) 5 f fd ["self","word"] (lP K CR):=by
 obtain⟨f1,qj,m1,G1,b1⟩:=M1.ex
 refine F.okX Od (λvs H Q E h=>?_) (λak A outer s H vs Q E hr h=>?_)
 ·obtain⟨r,a,l,p,x,rfl,_⟩:=h
  rfl
 ·obtain⟨r,a,l,p,x,rfl,tx,hx,k⟩:=h
  refine⟨_,aH (eG aO.own rfl (aBv (pv 1)) (bE (i:=2) Od.nd rfl (Or.inl rfl))
   (aH (cR (cZ (pv 0) T.cl m1 G1 hr b1 .nil aO.pass (aA (dO (aA (bS Gf (by rfl) m9 boot_ord (aA (pv 2) aE)) aE)) aE))))),?_⟩
  refine⟨_,rfl,x,rfl,aAe (λi σ H'=>∃v2:Option V,σ=[some (.ref r),some (.str x),v2]/\SX r H H'/\jW K CR H' r a l (p+i)/\aV l p x.cps.toList=aV l (p+i) (x.cps.toList.drop i))
   ⟨none,rfl,SX.refl r H,tx,rfl⟩ ?_ ?_⟩
  ·rintro i c σ H1 hc ⟨v2,rfl,s1,x1,e1⟩
   have jq:x.cps.toList[i]?=some c:=by rw[oh];exact hc
   have ii:x.cps.toList.drop i=c::x.cps.toList.drop (i+1):=by
    obtain⟨am,e⟩:=bp.mp jq
    rw[<-e]
    exact E7 am
   rw[ii] at e1
   have WW:c<256:=hx c (fj jq)
   obtain⟨⟨dx,h1⟩,_,_⟩:=id x1
   refine⟨_,rfl,r,dx,_,rfl,h1,rfl,⟨_,rfl,⟨#[c]⟩,rfl,rfl,(by show 1<=sizeLine;decide),λg hg=>?_⟩⟩
   have sg:aK H1 (upd H1 g (.tup [.int c])):=λb o e=>by rw[aC (aD e hg)];exact e
   have x2:jW K CR (upd H1 g (.tup [.int c])) r a l (p+i):=x1.same (aK.sx sg) ⟨dx,sg _ _ h1⟩ x1.le
   refine⟨r,a,g,l,[(c:Int)],p+i,rfl,x2,.inl (.inl aB),by simp;omega,λa7 H2 a9 s2=>?_,λa7=>?_⟩
   ·have a7:aT l (p+i)=c:=by simpa using a7
    have lt:p+i<l.length:=gA (by rw[a7];(clear a7;omega))
    refine⟨_,rfl,(s1.trans (aK.sx sg)).trans s2,x2.same s2 a9 lt,?_⟩
    rw[e1]
    show (if aT l (p+i)=c then _ else _)=_
    rw[af a7]
    rfl
   ·have a7:¬aT l (p+i)=c:=by simpa using a7
    have e2:aV l p x.cps.toList=.error (p+i):=by
     rw[e1]
     show (if aT l (p+i)=c then _ else _)=_
     rw[ae a7]
    rw[e2] at k
    exact k _ (s1.trans (aK.sx sg))
  ·rintro σ H1 ⟨v2,rfl,s1,x1,e1⟩
   have e2:aV l p x.cps.toList=.ok (p+x.cps.size):=by
    rw[e1,List.drop_eq_nil_of_le (by simp)]
    rfl
   rw[e2] at k
   exact k H1 x1.rd x1.le s1
def Ai(K:Frag)(CR:Addr):Sp:=λvs H Q E=>∃(r a:Addr)(l:List Int)(p:Nat),vs=[.ref r]/\jW K CR H r a l p/\(p=l.length->Q .non H)/\(p≠l.length->E (.int p 0) none H)
theorem aCc:aN ["self"] ["self"] (aG Xr):=⟨rfl,rfl,rfl,by decide+kernel,rfl,by decide+kernel,by decide+kernel⟩
theorem aCr(F:eZ K "read_end" "Reader.read_end" Xr f fd)(T:Iw K CR)(S:StT P w K mg base C)(M1:oK P w K mg base CR "ended" bN 1 ["self"] (pE K CR)):
  bO P w K mg base (jA C P w) 3 f fd ["self"] (Ai K CR):=by
 obtain⟨f1,qj,m1,G1,b1⟩:=M1.ex
 obtain⟨fx,A6,XT,GX,bx⟩:=S.ex
 refine F.okX aCc (λvs H Q E h=>?_) (λak A outer s H vs Q E hr h=>?_)
 ·obtain⟨r,a,l,p,rfl,_⟩:=h
  rfl
 ·obtain⟨r,a,l,p,rfl,x,k1,k2⟩:=h
  obtain⟨⟨dx,h1⟩,tx,le⟩:=id x
  refine⟨_,aH (eA (lQ (eQ (cC (pv 0) T.cl m1 G1 (hr.mono (by decide)) b1 .nil aX))) (aH (nA aO rfl XT GX hr (by rfl) S.mg bx (aU (pv 0) rfl))) bX),?_⟩
  refine⟨_,rfl,r,dx,_,rfl,h1,rfl,r,a,l,p,rfl,x,_,rfl,bZ (λhc=>?_) (λhc=>?_)⟩
  ·rw[cq,lx] at hc
   exact⟨_,rfl,r,CR,dx,_,_,rfl,h1,T.cl,T.nP,gQ _ _,_,rfl,k2 hc⟩
  ·rw[cq,lx,AJ] at hc
   exact k1 hc
theorem bA:20000<sizeLine:=by rw[qz];decide
theorem cD{b:Bool}(h:¬b=true):b=false:=by cases b<;>simp_all
structure dE(P:Program)(w:World)(K:Frag)(mg:Str->Option Value)(base:Heap)(x:Str)(CX:Iz)(k:Nat)(ps:List Str)(sp:Sp):Prop where
 ex:∃f fd,bO P w K mg base CX k f fd ps sp/\eR K fd ps []/\keepIn K (.ref f)=true/\mg x=some (.ref f)
theorem Ee{n:Nat}{xs:List Int}(e:bJ l p (i+(n+1))=xs++bJ l (p+i) (n+1))(h:gT (aT l (p+i))=true):bJ l p (i+(n+1))=(xs++[aT l (p+i)])++bJ l (p+(i+1)) n:=by
 rw[e,rg]
 congr 1
 show (if gT (aT l (p+i))=true then _ else _)=_
 rw[af h]
 rfl
def Np(CR:Addr)(H:Hp)(r a q:Addr)(l:List Int)(p L:Nat)(m:Nat)(σ:List (Option V))(H':Hp):Prop:=
 ∃i,m+i=L/\∃xs:List Int,σ=[some (.ref r),some (.int L),some (.ref q)]/\xs.length=i/\SX r H H'/\iB CR H' r a (p+i)/\p+i<=l.length/\H' q=some (.lst (xs.map V.int))/\bJ l p L=xs++bJ l (p+i) m
theorem Cd{n:Nat}{xs:List Int}(x:jW K CR H r a l p)(hq:H q=none)(oy:r≠q)(o3:xs.length=i)(hL:i+(n+1)<=1000)(s1:SX r H H1)(bj:iB CR H1 r a (p+i))(gu:p+i<=l.length)
  (qk:H1 q=some (.lst (xs.map V.int))) (e1:bJ l p (i+(n+1))=xs++bJ l (p+i) (n+1)) (ha:gT (aT l (p+i))=true) (hD:∀ σ H',Np CR H r a q l p (i+(n+1)) n σ H'->D.nx σ H'):
  Ay (tBM K "list" Nw (cU 2) (dH (mQ CR "take" (qJ K CR) [] E0 (cU 0) gC) gC)) D [some (.ref r),some (.int ((i+(n+1):Nat):Int)),some (.ref q)] H1:=by
 have lt:=Wq ha
 obtain⟨f8,g1⟩:=id bj
 refine⟨_,rfl,.inl ⟨rfl,_,cP.of qk⟩,_,rfl,r,f8,_,rfl,g1,rfl,r,a,l,p+i,rfl,x.same s1 bj gu,λH2 a9 s2=>?_⟩
 have f9:H2 q=some (.lst (xs.map V.int)):=s2 _ _ qk (au oy)
 refine⟨q,_,_,rfl,rfl,f9,?_,?_⟩
 ·rw[ai]
  have:=bA
  (clear lt gu;omega)
 ·obtain⟨ij,g2⟩:=a9
  have s3:SX r H (upd H2 q (.lst (xs.map V.int++[V.int (aT l (p+i))]))):=λb o e hb=>by
   rw[aC (aD e hq)]
   exact s2 b o (s1 b o e hb) hb
  refine hD _ _ ⟨i+1,by (clear lt gu hL o3;omega),xs++[aT l (p+i)],rfl,by simp[o3],s3,⟨ij,by rw[aC oy];exact g2⟩,lt,?_,Ee e1 ha⟩
  rw[aB,c9]
  rfl
def qA(K:Frag)(CR:Addr):Sp:=λvs H Q E=>∃(r a:Addr)(l:List Int)(p L:Nat),vs=[.ref r,.int L]/\jW K CR H r a l p/\L<=1000/\
 (kX (aT l p)=true->∀(H':Hp)(q:Addr),iB CR H' r a (p+(bJ l p L).length)->p+(bJ l p L).length<=l.length->SX r H H'->H' q=some (.tup ((bJ l p L).map V.int))->Q (.ref q) H')/\
 (kX (aT l p)=false->E (.int p 0) none H)
theorem Mc:aN ["self","longest","name"] ["self","longest"] (aG Oe):=⟨rfl,rfl,rfl,by decide+kernel,rfl,by decide+kernel,by decide+kernel⟩
theorem Xp(F:eZ K "read_name" "Reader.read_name" Oe f fd)(T:Iw K CR)(S:StT P w K mg base C)(bi:mg "len"=none)(A7:mg "tuple"=none)
  (M1:oK P w K mg base CR "here" bN 2 ["self"] (qH K CR)) (M2:oK P w K mg base CR "take" bN 3 ["self"] (qJ K CR)) (L1:dE P w K mg base "is_letter" bN 1 ["byte"] qI) (L2:dE P w K mg base "is_digit" bN 1 ["byte"] oP):
  bO P w K mg base (jA C P w) 4 f fd ["self","longest"] (qA K CR):=by
 obtain⟨f1,qj,m1,G1,b1⟩:=M1.ex
 obtain⟨f2,wz,m2,G2,b2⟩:=M2.ex
 obtain⟨g1,gc,GL,bL,kL,hL⟩:=L1.ex
 obtain⟨g2,ky,GD,bD,kD,hD⟩:=L2.ex
 obtain⟨fx,A6,XT,GX,bx⟩:=S.ex
 refine F.okX Mc (λvs H Q E h=>?_) (λak A outer s H vs Q E hr h=>?_)
 ·obtain⟨r,a,l,p,L,rfl,_⟩:=h
  rfl
 ·obtain⟨r,a,l,p,L,rfl,x,A8,k1,k2⟩:=h
  obtain⟨⟨dx,h1⟩,tx,le⟩:=id x
  have a9:=hr.mono (j:=2) (by decide)
  have bj:=hr.mono (j:=1) (by decide)
  refine⟨_,aF (eA (lQ (eQ (aP GL bj (by rfl) hL kL bL .nil aX (aA (cC (pv 0) T.cl m1 G1 a9 b1 .nil aX) aE)))) (aH (nA aO rfl XT GX a9 (by rfl) S.mg bx (aU (pv 0) rfl))) bX)
   (aF (bF (i:=2) Mc.nd rfl (Or.inl rfl) (eD aE))
   (aF (kR aO.own (hJ (dS (Op (bS bW (by rfl) bi boot_len (aA (pv 2) aE)) (pv 1)))
     (iE (Nb (eQ (aP GL bj (by rfl) hL kL bL .nil aX (aA (cC (pv 0) T.cl m1 G1 a9 b1 .nil aX) aE))) (Co (eQ (aP GD bj (by rfl) hD kD bD .nil aX (aA (cC (pv 0) T.cl m1 G1 a9 b1 .nil aX) aE))))).pt)).pt
    (aH (cR (uY plainAttrs_list PySem.F.slot_list_append PySem.F.type_list_append gN (pv 2) (aA (cC (pv 0) T.cl m2 G2 hr b2 .nil aX) aE)))))
   (aH (aR (uC pP (by rfl) A7 boot_tuple (aA (pv 2) aE)))))),?_⟩
  refine⟨_,rfl,r,dx,_,rfl,h1,rfl,r,a,l,p,rfl,x,_,rfl,_,rfl,bZ (λhc=>?_) (λhc=>?_)⟩
  ·rw[cq] at hc
   exact⟨_,rfl,r,CR,dx,_,_,rfl,h1,T.cl,T.nP,gQ _ _,_,rfl,k2 hc⟩
  ·rw[cq,yc] at hc
   refine⟨c7 _,λq hq=>?_⟩
   have sq:aK H (upd H q (.lst [])):=λb o e=>by rw[aC (aD e hq)];exact e
   have oy:r≠q:=aD h1 hq
   refine⟨Np CR H r a q l p L,⟨L,0,rfl,[],rfl,rfl,aK.sx sq,⟨dx,sq _ _ h1⟩,le,aB,rfl⟩,?_⟩
   rintro m σ H1 ⟨i,WX,xs,rfl,o3,s1,bj,gu,qk,e1⟩
   have x1:=x.same s1 bj gu
   obtain⟨f8,g1⟩:=id bj
   have fin:bJ l p L=xs->∀t,H1 t=none->Q (.ref t) (upd H1 t (.tup (xs.map V.int))):=by
    intro e2 t ht
    have st:aK H1 (upd H1 t (.tup (xs.map V.int))):=λb o e=>by rw[aC (aD e ht)];exact e
    refine k1 hc _ t ⟨f8,?_⟩ ?_ (s1.trans (aK.sx st)) ?_
    ·rw[e2,o3];exact st _ _ g1
    ·rw[e2,o3];exact gu
    ·rw[e2];exact aB
   refine⟨_,rfl,q,_,rfl,.inl (cP.of qk),_,rfl,_,_,rfl,rfl,_,rfl,bZ (λam=>?_) (λam=>?_)⟩
   ·have am:((xs.map V.int).length:Int)<(L:Int):=dw am
    rw[ai] at am
    obtain⟨n,rfl⟩:∃n,m=n+1:=⟨m - 1,by (clear gu le A8;omega)⟩
    obtain rfl:L=i+(n+1):=by (clear am gu o3 le A8;omega)
    refine⟨_,rfl,r,f8,_,rfl,g1,rfl,r,a,l,p+i,rfl,x1,_,rfl,_,rfl,bZ (λhl=>Wd ?_) (λhl=>?_)⟩
    ·exact⟨Np CR H r a q l p (i+(n+1)) n,λ_ _ z=>⟨n,lu n,z⟩,Cd x hq oy o3 A8 s1 bj gu qk e1 (by unfold gT;rw[hl];rfl) λ_ _ z=>z⟩
    ·refine⟨_,rfl,r,f8,_,rfl,g1,rfl,r,a,l,p+i,rfl,x1,_,rfl,_,rfl,bZ (λhd=>?_) (λhd=>?_)⟩
     ·exact⟨Np CR H r a q l p (i+(n+1)) n,λ_ _ z=>⟨n,lu n,z⟩,Cd x hq oy o3 A8 s1 bj gu qk e1 (by unfold gT;rw[hd,Bool.or_true]) λ_ _ z=>z⟩
     ·refine⟨_,rfl,q,_,rfl,.inl ⟨cP.of qk,fin ?_⟩⟩
      rw[e1]
      show xs++(if gT (aT l (p+i))=true then _ else _)=xs
      rw[ae (by unfold gT;rw[cD hl,cD hd];decide),ie]
   ·have am:¬((xs.map V.int).length:Int)<(L:Int):=λz=>am (decide_eq_true z)
    rw[ai] at am
    refine vI ⟨_,rfl,q,_,rfl,.inl ⟨cP.of qk,fin ?_⟩⟩
    rw[e1,show m=0 by (clear gu le A8;omega)]
    exact ie _
def aFa(CR:Addr)(H:Hp)(r a:Addr)(l:List Int)(p:Nat)(lo hi:Int)(m:Nat)(σ:List (Option V))(H':Hp):Prop:=
 ∃(q:Nat)(v:Int),m+q=l.length/\σ=[some (.ref r),some (.int lo),some (.int hi),some (.int v)]/\SX r H H'/\iB CR H' r a q/\0<=v/\v<=hi/\eL l p hi=dD l hi m q v
def kM(K:Frag)(CR:Addr):Sp:=λvs H Q E=>∃(r a:Addr)(l:List Int)(p:Nat)(lo hi:Int),vs=[.ref r,.int lo,.int hi]/\jW K CR H r a l p/\0<=lo/\hi<=100000/\
 (jH l p lo hi->∀H':Hp,iB CR H' r a (eL l p hi).2->(eL l p hi).2<=l.length->0<=(eL l p hi).1->(eL l p hi).1<=hi->SX r H H'->Q (.int (eL l p hi).1) H')/\(¬jH l p lo hi->E (.int p 0) none H)
theorem tT:aN ["self","least","most","value"] ["self","least","most"] (aG vP):=⟨rfl,rfl,rfl,by decide+kernel,rfl,by decide+kernel,by decide+kernel⟩
theorem Pn(F:eZ K "read_number" "Reader.read_number" vP f fd)(T:Iw K CR)(S:StT P w K mg base C)(m9:mg "ord"=none)
  (M1:oK P w K mg base CR "here" bN 2 ["self"] (qH K CR)) (M2:oK P w K mg base CR "take" bN 3 ["self"] (qJ K CR)) (L2:dE P w K mg base "is_digit" bN 1 ["byte"] oP):
  bO P w K mg base (jA C P w) 4 f fd ["self","least","most"] (kM K CR):=by
 obtain⟨f1,qj,m1,G1,b1⟩:=M1.ex
 obtain⟨f2,wz,m2,G2,b2⟩:=M2.ex
 obtain⟨g2,ky,GD,bD,kD,hD⟩:=L2.ex
 obtain⟨fx,A6,XT,GX,bx⟩:=S.ex
 refine F.okX tT (λvs H Q E h=>?_) (λak A outer s H vs Q E hr h=>?_)
 ·obtain⟨r,a,l,p,lo,hi,rfl,_⟩:=h
  rfl
 ·obtain⟨r,a,l,p,lo,hi,rfl,x,bo,d4,k1,k2⟩:=h
  obtain⟨⟨dx,h1⟩,tx,le⟩:=id x
  have a9:=hr.mono (j:=2) (by decide)
  have bj:=hr.mono (j:=1) (by decide)
  refine⟨_,aF (eA (Nb (lQ (eQ (aP GD bj (by rfl) hD kD bD .nil aX (aA (cC (pv 0) T.cl m1 G1 a9 b1 .nil aX) aE))))
     (Co (lQ (Wi qX qX (pv 1) (bY eE (cC (pv 0) T.cl m1 G1 a9 b1 .nil aX) (jC 48 m9)) (pv 2))))).pt (aH (nA aO rfl XT GX a9 (by rfl) S.mg bx (aU (pv 0) rfl))) bX)
   (aF (bF (i:=3) tT.nd rfl (Or.inl rfl) (bY eE (cC (pv 0) T.cl m2 G2 hr b2 .nil aX) (jC 48 m9)))
   (aF (kR aO.own (hJ (dS (sN (pv 3) aI)) (hJ (eQ (aP GD bj (by rfl) hD kD bD .nil aX (aA (cC (pv 0) T.cl m1 G1 a9 b1 .nil aX) aE)))
     (iE (dS (aEu (bY eE (bY eP (bY To (pv 3) aI) (cC (pv 0) T.cl m1 G1 a9 b1 .nil aX)) (jC 48 m9)) (pv 2)))))).pt
    (aH (bF (i:=3) tT.nd rfl (Or.inl rfl) (bY eE (bY eP (bY To (pv 3) aI) (cC (pv 0) T.cl m2 G2 hr b2 .nil aX)) (jC 48 m9)))))
   (aH (aR (pv 3))))),?_⟩
  refine⟨_,rfl,r,dx,_,rfl,h1,rfl,r,a,l,p,rfl,x,_,rfl,_,rfl,bZ (λhc=>Wd ?_) (λhc=>?_)⟩
  ·rw[cq] at hc
   exact⟨_,rfl,r,CR,dx,_,_,rfl,h1,T.cl,T.nP,gQ _ _,_,rfl,k2 λz=>by rw[z.1] at hc;cases hc⟩
  ·rw[cq,yc] at hc
   refine⟨_,rfl,_,rfl,r,dx,_,rfl,h1,rfl,r,a,l,p,rfl,x,_,_,rfl,rfl,_,_,rfl,rfl,_,rfl,bZ (λh3=>⟨_,rfl,_,_,rfl,rfl,_,rfl,bZ (λh4=>?_) (λh4=>?_)⟩) (λh3=>⟨_,rfl,Wd ?_⟩)⟩
   ·rw[cq,lx] at h4
    exact⟨_,rfl,r,CR,dx,_,_,rfl,h1,T.cl,T.nP,gQ _ _,_,rfl,k2 λz=>h4 z.2.2⟩
   ·rw[cq,lx,AJ] at h4
    have h3:=dw h3
    have hn:jH l p lo hi:=⟨hc,h3,h4⟩
    have lt:=Sv hc
    have dr:=iP hc
    refine⟨_,rfl,r,dx,_,rfl,h1,rfl,r,a,l,p,rfl,x,λH1 bj s1=>⟨_,_,rfl,rfl,?_⟩⟩
    refine⟨aFa CR H r a l p lo hi,⟨l.length - (p+1),p+1,aT l p - 48,by (clear dr h3 h4 le d4 bo;omega),rfl,s1,bj,by (clear dr lt h4 le d4;omega),h4,rfl⟩,?_⟩
    rintro m σ H2 ⟨q,v,A9,rfl,s2,a9,v0,vh,e2⟩
    have x2:=x.same s2 a9 (by (clear vh v0 dr lt h3 h4 le d4 bo;omega))
    obtain⟨ij,g2⟩:=id a9
    have fin:eL l p hi=(v,q)->Q (.int v) H2:=λe3=>by
     have z:=k1 hn H2
     rw[e3] at z
     exact z a9 (by show q<=l.length;(clear vh v0 dr lt h3 h4 le d4 bo;omega)) v0 vh s2
    refine⟨_,rfl,_,_,rfl,rfl,_,rfl,bZ (λh5=>?_) (λh5=>vI ⟨_,rfl,fin ?_⟩)⟩
    ·have h5:=dw h5
     refine⟨_,rfl,r,ij,_,rfl,g2,rfl,r,a,l,q,rfl,x2,_,rfl,_,rfl,bZ (λh6=>?_) (λh6=>vI ⟨_,rfl,fin ?_⟩)⟩
     ·have zg:=Sv h6
      have zh:=iP h6
      obtain⟨n,rfl⟩:∃n,m=n+1:=⟨m - 1,by (clear zh h5 vh v0 dr lt h3 h4 le d4 bo;omega)⟩
      refine⟨_,rfl,_,_,rfl,rfl,.inl ⟨by (clear A9 zh zg h5 vh dr lt h3 h4 le d4 bo;omega),by (clear A9 zh zg h5 v0 dr lt h3 h4 le bo;omega)⟩,_,rfl,r,ij,_,rfl,g2,rfl,r,a,l,q,rfl,x2,_,_,rfl,rfl,_,_,rfl,rfl,_,rfl,_,_,rfl,rfl,_,rfl,bZ (λh7=>?_) (λh7=>⟨_,rfl,fin ?_⟩)⟩
      ·have h7:=dw h7
       refine⟨aFa CR H r a l p lo hi n,λ_ _ z=>⟨n,lu n,z⟩,?_⟩
       refine⟨_,rfl,_,_,rfl,rfl,.inl ⟨by (clear h7 A9 zh zg h5 vh dr lt h3 h4 le d4 bo;omega),by (clear h7 A9 zh zg h5 v0 dr lt h3 h4 le bo;omega)⟩,_,rfl,r,ij,_,rfl,g2,rfl,r,a,l,q,rfl,x2,λH3 iw s3=>⟨_,_,rfl,rfl,_,_,rfl,rfl,?_⟩⟩
       refine⟨q+1,v * 10+aT l q - 48,by (clear h7 zh zg h5 vh v0 dr lt h3 h4 le d4 bo;omega),rfl,s2.trans s3,iw,by (clear h7 A9 zg h5 vh dr lt h3 h4 le d4 bo;omega),h7,?_⟩
       rw[e2]
       show (if _ then _ else _)=_
       rw[af ⟨h5,h6,h7⟩]
      ·rw[e2]
       show (if _ then _ else _)=_
       rw[ae λz=>h7 (decide_eq_true z.2.2)]
     ·rw[e2]
      cases m with
      |zero=>rfl
      |succ n=>
       show (if _ then _ else _)=_
       rw[ae λz=>h6 z.2.1]
    ·rw[e2]
     cases m with
     |zero=>rfl
     |succ n=>
      show (if _ then _ else _)=_
      rw[ae λz=>h5 (decide_eq_true z.1)]
   ·exact⟨_,rfl,r,CR,dx,_,_,rfl,h1,T.cl,T.nP,gQ _ _,_,rfl,k2 λz=>h3 (decide_eq_true z.2.1)⟩
noncomputable def gI(x:α):Except Nat (List α×Nat)->Except Nat (List α×Nat)
 |.ok r=>.ok (x::r.1,r.2)
 |.error i=>.error i
noncomputable def bV(l:List Int):Nat->Nat->Except Nat (List Int×Nat)
 |0,p=>.ok ([],p)
 |n+1,p=>if aT l p∈cM then gI (aT l p) (bV l n (p+1)) else .error p
noncomputable def fG(l:List Int)(w p:Nat):Except Nat (List Int×Nat):=match bV l w p with
 |.ok r=>if aT l r.2=10 then .ok (r.1,r.2+1) else .error r.2
 |.error i=>.error i
noncomputable def bU(l:List Int)(w:Nat):Nat->Nat->Except Nat (List (List Int)×Nat)
 |0,p=>.ok ([],p)
 |n+1,p=>match fG l w p with
  |.ok r=>gI r.1 (bU l w n r.2)
  |.error i=>.error i
noncomputable def fT(xs:List α):Except Nat (List α×Nat)->Except Nat (List α×Nat)
 |.ok r=>.ok (xs++r.1,r.2)
 |.error i=>.error i
theorem kI(r:Except Nat (List α×Nat)):fT [] r=r:=by cases r<;>rfl
theorem iW(xs:List α)(x:α)(r:Except Nat (List α×Nat)):fT xs (gI x r)=fT (xs++[x]) r:=by
 cases r with
 |error i=>rfl
 |ok r=>unfold fT gI;simp
abbrev eJ(x y z:Int):List dL:=[Sum.inl x,Sum.inl y,Sum.inl z]
noncomputable def fC(y z:Nat):Nat->List Int->List (List dL×V)
 |_,[]=>[]
 |x,s::r=>(if s=46 then [] else [(eJ x y z,V.int s)])++fC y z (x+1) r
noncomputable def dY(d:Nat):Nat->List (List Int)->List (List dL×V)
 |_,[]=>[]
 |j,r::rs=>fC (j % d) (j / d) 0 r++dY d (j+1) rs
theorem xW(y z:Nat)(s:Int):∀(xs:List Int)(x:Nat),fC y z x (xs++[s])=fC y z x xs++(if s=46 then [] else [(eJ ((x+xs.length:Nat):Int) y z,V.int s)])
 |[],x=>by simp[fC]
 |a::r,x=>by
  show _++fC y z (x+1) (r++[s])=(_++fC y z (x+1) r)++_
  rw[xW y z s r (x+1),<-rg,bw,show x+1+r.length=x+(r.length+1) by omega]
theorem uL(d:Nat)(r:List Int):∀(rs:List (List Int)) (j:Nat),dY d j (rs++[r])=dY d j rs++fC ((j+rs.length) % d) ((j+rs.length) / d) 0 r
 |[],j=>by simp[dY]
 |a::rs,j=>by
  show _++dY d (j+1) (rs++[r])=(_++dY d (j+1) rs)++_
  rw[uL d r rs (j+1),<-rg,bw,show j+1+rs.length=j+(rs.length+1) by omega]
theorem tW{y:Nat}{kv:List dL×V}:∀{xs:List Int}{x:Nat},kv∈fC y z x xs->∃x':Nat,kv.1=eJ x' y z/\x<=x'/\x'<x+xs.length
 |[],x,h=>by simp[fC] at h
 |a::r,x,h=>by
  have h:kv∈(if a=46 then [] else [(eJ x y z,V.int a)])++fC y z (x+1) r:=h
  rcases je.mp h with h|h
  ·split at h
   ·cases h
   ·rw[gq.mp h]
    exact⟨x,rfl,ap _,by simp⟩
  ·obtain⟨x',e,h1,h2⟩:=tW h
   exact⟨x',e,by (clear h2;omega),by rw[bw];(clear h1;omega)⟩
theorem yP{d:Nat}{kv:List dL×V}:∀{rs:List (List Int)} {j:Nat},kv∈dY d j rs->∃x' j':Nat,kv.1=eJ x' ((j' % d:Nat):Int) ((j' / d:Nat):Int)/\j<=j'/\j'<j+rs.length
 |[],j,h=>by simp[dY] at h
 |a::rs,j,h=>by
  have h:kv∈fC (j % d) (j / d) 0 a++dY d (j+1) rs:=h
  rcases je.mp h with h|h
  ·obtain⟨x',e,_⟩:=tW h
   exact⟨x',j,e,ap _,by simp⟩
  ·obtain⟨x',j',e,h1,h2⟩:=yP h
   exact⟨x',j',e,by (clear h2;omega),by rw[bw];(clear h1;omega)⟩
theorem tM(y z:Nat):∀(xs:List Int)(x:Nat),(fC y z x xs).length<=xs.length
 |[],x=>by simp[fC]
 |a::r,x=>by
  show (_++fC y z (x+1) r).length<=_
  rw[c8,bw]
  have:=tM y z r (x+1)
  split<;>simp<;>omega
theorem qE(d w:Nat):∀(rs:List (List Int)) (j:Nat),(∀r∈rs,r.length=w)->(dY d j rs).length<=rs.length * w
 |[],j,_=>by simp[dY]
 |a::rs,j,h=>by
  show (fC (j % d) (j / d) 0 a++dY d (j+1) rs).length<=_
  have h1:=tM (j % d) (j / d) a 0
  have h2:=qE d w rs (j+1) λr hr=>h r (az _ hr)
  have h3:=h a bf
  rw[c8,bw,om]
  omega
theorem Ru[DecidableEq κ]{aJ:List (κ×V)}{k:κ}(h:∀kv∈aJ,kv.1≠k):gB aJ k=none:=by
 unfold gB
 rw[JU.mpr λkv m6=>by simpa using h kv m6]
 rfl
theorem Yw{d:Nat}{xs:List Int}(hd:0<d):gB (dY d 0 rs++fC (rs.length % d) (rs.length / d) 0 xs) (eJ (xs.length:Int) ((rs.length % d:Nat):Int) ((rs.length / d:Nat):Int))=none:=by
 refine Ru λkv m6 e=>?_
 rcases je.mp m6 with h|h
 ·obtain⟨x',j',e',h1,h2⟩:=yP h
  rw[e'] at e
  simp only[eJ,List.cons.injEq,Sum.inl.injEq,E8] at e
  obtain⟨_,e1,e2⟩:=e
  have q1:=E9 j' d
  have q2:=E9 rs.length d
  have GI:j' % d=rs.length % d:=by (clear q2 q1 e2 h2 h1 hd;omega)
  have LB:j' / d=rs.length / d:=by (clear GI q2 q1 e1 h2 h1 hd;omega)
  rw[GI,LB] at q1
  (clear LB GI e2 e1 h1 hd;omega)
 ·obtain⟨x',e',h1,h2⟩:=tW h
  rw[e'] at e
  simp only[eJ,List.cons.injEq,Sum.inl.injEq,E8] at e
  obtain⟨e1,_⟩:=e
  (clear h1 hd;omega)
def CI(mg:Str->Option Value)(x:Str)(n:Int):Prop:=∃tk,mg x=some (.int n tk)
theorem eB{n:Int}(h:CI X.mg x n)(hg:Gl X x:=by rfl)(hd:(x==("__debug__":Str))=false:=by decide):PE X (.Name x pos) (tC (.int n)):=by
 obtain⟨tk,h⟩:=h
 exact wD hg h ⟨tk,rfl⟩ hd
def fB(s:Int):Bool:=decide (s=115)||decide (s=98)
def dU(s:Int):Bool:=decide (s=116)||decide (s=98)
def yQ:Sp:=λvs H Q _=>∃s:Int,vs=[.int s]/\Q (.bl (fB s)) H
def wT:Sp:=λvs H Q _=>∃s:Int,vs=[.int s]/\Q (.bl (dU s)) H
theorem gZ(i j:Int):decide (V.int i=V.int j)=decide (i=j):=by rw[vS,JE]
theorem Yb:aN ["sign"] ["sign"] (aG sL):=⟨rfl,rfl,rfl,by decide+kernel,rfl,by decide+kernel,by decide+kernel⟩
theorem aAv(F:eZ K "has_stud" "has_stud" sL f fd)(h1:CI mg "STUD" 115)(h2:CI mg "BOTH" 98):bO P w K mg base bN 1 f fd ["sign"] yQ:=by
 refine F.ok Yb (λvs H Q E h=>?_) (λak A outer s H vs Q E hr h=>?_)
 ·obtain⟨b,rfl,_⟩:=h
  rfl
 ·obtain⟨b,rfl,k⟩:=h
  refine⟨_,aH (aR (Ss (mB rD (pv 0) (eB h1) (gX _)) (uE (mB rD (pv 0) (eB h2) (gX _))))),?_⟩
  unfold fB at k
  rw[<-gZ,<-gZ] at k
  refine⟨_,rfl,rfl,_,rfl,bZ (λh=>?_) (λh=>⟨_,rfl,rfl,?_⟩)⟩
  ·rw[h] at k;exact k
  ·rw[cD h] at k;exact k
theorem Xs:aN ["sign"] ["sign"] (aG rZ):=⟨rfl,rfl,rfl,by decide+kernel,rfl,by decide+kernel,by decide+kernel⟩
theorem aAc(F:eZ K "has_tube" "has_tube" rZ f fd)(h1:CI mg "TUBE" 116)(h2:CI mg "BOTH" 98):bO P w K mg base bN 1 f fd ["sign"] wT:=by
 refine F.ok Xs (λvs H Q E h=>?_) (λak A outer s H vs Q E hr h=>?_)
 ·obtain⟨b,rfl,_⟩:=h
  rfl
 ·obtain⟨b,rfl,k⟩:=h
  refine⟨_,aH (aR (Ss (mB rD (pv 0) (eB h1) (gX _)) (uE (mB rD (pv 0) (eB h2) (gX _))))),?_⟩
  unfold dU at k
  rw[<-gZ,<-gZ] at k
  refine⟨_,rfl,rfl,_,rfl,bZ (λh=>?_) (λh=>⟨_,rfl,rfl,?_⟩)⟩
  ·rw[h] at k;exact k
  ·rw[cD h] at k;exact k
def oU:Sp:=λvs H Q _=>∃(g:Addr)(x y z:Int),vs=[.ref g]/\H g=some (.tup [.int x,.int y,.int z])/\∀q,H q=none->Q (.ref q) (upd H q (.tup [.int x,.int y,.int (z+1)]))
def oF:Sp:=λvs H Q _=>∃(g:Addr)(x y z:Int),vs=[.ref g]/\H g=some (.tup [.int x,.int y,.int z])/\∀q,H q=none->Q (.ref q) (upd H q (.tup [.int x,.int y,.int (z - 1)]))
theorem Tm:aN ["place"] ["place"] (aG Cq):=⟨rfl,rfl,rfl,by decide+kernel,rfl,by decide+kernel,by decide+kernel⟩
theorem Uy(F:eZ K "above" "above" Cq f fd):bO P w K mg base bN 1 f fd ["place"] oU:=by
 refine F.ok Tm (λvs H Q E h=>?_) (λak A outer s H vs Q E hr h=>?_)
 ·obtain⟨g,x,y,z,rfl,_⟩:=h
  rfl
 ·obtain⟨g,x,y,z,rfl,hg,k⟩:=h
  refine⟨_,aH (aR (dO (aA (bH aW (pv 0) aI (λ_ _=>rfl)) (aA (bH aW (pv 0) aI (λ_ _=>rfl)) (aA (bY eP (bH aW (pv 0) aI (λ_ _=>rfl)) aI) aE))))),?_⟩
  refine⟨_,rfl,g,_,_,_,rfl,rfl,cG.of hg,rfl,_,rfl,g,_,_,_,rfl,rfl,cG.of hg,rfl,_,rfl,g,_,_,_,rfl,rfl,cG.of hg,rfl,_,_,rfl,rfl,(by show 3<=sizeLine;decide),k⟩
theorem Wv:aN ["place"] ["place"] (aG Dz):=⟨rfl,rfl,rfl,by decide+kernel,rfl,by decide+kernel,by decide+kernel⟩
theorem Wx(F:eZ K "below" "below" Dz f fd):bO P w K mg base bN 1 f fd ["place"] oF:=by
 refine F.ok Wv (λvs H Q E h=>?_) (λak A outer s H vs Q E hr h=>?_)
 ·obtain⟨g,x,y,z,rfl,_⟩:=h
  rfl
 ·obtain⟨g,x,y,z,rfl,hg,k⟩:=h
  refine⟨_,aH (aR (dO (aA (bH aW (pv 0) aI (λ_ _=>rfl)) (aA (bH aW (pv 0) aI (λ_ _=>rfl)) (aA (bY eE (bH aW (pv 0) aI (λ_ _=>rfl)) aI) aE))))),?_⟩
  refine⟨_,rfl,g,_,_,_,rfl,rfl,cG.of hg,rfl,_,rfl,g,_,_,_,rfl,rfl,cG.of hg,rfl,_,rfl,g,_,_,_,rfl,rfl,cG.of hg,rfl,_,_,rfl,rfl,(by show 3<=sizeLine;decide),k⟩
def Sf(nm:Addr)(W D Hh g:Int)(cells:Addr):List (Str×V):=[("name",.ref nm),("width",.int W),("depth",.int D),("height",.int Hh),("weight",.int g),("cells",.ref cells)]
structure Rh(K:Frag)(CP:Addr):Prop where
 cl:Ix K CP
 n1:dG K CP "name"
 n2:dG K CP "width"
 n3:dG K CP "depth"
 n4:dG K CP "height"
 n5:dG K CP "weight"
 n6:dG K CP "cells"
def Nv(CP:Addr):Sp:=λvs H Q _=>∃(r dx nm cells:Addr)(W D Hh g:Int),vs=[.ref r,.ref nm,.int W,.int D,.int Hh,.int g,.ref cells]/\H r=some (.ins CP dx [])/\∀H':Hp,H' r=some (.ins CP dx (Sf nm W D Hh g cells))->SX r H H'->Q .non H'
theorem Vl:aN ["self","name","width","depth","height","weight","cells"] ["self","name","width","depth","height","weight","cells"] (aG Dv):=⟨rfl,rfl,rfl,by decide+kernel,rfl,by decide+kernel,by decide+kernel⟩
theorem Wc(F:eZ K "__init__" "Part.__init__" Dv f fd)(T:Rh K CP):bO P w K mg base bN 1 f fd ["self","name","width","depth","height","weight","cells"] (Nv CP):=by
 refine F.ok Vl (λvs H Q E h=>?_) (λak A outer s H vs Q E hr h=>?_)
 ·obtain⟨r,dx,nm,cells,W,D,Hh,g,rfl,_⟩:=h
  rfl
 ·obtain⟨r,dx,nm,cells,W,D,Hh,g,rfl,hp,k⟩:=h
  refine⟨_,aF (dZ (pv 0) (pv 1) rfl) (aF (dZ (pv 0) (pv 2) rfl) (aF (dZ (pv 0) (pv 3) rfl) (aF (dZ (pv 0) (pv 4) rfl) (aF (dZ (pv 0) (pv 5) rfl) (aH (dZ (pv 0) (pv 6) rfl)))))),?_⟩
  refine⟨_,rfl,_,rfl,r,CP,dx,_,rfl,hp,T.cl,T.n1,(by show 0<1000;decide),?_⟩
  refine⟨_,rfl,_,rfl,r,CP,dx,_,rfl,aB,T.cl,T.n2,(by show 1<1000;decide),?_⟩
  refine⟨_,rfl,_,rfl,r,CP,dx,_,rfl,aB,T.cl,T.n3,(by show 2<1000;decide),?_⟩
  refine⟨_,rfl,_,rfl,r,CP,dx,_,rfl,aB,T.cl,T.n4,(by show 3<1000;decide),?_⟩
  refine⟨_,rfl,_,rfl,r,CP,dx,_,rfl,aB,T.cl,T.n5,(by show 4<1000;decide),?_⟩
  refine⟨_,rfl,_,rfl,r,CP,dx,_,rfl,aB,T.cl,T.n6,(by show 5<1000;decide),?_⟩
  exact k _ aB λb o e hb=>by rw[aC hb,aC hb,aC hb,aC hb,aC hb,aC hb];exact e
end Br1
namespace L2
open PySem PySem.Spec PyProof.Rows
theorem lN{n:Nat}(Pv:Nat->St->Hp->Prop)(h0:Pv 0 σ H)
  (hs:∀i σ H,i<n->Pv i σ H->g (.int (i:Int)) σ H λa6 H2=>tb {D with nx:=Pv (i+1),ct:=Pv (i+1),bk:=D.nx} a6 H2) (hd:∀ σ H,Pv n σ H->D.nx σ H):
  ∃W:Nat->Nat->St->Hp->Prop,(∃m,W 0 m σ H)/\∀i m σ H,W i m σ H->
   ((Xi 0 ((n:Int)).toNat).stop i H/\D.nx σ H)\/((Xi 0 ((n:Int)).toNat).go i H/\∃N:St->Hp->Prop,(∀ah H',N ah H'->∃m',m'<m/\W (i+1) m' ah H')/\∀x H',(Xi 0 ((n:Int)).toNat).yld i H x H'->g x σ H' λa6 H2=>tb {D with nx:=N,ct:=N,bk:=D.nx} a6 H2):=by
 rw[fc]
 refine oR (lo:=0) (n:=n) Pv h0 (λi σ H hi p=>?_) hd
 rw[JV]
 exact hs i σ H hi p
end L2
namespace Br1
open PySem PySem.Spec PyProof.Rows L2
theorem Pt{w n pr:Nat}(h:bV l w pr=.error i):fT rs (bU l w (n+1) pr)=.error i:=by
 have e:fG l w pr=.error i:=by
  unfold fG
  rw[h]
 unfold bU
 rw[e]
 rfl
theorem Zu{w n pr q:Nat}{xs:List Int}(h:bV l w pr=.ok (xs,q))(h2:¬aT l q=10):fT rs (bU l w (n+1) pr)=.error q:=by
 have e:fG l w pr=.error q:=by
  unfold fG
  rw[h]
  exact ae h2
 unfold bU
 rw[e]
 rfl
theorem aB0{w n pr q:Nat}{xs:List Int}(h:bV l w pr=.ok (xs,q))(h2:aT l q=10):fT rs (bU l w (n+1) pr)=fT (rs++[xs]) (bU l w n (q+1)):=by
 have e:fG l w pr=.ok (xs,q+1):=by
  unfold fG
  rw[h]
  exact af h2
 rw[<-iW]
 show fT rs (bU l w (n+1) pr)=_
 rw[bU,e]
theorem rS:("\n":Str).cps.toList=[10]:=by decide+kernel
variable{K:Frag}
def Cw(K:Frag)(CR:Addr):Sp:=λvs H Q E=>∃(r a:Addr)(l:List Int)(p W D Hh:Nat),vs=[.ref r,.int W,.int D,.int Hh]/\jW K CR H r a l p/\W<=16/\D<=16/\Hh<=18/\0<D/\
 match bU l W (D * Hh) p with
 |.ok q=>∀(H':Hp)(c:Addr),iB CR H' r a q.2->q.2<=l.length->SX r H H'->H c=none->H' c=some (.dT (dY D 0 q.1))->(∀x∈q.1,x.length=W)->Q (.ref c) H'
 |.error i=>∀H':Hp,SX r H H'->E (.int i 0) none H'
structure CS(CR:Addr)(H:Hp)(r a c:Addr)(l:List Int)(d:Nat)(rs:List (List Int))(xs:List Int)(p':Nat)(H':Hp):Prop where
 sx:SX r H H'
 rd:iB CR H' r a p'
 le:p'<=l.length
 dc:H' c=some (.dT (dY d 0 rs++fC (rs.length % d) (rs.length / d) 0 xs))
def SgC(r c:Addr)(W D Hh z y:Nat)(v7 v8:Option V):List (Option V):=[some (.ref r),some (.int W),some (.int D),some (.int Hh),some (.ref c),some (.int z),some (.int y),v7,v8]
abbrev aDm(K:Frag)(CR aS:Addr)(E:XK):TS:=Fu (Fn (mQ CR "read_one_of" (qV K CR) [] E (cU 0) (dH (tC (.ref aS)) gC)) (mG 8)) (aDe (Wm (vG rNe (cU 8) (tC (.int 46)))) (aBb (cU 4) (Xo (dH (cU 7) (dH (cU 6) (dH (cU 5) gC)))) (cU 8)) aA5)
theorem La{c aS:Addr}{W D Hh y pr p':Nat}{xs:List Int}{v8:Option V}{E:XK}{Dn:fX}(x:jW K CR H r a l p)(hc:H c=none)(BA:r≠c)(hS:∀H,cG K H aS (cM.map V.int))(hW:W<=16)
  (DN:rs.length<=300) (nj:∀q∈rs,q.length=W) (hD:0<D) (hz:z=rs.length / D) (hy:y=rs.length % D) (hi:i<W) (hx:xs.length=i) (cs:CS CR H r a c l D rs xs p' H1) (e1:bV l W pr=fT xs (bV l (W - i) p'))
  (kE:∀q,bV l W pr=.error q->∀H',SX r H H'->E (.int q 0) none H')
  (kN:∀(v8:Option V)(H':Hp)(BB:List Int)(q:Nat),BB.length=i+1->CS CR H r a c l D rs BB q H'->bV l W pr=fT BB (bV l (W - (i+1)) q)->Dn.nx (SgC r c W D Hh z y (some (.int i)) v8) H'):
  aDm K CR aS E Dn (SgC r c W D Hh z y (some (.int i)) v8) H1:=by
 subst hz hy
 obtain⟨dx,h1⟩:=id cs.rd
 have x1:=x.same cs.sx cs.rd cs.le
 obtain⟨n,hn⟩:∃n,W - i=n+1:=⟨W - i - 1,by (clear hx hD DN hW;omega)⟩
 have mv:W - (i+1)=n:=by (clear hx hi hD DN hW;omega)
 rw[hn] at e1
 refine⟨_,rfl,r,dx,_,rfl,h1,rfl,⟨r,a,aS,l,cM,p',rfl,x1,hS H1,by decide,λa7 H2 a9 s2=>?_,λa7=>?_⟩⟩
 ·have lt:p'<l.length:=gA λq=>by rw[q] at a7;revert a7;decide
  have e2:bV l W pr=fT (xs++[aT l p']) (bV l n (p'+1)):=by
   rw[e1,<-iW]
   show fT xs (if aT l p'∈cM then _ else _)=_
   rw[af a7]
  have c2:H2 c=some (.dT (dY D 0 rs++fC (rs.length % D) (rs.length / D) 0 xs)):=s2 _ _ cs.dc (au BA)
  have ls:(xs++[aT l p']).length=i+1:=by simp[hx]
  have ek:=xW (rs.length % D) (rs.length / D) (aT l p') xs 0
  rw[oo] at ek
  refine⟨_,rfl,rfl,_,rfl,bZ (λaw=>?_) (λaw=>?_)⟩
  ·have aw:¬aT l p'=46:=by
    intro q
    rw[q] at aw
    revert aw
    decide
   rw[ae aw,hx] at ek
   refine⟨_,rfl,_,rfl,_,rfl,_,rfl,_,rfl,(by show 3<=sizeLine;decide),λg hg=>?_⟩
   have sg:aK H2 (upd H2 g (.tup [.int i,.int ((rs.length % D:Nat):Int),.int ((rs.length / D:Nat):Int)])):=λb o e=>by rw[aC (aD e hg)];exact e
   refine⟨c,_,rfl,tE.tt (k:=eJ i ((rs.length % D:Nat):Int) ((rs.length / D:Nat):Int)) (sg _ _ c2) aB ?_,?_⟩
   ·have h1:=qE D W rs 0 nj
    have h2:=tM (rs.length % D) (rs.length / D) xs 0
    have h3:rs.length * W<=300 * 16:=FA DN hW
    have:=bA
    rw[c8]
    (clear aw ls lt mv hn hD DN;omega)
   ·have kn:=Yw (d:=D) (rs:=rs) (xs:=xs) hD
    rw[hx] at kn
    have kp:=rN (V.int (aT l p')) kn
    refine kN _ _ (xs++[aT l p']) (p'+1) ls ⟨λb o e hb=>?_,?_,lt,?_⟩ (by rw[mv];exact e2)
    ·rw[aC (aD e hc)]
     exact sg b o (s2 b o (cs.sx b o e hb) hb)
    ·obtain⟨ij,g2⟩:=a9
     exact⟨ij,by rw[aC BA];exact sg _ _ g2⟩
    ·rw[aB,kp,rg,ek]
  ·have aw:aT l p'=46:=by
    refine Classical.byContradiction λq=>aw ?_
    show (!decide (V.int (aT l p')=V.int 46))=true
    rw[gZ,jk q]
    rfl
   rw[af aw,ie] at ek
   refine kN _ _ (xs++[aT l p']) (p'+1) ls ⟨cs.sx.trans s2,a9,lt,?_⟩ (by rw[mv];exact e2)
   rw[ek]
   exact c2
 ·refine kE p' ?_ _ cs.sx
  rw[e1]
  show fT xs (if aT l p'∈cM then _ else _)=_
  rw[ae a7]
  rfl
theorem Cb:∀{n p:Nat}{r:List Int×Nat},bV l n p=.ok r->r.1.length=n
 |0,p,r,h=>by cases h;rfl
 |n+1,p,r,h=>by
  rw[bV] at h
  split at h
  ·cases e:bV l n (p+1) with
   |error i=>rw[e] at h;cases h
   |ok q=>
    rw[e] at h
    cases h
    show (_::q.1).length=n+1
    rw[bw,Cb e]
  ·cases h
theorem kG:aN ["reader","width","depth","height","cells","z","y","x","sign"] ["reader","width","depth","height"] (aG lD):=⟨rfl,rfl,rfl,by decide+kernel,rfl,by decide+kernel,by decide+kernel⟩
theorem Vn{aS:Addr}(F:eZ K "read_cells" "read_cells" lD f fd)(T:Iw K CR)(o4:mg "range"=none)(hS:∀H,cG K H aS (cM.map V.int))(RL:mg "SIGNS"=some (.ref aS))(RN:CI mg "NO_CELL" 46)
  (M1:oK P w K mg base CR "read_one_of" (jA C P w) 4 ["self","signs"] (qV K CR)) (M2:oK P w K mg base CR "read_word" (jA C P w) 5 ["self","word"] (lP K CR)):
  bO P w K mg base (jA C P w) 6 f fd ["reader","width","depth","height"] (Cw K CR):=by
 obtain⟨f1,qj,m1,G1,b1⟩:=M1.ex
 obtain⟨f2,wz,m2,G2,b2⟩:=M2.ex
 refine F.okX kG (λvs H Q E h=>?_) (λak A outer s H vs Q E hr h=>?_)
 ·obtain⟨r,a,l,p,W,D,Hh,rfl,_⟩:=h
  rfl
 ·obtain⟨r,a,l,p,W,D,Hh,rfl,x,hW,hD,hH,k6,k⟩:=h
  obtain⟨⟨dx,h1⟩,tx,le⟩:=id x
  have jb:=hr.mono (j:=4) (by decide)
  have hu:=iQ hr
  refine⟨_,aF (bF (i:=4) kG.nd rfl (Or.inl rfl) nH)
   (aF (eG aO.own rfl (iM rfl o4 (aA (pv 3) aE)) (bE (i:=5) kG.nd rfl (Or.inl rfl))
    (aH (eG aO.own rfl (iM rfl o4 (aA (pv 2) aE)) (bE (i:=6) kG.nd rfl (Or.inl rfl))
     (aF (eG aO.own rfl (iM rfl o4 (aA (pv 1) aE)) (bE (i:=7) kG.nd rfl (Or.inl rfl))
      (aF (bF (i:=8) kG.nd rfl (Or.inl rfl) (cZ (pv 0) T.cl m1 G1 jb b1 .nil aO.pass (aA (wD (v:=.ref aS) (by rfl) RL rfl) aE)))
      (aH (eA (fM aD7 (pv 8) (eB RN) (gX _)) (aH (lF hu (pv 4) (dO (aA (pv 7) (aA (pv 6) (aA (pv 5) aE)))) (pv 8) rfl)) bX))))
     (aH (cR (cZ (pv 0) T.cl m2 G2 hr b2 .nil aO.pass (aA gM aE))))))))
   (aH (aR (pv 4)))),?_⟩
  intro c hc
  have BA:r≠c:=aD h1 hc
  have LC:aK H (upd H c (.dT [])):=λb o e=>by rw[aC (aD e hc)];exact e
  refine⟨_,rfl,_,rfl,by (clear hu le k6 hH hD hW;omega),by (clear hu le k6 hD hW;omega),lN (n:=Hh) (λz σ H'=>∃(rs:List (List Int)) (p':Nat) (v5 v6 v7 v8:Option V),σ=[some (.ref r),some (.int W),some (.int D),some (.int Hh),some (.ref c),v5,v6,v7,v8]/\
   rs.length=z * D/\(∀q∈rs,q.length=W)/\CS CR H r a c l D rs [] p' H'/\bU l W (D * Hh) p=fT rs (bU l W (D * Hh - z * D) p'))
   ⟨[],p,none,none,none,none,rfl,by simp,(λq hq=>nomatch hq),⟨aK.sx LC,⟨dx,LC _ _ h1⟩,le,aB⟩,by rw[kI,Nat.zero_mul,CV]⟩ ?_ ?_⟩
  ·rintro z σ H1 hz ⟨rs,p1,v5,v6,v7,v8,rfl,k7,nj,cs,e1⟩
   have zD:z * D+D<=D * Hh:=by
    rw[mm D Hh,<-om]
    exact AK D hz
   have DH:D * Hh<=16 * 18:=FA hD hH
   refine⟨_,rfl,_,rfl,by (clear DH zD k7 hz hu le k6 hH hD hW;omega),by (clear DH zD k7 hz hu le k6 hH hW;omega),lN (n:=D) (λy σ H'=>∃(rs:List (List Int)) (p':Nat) (v6 v7 v8:Option V),σ=[some (.ref r),some (.int W),some (.int D),some (.int Hh),some (.ref c),some (.int z),v6,v7,v8]/\
    rs.length=z * D+y/\(∀q∈rs,q.length=W)/\CS CR H r a c l D rs [] p' H'/\bU l W (D * Hh) p=fT rs (bU l W (D * Hh - (z * D+y)) p'))
    ⟨rs,p1,v6,v7,v8,rfl,k7,nj,cs,e1⟩ ?_ ?_⟩
   ·rintro y σ H2 hy ⟨rs,pr,v6,v7,v8,rfl,k7,nj,cs,e1⟩
    obtain⟨n,hn⟩:∃n,D * Hh - (z * D+y)=n+1:=⟨D * Hh - (z * D+y) - 1,by (clear k7 DH hz hu le k6 hH hD hW;omega)⟩
    have mv:D * Hh - (z * D+(y+1))=n:=by (clear k7 hy DH zD hz hu le k6 hH hD hW;omega)
    rw[hn] at e1
    have ey:y=rs.length % D:=by
     rw[k7,mq,yd,ye hy]
    have ez:z=rs.length / D:=by
     rw[k7,mq,yf _ _ k6,yg hy,oo]
    have kE:∀q,bU l W (D * Hh) p=.error q->∀H',SX r H H'->E (.int q 0) none H':=λq e H' s'=>by
     rw[e] at k
     exact k H' s'
    refine⟨_,rfl,_,rfl,by (clear ez ey mv hn k7 hy DH zD hz hu le k6 hH hD hW;omega),by (clear ez ey mv hn k7 hy DH zD hz hu le k6 hH hD;omega),lN (n:=W) (λi σ H'=>∃(xs:List Int)(p':Nat)(v7 v8:Option V),σ=SgC r c W D Hh z y v7 v8/\xs.length=i/\CS CR H r a c l D rs xs p' H'/\bV l W pr=fT xs (bV l (W - i) p'))
     ⟨[],pr,v7,v8,rfl,rfl,cs,by rw[kI,CV]⟩ ?_ ?_⟩
    ·rintro i σ H3 hi ⟨xs,p',v7,v8,rfl,hx,cs,e2⟩
     exact La x hc BA hS hW (by (clear hx hi ez ey mv hn hz hu le k6 hH hD hW;omega)) nj k6 ez ey hi hx cs e2 (λq e H' s'=>kE q (by rw[e1];exact Pt e) H' s') λv8 H' BB q g1 g2 g3=>⟨BB,q,_,v8,rfl,g1,g2,g3⟩
    ·rintro σ H3 ⟨xs,p',v7,v8,rfl,hx,cs,e2⟩
     have e3:bV l W pr=.ok (xs,p'):=by
      rw[e2,CW]
      show Except.ok (xs++[],p')=_
      rw[ie]
     obtain⟨DO,g3⟩:=id cs.rd
     refine⟨_,rfl,r,DO,_,rfl,g3,rfl,r,a,l,p',"\n",rfl,x.same cs.sx cs.rd cs.le,?_,?_⟩
     ·rw[rS]
      intro q hq
      rw[gq.mp hq]
      decide
     ·rw[rS]
      have ew:aV l p' [10]=if aT l p'=10 then .ok (p'+1) else .error p':=rfl
      rw[ew]
      by_cases di:aT l p'=10
      ·rw[af di]
       intro H4 jb LD s4
       have c4:H4 c=some (.dT (dY D 0 rs++fC (rs.length % D) (rs.length / D) 0 xs)):=s4 _ _ cs.dc (au BA)
       refine⟨rs++[xs],p'+1,_,v7,v8,rfl,by simp[k7];(clear LD di hx ez ey mv hn k7 hy DH zD hz hu le k6 hH hD hW;omega),λq hq=>?_,⟨cs.sx.trans s4,jb,LD,?_⟩,?_⟩
       ·rcases je.mp hq with hq|hq
        ·exact nj q hq
        ·rw[gq.mp hq];exact hx
       ·have ek:=uL D xs rs 0
        rw[oo] at ek
        rw[ek,c4]
        show _=some (HO.dT ((_++_)++[]))
        rw[ie]
       ·rw[e1,aB0 e3 di,mv]
      ·rw[ae di]
       intro H4 s4
       exact kE p' (by rw[e1];exact Zu e3 di) H4 (cs.sx.trans s4)
   ·rintro σ H2 ⟨rs,p',v6,v7,v8,rfl,k7,nj,cs,e1⟩
    exact⟨rs,p',_,v6,v7,v8,rfl,by rw[k7,om],nj,cs,by rw[om];exact e1⟩
  ·rintro σ H1 ⟨rs,p',v5,v6,v7,v8,rfl,k7,nj,cs,e1⟩
   have e2:bU l W (D * Hh) p=.ok (rs,p'):=by
    rw[e1,mm Hh D,CW]
    show Except.ok (rs++[],p')=_
    rw[ie]
   rw[e2] at k
   refine⟨_,rfl,k H1 c cs.rd cs.le cs.sx hc ?_ nj⟩
   rw[cs.dc]
   show some (HO.dT (_++[]))=_
   rw[ie]
noncomputable def eM(r:Except Nat α)(f:α->Except Nat β):Except Nat β:=match r with
 |.ok a=>f a
 |.error i=>.error i
theorem cA(a:α)(f:α->Except Nat β):eM (.ok a) f=f a:=rfl
theorem Do(i:Nat)(f:α->Except Nat β):eM (.error i) f=.error i:=rfl
instance {l:List Int} {p:Nat} {lo hi:Int}:Decidable (jH l p lo hi):=by unfold jH;infer_instance
noncomputable def gG(l:List Int)(p L:Nat):Except Nat (List Int×Nat):=if kX (aT l p)=true then .ok (bJ l p L,p+(bJ l p L).length) else .error p
noncomputable def jB(l:List Int)(p:Nat)(lo hi:Int):Except Nat (Nat×Nat):=if jH l p lo hi then .ok ((eL l p hi).1.toNat,(eL l p hi).2) else .error p
structure aL where
 name:List Int
 w:Nat
 d:Nat
 h:Nat
 g:Nat
 rows:List (List Int)
noncomputable def dW(l:List Int)(p:Nat):Except Nat (aL×Nat):=
 eM (aV l p [112,97,114,116,32]) λp1=>eM (gG l p1 8) λnm=>eM (aV l nm.2 [32]) λp3=>eM (jB l p3 1 16) λw=>eM (aV l w.2 [32]) λp5=>eM (jB l p5 1 16) λd=>
 eM (aV l d.2 [32]) λp7=>eM (jB l p7 1 18) λh=>eM (aV l h.2 [32]) λp9=>eM (jB l p9 1 9999) λg=>eM (aV l g.2 [10]) λzj=>eM (bU l w.1 (d.1 * h.1) zj) λrs=>.ok (⟨nm.1,w.1,d.1,h.1,g.1,rs.1⟩,rs.2)
theorem Qy:("part ":Str).cps.toList=[112,97,114,116,32]:=by decide+kernel
theorem iZ:(" ":Str).cps.toList=[32]:=by decide+kernel
theorem Vz:∀{l:List Int}{hi:Int}{n p:Nat}{v:Int},1<=v->1<=(dD l hi n p v).1
 |l,hi,0,p,v,h=>h
 |l,hi,n+1,p,v,h=>by
  rw[dD]
  split
  ·rename_i q
   have:=iP q.2.1
   exact Vz (by (clear q;omega))
  ·exact h
theorem aAb{lo hi:Int}(h:jH l p lo hi):jB l p lo hi=.ok ((eL l p hi).1.toNat,(eL l p hi).2):=af h
theorem Uu{lo hi:Int}(h:¬jH l p lo hi):jB l p lo hi=.error p:=ae h
theorem Cj{cs:List Nat}{Q:V->Hp->Prop}{E:XK}(hx:x.cps.toList=cs)(kx:∀c∈cs,c<256)(tx:jW K CR H r a l p)
  (k1:∀p',aV l p cs=.ok p'->∀H',jW K CR H' r a l p'->SX r H H'->Q .non H') (k2:∀i,aV l p cs=.error i->∀H',SX r H H'->E (.int i 0) none H'):lP K CR [.ref r,.str x] H Q E:=by
 refine⟨r,a,l,p,x,rfl,tx,by rw[hx];exact kx,?_⟩
 rw[hx]
 cases e:aV l p cs with
 |ok p'=>exact λH' hr hl s=>k1 p' e H' (tx.same s hr hl) s
 |error i=>exact λH' s=>k2 i e H' s
theorem Go{lo:Int}{Q:V->Hp->Prop}{E:XK}(tx:jW K CR H r a l p)(bo:0<=lo)(d4:hi<=100000)
  (k1:∀v:Nat×Nat,jB l p lo hi=.ok v->v.1<=hi->(1<=lo->1<=v.1)->∀H',jW K CR H' r a l v.2->SX r H H'->Q (.int v.1) H') (k2:jB l p lo hi=.error p->E (.int p 0) none H):kM K CR [.ref r,.int lo,.int hi] H Q E:=by
 refine⟨r,a,l,p,lo,hi,rfl,tx,bo,by (clear bo;omega),λok H' hr hl h0 hh s=>?_,λno=>k2 (Uu no)⟩
 have e:=k1 _ (aAb ok) (by show (eL l p hi).1.toNat<=hi;(clear h0 hl d4 bo;omega)) (λh1=>by
  have z:=Vz (l:=l) (hi:=hi) (n:=l.length - (p+1)) (p:=p+1) (v:=aT l p - 48) (by have:=ok.2.1;(clear hh h0 hl d4 bo;omega))
  show 1<=(eL l p hi).1.toNat
  unfold eL
  (clear h1 hh h0 hl d4 bo;omega)) H' (tx.same s hr hl) s
 have z:(((eL l p hi).1.toNat:Nat):Int)=(eL l p hi).1:=by (clear hh hl d4 bo;omega)
 rw[<-z]
 exact e
noncomputable def eF(CP:Addr)(H:Hp)(b:Addr)(pr:aL):Prop:=∃dx nm c,H b=some (.ins CP dx (Sf nm pr.w pr.d pr.h pr.g c))/\H nm=some (.tup (pr.name.map V.int))/\H c=some (.dT (dY pr.d 0 pr.rows))
structure sT(pr:aL):Prop where
 w1:1<=pr.w
 w2:pr.w<=16
 d1:1<=pr.d
 d2:pr.d<=16
 h1:1<=pr.h
 h2:pr.h<=18
 g2:pr.g<=9999
 rw:∀q∈pr.rows,q.length=pr.w
 rl:pr.rows.length=pr.d * pr.h
 nm:pr.name.length<=8
noncomputable def Ja(K:Frag)(CR CP:Addr):Sp:=λvs H Q E=>∃(r a:Addr)(l:List Int)(p:Nat),vs=[.ref r]/\jW K CR H r a l p/\
 match dW l p with
 |.ok q=>∀(H':Hp)(b:Addr),jW K CR H' r a l q.2->SX r H H'->H b=none->eF CP H' b q.1->sT q.1->Q (.ref b) H'
 |.error i=>∀H':Hp,SX r H H'->E (.int i 0) none H'
theorem Gs{w:Nat}:∀{n p:Nat} {r:List (List Int)×Nat},bU l w n p=.ok r->r.1.length=n
 |0,p,r,h=>by cases h;rfl
 |n+1,p,r,h=>by
  rw[bU] at h
  cases e:fG l w p with
  |error i=>rw[e] at h;cases h
  |ok q=>
   rw[e] at h
   cases e2:bU l w n q.2 with
   |error i=>
    have h:gI q.1 (bU l w n q.2)=.ok r:=h
    rw[e2] at h;cases h
   |ok q2=>
    have h:gI q.1 (bU l w n q.2)=.ok r:=h
    rw[e2] at h
    cases h
    show (_::q2.1).length=n+1
    rw[bw,Gs e2]
theorem uJ:∀{n p:Nat},(bJ l p n).length<=n
 |0,p=>ap _
 |n+1,p=>by
  rw[bJ]
  split
  ·rw[bw];exact Nat.succ_le_succ uJ
  ·exact c7 _
theorem oH:aN ["reader","name","width","depth","height","weight"] ["reader"] (aG oE):=⟨rfl,rfl,rfl,by decide+kernel,rfl,by decide+kernel,by decide+kernel⟩
theorem Ba{Q:V->Hp->Prop}{E:XK}(tx:jW K CR H r a l p)(hL:L<=1000)
  (k1:∀v:List Int×Nat,gG l p L=.ok v->∀(H':Hp)(q:Addr),jW K CR H' r a l v.2->SX r H H'->H' q=some (.tup (v.1.map V.int))->v.1.length<=L->Q (.ref q) H') (k2:gG l p L=.error p->E (.int p 0) none H):qA K CR [.ref r,.int L] H Q E:=by
 refine⟨r,a,l,p,L,rfl,tx,hL,λok H' q hr hl s hq=>?_,λno=>k2 ?_⟩
 ·exact k1 (bJ l p L,p+(bJ l p L).length) (af ok) H' q (tx.same s hr hl) s hq uJ
 ·exact ae (by rw[no];decide)
theorem eX{t u:TS}{σ:List (Option V)}(h:t {D with nx:=u D} σ H):Fu t u D σ H:=h
theorem iF{cs:List Nat}{σ:List (Option V)}{E:XK}(lh:σ[0]?=some (some (.ref r)))(hx:x.cps.toList=cs)(kx:∀c∈cs,c<256)(tx:jW K CR H r a l p)
  (k2:∀i,aV l p cs=.error i->∀H',SX r H H'->E (.int i 0) none H') (k1:∀p',aV l p cs=.ok p'->∀H',jW K CR H' r a l p'->SX r H H'->D.nx σ H'):Ay (mQ CR "read_word" (lP K CR) [] E (cU 0) (dH (tC (.str x)) gC)) D σ H:=by
 obtain⟨⟨dx,h1⟩,_,_⟩:=id tx
 exact⟨_,lh,r,dx,_,rfl,h1,rfl,Cj (Q:=λ_ H1=>D.nx σ H1) hx kx tx (λp' e H' x' s'=>k1 p' e H' x' s') k2⟩
theorem Ed{lo hiI:Int}{σ:List (Option V)}{E:XK}(hh:hiI=(hi:Int))(lh:σ[0]?=some (some (.ref r)))(tx:jW K CR H r a l p)(bo:0<=lo)(d4:hi<=100000)
  (k2:jB l p lo hiI=.error p->E (.int p 0) none H) (k1:∀v:Nat×Nat,jB l p lo hiI=.ok v->v.1<=hi->(1<=lo->1<=v.1)->∀H',jW K CR H' r a l v.2->SX r H H'->D.nx (σ.set i (some (.int v.1))) H'):
  Fn (mQ CR "read_number" (kM K CR) [] E (cU 0) (dH (tC (.int lo)) (dH (tC (.int hiI)) gC))) (mG i) D σ H:=by
 subst hh
 obtain⟨⟨dx,h1⟩,_,_⟩:=id tx
 exact⟨_,lh,r,dx,_,rfl,h1,rfl,Go (Q:=λy H1=>D.nx (σ.set i (some y)) H1) tx bo d4 (λv e g1 g2 H' x' s'=>k1 v e g1 g2 H' x' s') k2⟩
theorem aA3{σ:List (Option V)}{E:XK}(lh:σ[0]?=some (some (.ref r)))(tx:jW K CR H r a l p)(hL:L<=1000)(k2:gG l p L=.error p->E (.int p 0) none H)
  (k1:∀v:List Int×Nat,gG l p L=.ok v->∀(H':Hp)(q:Addr),jW K CR H' r a l v.2->SX r H H'->H' q=some (.tup (v.1.map V.int))->v.1.length<=L->D.nx (σ.set i (some (.ref q))) H'):
  Fn (mQ CR "read_name" (qA K CR) [] E (cU 0) (dH (tC (.int L)) gC)) (mG i) D σ H:=by
 obtain⟨⟨dx,h1⟩,_,_⟩:=id tx
 exact⟨_,lh,r,dx,_,rfl,h1,rfl,Ba (Q:=λy H1=>D.nx (σ.set i (some y)) H1) tx hL (λv e H' q x' s' g1 g2=>k1 v e H' q x' s' g1 g2) k2⟩
theorem SX.tup(s:SX r H H')(hr:iB CR H r a p)(h:H q=some (.tup xs)):H' q=some (.tup xs):=by
 obtain⟨dx,g⟩:=hr
 exact s _ _ h (by rintro rfl;rw[g] at h;cases h)
theorem b32:∀c∈([32]:List Nat),c<256:=by decide
theorem b10:∀c∈([10]:List Nat),c<256:=by decide
structure PtM(P:Program)(w:World)(K:Frag)(mg:Str->Option Value)(base:Heap)(CP:Addr):Prop where
 ex:∃f fd,Mk K CP f/\bO P w K mg base bN 1 f fd ["self","name","width","depth","height","weight","cells"] (Nv CP)/\eR K fd ["self","name","width","depth","height","weight","cells"] []
 mg:mg "Part"=some (.ref CP)
theorem Zg(F:eZ K "read_part" "read_part" oE f fd)(T:Iw K CR)(PM:PtM P w K mg base CP)(c1:CI mg "LONGEST_PART_NAME" 8)(c2:CI mg "MOST_WIDTH" 16)(c3:CI mg "MOST_DEPTH" 16)(c4:CI mg "MOST_HEIGHT" 18)(c5:CI mg "MOST_WEIGHT" 9999)
  (M1:oK P w K mg base CR "read_word" (jA C P w) 5 ["self","word"] (lP K CR)) (M2:oK P w K mg base CR "read_name" (jA C P w) 4 ["self","longest"] (qA K CR)) (M3:oK P w K mg base CR "read_number" (jA C P w) 4 ["self","least","most"] (kM K CR))
  (L1:dE P w K mg base "read_cells" (jA C P w) 6 ["reader","width","depth","height"] (Cw K CR)):bO P w K mg base (jA C P w) 7 f fd ["reader"] (Ja K CR CP):=by
 obtain⟨f1,qj,m1,G1,b1⟩:=M1.ex
 obtain⟨f2,wz,m2,G2,b2⟩:=M2.ex
 obtain⟨f3,LF,m3,G3,b3⟩:=M3.ex
 obtain⟨g1,gc,GC,bC,kC,hC⟩:=L1.ex
 obtain⟨fp,fdp,MP,GP,bP⟩:=PM.ex
 refine F.okX oH (λvs H Q E h=>?_) (λak A outer s H vs Q E hr h=>?_)
 ·obtain⟨r,a,l,p,rfl,_⟩:=h
  rfl
 ·obtain⟨r,a,l,p,rfl,x,k⟩:=h
  have j1:=hr.mono (j:=5) (by decide)
  have jb:=hr.mono (j:=4) (by decide)
  have a9:=hr.mono (j:=2) (by decide)
  refine⟨_,aF (cR (cZ (pv 0) T.cl m1 G1 j1 b1 .nil aO.pass (aA gM aE)))
   (aF (bF (i:=1) oH.nd rfl (Or.inl rfl) (cZ (pv 0) T.cl m2 G2 jb b2 .nil aO.pass (aA (eB c1) aE)))
   (aF (cR (cZ (pv 0) T.cl m1 G1 j1 b1 .nil aO.pass (aA gM aE)))
   (aF (bF (i:=2) oH.nd rfl (Or.inl rfl) (cZ (pv 0) T.cl m3 G3 jb b3 .nil aO.pass (aA aI (aA (eB c2) aE))))
   (aF (cR (cZ (pv 0) T.cl m1 G1 j1 b1 .nil aO.pass (aA gM aE)))
   (aF (bF (i:=3) oH.nd rfl (Or.inl rfl) (cZ (pv 0) T.cl m3 G3 jb b3 .nil aO.pass (aA aI (aA (eB c3) aE))))
   (aF (cR (cZ (pv 0) T.cl m1 G1 j1 b1 .nil aO.pass (aA gM aE)))
   (aF (bF (i:=4) oH.nd rfl (Or.inl rfl) (cZ (pv 0) T.cl m3 G3 jb b3 .nil aO.pass (aA aI (aA (eB c4) aE))))
   (aF (cR (cZ (pv 0) T.cl m1 G1 j1 b1 .nil aO.pass (aA gM aE)))
   (aF (bF (i:=5) oH.nd rfl (Or.inl rfl) (cZ (pv 0) T.cl m3 G3 jb b3 .nil aO.pass (aA aI (aA (eB c5) aE))))
   (aF (cR (cZ (pv 0) T.cl m1 G1 j1 b1 .nil aO.pass (aA gM aE)))
   (aH (aR (qQ MP GP a9 (by rfl) PM.mg bP .nil aX (aA (pv 1) (aA (pv 2) (aA (pv 3) (aA (pv 4) (aA (pv 5)
    (aA (aP GC hr (by rfl) hC kC bC .nil aO.pass (aA (pv 0) (aA (pv 2) (aA (pv 3) (aA (pv 4) aE))))) aE))))))))))))))))))),?_⟩
  unfold dW at k
  refine eX (iF rfl Qy (by decide) x (λi e1 H' s1=>by rw[e1] at k;exact k H' s1) λp1 e1 H1 x1 s1=>?_)
  rw[e1,cA] at k
  refine eX (aA3 (L:=8) rfl x1 (by decide) (λe2=>by rw[e2] at k;exact k _ s1) λnm e2 H2 qn x2 s2 hn RO=>?_)
  rw[e2,cA] at k
  have s2:=s1.trans s2
  refine eX (iF rfl iZ b32 x2 (λi e3 H' s3=>by rw[e3] at k;exact k H' (s2.trans s3)) λp3 e3 H3 x3 s3=>?_)
  rw[e3,cA] at k
  have GJ:=s3.tup x2.rd hn
  have s3:=s2.trans s3
  refine eX (Ed (lo:=1) (hiI:=16) (hi:=16) rfl rfl x3 (by decide) (by decide) (λe4=>by rw[e4] at k;exact k _ s3) λW e4 LG RP H4 x4 s4=>?_)
  rw[e4,cA] at k
  have RQ:=s4.tup x3.rd GJ
  have s4:=s3.trans s4
  refine eX (iF rfl iZ b32 x4 (λi e5 H' s5=>by rw[e5] at k;exact k H' (s4.trans s5)) λp5 e5 H5 x5 s5=>?_)
  rw[e5,cA] at k
  have u5:=s5.tup x4.rd RQ
  have s5:=s4.trans s5
  refine eX (Ed (lo:=1) (hiI:=16) (hi:=16) rfl rfl x5 (by decide) (by decide) (λe6=>by rw[e6] at k;exact k _ s5) λD e6 li cz H6 x6 s6=>?_)
  rw[e6,cA] at k
  have RR:=s6.tup x5.rd u5
  have s6:=s5.trans s6
  refine eX (iF rfl iZ b32 x6 (λi e7 H' s7=>by rw[e7] at k;exact k H' (s6.trans s7)) λp7 e7 H7 x7 s7=>?_)
  rw[e7,cA] at k
  have RS:=s7.tup x6.rd RR
  have s7:=s6.trans s7
  refine eX (Ed (lo:=1) (hiI:=18) (hi:=18) rfl rfl x7 (by decide) (by decide) (λe8=>by rw[e8] at k;exact k _ s7) λHh e8 LH RT H8 x8 s8=>?_)
  rw[e8,cA] at k
  have RU:=s8.tup x7.rd RS
  have s8:=s7.trans s8
  refine eX (iF rfl iZ b32 x8 (λi e9 H' s9=>by rw[e9] at k;exact k H' (s8.trans s9)) λp9 e9 H9 x9 s9=>?_)
  rw[e9,cA] at k
  have RV:=s9.tup x8.rd RU
  have s9:=s8.trans s9
  refine eX (Ed (lo:=1) (hiI:=9999) (hi:=9999) rfl rfl x9 (by decide) (by decide) (λGK=>by rw[GK] at k;exact k _ s9) λg GK lj sj QO LI y'=>?_)
  rw[GK,cA] at k
  have RW:=y'.tup x9.rd RV
  have y':=s9.trans y'
  refine eX (iF rfl rS b10 LI (λi u6 H' ut=>by rw[u6] at k;exact k H' (y'.trans ut)) λzj u6 WY LJ ut=>?_)
  rw[u6,cA] at k
  have GN:=ut.tup LI.rd RW
  have ut:=y'.trans ut
  obtain⟨⟨dx,h1⟩,_,_⟩:=id LJ
  have k6:=cz (by decide)
  refine⟨_,rfl,_,rfl,_,rfl,_,rfl,_,rfl,_,rfl,_,rfl,_,rfl,_,rfl,r,a,l,zj,W.1,D.1,Hh.1,rfl,LJ,LG,li,LH,k6,?_⟩
  cases u7:bU l W.1 (D.1 * Hh.1) zj with
  |error i=>
   intro H' s'
   rw[u7] at k
   exact k H' (ut.trans s')
  |ok q=>
   intro GO c RX RY LK hc C4 nj
   rw[u7,cA] at k
   have RZ:=LK _ _ GN (by rintro rfl;rw[h1] at GN;cases GN)
   have LL:=ut.trans LK
   intro b db hb gi aw
   obtain⟨R0,LM⟩:=id RX
   refine⟨b,db,qn,c,W.1,D.1,Hh.1,g.1,rfl,aB,λGQ w6 R3=>⟨rfl,?_⟩⟩
   have up:∀y o,GO y=some o->upd (upd GO db (.own b)) b (.ins CP db []) y=some o:=λy o e=>by rw[aC (aD e hb),aC (aD e gi)];exact e
   have w8:∀y o,GO y=some o->GQ y=some o:=λy o e=>R3 y o (up y o e) (aD e hb)
   have sH:SX r H GQ:=λy o e hy=>w8 y o (LL y o e hy)
   have GS:H b=none:=by
    cases z:H b with
    |none=>rfl
    |some o=>
     have:=LL b o z (by rintro rfl;rw[LM] at hb;cases hb)
     rw[hb] at this;cases this
   refine k GQ b (x.same sH ⟨R0,w8 _ _ LM⟩ RY) sH GS ⟨db,qn,c,w6,w8 _ _ RZ,w8 _ _ C4⟩ ⟨RP (by decide),LG,k6,li,RT (by decide),LH,lj,nj,Gs u7,RO⟩
def cT(l:List Int):Nat->Nat->Except Nat (List aL×Nat)
 |0,p=>.ok ([],p)
 |n+1,p=>if p=l.length then .ok ([],p) else eM (dW l p) λq=>gI q.1 (cT l n q.2)
def gY(l:List Int):Except Nat (List aL):=eM (dW l 0) λq=>eM (cT l 63 q.2) λr=>if r.2=l.length then .ok (q.1::r.1) else .error r.2
variable{pr:aL}
theorem eF.keep(h:eF CP H b pr)(k:∀y o,H y=some o->(y=b\/(∃xs,o=.tup xs)\/∃aJ,o=.dT aJ)->H' y=some o):eF CP H' b pr:=by
 obtain⟨dx,nm,c,h1,h2,h3⟩:=h
 exact⟨dx,nm,c,k _ _ h1 (.inl rfl),k _ _ h2 (.inr (.inl ⟨_,rfl⟩)),k _ _ h3 (.inr (.inr ⟨_,rfl⟩))⟩
theorem eF.same(h:eF CP H b pr)(s:aK H H'):eF CP H' b pr:=h.keep λy o e _=>s y o e
theorem eF.sx(h:eF CP H b pr)(hb:b≠r)(hr:iB CR H r a p)(s:SX r H H'):eF CP H' b pr:=by
 obtain⟨dx,g⟩:=hr
 refine h.keep λy o e z=>s y o e ?_
 rintro rfl
 rw[g] at e
 cases e
 rcases z with z|⟨_,z⟩|⟨_,z⟩
 ·exact hb z.symm
 ·cases z
 ·cases z
theorem eF.list{ys:List V}(h:eF CP H b pr)(hq:H q=some (.lst xs)):eF CP (upd H q (.lst ys)) b pr:=by
 have hb:b≠q:=by
  obtain⟨dx,nm,c,h1,_⟩:=h
  rintro rfl
  rw[h1] at hq
  cases hq
 refine h.keep λy o e z=>?_
 rw[aC ?_]
 ·exact e
 ·rintro rfl
  rw[hq] at e
  cases e
  rcases z with z|⟨_,z⟩|⟨_,z⟩
  ·exact hb z.symm
  ·cases z
  ·cases z
def dF(CP:Addr)(H:Hp)(bs:List Addr)(U:List aL):Prop:=Paired (λb pr=>eF CP H b pr/\sT pr) bs U
def Nu(K:Frag)(CP:Addr):Sp:=λvs H Q E=>∃(a:Addr)(l:List Int),vs=[.ref a]/\cP K H a (l.map V.int)/\
 match gY l with
 |.ok U=>∀(H':Hp)(q:Addr)(bs:List Addr),aK H H'->H' q=some (.lst (bs.map V.ref))->dF CP H' bs U->U.length<=64->1<=U.length->Q (.ref q) H'
 |.error i=>∀H':Hp,aK H H'->E (.int i 0) none H'
theorem Lp:aN ["c","reader","parts"] ["c"] (aG rB):=⟨rfl,rfl,rfl,by decide+kernel,rfl,by decide+kernel,by decide+kernel⟩
structure RdK(P:Program)(w:World)(K:Frag)(mg:Str->Option Value)(base:Heap)(CR:Addr):Prop where
 ex:∃f fd,Mk K CR f/\bO P w K mg base bN 1 f fd ["self","text"] (aFg CR)/\eR K fd ["self","text"] []
 mg:mg "Reader"=some (.ref CR)
def aFk(CR CP:Addr)(H:Hp)(r a q:Addr)(l:List Int)(p0 m:Nat)(R4:aL)(σ:List (Option V))(H':Hp):Prop:=
 ∃(ps:List aL)(bs:List Addr)(p':Nat),σ=[some (.ref a),some (.ref r),some (.ref q)]/\ps.length+m=63/\p'<=l.length/\aK H H'/\iB CR H' r a p'/\H' q=some (.lst (bs.map V.ref))/\
  Paired (λb pr=>b≠r/\eF CP H' b pr/\sT pr) bs (R4::ps)/\cT l 63 p0=fT ps (cT l m p')
theorem aCf(F:eZ K "read_catalogue" "read_catalogue" rB f fd)(T:Iw K CR)(RK:RdK P w K mg base CR)(bi:mg "len"=none)(c1:CI mg "MOST_PARTS" 64)(M1:oK P w K mg base CR "ended" bN 1 ["self"] (pE K CR))
  (M2:oK P w K mg base CR "read_end" (jA C P w) 3 ["self"] (Ai K CR)) (L1:dE P w K mg base "read_part" (jA C P w) 7 ["reader"] (Ja K CR CP)):bO P w K mg base (jA C P w) 8 f fd ["c"] (Nu K CP):=by
 obtain⟨f1,qj,m1,G1,b1⟩:=M1.ex
 obtain⟨f2,wz,m2,G2,b2⟩:=M2.ex
 obtain⟨g1,gc,GP,bP,kP,hP⟩:=L1.ex
 obtain⟨fr,fdr,MR,GR,bR⟩:=RK.ex
 refine F.okX Lp (λvs H Q E h=>?_) (λak A outer s H vs Q E hr h=>?_)
 ·obtain⟨a,l,rfl,_⟩:=h
  rfl
 ·obtain⟨a,l,rfl,tx,k⟩:=h
  have iw:=hr.mono (j:=3) (by decide)
  have a9:=hr.mono (j:=2) (by decide)
  have bj:=hr.mono (j:=1) (by decide)
  refine⟨_,aF (bF (i:=1) Lp.nd rfl (Or.inl rfl) (qQ MR GR a9 (by rfl) RK.mg bR .nil aX (aA (pv 0) aE)))
   (aF (bF (i:=2) Lp.nd rfl (Or.inl rfl) (eD (aA (aP GP hr (by rfl) hP kP bP .nil aO.pass (aA (pv 1) aE)) aE)))
   (aF (kR aO.own (hJ (dS (Op (bS bW (by rfl) bi boot_len (aA (pv 2) aE)) (eB c1))) (iE (lQ (eQ (cC (pv 1) T.cl m1 G1 bj b1 .nil aX))))).pt
    (aH (cR (uY plainAttrs_list PySem.F.slot_list_append PySem.F.type_list_append gN (pv 2) (aA (aP GP hr (by rfl) hP kP bP .nil aO.pass (aA (pv 1) aE)) aE)))))
   (aF (cR (cC (pv 1) T.cl m2 G2 iw b2 .nil aO.pass))
   (aH (aR (pv 2)))))),?_⟩
  refine⟨_,rfl,λr dr nr ndr ndrr=>?_⟩
  refine⟨r,dr,a,rfl,aB,λH1 bj s1=>⟨rfl,?_⟩⟩
  have up:∀y o,H y=some o->H1 y=some o:=λy o e=>s1 y o (by rw[aC (aD e nr),aC (aD e ndr)];exact e) (aD e nr)
  have S1:aK H H1:=up
  have x1:jW K CR H1 r a l 0:=⟨bj,S1.seq tx,c7 _⟩
  have u9:∀{H2:Hp},SX r H1 H2->aK H H2:=λs2 y o e=>s2 y o (S1 y o e) (aD e nr)
  unfold gY at k
  refine⟨_,rfl,r,a,l,0,rfl,x1,?_⟩
  cases e1:dW l 0 with
  |error i=>
   intro H' s'
   rw[e1] at k
   exact k H' (u9 s')
  |ok q0=>
   intro H2 b0 x2 s2 LN R5 R6
   rw[e1,cA] at k
   refine⟨by show 1<=sizeLine;decide,λq hq=>?_⟩
   have GS:b0≠r:=λz=>by rw[z] at LN;obtain⟨dx,g⟩:=bj;rw[LN] at g;cases g
   have sq:aK H2 (upd H2 q (.lst [.ref b0])):=λb o e=>by rw[aC (aD e hq)];exact e
   have GU:H q=none:=(u9 s2).free hq
   obtain⟨ij,g2⟩:=x2.rd
   refine⟨λm=>aFk CR CP H r a q l q0.2 m q0.1,⟨63,[],[b0],q0.2,rfl,rfl,x2.le,(u9 s2).trans sq,⟨ij,sq _ _ g2⟩,aB,.cons ⟨GS,R5.same sq,R6⟩ .nil,by rw[kI]⟩,?_⟩
   rintro m σ H3 ⟨ps,bs,p',rfl,hm,lp,S3,iw,j2,pp,e3⟩
   have x3:jW K CR H3 r a l p':=⟨iw,S3.seq tx,lp⟩
   obtain⟨DO,g3⟩:=id iw
   have jc:bs.length=ps.length+1:=by
    have:=Paired.length pp
    rw[bw] at this
    exact this
   have oy:r≠q:=λz=>by rw[z,j2] at g3;cases g3
   have fin:cT l m p'=.ok ([],p')->Fu (Ay (mQ CR "read_end" (Ai K CR) [] E (cU 1) gC)) (aCq (cU 2)) {nx:=λ_ H'=>Q .non H',rt:=Q} [some (.ref a),some (.ref r),some (.ref q)] H3:=by
    intro e4
    have e5:cT l 63 q0.2=.ok (ps,p'):=by
     rw[e3,e4]
     show Except.ok (ps++[],p')=_
     rw[ie]
    rw[e5,cA] at k
    refine⟨_,rfl,r,DO,_,rfl,g3,rfl,r,a,l,p',rfl,x3,λhe=>⟨_,rfl,?_⟩,λhe=>?_⟩
    ·have he:p'=l.length:=he
     rw[af he] at k
     refine k H3 q bs S3 j2 (Paired.mapP pp λ_ _ z=>z.2) ?_ ?_
     ·show (q0.1::ps).length<=64
      rw[bw]
      (clear he jc lp;omega)
     ·show 1<=(q0.1::ps).length
      rw[bw]
      (clear he jc lp hm;omega)
    ·have he:¬p'=l.length:=he
     rw[ae he] at k
     exact k H3 S3
   refine⟨_,rfl,q,_,rfl,.inl (cP.of j2),_,_,rfl,rfl,_,rfl,bZ (λam=>?_) (λam=>vI (fin ?_))⟩
   ·have am:((bs.map V.ref).length:Int)<64:=dw am
    rw[ai] at am
    obtain⟨n,rfl⟩:∃n,m=n+1:=⟨m - 1,by (clear lp;omega)⟩
    refine⟨_,rfl,r,DO,_,rfl,g3,rfl,r,a,l,p',rfl,x3,_,rfl,bZ (λaw=>?_) (λaw=>fin ?_)⟩
    ·rw[cq,lx] at aw
     refine⟨aFk CR CP H r a q l q0.2 n q0.1,λ_ _ z=>⟨n,lu n,z⟩,?_⟩
     refine⟨_,rfl,.inl ⟨rfl,_,cP.of j2⟩,_,rfl,r,a,l,p',rfl,x3,?_⟩
     have e4:cT l (n+1) p'=eM (dW l p') λq=>gI q.1 (cT l n q.2):=ae aw
     cases e5:dW l p' with
     |error i=>
      intro H' s'
      have e6:cT l 63 q0.2=.error i:=by
       rw[e3,e4,e5]
       rfl
      rw[e6] at k
      exact k H' λy o e=>s' y o (S3 y o e) (aD e nr)
     |ok q1=>
      intro H4 b4 x4 s4 DP R7 R8
      have w9:H4 q=some (.lst (bs.map V.ref)):=s4 _ _ j2 (au oy)
      refine⟨q,_,_,rfl,rfl,w9,?_,?_⟩
      ·rw[ai]
       have:=bA
       (clear aw hm jc lp;omega)
      ·have R9:b4≠r:=λz=>by rw[z,g3] at DP;cases DP
       obtain⟨BC,g4⟩:=x4.rd
       refine⟨ps++[q1.1],bs++[b4],q1.2,rfl,by simp;(clear aw am jc lp;omega),x4.le,λy o e=>?_,⟨BC,by rw[aC oy];exact g4⟩,by rw[aB,c9];rfl,?_,?_⟩
       ·have e7:=S3 y o e
        have e8:=s4 y o e7 (aD e nr)
        rw[aC (aD e GU)]
        exact e8
       ·have R':Paired (λb pr=>b≠r/\eF CP (upd H4 q (.lst (bs.map V.ref++[V.ref b4]))) b pr/\sT pr) bs (q0.1::ps):=Paired.mapP pp λb pr z=>⟨z.1,(z.2.1.sx z.1 iw s4).list w9,z.2.2⟩
        exact Paired.snoc R' ⟨R9,R7.list w9,R8⟩
       ·rw[e3,e4,e5,cA,iW]
    ·rw[cq,lx,AJ] at aw
     exact af aw
   ·have am:¬((bs.map V.ref).length:Int)<64:=λz=>am (decide_eq_true z)
    rw[ai] at am
    rw[show m=0 by (clear lp;omega)]
    rfl
end Br1
variable{pr:Br1.aL}{U:List Br1.aL}
namespace L2
open PySem PySem.Spec PyProof.Rows
section
variable{es:Array DictEntry}
theorem Bb(hs:(d==sysModules)=false):MeetsIn prog w (Builtin.«dict.items» ⟨[.ref d],[]⟩) (λ_ R s=>s.TypeIs (.ref d) "dict"/\
  R (.ok (.ret (.ref s.heap.objs.size))) {s with heap:=s.heap.push {cls:=.type "dict_items",data:=.fields #[.ref d]}}):=
 .of_wp λA R s ⟨hm,h⟩=>by
  unfold Builtin.«dict.items» Builtin.Dict.noArgs
  refine ac (ac (JQ hm ?_))
  show wpAny _ _ (pure d) _ _ s
  refine ag ?_
  show wpAny _ _ (Builtin.Dict.showsAll d>>=_) _ _ s
  unfold Builtin.Dict.showsAll
  rw[ae (by rw[hs];exact b6)]
  exact ac (ag (ac (ig (ag ⟨_,rfl,h⟩))))
theorem Fv{v:Addr}{n:Nat}(hv:s.heap.IsItemsView v d)(ho:s.heap.get? d=some o)(kg:o.data=.dict es ep)(hn:es.size=n)
  (hQ:Q (.ref s.heap.objs.size) {s with heap:=s.heap.push {cls:=.type "dict_itemiterator",data:=.fields #[.none,.bool false,.ref d,.int 0 0,.int n 0,.int ep 0,.none,.none]}}):
  wpAny (model prog w) A (pyIter (.ref v)) Q E s:=by
 obtain⟨ov,SA,WZ,SC⟩:=id hv
 refine CF hv.typeIs OS (jf OS hv.typeIs F.entry_dict_items_iter ?_ (F.args_dict_items_iter_1 _))
 unfold Builtin.«dict_items.__iter__»
 refine ac (ag (ac ?_))
 unfold Builtin.Dict_items.dictOf
 refine ac (j7 SA SC (x:=.ref d) rfl (ag (ac ?_)))
 unfold Builtin.Dict_items.newIterator
 refine ac (ph ho kg (ac (wa ho kg ?_)))
 have sd:Builtin.Dict_items.ownsTuple "dict_itemiterator"=true:=by decide
 simp only[sd,vp]
 refine ig (ag ⟨_,rfl,"dict_itemiterator",_,⟨_,cb _ rfl,rfl⟩,CY.lookup,?_⟩)
  (by simp only[sizeOk,Builtin.Dict_items.ownedTupleFields,ca,c8,bw,AF,qz];(clear hn;omega))
 simpa[rawInt,hn,Builtin.Dict_items.ownedTupleFields] using hQ
theorem Uf{n:Nat}{en:DictEntry}{ok ov:Value}{Q:Option Value->Shared->Prop}(br:IsItemIter s.heap it d i n ep ok ov)(iu:s.heap.get? d=some o)(ou:o.data=.dict es ep)(hsz:es.size=n)(uv:es[i]?=some en)
  (hQ:∀h',IsItemIterOut h' it d (i+1) n ep en.key en.val s.heap.objs.size->h'.get? s.heap.objs.size=some {cls:=.type "tuple",data:=.seq #[en.key,en.val]}->
   (∀b ob,b≠it->s.heap.get? b=some ob->h'.get? b=some ob)->Q (some (.ref s.heap.objs.size)) {s with heap:=h'}):
  wpAny (model prog w) A (pyNext (.ref it)) Q E s:=by
 obtain⟨hp,g,dr,tk,os⟩:=s
 have hT:Shared.TypeIs ⟨hp,g,dr,tk,os⟩ (.ref it) "dict_itemiterator":=⟨_,br,rfl⟩
 obtain⟨am,W2⟩:=yb.mp uv
 unfold pyNext
 refine ac (uc (mj (name:=Str.ofString "__next__") hT CY
  (jf CY hT OT ?_ (OU _))))
 refine ac (ag (ac (ac ?_)))
 first|refine ac (FC hT (ag ?_))|refine ac (FD hT (ag ?_))
 refine ac (wb br rfl ?_)
 have sd:Builtin.Dict_items.ownsTuple "dict_itemiterator"=true:=by decide
 simp only[sd,vp]
 show wpAny _ _ (if (Value.ref d==Value.none)=true then _ else _) _ _ _
 rw[ae (show ¬((Value.ref d==Value.none)=true) from b6)]
 refine ac (ag (ac (ph iu ou ?_)))
 rw[ae (by rw[hsz];simp)]
 refine ac (ag (ac (wa iu ou ?_)))
 rw[ae (by simp)]
 refine ag ?_
 simp only[show ¬((i:Int)<0) from by (clear hsz;omega),ju,fc,uv]
 refine ac ?_
 first|refine ac (FC hT (ag ?_))|refine ac (FD hT (ag ?_))
 refine ac (JW hT ?_)
 show wpAny _ _ (setField (.ref it) 3 (rawInt ((i:Int)+1))>>=_) _ _ ⟨hp,g,dr,tk,os⟩
 refine ac (wpAny_setField_rec br (by simp) λh1 BD j3=>?_)
 replace j3:Heap.SameBut it hp h1:=j3
 replace BD:IsItemIter h1 it d (i+1) n ep ok ov:=by
  have e:((i+1:Nat):Int)=(i:Int)+1:=by (clear hsz;omega)
  unfold IsItemIter;rw[e];simpa[rawInt] using BD
 have GV:Shared.TypeIs ⟨h1,g,dr,tk,os⟩ (.ref it) "dict_itemiterator":=⟨_,BD,rfl⟩
 refine ac (j8 (ac (JW GV (ac (JW GV ?_)))))
 show wpAny _ _ (Builtin.Dict_items.pairFromOwner (.ref it) 6 en.key en.val) _ _ ⟨h1,g,dr,tk,os⟩
 unfold Builtin.Dict_items.pairFromOwner
 refine ac (wpAny_newTuple ?_)
 have BE:IsItemIter (h1.push {cls:=.type "tuple",data:=.seq #[en.key,en.val]}) it d (i+1) n ep ok ov:=bh _ BD
 generalize qm:h1.push {cls:=.type "tuple",data:=.seq #[en.key,en.val]}=h2 at BE
 have BF:h1.objs.size=hp.objs.size:=j3.1
 have ze:it<hp.objs.size:=ba br
 have qo:h2.get? hp.objs.size=some {cls:=.type "tuple",data:=.seq #[en.key,en.val]}:=by rw[<-qm,<-BF];exact cb _ rfl
 have BG:∀b ob,b≠it->hp.get? b=some ob->h2.get? b=some ob:=λb ob hb e=>by rw[<-qm];exact bh _ (j3.extBut b ob hb e)
 show wpAny _ _ (Builtin.Dict_items.ownedTupleIsFree (.ref it)>>=_) _ _ ⟨h2,g,dr,tk,os⟩
 rw[BF]
 clear qm BD j3 GV BF h1
 refine ac ?_
 unfold Builtin.Dict_items.ownedTupleIsFree
 refine ac (j7 BE rfl (x:=.none) rfl (ag ?_))
 simp only[vp]
 refine ac (j7 BE rfl (x:=ok) rfl (ac (j7 BE rfl (x:=ov) rfl ?_)))
 refine ac (wpAny_setField_rec BE (by simp) λh3 GW l7=>?_)
 replace l7:Heap.SameBut it h2 h3:=l7
 replace GW:IsItemIter h3 it d (i+1) n ep en.key ov:=GW
 refine ac (wpAny_setField_rec GW (by simp) λh4 GY wt=>?_)
 replace wt:Heap.SameBut it h3 h4:=wt
 replace GY:IsItemIter h4 it d (i+1) n ep en.key en.val:=GY
 refine ac (wpAny_setField_rec GY (by simp) λh5 GZ ik=>?_)
 replace ik:Heap.SameBut it h4 h5:=ik
 replace GZ:IsItemIterOut h5 it d (i+1) n ep en.key en.val hp.objs.size:=GZ
 refine ac (wpAny_setField_rec GZ (by simp) λh6 G0 xc=>?_)
 replace xc:Heap.SameBut it h5 h6:=xc
 replace G0:IsItemIterOut h6 it d (i+1) n ep en.key en.val hp.objs.size:=G0
 have keep:∀b ob,b≠it->h2.get? b=some ob->h6.get? b=some ob:=λb ob hb e=>xc.extBut b ob hb (ik.extBut b ob hb (wt.extBut b ob hb (l7.extBut b ob hb e)))
 exact ac (wpAny_letGo (ag (ag ⟨_,rfl,ag (hQ h6 G0 (keep _ _ (pc ze) qo) λb ob hb e=>keep b ob hb (BG b ob hb e))⟩)))
theorem aAk{n:Nat}{ok ov:Value}{Q:Option Value->Shared->Prop}(hh:A.handled=none)(br:IsItemIter s.heap it d i n ep ok ov)(iu:s.heap.get? d=some o)(ou:o.data=.dict es ep)(hsz:es.size=n)(DF:n<=i)
  (hQ:∀h',Heap.ExtBut it s.heap h'->Q none {s with heap:=h'}):wpAny (model prog w) A (pyNext (.ref it)) Q E s:=by
 have hT:s.TypeIs (.ref it) "dict_itemiterator":=⟨_,br,rfl⟩
 unfold pyNext
 refine ac (uc (mj (name:=Str.ofString "__next__") hT CY
  (jf CY hT OT ?_ (OU _))))
 refine ac (ag (ac (ac ?_)))
 first|refine ac (FC hT (ag ?_))|refine ac (FD hT (ag ?_))
 refine ac (wb br rfl ?_)
 have sd:Builtin.Dict_items.ownsTuple "dict_itemiterator"=true:=by decide
 simp only[sd,vp]
 show wpAny _ _ (if (Value.ref d==Value.none)=true then _ else _) _ _ s
 rw[ae (show ¬((Value.ref d==Value.none)=true) from b6)]
 refine ac (ag (ac (ph iu ou ?_)))
 rw[ae (by rw[hsz];simp)]
 refine ac (ag (ac (wa iu ou ?_)))
 rw[ae (by simp)]
 refine ag ?_
 have cg:es.size<=i:=by rw[hsz];exact DF
 simp only[show ¬((i:Int)<0) from by (clear cg DF hsz;omega),ju,fc,JP cg]
 refine ac ?_
 first|refine ac (FC hT (ag ?_))|refine ac (FD hT (ag ?_))
 show wpAny _ _ (setField (.ref it) 2 .none>>=_) _ _ s
 refine ac (lw br rfl (by simp) ?_)
 show wpAny _ _ (newExc (.type "StopIteration") []>>=_) _ _ _
 refine ac ?_
 simp only[newExc,newTuple]
 refine ac (ig ?_ (by size_fits))
 refine ac (m:=firstArgMember _ _) (AH (a:=Value.none) (by first|rfl|(simp only[firstArgMember];rfl)) ?_)
 refine ig ?_ (by size_fits)
 simp only[raiseNew]
 refine ac (CJ ?_)
 rw[show A.in1.handled=none from hh]
 refine ac (ag (CK ?_))
 refine ac (AI (T:="StopIteration") (b:=true) ⟨_,cb _ rfl,rfl⟩ E1 ?_)
 exact ag (hQ _ (((jx ..).extBut.push _).push _))
end
theorem aQ.frzT2{aJ:List (List dL×V)}(I:aQ X aa σ H s)(h:H d=some (.frz o (.dT aJ))):
  (d==sysModules)=false/\s.heap.get? d=some o/\o.ExactDict/\∃(es:Array DictEntry)(ep:Nat),o.data=.dict es ep/\es.size=aJ.length/\
   ∀(i:Nat)(k:List dL)(v:V),aJ[i]?=some (k,v)->∃(en:DictEntry)(q:Addr),es[i]?=some en/\en.key=.ref q/\H q=some (.tup (k.map kV))/\cB v en.val:=by
 obtain⟨hd,z,hs,xs,pr,o',es,ep,ho,hx,b9,he,_⟩:=I.hok d _ h
 rw[hd] at ho
 cases ho
 refine⟨hs,hd,hx,es,ep,b9,?_,λi k v e=>?_⟩
 ·have l1:es.size=xs.length:=CN he
  have l2:aJ.length=xs.length:=Paired.length pr
  (clear z;omega)
 ·obtain⟨b,hb,e1,e2,e3⟩:=iR pr e
  have q:=CO he i
  rw[hb] at q
  exact⟨_,b.2.1,q,rfl,e2,e3⟩
def Ln(d:Addr)(o:Obj)(aJ:List (List dL×V)):It:=
 ⟨λi H=>H d=some (.frz o (.dT aJ))/\i<aJ.length,λi H x H'=>∃T k v q,aJ[i]?=some (k,v)/\x=.ref T/\H T=none/\H q=some (.tup (k.map kV))/\H'=upd H T (.tup [.ref q,v]),λi H=>H d=some (.frz o (.dT aJ))/\aJ.length<=i⟩
variable{K:Frag}
theorem uK{es:Array DictEntry}{aJ:List (List dL×V)}{kk:Nat}(it:Addr)(iu:o.data=.dict es ep):
  zI P w K (.Tuple js kk ip) (Ln d o aJ) [it] it (λi h=>∃ok ov,IsItemIter h it d i aJ.length ep ok ov) where
 mem:=by simp
 obj:=λi h st b hb=>by
  have e:b=it:=by simpa using hb
  subst e
  obtain⟨ok,ov,e⟩:=st
  exact⟨_,e,λv z=>nomatch z⟩
 keep:=λi h h' st k=>let ⟨ok,ov,e⟩:=st;⟨ok,ov,k it (by simp) _ e⟩
 item:=by
  intro X hP hw hK hc i aa s σ H E I hf st hg
  subst hP hw hK
  obtain⟨hd,hi⟩:=hg
  obtain⟨hs,f7,hx,fv,l0,b9,hsz,qg⟩:=I.frzT2 hd
  obtain⟨rfl,rfl⟩:=pA iu b9
  obtain⟨⟨k,v⟩,m6⟩:∃p,aJ[i]?=some p:=⟨aJ[i],ax hi⟩
  obtain⟨en,q,uv,wn,hq,ru⟩:=qg i k v m6
  obtain⟨ok,ov,he⟩:=st
  have am:it<s.heap.objs.size:=ba he
  refine Uf he f7 b9 hsz uv λh' ho hT hk=>?_
  refine⟨_,rfl,wpAny_letOwnedTupleGo_items (s:={s with heap:=h'}) ho λmw wu sb=>?_⟩
  have A0:mw.get? s.heap.objs.size=some {cls:=.type "tuple",data:=.seq #[en.key,en.val]}:=(sb.2 _ (pc am)).trans hT
  have new:cF X.prog X.w (upd H s.heap.objs.size (.tup [.ref q,v])) mw s.heap.objs.size (.tup [.ref q,v]):=
   ⟨by show 2<=sizeLine;decide,[en.key,en.val],.cons wn (.cons ru .nil),⟨_,A0,rfl,_,rfl⟩⟩
  have I1:aQ X aa σ (upd H s.heap.objs.size (.tup [.ref q,v])) {s with heap:=mw}:=
   I.turnedNew (t':=s.toks) (ch:=[it]) (λb ob hb e=>(sb.2 b (by simpa using hb)).trans (hk b ob (by simpa using hb) e)) hf (ap _) new
  refine⟨.ref s.heap.objs.size,_,I1,rfl,⟨_,k,v,q,m6,rfl,I.hok.fresh (ap _),hq,rfl⟩,⟨en.key,en.val,wu⟩,λb hb=>?_⟩
  have e:b=it:=by simpa using hb
  rw[e,aC (b8 am)]
  exact(hf it (by simp)).1
 done:=by
  intro X hP hw hK hc i aa s σ H E I hf st hg
  subst hP hw hK
  obtain⟨hd,hi⟩:=hg
  obtain⟨f0,f1,f2,f3,f4,f5⟩:=hf it (by simp)
  obtain⟨hs,f7,hx,fv,l0,b9,hsz,qg⟩:=I.frzT2 hd
  obtain⟨rfl,rfl⟩:=pA iu b9
  obtain⟨ok,ov,he⟩:=st
  exact aAk (I.ok.hd hc) he f7 b9 hsz hi λh' eb=>⟨rfl,I.turned (t':=s.toks) (λb ob hb e=>eb b ob hb e) f0 f1 f3 f4 f5⟩
 self:=λA i s Q E st h=>let ⟨_,_,e⟩:=st;PySem.W.kcp_self e h
def aAd(td:TE):TI:=fun σ H R=>td σ H λx H1=>∃d o aJ,x=.ref d/\H1 d=some (.frz o (.dT aJ))/\R (Ln d o aJ) H1
theorem kY{kk:Nat}(he:PE X e td)(r9:attributeBase e "items" X.env (eval e X.env)=eval e X.env:=by rfl)(wp:(gr.endLine==f6.line)=true:=by rfl):
  PI X (.Tuple js kk ip) (.Call (.Attribute e "items" gr) [] [] f6) (aAd td):=by
 intro aa s σ H R I h
 refine wpAny_Call_method (T:="dict") (id:="dict.items") r9 rfl wp F.plainAttrs_dict FE F.type_dict_items (cV (he aa s σ H _ I h) λu s1 ⟨x,H1,I1,rx,d,o,aJ,ex,hd,q⟩=>?_)
 subst ex
 obtain rfl:u=Value.ref d:=rx
 obtain⟨hs,f7,hx,es,ep,b9,hsz,qg⟩:=I1.frzT2 hd
 have jz:s1.TypeIs (.ref d) "dict":=⟨o,f7,hx.1⟩
 refine⟨jz,λb q=>by cases q;exact⟨o,f7,hx.2.1⟩,?_⟩
 have I2:aQ X aa σ H1 {s1 with heap:=s1.heap.push {cls:=.type "dict_items",data:=.fields #[.ref d]}}:=I1.kept (t':=s1.toks) λb ob q=>bh _ q
 have fin:wpAny (model X.prog X.w) X.A (pyIter (.ref s1.heap.objs.size)) (PIE X aa σ (.Tuple js kk ip) R) X.xe {s1 with heap:=s1.heap.push {cls:=.type "dict_items",data:=.fields #[.ref d]}}:=
  Fv (d:=d) (n:=aJ.length) ⟨_,cb _ rfl,rfl,rfl⟩ (bh _ f7) b9 hsz (sX (tk:=s1.toks) I2 _ (uK _ b9) ⟨.none,.none,cb _ rfl⟩ q)
 show wpAny _ _ (callWith f6 (.builtin "dict.items") [.ref d] [] []) _ X.xe s1
 exact method_meetsIn FE F.entry_dict_items rfl (PySem.evalArgs_none ⟨rfl,jz,F.args_dict_items_1 _,_,Bb hs,jz,fin⟩)
section
variable{es:Array DictEntry}
theorem zV(hd:(d==sysModules)=false):MeetsIn prog w (Builtin.«dict.__len__» ⟨[.ref d],[]⟩) (λ_ R s=>∃o es ep,s.heap.get? d=some o/\o.data=.dict es ep/\R (.ok (.ret (.int es.size s.toks))) {s with toks:=s.toks+1}):=
 .of_wp λA R s ⟨o,es,ep,ho,kg,h⟩=>by
  show wpAny _ _ (dictSize d>>=_) _ _ s
  unfold dictSize
  refine ac (ac (ph ho kg (ag ?_)))
  show wpAny _ _ (Builtin.Dict.pendingCount d>>=_) _ _ s
  refine ac (wpAny_pendingCount_other hd (wpAny_ret_mkInt ?_))
  rw[Nat.add_zero]
  exact h
theorem Zl(hd:(d==sysModules)=false)(ho:s.heap.get? d=some o)(hx:o.ExactDict)(kg:o.data=.dict es ep)(SD:(es.size:Int)<2 ^ 63)
  (h:Q (.int es.size (s.toks+1)) {s with toks:=s.toks+1+1}):wpAny (model prog w) A (call (.builtin "len") [.ref d]) Q E s:=by
 have hT:s.TypeIs (.ref d) "dict":=⟨o,ho,hx.1⟩
 refine OV kind_len plain_len entry_len (args_len1 _) ?_
 unfold Builtin.«len»
 refine ac (m:=oneArg "len" _) (ag ?_)
 refine ac (m:=callSpecial? (.ref d) (Str.ofString "__len__")) (mj (name:=Str.ofString "__len__") hT F.slot_dict_len
  (call_meetsIn F.slot_dict_len hT F.entry_dict_len (F.args_dict_len_1 _) (zV hd) ⟨o,es,ep,ho,kg,?_⟩))
 show wpAny _ _ _ _ _ {s with toks:=s.toks+1}
 refine ac (j8 (ag (ac (wpAny_letGo ?_))))
 show wpAny _ _ (if ((es.size:Nat):Int)<0 then _ else _) _ _ _
 rw[ae (by (clear SD;omega))]
 show wpAny _ _ (if ((es.size:Nat):Int)≥2 ^ 63 then _ else _) _ _ _
 rw[ae (by omega)]
 exact ac (wpAny_mkInt (ag ⟨_,rfl,h⟩))
theorem Um(hh:A.handled=none)(I:Addr)(aw:d≠I)(kg:o.data=.dict es ep):Walks prog w A I [I,d] [I] es.size (λi v=>∃en,es[i]?=some en/\v=en.key) (λi h=>h.IsKeyIter I d i es.size ep/\h.get? d=some o) where
 sub:=λb hb=>by simp at hb;simp[hb]
 frame:=λ_ _ _ st hk=>⟨st.1.at λo e=>hk I (by simp) o e,hk d (by simp) o st.2⟩
 item:=λi s Q E hi st hQ=>by
  refine pM (en:=es[i]) st.1 st.2 kg rfl (by simp[hi]) λh' uw wy=>?_
  exact hQ _ h' s.toks ⟨_,by simp[hi],rfl⟩ ⟨uw,wy.extBut d o aw st.2⟩ λb o hb e=>wy.extBut b o (λh=>hb (by simp[h])) e
 done:=λs Q E st hQ=>lI hh st.1 st.2 kg rfl (ap _) λh' wu=>hQ h' s.toks λb o hb e=>wu b o (λh=>hb (by simp[h])) e
 self:=λ_ _ _ _ st hQ=>wpAny_pyIter_keyiter st.1 hQ
theorem Xq(lo:(d==sysModules)=false)(hx:o.ExactDict)(kg:o.data=.dict es ep):PySem.W.KdlSrc prog w "dict" d d es.size (λi v=>∃en,es[i]?=some en/\v=en.key) (λh=>h.get? d=some o) where
 type:=λ_ hm=>⟨o,hm,hx.1⟩
 there:=λ_ hm=>⟨ba hm,ba hm⟩
 keep:=λ_ _ hm hk=>hk d (.inl rfl) o hm
 notList:=by decide
 notTuple:=by decide
 hint:=λ_ _ _ _ hm hq=>PySem.W.kdl_hint_dict ⟨o,hm,hx.1⟩ hq
 iter:=λ_ _ hh hm=>⟨_,_,(λ_ _ hq=>tP lo hm hx kg hq),Um hh _ (b8 (ba hm)) kg,⟨⟨_,cb _ rfl,rfl,rfl⟩,bh _ hm⟩⟩
end
theorem aQ.rawT{aJ:List (List dL×V)}(I:aQ X aa σ H s)(h:Rd H d (.dT aJ)):
  (d==sysModules)=false/\aJ.length<=sizeLine/\∃(o:Obj)(es:Array DictEntry)(ep:Nat),s.heap.get? d=some o/\o.ExactDict/\o.data=.dict es ep/\es.size=aJ.length/\
   ∀(i:Nat)(k:List dL)(v:V),aJ[i]?=some (k,v)->∃(en:DictEntry)(q:Addr),es[i]?=some en/\en.key=.ref q/\H q=some (.tup (k.map kV)):=by
 obtain⟨z,hs,xs,pr,o,es,ep,ho,hx,b9,he,_⟩:=Vj I.hok h
 refine⟨hs,z,o,es,ep,ho,hx,b9,?_,λi k v e=>?_⟩
 ·have l1:es.size=xs.length:=CN he
  have l2:aJ.length=xs.length:=Paired.length pr
  (clear z;omega)
 ·obtain⟨b,hb,e1,e2,e3⟩:=iR pr e
  have q:=CO he i
  rw[hb] at q
  exact⟨_,b.2.1,q,rfl,e2⟩
theorem uD:pL X (.builtin "len") (λxs H Q=>∃a aJ,xs=[V.ref a]/\Rd H a (.dT aJ)/\Q (.int aJ.length) H):=by
 intro aa s σ H xs us Q I r h
 obtain⟨a,aJ,rfl,ha,q⟩:=h
 obtain⟨u,rfl,ru⟩:=Bw r
 cases ru
 obtain⟨hs,z,o,es,ep,ho,hx,b9,hsz,_⟩:=I.rawT ha
 refine Zl hs ho hx b9 (by rw[hsz];rw[qz] at z;(clear hsz;omega)) ⟨.int es.size,H,I.tok _,⟨_,rfl⟩,?_⟩
 rw[hsz]
 exact q
theorem Kz(hc:X.calm=true):pL X (.type "list") (λxs H Q=>∃a aJ,xs=[V.ref a]/\Rd H a (.dT aJ)/\
  ∀l ps,H l=none->Paired (λ(p:Addr)(kv:List dL×V)=>H p=some (.tup (kv.1.map kV))) ps aJ->Q (.ref l) (upd H l (.lst (ps.map V.ref)))):=by
 intro aa s σ H xs us Q I r h
 obtain⟨a,aJ,rfl,ha,q⟩:=h
 obtain⟨u,rfl,ru⟩:=Bw r
 cases ru
 obtain⟨hs,z,o,es,ep,ho,hx,b9,hsz,qg⟩:=I.rawT ha
 refine PySem.W.kdl_call (Xq hs hx b9) (I.ok.hd hc) ho (by rw[hsz];exact z) λh' tk xf c' hk hl G5=>?_
 obtain⟨hn,hp⟩:=G5
 have key:∀(aJ:List (List dL×V)) (vs:List Value),vs.length=aJ.length->(∀(i:Nat)(k:List dL)(v:V),aJ[i]?=some (k,v)->∃q:Addr,vs[i]?=some (Value.ref q)/\H q=some (.tup (k.map kV)))->
   ∃ps:List Addr,vs=ps.map Value.ref/\Paired (λ(p:Addr)(kv:List dL×V)=>H p=some (.tup (kv.1.map kV))) ps aJ:=by
  intro aJ
  induction aJ with
  |nil=>
   intro vs hl _
   cases vs with
   |nil=>exact⟨[],rfl,.nil⟩
   |cons _ _=>cases hl
  |cons kv r ih=>
   intro vs hl hh
   cases vs with
   |nil=>cases hl
   |cons v vr=>
    obtain⟨q,e1,e2⟩:=hh 0 kv.1 kv.2 rfl
    cases e1
    obtain⟨ps,e3,e4⟩:=ih vr (by simpa using hl) λi k v e=>hh (i+1) k v e
    exact⟨q::ps,by rw[e3];rfl,.cons e2 e4⟩
 obtain⟨ps,e1,e2⟩:=key aJ xf.toList (by rw[d5,hn,hsz]) λi k v e=>by
  obtain⟨en,q,g1,g2,g3⟩:=qg i k v e
  have hi:i<aJ.length:=(bp.mp e).1
  have DQ:i<xf.size:=by rw[hn,hsz];exact hi
  obtain⟨W3,g4,g5⟩:=hp i xf[i] (by simp[DQ])
  rw[g1] at g4
  cases g4
  refine⟨q,?_,g3⟩
  rw[oh]
  simp[DQ,g5,g2]
 have fr:H s.heap.objs.size=none:=I.hok.fresh (ap _)
 have rv:bK (ps.map V.ref) xf.toList:=by
  rw[e1]
  clear e1 e2 hp hn hl
  induction ps with
  |nil=>exact .nil
  |cons p r ih=>exact .cons rfl ih
 refine⟨.ref s.heap.objs.size,_,I.laid (o:=.lst (ps.map V.ref)) hk (ap _) ⟨?_,xf.toList,c',rv,by simpa using hl⟩,rfl,q _ ps fr e2⟩
 rw[ai,Paired.length e2]
 exact z
open AutoSeq1 (wpAny_loadPart')
theorem yJ(l:Addr)(items:Array Value)(n:Nat)(dct:Option Addr)(sl:Array (Option Value)):
  Meets (Builtin.«enumerate.__new__» ⟨[.type "enumerate",.ref l],[]⟩) (λ_ R s=>s.heap.get? l=some {cls:=.type "tuple",dict:=dct,data:=.seq items n,slots:=sl}/\
   R (.ok (.ret (.ref (s.heap.push {cls:=.type "tuple_iterator",data:=.fields #[.ref l,.int 0 0]}).objs.size)))
    {s with heap:=(s.heap.push {cls:=.type "tuple_iterator",data:=.fields #[.ref l,.int 0 0]}).push {cls:=.type "enumerate",data:=.fields #[.none,.bool false,.ref s.heap.objs.size,rawInt 0,.none,.none]}}):=
 .of_wp λprog w A R s h=>by
  obtain⟨hp,g,d,tk,os⟩:=s;obtain⟨hl,h⟩:=h
  have LO:=sub_enumerate
  have hL:Heap.IsTuple (Shared.heap ⟨hp,g,d,tk,os⟩) l items:=⟨_,hl,rfl,n,rfl⟩
  wp_walk using AL hl
  refine wpAny_stack_any λst=>ag ?_
  split
  ·rename_i c _ _ _ _ _
   cases (c==Value.type "enumerate")
   ·wp_walk using AL hl,ES hL
    exact⟨_,rfl,h⟩
   ·wp_walk using AL hl,ES hL
    exact⟨_,rfl,h⟩
  ·wp_walk using AL hl,ES hL
   exact⟨_,rfl,h⟩
theorem Aa{l:Addr}(hL:IsTup s.heap l items)
  (h:∀h',IsEnum h' (s.heap.objs.size+1) s.heap.objs.size 0 .none->h'.IsTupleIter s.heap.objs.size l 0->h'.objs.size=s.heap.objs.size+2->
   (∀b o,s.heap.get? b=some o->h'.get? b=some o)->Q (.ref (s.heap.objs.size+1)) {s with heap:=h'}):
  wpAny (model prog w) A (call (.type "enumerate") [.ref l]) Q E s:=by
 obtain⟨⟨c,dct,dt,sl⟩,hl,hc,n,hd⟩:=hL
 replace hc:c=.type "tuple":=hc
 replace hd:dt=.seq items n:=hd
 subst hc hd
 refine callType_new F.called_enumerate (by decide) (F.typeCall_enumerate_1 _) (F.newCall_enumerate_1 _) (λobj=>F.args_object_init_2 obj _) F.entry_enumerate_new
  (yJ l items n dct sl) ⟨hl,?_⟩
 have hz:(s.heap.push {cls:=.type "tuple_iterator",data:=.fields #[.ref l,.int 0 0]}).objs.size=s.heap.objs.size+1:=gn ..
 show _/\_
 rw[hz]
 have he:IsEnum ((s.heap.push {cls:=.type "tuple_iterator",data:=.fields #[.ref l,.int 0 0]}).push
   {cls:=.type "enumerate",data:=.fields #[.none,.bool false,.ref s.heap.objs.size,rawInt 0,.none,.none]}) (s.heap.objs.size+1) s.heap.objs.size 0 .none:=by
  have:=cb (s.heap.push {cls:=.type "tuple_iterator",data:=.fields #[.ref l,.int 0 0]})
   (o:={cls:=.type "enumerate",data:=.fields #[.none,.bool false,.ref s.heap.objs.size,rawInt 0,.none,.none]}) rfl
  rw[hz] at this;exact this
 refine⟨⟨_,he,rfl⟩,h _ he ⟨_,bh _ (cb _ rfl),rfl,rfl⟩ (by rw[gn,hz]) λb o x=>bh _ (bh _ x)⟩
theorem zY{l:Addr}{items}{x:Value}(br:s.heap.IsTupleIter it l i)
  (hl:IsTup s.heap l items) (hx:items[i]?=some x)
  (hQ:∀h',h'.IsTupleIter it l (i+1)->Heap.SameBut it s.heap h'->Q x {s with heap:=h'}):
  wpAny (model prog w) A (Builtin.SmallTypes.nextOf (.ref it)) Q E s:=by
 obtain⟨o,ho,hc,hd⟩:=id br
 obtain⟨ol,zk,_,nl,zm⟩:=hl
 unfold Builtin.SmallTypes.nextOf
 refine ac (mj (name:=Str.ofString "__next__") br.typeIs FF
  (jf FF br.typeIs OW ?_ (OX _)))
 show wpAny _ _ (field (.ref it) 0>>=_) _ _ s
 refine ac (j7 ho hd (x:=.ref l) rfl ?_)
 show wpAny _ _ (if (Value.ref l==Value.none)=true then _ else _) _ _ s
 rw[ae (show ¬((Value.ref l==Value.none)=true) from b6)]
 show wpAny _ _ (field (.ref it) 1>>=_) _ _ s
 refine ac (j7 ho hd (x:=.int i 0) rfl ?_)
 show wpAny _ _ (seqItems? (.ref l)>>=_) _ _ s
 refine ac (FG zk zm ?_)
 simp only[fc,hx]
 refine ac (lw ho hd (by simp) (ag ⟨x,rfl,ag (hQ _ ?_ (jx ..))⟩))
 exact⟨_,oj _ ho (ud (kc hd _)),(CH ..).trans hc,by
  rw[kc hd];simp[rawInt]⟩
theorem Ef{l:Addr}{items}(hh:A.handled=none)
  (br:s.heap.IsTupleIter it l i) (hl:IsTup s.heap l items) (hx:items[i]?=none)
  (hE:∀h' e,Heap.ExtBut it s.heap h'->(∃o,h'.get? e=some o/\o.cls=.type "StopIteration")->E (.ref e) {s with heap:=h'}):
  wpAny (model prog w) A (Builtin.SmallTypes.nextOf (.ref it)) Q E s:=by
 obtain⟨o,ho,hc,hd⟩:=id br
 obtain⟨ol,zk,_,nl,zm⟩:=hl
 unfold Builtin.SmallTypes.nextOf
 refine ac (mj (name:=Str.ofString "__next__") br.typeIs FF
  (jf FF br.typeIs OW ?_ (OX _)))
 show wpAny _ _ (field (.ref it) 0>>=_) _ _ s
 refine ac (j7 ho hd (x:=.ref l) rfl ?_)
 show wpAny _ _ (if (Value.ref l==Value.none)=true then _ else _) _ _ s
 rw[ae (show ¬((Value.ref l==Value.none)=true) from b6)]
 show wpAny _ _ (field (.ref it) 1>>=_) _ _ s
 refine ac (j7 ho hd (x:=.int i 0) rfl ?_)
 show wpAny _ _ (seqItems? (.ref l)>>=_) _ _ s
 refine ac (FG zk zm ?_)
 simp only[fc,hx]
 refine ac (yh (ac (lw ho hd (by simp) ?_)))
 show wpAny _ _ (newExc (.type "StopIteration") []>>=_) _ _ _
 refine ac ?_
 simp only[newExc,newTuple]
 refine ac (ig ?_ (by size_fits))
 refine ac (m:=firstArgMember _ _) (AH (a:=Value.none) (by first|rfl|(simp only[firstArgMember];rfl)) ?_)
 refine ig ?_ (by size_fits)
 simp only[raiseNew]
 refine ac (CJ ?_)
 first|rw[show A.in1.handled=none from hh]|rw[hh]
 refine ac (ag (CK ?_))
 exact hE _ _ (((jx ..).extBut.push _).push _) ⟨_,cb _ rfl,rfl⟩
theorem Bn(hh:A.handled=none)(it l:Addr)(aw:l≠it)(items:Array Value):
  Draws prog w A it [it,l] items.size (λi v=>items[i]?=some v) (λi h=>h.IsTupleIter it l i/\IsTup h l items) where
 live:=λ_ _ st=>let ⟨o,ho,_⟩:=st.1;⟨o,ho⟩
 frame:=λ_ _ _ st hk=>⟨st.1.at λo e=>hk it (by simp) o e,let ⟨o,ho,r⟩:=st.2;⟨o,hk l (by simp) o ho,r⟩⟩
 item:=λi s Q E hi st hQ=>by
  refine zY st.1 st.2 (x:=items[i]) (by simp[hi]) λh' uw wy=>?_
  exact hQ _ h' s.toks (by simp[hi]) ⟨uw,st.2.extBut wy.extBut aw⟩ wy
 done:=λs Q E st hE=>Ef hh st.1 st.2 (by simp) hE
def Tv(K:Frag)(a:Addr):It:=
 ⟨λi H=>∃(xs:List V)(x:V),cG K H a xs/\xs[i]?=some x,λi H v H'=>∃T x,v=.ref T/\H T=none/\H'=upd H T (.tup [.int (i:Nat),x])/\∀xs,cG K H a xs->xs[i]?=some x,λi H=>∃xs:List V,cG K H a xs/\xs.length=i⟩
theorem Jw{kk:Nat}(a e it:Addr):
  zI P w K (.Tuple js kk ip) (Tv K a) [e,it] e (λi h=>(∃old,IsEnum h e it ((i:Nat):Int) old)/\h.IsTupleIter it a i/\e≠it/\a≠e/\a≠it) where
 mem:=by simp
 obj:=λi h st b hb=>by
  obtain⟨⟨old,he⟩,⟨o,ho,hc,hd⟩,_⟩:=st
  have e':b=e\/b=it:=by simpa using hb
  rcases e' with z|z
  ·rw[z];exact⟨_,he,λv q=>nomatch q⟩
  ·rw[z];exact⟨o,ho,λv q=>by rw[hd] at q;cases q⟩
 keep:=λi h h' st k=>let ⟨⟨old,he⟩,hi,aw⟩:=st;⟨⟨old,k e (by simp) _ he⟩,hi.at λo q=>k it (by simp) o q,aw⟩
 item:=by
  intro X hP hw hK hc i aa s σ H E I hf st hg
  subst hP hw hK
  obtain⟨⟨old,he⟩,br,aw,G6,DR⟩:=st
  obtain⟨xs,x,hq,hx⟩:=hg
  obtain⟨its,rv,p,hz⟩:=I.tuple hq
  obtain⟨u,hu,ru⟩:=rv.get hx
  have l8:e<s.heap.objs.size:=ba he
  have ze:it<s.heap.objs.size:=by obtain⟨_,q,_⟩:=br;exact ba q
  have am:i<its.toArray.size:=by
   have:=(bp.mp hu).1
   simpa using this
  refine wpAny_pyNext_enum_itemD (Bn (A:=X.A.in1) (I.ok.hd hc) it a DR its.toArray) he ⟨br,p⟩ am aw (by simp[aw,au G6]) λx' h' tk hP ho d8 hT hsz hk=>?_
  have SE:x'=u:=by
   have h1:its.toArray[i]?=some u:=by simpa using hu
   rw[h1] at hP
   cases hP
   rfl
  subst SE
  refine⟨_,rfl,wpAny_letOwnedTupleGo_enum (s:={s with heap:=h',toks:=tk+1}) ho λmw wu sb=>?_⟩
  have A0:mw.get? s.heap.objs.size=some {cls:=.type "tuple",data:=.seq #[.int i tk,x']}:=(sb.2 _ (pc l8)).trans hT
  have new:cF X.prog X.w (upd H s.heap.objs.size (.tup [.int (i:Nat),x])) mw s.heap.objs.size (.tup [.int (i:Nat),x]):=
   ⟨by show 2<=sizeLine;decide,[.int i tk,x'],.cons ⟨_,rfl⟩ (.cons ru .nil),⟨_,A0,rfl,_,rfl⟩⟩
  have I1:aQ X aa σ (upd H s.heap.objs.size (.tup [.int (i:Nat),x])) {s with heap:=mw,toks:=tk+1}:=
   I.turnedNew (ch:=[e,it]) (λb ob hb q=>(sb.2 b (λz=>hb (by simp[z]))).trans (hk b ob (λz=>hb (by simp[z])) (λz=>hb (by simp[z])) q)) hf (ap _) new
  refine⟨.ref s.heap.objs.size,_,I1,rfl,⟨_,x,rfl,I.hok.fresh (ap _),rfl,λys hy=>by rw[I.tuple_inj hy hq];exact hx⟩,⟨⟨x',?_⟩,d8.1.at λo q=>(sb.2 it (au aw)).trans q,aw,G6,DR⟩,λb hb=>?_⟩
  ·have e1:((i+1:Nat):Int)=(i:Int)+1:=by (clear hsz d8 am ze l8 hz;omega)
   rw[e1];exact wu
  ·have l9:b<s.heap.objs.size:=by
    have e':b=e\/b=it:=by simpa using hb
    rcases e' with z|z
    ·rw[z];exact l8
    ·rw[z];exact ze
   rw[aC (b8 l9)]
   exact(hf b hb).1
 done:=by
  intro X hP hw hK hc i aa s σ H E I hf st hg
  subst hP hw hK
  obtain⟨⟨old,he⟩,br,aw,G6,DR⟩:=st
  obtain⟨xs,hq,hx⟩:=hg
  obtain⟨its,rv,p,hz⟩:=I.tuple hq
  obtain⟨f0,f1,f2,f3,f4,f5⟩:=hf it (by simp)
  have hl:=rv.length
  have hn:its.toArray.size=i:=by simp;(clear f3 f2 hz;omega)
  exact wpAny_pyNext_enum_endD (Bn (A:=X.A.in1) (I.ok.hd hc) it a DR its.toArray) he (by rw[hn];exact⟨br,p⟩) λh' eb=>⟨rfl,I.turned (t':=s.toks) (λb o hb q=>eb b o hb q) f0 f1 f3 f4 f5⟩
 self:=λA i s Q E st h=>let ⟨⟨_,he⟩,_⟩:=st;E2 he h
def aCa(K:Frag)(ta:TA):TI:=fun σ H R=>ta σ H λvs H1=>∃a xs,vs=[.ref a]/\cG K H1 a xs/\R (Tv K a) H1
theorem Vf{ta:TA}{p:Pos}{kk:Nat}(hg:Gl X "enumerate")(hm:X.mg "enumerate"=none)(ha:PA X [e] ta)(hs:starEach [e] X.env=[(false,eval e X.env)]:=by rfl):
  PI X (.Tuple js kk ip) (.Call (.Name "enumerate" p) [e] [] pos) (aCa X.K ta):=by
 intro aa s σ H R I h
 refine Call_ (lY I hg hm boot_enumerate (z9 (cV (ha pos aa s σ H _ I h) λus s1 ⟨vs,H1,I1,r1,q1⟩=>?_) hs rfl))
 obtain⟨a,xs,ex,hq,q⟩:=q1
 subst ex
 cases r1 with
 |cons r rr=>
  cases rr
  cases r
  obtain⟨its,rv,p',hz⟩:=I1.tuple hq
  have LP:a<s1.heap.objs.size:=p'.lt
  refine Aa p' λh' he br hsz hk=>E2 he ?_
  have I2:aQ X aa σ H1 {s1 with heap:=h'}:=I1.kept (t':=s1.toks) hk
  refine⟨s1.heap.objs.size+1,[s1.heap.objs.size+1,s1.heap.objs.size],_,_,H1,rfl,I2,Jw a (s1.heap.objs.size+1) s1.heap.objs.size,⟨⟨.none,he⟩,br,ON _,b8 (v9 LP),b8 LP⟩,λb hb=>?_,q⟩
  have e':b=s1.heap.objs.size+1\/b=s1.heap.objs.size:=by simpa using hb
  have gj:s1.heap.objs.size<=b:=by
   rcases e' with z|z
   ·rw[z];exact CQ _ _
   ·rw[z];exact ap _
  exact I1.fpOk gj (I1.hok.fresh gj)
end L2
namespace HT
open PySem PyProof.Rows
def gH:List Int->List Int->Bool
 |[],_=>true
 |_::_,[]=>false
 |x::xs,y::ys=>if x=y then gH xs ys else decide (x<=y)
theorem Km(x y:Int)(xs ys:List Int):gH (x::xs) (y::ys)=if x=y then gH xs ys else decide (x<=y):=rfl
theorem Pc(ys:List Int):gH [] ys=true:=by cases ys<;>rfl
theorem yE(x:Int)(xs:List Int):gH (x::xs) []=false:=rfl
theorem Vd(A:Around)(s:Shared)(a:Int)(t:Tok)(c:Int)(u:Tok)(prog:Program)(w:World)(E:Value->Shared->Prop)(Q:Value->Shared->Prop)(h:Q (.bool (decide (a<=c))) s):
  wpAny (model prog w) A (richCompare .LtE (.int a t) (.int c u)) Q E s:=
 (PyProof.Rows.le_int h:wpAny (model prog w) A (compareOp .LtE (.int a t) (.int c u)) Q E s)
section
open PySem.SeqAt
open PySem.AutoSeq1 (wpAny_loadPart')
open PySem.MeetsSeq PySem.MeetsSeq2 PySem.MeetsSeq3
theorem zU(l b:Addr)(items i3:Array Value)(n n2:Nat)(dd uo:Option Addr)(sl uq:Array (Option Value))(ns ms:List Int)(hi:IntsAre items.toList ns)(hj:IntsAre i3.toList ms):
  Meets (Builtin.«tuple.__le__» ⟨[.ref l,.ref b],[]⟩)
   (λ_ R s=>s.heap.get? l=some {cls:=.type "tuple",dict:=dd,data:=.seq items n,slots:=sl}/\s.heap.get? b=some {cls:=.type "tuple",dict:=uo,data:=.seq i3 n2,slots:=uq}/\
    R (.ok (.ret (.bool (gH ns ms)))) s):=
 .of_wp λprog w A R s h=>by
  obtain⟨hp,g,d,tk,os⟩:=s;obtain⟨hl,hb,h⟩:=h
  have f2:=AutoSeq1.sub_tuple_tuple
  have z1:items.size=ns.length:=by rw[<-hi.length];simp
  have z2:i3.size=ms.length:=by rw[<-hj.length];simp
  wp_walk using AL hl,AL hb,wpAny_forIn_list _ (λrest b s'=>b.1=none/\s'=⟨hp,g,d,tk,os⟩/\∃(vs ws:List Value)(va zn:List Int),rest=vs.zip ws/\
   IntsAre vs va/\IntsAre ws zn/\va.length+i3.size=zn.length+items.size/\R (.ok (.ret (.bool (gH va zn)))) ⟨hp,g,d,tk,os⟩) _
  case turn=>
   rintro⟨y,x⟩ rest b s' ⟨l9,rfl,vs,ws,va,zn,hz,G7,vb,bi,hR⟩
   cases G7 with
   |nil=>rw[List.zip_nil_left] at hz;cases hz
   |cons a t SH=>
    cases vb with
    |nil=>rw[List.zip_nil_right] at hz;cases hz
    |cons c u SI=>
     rw[yj] at hz
     injection hz with SJ G8
     injection SJ with hy hx
     subst hy hx
     rw[Km] at hR
     simp only[bw] at bi
     obtain⟨e,he,G9⟩:=Sz A.in1 ⟨hp,g,d,tk,os⟩ a t c u
     refine ac (he prog w _ _ ?_)
     cases e with
     |true=>
      rw[af (G9.mp rfl)] at hR
      wp_walk
      exact⟨rfl,rfl,_,_,_,_,G8,SH,SI,by (clear G9 z2 z1;omega),hR⟩
     |false=>
      rw[ae (λq=>absurd (G9.mpr q) b6)] at hR
      have SK:=Vd A.in1 ⟨hp,g,d,tk,os⟩ a t c u prog w
      wp_walk using SK
      exact⟨_,rfl,by simpa using hR⟩
  case fin=>
   rintro⟨b1,b2⟩ s' ⟨l9,rfl,vs,ws,va,zn,hz,G7,vb,bi,hR⟩
   simp only at l9
   subst l9
   have hv:gH va zn=decide (items.size<=i3.size):=by
    cases G7 with
    |nil=>
     simp only[AF] at bi
     rw[Pc]
     exact(decide_eq_true (by (clear z2 z1;omega))).symm
    |cons a t hv=>
     cases vb with
     |nil=>
      simp only[AF,bw] at bi
      rw[yE]
      exact(jk (by (clear z2 z1;omega))).symm
     |cons c u hw=>
      rw[yj] at hz
      cases hz
   rw[hv] at hR
   wp_walk
   exact⟨_,rfl,by simpa[Builtin.Tuple.tupleCompareSizes] using hR⟩
  case h=>
   exact⟨rfl,rfl,items.toList,i3.toList,ns,ms,rfl,hi,hj,by omega,h⟩
end
theorem Jd{l:Addr}(hl:IsTup s.heap l items)(hb:IsTup s.heap b i3)(hi:IntsAre items.toList ns)(hj:IntsAre i3.toList ms)
  (hu:A.units<cLine) (h:Q (.bool (gH ns ms)) s):wpAny (model prog w) A (compareOp .LtE (.ref l) (.ref b)) Q E s:=by
 obtain⟨⟨cls,dd,data,sl⟩,ho,hc,n,hd⟩:=id hl
 obtain⟨⟨KI,uo,data2,uq⟩,qd,dk,n2,ja⟩:=id hb
 simp only at hc hd dk ja
 subst hc hd dk ja
 exact richCompare_meets_room (op:=.LtE) ⟨_,ho,rfl⟩ ⟨_,qd,rfl⟩ PySem.F.slot_tuple_le PySem.F.entry_tuple_le (PySem.F.args_tuple_le_2 _ _) (zU l b items i3 n n2 dd uo sl uq ns ms hi hj)
  ⟨ho,qd,show Value.bool (gH ns ms)≠Value.notImplemented/\Q (.bool (gH ns ms)) s from ⟨(λx=>nomatch x),h⟩⟩ hu
theorem Zn{t:Addr}{ws:List Value}(ht:IsTup s.heap t ([]:List Value).toArray)(hb:IsTup s.heap b ws.toArray)(h:Q (.ref b) s):wpAny (model prog w) A (binaryOp .Add (.ref t) (.ref b)) Q E s:=by
 obtain⟨⟨cls,dd,data,sl⟩,ho,hc,n,hd⟩:=id ht
 obtain⟨⟨KI,uo,data2,uq⟩,qd,dk,n2,ja⟩:=id hb
 simp only at hc hd dk ja
 subst hc hd dk ja
 exact JJ ⟨_,ho,rfl⟩ ⟨_,qd,rfl⟩ JK JL slot_tuple_add entry_tuple_add (args_tuple_add_2 _ _)
   (tuple_addW0 t b #[] ws.toArray n n2 dd uo sl uq rfl) ⟨ho,qd,h⟩
theorem Ci{l:Addr}(hl:IsTup s.heap l items)(hb:IsTup s.heap b i3)(hi:IntsAre items.toList ns)(hj:IntsAre i3.toList ms)(hu:A.units<cLine):
  SeqAt.RcAt A s (.ref l) (.ref b) (decide (ns=ms)):=by
 have z1:items.size=ns.length:=by rw[<-hi.length];simp
 have z2:i3.size=ms.length:=by rw[<-hj.length];simp
 have vc:∀{vs:List Value}{xs:List Int}(j:Nat),IntsAre vs xs->(h1:j<vs.length)->∃t,vs[j]=.int (xs.getD j 0) t:=by
  intro vs
  induction vs with
  |nil=>intro xs j _ h1;exact absurd h1 (ue _)
  |cons v r ih=>
   intro xs j h1 hl
   cases h1 with
   |cons a t h1=>
    cases j with
    |zero=>exact⟨t,rfl⟩
    |succ j=>exact ih j h1 (by simpa using hl)
 have key:=SeqAt.RcAt.tuples (A:=A) (s:=s) (l:=l) (b:=b) (e:=λj=>decide (ns.getD j 0=ms.getD j 0)) hl hb hu λj h1 h2=>by
  obtain⟨t,e1⟩:=vc j hi (by simpa using h1)
  obtain⟨u,e2⟩:=vc j hj (by simpa using h2)
  rw[show items[j]=.int (ns.getD j 0) t by simpa using e1,show i3[j]=.int (ms.getD j 0) u by simpa using e2,<-JE]
  exact JI _ _ _ _
 have val:((List.range (min items.size i3.size)).all (λj=>decide (ns.getD j 0=ms.getD j 0)) && items.size==i3.size)=decide (ns=ms):=by
  rw[z1,z2,ge,cn,jw,b7,cp]
  constructor
  ·rintro⟨h1,h2⟩
   refine List.ext_getElem h2 λj g1 g2=>?_
   have:=dw (h1 j (by rw[vm];(clear g2 z2 z1 hu;omega)))
   rw[cx,cx,ax g1,ax g2] at this
   simpa using this
  ·rintro rfl
   exact⟨λj _=>decide_eq_true rfl,rfl⟩
 rw[val] at key
 exact key
theorem vB:∀{vs:List Value}{xs ys:List Int},IntsAre vs xs->IntsAre vs ys->xs=ys:=by
 intro vs
 induction vs with
 |nil=>intro xs ys h1 h2;cases h1;cases h2;rfl
 |cons v r ih=>
  intro xs ys h1 h2
  cases h1 with
  |cons a t h1=>
   cases h2 with
   |cons _ _ h2=>rw[ih h1 h2]
theorem Az{l:Addr}(hl:IsTup s.heap l items)(hb:IsTup s.heap b i3)(hi:IntsAre items.toList ns)(hj:IntsAre i3.toList ms)(hu:A.units<cLine):
  SeqAt.EqAt A s (.ref l) (.ref b) (decide (ns=ms)):=by
 by_cases LQ:l=b
 ·subst LQ
  obtain⟨o,e1,_,n,e2⟩:=hl
  obtain⟨o2,e3,_,n2,e4⟩:=hb
  rw[e1] at e3
  cases e3
  rw[e2] at e4
  cases e4
  rw[vB hi hj,decide_eq_true rfl]
  exact SeqAt.EqAt.same _
 ·exact SeqAt.EqAt.of_refs LQ (Ci hl hb hi hj hu)
end HT
namespace L2
open PySem PySem.Spec PyProof.Rows
def aGv(K:Frag):R2:=λx y H Q=>∃a b ns ms,x=.ref a/\y=.ref b/\cG K H a (ns.map V.int)/\cG K H b (ms.map V.int)/\Q (.bl (HT.gH ns ms)) H
theorem aB1(hu:X.A.units<cLine):uI X (compareOp .LtE) (aGv X.K):=by
 intro aa s σ H x y v u Q I rx ry h
 obtain⟨a,b,ns,ms,rfl,rfl,ha,hb,q⟩:=h
 cases rx
 cases ry
 obtain⟨its,r1,p1,_⟩:=I.tuple ha
 obtain⟨DB,r2,p2,_⟩:=I.tuple hb
 have i1:IntsAre its.toArray.toList ns:=eK r1
 have i2:IntsAre DB.toArray.toList ms:=eK r2
 exact HT.Jd p1 p2 i1 i2 hu ⟨.bl (HT.gH ns ms),H,I,rfl,q⟩
def aEb(K:Frag):R2:=λx y H Q=>∃a b xs ys,x=.ref a/\y=.ref b/\cG K H a xs/\cG K H b ys/\ys≠[]/\xs.length+ys.length<=sizeLine/\
 ∀p H',(∀c o,H c=some o->H' c=some o)->cG K H' p (xs++ys)->Q (.ref p) H'
theorem Om:uI X (binaryOp .Add) (aEb X.K):=by
 intro aa s σ H x y v u Q I rx ry h
 obtain⟨a,b,xs,ys,rfl,rfl,ha,hb,hy,hz,q⟩:=h
 by_cases hx:xs=[]
 ·subst hx
  cases rx
  cases ry
  obtain⟨its,r1,p1,_⟩:=I.tuple ha
  obtain⟨DB,r2,p2,_⟩:=I.tuple hb
  cases r1
  exact HT.Zn p1 p2 ⟨.ref b,H,I,rfl,q b H (λ_ _ e=>e) hb⟩
 ·refine Ow aa s σ H _ _ v u Q I rx ry ⟨a,b,xs,ys,rfl,rfl,ha,hb,hx,hz,λe=>absurd e hy,λ_ p hp=>?_⟩
  exact q p _ (λc o e=>by rw[aC (aD e hp)];exact e) (cG.of aB)
def pI(K:Frag)(H:Hp)(xs:List V)(aj:List (List Int)):Prop:=Paired (λx ns=>∃p,x=V.ref p/\cG K H p (ns.map V.int)) xs aj
open Classical in
noncomputable def Sa(s:Shared)(ns:List Int)(v:Value):Bool:=decide (∃p its,v=.ref p/\IsTup s.heap p its/\IntsAre its.toList ns)
theorem aBz{p:Addr}{its:Array Value}(h:IsTup s.heap p its)(hi:IntsAre its.toList ms):Sa s ns (.ref p)=decide (ms=ns):=by
 unfold Sa
 rw[JX]
 constructor
 ·rintro⟨p',its',e,h',G'⟩
  cases e
  obtain⟨o,e1,_,n,e2⟩:=h
  obtain⟨o2,e3,_,n2,e4⟩:=h'
  rw[e1] at e3
  cases e3
  rw[e2] at e4
  cases e4
  exact HT.vB hi G'
 ·rintro rfl
  exact⟨p,its,rfl,h,hi⟩
theorem Dr{p:Addr}{its:Array Value}(I:aQ X aa σ H s)(hu:A.units<cLine)(hp:IsTup s.heap p its)(hi:IntsAre its.toList ns):
  ∀{xs:List V}{us:List Value} {aj:List (List Int)},pI X.K H xs aj->bK xs us->(∀u∈us,SeqAt.EqAt A s u (.ref p) (Sa s ns u))/\us.map (Sa s ns)=aj.map λms=>decide (ms=ns)
 |[],_,_,t,v=>by
  cases t
  cases v
  exact⟨(λu h=>by cases h),rfl⟩
 |x::xs,_,_,t,v=>by
  cases t with
  |cons t1 t2=>
   cases v with
   |cons v1 v2=>
    obtain⟨q,rfl,hq⟩:=t1
    cases v1
    obtain⟨itq,rq,pq,_⟩:=I.tuple hq
    have iq:=eK rq
    have e:=aBz (ns:=ns) (its:=itq.toArray) pq (by simpa using iq)
    obtain⟨g1,g2⟩:=Dr I hu hp hi t2 v2
    refine⟨λu h=>?_,?_⟩
    ·rcases ao.mp h with rfl|h
     ·rw[e]
      exact HT.Az pq hp (by simpa using iq) hi hu
     ·exact g1 u h
    ·rw[bn,bn,e,g2]
def aGn(K:Frag)(neg:Bool):R2:=λx y H Q=>∃p a ns xs aj,x=.ref p/\y=.ref a/\cG K H p (ns.map V.int)/\cP K H a xs/\pI K H xs aj/\Q (.bl (if neg then !decide (ns∈aj) else decide (ns∈aj))) H
theorem Ze(h:us.map (Sa s ns)=aj.map λms=>decide (ms=ns)):us.toArray.any (Sa s ns)=decide (ns∈aj):=by
 have h1:us.any (Sa s ns)=(us.map (Sa s ns)).any id:=by rw[B'];rfl
 have h2:us.toArray.any (Sa s ns)=us.any (Sa s ns):=by simp
 rw[h2,h1,h,B',ge,mr,b7]
 constructor
 ·rintro⟨m,hm,e⟩
  have e:decide (m=ns)=true:=e
  rw[<-dw e]
  exact hm
 ·intro hm
  exact⟨ns,hm,show decide (ns=ns)=true from decide_eq_true rfl⟩
theorem Pa(hu:X.A.units+1<cLine):uI X (compareOp .NotIn) (aGn X.K true):=by
 intro aa s σ H x y v u Q I rx ry h
 obtain⟨p,a,ns,xs,aj,rfl,rfl,hp,ha,ht,q⟩:=h
 cases rx
 cases ry
 obtain⟨its,r,pl,hz⟩:=I.list ha
 obtain⟨itp,rp,pp,_⟩:=I.tuple hp
 obtain⟨g1,g2⟩:=Dr (A:=X.A.in1) I hu pp (by simpa using eK rp) ht r
 refine SeqAt.notIn_listAt (Sa s ns) pl.isList (λw hw=>g1 w (by simpa using hw)) ⟨.bl _,H,I,rfl,?_⟩
 rw[Ze g2]
 exact q
def aAt(K:Frag):V->List V->Hp->VK->Prop:=λx ys H Q=>∃(a p:Addr)(xs:List V) (aj:List (List Int)) (ns:List Int) (j:Nat),x=V.ref a/\ys=[V.ref p]/\cP K H a xs/\pI K H xs aj/\cG K H p (ns.map V.int)/\
 aj[j]?=some ns/\(∀m ms,m<j->aj[m]?=some ms->ms≠ns)/\Q (.int (j:Nat)) H
theorem Re(hu:X.A.units+1<cLine):MtR X "list.index" (aAt X.K):=by
 intro aa s σ H x xs v us Q I rx rxs h
 obtain⟨a,p,ys,aj,ns,j,rfl,rfl,hs,ht,hp,hj,cg,q⟩:=h
 cases rx
 obtain⟨uy,rfl,ry⟩:=Bw rxs
 cases ry
 obtain⟨its,rv,⟨⟨cls,dd,data,sl⟩,n,ho,hc,ox,hd⟩,bi⟩:=I.list hs
 simp only at hc hd
 subst hc hd
 obtain⟨itp,rp,pp,_⟩:=I.tuple hp
 obtain⟨g1,g2⟩:=Dr (A:=X.A.in1) I hu pp (by simpa using eK rp) ht rv
 have mh:its.length=aj.length:=by
  have:=congrArg List.length g2
  simpa using this
 have vc:∀m (hm:m<its.length) ms,aj[m]?=some ms->Sa s ns its[m]=decide (ms=ns):=by
  intro m hm ms e
  have:=congrArg (λl:List Bool=>l[m]?) g2
  simp only[bg,e,ax hm,OY] at this
  injection this
 have LR:j<its.length:=by rw[mh];exact(bp.mp hj).1
 have bu:=qz
 have vd:=rv.length
 refine call_meets PySem.F.slot_list_index ⟨_,ho,rfl⟩ PySem.F.entry_list_index (PySem.F.args_list_index_2 _ _)
  (SeqAt.list_indexAt a its.toArray n dd sl (.ref p) (Sa s ns) j (by simpa using LR) (by (clear mh hu;omega)) ?_ ?_) ⟨ho,λu' HA=>g1 u' (by simpa using HA),?_⟩
 ·have e1:its.toArray[j]=its[j]:=by simp
  rw[e1,vc j LR ns hj]
  exact decide_eq_true rfl
 ·intro m hm SL
  have o6:m<its.length:=by simpa using hm
  have e1:its.toArray[m]=its[m]:=by simp
  have LS:m<aj.length:=by rw[<-mh];exact o6
  rw[e1,vc m o6 _ (ax LS)]
  exact jk (cg m _ SL (ax LS))
 ·exact⟨.int (j:Nat),H,I.tok _,⟨_,rfl⟩,q⟩
def aCx(K:Frag):R2:=λx y H Q=>∃(p q:Addr)(ns ms:List Int),x=.ref p/\y=.ref q/\cG K H p (ns.map V.int)/\cG K H q (ms.map V.int)/\Q (.bl (decide (ns=ms))) H
theorem aC7(hu:X.A.units<cLine):uI X (compareOp .Eq) (aCx X.K):=by
 intro aa s σ H x y v u Q I rx ry h
 obtain⟨a,b,ns,ms,rfl,rfl,ha,hb,q⟩:=h
 cases rx
 cases ry
 obtain⟨its,r1,p1,_⟩:=I.tuple ha
 obtain⟨DB,r2,p2,_⟩:=I.tuple hb
 exact HT.Ci p1 p2 (by simpa using eK r1) (by simpa using eK r2) hu _ _ _ _ ⟨.bl _,H,I,rfl,q⟩
theorem iL{aJ:List (List dL×V)}(Pv:Nat->St->Hp->Prop)(h0:Pv 0 σ H)(hl:∀i σ H,i<=aJ.length->Pv i σ H->H d=some (.frz o (.dT aJ)))
  (hs:∀i σ H T k v q,aJ[i]?=some (k,v)->Pv i σ H->H T=none->H q=some (.tup (k.map kV))->g (.ref T) σ (upd H T (.tup [.ref q,v])) λa6 H2=>tb {D with nx:=Pv (i+1),ct:=Pv (i+1),bk:=D.nx} a6 H2) (hd:∀ σ H,Pv aJ.length σ H->D.nx σ H):
  ∃W:Nat->Nat->St->Hp->Prop,(∃m,W 0 m σ H)/\∀i m σ H,W i m σ H->
   ((Ln d o aJ).stop i H/\D.nx σ H)\/((Ln d o aJ).go i H/\∃N:St->Hp->Prop,(∀ah H',N ah H'->∃m',m'<m/\W (i+1) m' ah H')/\∀x H',(Ln d o aJ).yld i H x H'->g x σ H' λa6 H2=>tb {D with nx:=N,ct:=N,bk:=D.nx} a6 H2):=by
 refine⟨λi m σ H=>m=aJ.length - i/\i<=aJ.length/\Pv i σ H,⟨aJ.length,by simp,c7 _,h0⟩,?_⟩
 rintro i m σ H ⟨rfl,hi,p⟩
 have q:=hl i σ H hi p
 by_cases am:i<aJ.length
 ·refine .inr ⟨⟨q,am⟩,Pv (i+1),λah H' p'=>⟨aJ.length - (i+1),by (clear hi;omega),rfl,am,p'⟩,λx H' y=>?_⟩
  obtain⟨T,k,v,a,e1,rfl,e2,e3,rfl⟩:=y
  exact hs i σ H T k v a e1 p e2 e3
 ·have e:i=aJ.length:=by omega
  subst e
  exact .inl ⟨⟨q,ap _⟩,hd σ H p⟩
theorem iK{c:Addr}{u:HO}(h:H c=some u)(s:aK (upd H c (.frz od u)) H'):aK H (upd H' c u):=λb o e=>by
 by_cases hb:b=c
 ·rw[hb] at e ⊢
  rw[aB,<-e,h]
 ·rw[aC hb]
  exact s b o (by rw[aC hb];exact e)
theorem aK.new{o:HO}(h:H q=none):aK H (upd H q o):=λb o' e=>by rw[aC (aD e h)];exact e
theorem aK.id'(H:Hp):aK H H:=λ_ _ e=>e
end L2
namespace Br1
open PySem PySem.Spec PyProof.Rows L2
abbrev Pl:=Int×Int×Int
abbrev CL:=List (Pl×Int)
def aDg(c:Pl×Int):List dL×V:=(eJ c.1.1 c.1.2.1 c.1.2.2,V.int c.2)
def aJ(cs:CL):List (List dL×V):=cs.map aDg
def aZ(cs:CL)(p:Pl):Option Int:=(cs.find? λc=>decide (c.1=p)).map (·.2)
def pT(p:Pl):Pl:=(p.1,p.2.1,p.2.2+1)
def qD(p:Pl):Pl:=(p.1,p.2.1,p.2.2 - 1)
theorem xK{p q:Pl}:eJ p.1 p.2.1 p.2.2=eJ q.1 q.2.1 q.2.2↔p=q:=by
 obtain⟨a,b,c⟩:=p
 obtain⟨x,y,z⟩:=q
 simp[eJ]
theorem lB(p:Pl):∀cs:CL,gB (aJ cs) (eJ p.1 p.2.1 p.2.2)=(aZ cs p).map V.int
 |[]=>rfl
 |c::r=>by
  have ih:=lB p r
  unfold gB aZ aJ at *
  rw[bn,jn,jn]
  by_cases h:c.1=p
  ·have h2:(aDg c).1=eJ p.1 p.2.1 p.2.2:=xK.mpr h
   simp only[h,h2,decide_true,OY]
   rfl
  ·have h2:¬(aDg c).1=eJ p.1 p.2.1 p.2.2:=λz=>h (xK.mp z)
   simp only[h,h2,JY]
   exact ih
variable{cs:CL}
theorem iJ{k:List dL}{v:V}(h:(aJ cs)[i]?=some (k,v)):∃p s,cs[i]?=some (p,s)/\k=eJ p.1 p.2.1 p.2.2/\v=V.int s:=by
 unfold aJ at h
 rw[bg] at h
 obtain⟨⟨p,s⟩,e1,e2⟩:=o9.mp h
 cases e2
 exact⟨p,s,e1,rfl,rfl⟩
theorem Ht{f:α->Bool}{l:List α}{x:α}(h:(l.take i).all f=true)(e:l[i]?=some x)(hx:f x=true):(l.take (i+1)).all f=true:=by
 have hl:=(bp.mp e).1
 rw[jg,e,OZ,h]
 simp[hx]
def nM(cs:CL):Bool:=cs.all λc=> !(fB c.2 && (aZ cs (pT c.1)).isSome)
def oB(cs:CL):Bool:=cs.all λc=> !(dU c.2 && (aZ cs (qD c.1)).isSome)
variable{K:Frag}
def zZ(CP:Addr)(H:Hp)(b:Addr)(nm:Addr)(W D Hh g:Int)(cs:CL):Prop:=∃dx c,H b=some (.ins CP dx (Sf nm W D Hh g c))/\H c=some (.dT (aJ cs))
def Cs(CP:Addr):Sp:=λvs H Q _=>∃(b nm:Addr)(W D Hh g:Int)(cs:CL),vs=[.ref b]/\zZ CP H b nm W D Hh g cs/\∀H',aK H H'->Q (.bl (nM cs)) H'
def Cz(CP:Addr):Sp:=λvs H Q _=>∃(b nm:Addr)(W D Hh g:Int)(cs:CL),vs=[.ref b]/\zZ CP H b nm W D Hh g cs/\∀H',aK H H'->Q (.bl (oB cs)) H'
theorem yH:aN ["part","place","sign"] ["part"] (aG Du):=⟨rfl,rfl,rfl,by decide+kernel,rfl,by decide+kernel,by decide+kernel⟩
theorem zF:aN ["part","place","sign"] ["part"] (aG Dq):=⟨rfl,rfl,rfl,by decide+kernel,rfl,by decide+kernel,by decide+kernel⟩
theorem Hd{c:Addr}{p:Pl}(hc:H c=some (.frz od (.dT (aJ cs))))(hq:H q=some (.tup [.int p.1,.int p.2.1,.int p.2.2])):mP H c (.ref q) ((aZ cs p).map V.int):=
 .inr ⟨aJ cs,eJ p.1 p.2.1 p.2.2,q,.inr ⟨od,hc⟩,rfl,hq,(lB p cs).symm⟩
theorem xS{c:Addr}{p:Pl}(hc:H c=some (.dT (aJ cs)))(hq:H q=some (.tup [.int p.1,.int p.2.1,.int p.2.2])):mP H c (.ref q) ((aZ cs p).map V.int):=
 .inr ⟨aJ cs,eJ p.1 p.2.1 p.2.2,q,.inl hc,rfl,hq,(lB p cs).symm⟩
theorem Ua(F:eZ K "studs_clear" "studs_clear" Du f fd)(T':Rh K CP)(L1:dE P w K mg base "has_stud" bN 1 ["sign"] yQ)(L2:dE P w K mg base "above" bN 1 ["place"] oU):
  bO P w K mg base bN 2 f fd ["part"] (Cs CP):=by
 obtain⟨g1,gc,G1,b1,k1,h1⟩:=L1.ex
 obtain⟨g2,ky,G2,b2,k2,h2⟩:=L2.ex
 refine F.ok yH (λvs H Q E h=>?_) (λak A outer s H vs Q E hr h=>?_)
 ·obtain⟨b,nm,W,D,Hh,g,cs,rfl,_⟩:=h
  rfl
 ·obtain⟨b,nm,W,D,Hh,g,cs,rfl,⟨dx,c,hb,hc⟩,k⟩:=h
  have bj:=hr.mono (j:=1) (by decide)
  have hu:=iQ hr
  refine⟨_,aF (lT (eG jy rfl (kY (aU (pv 0) rfl)) (nG rfl (dI (bE (i:=1) yH.nd rfl (Or.inl rfl)) (dI (bE (i:=2) yH.nd rfl (Or.inl rfl)) jO)))
    (aH (eA (hJ (eQ (aP G1 bj (by rfl) h1 k1 b1 .nil aX (aA (pv 2) aE))) (iE (dS (tZ hu (aP G2 bj (by rfl) h2 k2 b2 .nil aX (aA (pv 1) aE)) (aU (pv 0) rfl))))).pt (aH (aR nO)) bX))))
   (aH (aR nO)),?_⟩
  refine⟨c,_,hc,trivial,λod=>?_⟩
  have xg:b≠c:=λz=>by rw[z,hc] at hb;cases hb
  have ic:upd H c (.frz od (.dT (aJ cs))) c=some (.frz od (.dT (aJ cs))):=aB
  have qr:upd H c (.frz od (.dT (aJ cs))) b=some (.ins CP dx (Sf nm W D Hh g c)):=by rw[aC xg];exact hb
  refine⟨_,rfl,b,CP,dx,_,_,rfl,qr,T'.cl,T'.n6,rfl,c,od,_,rfl,ic,?_⟩
  refine iL (λi σ H'=>∃v1 v2,σ=[some (.ref b),v1,v2]/\aK (upd H c (.frz od (.dT (aJ cs)))) H'/\(cs.take i).all (λc=> !(fB c.2 && (aZ cs (pT c.1)).isSome))=true) ⟨none,none,rfl,aK.id' _,rfl⟩ ?_ ?_ ?_
  ·rintro i σ H1 hi ⟨v1,v2,rfl,S1,_⟩
   exact S1 _ _ ic
  ·rintro i σ H1 T k v q e ⟨v1,v2,rfl,S1,al⟩ hT hq
   obtain⟨p,sg,e1,rfl,rfl⟩:=iJ e
   have ST:=aK.new (o:=.tup [.ref q,.int sg]) hT
   have S2:aK (upd H c (.frz od (.dT (aJ cs)))) (upd H1 T (.tup [.ref q,.int sg])):=S1.trans ST
   refine⟨T,_,rfl,cG.of aB,rfl,_,_,rfl,_,_,rfl,rfl,?_⟩
   have step:(!(fB sg && (aZ cs (pT p)).isSome))=true->(cs.take (i+1)).all (λc=> !(fB c.2 && (aZ cs (pT c.1)).isSome))=true:=λz=>Ht al e1 z
   refine⟨_,rfl,sg,rfl,_,rfl,bZ (λhs=>?_) (λhs=>vI ⟨_,_,rfl,S2,step (by rw[cD hs];rfl)⟩)⟩
   refine⟨_,rfl,q,p.1,p.2.1,p.2.2,rfl,ST _ _ hq,λq2 f9=>?_⟩
   have SQ:=aK.new (o:=.tup [.int p.1,.int p.2.1,.int (p.2.2+1)]) f9
   have S3:=S2.trans SQ
   refine⟨_,rfl,b,CP,dx,_,_,rfl,S3 _ _ qr,T'.cl,T'.n6,rfl,c,_,rfl,Hd (p:=pT p) (S3 _ _ ic) aB,_,rfl,bZ (λhi=>?_) (λhi=>?_)⟩
   ·refine⟨S3 _ _ ic,?_⟩
    have z:=k _ (iK hc S3)
    have e3:nM cs=false:=by
     unfold nM
     rw[FH]
     intro z
     have:=jw.mp z _ (fj e1)
     rw[j9] at hi
     rw[hs,hi] at this
     cases this
    rw[e3] at z
    exact z
   ·refine⟨_,_,rfl,S3,step ?_⟩
    rw[j9] at hi
    rw[cD hi,yk]
    rfl
  ·rintro σ H1 ⟨v1,v2,rfl,S1,al⟩
   refine⟨S1 _ _ ic,?_⟩
   have z:=k _ (iK hc S1)
   have e3:nM cs=true:=by
    unfold nM
    have hl:(aJ cs).length=cs.length:=by unfold aJ;rw[ai]
    rw[hl,jo] at al
    exact al
   rw[e3] at z
   exact z
theorem Ud(F:eZ K "tubes_clear" "tubes_clear" Dq f fd)(T':Rh K CP)(L1:dE P w K mg base "has_tube" bN 1 ["sign"] wT)(L2:dE P w K mg base "below" bN 1 ["place"] oF):
  bO P w K mg base bN 2 f fd ["part"] (Cz CP):=by
 obtain⟨g1,gc,G1,b1,k1,h1⟩:=L1.ex
 obtain⟨g2,ky,G2,b2,k2,h2⟩:=L2.ex
 refine F.ok zF (λvs H Q E h=>?_) (λak A outer s H vs Q E hr h=>?_)
 ·obtain⟨b,nm,W,D,Hh,g,cs,rfl,_⟩:=h
  rfl
 ·obtain⟨b,nm,W,D,Hh,g,cs,rfl,⟨dx,c,hb,hc⟩,k⟩:=h
  have bj:=hr.mono (j:=1) (by decide)
  have hu:=iQ hr
  refine⟨_,aF (lT (eG jy rfl (kY (aU (pv 0) rfl)) (nG rfl (dI (bE (i:=1) zF.nd rfl (Or.inl rfl)) (dI (bE (i:=2) zF.nd rfl (Or.inl rfl)) jO)))
    (aH (eA (hJ (eQ (aP G1 bj (by rfl) h1 k1 b1 .nil aX (aA (pv 2) aE))) (iE (dS (tZ hu (aP G2 bj (by rfl) h2 k2 b2 .nil aX (aA (pv 1) aE)) (aU (pv 0) rfl))))).pt (aH (aR nO)) bX))))
   (aH (aR nO)),?_⟩
  refine⟨c,_,hc,trivial,λod=>?_⟩
  have xg:b≠c:=λz=>by rw[z,hc] at hb;cases hb
  have ic:upd H c (.frz od (.dT (aJ cs))) c=some (.frz od (.dT (aJ cs))):=aB
  have qr:upd H c (.frz od (.dT (aJ cs))) b=some (.ins CP dx (Sf nm W D Hh g c)):=by rw[aC xg];exact hb
  refine⟨_,rfl,b,CP,dx,_,_,rfl,qr,T'.cl,T'.n6,rfl,c,od,_,rfl,ic,?_⟩
  refine iL (λi σ H'=>∃v1 v2,σ=[some (.ref b),v1,v2]/\aK (upd H c (.frz od (.dT (aJ cs)))) H'/\(cs.take i).all (λc=> !(dU c.2 && (aZ cs (qD c.1)).isSome))=true) ⟨none,none,rfl,aK.id' _,rfl⟩ ?_ ?_ ?_
  ·rintro i σ H1 hi ⟨v1,v2,rfl,S1,_⟩
   exact S1 _ _ ic
  ·rintro i σ H1 T k v q e ⟨v1,v2,rfl,S1,al⟩ hT hq
   obtain⟨p,sg,e1,rfl,rfl⟩:=iJ e
   have ST:=aK.new (o:=.tup [.ref q,.int sg]) hT
   have S2:aK (upd H c (.frz od (.dT (aJ cs)))) (upd H1 T (.tup [.ref q,.int sg])):=S1.trans ST
   refine⟨T,_,rfl,cG.of aB,rfl,_,_,rfl,_,_,rfl,rfl,?_⟩
   have step:(!(dU sg && (aZ cs (qD p)).isSome))=true->(cs.take (i+1)).all (λc=> !(dU c.2 && (aZ cs (qD c.1)).isSome))=true:=λz=>Ht al e1 z
   refine⟨_,rfl,sg,rfl,_,rfl,bZ (λhs=>?_) (λhs=>vI ⟨_,_,rfl,S2,step (by rw[cD hs];rfl)⟩)⟩
   refine⟨_,rfl,q,p.1,p.2.1,p.2.2,rfl,ST _ _ hq,λq2 f9=>?_⟩
   have SQ:=aK.new (o:=.tup [.int p.1,.int p.2.1,.int (p.2.2 - 1)]) f9
   have S3:=S2.trans SQ
   refine⟨_,rfl,b,CP,dx,_,_,rfl,S3 _ _ qr,T'.cl,T'.n6,rfl,c,_,rfl,Hd (p:=qD p) (S3 _ _ ic) aB,_,rfl,bZ (λhi=>?_) (λhi=>?_)⟩
   ·refine⟨S3 _ _ ic,?_⟩
    have z:=k _ (iK hc S3)
    have e3:oB cs=false:=by
     unfold oB
     rw[FH]
     intro z
     have:=jw.mp z _ (fj e1)
     rw[j9] at hi
     rw[hs,hi] at this
     cases this
    rw[e3] at z
    exact z
   ·refine⟨_,_,rfl,S3,step ?_⟩
    rw[j9] at hi
    rw[cD hi,yk]
    rfl
  ·rintro σ H1 ⟨v1,v2,rfl,S1,al⟩
   refine⟨S1 _ _ ic,?_⟩
   have z:=k _ (iK hc S1)
   have e3:oB cs=true:=by
    unfold oB
    have hl:(aJ cs).length=cs.length:=by unfold aJ;rw[ai]
    rw[hl,jo] at al
    exact al
   rw[e3] at z
   exact z
end Br1
variable{zs:List (Br.Shape×Br1.CL)}{cs sg ow:Br1.CL}
namespace L2
open PySem PySem.Spec PyProof.Rows
theorem Fs{aJ:List (List dL×V)}{tt:TT}{vs:List Nat}{D:Addr}(Pv:Nat->Hp->Prop)(h0:Pv 0 (upd H1 D (.lst [])))(hl:∀i H,i<=aJ.length->Pv i H->H d=some (.frz o (.dT aJ)))
  (hs:∀i k v q H,aJ[i]?=some (k,v)->Pv i H->H q=some (.tup (k.map kV))->g (.ref q) (gF σ vs) H λa6 H2=>gF a6 vs=gF σ vs/\tt a6 H2 λb H3=>
   if b=true then te a6 H3 λy H4=>∃acc,H4 D=some (.lst acc)/\acc.length<sizeLine/\Pv (i+1) (upd H4 D (.lst (acc++[y]))) else Pv (i+1) H3) (hd:∀H,Pv aJ.length H->Qd H):
  ∃W:Nat->Nat->Hp->Prop,(∃m,W 0 m (upd H1 D (.lst [])))/\∀i m H,W i m H->
   ((Ue d o aJ).stop i H/\Qd H)\/((Ue d o aJ).go i H/\∃Nx:Hp->Prop,(∀H',Nx H'->∃m',m'<m/\W (i+1) m' H')/\∀x H',(Ue d o aJ).yld i H x H'->g x (gF σ vs) H' λa6 H2=>gF a6 vs=gF σ vs/\tt a6 H2 λb H3=>
    if b=true then te a6 H3 λy H4=>∃acc,H4 D=some (.lst acc)/\acc.length<sizeLine/\Nx (upd H4 D (.lst (acc++[y]))) else Nx H3):=by
 refine⟨λi m H=>m=aJ.length - i/\i<=aJ.length/\Pv i H,⟨aJ.length,by simp,c7 _,h0⟩,?_⟩
 rintro i m H ⟨rfl,hi,p⟩
 have q:=hl i H hi p
 by_cases am:i<aJ.length
 ·refine .inr ⟨⟨q,am⟩,Pv (i+1),λH' p'=>⟨aJ.length - (i+1),by (clear hi;omega),rfl,am,p'⟩,λx H' y=>?_⟩
  obtain⟨e,k,v,a,e1,rfl,e2⟩:=y
  subst e
  exact hs i k v a _ e1 p e2
 ·have e:i=aJ.length:=by omega
  subst e
  exact .inl ⟨⟨q,ap _⟩,hd H p⟩
variable{K:Frag}
theorem Rk(Pv:Nat->St->Hp->Prop)(h0:Pv 0 σ H)(hl:∀i σ H,i<=xs.length->Pv i σ H->cG K H a xs)
  (hs:∀i x σ H T,xs[i]?=some x->Pv i σ H->H T=none->g (.ref T) σ (upd H T (.tup [.int (i:Nat),x])) λa6 H2=>tb {D with nx:=Pv (i+1),ct:=Pv (i+1),bk:=D.nx} a6 H2) (hd:∀ σ H,Pv xs.length σ H->D.nx σ H):
  ∃W:Nat->Nat->St->Hp->Prop,(∃m,W 0 m σ H)/\∀i m σ H,W i m σ H->
   ((Tv K a).stop i H/\D.nx σ H)\/((Tv K a).go i H/\∃N:St->Hp->Prop,(∀ah H',N ah H'->∃m',m'<m/\W (i+1) m' ah H')/\∀x H',(Tv K a).yld i H x H'->g x σ H' λa6 H2=>tb {D with nx:=N,ct:=N,bk:=D.nx} a6 H2):=by
 refine⟨λi m σ H=>m=xs.length - i/\i<=xs.length/\Pv i σ H,⟨xs.length,by simp,c7 _,h0⟩,?_⟩
 rintro i m σ H ⟨rfl,hi,p⟩
 have q:=hl i σ H hi p
 by_cases am:i<xs.length
 ·refine .inr ⟨⟨xs,xs[i],q,by simp[am]⟩,Pv (i+1),λah H' p'=>⟨xs.length - (i+1),by (clear hi;omega),rfl,am,p'⟩,λx H' y=>?_⟩
  obtain⟨T,x',rfl,hT,rfl,y⟩:=y
  exact hs i x' σ H T (y xs q) p hT
 ·have e:i=xs.length:=by omega
  subst e
  exact .inl ⟨⟨xs,q,rfl⟩,hd σ H p⟩
end L2
namespace Br1
open PySem PySem.Spec PyProof.Rows L2
def coP(p:Pl):Nat->Int
 |0=>p.1
 |1=>p.2.1
 |_=>p.2.2
def fO(cs:CL)(a:Nat):List Int:=cs.map λc=>coP c.1 a
def fF(cs:CL)(a:Nat)(n:Int):Bool:=decide ((0:Int)∈fO cs a) && decide (n - 1∈fO cs a)
def mZ(cs:CL)(W D Hh:Int):Bool:=fF cs 0 W && fF cs 1 D && fF cs 2 Hh
variable{K:Frag}
def Eb(CP:Addr):Sp:=λvs H Q _=>∃(b nm:Addr)(W D Hh g:Int)(cs:CL),vs=[.ref b]/\zZ CP H b nm W D Hh g cs/\cs.length<20000/\∀H',aK H H'->Q (.bl (mZ cs W D Hh)) H'
theorem kZ:aN ["part","sizes","axis","size","reached","place"] ["part"] (aG yF):=⟨rfl,rfl,rfl,by decide+kernel,rfl,by decide+kernel,by decide+kernel⟩
theorem Tt(F:eZ K "fills_its_box" "fills_its_box" yF f fd)(T':Rh K CP)(HB:mg "enumerate"=none):
  bO P w K mg base bN 2 f fd ["part"] (Eb CP):=by
 refine F.ok kZ (λvs H Q E h=>?_) (λak A outer s H vs Q E hr h=>?_)
 ·obtain⟨b,nm,W,D,Hh,g,cs,rfl,_⟩:=h
  rfl
 ·obtain⟨b,nm,W,D,Hh,g,cs,rfl,⟨dx,c,hb,hc⟩,hl,k⟩:=h
  refine⟨_,aF (bF (i:=1) kZ.nd rfl (Or.inl rfl) (dO (aA (aU (pv 0) rfl) (aA (aU (pv 0) rfl) (aA (aU (pv 0) rfl) aE)))))
   (aF (eG jy rfl (Vf rfl HB (aA (pv 1) aE)) (nG rfl (dI (bE (i:=2) kZ.nd rfl (by first|exact Or.inl rfl|exact Or.inr rfl)) (dI (bE (i:=3) kZ.nd rfl (Or.inl rfl)) jO)))
    (aF (lT (rK (i:=4) (te:=vG (gD K) (cU 5) (cU 2)) (own:=[("place",5)]) rfl kZ.nd rfl rfl rfl (Mu (aU (pv 0) rfl)) (eN (N:=["part","sizes","axis","size","reached","place"]) (sc:=aG yF) (by decide+kernel))
      (λ_ _ _ _ _=>bE (i:=5) kZ.nd rfl (Or.inl rfl)) (λ_ _ _ _ _=>fY) (λ_ _ _ _ _=>bH (r:=gD K) aW (pv 5) (pv 2) (λ_ _=>rfl))))
     (aH (eA (Nb (fM lH aI (pv 4) rfl) (Co (fM lH (bY eE (pv 3) aI) (pv 4) rfl))).pt (aH (aR nO)) bX))))
   (aH (aR nO))),?_⟩
  refine⟨_,rfl,b,CP,dx,_,_,rfl,hb,T'.cl,T'.n2,rfl,_,rfl,b,CP,dx,_,_,rfl,hb,T'.cl,T'.n3,rfl,_,rfl,b,CP,dx,_,_,rfl,hb,T'.cl,T'.n4,rfl,(by show 3<=sizeLine;decide),λq hq=>?_⟩
  have S0:=aK.new (o:=.tup [.int W,.int D,.int Hh]) hq
  have SM:cG K (upd H q (.tup [.int W,.int D,.int Hh])) q [.int W,.int D,.int Hh]:=cG.of aB
  have A7:upd H q (.tup [.int W,.int D,.int Hh]) q=some (.tup [.int W,.int D,.int Hh]):=aB
  refine⟨_,rfl,q,_,rfl,SM,?_⟩
  refine Rk (xs:=[.int W,.int D,.int Hh]) (λi σ H'=>∃v2 v3 v4 v5,σ=[some (.ref b),some (.ref q),v2,v3,v4,v5]/\aK (upd H q (.tup [.int W,.int D,.int Hh])) H'/\∀j,j<i->fF cs j ([W,D,Hh].getD j 0)=true) ⟨none,none,none,none,rfl,aK.id' _,λj hj=>absurd hj (ue _)⟩ ?_ ?_ ?_
  ·rintro i σ H1 hi ⟨v2,v3,v4,v5,rfl,S1,_⟩
   exact cG.of (S1 _ _ A7)
  ·rintro i x σ H1 T ex ⟨v2,v3,v4,v5,rfl,S1,al⟩ hT
   have hi:i<3:=(bp.mp ex).1
   obtain⟨n,rfl,en⟩:∃n:Int,x=.int n/\[W,D,Hh].getD i 0=n:=by
    match i,hi,ex with
    |0,_,ex=>cases ex;exact⟨_,rfl,rfl⟩
    |1,_,ex=>cases ex;exact⟨_,rfl,rfl⟩
    |2,_,ex=>cases ex;exact⟨_,rfl,rfl⟩
   have ST:=aK.new (o:=.tup [.int (i:Nat),.int n]) hT
   have S2:=(S0.trans S1).trans ST
   refine⟨T,_,rfl,cG.of aB,rfl,_,_,rfl,_,_,rfl,rfl,?_⟩
   have j0:=S2 _ _ hb
   have dk:=S2 _ _ hc
   have mi:=S1.trans ST
   generalize upd H1 T (.tup [.int (i:Nat),.int n])=H2 at j0 dk S2 mi
   have xg:b≠c:=λz=>by rw[z,dk] at j0;cases j0
   refine⟨c,_,dk,trivial,λod=>?_⟩
   have ic:upd H2 c (.frz od (.dT (aJ cs))) c=some (.frz od (.dT (aJ cs))):=aB
   have qr:upd H2 c (.frz od (.dT (aJ cs))) b=some (.ins CP dx (Sf nm W D Hh g c)):=by rw[aC xg];exact j0
   refine⟨_,rfl,b,CP,dx,_,_,rfl,qr,T'.cl,T'.n6,rfl,c,od,rfl,.inr ⟨aJ cs,ic,λDl c6=>?_⟩⟩
   refine Fs (λj H'=>aK (upd H2 c (.frz od (.dT (aJ cs)))) H'/\H' Dl=some (.lst ((fO (cs.take j) i).map V.int))) ⟨aK.new c6,aB⟩ (λj H' _ p=>p.1 _ _ ic) ?_ ?_
   ·rintro j kk vv q2 H3 e3 ⟨S3,nk⟩ f9
    obtain⟨p,sg,e4,rfl,rfl⟩:=iJ e3
    have hj:j<cs.length:=(bp.mp e4).1
    refine⟨rfl,⟨_,rfl,_,rfl,q2,_,(i:Int),.int (coP p i),rfl,rfl,cG.of f9,?_,_,nk,?_,?_⟩⟩
    ·match i,hi with
     |0,_=>rfl
     |1,_=>rfl
     |2,_=>rfl
    ·rw[ai]
     unfold fO
     rw[ai,gf]
     have:=bA
     (clear hj en hi;omega)
    ·refine⟨λb' o e=>?_,?_⟩
     ·rw[aC (aD e c6)]
      exact S3 _ _ e
     ·rw[aB]
      unfold fO
      rw[jg,e4]
      simp
   ·rintro H3 ⟨S3,nk⟩
    have i4:(aJ cs).length=cs.length:=by unfold aJ;rw[ai]
    rw[i4,jo] at nk
    refine⟨S3 _ _ ic,?_⟩
    have S4:=iK dk S3
    have nDc:Dl≠c:=λz=>by rw[z,ic] at c6;cases c6
    have sk:upd H3 c (.dT (aJ cs)) Dl=some (.lst ((fO cs i).map V.int)):=by rw[aC nDc];exact nk
    generalize upd H3 c (.dT (aJ cs))=H4 at S4 sk
    have S5:=mi.trans S4
    have fal:fF cs i n=false->mZ cs W D Hh=false:=by
     intro z
     unfold mZ
     rw[<-en] at z
     match i,hi,z with
     |0,_,z=>rw[show fF cs 0 W=false from z];rfl
     |1,_,z=>rw[show fF cs 1 D=false from z,yk];rfl
     |2,_,z=>rw[show fF cs 2 Hh=false from z,yk]
    have fin:fF cs i n=false->Q (.bl false) H4:=λz=>by
     have kk:=k H4 (S0.trans S5)
     rw[fal z] at kk
     exact kk
    have LU:((fO cs i).map V.int).all pR=true:=jw.mpr λx hx=>by
     obtain⟨y,_,rfl⟩:=a8.mp hx
     rfl
    refine⟨_,rfl,Dl,_,rfl,.inl (cP.of sk),rfl,LU,_,rfl,bZ (λh0=>Wd ?_) (λh0=>?_)⟩
    ·have h0:(!Kr (.int 0) ((fO cs i).map V.int))=true:=h0
     rw[iT,cq] at h0
     exact fin (by unfold fF;rw[h0];rfl)
    ·have h0:¬(!Kr (.int 0) ((fO cs i).map V.int))=true:=h0
     rw[iT,cq,yc] at h0
     refine⟨_,rfl,_,_,rfl,rfl,_,rfl,Dl,_,rfl,.inl (cP.of sk),rfl,LU,_,rfl,bZ (λh1=>?_) (λh1=>?_)⟩
     ·have h1:(!Kr (.int (n - 1)) ((fO cs i).map V.int))=true:=h1
      rw[iT,cq] at h1
      exact fin (by unfold fF;rw[h1,yk])
     ·have h1:¬(!Kr (.int (n - 1)) ((fO cs i).map V.int))=true:=h1
      rw[iT,cq,yc] at h1
      refine⟨_,_,_,_,rfl,S5,λj hj=>?_⟩
      by_cases HC:j=i
      ·rw[HC,en]
       unfold fF
       rw[h0,h1]
       rfl
      ·exact al j (by (clear i4 en hi hl;omega))
  ·rintro σ H1 ⟨v2,v3,v4,v5,rfl,S1,al⟩
   have kk:=k H1 (S0.trans S1)
   have e:mZ cs W D Hh=true:=by
    unfold mZ
    rw[show fF cs 0 W=true from al 0 (by show 0<3;decide),show fF cs 1 D=true from al 1 (by show 1<3;decide),show fF cs 2 Hh=true from al 2 (by show 2<3;decide)]
    rfl
   rw[e] at kk
   exact kk
end Br1
namespace L2
open PySem PySem.Spec PyProof.Rows
def aDx(tk tv:TE):TE:=fun σ H Q=>∀p,H p=none->tk σ (upd H p (.dT [])) λx H1=>tv σ H1 λy H2=>H2 p=some (.dT [])/\∃(b:Addr)(ks:List dL),x=.ref b/\H2 b=some (.tup (ks.map kV))/\Q (.ref p) (upd H2 p (.dT [(ks,y)]))
theorem aD8{v:V}{r:Value}{ks:List dL}{Q:Unit->Shared->Prop}(hu:A.units+1<cLine)(I:aQ X aa σ H s)(e:H a=some (.dT []))(eb:H b=some (.tup (ks.map kV)))(rv:cB v r)
  (h:∀s',aQ X aa σ (upd H a (.dT [(ks,v)])) s'->Q () s'):wpAny (model X.prog X.w) A (dictSet a (.ref b) r) Q E s:=by
 obtain⟨z,hd,xs,rel,dd⟩:=Me I.hok e
 have hz:xs.length<=sizeLine:=by rw[<-Paired.length rel];exact z
 refine wpAny_dictSet_heap (hsz:=hz) (AM hu) (tQ I.hok eb) dd λh' zc hs=>h _ ?_
 obtain⟨q,es,ep,hq,h2,h3,h4,_,h5⟩:=zc
 have hl:(jU ([]:List (List dL×V)) ks v).length<=sizeLine:=by show 1<=sizeLine;decide
 refine Dc I (by rw[e];exact True.intro) hs ⟨q,hq⟩ ⟨hl,hd,_,(rel.put ks eb rv).keeps λc ys ec=>?_,q,es,ep,hq,h2,h3,h4,h5⟩
 rw[aC (aBq ec e (λz=>nomatch z))]
 exact ec
theorem Vb{k v:Expr}{tk:TE}(hu:X.A.units+1<cLine)(hk:PE X k tk)(hv:PE X v tv):PE X (.Dict [some k] [v] pos) (aDx tk tv):=by
 intro aa s σ H Q I q
 have hn:=I.hok.fresh (ap s.heap.objs.size)
 have I1:=I.laid (a:=s.heap.objs.size) (o:=.dT []) (h':=s.heap.push {cls:=.type "dict",data:=.dict #[]}) (t':=s.toks) (λ_ _ q=>bh _ q) (ap _) (Is s.heap I.big)
 rw[arm_eval_Dict,zip_pairTrees [some k] [v] X.env pos rfl rfl,dictDisplay_pairs (pairTrees [some k] [v] X.env pos) (by intro z;cases z) (by show 1<17;decide)]
 refine ac (CC (ac ?_))
 unfold subDict
 refine ac (wpAny_alloc (ac (j8 ?_)))
 rw[af (show (pairTrees [some k] [v] X.env pos).length<=15 by show 1<=15;decide)]
 refine ac (pairTrees_cons_walk (cV (hk aa _ σ _ _ I1 (q _ hn)) λu s1 ⟨x,H1,I2,rx,q1⟩=>cV (hv aa s1 σ H1 _ I2 q1) λw2 s2 ⟨y,H2,I3,ry,q2⟩=>pairTrees_nil_walk ?_))
 obtain⟨e,b,ks,rfl,eb,q2⟩:=q2
 cases (show u=Value.ref b from rx)
 refine j8 ?_
 rw[OF]
 refine ac (ac (ac (aD8 hu I3 e eb ry λs3 I4=>ag ?_)))
 show wpAny _ _ (forIn [] _ _) _ _ s3
 rw[JN]
 exact ag (ag (ag (ag ⟨.ref s.heap.objs.size,_,I4,rfl,q2⟩)))
end L2
namespace Br1
open PySem PySem.Spec PyProof.Rows L2
def Ch(p:Pl):List Pl:=[(p.1 - 1,p.2.1,p.2.2),(p.1+1,p.2.1,p.2.2),(p.1,p.2.1 - 1,p.2.2),(p.1,p.2.1+1,p.2.2),pT p,qD p]
def Xh(p:Pl):List V:=[.int p.1,.int p.2.1,.int p.2.2]
def jD(H:Hp)(qs:List Addr)(ps:List Pl):Prop:=Paired (λq p=>H q=some (.tup (Xh p))) qs ps
theorem jD.same{ps:List Pl}(h:jD H qs ps)(s:aK H H'):jD H' qs ps:=Paired.mapP h λ_ _ e=>s _ _ e
variable{K:Frag}
def Ds:Sp:=λvs H Q _=>∃(g:Addr)(p:Pl),vs=[.ref g]/\H g=some (.tup (Xh p))/\∀(H':Hp)(l:Addr)(qs:List Addr),aK H H'->H l=none->H' l=some (.lst (qs.map V.ref))->jD H' qs (Ch p)->Q (.ref l) H'
theorem rO:aN ["place","x","y","z"] ["place"] (aG En):=⟨rfl,rfl,rfl,by decide+kernel,rfl,by decide+kernel,by decide+kernel⟩
theorem Sq(F:eZ K "neighbours" "neighbours" En f fd)(L1:dE P w K mg base "above" bN 1 ["place"] oU)(L2:dE P w K mg base "below" bN 1 ["place"] oF):
  bO P w K mg base bN 2 f fd ["place"] Ds:=by
 obtain⟨g1,gc,G1,b1,k1,h1⟩:=L1.ex
 obtain⟨g2,ky,G2,b2,k2,h2⟩:=L2.ex
 refine F.ok rO (λvs H Q E h=>?_) (λak A outer s H vs Q E hr h=>?_)
 ·obtain⟨g,p,rfl,_⟩:=h
  rfl
 ·obtain⟨g,p,rfl,hg,k⟩:=h
  have bj:=hr.mono (j:=1) (by decide)
  refine⟨_,aF (bF (i:=1) rO.nd rfl (Or.inl rfl) (bH aW (pv 0) aI (λ_ _=>rfl)))
   (aF (bF (i:=2) rO.nd rfl (Or.inl rfl) (bH aW (pv 0) aI (λ_ _=>rfl)))
   (aF (bF (i:=3) rO.nd rfl (Or.inl rfl) (bH aW (pv 0) aI (λ_ _=>rfl)))
   (aH (aR (eD (aA (dO (aA (bY eE (pv 1) aI) (aA (pv 2) (aA (pv 3) aE)))) (aA (dO (aA (bY eP (pv 1) aI) (aA (pv 2) (aA (pv 3) aE))))
    (aA (dO (aA (pv 1) (aA (bY eE (pv 2) aI) (aA (pv 3) aE)))) (aA (dO (aA (pv 1) (aA (bY eP (pv 2) aI) (aA (pv 3) aE))))
    (aA (aP G1 bj (by rfl) h1 k1 b1 .nil aX (aA (pv 0) aE)) (aA (aP G2 bj (by rfl) h2 k2 b2 .nil aX (aA (pv 0) aE)) aE))))))))))),?_⟩
  refine⟨_,rfl,g,_,_,_,rfl,rfl,cG.of hg,rfl,?_⟩
  refine⟨_,rfl,g,_,_,_,rfl,rfl,cG.of hg,rfl,?_⟩
  refine⟨_,rfl,g,_,_,_,rfl,rfl,cG.of hg,rfl,?_⟩
  have sz:∀a b c:V,[a,b,c].length<=sizeLine:=λ_ _ _=>by show 3<=sizeLine;decide
  refine⟨_,rfl,_,_,rfl,rfl,_,rfl,_,rfl,sz _ _ _,λq1 n1=>?_⟩
  refine⟨_,rfl,_,_,rfl,rfl,_,rfl,_,rfl,sz _ _ _,λq2 n2=>?_⟩
  refine⟨_,rfl,_,rfl,_,_,rfl,rfl,_,rfl,sz _ _ _,λq3 n3=>?_⟩
  refine⟨_,rfl,_,rfl,_,_,rfl,rfl,_,rfl,sz _ _ _,λq4 n4=>?_⟩
  have S1:=aK.new (o:=.tup (Xh (p.1 - 1,p.2.1,p.2.2))) n1
  have S2:=aK.new (o:=.tup (Xh (p.1+1,p.2.1,p.2.2))) n2
  have S3:=aK.new (o:=.tup (Xh (p.1,p.2.1 - 1,p.2.2))) n3
  have S4:=aK.new (o:=.tup (Xh (p.1,p.2.1+1,p.2.2))) n4
  have LV:=S4 _ _ (S3 _ _ (S2 _ _ (S1 _ _ hg)))
  refine⟨_,rfl,g,p.1,p.2.1,p.2.2,rfl,LV,λq5 n5=>?_⟩
  have S5:=aK.new (o:=.tup (Xh (pT p))) n5
  refine⟨_,rfl,g,p.1,p.2.1,p.2.2,rfl,S5 _ _ LV,λq6 n6=>?_⟩
  have S6:=aK.new (o:=.tup (Xh (qD p))) n6
  refine⟨by show 6<=sizeLine;decide,λl nl=>?_⟩
  have S7:=aK.new (o:=.lst [V.ref q1,V.ref q2,V.ref q3,V.ref q4,V.ref q5,V.ref q6]) nl
  have SB:=(((((S1.trans S2).trans S3).trans S4).trans S5).trans S6)
  refine k _ l [q1,q2,q3,q4,q5,q6] (SB.trans S7) (SB.free nl) aB ?_
  ·refine .cons ?_ (.cons ?_ (.cons ?_ (.cons ?_ (.cons ?_ (.cons ?_ .nil)))))
   ·exact(((((S2.trans S3).trans S4).trans S5).trans S6).trans S7) _ _ aB
   ·exact((((S3.trans S4).trans S5).trans S6).trans S7) _ _ aB
   ·exact(((S4.trans S5).trans S6).trans S7) _ _ aB
   ·exact((S5.trans S6).trans S7) _ _ aB
   ·exact(S6.trans S7) _ _ aB
   ·exact S7 _ _ aB
def jE:List (List Int)->Bool
 |a::b::r=> !HT.gH b a && jE (b::r)
 |_=>true
def aAq(CP:Addr)(H:Hp)(b:Addr)(nm:List Int):Prop:=∃dx q W D Hh g c,H b=some (.ins CP dx (Sf q W D Hh g c))/\H q=some (.tup (nm.map V.int))
def Je(K:Frag)(CP:Addr):Sp:=λvs H Q _=>∃(a:Addr)(bs:List Addr) (i5:List (List Int)),vs=[.ref a]/\cP K H a (bs.map V.ref)/\Paired (aAq CP H) bs i5/\1<=i5.length/\i5.length<=64/\Q (.bl (jE i5)) H
theorem Oi:aN ["parts","k"] ["parts"] (aG Mp):=⟨rfl,rfl,rfl,by decide+kernel,rfl,by decide+kernel,by decide+kernel⟩
theorem tJ:∀{l:List (List Int)},jE l=true↔∀i a b,l[i]?=some a->l[i+1]?=some b->HT.gH b a=false
 |[]=>by simp[jE]
 |[x]=>by simp[jE]
 |x::y::r=>by
  have ih:=tJ (l:=y::r)
  rw[jE,cn,ih,cq]
  constructor
  ·rintro⟨h1,h2⟩ i a b ea eb
   cases i with
   |zero=>
    cases ea
    cases eb
    exact h1
   |succ i=>exact h2 i a b ea eb
  ·intro h
   exact⟨h 0 x y rfl rfl,λi a b ea eb=>h (i+1) a b ea eb⟩
theorem bT{R:α->β->Prop}:∀{as:List α}{bs:List β},Paired R as bs->∀{i:Nat}{b:β},bs[i]?=some b->∃a,as[i]?=some a/\R a b
 |_,_,.nil,i,b,h=>by simp at h
 |_,_,.cons r t,i,b,h=>by
  cases i with
  |zero=>cases h;exact⟨_,rfl,r⟩
  |succ i=>exact bT t h
theorem Za(F:eZ K "names_grow" "names_grow" Mp f fd)(T':Rh K CP)(o4:mg "range"=none)(bi:mg "len"=none):bO P w K mg base bN 2 f fd ["parts"] (Je K CP):=by
 refine F.ok Oi (λvs H Q E h=>?_) (λak A outer s H vs Q E hr h=>?_)
 ·obtain⟨a,bs,i5,rfl,_⟩:=h
  rfl
 ·obtain⟨a,bs,i5,rfl,ha,hp,o7,hn,k⟩:=h
  have hu:=iQ hr
  refine⟨_,aF (eG jy rfl (Pe rfl o4 (aA aI (aA (bS bW (by rfl) bi boot_len (aA (pv 0) aE)) aE))) (bE (i:=1) Oi.nd rfl (Or.inl rfl))
    (aH (eA (fM (aB1 (AM hu)) (aU (bH jM (pv 0) (pv 1) (λ_ _=>rfl)) rfl) (aU (bH jM (pv 0) (bY eE (pv 1) aI) (λ_ _=>rfl)) rfl) (gX _)) (aH (aR nO)) bX)))
   (aH (aR nO)),?_⟩
  have jc:bs.length=i5.length:=Paired.length hp
  have bu:=bA
  have vc:∀(i:Nat)(nm:List Int),i5[i]?=some nm->∃b,Ps (bs.map V.ref) (i:Int)=some (.ref b)/\aAq CP H b nm:=λi nm e=>by
   obtain⟨b,e1,e2⟩:=bT hp e
   exact⟨b,jF (by rw[bg,e1];rfl),e2⟩
  have o6:(bs.map V.ref).length=i5.length:=by rw[ai,jc]
  refine⟨_,rfl,a,_,rfl,.inl ha,1,((bs.map V.ref).length:Int),rfl,⟨by decide,by decide,by (clear o6 bu jc hu hn o7;omega),by rw[o6];(clear o6 bu jc hu o7;omega)⟩,?_⟩
  have et:(((bs.map V.ref).length:Int) - 1).toNat=i5.length - 1:=by rw[o6];(clear o6 bu jc hu hn o7;omega)
  rw[et]
  refine oR (λi σ H'=>∃v1,σ=[some (.ref a),v1]/\H'=H/\∀j x y,j<i->i5[j]?=some x->i5[j+1]?=some y->HT.gH y x=false) ⟨none,rfl,rfl,λj x y hj=>absurd hj (ue _)⟩ ?_ ?_
  ·rintro i σ H1 hi ⟨v1,rfl,rfl,al⟩
   have e0:i5[i]?=some i5[i]:=ax (by (clear et o6 bu jc hu hn o7;omega))
   have e1:i5[i+1]?=some i5[i+1]:=ax (by (clear et bu hu;omega))
   obtain⟨c0,g0,SN,q0,W0,D0,H0,w0,W4,f0,t0⟩:=vc i _ e0
   obtain⟨c1,g1,f8,q1,W1,D1,W5,w1,W6,f1,t1⟩:=vc (i+1) _ e1
   have z1:(1:Int)+(i:Int)=((i+1:Nat):Int):=by (clear et bu hu;omega)
   have z2:(1:Int)+(i:Int) - 1=((i:Nat):Int):=by (clear z1 et bu hu;omega)
   refine⟨_,rfl,_,rfl,a,_,_,_,rfl,rfl,ha,by rw[z1];exact g1,c1,CP,f8,_,_,rfl,f1,T'.cl,T'.n1,rfl,?_⟩
   refine⟨_,rfl,_,rfl,_,_,rfl,rfl,a,_,_,_,rfl,rfl,ha,by rw[z2];exact g0,c0,CP,SN,_,_,rfl,f0,T'.cl,T'.n1,rfl,?_⟩
   refine⟨q1,q0,_,_,rfl,rfl,cG.of t1,cG.of t0,_,rfl,bZ (λgj=>?_) (λgj=>?_)⟩
   ·have e3:jE i5=false:=by
     rw[FH]
     intro z
     have:=tJ.mp z i _ _ e0 e1
     rw[gj] at this
     cases this
    rw[e3] at k
    exact k
   ·refine⟨_,rfl,rfl,λj x y hj ex ey=>?_⟩
    by_cases HC:j=i
    ·subst HC
     rw[e0] at ex
     rw[e1] at ey
     cases ex
     cases ey
     exact cD gj
    ·exact al j x y (by (clear gj z2 z1 et bu hu;omega)) ex ey
  ·rintro σ H1 ⟨v1,rfl,rfl,al⟩
   have e3:jE i5=true:=tJ.mpr λi x y ex ey=>by
    have:=(bp.mp ey).1
    exact al i x y (by (clear et o6 bu jc hu hn o7;omega)) ex ey
   rw[e3] at k
   exact k
noncomputable def gW(cs:CL)(st:List Pl×List Pl)(p:Pl):List Pl×List Pl:=if (aZ cs p).isSome=true/\p∉st.1 then (st.1++[p],st.2++[p]) else st
noncomputable def dR(cs:CL):Nat->List Pl->List Pl->List Pl
 |0,rs,_=>rs
 |n+1,rs,ws=>match ws.getLast? with
  |none=>rs
  |some q=>dR cs n ((Ch q).foldl (gW cs) (rs,ws.dropLast)).1 ((Ch q).foldl (gW cs) (rs,ws.dropLast)).2
noncomputable def zC(cs:CL)(rs:List Pl):Nat:=(cs.filter λc=> !decide (c.1∈rs)).length
noncomputable def xT:CL->Bool
 |[]=>false
 |c::r=>decide ((dR (c::r) (c::r).length [c.1] [c.1]).length=(c::r).length)
theorem mR(c:Pl×Int)(r:CL)(rs:List Pl):zC (c::r) rs=(if c.1∈rs then 0 else 1)+zC r rs:=by
 unfold zC
 by_cases h:c.1∈rs
 ·rw[FI (by simp[h]),af h,oo]
 ·rw[FJ (by simp[h]),ae h,bw,mq]
theorem Uk(p:Pl)(rs:List Pl):∀cs:CL,zC cs (rs++[p])<=zC cs rs
 |[]=>ap _
 |c::r=>by
  have ih:=Uk p rs r
  rw[mR,mR]
  by_cases h:c.1∈rs
  ·rw[af h,af (lq _ h)];omega
  ·rw[ae h]
   split<;>omega
theorem dN{p:Pl}:(aZ cs p).isSome=true↔∃c∈cs,c.1=p:=by
 unfold aZ
 rw[j9,List.find?_isSome]
 simp
theorem oC{p:Pl}{rs:List Pl}(hp:p∉rs):∀{cs:CL},(aZ cs p).isSome=true->zC cs (rs++[p])+1<=zC cs rs
 |[],h=>by cases h
 |c::r,h=>by
  have gj:=Uk p rs r
  rw[mR,mR]
  by_cases hc:c.1=p
  ·rw[af (by simp[hc]),ae (by rw[hc];exact hp)];(clear hp;omega)
  ·have h2:(aZ r p).isSome=true:=by
    rw[dN] at h ⊢
    obtain⟨x,hx,e⟩:=h
    rcases ao.mp hx with rfl|hx
    ·exact absurd e hc
    ·exact⟨x,hx,e⟩
   have ih:=oC hp h2
   by_cases h3:c.1∈rs
   ·rw[af h3,af (lq _ h3)];(clear hc gj hp;omega)
   ·rw[ae h3,ae (by simp[h3,hc])];(clear h3 hc gj hp;omega)
noncomputable def Qo(rs:List Pl):List (List dL×V):=rs.map λp=>(eJ p.1 p.2.1 p.2.2,V.bl true)
theorem sI(p:Pl):∀rs:List Pl,gB (Qo rs) (eJ p.1 p.2.1 p.2.2)=if p∈rs then some (V.bl true) else none
 |[]=>rfl
 |c::r=>by
  have ih:=sI p r
  unfold gB Qo at *
  rw[bn,jn]
  by_cases h:c=p
  ·subst h
   simp
  ·have h2:¬eJ c.1 c.2.1 c.2.2=eJ p.1 p.2.1 p.2.2:=λz=>h (xK.mp z)
   simp only[h2,JY]
   rw[ih]
   by_cases h3:p∈r
   ·rw[af h3,af (az _ h3)]
   ·rw[ae h3,ae (by simp[h3,au h])]
theorem jD.upd{o o':HO}{ps:List Pl}(h:jD H qs ps)(ha:H a=some o)(ho:∀xs,o≠.tup xs):jD (upd H a o') qs ps:=Paired.mapP h λq p e=>by
 rw[aC (by rintro rfl;rw[ha] at e;cases e;exact ho _ rfl)]
 exact e
theorem uU{R:α->β->Prop}:∀{as:List α}{bs:List β},Paired R as bs->Paired R as.dropLast bs.dropLast
 |_,_,.nil=>.nil
 |_,_,.cons r .nil=>.nil
 |_,_,.cons r (.cons r2 t)=>.cons r (uU (.cons r2 t))
structure HS(CP:Addr)(H:Hp)(cs:CL)(d l:Addr)(rs ws:List Pl)(qs:List Addr)(H':Hp):Prop where
 sm:aK H H'
 dd:H' d=some (.dT (Qo rs))
 ll:H' l=some (.lst (qs.map V.ref))
 pl:jD H' qs ws
 c1:rs.length+zC cs rs<=cs.length
 c2:ws.length<=rs.length
theorem HS.same{l:Addr}{rs ws:List Pl}(h:HS CP H cs d l rs ws qs H1)(s:aK H1 H2):HS CP H cs d l rs ws qs H2:=⟨h.sm.trans s,s _ _ h.dd,s _ _ h.ll,h.pl.same s,h.c1,h.c2⟩
theorem Uj{rs:List Pl}{p:Pl}(h:p∉rs):jU (Qo rs) (eJ p.1 p.2.1 p.2.2) (V.bl true)=Qo (rs++[p]):=by
 rw[rN (V.bl true) (by rw[sI,ae h])]
 unfold Qo
 rw[c9]
 rfl
noncomputable def Ep(CP:Addr):Sp:=λvs H Q _=>∃(b nm:Addr)(W D Hh g:Int)(cs:CL),vs=[.ref b]/\zZ CP H b nm W D Hh g cs/\cs.length<20000/\∀H',aK H H'->Q (.bl (xT cs)) H'
theorem kW:aN ["part","start","reached","waiting","reached_last","place"] ["part"] (aG Dg):=⟨rfl,rfl,rfl,by decide+kernel,rfl,by decide+kernel,by decide+kernel⟩
theorem Vq(F:eZ K "hangs_together" "hangs_together" Dg f fd)(T':Rh K CP)(bi:mg "len"=none)(SO:mg "list"=none)(L1:dE P w K mg base "neighbours" bN 2 ["place"] Ds):
  bO P w K mg base bN 3 f fd ["part"] (Ep CP):=by
 obtain⟨g1,gc,G1,b1,k1,h1⟩:=L1.ex
 refine F.ok kW (λvs H Q E h=>?_) (λak A outer s H vs Q E hr h=>?_)
 ·obtain⟨b,nm,W,D,Hh,g,cs,rfl,_⟩:=h
  rfl
 ·obtain⟨b,nm,W,D,Hh,g,cs,rfl,⟨dx,c,hb,hc⟩,hl,k⟩:=h
  have a9:=hr.mono (j:=2) (by decide)
  have hu:=iQ hr
  refine⟨_,aF (eA (fM rD (bS uD (by rfl) bi boot_len (aA (aU (pv 0) rfl) aE)) aI (gX _)) (aH (aR nO)) bX)
   (aF (bF (i:=1) kW.nd rfl (Or.inl rfl) (bH jM (uC (Kz rfl) (by rfl) SO boot_list (aA (aU (pv 0) rfl) aE)) aI (λ_ _=>rfl)))
   (aF (bF (i:=2) kW.nd rfl (Or.inl rfl) (Vb hu (pv 1) nO))
   (aF (bF (i:=3) kW.nd rfl (Or.inl rfl) (eD (aA (pv 1) aE)))
   (aF (kR jy (dS (sN (bS bW (by rfl) bi boot_len (aA (pv 3) aE)) aI))
    (aF (bF (i:=4) kW.nd rfl (Or.inl rfl) (aDk plainAttrs_list PySem.F.slot_list_pop PySem.F.type_list_pop aDr (pv 3)))
    (aH (eG jy rfl (fN (aP G1 a9 (by rfl) h1 k1 b1 .nil aX (aA (pv 4) aE))) (bE (i:=5) kW.nd rfl (Or.inl rfl))
     (aH (eA (hJ (dS (tZ hu (pv 5) (aU (pv 0) rfl))) (iE (dS (Qw hu (pv 5) (pv 2))))).pt
      (aF (lF hu (pv 2) (pv 5) nO rfl) (aH (cR (uY plainAttrs_list PySem.F.slot_list_append PySem.F.type_list_append gN (pv 3) (aA (pv 5) aE))))) bX))))))
   (aH (aR (mB rD (bS uD (by rfl) bi boot_len (aA (pv 2) aE)) (bS uD (by rfl) bi boot_len (aA (aU (pv 0) rfl) aE)) (gX _)))))))),?_⟩
  have kl:(aJ cs).length=cs.length:=by unfold aJ;rw[ai]
  have bu:=bA
  refine⟨_,rfl,b,CP,dx,_,_,rfl,hb,T'.cl,T'.n6,rfl,c,_,rfl,.inl hc,rfl,_,rfl,bZ (λh0=>?_) (λh0=>?_)⟩
  ·rw[gZ] at h0
   have h0:=dw h0
   have e0:cs=[]:=FK.mp (by (clear bu hu hl;omega))
   subst e0
   exact k H (aK.id' _)
  ·rw[gZ] at h0
   have h0:¬((aJ cs).length:Int)=0:=λz=>h0 (decide_eq_true z)
   cases cs with
   |nil=>exact absurd rfl h0
   |cons c0 cr=>
   refine⟨_,rfl,b,CP,dx,_,_,rfl,hb,T'.cl,T'.n6,rfl,c,_,rfl,.inl hc,λlk ps SR cf=>?_⟩
   obtain⟨st,DS,rfl,d8⟩:∃st DS,ps=st::DS/\H st=some (.tup (Xh c0.1)):=by
    cases cf with
    |cons r t=>exact⟨_,_,rfl,r⟩
   have S1:=aK.new (o:=.lst ((st::DS).map V.ref)) SR
   refine⟨lk,_,0,.ref st,rfl,rfl,cP.of aB,jF (j:=0) rfl,?_⟩
   have HD:=S1 _ _ d8
   generalize upd H lk (.lst ((st::DS).map V.ref))=H1 at S1 HD
   intro d hd
   have S2:=aK.new (o:=.dT []) hd
   refine⟨_,rfl,aB,st,eJ c0.1.1 c0.1.2.1 c0.1.2.2,rfl,S2 _ _ HD,?_⟩
   refine⟨_,rfl,by show 1<=sizeLine;decide,λl p8=>?_⟩
   have SS:upd (upd H1 d (.dT [])) d (.dT [(eJ c0.1.1 c0.1.2.1 c0.1.2.2,V.bl true)])=upd H1 d (.dT (Qo [c0.1])):=by
    funext x
    by_cases hx:x=d
    ·rw[hx,aB,aB];rfl
    ·rw[aC hx,aC hx,aC hx]
   rw[SS] at p8 ⊢
   have S3:aK H1 (upd H1 d (.dT (Qo [c0.1]))):=aK.new hd
   have S4:=aK.new (o:=.lst [V.ref st]) p8
   have SV:H d=none:=S1.free hd
   have LW:H l=none:=(S1.trans S3).free p8
   have ve:d≠l:=λz=>by rw[<-z,aB] at p8;cases p8
   have l9:∀{H':Hp},aK H H'->H' b=some (.ins CP dx (Sf nm W D Hh g c)):=λs=>s _ _ hb
   have qb:∀{H':Hp},aK H H'->H' c=some (.dT (aJ (c0::cr))):=λs=>s _ _ hc
   generalize qe:c0::cr=cs at *
   refine⟨λm σ H'=>∃rs ws qs v4 v5,σ=[some (.ref b),some (.ref st),some (.ref d),some (.ref l),v4,v5]/\HS CP H cs d l rs ws qs H'/\ws.length+zC cs rs<=m/\dR cs cs.length [c0.1] [c0.1]=dR cs m rs ws,
    ⟨cs.length,[c0.1],[c0.1],[st],none,none,rfl,⟨(S1.trans S3).trans S4,S4 _ _ aB,aB,.cons (S4 _ _ (S3 _ _ HD)) .nil,?_,ap _⟩,?_,rfl⟩,?_⟩
   ·have u1:zC cs [c0.1]+1<=cs.length:=by
     have z:=oC (p:=c0.1) (rs:=[]) (cs:=cs) (by simp) (dN.mpr ⟨c0,by rw[<-qe];exact bf,rfl⟩)
     have z2:zC cs []<=cs.length:=JZ _ _
     exact gm z z2
    show 1+zC cs [c0.1]<=cs.length
    (clear h0 kl hl bu hu;omega)
   ·have u1:zC cs [c0.1]+1<=cs.length:=by
     have z:=oC (p:=c0.1) (rs:=[]) (cs:=cs) (by simp) (dN.mpr ⟨c0,by rw[<-qe];exact bf,rfl⟩)
     have z2:zC cs []<=cs.length:=JZ _ _
     exact gm z z2
    show 1+zC cs [c0.1]<=cs.length
    (clear h0 kl hl bu hu;omega)
   ·rintro m σ H2 ⟨rs,ws,qs,v4,v5,rfl,hs,hm,er⟩
    have ql:qs.length=ws.length:=Paired.length hs.pl
    refine⟨_,rfl,l,_,rfl,.inl (cP.of hs.ll),_,_,rfl,rfl,_,rfl,bZ (λhw=>?_) (λhw=>?_)⟩
    ·have hw:(0:Int)<((qs.map V.ref).length:Int):=dw hw
     rw[ai] at hw
     obtain⟨n,rfl⟩:∃n,m=n+1:=⟨m - 1,by (clear h0 kl hl bu hu;omega)⟩
     obtain⟨q,eq⟩:∃q,ws[ws.length - 1]?=some q:=⟨_,ax (by (clear hm h0 kl hl bu hu;omega))⟩
     obtain⟨qa,eqa,HE⟩:=bT hs.pl eq
     have elast:ws.getLast?=some q:=by rw[List.getLast?_eq_getElem?];exact eq
     have HF:dR cs (n+1) rs ws=dR cs n ((Ch q).foldl (gW cs) (rs,ws.dropLast)).1 ((Ch q).foldl (gW cs) (rs,ws.dropLast)).2:=by
      rw[dR,elast]
     have zo:ws.dropLast.length+1=ws.length:=by rw[OD];(clear hm h0 kl hl bu hu;omega)
     have nq:qa≠l:=λz=>by rw[z,hs.ll] at HE;cases HE
     refine⟨λah H'=>∃rs ws qs v4 v5,ah=[some (.ref b),some (.ref st),some (.ref d),some (.ref l),v4,v5]/\HS CP H cs d l rs ws qs H'/\ws.length+zC cs rs<=n/\dR cs cs.length [c0.1] [c0.1]=dR cs n rs ws,λah H' z=>⟨n,lu n,z⟩,?_⟩
     refine⟨_,rfl,.inl ⟨rfl,_,cP.of hs.ll⟩,l,_,.ref qa,rfl,rfl,hs.ll,(by rw[ai,bg,ql,eqa];rfl),?_⟩
     have l7:HS CP H cs d l rs ws.dropLast qs.dropLast (upd H2 l (.lst (qs.map V.ref).dropLast)):=⟨λx o e=>by rw[aC (aD e LW)];exact hs.sm _ _ e,by rw[aC ve];exact hs.dd,by rw[aB,List.map_dropLast],jD.upd (uU hs.pl) hs.ll (λxs z=>by cases z),hs.c1,by have:=hs.c2;(clear hm hw ql h0 kl hl bu hu;omega)⟩
     have LX:upd H2 l (.lst (qs.map V.ref).dropLast) qa=some (.tup (Xh q)):=by rw[aC nq];exact HE
     generalize upd H2 l (.lst (qs.map V.ref).dropLast)=H3 at l7 LX
     refine⟨_,rfl,qa,q,rfl,LX,λH4 nl ns S4 zp DT SW=>?_⟩
     have nd:nl≠d:=λz=>by rw[z,l7.dd] at zp;cases zp
     have SY:nl≠l:=λz=>by rw[z,l7.ll] at zp;cases zp
     have wt:=l7.same S4
     refine⟨nl,rfl,⟨_,cP.of DT⟩,?_⟩
     refine Hy (xs:=ns.map V.ref) (λi σ H'=>∃ji k8 qt v5,σ=[some (.ref b),some (.ref st),some (.ref d),some (.ref l),some (.ref qa),v5]/\HS CP H cs d l ji k8 qt H'/\k8.length+zC cs ji<=n/\((Ch q).take i).foldl (gW cs) (rs,ws.dropLast)=(ji,k8)/\H' nl=some (.lst (ns.map V.ref))/\jD H' ns (Ch q))
      ⟨rs,ws.dropLast,qs.dropLast,v5,rfl,wt,by (clear hw ql h0 kl hl bu hu;omega),rfl,DT,SW⟩ (λi σ H' _ z=>by obtain⟨_,_,_,_,_,_,_,_,z,_⟩:=z;exact cP.of z) ?_ ?_
     ·rintro i x σ H5 ex ⟨ji,k8,qt,v5,rfl,ik,so,ef,u5,xh⟩
      have hi:i<ns.length:=by
       have:=(bp.mp ex).1
       rwa [ai] at this
      have nz:ns.length=(Ch q).length:=Paired.length xh
      obtain⟨p,ep⟩:∃p,(Ch q)[i]?=some p:=⟨_,ax (by (clear so zo hm hw ql h0 kl hl bu hu;omega))⟩
      obtain⟨pa,SZ,ck⟩:=bT xh ep
      rw[bg,SZ] at ex
      cases ex
      have LY:((Ch q).take (i+1)).foldl (gW cs) (rs,ws.dropLast)=gW cs (ji,k8) p:=by
       rw[jg,ep,List.foldl_append,ef]
       rfl
      have stay:¬((aZ cs p).isSome=true/\p∉ji)->((Ch q).take (i+1)).foldl (gW cs) (rs,ws.dropLast)=(ji,k8):=λz=>by
       rw[LY]
       exact ae z
      have qu:k8.length<=ji.length:=ik.c2
      have ss:=ik.c1
      refine⟨_,rfl,_,rfl,b,CP,dx,_,_,rfl,l9 ik.sm,T'.cl,T'.n6,rfl,c,_,rfl,xS (qb ik.sm) ck,_,rfl,bZ (λa7=>?_) (λa7=>vI ⟨ji,k8,qt,_,rfl,ik,so,stay (λz=>a7 (by rw[j9];exact z.1)),u5,xh⟩)⟩
      rw[j9] at a7
      refine⟨_,rfl,_,rfl,d,_,rfl,mP.tt (k:=eJ p.1 p.2.1 p.2.2) ik.dd ck,_,rfl,bZ (λcg=>?_) (λcg=>?_)⟩
      ·have qi:p∉ji:=λz=>by
        rw[sI,af z] at cg
        cases cg
       have HG:=oC qi a7
       refine⟨_,rfl,_,rfl,d,_,rfl,tE.tt (k:=eJ p.1 p.2.1 p.2.2) ik.dd ck (by unfold Qo;rw[ai];(clear HG qi qu nz hi so zo hm hw ql h0 kl hu;omega)),?_⟩
       rw[Uj qi]
       have TC:l≠d:=au ve
       have HH:qt.length=k8.length:=Paired.length ik.pl
       have HI:upd H5 d (.dT (Qo (ji++[p]))) l=some (.lst (qt.map V.ref)):=by rw[aC TC];exact ik.ll
       refine⟨_,rfl,.inl ⟨rfl,_,cP.of HI⟩,_,rfl,l,_,_,rfl,rfl,HI,by rw[ai];(clear HG qi nz hi so zo hm hw ql h0 kl hu;omega),?_⟩
       have HJ:pa≠d:=λz=>by rw[z,ik.dd] at ck;cases ck
       have TD:pa≠l:=λz=>by rw[z,ik.ll] at ck;cases ck
       have LZ:∀{qq:List Addr}{pp:List Pl},jD H5 qq pp->jD (upd (upd H5 d (.dT (Qo (ji++[p])))) l (.lst (qt.map V.ref++[V.ref pa]))) qq pp:=λz=>jD.upd (jD.upd z ik.dd (λxs z=>by cases z)) HI (λxs z=>by cases z)
       refine⟨ji++[p],k8++[p],qt++[pa],_,rfl,⟨λx o e=>?_,by rw[aC ve,aB],by rw[aB,c9];rfl,Paired.snoc (LZ ik.pl) (by rw[aC TD,aC HJ];exact ck),?_,?_⟩,?_,?_,by rw[aC SY,aC nd];exact u5,LZ xh⟩
       ·rw[aC (aD e LW),aC (aD e SV)]
        exact ik.sm _ _ e
       ·rw[c8]
        show ji.length+1+_<=_
        (clear HH qi qu nz hi so zo hm hw ql h0 kl hl bu hu;omega)
       ·rw[c8,c8]
        show k8.length+1<=ji.length+1
        (clear HH HG qi ss nz hi so zo hm hw ql h0 kl hl bu hu;omega)
       ·rw[c8]
        show k8.length+1+_<=_
        (clear HH qi ss qu nz hi zo hm hw ql h0 kl hl bu hu;omega)
       ·rw[LY]
        exact af ⟨a7,qi⟩
      ·refine⟨ji,k8,qt,_,rfl,ik,so,stay (λz=>cg ?_),u5,xh⟩
       rw[sI,ae z.2]
       rfl
     ·rintro σ H5 ⟨ji,k8,qt,v5,rfl,ik,so,ef,u5,xh⟩
      have nz:ns.length=(Ch q).length:=Paired.length xh
      rw[ai,nz,jo] at ef
      refine⟨ji,k8,qt,_,v5,rfl,ik,so,?_⟩
      rw[er,HF,ef]
    ·have hw:¬(0:Int)<((qs.map V.ref).length:Int):=λz=>hw (decide_eq_true z)
     rw[ai] at hw
     have e0:ws=[]:=FK.mp (by (clear hm h0 kl hl bu hu;omega))
     subst e0
     have TF:dR cs m rs []=rs:=by cases m<;>rfl
     refine⟨_,rfl,d,_,rfl,.inl hs.dd,_,rfl,b,CP,dx,_,_,rfl,l9 hs.sm,T'.cl,T'.n6,rfl,c,_,rfl,.inl (qb hs.sm),rfl,?_⟩
     have kk:=k H2 hs.sm
     have e5:xT cs=decide (V.int ((Qo rs).length:Int)=V.int ((aJ cs).length:Int)):=by
      rw[gZ]
      have e6:xT cs=decide ((dR cs cs.length [c0.1] [c0.1]).length=cs.length):=by rw[<-qe];rfl
      rw[e6,er,TF,kl]
      unfold Qo
      rw[ai,JX]
      (clear ql hm hw h0 kl hl bu hu;omega)
     rw[e5] at kk
     exact kk
def xP(y z:Nat):Nat->List Int->CL
 |_,[]=>[]
 |x,s::r=>(if s=46 then [] else [(((x:Int),(y:Int),(z:Int)),s)])++xP y z (x+1) r
def qG(d:Nat):Nat->List (List Int)->CL
 |_,[]=>[]
 |j,r::rs=>xP (j % d) (j / d) 0 r++qG d (j+1) rs
theorem Ic(y z:Nat):∀(xs:List Int)(x:Nat),fC y z x xs=aJ (xP y z x xs)
 |[],x=>rfl
 |s::r,x=>by
  rw[fC,xP,Ic y z r (x+1)]
  unfold aJ
  rw[c9]
  split<;>rfl
theorem uB(d:Nat):∀(rs:List (List Int)) (j:Nat),dY d j rs=aJ (qG d j rs)
 |[],j=>rfl
 |r::rs,j=>by
  rw[dY,qG,Ic,uB d rs (j+1)]
  unfold aJ
  rw[c9]
def vF(pr:aL):CL:=qG pr.d 0 pr.rows
def Di(cs:CL)(W D Hh:Int):Bool:=nM cs && (oB cs && (mZ cs W D Hh && xT cs))
def gS(pr:aL):Bool:=Di (vF pr) pr.w pr.d pr.h
def nY(U:List aL):Bool:=U.all gS && jE (U.map (·.name))
theorem eF.pt(h:eF CP H b pr):∃nm,zZ CP H b nm pr.w pr.d pr.h pr.g (vF pr):=by
 obtain⟨dx,nm,c,h1,h2,h3⟩:=h
 exact⟨nm,dx,c,h1,by rw[h3,uB];rfl⟩
theorem eF.nm(h:eF CP H b pr):aAq CP H b pr.name:=by
 obtain⟨dx,nm,c,h1,h2,h3⟩:=h
 exact⟨dx,nm,_,_,_,_,c,h1,h2⟩
theorem sT.len(h:sT pr):(vF pr).length<20000:=by
 have e:(vF pr).length=(dY pr.d 0 pr.rows).length:=by
  rw[uB]
  unfold aJ vF
  rw[ai]
 have h1:=qE pr.d pr.w pr.rows 0 h.rw
 have h2:pr.rows.length * pr.w<=(16 * 18) * 16:=by
  rw[h.rl]
  exact FA (FA h.d2 h.h2) h.w2
 omega
def wG(CP:Addr):Sp:=λvs H Q _=>∃(b nm:Addr)(W D Hh g:Int)(cs:CL),vs=[.ref b]/\zZ CP H b nm W D Hh g cs/\cs.length<20000/\∀H',aK H H'->Q (.bl (Di cs W D Hh)) H'
theorem zZ.same{nm:Addr}{W D Hh g:Int}(h:zZ CP H b nm W D Hh g cs)(s:aK H H'):zZ CP H' b nm W D Hh g cs:=by
 obtain⟨dx,c,h1,h2⟩:=h
 exact⟨dx,c,s _ _ h1,s _ _ h2⟩
theorem Wr:aN ["part"] ["part"] (aG lZ):=⟨rfl,rfl,rfl,by decide+kernel,rfl,by decide+kernel,by decide+kernel⟩
theorem Wp(F:eZ K "part_right" "part_right" lZ f fd)(L1:dE P w K mg base "studs_clear" bN 2 ["part"] (Cs CP))(L2:dE P w K mg base "tubes_clear" bN 2 ["part"] (Cz CP))
  (L3:dE P w K mg base "fills_its_box" bN 2 ["part"] (Eb CP)) (L4:dE P w K mg base "hangs_together" bN 3 ["part"] (Ep CP)):bO P w K mg base bN 4 f fd ["part"] (wG CP):=by
 obtain⟨g1,gc,G1,b1,k1,h1⟩:=L1.ex
 obtain⟨g2,ky,G2,b2,k2,h2⟩:=L2.ex
 obtain⟨g3,BH,G3,b3,k3,h3⟩:=L3.ex
 obtain⟨g4,L',G4,b4,k4,h4⟩:=L4.ex
 refine F.ok Wr (λvs H Q E h=>?_) (λak A outer s H vs Q E hr h=>?_)
 ·obtain⟨b,nm,W,D,Hh,g,cs,rfl,_⟩:=h
  rfl
 ·obtain⟨b,nm,W,D,Hh,g,cs,rfl,hp,hl,k⟩:=h
  have a9:=hr.mono (j:=2) (by decide)
  have iw:=hr.mono (j:=3) (by decide)
  refine⟨_,aH (aR (sS (aP G1 a9 (by rfl) h1 k1 b1 .nil aX (aA (pv 0) aE)) (sS (aP G2 a9 (by rfl) h2 k2 b2 .nil aX (aA (pv 0) aE))
   (sS (aP G3 a9 (by rfl) h3 k3 b3 .nil aX (aA (pv 0) aE)) (uE (aP G4 iw (by rfl) h4 k4 b4 .nil aX (aA (pv 0) aE))))))),?_⟩
  unfold Di at k
  refine⟨_,rfl,b,nm,W,D,Hh,g,cs,rfl,hp,λH1 S1=>⟨_,rfl,bZ (λe1=>?_) (λe1=>?_)⟩⟩
  ·rw[e1,i8] at k
   refine⟨_,rfl,b,nm,W,D,Hh,g,cs,rfl,hp.same S1,λH2 S2=>⟨_,rfl,bZ (λe2=>?_) (λe2=>?_)⟩⟩
   ·rw[e2,i8] at k
    have S2:=S1.trans S2
    refine⟨_,rfl,b,nm,W,D,Hh,g,cs,rfl,hp.same S2,hl,λH3 S3=>⟨_,rfl,bZ (λe3=>?_) (λe3=>?_)⟩⟩
    ·rw[e3,i8] at k
     have S3:=S2.trans S3
     exact⟨_,rfl,b,nm,W,D,Hh,g,cs,rfl,hp.same S3,hl,λH4 S4=>k H4 (S3.trans S4)⟩
    ·rw[cD e3,lr] at k
     exact k H3 (S2.trans S3)
   ·rw[cD e2,lr] at k
    exact k H2 (S1.trans S2)
  ·rw[cD e1,lr] at k
   exact k H1 S1
def qK(K:Frag)(CP:Addr):Sp:=λvs H Q _=>∃(a:Addr)(bs:List Addr)(U:List aL),vs=[.ref a]/\cP K H a (bs.map V.ref)/\dF CP H bs U/\1<=U.length/\U.length<=64/\∀H',aK H H'->Q (.bl (nY U)) H'
theorem nX:aN ["parts","part"] ["parts"] (aG jX):=⟨rfl,rfl,rfl,by decide+kernel,rfl,by decide+kernel,by decide+kernel⟩
theorem Ij(F:eZ K "catalogue_right" "catalogue_right" jX f fd)(ki:mg "all"=none)(L1:dE P w K mg base "part_right" bN 4 ["part"] (wG CP))(L2:dE P w K mg base "names_grow" bN 2 ["parts"] (Je K CP)):
  bO P w K mg base bN 5 f fd ["parts"] (qK K CP):=by
 obtain⟨g1,gc,G1,b1,k1,h1⟩:=L1.ex
 obtain⟨g2,ky,G2,b2,k2,h2⟩:=L2.ex
 refine F.ok nX (λvs H Q E h=>?_) (λak A outer s H vs Q E hr h=>?_)
 ·obtain⟨a,bs,U,rfl,_⟩:=h
  rfl
 ·obtain⟨a,bs,U,rfl,ha,hp,o7,hn,k⟩:=h
  have a9:=hr.mono (j:=2) (by decide)
  have jb:=hr.mono (j:=4) (by decide)
  refine⟨_,aH (aR (sS (bS (aBu rfl) (by rfl) ki boot_all (aA (uQ (own:=[("part",1)]) (te:=Bg (wG CP) [] E0 (dH (cU 1) gC)) rfl nX.nd (fN (pv 0)) (eN (N:=["parts","part"]) (sc:=aG jX) (by decide+kernel))
      (λ_ _ _ _ _=>bE (i:=1) nX.nd rfl (Or.inl rfl)) (λ_ _ _ _ _=>fY) (λ_ _ _ _ _=>aP G1 jb (by rfl) h1 k1 b1 .nil aX (aA (pv 1) aE))) aE))
    (uE (aP G2 a9 (by rfl) h2 k2 b2 .nil aX (aA (pv 0) aE))))),?_⟩
  have jc:bs.length=U.length:=Paired.length hp
  have bu:=bA
  refine⟨_,rfl,a,rfl,⟨_,ha⟩,λDl c6=>?_⟩
  refine jQ (xs:=bs.map V.ref) (λi H'=>aK H H'/\H' Dl=some (.lst (((U.take i).map gS).map V.bl))) ⟨aK.new c6,aB⟩ (λi H' _ z=>z.1.seq ha) ?_ ?_
  ·rintro i x H1 ex ⟨S1,cz⟩
   have hi:i<U.length:=by
    have:=(bp.mp ex).1
    rwa [ai,jc] at this
   obtain⟨pr,ep⟩:∃pr,U[i]?=some pr:=⟨_,ax hi⟩
   obtain⟨b,eb,pa,po⟩:=bT hp ep
   rw[bg,eb] at ex
   cases ex
   obtain⟨nm,pt⟩:=pa.pt
   refine⟨rfl,_,rfl,b,nm,_,_,_,_,_,rfl,pt.same S1,po.len,λH2 S2=>⟨_,S2 _ _ cz,?_,?_,?_⟩⟩
   ·rw[ai,ai,gf]
    (clear hi jc o7;omega)
   ·intro b' o e
    rw[aC (aD e c6)]
    exact S2 _ _ (S1 _ _ e)
   ·rw[aB,jg,ep,c9,c9]
    rfl
  ·rintro H1 ⟨S1,cz⟩
   rw[ai,jc,jo] at cz
   refine⟨Dl,_,rfl,cP.of cz,_,rfl,bZ (λe1=>?_) (λe1=>?_)⟩
   ·refine⟨_,rfl,a,bs,U.map (·.name),rfl,S1.seq ha,?_,by rw[ai];exact o7,by rw[ai];exact hn,?_⟩
    ·have key:∀{bs:List Addr}{U:List aL},dF CP H bs U->Paired (aAq CP H1) bs (U.map (·.name)):=by
      intro bs U z
      unfold dF at z
      induction z with
      |nil=>exact .nil
      |cons h t ih=>exact .cons (h.1.same S1).nm ih
     exact key hp
    ·have kk:=k H1 S1
     unfold nY at kk
     rw[ET] at e1
     have e1:U.all gS=true:=e1
     rw[e1,i8] at kk
     exact kk
   ·have kk:=k H1 S1
    unfold nY at kk
    rw[ET] at e1
    have e1:¬U.all gS=true:=e1
    rw[cD e1,lr] at kk
    exact kk
end Br1
namespace HT
open PySem PyProof.Rows
theorem pK{t sl:Addr}{lo hi:Option Int}(ht:IsTup s.heap t items)(hs:s.heap.IsSliceOf sl vl vu .none)(pl:IsPart vl lo)(pu:IsPart vu hi)
  (hw:hG items.size 0 lo=0/\hG items.size items.size hi=items.size) (h:Q (.ref t) s):wpAny (model prog w) A (getItem (.ref t) (.ref sl)) Q E s:=by
 obtain⟨os,fh,qe,r6⟩:=id hs
 have AY:s.TypeIs (.ref sl) "slice":=⟨os,fh,qe⟩
 unfold getItem
 try with_reducible refine j8 ?_
 first|refine ac (ag ?_)|skip
 refine ac (wpAny_sequenceKey ht.typeIs (by decide) ?_)
 refine ac (mj (name:=Str.ofString "__getitem__") ht.typeIs AD
  (jf AD ht.typeIs entry_tuple_getitem ?_ (args_tuple_getitem _ _)))
 show wpAny _ _ (Builtin.Tuple.tupleItemsOf (.ref t)>>=_) _ _ s
 refine ac (tupleItemsOf_ ht ?_)
 refine ac (B9 AY ?_)
 rw[af (by decide)]
 refine ac (jZ hs pl pu ?_)
 have TH:((((hG items.size 0 lo:Nat):Int)==0 && (1:Int)==1 && (hG items.size items.size hi - hG items.size 0 lo)==items.size)=true):=by
  rw[hw.1,hw.2]
  simp
 show wpAny _ _ (if (((hG items.size 0 lo:Nat):Int)==0 && (1:Int)==1 && (hG items.size items.size hi - hG items.size 0 lo)==items.size)=true then _ else _) _ _ s
 rw[af TH]
 unfold Builtin.Tuple.tupleIsExact
 refine ac (ac (B9 ht.typeIs (ag ?_)))
 rw[af (by decide)]
 exact ac (yh (ag ⟨_,rfl,ag h⟩))
end HT
namespace L2
open PySem PySem.Spec PyProof.Rows
def aAf(K:Frag):V->Option Int->Option Int->Hp->VK->Prop:=λx lo hi H Q=>∃a xs,x=.ref a/\cG K H a xs/\∀p H',aK H H'->cG K H' p (zX xs lo hi)->Q (.ref p) H'
theorem Nz:SlR X (aAf X.K):=by
 intro aa s σ H x v vl vu lo hi sl Q I rx hs pl pu h
 obtain⟨a,xs,rfl,hx,q⟩:=h
 by_cases hw:HT.hG xs.length 0 lo=0/\HT.hG xs.length xs.length hi=xs.length
 ·cases rx
  obtain⟨its,r,ht,hz⟩:=I.tuple hx
  have bi:its.toArray.size=xs.length:=by rw[ca];exact r.length.symm
  refine⟨"tuple",_,AD.lookup,ht.typeIs,?_⟩
  refine HT.pK ht hs pl pu (by rw[bi];exact hw) ⟨.ref a,H,I,rfl,q a H (λ_ _ e=>e) ?_⟩
  have e:zX xs lo hi=xs:=by
   unfold zX
   rw[hw.1,hw.2,List.drop_zero,CV,jo]
  rw[e]
  exact hx
 ·exact aDh aa s σ H _ v vl vu lo hi sl Q I rx hs pl pu ⟨a,xs,rfl,hx,hw,λp hp=>q p _ (λb o e=>by rw[aC (aD e hp)];exact e) (cG.of aB)⟩
variable{K:Frag}
theorem aK.seqT(e:aK H H')(h:cG K H a xs):cG K H' a xs:=by
 rcases h with (h|⟨o,h⟩)|h
 ·exact .inl (.inl (e _ _ h))
 ·exact .inl (.inr ⟨o,e _ _ h⟩)
 ·exact .inr h
end L2
namespace Br1
open PySem PySem.Spec PyProof.Rows L2
def iA(aj:List (List Int))(ns:List Int):Bool:=aj.any λm=>decide (m.take ns.length=ns)
theorem Vp(m:List Int)(k:Nat):zX (m.map V.int) none (some (k:Int))=(m.take k).map V.int:=by
 unfold zX
 rw[HT.Wb,HT.Xv,CV,List.drop_zero,ai]
 rw[<-List.map_take]
 congr 1
 by_cases h:k<=m.length
 ·rw[O1 h]
 ·rw[O2 (by omega),jo,ym (by omega)]
variable{K:Frag}
theorem pI.same(h:pI K H xs aj)(s:aK H H'):pI K H' xs aj:=Paired.mapP h λx ns z=>by
 obtain⟨p,e,t⟩:=z
 exact⟨p,e,s.seqT t⟩
def wM(K:Frag):Sp:=λvs H Q _=>∃(a q:Addr)(xs:List V) (aj:List (List Int)) (ns:List Int),vs=[.ref a,.ref q]/\cP K H a xs/\pI K H xs aj/\cG K H q (ns.map V.int)/\aj.length<=64/\∀H',aK H H'->Q (.bl (iA aj ns)) H'
theorem uG:aN ["names","beginning","name"] ["names","beginning"] (aG rA):=⟨rfl,rfl,rfl,by decide+kernel,rfl,by decide+kernel,by decide+kernel⟩
def aFb(K:Frag):List V->Hp->VK->Prop:=λxs H Q=>∃p ys,xs=[.ref p]/\(cP K H p ys\/cG K H p ys)/\Q (.int ys.length) H
theorem Po(F:eZ K "some_begins" "some_begins" rA f fd)(TJ:mg "any"=none)(bi:mg "len"=none):bO P w K mg base bN 2 f fd ["names","beginning"] (wM K):=by
 refine F.ok uG (λvs H Q E h=>?_) (λak A outer s H vs Q E hr h=>?_)
 ·obtain⟨a,q,xs,aj,ns,rfl,_⟩:=h
  rfl
 ·obtain⟨a,q,xs,aj,ns,rfl,ha,ht,hq,hn,k⟩:=h
  have hu:=iQ hr
  refine⟨_,aH (aR (bS (aDb rfl) (by rfl) TJ boot_any (aA (uQ (own:=[("name",2)]) (te:=vG (aCx K) (tSl (aAf K) (cU 2) Ei (Ta (tCB (aFb K) (dH (cU 1) gC)))) (cU 1)) rfl uG.nd (fN (pv 0)) (eN (N:=["names","beginning","name"]) (sc:=aG rA) (by decide+kernel))
      (λ_ _ _ _ _=>bE (i:=2) uG.nd rfl (Or.inl rfl)) (λ_ _ _ _ _=>fY)
      (λ_ _ _ _ _=>mB (r:=aCx K) (aC7 (AM hu)) (Hi (r:=aAf K) Nz (pv 2) No (Ou (bS (r:=aFb K) bW (by rfl) bi boot_len (aA (pv 1) aE)))) (pv 1) (gX _))) aE))),?_⟩
  have o3:xs.length=aj.length:=Paired.length ht
  have bu:=bA
  refine⟨_,rfl,a,rfl,⟨_,ha⟩,λDl c6=>?_⟩
  refine jQ (xs:=xs) (λi H'=>aK H H'/\H' Dl=some (.lst (((aj.take i).map λm=>decide (m.take ns.length=ns)).map V.bl))) ⟨aK.new c6,aB⟩ (λi H' _ z=>z.1.seq ha) ?_ ?_
  ·rintro i x H1 ex ⟨S1,cz⟩
   have hi:i<aj.length:=by
    have:=(bp.mp ex).1
    (clear bu hu hn;omega)
   obtain⟨m,em⟩:∃m,aj[i]?=some m:=⟨_,ax hi⟩
   obtain⟨x',KE,p,rfl,hp⟩:=bT ht em
   rw[KE] at ex
   cases ex
   have hl:((ns.map V.int).length:Int)=(ns.length:Int):=by rw[ai]
   refine⟨rfl,_,rfl,_,rfl,q,_,rfl,.inr (S1.seqT hq),_,rfl,p,_,rfl,S1.seqT hp,λp2 H2 S2 uu=>?_⟩
   rw[hl,Vp] at uu
   refine⟨_,rfl,p2,q,_,_,rfl,rfl,uu,S2.seqT (S1.seqT hq),_,S2 _ _ cz,?_,?_,?_⟩
   ·rw[ai,ai,gf]
    (clear hl hi o3 hu;omega)
   ·intro b' o e
    rw[aC (aD e c6)]
    exact S2 _ _ (S1 _ _ e)
   ·rw[aB,jg,em,c9,c9]
    rfl
  ·rintro H1 ⟨S1,cz⟩
   rw[o3,jo] at cz
   refine⟨Dl,_,rfl,cP.of cz,?_⟩
   have kk:=k H1 S1
   unfold iA at kk
   rw[B']
   exact kk
def cQ(aj:List (List Int))(l:List Int):Nat->Nat->List Int->List Int×Nat
 |0,p,acc=>(acc,p)
 |n+1,p,acc=>if iA aj (acc++[aT l p])=true then cQ aj l n (p+1) (acc++[aT l p]) else (acc,p)
def qW(aj:List (List Int))(ns:List Int):Nat:=aj.findIdx λm=>decide (m=ns)
def sR(aj:List (List Int))(l:List Int)(p:Nat):Except Nat (Nat×Nat):=if (cQ aj l 8 p []).1∈aj then .ok (qW aj (cQ aj l 8 p []).1,(cQ aj l 8 p []).2) else .error (cQ aj l 8 p []).2
def aBa(aj:List (List Int)):Prop:=aj.length<=64/\∀m∈aj,m.length<=8/\(256:Int)∉m
theorem Lg{acc:List Int}{h:Int}(ok:aBa aj)(e:iA aj (acc++[h])=true):acc.length<8/\h≠256:=by
 unfold iA at e
 obtain⟨m,hm,z⟩:=mr.mp e
 have z:=dw z
 obtain⟨g1,g2⟩:=ok.2 m hm
 have hl:=congrArg List.length z
 rw[gf,c8] at hl
 refine⟨?_,λq=>g2 ?_⟩
 ·have:([h]:List Int).length=1:=rfl
  (clear g2;omega)
 ·have:h∈m.take (acc++[h]).length:=by rw[z];simp
  rw[<-q]
  exact O3 this
theorem Zp(h:ns∈aj):aj[qW aj ns]?=some ns:=by
 have hl:qW aj ns<aj.length:=O4 ⟨ns,h,decide_eq_true rfl⟩
 rw[ax hl]
 have:=List.findIdx_getElem (p:=λm=>decide (m=ns)) (xs:=aj) (w:=hl)
 exact congrArg some (dw this)
theorem aAw(hm:m<qW aj ns)(e:aj[m]?=some ms):ms≠ns:=by
 have h:=List.not_of_lt_findIdx (p:=λm=>decide (m=ns)) (xs:=aj) hm
 obtain⟨hl,e⟩:=bp.mp e
 intro z
 rw[e,z] at h
 simp at h
theorem pI.sx{C':Addr}{fs:List (Str×V)}(h:pI K H xs aj)(s:SX r H H')(hr:H r=some (.ins C' dx fs)):pI K H' xs aj:=Paired.mapP h λx ns z=>by
 obtain⟨p,e,t⟩:=z
 exact⟨p,e,s.seqT hr t⟩
structure Nms(K:Frag)(H:Hp)(na:Addr)(aj:List (List Int)):Prop where
 ex:∃xs,cP K H na xs/\pI K H xs aj
 ok:aBa aj
theorem Nms.sx{na:Addr}(h:Nms K H na aj)(s:SX r H H')(hr:iB CR H r a p):Nms K H' na aj:=by
 obtain⟨⟨xs,h1,h2⟩,h3⟩:=h
 obtain⟨dx,g⟩:=hr
 exact⟨⟨xs,s.seq g h1,pI.sx h2 s g⟩,h3⟩
def zS(K:Frag)(CR:Addr):Sp:=λvs H Q E=>∃(r a na:Addr)(l:List Int)(p:Nat) (aj:List (List Int)),vs=[.ref r,.ref na]/\jW K CR H r a l p/\Nms K H na aj/\
 match sR aj l p with
 |.ok q=>∀H':Hp,jW K CR H' r a l q.2->SX r H H'->Q (.int q.1) H'
 |.error i=>∀H':Hp,SX r H H'->E (.int i 0) none H'
theorem tF:aN ["reader","names","beginning"] ["reader","names"] (aG wE):=⟨rfl,rfl,rfl,by decide+kernel,rfl,by decide+kernel,by decide+kernel⟩
theorem Oy(F:eZ K "read_part_number" "read_part_number" wE f fd)(T:Iw K CR)(S:StT P w K mg base C)(M1:oK P w K mg base CR "here" bN 2 ["self"] (qH K CR))(M2:oK P w K mg base CR "take" bN 3 ["self"] (qJ K CR))
  (L1:dE P w K mg base "some_begins" bN 2 ["names","beginning"] (wM K)):bO P w K mg base (jA C P w) 5 f fd ["reader","names"] (zS K CR):=by
 obtain⟨f1,qj,m1,G1,b1⟩:=M1.ex
 obtain⟨f2,wz,m2,G2,b2⟩:=M2.ex
 obtain⟨gb,W7,GB,bB,kB,hB⟩:=L1.ex
 obtain⟨fx,A6,XT,GX,bx⟩:=S.ex
 refine F.okX tF (λvs H Q E h=>?_) (λak A outer s H vs Q E hr h=>?_)
 ·obtain⟨r,a,na,l,p,aj,rfl,_⟩:=h
  rfl
 ·obtain⟨r,a,na,l,p,aj,rfl,x,hn,k⟩:=h
  have iw:=hr.mono (j:=3) (by decide)
  have a9:=hr.mono (j:=2) (by decide)
  have hu:=iQ hr
  refine⟨_,aF (bF (i:=2) tF.nd rfl (Or.inl rfl) (dO aE))
   (aF (kR aO.own (eQ (aP GB a9 (by rfl) hB kB bB .nil aX (aA (pv 1) (aA (bY Om (pv 2) (dO (aA (cC (pv 0) T.cl m1 G1 a9 b1 .nil aX) aE))) aE))))
    (aH (bF (i:=2) tF.nd rfl (Or.inl rfl) (bY Om (pv 2) (dO (aA (cC (pv 0) T.cl m2 G2 iw b2 .nil aX) aE))))))
   (aF (eA (fM (Pa hu) (pv 2) (pv 1) (by with_unfolding_all rfl)) (aH (nA aO rfl XT GX a9 (by rfl) S.mg bx (aU (pv 0) rfl))) bX)
   (aH (aR (uY plainAttrs_list PySem.F.slot_list_index PySem.F.type_list_index (Re hu) (pv 1) (aA (pv 2) aE)))))),?_⟩
  obtain⟨⟨dx,h1⟩,tx,le⟩:=id x
  refine⟨c7 _,λq0 TK=>?_⟩
  have S0:=aK.new (o:=.tup []) TK
  have bu:=bA
  refine⟨λm σ H'=>∃(acc:List Int)(q:Addr)(p':Nat),σ=[some (.ref r),some (.ref na),some (.ref q)]/\SX r H H'/\iB CR H' r a p'/\p'<=l.length/\cG K H' q (acc.map V.int)/\acc.length+m=8/\cQ aj l 8 p []=cQ aj l m p' acc,
   ⟨8,[],q0,p,rfl,aK.sx S0,⟨dx,S0 _ _ h1⟩,le,cG.of aB,rfl,rfl⟩,?_⟩
  rintro m σ H1 ⟨acc,q,p',rfl,s1,bj,gu,hq,hm,e1⟩
  have x1:=x.same s1 bj gu
  have o7:=hn.sx s1 x.rd
  obtain⟨f8,g1⟩:=id bj
  obtain⟨⟨xs,ha,ht⟩,ok⟩:=id o7
  refine⟨_,rfl,_,rfl,_,rfl,r,f8,_,rfl,g1,rfl,r,a,l,p',rfl,x1,by show 1<=sizeLine;decide,λq1 qk=>?_⟩
  have S2:=aK.new (o:=.tup [.int (aT l p')]) qk
  refine⟨q,q1,acc.map V.int,[.int (aT l p')],rfl,rfl,S2.seqT hq,cG.of aB,(by simp),by rw[ai];show acc.length+1<=_;(clear gu le hu;omega),λq2 H2 S3 f9=>?_⟩
  have S4:aK H1 H2:=S2.trans S3
  have f9:cG K H2 q2 ((acc++[aT l p']).map V.int):=by rw[c9];exact f9
  refine⟨na,q2,xs,aj,_,rfl,S4.seq ha,pI.same ht S4,f9,ok.1,λH3 S5=>?_⟩
  have S6:aK H1 H3:=S4.trans S5
  have s3:SX r H H3:=s1.trans (aK.sx S6)
  have iw:iB CR H3 r a p':=⟨f8,S6 _ _ g1⟩
  refine⟨_,rfl,bZ (λhb=>?_) (λhb=>?_)⟩
  ·obtain⟨am,kx⟩:=Lg ok hb
   have lt:=gA kx
   obtain⟨n,rfl⟩:∃n,m=n+1:=⟨m - 1,by (clear lt kx gu bu le hu;omega)⟩
   refine⟨λah H'=>∃(acc:List Int)(q:Addr)(p':Nat),ah=[some (.ref r),some (.ref na),some (.ref q)]/\SX r H H'/\iB CR H' r a p'/\p'<=l.length/\cG K H' q (acc.map V.int)/\acc.length+n=8/\cQ aj l 8 p []=cQ aj l n p' acc,λah H' z=>⟨n,lu n,z⟩,?_⟩
   refine⟨_,rfl,_,rfl,r,f8,_,rfl,S6 _ _ g1,rfl,r,a,l,p',rfl,x.same s3 iw gu,λH4 jb s4=>⟨by show 1<=sizeLine;decide,λq5 zq=>?_⟩⟩
   have S7:=aK.new (o:=.tup [.int (aT l p')]) zq
   have w9:=s4.seqT (S6 _ _ g1) (S6.seqT hq)
   refine⟨q,q5,acc.map V.int,[.int (aT l p')],rfl,rfl,S7.seqT w9,cG.of aB,(by simp),by rw[ai];show acc.length+1<=_;(clear hm lt kx gu le hu;omega),λq6 H5 S8 DU=>?_⟩
   have S9:=S7.trans S8
   obtain⟨BC,g4⟩:=jb
   refine⟨acc++[aT l p'],q6,p'+1,rfl,(s3.trans s4).trans (aK.sx S9),⟨BC,S9 _ _ g4⟩,lt,by rw[c9];exact DU,by rw[c8];show acc.length+1+n=8;(clear lt kx am gu bu le hu;omega),?_⟩
   rw[e1]
   show (if _ then _ else _)=_
   rw[af hb]
  ·have e2:cQ aj l 8 p []=(acc,p'):=by
    rw[e1]
    cases m with
    |zero=>rfl
    |succ n=>
     show (if _ then _ else _)=_
     rw[ae hb]
   have GJ:=o7.sx (aK.sx S6) bj
   obtain⟨⟨MD,BI,xi⟩,_⟩:=id GJ
   unfold sR at k
   rw[e2] at k
   refine⟨_,rfl,_,rfl,q,na,acc,MD,aj,rfl,rfl,S6.seqT hq,BI,xi,_,rfl,bZ (λcg=>?_) (λcg=>?_)⟩
   ·have cg:¬acc∈aj:=by
     have cg:(!decide (acc∈aj))=true:=cg
     rw[cq,lx] at cg
     exact cg
    rw[ae cg] at k
    exact⟨_,rfl,r,CR,f8,_,_,rfl,S6 _ _ g1,T.cl,T.nP,gQ _ _,_,rfl,k H3 s3⟩
   ·have cg:acc∈aj:=by
     have cg:¬(!decide (acc∈aj))=true:=cg
     rw[cq,lx,AJ] at cg
     exact cg
    rw[af cg] at k
    refine⟨_,rfl,.inl ⟨rfl,_,BI⟩,_,rfl,na,q,MD,aj,acc,qW aj acc,rfl,rfl,BI,xi,S6.seqT hq,Zp cg,λm ms hm em=>aAw hm em,?_⟩
    exact k H3 (x.same s3 iw gu) s3
def dA(l:List Int):List Nat->Nat->Except Nat (List Nat×Nat)
 |[],p=>.ok ([],p)
 |m::ms,p=>eM (aV l p [32]) λp1=>eM (jB l p1 0 m) λv=>gI v.1 (dA l ms v.2)
def fJ:List Nat:=[255,63,63,95,3]
def eT(aj:List (List Int))(l:List Int)(p:Nat):Except Nat (List Nat×Nat):=
 eM (aV l p [112,117,116,32]) λp1=>eM (sR aj l p1) λq=>eM (dA l fJ q.2) λr=>eM (aV l r.2 [10]) λp5=>.ok (q.1::r.1,p5)
theorem Sj:("put ":Str).cps.toList=[112,117,116,32]:=by decide+kernel
theorem yK:∀{ms:List Nat}{p:Nat}{r:List Nat×Nat},dA l ms p=.ok r->r.1.length=ms.length
 |[],p,r,h=>by cases h;rfl
 |m::ms,p,r,h=>by
  rw[dA] at h
  cases e1:aV l p [32] with
  |error i=>rw[e1] at h;cases h
  |ok p1=>
   rw[e1,cA] at h
   cases e2:jB l p1 0 m with
   |error i=>rw[e2] at h;cases h
   |ok v=>
    rw[e2,cA] at h
    cases e3:dA l ms v.2 with
    |error i=>rw[e3] at h;cases h
    |ok q=>
     rw[e3] at h
     cases h
     show (_::q.1).length=ms.length+1
     rw[bw,yK e3]
def Eu(n:Nat):V:=.int n
def Jg(K:Frag)(CR:Addr):Sp:=λvs H Q E=>∃(r a na:Addr)(l:List Int)(p:Nat) (aj:List (List Int)),vs=[.ref r,.ref na]/\jW K CR H r a l p/\Nms K H na aj/\
 match eT aj l p with
 |.ok q=>∀(H':Hp)(t:Addr),jW K CR H' r a l q.2->SX r H H'->H t=none->H' t=some (.tup (q.1.map Eu))->q.1.length=6->Q (.ref t) H'
 |.error i=>∀H':Hp,SX r H H'->E (.int i 0) none H'
theorem Dx:aN ["reader","names","numbers","most"] ["reader","names"] (aG oW):=⟨rfl,rfl,rfl,by decide+kernel,rfl,by decide+kernel,by decide+kernel⟩
theorem Zs(F:eZ K "read_line" "read_line" oW f fd)(T:Iw K CR)(A7:mg "tuple"=none)(c1:CI mg "MOST_COLOUR" 255)(c2:CI mg "ROOM_WIDTH" 64)(c3:CI mg "ROOM_DEPTH" 64)(c4:CI mg "ROOM_HEIGHT" 96)(c5:CI mg "MOST_TURNS" 3)
  (M1:oK P w K mg base CR "read_word" (jA C P w) 5 ["self","word"] (lP K CR)) (M3:oK P w K mg base CR "read_number" (jA C P w) 4 ["self","least","most"] (kM K CR))
  (L1:dE P w K mg base "read_part_number" (jA C P w) 5 ["reader","names"] (zS K CR)):bO P w K mg base (jA C P w) 6 f fd ["reader","names"] (Jg K CR):=by
 obtain⟨f1,qj,m1,G1,b1⟩:=M1.ex
 obtain⟨f3,LF,m3,G3,b3⟩:=M3.ex
 obtain⟨gp,W8,GP,bP,kP,hP⟩:=L1.ex
 refine F.okX Dx (λvs H Q E h=>?_) (λak A outer s H vs Q E hr h=>?_)
 ·obtain⟨r,a,na,l,p,aj,rfl,_⟩:=h
  rfl
 ·obtain⟨r,a,na,l,p,aj,rfl,x,hn,k⟩:=h
  have jb:=hr.mono (j:=4) (by decide)
  refine⟨_,aF (cR (cZ (pv 0) T.cl m1 G1 hr b1 .nil aO.pass (aA gM aE)))
   (aF (bF (i:=2) Dx.nd rfl (Or.inl rfl) (eD (aA (aP GP hr (by rfl) hP kP bP .nil aO.pass (aA (pv 0) (aA (pv 1) aE))) aE)))
   (aF (eG aO.own rfl (Jk (dO (aA (eB c1) (aA (bY eE (eB c2) aI) (aA (bY eE (eB c3) aI) (aA (bY eE (eB c4) aI) (aA (eB c5) aE))))))) (bE (i:=3) Dx.nd rfl (Or.inl rfl))
    (aF (cR (cZ (pv 0) T.cl m1 G1 hr b1 .nil aO.pass (aA gM aE)))
    (aH (cR (uY plainAttrs_list PySem.F.slot_list_append PySem.F.type_list_append gN (pv 2) (aA (cZ (pv 0) T.cl m3 G3 jb b3 .nil aO.pass (aA aI (aA (pv 3) aE))) aE))))))
   (aF (cR (cZ (pv 0) T.cl m1 G1 hr b1 .nil aO.pass (aA gM aE)))
   (aH (aR (uC pP (by rfl) A7 boot_tuple (aA (pv 2) aE))))))),?_⟩
  unfold eT at k
  have bu:=bA
  refine eX (iF rfl Sj (by decide) x (λi e1 H' s1=>by rw[e1] at k;exact k H' s1) λp1 e1 H1 x1 s1=>?_)
  rw[e1,cA] at k
  refine⟨_,rfl,_,rfl,r,a,na,l,p1,aj,rfl,x1,hn.sx s1 x.rd,?_⟩
  cases e2:sR aj l p1 with
  |error i=>
   intro H' s'
   rw[e2] at k
   exact k H' (s1.trans s')
  |ok q=>
   intro H2 x2 s2
   rw[e2,cA] at k
   refine⟨by show 1<=sizeLine;decide,λnb DV=>?_⟩
   have S3:=aK.new (o:=.lst [V.int q.1]) DV
   have s3:SX r H (upd H2 nb (.lst [V.int q.1])):=(s1.trans s2).trans (aK.sx S3)
   obtain⟨ij,g2⟩:=x2.rd
   have BJ:nb≠r:=λz=>by rw[z,g2] at DV;cases DV
   have TN:H nb=none:=by
    cases z:H nb with
    |none=>rfl
    |some o=>
     have:=(s1.trans s2) nb o z BJ
     rw[DV] at this
     cases this
   have HK:iB CR (upd H2 nb (.lst [V.int q.1])) r a q.2:=⟨ij,S3 _ _ g2⟩
   have HL:upd H2 nb (.lst [V.int q.1]) nb=some (.lst ((q.1::[]).map Eu)):=aB
   generalize upd H2 nb (.lst [V.int q.1])=H3 at S3 s3 HK HL
   refine⟨_,_,rfl,rfl,_,_,rfl,rfl,_,_,rfl,rfl,by show 5<=sizeLine;decide,λtb ME=>?_⟩
   have S4:=aK.new (o:=.tup (fJ.map Eu)) ME
   have MF:upd H3 tb (.tup (fJ.map Eu)) tb=some (.tup (fJ.map Eu)):=aB
   refine⟨tb,rfl,⟨_,cG.of MF⟩,?_⟩
   have s4:SX r H (upd H3 tb (.tup (fJ.map Eu))):=s3.trans (aK.sx S4)
   have TQ:iB CR (upd H3 tb (.tup (fJ.map Eu))) r a q.2:=let ⟨dx,g⟩:=HK;⟨dx,S4 _ _ g⟩
   have DP:=S4 _ _ HL
   have DW:H3 tb=none:=ME
   have kE:∀i,dA l fJ q.2=.error i->∀H',SX r H H'->E (.int i 0) none H':=λi e H' s'=>by
    rw[e] at k
    exact k H' s'
   refine Ct (xs:=fJ.map Eu) (λi σ H'=>∃(vs:List Nat)(p':Nat)(v3:Option V),σ=[some (.ref r),some (.ref na),some (.ref nb),v3]/\vs.length=i/\SX r H H'/\iB CR H' r a p'/\p'<=l.length/\H' nb=some (.lst ((q.1::vs).map Eu))/\
     H' tb=some (.tup (fJ.map Eu))/\dA l fJ q.2=fT vs (dA l (fJ.drop i) p')) ⟨[],q.2,none,rfl,rfl,s4,TQ,x2.le,DP,MF,by rw[kI];rfl⟩ ?_ ?_ ?_
   ·rintro i σ H5 _ ⟨vs,p',v3,_,_,_,_,_,_,h,_⟩
    exact cG.of h
   ·rintro i v σ H5 ev ⟨vs,p',v3,rfl,vd,s5,HM,zr,HN,MH,e5⟩
    rw[bg] at ev
    obtain⟨m,em,rfl⟩:=o9.mp ev
    have hi:i<5:=(bp.mp em).1
    have hm:m<=255:=by
     have:=fj em
     revert this
     unfold fJ
     simp
     (clear hi zr vd bu;omega)
    have ed:fJ.drop i=m::fJ.drop (i+1):=by
     have hl:i<fJ.length:=hi
     have:=E7 hl
     rw[this]
     have e2:=(bp.mp em).2
     rw[e2]
    rw[ed] at e5
    have x5:=x.same s5 HM zr
    have e6:dA l (m::fJ.drop (i+1)) p'=eM (aV l p' [32]) λp1=>eM (jB l p1 0 m) λv=>gI v.1 (dA l (fJ.drop (i+1)) v.2):=rfl
    rw[e6] at e5
    refine eX (iF rfl iZ b32 x5 (λj ej H' s'=>kE j (by rw[e5,ej];rfl) H' (s5.trans s')) λp6 ew H6 x6 s6=>?_)
    rw[ew,cA] at e5
    have MI:H6 nb=some (.lst ((q.1::vs).map Eu)):=s6 _ _ HN BJ
    obtain⟨HP,g6⟩:=x6.rd
    refine⟨_,rfl,.inl ⟨rfl,_,cP.of MI⟩,_,rfl,r,HP,_,rfl,g6,rfl,_,rfl,?_⟩
    dsimp only[gC,List.cons_append,List.nil_append]
    refine Go (hi:=m) x6 (by decide) (by (clear hi zr vd bu;omega)) (λv en TR _ H7 x7 s7=>?_) (λen=>?_)
    ·rw[en,cA,iW] at e5
     have TU:=(s5.trans s6).trans s7
     have HQ:H7 nb=some (.lst ((q.1::vs).map Eu)):=s7 _ _ MI BJ
     refine⟨nb,_,_,rfl,rfl,HQ,by rw[ai,bw];(clear TR hm zr;omega),?_⟩
     obtain⟨HR,g7⟩:=x7.rd
     have TV:tb≠nb:=λz=>by rw[z,HL] at DW;cases DW
     have DX:tb≠r:=λz=>by obtain⟨_,g⟩:=HK;rw[z,g] at DW;cases DW
     refine⟨vs++[v.1],v.2,_,rfl,by simp[vd],λb o e hb=>?_,⟨HR,by rw[aC (au BJ)];exact g7⟩,x7.le,?_,?_,e5⟩
     ·rw[aC (aD e TN)]
      exact TU b o e hb
     ·rw[aB]
      simp[Eu]
     ·rw[aC TV]
      exact s7 _ _ (s6 _ _ MH DX) DX
    ·exact kE p6 (by rw[e5,en];rfl) H6 (s5.trans s6)
   ·rintro σ H5 ⟨vs,p',v3,rfl,vd,s5,HM,zr,HN,MH,e5⟩
    have vd:vs.length=5:=vd
    have e6:dA l fJ q.2=.ok (vs,p'):=by
     rw[e5]
     show Except.ok (vs++[],p')=_
     rw[ie]
    rw[e6,cA] at k
    have x5:=x.same s5 HM zr
    refine eX (iF rfl rS b10 x5 (λj ej H' s'=>by rw[ej] at k;exact k H' (s5.trans s')) λp7 ew H7 x7 s7=>?_)
    rw[ew,cA] at k
    have HQ:H7 nb=some (.lst ((q.1::vs).map Eu)):=s7 _ _ HN BJ
    have HU:=s5.trans s7
    refine⟨_,rfl,nb,_,rfl,.inl ⟨cP.of HQ,λt ht=>?_⟩⟩
    have ST:=aK.new (o:=.tup ((q.1::vs).map Eu)) ht
    obtain⟨HR,g7⟩:=x7.rd
    have DX:t≠r:=λz=>by rw[z,g7] at ht;cases ht
    refine k _ t (x.same (HU.trans (aK.sx ST)) ⟨HR,ST _ _ g7⟩ x7.le) (HU.trans (aK.sx ST)) ?_ aB (by rw[bw,vd])
    cases z:H t with
    |none=>rfl
    |some o=>
     have:=HU t o z DX
     rw[ht] at this
     cases this
def cJ(aj:List (List Int))(l:List Int):Nat->Nat->Except Nat (List (List Nat)×Nat)
 |0,p=>.ok ([],p)
 |n+1,p=>if p=l.length then .ok ([],p) else eM (eT aj l p) λq=>gI q.1 (cJ aj l n q.2)
def dP(aj:List (List Int))(l:List Int):Except Nat (List Int×List (List Nat)):=
 eM (aV l 0 [98,117,105,108,100,32]) λp1=>eM (gG l p1 16) λnm=>eM (aV l nm.2 [10]) λp3=>eM (cJ aj l 256 p3) λr=>if r.2=l.length then .ok (nm.1,r.1) else .error r.2
theorem Ka:("build ":Str).cps.toList=[98,117,105,108,100,32]:=by decide+kernel
def jL(H:Hp)(ts:List Addr)(ls:List (List Nat)):Prop:=Paired (λt x=>H t=some (.tup (x.map Eu))/\x.length=6) ts ls
def BdF(na la:Addr):List (Str×V):=[("name",.ref na),("lines",.ref la)]
structure BdT(K:Frag)(CB:Addr):Prop where
 cl:Ix K CB
 n1:dG K CB "name"
 n2:dG K CB "lines"
def yA(CB:Addr)(H:Hp)(q:Addr)(nm:List Int)(ls:List (List Nat)):Prop:=∃(dx na la:Addr)(ts:List Addr),H q=some (.ins CB dx (BdF na la))/\H na=some (.tup (nm.map V.int))/\H la=some (.lst (ts.map V.ref))/\jL H ts ls/\ls.length<=256/\nm.length<=16
theorem jL.keep(h:jL H ts ls)(s:∀b xs,H b=some (.tup xs)->H' b=some (.tup xs)):jL H' ts ls:=Paired.mapP h λt x e=>⟨s _ _ e.1,e.2⟩
theorem yA.same{nm:List Int}(h:yA CB H q nm ls)(s:aK H H'):yA CB H' q nm ls:=by
 obtain⟨dx,na,la,ts,h1,h2,h3,h4,h5⟩:=h
 exact⟨dx,na,la,ts,s _ _ h1,s _ _ h2,s _ _ h3,h4.keep λb xs e=>s _ _ e,h5⟩
def Sm(CB:Addr):Sp:=λvs H Q _=>∃(r dx na la:Addr),vs=[.ref r,.ref na,.ref la]/\H r=some (.ins CB dx [])/\∀H':Hp,H' r=some (.ins CB dx (BdF na la))->SX r H H'->Q .non H'
theorem aC8:aN ["self","name","lines"] ["self","name","lines"] (aG vW):=⟨rfl,rfl,rfl,by decide+kernel,rfl,by decide+kernel,by decide+kernel⟩
theorem aDn(F:eZ K "__init__" "Build.__init__" vW f fd)(T:BdT K CB):bO P w K mg base bN 1 f fd ["self","name","lines"] (Sm CB):=by
 refine F.ok aC8 (λvs H Q E h=>?_) (λak A outer s H vs Q E hr h=>?_)
 ·obtain⟨r,dx,na,la,rfl,_⟩:=h
  rfl
 ·obtain⟨r,dx,na,la,rfl,hp,k⟩:=h
  refine⟨_,aF (dZ (pv 0) (pv 1) rfl) (aH (dZ (pv 0) (pv 2) rfl)),?_⟩
  refine⟨_,rfl,_,rfl,r,CB,dx,_,rfl,hp,T.cl,T.n1,(by show 0<1000;decide),?_⟩
  refine⟨_,rfl,_,rfl,r,CB,dx,_,rfl,aB,T.cl,T.n2,(by show 1<1000;decide),?_⟩
  exact k _ aB λb o e hb=>by rw[aC hb,aC hb];exact e
structure BdM(P:Program)(w:World)(K:Frag)(mg:Str->Option Value)(base:Heap)(CB:Addr):Prop where
 ex:∃f fd,Mk K CB f/\bO P w K mg base bN 1 f fd ["self","name","lines"] (Sm CB)/\eR K fd ["self","name","lines"] []
 mg:mg "Build"=some (.ref CB)
theorem Ie{cs:List Nat}{σ:List (Option V)}{E:XK}(lh:σ[j]?=some (some (.ref r)))(hx:x.cps.toList=cs)(kx:∀c∈cs,c<256)(tx:jW K CR H r a l p)
  (k2:∀i,aV l p cs=.error i->∀H',SX r H H'->E (.int i 0) none H') (k1:∀p',aV l p cs=.ok p'->∀H',jW K CR H' r a l p'->SX r H H'->D.nx σ H'):Ay (mQ CR "read_word" (lP K CR) [] E (cU j) (dH (tC (.str x)) gC)) D σ H:=by
 obtain⟨⟨dx,h1⟩,_,_⟩:=id tx
 exact⟨_,lh,r,dx,_,rfl,h1,rfl,Cj (Q:=λ_ H1=>D.nx σ H1) hx kx tx (λp' e H' x' s'=>k1 p' e H' x' s') k2⟩
theorem Vx{σ:List (Option V)}{E:XK}(lh:σ[j]?=some (some (.ref r)))(tx:jW K CR H r a l p)(hL:L<=1000)(k2:gG l p L=.error p->E (.int p 0) none H)
  (k1:∀v:List Int×Nat,gG l p L=.ok v->∀(H':Hp)(q:Addr),jW K CR H' r a l v.2->SX r H H'->H' q=some (.tup (v.1.map V.int))->v.1.length<=L->D.nx (σ.set i (some (.ref q))) H'):
  Fn (mQ CR "read_name" (qA K CR) [] E (cU j) (dH (tC (.int L)) gC)) (mG i) D σ H:=by
 obtain⟨⟨dx,h1⟩,_,_⟩:=id tx
 exact⟨_,lh,r,dx,_,rfl,h1,rfl,Ba (Q:=λy H1=>D.nx (σ.set i (some y)) H1) tx hL (λv e H' q x' s' g1 g2=>k1 v e H' q x' s' g1 g2) k2⟩
def wA(K:Frag)(CB:Addr):Sp:=λvs H Q E=>∃(a na:Addr)(l:List Int) (aj:List (List Int)),vs=[.ref a,.ref na]/\cP K H a (l.map V.int)/\Nms K H na aj/\
 match dP aj l with
 |.ok b=>∀(H':Hp)(q:Addr),aK H H'->yA CB H' q b.1 b.2->Q (.ref q) H'
 |.error i=>∀H':Hp,aK H H'->E (.int i 0) none H'
theorem sM:aN ["b","names","reader","name","lines"] ["b","names"] (aG mC):=⟨rfl,rfl,rfl,by decide+kernel,rfl,by decide+kernel,by decide+kernel⟩
def aEg(CR:Addr)(H:Hp)(r a na qn q:Addr)(nm:List Int)(aj:List (List Int))(l:List Int)(p0 m:Nat)(σ:List (Option V))(H':Hp):Prop:=
 ∃(ls:List (List Nat)) (ts:List Addr) (p':Nat),σ=[some (.ref a),some (.ref na),some (.ref r),some (.ref qn),some (.ref q)]/\H' qn=some (.tup (nm.map V.int))/\ls.length+m=256/\p'<=l.length/\aK H H'/\iB CR H' r a p'/\H' q=some (.lst (ts.map V.ref))/\
  jL H' ts ls/\cJ aj l 256 p0=fT ls (cJ aj l m p')
theorem Uo(F:eZ K "read_build" "read_build" mC f fd)(T:Iw K CR)(RK:RdK P w K mg base CR)(BM:BdM P w K mg base CB)(bi:mg "len"=none)(c1:CI mg "LONGEST_BUILD_NAME" 16)(c2:CI mg "MOST_LINES" 256)
  (M1:oK P w K mg base CR "ended" bN 1 ["self"] (pE K CR)) (M2:oK P w K mg base CR "read_end" (jA C P w) 3 ["self"] (Ai K CR)) (M3:oK P w K mg base CR "read_word" (jA C P w) 5 ["self","word"] (lP K CR))
  (M4:oK P w K mg base CR "read_name" (jA C P w) 4 ["self","longest"] (qA K CR)) (L1:dE P w K mg base "read_line" (jA C P w) 6 ["reader","names"] (Jg K CR)):bO P w K mg base (jA C P w) 7 f fd ["b","names"] (wA K CB):=by
 obtain⟨fb,W9,MB,GB,bB⟩:=BM.ex
 obtain⟨f1,qj,m1,G1,b1⟩:=M1.ex
 obtain⟨f2,wz,m2,G2,b2⟩:=M2.ex
 obtain⟨f3,LF,m3,G3,b3⟩:=M3.ex
 obtain⟨f4,W',m4,G4,b4⟩:=M4.ex
 obtain⟨g1,gc,GP,bP,kP,hP⟩:=L1.ex
 obtain⟨fr,fdr,MR,GR,bR⟩:=RK.ex
 refine F.okX sM (λvs H Q E h=>?_) (λak A outer s H vs Q E hr h=>?_)
 ·obtain⟨a,na,l,aj,rfl,_⟩:=h
  rfl
 ·obtain⟨a,na,l,aj,rfl,tx,hn,k⟩:=h
  have j1:=hr.mono (j:=5) (by decide)
  have jb:=hr.mono (j:=4) (by decide)
  have iw:=hr.mono (j:=3) (by decide)
  have a9:=hr.mono (j:=2) (by decide)
  have bj:=hr.mono (j:=1) (by decide)
  refine⟨_,aF (bF (i:=2) sM.nd rfl (Or.inl rfl) (qQ MR GR a9 (by rfl) RK.mg bR .nil aX (aA (pv 0) aE)))
   (aF (cR (cZ (pv 2) T.cl m3 G3 j1 b3 .nil aO.pass (aA gM aE)))
   (aF (bF (i:=3) sM.nd rfl (Or.inl rfl) (cZ (pv 2) T.cl m4 G4 jb b4 .nil aO.pass (aA (eB c1) aE)))
   (aF (cR (cZ (pv 2) T.cl m3 G3 j1 b3 .nil aO.pass (aA gM aE)))
   (aF (bF (i:=4) sM.nd rfl (Or.inl rfl) (eD aE))
   (aF (kR aO.own (hJ (dS (Op (bS bW (by rfl) bi boot_len (aA (pv 4) aE)) (eB c2))) (iE (lQ (eQ (cC (pv 2) T.cl m1 G1 bj b1 .nil aX))))).pt
    (aH (cR (uY plainAttrs_list PySem.F.slot_list_append PySem.F.type_list_append gN (pv 4) (aA (aP GP hr (by rfl) hP kP bP .nil aO.pass (aA (pv 2) (aA (pv 1) aE))) aE)))))
   (aF (cR (cC (pv 2) T.cl m2 G2 iw b2 .nil aO.pass))
   (aH (aR (qQ MB GB a9 (by rfl) BM.mg bB .nil aX (aA (pv 3) (aA (pv 4) aE))))))))))),?_⟩
  refine⟨_,rfl,λr dr nr ndr ndrr=>?_⟩
  refine⟨r,dr,a,rfl,aB,λH1 bj s1=>⟨rfl,?_⟩⟩
  have S1:aK H H1:=λy o e=>s1 y o (by rw[aC (aD e nr),aC (aD e ndr)];exact e) (aD e nr)
  have x1:jW K CR H1 r a l 0:=⟨bj,S1.seq tx,c7 _⟩
  have u9:∀{H2:Hp},SX r H1 H2->aK H H2:=λs2 y o e=>s2 y o (S1 y o e) (aD e nr)
  unfold dP at k
  refine eX (Ie rfl Ka (by decide) x1 (λi e1 H' s'=>by rw[e1] at k;exact k H' (u9 s')) λp1 e1 H2 x2 s2=>?_)
  rw[e1,cA] at k
  refine eX (Vx (L:=16) rfl x2 (by decide) (λe2=>by rw[e2] at k;exact k _ (u9 s2)) λnm e2 H3 qn x3 s3 TW zp=>?_)
  rw[e2,cA] at k
  have s3:=s2.trans s3
  refine eX (Ie rfl rS b10 x3 (λi e3 H' s'=>by rw[e3] at k;exact k H' (u9 (s3.trans s'))) λp4 e3 H4 x4 s4=>?_)
  rw[e3,cA] at k
  have TX:=s4.tup x3.rd TW
  have s4:=s3.trans s4
  have S4:=u9 s4
  refine⟨c7 _,λq hq=>?_⟩
  have sq:=aK.new (o:=.lst []) hq
  have GU:H q=none:=S4.free hq
  obtain⟨BC,g4⟩:=x4.rd
  have oy:r≠q:=λz=>by rw[z,hq] at g4;cases g4
  refine⟨λm=>aEg CR H r a na qn q nm.1 aj l p4 m,⟨256,[],[],p4,rfl,sq _ _ TX,rfl,x4.le,S4.trans sq,⟨BC,sq _ _ g4⟩,aB,.nil,by rw[kI]⟩,?_⟩
  rintro m σ H5 ⟨ls,ts,p',rfl,MJ,hm,lp,S5,j1,zq,pp,e5⟩
  have x5:jW K CR H5 r a l p':=⟨j1,S5.seq tx,lp⟩
  obtain⟨MK,g5⟩:=id j1
  have jj:ts.length=ls.length:=Paired.length pp
  have fin:cJ aj l m p'=.ok ([],p')->Fu (Ay (mQ CR "read_end" (Ai K CR) [] E (cU 2) gC)) (aCq (Nf CB (Sm CB) [] E0 (dH (cU 3) (dH (cU 4) gC)))) {nx:=λ_ H'=>Q .non H',rt:=Q} [some (.ref a),some (.ref na),some (.ref r),some (.ref qn),some (.ref q)] H5:=by
   intro e6
   have e7:cJ aj l 256 p4=.ok (ls,p'):=by
    rw[e5,e6]
    show Except.ok (ls++[],p')=_
    rw[ie]
   rw[e7,cA] at k
   refine⟨_,rfl,r,MK,_,rfl,g5,rfl,r,a,l,p',rfl,x5,λhe=>⟨_,rfl,_,rfl,λb' db ML TY XA=>⟨b',db,qn,q,rfl,aB,λH6 MN s6=>⟨rfl,?_⟩⟩⟩,λhe=>?_⟩
   ·have he:p'=l.length:=he
    rw[af he] at k
    have S6:aK H5 H6:=λy o e=>s6 y o (by rw[aC (aD e ML),aC (aD e TY)];exact e) (aD e ML)
    exact k H6 b' (S5.trans S6) ⟨db,qn,q,ts,MN,S6 _ _ MJ,S6 _ _ zq,pp.keep λy xs e=>S6 _ _ e,(by show ls.length<=256;(clear he jj lp;omega)),zp⟩
   ·have he:¬p'=l.length:=he
    rw[ae he] at k
    exact k H5 S5
  refine⟨_,rfl,q,_,rfl,.inl (cP.of zq),_,_,rfl,rfl,_,rfl,bZ (λam=>?_) (λam=>vI (fin ?_))⟩
  ·have am:((ts.map V.ref).length:Int)<256:=dw am
   rw[ai] at am
   obtain⟨n,rfl⟩:∃n,m=n+1:=⟨m - 1,by (clear lp;omega)⟩
   refine⟨_,rfl,r,MK,_,rfl,g5,rfl,r,a,l,p',rfl,x5,_,rfl,bZ (λaw=>?_) (λaw=>fin ?_)⟩
   ·rw[cq,lx] at aw
    refine⟨aEg CR H r a na qn q nm.1 aj l p4 n,λ_ _ z=>⟨n,lu n,z⟩,?_⟩
    have u5:Nms K H5 na aj:=by
     obtain⟨⟨xs,h1,h2⟩,h3⟩:=hn
     exact⟨⟨xs,S5.seq h1,pI.same h2 S5⟩,h3⟩
    refine⟨_,rfl,.inl ⟨rfl,_,cP.of zq⟩,_,rfl,_,rfl,r,a,na,l,p',aj,rfl,x5,u5,?_⟩
    have e6:cJ aj l (n+1) p'=eM (eT aj l p') λq=>gI q.1 (cJ aj l n q.2):=ae aw
    cases e7:eT aj l p' with
    |error i=>
     intro H' s'
     have e8:cJ aj l 256 p4=.error i:=by
      rw[e5,e6,e7]
      rfl
     rw[e8] at k
     exact k H' λy o e=>s' y o (S5 y o e) (aD e nr)
    |ok q1=>
     intro H6 t x6 s6 nt ht h6
     have DU:H6 q=some (.lst (ts.map V.ref)):=s6 _ _ zq (au oy)
     have bu:=bA
     refine⟨q,_,_,rfl,rfl,DU,?_,?_⟩
     ·rw[ai]
      (clear h6 aw hm jj lp;omega)
     ·obtain⟨HP,g6⟩:=x6.rd
      have tupk:∀b xs,H6 b=some (.tup xs)->upd H6 q (.lst (ts.map V.ref++[V.ref t])) b=some (.tup xs):=λb xs e=>by
       rw[aC (λz=>by rw[z,DU] at e;cases e)]
       exact e
      refine⟨ls++[q1.1],ts++[t],q1.2,rfl,tupk _ _ (s6.tup j1 MJ),by simp;(clear bu h6 aw am jj lp;omega),x6.le,λy o e=>?_,⟨HP,by rw[aC oy];exact g6⟩,by rw[aB,c9];rfl,?_,?_⟩
      ·rw[aC (aD e GU)]
       exact s6 y o (S5 y o e) (aD e nr)
      ·refine Paired.snoc ((pp.keep (H':=H6) λb xs e=>s6.tup j1 e).keep tupk) ⟨tupk _ _ ht,h6⟩
      ·rw[e5,e6,e7,cA,iW]
   ·rw[cq,lx,AJ] at aw
    exact af aw
  ·have am:¬((ts.map V.ref).length:Int)<256:=λz=>am (decide_eq_true z)
   rw[ai] at am
   rw[show m=0 by (clear lp;omega)]
   rfl
theorem uT:∀{n p:Nat},(256:Int)∉bJ l p n
 |0,p=>by simp[bJ]
 |n+1,p=>by
  rw[bJ]
  split
  ·rename_i h
   intro z
   rcases ao.mp z with z|z
   ·rw[<-z] at h
    revert h
    decide
   ·exact uT z
  ·simp
theorem aM{r:Except Nat α}{f:α->Except Nat β}{b:β}(h:eM r f=.ok b):∃a,r=.ok a/\f a=.ok b:=by
 cases r with
 |error i=>cases h
 |ok a=>exact⟨a,rfl,h⟩
theorem Sc{v:List Int×Nat}(h:gG l p L=.ok v):(256:Int)∉v.1:=by
 unfold gG at h
 split at h
 ·cases h
  exact uT
 ·cases h
theorem Gk{q:aL×Nat}(h:dW l p=.ok q):(256:Int)∉q.1.name:=by
 unfold dW at h
 obtain⟨p1,_,h⟩:=aM h
 obtain⟨nm,e,h⟩:=aM h
 have hn:=Sc e
 obtain⟨_,_,h⟩:=aM h
 obtain⟨_,_,h⟩:=aM h
 obtain⟨_,_,h⟩:=aM h
 obtain⟨_,_,h⟩:=aM h
 obtain⟨_,_,h⟩:=aM h
 obtain⟨_,_,h⟩:=aM h
 obtain⟨_,_,h⟩:=aM h
 obtain⟨_,_,h⟩:=aM h
 obtain⟨_,_,h⟩:=aM h
 obtain⟨_,_,h⟩:=aM h
 cases h
 exact hn
theorem fV{x:α}{r:Except Nat (List α×Nat)}{q:List α×Nat}(h:gI x r=.ok q):∃q',r=.ok q'/\q=(x::q'.1,q'.2):=by
 cases r with
 |error i=>cases h
 |ok q'=>cases h;exact⟨q',rfl,rfl⟩
theorem Aj:∀{n p:Nat}{q:List aL×Nat},cT l n p=.ok q->∀pr∈q.1,(256:Int)∉pr.name
 |0,p,q,h=>by cases h;intro pr hp;cases hp
 |n+1,p,q,h=>by
  rw[cT] at h
  split at h
  ·cases h;intro pr hp;cases hp
  ·obtain⟨q1,e1,h⟩:=aM h
   obtain⟨q2,e2,rfl⟩:=fV h
   intro pr hp
   rcases ao.mp hp with rfl|hp
   ·exact Gk e1
   ·exact Aj e2 pr hp
theorem aA2(h:gY l=.ok U):∀pr∈U,(256:Int)∉pr.name:=by
 unfold gY at h
 obtain⟨q,e1,h⟩:=aM h
 obtain⟨r,e2,h⟩:=aM h
 split at h
 ·cases h
  intro pr hp
  rcases ao.mp hp with rfl|hp
  ·exact Gk e1
  ·exact Aj e2 pr hp
 ·cases h
def Ev(rf ft:Int)(pa:Addr)(bv rv:V):List (Str×V):=[("refusal",.int rf),("fault",.int ft),("parts",.ref pa),("build",bv),("room",rv)]
structure GvT(K:Frag)(CG:Addr):Prop where
 cl:Ix K CG
 n1:dG K CG "refusal"
 n2:dG K CG "fault"
 n3:dG K CG "parts"
 n4:dG K CG "build"
 n5:dG K CG "room"
inductive Yn
 |no (n:Int)
 |bad (i:Nat)
 |ok (U:List aL) (nm:List Int) (ls:List (List Nat))
def cN(lc lb:List Int):Yn:=if 1048576<lc.length\/16384<lb.length then .no (-2) else match gY lc with
 |.error _=>.no (-6)
 |.ok U=>if nY U=true then (match dP (U.map (·.name)) lb with
  |.error i=>.bad i
  |.ok b=>.ok U b.1 b.2) else .no (-8)
def Ww(CG CP CB:Addr)(H:Hp)(g:Addr):Yn->Prop
 |.no n=>∃dx pa,H g=some (.ins CG dx (Ev n 0 pa .non .non))
 |.bad i=>∃dx pa,H g=some (.ins CG dx (Ev (-5) i pa .non .non))
 |.ok U nm ls=>∃dx pa q bs,H g=some (.ins CG dx (Ev 0 0 pa (.ref q) .non))/\H pa=some (.lst (bs.map V.ref))/\dF CP H bs U/\yA CB H q nm ls/\1<=U.length/\U.length<=64
def Jm(CG:Addr):Sp:=λvs H Q _=>∃(r dx pa:Addr)(rf ft:Int)(bv:V),vs=[.ref r,.int rf,.int ft,.ref pa,bv]/\H r=some (.ins CG dx [])/\∀H':Hp,H' r=some (.ins CG dx (Ev rf ft pa bv .non))->SX r H H'->Q .non H'
theorem Zc:aN ["self","refusal","fault","parts","build"] ["self","refusal","fault","parts","build"] (aG wL):=⟨rfl,rfl,rfl,by decide+kernel,rfl,by decide+kernel,by decide+kernel⟩
theorem Yj(F:eZ K "__init__" "Given.__init__" wL f fd)(T:GvT K CG):Cf P w K mg base bN 1 f fd ["self","refusal","fault","parts","build"] (Jm CG):=by
 refine F.okN Zc (λvs H Q E h=>?_) (λak A outer s H vs Q E hr h=>?_)
 ·obtain⟨r,dx,pa,rf,ft,bv,rfl,_⟩:=h
  rfl
 ·obtain⟨r,dx,pa,rf,ft,bv,rfl,hp,k⟩:=h
  refine⟨_,aF (dZ (pv 0) (pv 1) rfl) (aF (dZ (pv 0) (pv 2) rfl) (aF (dZ (pv 0) (pv 3) rfl) (aF (dZ (pv 0) (pv 4) rfl) (aH (dZ (pv 0) xE rfl))))),?_⟩
  refine⟨_,rfl,_,rfl,r,CG,dx,_,rfl,hp,T.cl,T.n1,(by show 0<1000;decide),?_⟩
  refine⟨_,rfl,_,rfl,r,CG,dx,_,rfl,aB,T.cl,T.n2,(by show 1<1000;decide),?_⟩
  refine⟨_,rfl,_,rfl,r,CG,dx,_,rfl,aB,T.cl,T.n3,(by show 2<1000;decide),?_⟩
  refine⟨_,rfl,_,rfl,r,CG,dx,_,rfl,aB,T.cl,T.n4,(by show 3<1000;decide),?_⟩
  refine⟨_,rfl,r,CG,dx,_,rfl,aB,T.cl,T.n5,(by show 4<1000;decide),?_⟩
  exact k _ aB λb o e hb=>by rw[aC hb,aC hb,aC hb,aC hb,aC hb];exact e
structure GvM(P:Program)(w:World)(K:Frag)(mg:Str->Option Value)(base:Heap)(CG:Addr):Prop where
 ex:∃f fd,Mk K CG f/\Cf P w K mg base bN 1 f fd ["self","refusal","fault","parts","build"] (Jm CG)/\eR K fd ["self","refusal","fault","parts","build"] []
 mg:mg "Given"=some (.ref CG)
def Xk(H:Hp)(D:Addr)(U:List aL):Prop:=∃qs:List Addr,H D=some (.lst (qs.map V.ref))/\Paired (λq pr=>H q=some (.tup (pr.name.map V.int))) qs U
def sE(K:Frag)(CP:Addr):Sp:=λvs H Q _=>∃(pa:Addr)(bs:List Addr)(U:List aL),vs=[.ref pa]/\cP K H pa (bs.map V.ref)/\dF CP H bs U/\U.length<=64/\∀(H':Hp)(D:Addr),aK H H'->H D=none->Xk H' D U->Q (.ref D) H'
theorem wQ:aN ["parts","part"] ["parts"] (aG nU):=⟨rfl,rfl,rfl,by decide+kernel,rfl,by decide+kernel,by decide+kernel⟩
theorem Tq(F:eZ K "names_of" "names_of" nU f fd)(T':Rh K CP):bO P w K mg base bN 1 f fd ["parts"] (sE K CP):=by
 refine F.ok wQ (λvs H Q E h=>?_) (λak A outer s H vs Q E hr h=>?_)
 ·obtain⟨pa,bs,U,rfl,_⟩:=h
  rfl
 ·obtain⟨pa,bs,U,rfl,ck,cf,su,k⟩:=h
  refine⟨_,aH (aR (uQ (own:=[("part",1)]) (te:=Yq K (cU 1) "name") rfl wQ.nd (fN (pv 0)) (eN (N:=["parts","part"]) (sc:=aG nU) (by decide+kernel))
   (λ_ _ _ _ _=>bE (i:=1) wQ.nd rfl (Or.inl rfl)) (λ_ _ _ _ _=>fY) (λ_ _ _ _ _=>aU (pv 1) rfl))),?_⟩
  have jc:bs.length=U.length:=Paired.length cf
  have bu:=bA
  refine⟨_,rfl,pa,rfl,⟨_,ck⟩,λDl c6=>?_⟩
  refine jQ (xs:=bs.map V.ref) (λi H'=>aK H H'/\∃qs,H' Dl=some (.lst (qs.map V.ref))/\Paired (λq pr=>H q=some (.tup (pr.name.map V.int))) qs (U.take i)) ⟨aK.new c6,[],aB,.nil⟩ (λi H' _ z=>z.1.seq ck) ?_ ?_
  ·rintro i x H3 ex ⟨S3,qs,nk,pq⟩
   have hi:i<U.length:=by
    have:=(bp.mp ex).1
    rwa [ai,jc] at this
   obtain⟨pr,ep⟩:∃pr,U[i]?=some pr:=⟨_,ax hi⟩
   obtain⟨b',eb,BK,po⟩:=bT cf ep
   rw[bg,eb] at ex
   cases ex
   obtain⟨dx,nm,cc,f1,f2,f3⟩:=BK
   have TZ:qs.length=(U.take i).length:=Paired.length pq
   rw[gf] at TZ
   refine⟨rfl,_,rfl,b',CP,dx,_,_,rfl,S3 _ _ f1,T'.cl,T'.n1,rfl,_,nk,by rw[ai];(clear hi jc;omega),λy o e=>?_,qs++[nm],by rw[aB,c9];rfl,?_⟩
   ·rw[aC (aD e c6)]
    exact S3 _ _ e
   ·rw[jg,ep]
    exact Paired.snoc pq f2
  ·rintro H3 ⟨S3,qs,nk,pq⟩
   rw[ai,jc,jo] at pq
   exact k H3 Dl S3 c6 ⟨qs,nk,Paired.mapP pq λq pr e=>S3 _ _ e⟩
def Em(K:Frag)(CG CP CB:Addr):Sp:=λvs H Q _=>∃(c b:Addr)(lc lb:List Int),vs=[.ref c,.ref b]/\cP K H c (lc.map V.int)/\cP K H b (lb.map V.int)/\∀(H':Hp)(g:Addr),aK H H'->H g=none->Ww CG CP CB H' g (cN lc lb)->Q (.ref g) H'
theorem rC:aN ["c","b","parts","build","e"] ["c","b"] (aG iS):=⟨rfl,rfl,rfl,by decide+kernel,rfl,by decide+kernel,by decide+kernel⟩
theorem Ii{n ft:Int}{Q:V->Hp->Prop}(k:∀(H':Hp)(g:Addr),aK H H'->H g=none->(∃dx pa,H' g=some (.ins CG dx (Ev n ft pa .non .non)))->Q (.ref g) H'):
  ∀l1,H l1=none->∀x dx,upd H l1 (.lst []) x=none->upd H l1 (.lst []) dx=none->dx≠x->
   Jm CG [.ref x,.int n,.int ft,.ref l1,.non] (upd (upd (upd H l1 (.lst [])) dx (.own x)) x (.ins CG dx [])) (λv H2=>v=.non/\Q (.ref x) H2) E0:=by
 intro l1 h1 x dx hx si aw
 have S:aK H (upd H l1 (.lst [])):=aK.new h1
 refine⟨x,dx,l1,n,ft,.non,rfl,aB,λH' hg s=>⟨rfl,k H' x (λb o e=>?_) (S.free hx) ⟨dx,l1,hg⟩⟩⟩
 have e2:=S b o e
 exact s b o (by rw[aC (aD e2 hx),aC (aD e2 si)];exact e2) (aD e2 hx)
theorem Wt(F:eZ K "read_given" "read_given" iS f fd)(GM:GvM P w K mg base CG)(S:StT P w K mg base C)(bi:mg "len"=none)(c1:CI mg "MOST_CATALOGUE_BYTES" 1048576)(c2:CI mg "MOST_BUILD_BYTES" 16384)
  (L1:dE P w K mg base "read_catalogue" (jA C P w) 8 ["c"] (Nu K CP)) (L2:dE P w K mg base "catalogue_right" bN 5 ["parts"] (qK K CP)) (L3:dE P w K mg base "read_build" (jA C P w) 7 ["b","names"] (wA K CB)) (L4:dE P w K mg base "names_of" bN 1 ["parts"] (sE K CP)):
  bO P w K mg base bN 9 f fd ["c","b"] (Em K CG CP CB):=by
 obtain⟨g1,gc,G1,b1,k1,h1⟩:=L1.ex
 obtain⟨g2,ky,G2,b2,k2,h2⟩:=L2.ex
 obtain⟨g3,BH,G3,b3,k3,h3⟩:=L3.ex
 obtain⟨g4,L',G4,b4,k4,h4⟩:=L4.ex
 obtain⟨fg,XB,MG,GG,bG⟩:=GM.ex
 obtain⟨fx,A6,XT,GX,bx⟩:=S.ex
 refine F.ok rC (λvs H Q E h=>?_) (λak A outer s H vs Q E hr h=>?_)
 ·obtain⟨c,b,lc,lb,rfl,_⟩:=h
  rfl
 ·obtain⟨c,b,lc,lb,rfl,hc,hb,k⟩:=h
  have HV:=hr.mono (j:=7) (by decide)
  have j1:=hr.mono (j:=5) (by decide)
  have bj:=hr.mono (j:=1) (by decide)
  have a9:hU 2 (A.deeper (envOfC "read_given" (aG iS) s.heap.objs.size f ak)):=(hr.mono (j:=2) (by decide)).n
  refine⟨_,aF (eA (Nb (dS (sN (bS bW (by rfl) bi boot_len (aA (pv 0) aE)) (eB c1))) (Co (dS (sN (bS bW (by rfl) bi boot_len (aA (pv 1) aE)) (eB c2))))).pt
    (aH (aR (mY MG GG a9 (by rfl) GM.mg bG (aA (rV lO aI) (aA aI (aA (eD aE) (aA xE aE))))))) bX)
   (aF (aB8 (tb:=λE'=>Fn (Bg (Nu K CP) [] E' (dH (cU 0) gC)) (mG 2)) XT rfl rfl (by rfl) S.mg (λxe pn E' hP=>aH (bF (i:=2) rC.nd rfl (Or.inl rfl) (aP G1 hr (by rfl) h1 k1 b1 .nil hP (aA (pv 0) aE))))
    (λea=>aH (aR (mY MG GG (a9.mark _) (by rfl) GM.mg bG (aA (rV lO aI) (aA aI (aA (eD aE) (aA xE aE))))))))
   (aF (eA (lQ (eQ (aP G2 j1 (by rfl) h2 k2 b2 .nil aX (aA (pv 2) aE)))) (aH (aR (mY MG GG a9 (by rfl) GM.mg bG (aA (rV lO aI) (aA aI (aA (eD aE) (aA xE aE))))))) bX)
   (aF (Wh (i:=4) (tb:=λE'=>Fn (Bg (wA K CB) [] E' (dH (cU 1) (dH (Bg (sE K CP) [] E0 (dH (cU 2) gC)) gC))) (mG 3)) XT rfl rfl (by rfl) S.mg rC.nd rfl rfl
     (λxe pn E' hP=>aH (bF (i:=3) rC.nd rfl (Or.inl rfl) (aP G3 HV (by rfl) h3 k3 b3 .nil hP (aA (pv 1) (aA (aP G4 bj (by rfl) h4 k4 b4 .nil aX (aA (pv 2) aE)) aE)))))
     (λea=>aH (aR (mY MG GG (a9.mark _) (by rfl) GM.mg bG (aA (rV lO aI) (aA (Xw XT (pv 4) rfl) (aA (eD aE) (aA xE aE))))))))
   (aH (aR (mY MG GG a9 (by rfl) GM.mg bG (aA aI (aA aI (aA (pv 2) (aA (pv 3) aE)))))))))),?_⟩
  have no:∀(n:Int)(H1:Hp),aK H H1->cN lc lb=.no n->∀(H':Hp)(g:Addr),aK H1 H'->H1 g=none->(∃dx pa,H' g=some (.ins CG dx (Ev n 0 pa .non .non)))->Q (.ref g) H':=λn H1 S1 e H' g S2 fg hg=>by
   have kk:=k H' g (S1.trans S2) (S1.free fg)
   rw[e] at kk
   exact kk hg
  refine⟨_,rfl,c,_,rfl,.inl hc,_,_,rfl,rfl,_,rfl,bZ (λe1=>Wd ?_) (λe1=>⟨_,rfl,b,_,rfl,.inl hb,_,_,rfl,rfl,_,rfl,bZ (λe2=>?_) (λe2=>?_)⟩)⟩
  ·have e1:(1048576:Int)<((lc.map V.int).length:Int):=dw e1
   rw[ai] at e1
   have e3:cN lc lb=.no (-2):=af (.inl (by omega))
   exact⟨_,rfl,c7 _,λl1 n1=>Ii (no (-2) H (aK.id' _) e3) l1 n1⟩
  ·have e2:(16384:Int)<((lb.map V.int).length:Int):=dw e2
   rw[ai] at e2
   have e3:cN lc lb=.no (-2):=af (.inr (by (clear e1;omega)))
   exact⟨_,rfl,c7 _,λl1 n1=>Ii (no (-2) H (aK.id' _) e3) l1 n1⟩
  ·have e1:¬(1048576:Int)<((lc.map V.int).length:Int):=λz=>e1 (decide_eq_true z)
   have e2:¬(16384:Int)<((lb.map V.int).length:Int):=λz=>e2 (decide_eq_true z)
   rw[ai] at e1 e2
   have e3:¬(1048576<lc.length\/16384<lb.length):=by omega
   unfold cN at k no
   rw[ae e3] at k no
   refine⟨_,rfl,c,lc,rfl,hc,?_⟩
   cases ec:gY lc with
   |error i=>
    intro H1 S1 ah lh
    refine⟨_,rfl,c7 _,λl1 n1=>Ii (no (-6) H1 S1 (by rw[ec])) l1 n1⟩
   |ok U=>
    intro H1 pa bs S1 ck cf su jd
    rw[ec] at k no
    refine⟨_,rfl,pa,bs,U,rfl,cP.of ck,cf,jd,su,λH2 S2=>⟨_,rfl,bZ (λe4=>?_) (λe4=>?_)⟩⟩
    ·rw[cq] at e4
     exact⟨_,rfl,c7 _,λl1 n1=>Ii (no (-8) H2 (S1.trans S2) (by show (if nY U=true then _ else _)=_;rw[ae (by rw[e4];decide)])) l1 n1⟩
    ·rw[cq,yc] at e4
     have mi:=S1.trans S2
     have MO:=S2 _ _ ck
     have DY:dF CP H2 bs U:=Paired.mapP cf λ_ _ z=>⟨z.1.same S2,z.2⟩
     have k:∀(H':Hp)(g:Addr),aK H H'->H g=none->Ww CG CP CB H' g (match dP (U.map (·.name)) lb with
       |.error i=>.bad i
       |.ok b=>.ok U b.1 b.2)->Q (.ref g) H':=λH' g s fg hg=>k H' g s fg (by show Ww CG CP CB H' g (if nY U=true then _ else _);rw[af e4];exact hg)
     refine⟨_,rfl,_,rfl,pa,bs,U,rfl,cP.of MO,DY,su,λH3 Dl S3 _ hN=>?_⟩
     obtain⟨qs,nk,pq⟩:=hN
     have T1:pI K H3 (qs.map V.ref) (U.map (·.name)):=by
      have key:∀{qs:List Addr}{U:List aL},Paired (λq pr=>H3 q=some (.tup (pr.name.map V.int))) qs U->pI K H3 (qs.map V.ref) (U.map (·.name)):=by
       intro qs U z
       induction z with
       |nil=>exact .nil
       |cons h t ih=>exact .cons ⟨_,rfl,cG.of h⟩ ih
      exact key pq
     have i5:Nms K H3 Dl (U.map (·.name)):=by
      refine⟨⟨_,cP.of nk,T1⟩,by rw[ai];exact su,λm hm=>?_⟩
      obtain⟨pr,MQ,rfl⟩:=a8.mp hm
      obtain⟨i,hi⟩:=pi.mp MQ
      obtain⟨_,_,_,po⟩:=bT cf hi
      exact⟨po.nm,aA2 ec pr MQ⟩
     have xj:=mi.trans S3
     refine⟨b,Dl,lb,_,rfl,xj.seq hb,i5,?_⟩
     cases eb:dP (U.map (·.name)) lb with
     |error i=>
      intro H4 S4
      rw[eb] at k
      refine⟨i,rfl,λah e d lh he hd aw=>?_⟩
      have S5:aK H4 (upd (upd H4 d (.xd [("fault",.int i)])) e (XR C d e)):=λy o z=>by rw[aC (aD z he),aC (aD z hd)];exact z
      have h4:(ah.set 4 (some (V.ref e)))[4]?=some (some (V.ref e)):=ER (by have:ah.length=5:=lh;(clear jd su e3 e2 e1;omega))
      have BL:=(xj.trans S4).trans S5
      refine⟨_,rfl,_,h4,e,d,i,rfl,aB,by rw[aC aw,aB],c7 _,λl1 n1=>Ii (λH' g s fg hg=>k H' g (BL.trans s) (BL.free fg) hg) l1 n1⟩
     |ok bd=>
      intro H4 q S4 BN
      rw[eb] at k
      have T2:aK H1 H4:=(S2.trans S3).trans S4
      refine⟨_,rfl,_,rfl,λx dx hx si aw=>?_⟩
      refine⟨x,dx,pa,0,0,.ref q,rfl,aB,λH5 hg s5=>⟨rfl,?_⟩⟩
      have HW:aK H4 H5:=λy o e=>s5 y o (by rw[aC (aD e hx),aC (aD e si)];exact e) (aD e hx)
      have BL:=T2.trans HW
      exact k H5 x ((xj.trans S4).trans HW) ((xj.trans S4).free hx) ⟨dx,pa,q,bs,hg,BL _ _ ck,Paired.mapP cf λ_ _ z=>⟨z.1.same BL,z.2⟩,BN.same HW,jd,su⟩
theorem Ll{lc lb:List Int}{n:Int}(h:cN lc lb=.no n):n= -2\/n= -6\/n= -8:=by
 unfold cN at h
 split at h
 ·cases h;exact .inl rfl
 ·split at h
  ·cases h;exact .inr (.inl rfl)
  ·split at h
   ·split at h<;>cases h
   ·cases h;exact .inr (.inr rfl)
end Br1
namespace L2
open PySem PySem.Spec PyProof.Rows
theorem tL(h:us.length=([x]:List Str).length):∃a,us=[a]:=List.length_eq_one_iff.mp h
theorem wI{y:Str}(h:us.length=([x,y]:List Str).length):∃a b,us=[a,b]:=by
 cases us with
 |nil=>cases h
 |cons a r=>
  obtain⟨b,rfl⟩:=tL (x:=x) (Nat.succ.inj h)
  exact⟨a,b,rfl⟩
theorem us3{y z:Str}(h:us.length=([x,y,z]:List Str).length):∃a b c,us=[a,b,c]:=by
 cases us with
 |nil=>cases h
 |cons a r=>
  obtain⟨b,c,rfl⟩:=wI (x:=x) (y:=y) (Nat.succ.inj h)
  exact⟨a,b,c,rfl⟩
theorem us4{y z w:Str}(h:us.length=([x,y,z,w]:List Str).length):∃a b c d,us=[a,b,c,d]:=by
 cases us with
 |nil=>cases h
 |cons a r=>
  obtain⟨b,c,d,rfl⟩:=us3 (x:=x) (y:=y) (z:=z) (Nat.succ.inj h)
  exact⟨a,b,c,d,rfl⟩
theorem us5{y z w v:Str}(h:us.length=([x,y,z,w,v]:List Str).length):∃a b c d e,us=[a,b,c,d,e]:=by
 cases us with
 |nil=>cases h
 |cons a r=>
  obtain⟨b,c,d,e,rfl⟩:=us4 (x:=x) (y:=y) (z:=z) (w:=w) (Nat.succ.inj h)
  exact⟨a,b,c,d,e,rfl⟩
theorem us7{y z w v u t:Str}(h:us.length=([x,y,z,w,v,u,t]:List Str).length):∃a b c d e f g,us=[a,b,c,d,e,f,g]:=by
 cases us with
 |nil=>cases h
 |cons a r=>
  cases r with
  |nil=>cases h
  |cons b r=>
   obtain⟨c,d,e,f,g,rfl⟩:=us5 (x:=x) (y:=y) (z:=z) (w:=w) (v:=v) (Nat.succ.inj (Nat.succ.inj h))
   exact⟨a,b,c,d,e,f,g,rfl⟩
def gJ(K:Frag)(x aq:Str)(st:Stmt):Prop:=∃(f:Addr)(oc:Value)(od:Option Addr)(kV bq pm:Value)(an:Option Addr)(ak ct:Value) (df:Array (Option Value)),
 nsIn K mainGlobals x=some (some (.ref f))/\K.lookup f=some ⟨oc,od,.func (fnOf x aq (eU st) (dX st) (aG st) .none kV bq pm an ak ct),df⟩/\codeIn K ak aq=true/\keepIn K (.ref f)=true
def Bi(K:Frag)(C:Addr)(x aq:Str)(st:Stmt):Prop:=∃(f:Addr)(oc:Value)(od:Option Addr)(kV bq pm:Value)(an:Option Addr)(ak ct:Value) (df:Array (Option Value)),
 findIn K (.ref C) x=some (some (.ref f))/\K.lookup f=some ⟨oc,od,.func (fnOf x aq (eU st) (dX st) (aG st) .none kV bq pm an ak ct),df⟩/\codeIn K ak aq=true/\keepIn K (.ref f)=true/\isFn K (.ref f)=true
structure Kh(K:Frag)(x:Str)(C:Addr):Prop where
 ns:nsIn K mainGlobals x=some (some (.ref C))
 pg:plainGet K C Str.empty=true
 hd:hasDictIn K C=true
 po:plainOver K C=true
 sa:findIn K (.ref C) "__setattr__"=some (some (.builtin "object.__setattr__"))
 makes:makesIn K C=true
 kp:keepIn K (.ref C)=true
section
variable{st:Stmt}{K:Frag}
theorem gJ.fn0(h1:gJ K x aq st)(X:K.In h)(G:h.Ns mainGlobals mg)(ok:∀(f:Addr)(fd:FuncData),eZ K x aq st f fd->bO P w K mg base CX k f fd ps sp)
  (hb:∀(kV bq pm:Value)(an:Option Addr)(ak ct:Value)(us:List Value),us.length=ps.length->bindArgs (fnOf x aq (eU st) (dX st) (aG st) .none kV bq pm an ak ct) ⟨us,[]⟩=pure (ps.zip us)):Br1.dE P w K mg base x CX k ps sp:=by
 obtain⟨f,oc,od,kV,bq,pm,an,ak,ct,df,a,l,c,kp⟩:=h1
 have F:=sW (st:=st) l c kp
 exact⟨f,_,ok _ _ F,F.binds hb,kp,mg_of X G a⟩
theorem Bi.mt(h1:Bi K C x aq st)(ok:∀(f:Addr)(fd:FuncData),eZ K x aq st f fd->bO P w K mg base CX k f fd ps sp)
  (hb:∀(kV bq pm:Value)(an:Option Addr)(ak ct:Value)(us:List Value),us.length=ps.length->bindArgs (fnOf x aq (eU st) (dX st) (aG st) .none kV bq pm an ak ct) ⟨us,[]⟩=pure (ps.zip us)):Br1.oK P w K mg base C x CX k ps sp:=by
 obtain⟨f,oc,od,kV,bq,pm,an,ak,ct,df,a,l,c,kp,i⟩:=h1
 have F:=sW (st:=st) l c kp
 exact⟨f,_,⟨a,i,kp⟩,ok _ _ F,F.binds hb⟩
theorem Kh.cl(h1:Kh K x C):Ix K C:=⟨h1.pg,h1.hd,h1.po,h1.sa⟩
theorem Bi.mk(h1:Bi K C "__init__" aq st)(hC:Kh K x C)(ok:∀(f:Addr)(fd:FuncData),eZ K "__init__" aq st f fd->bO P w K mg base CX k f fd ps sp)
  (hb:∀(kV bq pm:Value)(an:Option Addr)(ak ct:Value)(us:List Value),us.length=ps.length->bindArgs (fnOf "__init__" aq (eU st) (dX st) (aG st) .none kV bq pm an ak ct) ⟨us,[]⟩=pure (ps.zip us)):∃f fd,Mk K C f/\bO P w K mg base CX k f fd ps sp/\eR K fd ps []:=by
 obtain⟨f,oc,od,kV,bq,pm,an,ak,ct,df,a,l,c,kp,i⟩:=h1
 have F:=sW (st:=st) l c kp
 exact⟨f,_,⟨hC.makes,a,i,hC.kp⟩,ok _ _ F,F.binds hb⟩
theorem Bi.mkN(h1:Bi K C "__init__" aq st)(hC:Kh K x C)(ok:∀(f:Addr)(fd:FuncData),eZ K "__init__" aq st f fd->Cf P w K mg base CX k f fd ps sp)
  (hb:∀(kV bq pm:Value)(an:Option Addr)(ak ct:Value)(us:List Value),us.length=ps.length->bindArgs (fnOf "__init__" aq (eU st) (dX st) (aG st) .none kV bq pm an ak ct) ⟨us,[]⟩=pure (ps.zip us)):∃f fd,Mk K C f/\Cf P w K mg base CX k f fd ps sp/\eR K fd ps []:=by
 obtain⟨f,oc,od,kV,bq,pm,an,ak,ct,df,a,l,c,kp,i⟩:=h1
 have F:=sW (st:=st) l c kp
 exact⟨f,_,⟨hC.makes,a,i,hC.kp⟩,ok _ _ F,F.binds hb⟩
end
end L2
namespace Br1
open PySem PySem.Spec PyProof.Rows L2
noncomputable def Le(K:Frag)(x:Str)(n:Int):Prop:=∃t,nsIn K mainGlobals x=some (some (.int n t))
variable{K:Frag}
theorem Le.ci{n:Int}(hk:Le K x n)(X:K.In h)(G:h.Ns mainGlobals mg):CI mg x n:=by
 obtain⟨t,e⟩:=hk
 exact⟨t,mg_of X G e⟩
theorem Lj{st:Stmt}(h:fnD K f x aq=some (aAg st)):∃(oc:Value)(od:Option Addr)(kV bq pm:Value)(an:Option Addr)(ak ct:Value) (df:Array (Option Value)),
  K.lookup f=some ⟨oc,od,.func (fnOf x aq (eU st) (dX st) (aG st) .none kV bq pm an ak ct),df⟩/\codeIn K ak aq=true/\keepIn K (.ref f)=true:=by
 unfold fnD at h
 split at h
 ·rename_i oc od nm q pa b sc gl kV bq pm an cd ct bl df e
  split at h
  ·rename_i t
   simp only[cn,cp] at t
   obtain⟨rfl,rfl,rfl,rfl,c,k⟩:=t
   cases h
   exact⟨oc,od,kV,bq,pm,an,cd,ct,df,e,c,k⟩
  ·cases h
 ·cases h
theorem Yl(h:aC0 K C=some f):Ex K C f:=by
 unfold aC0 at h
 split at h
 ·rename_i c dd nm bs mro N q hd sn sub ab col hdel sl e
  split at h
  ·rename_i k0 k1 k2 k3 b k5 es
   split at h
   ·rename_i t
    simp only[cn,cp,cq] at t
    obtain⟨rfl,rfl,rfl,rfl,rfl,t1,t2,t3,t4,t5,t6⟩:=t
    split at h
    ·rename_i f' ei
     split at h
     ·rename_i tf
      cases h
      have es:sl=#[k0,k1,k2,k3,some (.builtin "Exception.__new__"),k5]:=by
       cases sl
       exact congrArg Array.mk es
      subst es
      exact⟨⟨nm,q,N,bs,sn,sub,ab,col,dd,k0,k1,k2,k3,k5,e,t1,ei,t2,t3,t4,t5⟩,tf,t6⟩
     ·cases h
    ·cases h
   ·cases h
  ·cases h
 ·cases h
noncomputable def Ft.PP(K:Frag):Ft->Prop
 |.no x=>nsIn K mainGlobals x=some none
 |.int x n=>Le K x n
 |.fn x st=>gJ K x x st
 |.cl x=>Kh K x (dQ K x)
 |.at c f=>findIn K (.ref (dQ K c)) f=some none
 |.mt c m q st=>Bi K (dQ K c) m q st
 |.ints x l=>∃a,nsIn K mainGlobals x=some (some (.ref a))/\∃(o:Obj)(its:Array Value)(n:Nat),K.lookup a=some o/\o.cls=.type "tuple"/\o.data=.seq its n/\its.size<=sizeLine/\bK (l.map V.int) its.toList
 |.exc x q st=>nsIn K mainGlobals x=some (some (.ref (dQ K x)))/\∃(f:Addr)(oc:Value)(od:Option Addr)(kV bq pm:Value)(an:Option Addr)(ak ct:Value) (df:Array (Option Value)),
   Ex K (dQ K x) f/\K.lookup f=some ⟨oc,od,.func (fnOf "__init__" q (eU st) (dX st) (aG st) .none kV bq pm an ak ct),df⟩/\codeIn K ak q=true/\keepIn K (.ref f)=true
theorem Au:∀{l:List Int}{vs:List Value},vs.map aBs=l.map some->bK (l.map V.int) vs
 |[],[],_=>.nil
 |[],v::r,h=>by cases h
 |n::l,[],h=>by cases h
 |n::l,v::r,h=>by
  obtain⟨h1,h2⟩:=List.cons.inj h
  refine .cons ?_ (Au h2)
  cases v with
  |int m t=>cases h1;exact⟨t,rfl⟩
  |_=>cases h1
theorem Ft.ok:∀{f:Ft},f.DD K=f.XX->f.PP K
 |.no x,h=>cp.mp (congrArg Prod.fst h)
 |.int x n,h=>by
  have h:=congrArg Prod.fst h
  simp only[Ft.DD,Ft.XX] at h
  split at h
  ·rename_i m t e
   rw[cp] at h
   subst h
   exact⟨t,e⟩
  ·cases h
 |.fn x st,h=>by
  simp only[Ft.DD,Ft.XX] at h
  split at h
  ·rename_i f e
   obtain⟨oc,od,kV,bq,pm,an,ak,ct,df,l,c,k⟩:=Lj (congrArg Prod.snd h)
   exact⟨f,oc,od,kV,bq,pm,an,ak,ct,df,e,l,c,k⟩
  ·cases h
 |.cl x,h=>by
  have h:=congrArg Prod.fst h
  simp only[Ft.DD,Ft.XX] at h
  simp only[cn,cp] at h
  obtain⟨h1,h2,h3,h4,h5,h6,h7⟩:=h
  exact⟨h1,h2,h3,h4,h5,h6,h7⟩
 |.at c f,h=>cp.mp (congrArg Prod.fst h)
 |.mt c m q st,h=>by
  simp only[Ft.DD,Ft.XX] at h
  split at h
  ·rename_i f e
   obtain⟨oc,od,kV,bq,pm,an,ak,ct,df,l,c,k⟩:=Lj (congrArg Prod.snd h)
   exact⟨f,oc,od,kV,bq,pm,an,ak,ct,df,e,l,c,k,congrArg Prod.fst h⟩
  ·cases h
 |.ints x l,h=>by
  have h:=congrArg Prod.fst h
  simp only[Ft.DD,Ft.XX] at h
  split at h
  ·rename_i a e
   split at h
   ·rename_i c d its n sl e2
    simp only[cn,cp,b7] at h
    obtain⟨rfl,h2,h3⟩:=h
    have hl:=congrArg List.length h2
    rw[ai,ai,d5] at hl
    have hb:=bA
    refine⟨a,e,_,its,n,e2,rfl,rfl,?_,Au h2⟩
    show its.size<=sizeLine
    omega
   ·cases h
  ·cases h
 |.exc x q st,h=>by
  simp only[Ft.DD,Ft.XX] at h
  split at h
  ·rename_i f e
   obtain⟨oc,od,kV,bq,pm,an,ak,ct,df,l,c,k⟩:=Lj (congrArg Prod.snd h)
   exact⟨cp.mp (congrArg Prod.fst h),f,oc,od,kV,bq,pm,an,ak,ct,df,Yl e,l,c,k⟩
  ·cases h
theorem Kf:∀as:List Addr,(frH as h).In h
 |[]=>λa o e=>by cases e
 |b::r=>λa o e=>by
  unfold frH at e
  rw[z8] at e
  cases q:h.get? b with
  |none=>
   rw[q] at e
   exact Kf r a o e
  |some u=>
   rw[q] at e
   have e:List.lookup a ((b,u)::frH r h)=some o:=e
   rw[vw] at e
   split at e
   ·rename_i z
    cases e
    rw[cp.mp z]
    exact q
   ·exact Kf r a o e
noncomputable def aDf(as:List Addr)(fs:List Ft):Hook where
 α:=List (Bool×Option Df)
 obs s:=fs.map (Ft.DD (frH as s.heap))
 val _:=fs.map Ft.XX
 says _ h:=∃K:Frag,K.In h/\∀f∈fs,f.PP K
 of _ s e:=⟨_,Kf as,λf hf=>Ft.ok (List.map_inj_left.mp e f hf)⟩
 keeps _ _ _ x k:=let ⟨K,a,b⟩:=x;⟨K,a.keeps k,b⟩
theorem Ft.nth{fs:List Ft}(h:∀f∈fs,f.PP K)(i:Nat){f:Ft}(e:fs[i]?=some f):f.PP K:=h f (fj e)
end Br1
namespace L2
open PySem PySem.Spec PyProof.Rows
open PySem.W (WData Codec OpenSpec)
theorem Lr{r:OpenSpec}{q:Program}{loose:List Str}{XP:(Str->Option Value)->Heap->Prop}{YP:World->Heap->Prop}{Good:Frag->Prop}{d:DefRec}{sp:Frag->Sp}
  (T3:r.wellSaid=true) (XC:d.params.defaults=[]) (bi:r.args.length=ps.length) (hr:eY k callerA)
  (hY:∀(w:World)(h:Heap),YP w h->∃K:Frag,K.In h/\Good K)
  (F:∀(w:World)(K:Frag)(mg:Str->Option Value)(fa:Addr)(h:Heap),Good K->K.In h->h.Ns mainGlobals mg->mg d.name=some (.ref fa)->
   ∃fd:FuncData,(∀(s:Shared)(us:List Value),us.length=ps.length->BindsTo s fd ⟨us,[]⟩ (ps.zip us))/\
    ∀base:Heap,K.In base->base.Ns mainGlobals mg->bO r.prog w K mg base CX k fa fd ps (sp K))
  (ke:∀(K:Frag)(H:Hp)(xs:List V)(a:Codec.denoteAll r.args),Oj H->Codec.withinAll r.args a=true->Codec.app r.args r.asked a=true->nR K H xs (Codec.encAll r.args a)->
   sp K xs H (λv H'=>Dw K H' v (r.ret.enc (Codec.app r.args r.f a))) λ_ _ _=>False)
  (F7:∀(H:Hp)(s:Shared)(e:Value)(s':Shared),CX [] H s (λ_ _ _=>False) e s'->False):
  PySem.W.WalkOS q loose XP YP r d [] (λf vs=>PySem.call f vs):=by
 intro w s_0 ay mg mb G Y fa o pm cd bq dV kV ho hd i' hD HX hg args qh as T4 T5 KZ A1 bo
 obtain⟨a,e1,e2⟩:=PySem.W.os_pre_some T4
 obtain⟨e3,vb⟩:=Codec.encAll_of_decAll r.args args a e1
 subst e3
 obtain⟨K,KX,gk⟩:=hY w _ Y
 obtain⟨fd,hb,hF⟩:=F w K mg fa _ gk KX G.T.g HX
 refine PySem.W.enter_call (ua (Rz (R:=[]) (cl:=classAt s_0.heap) (d0:=r.ret.enc (Codec.app r.args r.f a)) KX G.T.g G.T.b G.T.builtins G.T.nolimit hg A1 (Af _ _) (yN T5) hr hF hb (by rw[yZ];exact bi)
  (λH xs hO hS=>ke K H xs a hO vb e2 hS) λH e s'=>F7 H ay e s') λr' s' hq=>?_)
 obtain⟨u,T6,rfl,h1,h2,h3,h4⟩:=hq
 exact⟨.inl ⟨u,_,T6,rfl,λ_=>rfl,h1,(OpenSpec.post_iff T3 vb _ _).mpr rfl,λz=>Bool.noConfusion (show false=true from z)⟩,h2,h3,h4⟩
end L2
namespace Br1
open PySem PySem.Spec PyProof.Rows L2
structure aBr(P:Program)(w:World)(K:Frag)(mg:Str->Option Value)(base:Heap)(CP CB CG:Addr):Prop where
 TG:GvT K CG
 TP:Rh K CP
 TB:BdT K CB
 PM:PtM P w K mg base CP
 BM:BdM P w K mg base CB
 stud:dE P w K mg base "has_stud" bN 1 ["sign"] yQ
 tube:dE P w K mg base "has_tube" bN 1 ["sign"] wT
 up:dE P w K mg base "above" bN 1 ["place"] oU
 dn:dE P w K mg base "below" bN 1 ["place"] oF
 names:dE P w K mg base "names_of" bN 1 ["parts"] (sE K CP)
 given:dE P w K mg base "read_given" bN 9 ["c","b"] (Em K CG CP CB)
variable{K:Frag}
theorem aFy(X:K.In h)(G:h.Ns mainGlobals mg)(hK:∀f∈ftC,f.PP K):aBr P w K mg base (dQ K "Part") (dQ K "Build") (dQ K "Given"):=by
 have g:∀(i:Nat)(f:Ft),ftC[i]?=some f->f.PP K:=λi f e=>Ft.nth hK i e
 have ci:∀{x:Str}{n:Int},Le K x n->CI mg x n:=λhk=>hk.ci X G
 have nn:∀{x:Str},nsIn K mainGlobals x=some none->mg x=none:=λe=>mg_none_of X G e
 have T:Iw K (dQ K "Reader"):=⟨Kh.cl (g 0 (.cl "Reader") rfl),(g 1 (.at "Reader" "text") rfl),(g 2 (.at "Reader" "position") rfl)⟩
 have TP:Rh K (dQ K "Part"):=⟨Kh.cl (g 3 (.cl "Part") rfl),(g 4 (.at "Part" "name") rfl),(g 5 (.at "Part" "width") rfl),(g 6 (.at "Part" "depth") rfl),(g 7 (.at "Part" "height") rfl),(g 8 (.at "Part" "weight") rfl),(g 9 (.at "Part" "cells") rfl)⟩
 have TB:BdT K (dQ K "Build"):=⟨Kh.cl (g 10 (.cl "Build") rfl),(g 11 (.at "Build" "name") rfl),(g 12 (.at "Build" "lines") rfl)⟩
 have TG:GvT K (dQ K "Given"):=⟨Kh.cl (g 13 (.cl "Given") rfl),(g 14 (.at "Given" "refusal") rfl),(g 15 (.at "Given" "fault") rfl),(g 16 (.at "Given" "parts") rfl),(g 17 (.at "Given" "build") rfl),(g 18 (.at "Given" "room") rfl)⟩
 obtain⟨aS,T7,T9⟩:=(g 19 (.ints "SIGNS" cM) rfl)
 have hS:∀H,cG K H aS (cM.map V.int):=λH=>.inr T9
 obtain⟨stk,fS,oc,od,kV,bq,pm,an,ak,ct,df,XT,lS,cS,kS⟩:=(g 20 (.exc "Stuck" "Stuck.__init__" rY) rfl)
 have FS:=sW (st:=rY) lS cS kS
 have S:StT P w K mg base (dQ K "Stuck"):=⟨⟨fS,_,XT,Oz FS XT,FS.binds λ_ _ _ _ _ _ us hl=>(by obtain⟨a,b,rfl⟩:=_root_.L2.wI hl;rfl)⟩,mg_of X G stk⟩
 have L1:dE P w K mg base "is_letter" bN 1 ["byte"] qI:=gJ.fn0 (g 21 (.fn "is_letter" oQ) rfl) X G (λf fd F=>Gv F (nn (g 22 (.no "ord") rfl))) λ_ _ _ _ _ _ us hl=>(by obtain⟨a,rfl⟩:=_root_.L2.tL hl;rfl)
 have L2:dE P w K mg base "is_digit" bN 1 ["byte"] oP:=gJ.fn0 (g 23 (.fn "is_digit" qS) rfl) X G (λf fd F=>Jl F (nn (g 22 (.no "ord") rfl))) λ_ _ _ _ _ _ us hl=>(by obtain⟨a,rfl⟩:=_root_.L2.tL hl;rfl)
 have RK:RdK P w K mg base (dQ K "Reader"):=⟨Bi.mk (g 24 (.mt "Reader" "__init__" "Reader.__init__" Zx) rfl) (g 0 (.cl "Reader") rfl) (λf fd F=>aB6 F T) λ_ _ _ _ _ _ us hl=>(by obtain⟨a,b,rfl⟩:=_root_.L2.wI hl;rfl),mg_of X G (Kh.ns (g 0 (.cl "Reader") rfl))⟩
 have M1:oK P w K mg base (dQ K "Reader") "ended" bN 1 ["self"] (pE K (dQ K "Reader")):=Bi.mt (g 25 (.mt "Reader" "ended" "Reader.ended" Cy) rfl) (λf fd F=>Vh F T (nn (g 26 (.no "len") rfl))) λ_ _ _ _ _ _ us hl=>(by obtain⟨a,rfl⟩:=_root_.L2.tL hl;rfl)
 obtain⟨t0,e0⟩:=ci (g 27 (.int "NO_BYTE" 256) rfl)
 have M2:oK P w K mg base (dQ K "Reader") "here" bN 2 ["self"] (qH K (dQ K "Reader")):=Bi.mt (g 28 (.mt "Reader" "here" "Reader.here" Lx) rfl) (λf fd F=>aA1 F T e0 M1) λ_ _ _ _ _ _ us hl=>(by obtain⟨a,rfl⟩:=_root_.L2.tL hl;rfl)
 have M3:oK P w K mg base (dQ K "Reader") "take" bN 3 ["self"] (qJ K (dQ K "Reader")):=Bi.mt (g 29 (.mt "Reader" "take" "Reader.take" Oa) rfl) (λf fd F=>Zd F T M2) λ_ _ _ _ _ _ us hl=>(by obtain⟨a,rfl⟩:=_root_.L2.tL hl;rfl)
 have M4:oK P w K mg base (dQ K "Reader") "read_one_of" (jA (dQ K "Stuck") P w) 4 ["self","signs"] (qV K (dQ K "Reader")):=Bi.mt (g 30 (.mt "Reader" "read_one_of" "Reader.read_one_of" Ek) rfl) (λf fd F=>Wl F T S M2 M3) λ_ _ _ _ _ _ us hl=>(by obtain⟨a,b,rfl⟩:=_root_.L2.wI hl;rfl)
 have M5:oK P w K mg base (dQ K "Reader") "read_word" (jA (dQ K "Stuck") P w) 5 ["self","word"] (lP K (dQ K "Reader")):=Bi.mt (g 31 (.mt "Reader" "read_word" "Reader.read_word" Nn) rfl) (λf fd F=>Yx F T (nn (g 22 (.no "ord") rfl)) M4) λ_ _ _ _ _ _ us hl=>(by obtain⟨a,b,rfl⟩:=_root_.L2.wI hl;rfl)
 have M6:oK P w K mg base (dQ K "Reader") "read_name" (jA (dQ K "Stuck") P w) 4 ["self","longest"] (qA K (dQ K "Reader")):=Bi.mt (g 32 (.mt "Reader" "read_name" "Reader.read_name" Oe) rfl) (λf fd F=>Xp F T S (nn (g 26 (.no "len") rfl)) (nn (g 33 (.no "tuple") rfl)) M2 M3 L1 L2) λ_ _ _ _ _ _ us hl=>(by obtain⟨a,b,rfl⟩:=_root_.L2.wI hl;rfl)
 have M7:oK P w K mg base (dQ K "Reader") "read_number" (jA (dQ K "Stuck") P w) 4 ["self","least","most"] (kM K (dQ K "Reader")):=Bi.mt (g 34 (.mt "Reader" "read_number" "Reader.read_number" vP) rfl) (λf fd F=>Pn F T S (nn (g 22 (.no "ord") rfl)) M2 M3 L2) λ_ _ _ _ _ _ us hl=>(by obtain⟨a,b,c,rfl⟩:=_root_.L2.us3 hl;rfl)
 have M8:oK P w K mg base (dQ K "Reader") "read_end" (jA (dQ K "Stuck") P w) 3 ["self"] (Ai K (dQ K "Reader")):=Bi.mt (g 35 (.mt "Reader" "read_end" "Reader.read_end" Xr) rfl) (λf fd F=>aCr F T S M1) λ_ _ _ _ _ _ us hl=>(by obtain⟨a,rfl⟩:=_root_.L2.tL hl;rfl)
 have PM:PtM P w K mg base (dQ K "Part"):=⟨Bi.mk (g 36 (.mt "Part" "__init__" "Part.__init__" Dv) rfl) (g 3 (.cl "Part") rfl) (λf fd F=>Wc F TP) λ_ _ _ _ _ _ us hl=>(by obtain⟨a,b,c,d,e,f,g,rfl⟩:=_root_.L2.us7 hl;rfl),mg_of X G (Kh.ns (g 3 (.cl "Part") rfl))⟩
 have BM:BdM P w K mg base (dQ K "Build"):=⟨Bi.mk (g 37 (.mt "Build" "__init__" "Build.__init__" vW) rfl) (g 10 (.cl "Build") rfl) (λf fd F=>aDn F TB) λ_ _ _ _ _ _ us hl=>(by obtain⟨a,b,c,rfl⟩:=_root_.L2.us3 hl;rfl),mg_of X G (Kh.ns (g 10 (.cl "Build") rfl))⟩
 have GM:GvM P w K mg base (dQ K "Given"):=⟨Bi.mkN (g 38 (.mt "Given" "__init__" "Given.__init__" wL) rfl) (g 13 (.cl "Given") rfl) (λf fd F=>Yj F TG) λ_ _ _ _ _ _ us hl=>(by obtain⟨a,b,c,d,e,rfl⟩:=_root_.L2.us5 hl;rfl),mg_of X G (Kh.ns (g 13 (.cl "Given") rfl))⟩
 have L3:dE P w K mg base "has_stud" bN 1 ["sign"] yQ:=gJ.fn0 (g 39 (.fn "has_stud" sL) rfl) X G (λf fd F=>aAv F (ci (g 40 (.int "STUD" 115) rfl)) (ci (g 41 (.int "BOTH" 98) rfl))) λ_ _ _ _ _ _ us hl=>(by obtain⟨a,rfl⟩:=_root_.L2.tL hl;rfl)
 have L4:dE P w K mg base "has_tube" bN 1 ["sign"] wT:=gJ.fn0 (g 42 (.fn "has_tube" rZ) rfl) X G (λf fd F=>aAc F (ci (g 43 (.int "TUBE" 116) rfl)) (ci (g 41 (.int "BOTH" 98) rfl))) λ_ _ _ _ _ _ us hl=>(by obtain⟨a,rfl⟩:=_root_.L2.tL hl;rfl)
 have L5:dE P w K mg base "above" bN 1 ["place"] oU:=gJ.fn0 (g 44 (.fn "above" Cq) rfl) X G (λf fd F=>Uy F) λ_ _ _ _ _ _ us hl=>(by obtain⟨a,rfl⟩:=_root_.L2.tL hl;rfl)
 have L6:dE P w K mg base "below" bN 1 ["place"] oF:=gJ.fn0 (g 45 (.fn "below" Dz) rfl) X G (λf fd F=>Wx F) λ_ _ _ _ _ _ us hl=>(by obtain⟨a,rfl⟩:=_root_.L2.tL hl;rfl)
 have L9:dE P w K mg base "read_cells" (jA (dQ K "Stuck") P w) 6 ["reader","width","depth","height"] (Cw K (dQ K "Reader")):=gJ.fn0 (g 46 (.fn "read_cells" lD) rfl) X G (λf fd F=>Vn F T (nn (g 47 (.no "range") rfl)) hS (mg_of X G T7) (ci (g 48 (.int "NO_CELL" 46) rfl)) M4 M5) λ_ _ _ _ _ _ us hl=>(by obtain⟨a,b,c,d,rfl⟩:=_root_.L2.us4 hl;rfl)
 have L8:dE P w K mg base "read_part" (jA (dQ K "Stuck") P w) 7 ["reader"] (Ja K (dQ K "Reader") (dQ K "Part")):=gJ.fn0 (g 49 (.fn "read_part" oE) rfl) X G (λf fd F=>Zg F T PM (ci (g 50 (.int "LONGEST_PART_NAME" 8) rfl)) (ci (g 51 (.int "MOST_WIDTH" 16) rfl)) (ci (g 52 (.int "MOST_DEPTH" 16) rfl)) (ci (g 53 (.int "MOST_HEIGHT" 18) rfl)) (ci (g 54 (.int "MOST_WEIGHT" 9999) rfl)) M5 M6 M7 L9) λ_ _ _ _ _ _ us hl=>(by obtain⟨a,rfl⟩:=_root_.L2.tL hl;rfl)
 have L7:dE P w K mg base "read_catalogue" (jA (dQ K "Stuck") P w) 8 ["c"] (Nu K (dQ K "Part")):=gJ.fn0 (g 55 (.fn "read_catalogue" rB) rfl) X G (λf fd F=>aCf F T RK (nn (g 26 (.no "len") rfl)) (ci (g 56 (.int "MOST_PARTS" 64) rfl)) M1 M8 L8) λ_ _ _ _ _ _ us hl=>(by obtain⟨a,rfl⟩:=_root_.L2.tL hl;rfl)
 have UA:dE P w K mg base "studs_clear" bN 2 ["part"] (Cs (dQ K "Part")):=gJ.fn0 (g 57 (.fn "studs_clear" Du) rfl) X G (λf fd F=>Ua F TP L3 L5) λ_ _ _ _ _ _ us hl=>(by obtain⟨a,rfl⟩:=_root_.L2.tL hl;rfl)
 have UB:dE P w K mg base "tubes_clear" bN 2 ["part"] (Cz (dQ K "Part")):=gJ.fn0 (g 58 (.fn "tubes_clear" Dq) rfl) X G (λf fd F=>Ud F TP L4 L6) λ_ _ _ _ _ _ us hl=>(by obtain⟨a,rfl⟩:=_root_.L2.tL hl;rfl)
 have UC:dE P w K mg base "fills_its_box" bN 2 ["part"] (Eb (dQ K "Part")):=gJ.fn0 (g 59 (.fn "fills_its_box" yF) rfl) X G (λf fd F=>Tt F TP (nn (g 60 (.no "enumerate") rfl))) λ_ _ _ _ _ _ us hl=>(by obtain⟨a,rfl⟩:=_root_.L2.tL hl;rfl)
 have UD:dE P w K mg base "neighbours" bN 2 ["place"] Ds:=gJ.fn0 (g 61 (.fn "neighbours" En) rfl) X G (λf fd F=>Sq F L5 L6) λ_ _ _ _ _ _ us hl=>(by obtain⟨a,rfl⟩:=_root_.L2.tL hl;rfl)
 have UE:dE P w K mg base "hangs_together" bN 3 ["part"] (Ep (dQ K "Part")):=gJ.fn0 (g 62 (.fn "hangs_together" Dg) rfl) X G (λf fd F=>Vq F TP (nn (g 26 (.no "len") rfl)) (nn (g 63 (.no "list") rfl)) UD) λ_ _ _ _ _ _ us hl=>(by obtain⟨a,rfl⟩:=_root_.L2.tL hl;rfl)
 have UF:dE P w K mg base "names_grow" bN 2 ["parts"] (Je K (dQ K "Part")):=gJ.fn0 (g 64 (.fn "names_grow" Mp) rfl) X G (λf fd F=>Za F TP (nn (g 47 (.no "range") rfl)) (nn (g 26 (.no "len") rfl))) λ_ _ _ _ _ _ us hl=>(by obtain⟨a,rfl⟩:=_root_.L2.tL hl;rfl)
 have UG:dE P w K mg base "part_right" bN 4 ["part"] (wG (dQ K "Part")):=gJ.fn0 (g 65 (.fn "part_right" lZ) rfl) X G (λf fd F=>Wp F UA UB UC UE) λ_ _ _ _ _ _ us hl=>(by obtain⟨a,rfl⟩:=_root_.L2.tL hl;rfl)
 have UH:dE P w K mg base "catalogue_right" bN 5 ["parts"] (qK K (dQ K "Part")):=gJ.fn0 (g 66 (.fn "catalogue_right" jX) rfl) X G (λf fd F=>Ij F (nn (g 67 (.no "all") rfl)) UG UF) λ_ _ _ _ _ _ us hl=>(by obtain⟨a,rfl⟩:=_root_.L2.tL hl;rfl)
 have UI:dE P w K mg base "some_begins" bN 2 ["names","beginning"] (wM K):=gJ.fn0 (g 68 (.fn "some_begins" rA) rfl) X G (λf fd F=>Po F (nn (g 69 (.no "any") rfl)) (nn (g 26 (.no "len") rfl))) λ_ _ _ _ _ _ us hl=>(by obtain⟨a,b,rfl⟩:=_root_.L2.wI hl;rfl)
 have UJ:dE P w K mg base "read_part_number" (jA (dQ K "Stuck") P w) 5 ["reader","names"] (zS K (dQ K "Reader")):=gJ.fn0 (g 70 (.fn "read_part_number" wE) rfl) X G (λf fd F=>Oy F T S M2 M3 UI) λ_ _ _ _ _ _ us hl=>(by obtain⟨a,b,rfl⟩:=_root_.L2.wI hl;rfl)
 have UK:dE P w K mg base "read_line" (jA (dQ K "Stuck") P w) 6 ["reader","names"] (Jg K (dQ K "Reader")):=gJ.fn0 (g 71 (.fn "read_line" oW) rfl) X G (λf fd F=>Zs F T (nn (g 33 (.no "tuple") rfl)) (ci (g 72 (.int "MOST_COLOUR" 255) rfl)) (ci (g 73 (.int "ROOM_WIDTH" 64) rfl)) (ci (g 74 (.int "ROOM_DEPTH" 64) rfl)) (ci (g 75 (.int "ROOM_HEIGHT" 96) rfl)) (ci (g 76 (.int "MOST_TURNS" 3) rfl)) M5 M7 UJ) λ_ _ _ _ _ _ us hl=>(by obtain⟨a,b,rfl⟩:=_root_.L2.wI hl;rfl)
 have UL:dE P w K mg base "read_build" (jA (dQ K "Stuck") P w) 7 ["b","names"] (wA K (dQ K "Build")):=gJ.fn0 (g 77 (.fn "read_build" mC) rfl) X G (λf fd F=>Uo F T RK BM (nn (g 26 (.no "len") rfl)) (ci (g 78 (.int "LONGEST_BUILD_NAME" 16) rfl)) (ci (g 79 (.int "MOST_LINES" 256) rfl)) M1 M8 M5 M6 UK) λ_ _ _ _ _ _ us hl=>(by obtain⟨a,b,rfl⟩:=_root_.L2.wI hl;rfl)
 have MS:dE P w K mg base "names_of" bN 1 ["parts"] (sE K (dQ K "Part")):=gJ.fn0 (g 80 (.fn "names_of" nU) rfl) X G (λf fd F=>Tq F TP) λ_ _ _ _ _ _ us hl=>(by obtain⟨a,rfl⟩:=_root_.L2.tL hl;rfl)
 exact⟨TG,TP,TB,PM,BM,L3,L4,L5,L6,MS,gJ.fn0 (g 81 (.fn "read_given" iS) rfl) X G (λf fd F=>Wt F GM S (nn (g 26 (.no "len") rfl)) (ci (g 82 (.int "MOST_CATALOGUE_BYTES" 1048576) rfl)) (ci (g 83 (.int "MOST_BUILD_BYTES" 16384) rfl)) L7 UH UL MS) λ_ _ _ _ _ _ us hl=>(by obtain⟨a,b,rfl⟩:=_root_.L2.wI hl;rfl)⟩
end Br1
namespace Br1
def aY(t:Br.Bytes):List Int:=t.map λc=>(c.toNat:Int)
abbrev At(t:Br.Bytes)(p:Nat):Nat×Br.Bytes:=(p,t.drop p)
def sP(i:Int):UInt8:=UInt8.ofNat i.toNat
theorem Xb(c:UInt8):sP (c.toNat:Int)=c:=by
 unfold sP
 rw[fc]
 exact O5
theorem fU{c:UInt8}(h:t[p]?=some c):aT (aY t) p=(c.toNat:Int):=by
 unfold aT aY
 rw[bg,h]
 rfl
theorem fR(h:t[p]?=none):aT (aY t) p=256:=by
 unfold aT aY
 rw[bg,h]
 rfl
theorem rM{c:UInt8}:aT (aY t) p=(c.toNat:Int)↔t[p]?=some c:=by
 constructor
 ·intro h
  cases e:t[p]? with
  |none=>
   rw[fR e] at h
   have:=J0 c
   omega
  |some d=>
   rw[fU e] at h
   have:d.toNat=c.toNat:=by omega
   rw[UInt8.toNat_inj.mp this]
 ·exact fU
theorem fK(t:Br.Bytes):(aY t).length=t.length:=ai _
theorem bI{x:Br.Rd α}{f:α->Br.Rd β}{s:Nat×Br.Bytes}:(x>>=f) s=eM (x s) λr=>f r.1 r.2:=by
 show (StateT.bind x f) s=_
 unfold StateT.bind
 cases x s with
 |error e=>rfl
 |ok r=>rfl
theorem jK:Br.peek (At t p)=.ok (t[p]?,At t p):=by
 show Except.ok ((t.drop p).head?,_)=_
 rw[List.head?_drop]
theorem oM:Br.skip (At t p)=.ok ((),At t (p+1)):=by
 show Except.ok ((),(p+1,(t.drop p).drop 1))=_
 rw[List.drop_drop]
def fE(t:Br.Bytes)(f:α->β):Except Nat (α×Nat)->Except Nat (β×(Nat×Br.Bytes))
 |.ok x=>.ok (f x.1,At t x.2)
 |.error e=>.error e
def Of(t:Br.Bytes):Except Nat Nat->Except Nat (Unit×(Nat×Br.Bytes))
 |.ok q=>.ok ((),At t q)
 |.error e=>.error e
theorem Dh{c:UInt8}:Br.byte_ c (At t p)=if t[p]?=some c then .ok ((),At t (p+1)) else .error p:=by
 unfold Br.byte_
 rw[bI,jK,cA]
 show (if t[p]?=some c then Br.skip else Br.stray) (At t p)=_
 by_cases h:t[p]?=some c
 ·rw[af h,af h]
  exact oM
 ·rw[ae h,ae h]
  rfl
theorem qU:∀{cs:Br.Bytes}{p:Nat},Br.bytes_ cs (At t p)=Of t (aV (aY t) p (cs.map UInt8.toNat))
 |[],p=>rfl
 |c::r,p=>by
  rw[Br.bytes_,bI,Dh]
  rw[bn,aV]
  by_cases h:t[p]?=some c
  ·rw[af h,af (rM.mpr h)]
   exact qU
  ·rw[ae h,ae (λz=>h (rM.mp z))]
   rfl
theorem pF{c:UInt8}:Br.byte_ c (At t p)=Of t (aV (aY t) p [c.toNat]):=by
 rw[Dh,aV]
 by_cases h:t[p]?=some c
 ·rw[af h,af (rM.mpr h)]
  rfl
 ·rw[ae h,ae (λz=>h (rM.mp z))]
  rfl
theorem aA6{lo n:Nat}(bo:lo<=1)(hh:lo<=hi):Br.leadsTo lo hi n=decide (lo<=n/\n<=hi):=by
 unfold Br.leadsTo
 by_cases hn:n=0
 ·rw[af hn,hn,ge,cp,b7]
  (clear hn hh bo;omega)
 ·rw[ae hn,ge,mr,b7]
  constructor
  ·rintro⟨k,_,h⟩
   rw[cn,b7,b7] at h
   have h1:1<=10 ^ k:=Nat.one_le_pow _ _ (by decide)
   have h2:n * 1<=n * 10 ^ k:=Nat.mul_le_mul_left n h1
   (clear h1 hh;omega)
  ·rintro⟨h1,h2⟩
   refine⟨0,by simp,?_⟩
   rw[cn,b7,b7]
   simp
   (clear h1 hh;omega)
theorem fP(c:UInt8):Br.isDigit c=jG (c.toNat:Int):=by
 unfold Br.isDigit jG
 rw[ge,cn,cn,b7,b7,b7,b7]
 omega
theorem yB(c:UInt8):Br.isLow c=kX (c.toNat:Int):=by
 unfold Br.isLow kX
 rw[ge,cn,cn,b7,b7,b7,b7]
 omega
theorem vE{lo f:Nat}{v:Option Nat}:Br.digits lo hi (f+1) v (At t p)=
  match ((t[p]?).bind λ(c:UInt8)=>if Br.isDigit c=false\/v=some 0 then Option.none else (if Br.leadsTo lo hi (10 * v.getD 0+(c.toNat - 48))=true then some (10 * v.getD 0+(c.toNat - 48)) else Option.none)) with
  |some n=>Br.digits lo hi f (some n) (At t (p+1))
  |Option.none=>match v with
   |some n=>if lo<=n/\n<=hi then .ok (n,At t p) else .error p
   |Option.none=>.error p:=by
 show (Br.peek>>=λ(o:Option UInt8)=>(match (o.bind λ(c:UInt8)=>if Br.isDigit c=false\/v=some 0 then Option.none else (if Br.leadsTo lo hi (10 * v.getD 0+(c.toNat - 48))=true then some (10 * v.getD 0+(c.toNat - 48)) else Option.none)) with
  |some n=>(do Br.skip;Br.digits lo hi f (some n):Br.Rd Nat)
  |Option.none=>(match v with
   |some n=>(if lo<=n/\n<=hi then pure n else Br.stray:Br.Rd Nat)
   |Option.none=>Br.stray))) (At t p)=_
 rw[bI,jK]
 show (match ((t[p]?).bind λ(c:UInt8)=>if Br.isDigit c=false\/v=some 0 then Option.none else (if Br.leadsTo lo hi (10 * v.getD 0+(c.toNat - 48))=true then some (10 * v.getD 0+(c.toNat - 48)) else Option.none)) with
  |some n=>(do Br.skip;Br.digits lo hi f (some n):Br.Rd Nat)
  |Option.none=>(match v with
   |some n=>(if lo<=n/\n<=hi then pure n else Br.stray:Br.Rd Nat)
   |Option.none=>Br.stray)) (At t p)=_
 cases (t[p]?).bind λ(c:UInt8)=>if Br.isDigit c=false\/v=some 0 then Option.none else (if Br.leadsTo lo hi (10 * v.getD 0+(c.toNat - 48))=true then some (10 * v.getD 0+(c.toNat - 48)) else Option.none) with
 |some n=>
  show (Br.skip>>=λ_=>Br.digits lo hi f (some n)) (At t p)=_
  rw[bI,oM]
  rfl
 |none=>
  cases v with
  |none=>rfl
  |some n=>
   by_cases h:lo<=n/\n<=hi
   ·simp only[h,vp,and_self]
    rfl
   ·simp only[h,ju]
    rfl
theorem vD{lo:Nat}(bo:lo<=1):∀{f p n m:Nat},1<=f->(n=0\/hi<n * 10 ^ f)->lo<=n->n<=hi->t.length<=p+m->
  Br.digits lo hi f (some n) (At t p)=.ok ((dD (aY t) hi m p (n:Int)).1.toNat,At t (dD (aY t) hi m p (n:Int)).2)
 |0,p,n,m,h,_,_,_,_=>absurd h (by decide)
 |f+1,p,n,m,_,hc,h1,h2,hm=>by
  rw[vE]
  have stop:(dD (aY t) hi m p (n:Int))=((n:Int),p)->(if lo<=n/\n<=hi then (.ok (n,At t p):Except Nat (Nat×(Nat×Br.Bytes))) else .error p)=.ok ((dD (aY t) hi m p (n:Int)).1.toNat,At t (dD (aY t) hi m p (n:Int)).2):=λe=>by
   rw[af ⟨h1,h2⟩,e]
   show _=Except.ok (((n:Int)).toNat,At t p)
   rw[fc]
  cases e:t[p]? with
  |none=>
   show (if lo<=n/\n<=hi then (.ok (n,At t p):Except Nat (Nat×(Nat×Br.Bytes))) else .error p)=_
   refine stop ?_
   cases m with
   |zero=>rfl
   |succ m=>
    rw[dD,ae]
    rintro⟨_,z,_⟩
    rw[fR e] at z
    revert z
    decide
  |some c=>
   have hp:p<t.length:=(bp.mp e).1
   obtain⟨m,rfl⟩:∃m',m=m'+1:=⟨m - 1,by (clear h2 h1 hc bo;omega)⟩
   have hh:=fU e
   by_cases hd:Br.isDigit c=false\/(some n:Option Nat)=some 0
   ·show (match (if Br.isDigit c=false\/(some n:Option Nat)=some 0 then (Option.none:Option Nat) else _) with
     |some n=>_
     |Option.none=>(if lo<=n/\n<=hi then (.ok (n,At t p):Except Nat (Nat×(Nat×Br.Bytes))) else .error p))=_
    rw[af hd]
    refine stop ?_
    rw[dD,ae]
    rintro⟨z1,z2,_⟩
    rw[hh,<-fP] at z2
    rcases hd with hd|hd
    ·rw[hd] at z2;cases z2
    ·cases hd;exact absurd z1 (by decide)
   ·have n0:Br.isDigit c=true:=by
     cases z:Br.isDigit c with
     |true=>rfl
     |false=>exact absurd (.inl z) hd
    have tj:n≠0:=λz=>hd (.inr (by rw[z]))
    have ii:48<=c.toNat/\c.toNat<=57:=by
     rw[fP] at n0
     have:=iP n0
     (clear tj hd hh hm hp h2 h1 hc bo;omega)
    show (match (if Br.isDigit c=false\/(some n:Option Nat)=some 0 then (Option.none:Option Nat) else (if Br.leadsTo lo hi (10 * n+(c.toNat - 48))=true then some (10 * n+(c.toNat - 48)) else Option.none)) with
     |some n=>Br.digits lo hi f (some n) (At t (p+1))
     |Option.none=>(if lo<=n/\n<=hi then (.ok (n,At t p):Except Nat (Nat×(Nat×Br.Bytes))) else .error p))=_
    rw[ae hd,aA6 bo (gm h1 h2)]
    by_cases hl:lo<=10 * n+(c.toNat - 48)/\10 * n+(c.toNat - 48)<=hi
    ·rw[af (decide_eq_true hl)]
     have vf:n * 10 ^ (f+1)=(10 * n) * 10 ^ f:=by rw[Nat.pow_succ,mm (10 ^ f) 10,<-FL,mm n 10]
     have dk:hi<n * 10 ^ (f+1):=by
      rcases hc with z|z
      ·exact absurd z tj
      ·exact z
     have hf:1<=f:=by
      cases f with
      |zero=>rw[vf,Nat.pow_zero,Nat.mul_one] at dk;(clear dk vf ii hd hh hm hp h2 h1 bo;omega)
      |succ f=>(clear dk vf hc hl ii tj hd hh hm hp h2 h1 bo;omega)
     have DZ:(10 * n) * 10 ^ f<=(10 * n+(c.toNat - 48)) * 10 ^ f:=AK _ (by (clear hf dk vf hl ii tj hd hh hm hp h2 h1 hc bo;omega))
     show Br.digits lo hi f (some (10 * n+(c.toNat - 48))) (At t (p+1))=_
     rw[vD bo (m:=m) hf (.inr (by (clear hf dk hl ii hd hh hm hp h2 h1 bo;omega))) hl.1 hl.2 (by (clear DZ hf dk vf hl ii tj hd hh hp h2 h1 hc bo;omega))]
     have e2:dD (aY t) hi (m+1) p (n:Int)=dD (aY t) hi m (p+1) ((10 * n+(c.toNat - 48):Nat):Int):=by
      rw[dD,af]
      ·congr 1
       rw[hh]
       (clear DZ hf dk vf hl tj hd hh hm hp h2 h1 hc bo;omega)
      ·rw[hh]
       refine⟨by (clear DZ hf dk vf hl ii hd hh hm hp h2 h1 hc bo;omega),by rw[<-fP];exact n0,by (clear DZ hf dk vf ii tj hd hh hm hp h2 h1 hc bo;omega)⟩
     rw[e2]
    ·rw[ae (by rw[jk hl];decide)]
     refine stop ?_
     rw[dD,ae]
     rw[hh]
     rintro⟨_,_,z⟩
     exact hl ⟨by (clear z hl ii tj hd hh hm hp h2 h1 hc;omega),by (clear hl tj hd hh hm hp h2 h1 hc bo;omega)⟩
theorem aCw{lo:Nat}(bo:lo<=1)(h1:lo<=hi)(d4:hi<=100000):Br.num lo hi (At t p)=fE t id (jB (aY t) p lo hi):=by
 unfold Br.num
 rw[vE]
 unfold jB
 cases e:t[p]? with
 |none=>
  rw[ae]
  ·rfl
  ·rintro⟨z,_⟩
   rw[fR e] at z
   revert z
   decide
 |some c=>
  have hh:=fU e
  show (match (if Br.isDigit c=false\/(Option.none:Option Nat)=some 0 then (Option.none:Option Nat) else (if Br.leadsTo lo hi (10 * 0+(c.toNat - 48))=true then some (10 * 0+(c.toNat - 48)) else Option.none)) with
   |some n=>Br.digits lo hi 19 (some n) (At t (p+1))
   |Option.none=>(.error p:Except Nat (Nat×(Nat×Br.Bytes))))=_
  by_cases hd:Br.isDigit c=true
  ·have ii:48<=c.toNat/\c.toNat<=57:=by
    rw[fP] at hd
    have:=iP hd
    (clear hh d4 h1 bo;omega)
   rw[ae (by rw[hd];simp),aA6 bo h1]
   by_cases hl:lo<=10 * 0+(c.toNat - 48)/\10 * 0+(c.toNat - 48)<=hi
   ·have hok:jH (aY t) p lo hi:=by
     unfold jH
     rw[hh]
     exact⟨by rw[<-fP];exact hd,by (clear hh d4 h1 bo;omega),by (clear ii hh d4 h1 bo;omega)⟩
    rw[af (decide_eq_true hl),af hok]
    have hp:p<t.length:=(bp.mp e).1
    have big:10 * 0+(c.toNat - 48)=0\/hi<(10 * 0+(c.toNat - 48)) * 10 ^ 19:=by (clear hp hl ii hh h1 bo;omega)
    show Br.digits lo hi 19 (some (10 * 0+(c.toNat - 48))) (At t (p+1))=_
    rw[vD bo (m:=(aY t).length - (p+1)) (by decide) big hl.1 hl.2 (by rw[fK];(clear big hp hl ii hh d4 h1 bo;omega))]
    have e2:((10 * 0+(c.toNat - 48):Nat):Int)=aT (aY t) p - 48:=by rw[hh];(clear big hp hl hh d4 h1 bo;omega)
    rw[e2]
    rfl
   ·have cg:¬jH (aY t) p lo hi:=by
     unfold jH
     rw[hh]
     rintro⟨_,z1,z2⟩
     exact hl ⟨by (clear z2 hl ii hh d4 h1 bo;omega),by (clear z1 hl ii hh d4 h1 bo;omega)⟩
    rw[ae (by rw[jk hl];decide),ae cg]
    rfl
  ·have hd:Br.isDigit c=false:=by
    cases z:Br.isDigit c with
    |false=>rfl
    |true=>exact absurd z hd
   have cg:¬jH (aY t) p lo hi:=by
    unfold jH
    rw[hh,<-fP,hd]
    rintro⟨z,_⟩
    cases z
   rw[af (.inl hd),ae cg]
   rfl
theorem Fm:∀{n p:Nat},Br.while_ (λ(c:UInt8)=>Br.isLow c||Br.isDigit c) n (At t p)=.ok ((bJ (aY t) p n).map sP,At t (p+(bJ (aY t) p n).length))
 |0,p=>rfl
 |n+1,p=>by
  show (Br.peek>>=λ(o:Option UInt8)=>(match o with
   |some c=>(if (Br.isLow c||Br.isDigit c)=true then (do Br.skip;let r <-Br.while_ (λ(c:UInt8)=>Br.isLow c||Br.isDigit c) n;return c::r) else return []:Br.Rd Br.Bytes)
   |Option.none=>return [])) (At t p)=_
  rw[bI,jK,bJ]
  cases e:t[p]? with
  |none=>
   rw[ae (by rw[fR e];decide)]
   rfl
  |some c=>
   have hh:=fU e
   have ea:gT (aT (aY t) p)=(Br.isLow c||Br.isDigit c):=by rw[hh,yB,fP];rfl
   by_cases h:(Br.isLow c||Br.isDigit c)=true
   ·rw[af (by rw[ea];exact h)]
    show (if (Br.isLow c||Br.isDigit c)=true then (do Br.skip;let r <-Br.while_ (λ(c:UInt8)=>Br.isLow c||Br.isDigit c) n;return c::r) else return []:Br.Rd Br.Bytes) (At t p)=_
    rw[af h]
    show (Br.skip>>=λ_=>Br.while_ (λ(c:UInt8)=>Br.isLow c||Br.isDigit c) n>>=λr=>pure (c::r)) (At t p)=_
    rw[bI,oM]
    show (Br.while_ (λ(c:UInt8)=>Br.isLow c||Br.isDigit c) n>>=λr=>pure (c::r)) (At t (p+1))=_
    rw[bI,Fm]
    show Except.ok (c::(bJ (aY t) (p+1) n).map sP,At t (p+1+(bJ (aY t) (p+1) n).length))=_
    rw[bn,bw,hh,Xb]
    congr 3<;>(clear hh;omega)
   ·rw[ae (by rw[ea];exact h)]
    show (if (Br.isLow c||Br.isDigit c)=true then (do Br.skip;let r <-Br.while_ (λ(c:UInt8)=>Br.isLow c||Br.isDigit c) n;return c::r) else return []:Br.Rd Br.Bytes) (At t p)=_
    rw[ae h]
    rfl
theorem Lz{n:Nat}:(Br.peek>>=λ(o:Option UInt8)=>(match o with
   |some c=>(if Br.isLow c=true then (do Br.skip;let r <-Br.while_ (λ(c:UInt8)=>Br.isLow c||Br.isDigit c) n;return c::r) else Br.stray:Br.Rd Br.Bytes)
   |Option.none=>Br.stray)) (At t p)=fE t (List.map sP) (gG (aY t) p (n+1)):=by
 rw[bI,jK]
 unfold gG
 cases e:t[p]? with
 |none=>
  rw[ae (by rw[fR e];decide)]
  rfl
 |some c=>
  have hh:=fU e
  by_cases h:Br.isLow c=true
  ·have hl:kX (aT (aY t) p)=true:=by rw[hh,<-yB];exact h
   have ha:gT (aT (aY t) p)=true:=by unfold gT;rw[hl];rfl
   rw[af hl]
   show (if Br.isLow c=true then (do Br.skip;let r <-Br.while_ (λ(c:UInt8)=>Br.isLow c||Br.isDigit c) n;return c::r) else Br.stray:Br.Rd Br.Bytes) (At t p)=_
   rw[af h]
   show (Br.skip>>=λ_=>Br.while_ (λ(c:UInt8)=>Br.isLow c||Br.isDigit c) n>>=λr=>pure (c::r)) (At t p)=_
   rw[bI,oM]
   show (Br.while_ (λ(c:UInt8)=>Br.isLow c||Br.isDigit c) n>>=λr=>pure (c::r)) (At t (p+1))=_
   rw[bI,Fm]
   have en:bJ (aY t) p (n+1)=aT (aY t) p::bJ (aY t) (p+1) n:=by rw[bJ,af ha]
   rw[en]
   show Except.ok (c::(bJ (aY t) (p+1) n).map sP,At t (p+1+(bJ (aY t) (p+1) n).length))=Except.ok ((aT (aY t) p::bJ (aY t) (p+1) n).map sP,At t (p+(aT (aY t) p::bJ (aY t) (p+1) n).length))
   rw[bn,bw,hh,Xb]
   congr 3<;>(clear hh;omega)
  ·rw[ae (by rw[hh,<-yB];exact h)]
   show (if Br.isLow c=true then (do Br.skip;let r <-Br.while_ (λ(c:UInt8)=>Br.isLow c||Br.isDigit c) n;return c::r) else Br.stray:Br.Rd Br.Bytes) (At t p)=_
   rw[ae h]
   rfl
theorem Zq:Br.name_ (At t p)=fE t (List.map sP) (gG (aY t) p 8):=Lz
theorem Hk:Br.longName_ (At t p)=fE t (List.map sP) (gG (aY t) p 16):=Lz
def pJ(i:Int):Br.Place:=if i=46 then .none else if i=35 then .cell false false else if i=115 then .cell true false else if i=116 then .cell false true else .cell true true
theorem Ko(c:UInt8):Br.placeOf c=if (c.toNat:Int)∈cM then some (pJ (c.toNat:Int)) else Option.none:=by
 have key:∀n:Fin 256,Br.placeOf (UInt8.ofNat n.1)=if ((UInt8.ofNat n.1).toNat:Int)∈cM then some (pJ ((UInt8.ofNat n.1).toNat:Int)) else Option.none:=by decide+kernel
 have h:=key ⟨c.toNat,J0 c⟩
 have e:UInt8.ofNat c.toNat=c:=O5
 simp only[e] at h
 exact h
theorem Vi:Br.place_ (At t p)=if aT (aY t) p∈cM then .ok (pJ (aT (aY t) p),At t (p+1)) else .error p:=by
 show (Br.peek>>=λ(o:Option UInt8)=>(match o.bind Br.placeOf with
   |some q=>(do Br.skip;return q:Br.Rd Br.Place)
   |Option.none=>Br.stray)) (At t p)=_
 rw[bI,jK]
 cases e:t[p]? with
 |none=>
  rw[fR e,ae (by decide)]
  rfl
 |some c=>
  rw[fU e]
  show (match Br.placeOf c with
   |some q=>(do Br.skip;return q:Br.Rd Br.Place)
   |Option.none=>Br.stray) (At t p)=_
  rw[Ko]
  by_cases h:(c.toNat:Int)∈cM
  ·rw[af h,af h]
   show (Br.skip>>=λ_=>pure (pJ (c.toNat:Int))) (At t p)=_
   rw[bI,oM]
   rfl
  ·rw[ae h,ae h]
   rfl
theorem zN{n:Nat}{r:Br.Rd α}{s:Nat×Br.Bytes}:Br.times (n+1) r s=eM (r s) λx=>eM (Br.times n r x.2) λy=>.ok (x.1::y.1,y.2):=by
 show (r>>=λx=>Br.times n r>>=λl=>pure (x::l)) s=_
 rw[bI]
 cases r s with
 |error e=>rfl
 |ok x=>
  show (Br.times n r>>=λl=>pure (x.1::l)) x.2=_
  rw[bI]
  rfl
theorem Hn:∀{n p:Nat},Br.times n Br.place_ (At t p)=fE t (List.map pJ) (bV (aY t) n p)
 |0,p=>rfl
 |n+1,p=>by
  rw[zN,Vi,bV]
  by_cases h:aT (aY t) p∈cM
  ·rw[af h,af h]
   show eM (Br.times n Br.place_ (At t (p+1))) (λy=>Except.ok (pJ (aT (aY t) p)::y.1,y.2))=_
   rw[Hn]
   cases bV (aY t) n (p+1) with
   |error e=>rfl
   |ok y=>rfl
  ·rw[ae h,ae h]
   rfl
theorem aDy{w:Nat}:Br.row_ w (At t p)=fE t (List.map pJ) (fG (aY t) w p):=by
 show (Br.times w Br.place_>>=λl=>Br.byte_ 10>>=λ_=>pure l) (At t p)=_
 rw[bI,Hn]
 unfold fG
 cases bV (aY t) w p with
 |error e=>rfl
 |ok y=>
  show (Br.byte_ 10>>=λ_=>pure (y.1.map pJ)) (At t y.2)=_
  rw[bI,Dh]
  have he:aT (aY t) y.2=10↔t[y.2]?=some 10:=rM (c:=10)
  by_cases h:t[y.2]?=some 10
  ·rw[af h]
   show _=fE t (List.map pJ) (if aT (aY t) y.2=10 then _ else _)
   rw[af (he.mpr h)]
   rfl
  ·rw[ae h]
   show _=fE t (List.map pJ) (if aT (aY t) y.2=10 then _ else _)
   rw[ae (λz=>h (he.mp z))]
   rfl
theorem Md{w:Nat}:∀{n p:Nat},Br.times n (Br.row_ w) (At t p)=fE t (List.map (List.map pJ)) (bU (aY t) w n p)
 |0,p=>rfl
 |n+1,p=>by
  rw[zN,aDy,bU]
  cases fG (aY t) w p with
  |error e=>rfl
  |ok y=>
   show eM (Br.times n (Br.row_ w) (At t y.2)) (λz=>Except.ok (y.1.map pJ::z.1,z.2))=_
   rw[Md]
   show _=fE t (List.map (List.map pJ)) (gI y.1 (bU (aY t) w n y.2))
   cases bU (aY t) w n y.2 with
   |error e=>rfl
   |ok z=>rfl
def bQ(pr:aL):Br.Part:=⟨pr.name.map sP,pr.w,pr.d,pr.h,pr.g,(pr.rows.map (List.map pJ)).flatten⟩
theorem xF{γ:Type}{x:Br.Rd α}{s:Nat×Br.Bytes}{r:Except Nat (γ×Nat)}{g:γ->α}{k:α->Br.Rd β}{f:γ×Nat->Except Nat (δ×Nat)}{u:δ->β}(h:x s=fE t g r)(hk:∀c,r=.ok c->k (g c.1) (At t c.2)=fE t u (f c)):
  (x>>=k) s=fE t u (eM r f):=by
 rw[bI,h]
 cases r with
 |error e=>rfl
 |ok c=>exact hk c rfl
theorem kO{x:Br.Rd Unit}{s:Nat×Br.Bytes}{r:Except Nat Nat}{k:Unit->Br.Rd β}{f:Nat->Except Nat (δ×Nat)}{u:δ->β}(h:x s=Of t r)(hk:∀c,r=.ok c->k () (At t c)=fE t u (f c)):
  (x>>=k) s=fE t u (eM r f):=by
 rw[bI,h]
 cases r with
 |error e=>rfl
 |ok c=>exact hk c rfl
theorem cY{lo:Nat}{k:Nat->Br.Rd β}{f:Nat×Nat->Except Nat (δ×Nat)}{u:δ->β}(bo:lo<=1)(h1:lo<=hi)(d4:hi<=100000)(hk:∀c,k c.1 (At t c.2)=fE t u (f c)):
  (Br.numAfter lo hi>>=k) (At t p)=fE t u (eM (aV (aY t) p [32]) λp1=>eM (jB (aY t) p1 lo hi) f):=by
 have e:(Br.numAfter lo hi>>=k) (At t p)=(Br.byte_ 32>>=λ_=>Br.num lo hi>>=k) (At t p):=by
  show ((Br.byte_ 32>>=λ_=>Br.num lo hi)>>=k) (At t p)=_
  rw[bI,bI,bI]
  cases Br.byte_ 32 (At t p) with
  |error e=>rfl
  |ok r=>
   show eM (Br.num lo hi r.2) (λr=>k r.1 r.2)=(Br.num lo hi>>=k) r.2
   rw[bI]
 rw[e]
 refine kO (pF (c:=32)) λp1 _=>?_
 exact xF (aCw bo h1 d4) λc _=>hk c
theorem Kj:Br.ascii "part "=[112,97,114,116,32]:=by decide+kernel
theorem Ml:Br.part_ (At t p)=fE t bQ (dW (aY t) p):=by
 show (Br.bytes_ (Br.ascii "part ")>>=λ_=>Br.name_>>=λn=>Br.numAfter 1 16>>=λw=>Br.numAfter 1 16>>=λd=>Br.numAfter 1 18>>=λh=>Br.numAfter 1 9999>>=λg=>Br.byte_ 10>>=λ_=>Br.times (d * h) (Br.row_ w)>>=λl=>pure (⟨n,w,d,h,g,l.flatten⟩:Br.Part)) (At t p)=_
 unfold dW
 rw[Kj]
 refine kO (qU (cs:=[112,97,114,116,32])) λp1 _=>?_
 refine xF Zq λnm _=>?_
 refine cY (lo:=1) (hi:=16) (by decide) (by decide) (by decide) λw=>?_
 refine cY (lo:=1) (hi:=16) (by decide) (by decide) (by decide) λd=>?_
 refine cY (lo:=1) (hi:=18) (by decide) (by decide) (by decide) λh=>?_
 refine cY (lo:=1) (hi:=9999) (by decide) (by decide) (by decide) λg=>?_
 refine kO (pF (c:=10)) λzj _=>?_
 exact xF Md λrs _=>rfl
theorem Mz{w:Nat}:∀{n p:Nat} {r:List (List Int)×Nat},p<=l.length->bU l w n p=.ok r->r.2<=l.length
 |0,p,r,hp,h=>by cases h;exact hp
 |n+1,p,r,hp,h=>by
  rw[bU] at h
  cases e:fG l w p with
  |error i=>rw[e] at h;cases h
  |ok q=>
   rw[e] at h
   obtain⟨q',e2,rfl⟩:=fV h
   show q'.2<=l.length
   refine Mz (r:=q') ?_ e2
   unfold fG at e
   split at e
   ·split at e
    ·rename_i di
     cases e
     have:=gA (l:=l) (p:=_) (by rw[di];decide)
     show _+1<=_
     (clear di hp;omega)
    ·cases e
   ·cases e
theorem Ol{q:aL×Nat}(h:dW l p=.ok q):q.2<=l.length:=by
 unfold dW at h
 obtain⟨p1,_,h⟩:=aM h
 obtain⟨nm,_,h⟩:=aM h
 obtain⟨_,_,h⟩:=aM h
 obtain⟨_,_,h⟩:=aM h
 obtain⟨_,_,h⟩:=aM h
 obtain⟨_,_,h⟩:=aM h
 obtain⟨_,_,h⟩:=aM h
 obtain⟨_,_,h⟩:=aM h
 obtain⟨_,_,h⟩:=aM h
 obtain⟨g,_,h⟩:=aM h
 obtain⟨zj,u6,h⟩:=aM h
 obtain⟨rs,u7,h⟩:=aM h
 cases h
 refine Mz ?_ u7
 rw[aV] at u6
 split at u6
 ·rename_i di
  have:=gA (l:=l) (p:=g.2) (by rw[di];decide)
  cases u6
  (clear di;omega)
 ·cases u6
theorem zM{r:Br.Rd α}:Br.toEnd r 0 (At t p)=if (t[p]?).isSome=true then .error p else .ok ([],At t p):=by
 show (Br.peek>>=λo=>if o.isSome=true then Br.stray else pure []) (At t p)=_
 rw[bI,jK]
 show (if (t[p]?).isSome=true then (Br.stray:Br.Rd (List α)) else pure []) (At t p)=_
 by_cases h:(t[p]?).isSome=true
 ·rw[af h,af h];rfl
 ·rw[ae h,ae h];rfl
theorem yS{r:Br.Rd α}{n:Nat}:Br.toEnd r (n+1) (At t p)=if (t[p]?).isSome=true then (eM (r (At t p)) λx=>eM (Br.toEnd r n x.2) λy=>.ok (x.1::y.1,y.2)) else .ok ([],At t p):=by
 show (Br.peek>>=λo=>if o.isSome=true then (r>>=λx=>Br.toEnd r n>>=λl=>pure (x::l)) else pure []) (At t p)=_
 rw[bI,jK]
 show (if (t[p]?).isSome=true then (r>>=λx=>Br.toEnd r n>>=λl=>pure (x::l)) else pure []:Br.Rd (List α)) (At t p)=_
 by_cases h:(t[p]?).isSome=true
 ·rw[af h,af h,bI]
  cases r (At t p) with
  |error e=>rfl
  |ok x=>
   show (Br.toEnd r n>>=λl=>pure (x.1::l)) x.2=_
   rw[bI]
   rfl
 ·rw[ae h,ae h];rfl
def aAo(t:Br.Bytes)(f:α->β):Except Nat (α×Nat)->Except Nat (β×(Nat×Br.Bytes))
 |.error e=>.error e
 |.ok r=>if r.2=t.length then .ok (f r.1,At t r.2) else .error r.2
theorem jI:(t[p]?).isSome=true↔p<t.length:=by
 by_cases h:p<t.length
 ·rw[ax h];simp[h]
 ·rw[jv (by omega)];simp[h]
theorem Gw:∀{n p:Nat},p<=t.length->Br.toEnd Br.part_ n (At t p)=aAo t (List.map bQ) (cT (aY t) n p)
 |0,p,hp=>by
  rw[zM]
  show _=if p=t.length then Except.ok (([]:List aL).map bQ,At t p) else .error p
  by_cases h:p=t.length
  ·rw[af h,ae (by rw[jI];(clear hp;omega))]
   rfl
  ·rw[ae h,af (by rw[jI];omega)]
 |n+1,p,hp=>by
  rw[yS,cT]
  by_cases h:p=t.length
  ·rw[ae (by rw[jI];(clear hp;omega)),af (by rw[fK];exact h)]
   show _=if p=t.length then Except.ok (([]:List aL).map bQ,At t p) else .error p
   rw[af h]
   rfl
  ·rw[af (by rw[jI];omega),ae (by rw[fK];exact h),Ml]
   cases e:dW (aY t) p with
   |error i=>rfl
   |ok q=>
    have hq:=Ol e
    rw[fK] at hq
    show eM (Br.toEnd Br.part_ n (At t q.2)) (λy=>Except.ok (bQ q.1::y.1,y.2))=aAo t (List.map bQ) (gI q.1 (cT (aY t) n q.2))
    rw[Gw hq]
    cases cT (aY t) n q.2 with
    |error i=>rfl
    |ok r=>
     show eM (if r.2=t.length then (Except.ok (r.1.map bQ,At t r.2):Except Nat _) else .error r.2) (λy=>Except.ok (bQ q.1::y.1,y.2))=if r.2=t.length then Except.ok ((q.1::r.1).map bQ,At t r.2) else .error r.2
     by_cases hr:r.2=t.length
     ·rw[af hr,af hr];rfl
     ·rw[ae hr,ae hr];rfl
theorem Uw(t:Br.Bytes):Br.readC t=eM (gY (aY t)) λU=>.ok (U.map bQ):=by
 show (((Br.part_>>=λp=>Br.toEnd Br.part_ 63>>=λl=>pure (p::l)) (At t 0)).map λ(x:Br.Catalogue×(Nat×Br.Bytes))=>x.1)=_
 rw[bI,Ml]
 unfold gY
 cases e:dW (aY t) 0 with
 |error i=>rfl
 |ok q=>
  have hq:=Ol e
  rw[fK] at hq
  show (((Br.toEnd Br.part_ 63>>=λl=>pure (bQ q.1::l)) (At t q.2)).map λ(x:Br.Catalogue×(Nat×Br.Bytes))=>x.1)=_
  rw[bI,Gw hq,cA]
  cases cT (aY t) 63 q.2 with
  |error i=>rfl
  |ok r=>
   show ((eM (if r.2=t.length then (Except.ok (r.1.map bQ,At t r.2):Except Nat _) else .error r.2) λy=>Except.ok (bQ q.1::y.1,y.2)).map λ(x:Br.Catalogue×(Nat×Br.Bytes))=>x.1)=eM (if r.2=(aY t).length then Except.ok (q.1::r.1) else .error r.2) λU=>.ok (U.map bQ)
   rw[fK]
   by_cases hr:r.2=t.length
   ·rw[af hr,af hr];rfl
   ·rw[ae hr,ae hr];rfl
theorem Mb{a b:Br.Bytes}(h:aY a=aY b):a=b:=by
 unfold aY at h
 refine List.map_inj_right (λx y e=>?_)|>.mp h
 have:x.toNat=y.toNat:=by omega
 exact UInt8.toNat_inj.mp this
theorem Gb(a:Br.Bytes)(c:UInt8):aY (a++[c])=aY a++[(c.toNat:Int)]:=by
 unfold aY
 rw[c9]
 rfl
theorem Qb(a n:Br.Bytes):a.isPrefixOf n=decide ((aY n).take (aY a).length=aY a):=by
 rw[ge,List.isPrefixOf_iff_prefix,List.prefix_iff_eq_take,b7,fK]
 have e:(aY n).take a.length=aY (n.take a.length):=by unfold aY;rw[List.map_take]
 rw[e]
 constructor
 ·intro h
  rw[<-h]
 ·intro h
  exact(Mb h).symm
theorem Bj(names:List Br.Bytes)(a:Br.Bytes):(names.any λn=>a.isPrefixOf n)=iA (names.map aY) (aY a):=by
 unfold iA
 rw[B']
 congr 1
 funext n
 exact Qb a n
theorem Cr(a:Br.Bytes):∀names:List Br.Bytes,(names.findIdx? λn=>n==a)=if aY a∈names.map aY then some (qW (names.map aY) (aY a)) else none
 |[]=>by simp
 |n::r=>by
  have ih:=Cr a r
  have hx:qW ((n::r).map aY) (aY a)=if aY n=aY a then 0 else qW (r.map aY) (aY a)+1:=by
   unfold qW
   rw[bn,List.findIdx_cons]
   by_cases h:aY n=aY a
   ·rw[decide_eq_true h,af h];rfl
   ·rw[jk h,ae h];rfl
  rw[List.findIdx?_cons,ih,hx]
  by_cases h:n=a
  ·subst h
   simp
  ·have h2:¬aY n=aY a:=λz=>h (Mb z)
   have h3:¬aY a=aY n:=λz=>h2 z.symm
   have hb:(n==a)=false:=pb.mpr h
   rw[hb,ae b6,ae h2]
   by_cases h4:aY a∈r.map aY
   ·rw[af h4,af (by rw[bn];exact az _ h4)]
    rfl
   ·rw[ae h4,ae (by rw[bn,ao];rintro(z|z);exact h3 z;exact h4 z)]
    rfl
theorem Xg{names:List Br.Bytes}:∀{f p:Nat}{acc:Br.Bytes},
  (((cQ (names.map aY) (aY t) f p (aY acc)).1∈names.map aY->Br.known names f acc (At t p)=.ok (qW (names.map aY) (cQ (names.map aY) (aY t) f p (aY acc)).1,At t (cQ (names.map aY) (aY t) f p (aY acc)).2)\/
   (Br.known names f acc (At t p)=.error (cQ (names.map aY) (aY t) f p (aY acc)).2/\t[(cQ (names.map aY) (aY t) f p (aY acc)).2]?=none))/\
  ((cQ (names.map aY) (aY t) f p (aY acc)).1∉names.map aY->Br.known names f acc (At t p)=.error (cQ (names.map aY) (aY t) f p (aY acc)).2)):=by
 intro f
 induction f with
 |zero=>
  intro p acc
  have e:Br.known names 0 acc (At t p)=if aY acc∈names.map aY then .ok (qW (names.map aY) (aY acc),At t p) else .error p:=by
   show (match names.findIdx? λ(n:Br.Bytes)=>n==acc with
    |some i=>(pure i:Br.Rd Nat)
    |Option.none=>Br.stray) (At t p)=_
   rw[Cr]
   by_cases h:aY acc∈names.map aY
   ·rw[af h,af h];rfl
   ·rw[ae h,ae h];rfl
  refine⟨λh=>.inl ?_,λh=>?_⟩
  ·rw[e];exact af h
  ·rw[e];exact ae h
 |succ f ih=>
  intro p acc
  have e:Br.known names (f+1) acc (At t p)=(match t[p]? with
    |some c=>(if (names.any λ(n:Br.Bytes)=>(acc++[c]).isPrefixOf n)=true then Br.known names f (acc++[c]) (At t (p+1)) else (if aY acc∈names.map aY then .ok (qW (names.map aY) (aY acc),At t p) else .error p))
    |Option.none=>.error p):=by
   show (Br.peek>>=λ(o:Option UInt8)=>(match o with
    |some c=>(if (names.any λ(n:Br.Bytes)=>(acc++[c]).isPrefixOf n)=true then (Br.skip>>=λ_=>Br.known names f (acc++[c])) else (match names.findIdx? λ(n:Br.Bytes)=>n==acc with
     |some i=>(pure i:Br.Rd Nat)
     |Option.none=>Br.stray))
    |Option.none=>Br.stray)) (At t p)=_
   rw[bI,jK,cA]
   cases e:t[p]? with
   |none=>rfl
   |some c=>
    show (if (names.any λ(n:Br.Bytes)=>(acc++[c]).isPrefixOf n)=true then (Br.skip>>=λ_=>Br.known names f (acc++[c])) else (match names.findIdx? λ(n:Br.Bytes)=>n==acc with
     |some i=>(pure i:Br.Rd Nat)
     |Option.none=>Br.stray)) (At t p)=if (names.any λ(n:Br.Bytes)=>(acc++[c]).isPrefixOf n)=true then Br.known names f (acc++[c]) (At t (p+1)) else (if aY acc∈names.map aY then .ok (qW (names.map aY) (aY acc),At t p) else .error p)
    by_cases h:(names.any λ(n:Br.Bytes)=>(acc++[c]).isPrefixOf n)=true
    ·rw[af h,af h,bI,oM]
     rfl
    ·rw[ae h,ae h,Cr]
     by_cases h2:aY acc∈names.map aY
     ·rw[af h2,af h2];rfl
     ·rw[ae h2,ae h2];rfl
  cases ep:t[p]? with
  |none=>
   rw[ep] at e
   have hb:¬iA (names.map aY) (aY acc++[aT (aY t) p])=true:=by
    rw[fR ep]
    unfold iA
    intro z
    obtain⟨m,hm,z⟩:=mr.mp z
    obtain⟨n,_,rfl⟩:=a8.mp hm
    have z:=dw z
    have:(256:Int)∈aY n:=by
     have:(256:Int)∈(aY n).take (aY acc++[256]).length:=by rw[z];simp
     exact O3 this
    unfold aY at this
    obtain⟨c,_,hc⟩:=a8.mp this
    have:=J0 c
    omega
   have er:cQ (names.map aY) (aY t) (f+1) p (aY acc)=(aY acc,p):=by rw[cQ,ae hb]
   rw[er]
   exact⟨λ_=>.inr ⟨e,ep⟩,λ_=>e⟩
  |some c=>
   rw[ep] at e
   have hh:=fU ep
   by_cases h:(names.any λ(n:Br.Bytes)=>(acc++[c]).isPrefixOf n)=true
   ·have e:Br.known names (f+1) acc (At t p)=Br.known names f (acc++[c]) (At t (p+1)):=e.trans (af h)
    have er:cQ (names.map aY) (aY t) (f+1) p (aY acc)=cQ (names.map aY) (aY t) f (p+1) (aY (acc++[c])):=by
     rw[cQ,hh,<-Gb,af (by rw[<-Bj];exact h)]
    rw[e,er]
    exact ih
   ·have e:Br.known names (f+1) acc (At t p)=if aY acc∈names.map aY then .ok (qW (names.map aY) (aY acc),At t p) else .error p:=e.trans (ae h)
    have er:cQ (names.map aY) (aY t) (f+1) p (aY acc)=(aY acc,p):=by
     rw[cQ,hh,<-Gb,ae (by rw[<-Bj];exact h)]
    rw[er]
    refine⟨λh2=>.inl ?_,λh2=>?_⟩
    ·rw[e];exact af h2
    ·rw[e];exact ae h2
def eI(x:List Nat):Br.Line:=⟨x.getD 0 0,x.getD 1 0,x.getD 2 0,x.getD 3 0,x.getD 4 0,x.getD 5 0⟩
theorem lA{ms:List Nat}{F:List Nat×Nat->Except Nat α}:eM (dA l (m::ms) p) F=eM (aV l p [32]) λp1=>eM (jB l p1 0 m) λv=>eM (dA l ms v.2) λr=>F (v.1::r.1,r.2):=by
 rw[dA]
 cases aV l p [32] with
 |error i=>rfl
 |ok p1=>
  show eM (eM (jB l p1 0 m) λv=>gI v.1 (dA l ms v.2)) F=eM (jB l p1 0 m) _
  cases jB l p1 0 m with
  |error i=>rfl
  |ok v=>
   show eM (gI v.1 (dA l ms v.2)) F=eM (dA l ms v.2) _
   cases dA l ms v.2 with
   |error i=>rfl
   |ok r=>rfl
theorem Rc:Br.ascii "put "=[112,117,116,32]:=by decide+kernel
theorem Hf:Br.ascii "build "=[98,117,105,108,100,32]:=by decide+kernel
theorem aAs{c:Br.Catalogue}:Br.line_ c (At t p)=fE t eI (eT ((c.map λ(p:Br.Part)=>p.name).map aY) (aY t) p):=by
 show (Br.bytes_ (Br.ascii "put ")>>=λ_=>Br.known (c.map λ(p:Br.Part)=>p.name) 8 []>>=λq=>Br.numAfter 0 255>>=λk=>Br.numAfter 0 63>>=λx=>Br.numAfter 0 63>>=λy=>Br.numAfter 0 95>>=λz=>Br.numAfter 0 3>>=λr=>Br.byte_ 10>>=λ_=>pure (⟨q,k,x,y,z,r⟩:Br.Line)) (At t p)=_
 unfold eT
 rw[Rc]
 refine kO (qU (cs:=[112,117,116,32])) λp1 _=>?_
 generalize (c.map λ(p:Br.Part)=>p.name)=names
 have rest:∀(i p2:Nat),(Br.numAfter 0 255>>=λk=>Br.numAfter 0 63>>=λx=>Br.numAfter 0 63>>=λy=>Br.numAfter 0 95>>=λz=>Br.numAfter 0 3>>=λr=>Br.byte_ 10>>=λ_=>pure (⟨i,k,x,y,z,r⟩:Br.Line)) (At t p2)=
   fE t eI (eM (dA (aY t) fJ p2) λr=>eM (aV (aY t) r.2 [10]) λp5=>.ok (i::r.1,p5)):=by
  intro i p2
  unfold fJ
  rw[lA]
  refine cY (lo:=0) (hi:=255) (by decide) (by decide) (by decide) λk=>?_
  rw[lA]
  refine cY (lo:=0) (hi:=63) (by decide) (by decide) (by decide) λx=>?_
  rw[lA]
  refine cY (lo:=0) (hi:=63) (by decide) (by decide) (by decide) λy=>?_
  rw[lA]
  refine cY (lo:=0) (hi:=95) (by decide) (by decide) (by decide) λz=>?_
  rw[lA]
  refine cY (lo:=0) (hi:=3) (by decide) (by decide) (by decide) λr=>?_
  show _=fE t eI (eM (aV (aY t) r.2 [10]) _)
  exact kO (pF (c:=10)) λp5 _=>rfl
 obtain⟨k1,k2⟩:=Xg (t:=t) (names:=names) (f:=8) (p:=p1) (acc:=[])
 have e0:aY []=[]:=rfl
 rw[e0] at k1 k2
 unfold sR
 by_cases h:(cQ (names.map aY) (aY t) 8 p1 []).1∈names.map aY
 ·rw[af h,cA]
  rcases k1 h with e|⟨e,en⟩
  ·rw[bI,e,cA]
   exact rest _ _
  ·rw[bI,e,Do]
   have ew:aV (aY t) (cQ (names.map aY) (aY t) 8 p1 []).2 [32]=.error (cQ (names.map aY) (aY t) 8 p1 []).2:=by
    rw[aV,fR en]
    rfl
   unfold fJ
   rw[lA]
   show _=fE t eI (eM (aV (aY t) (cQ (names.map aY) (aY t) 8 p1 []).2 [32]) _)
   rw[ew]
   rfl
 ·rw[ae h,Do,bI,k2 h,Do]
  rfl
theorem Ym{q:List Nat×Nat}(h:eT aj l p=.ok q):q.2<=l.length:=by
 unfold eT at h
 obtain⟨p1,_,h⟩:=aM h
 obtain⟨_,_,h⟩:=aM h
 obtain⟨r,_,h⟩:=aM h
 obtain⟨p5,e5,h⟩:=aM h
 cases h
 show p5<=l.length
 rw[aV] at e5
 split at e5
 ·rename_i di
  have:=gA (l:=l) (p:=r.2) (by rw[di];decide)
  cases e5
  (clear di;omega)
 ·cases e5
theorem Gr{c:Br.Catalogue}:∀{n p:Nat},p<=t.length->Br.toEnd (Br.line_ c) n (At t p)=aAo t (List.map eI) (cJ ((c.map λ(p:Br.Part)=>p.name).map aY) (aY t) n p)
 |0,p,hp=>by
  rw[zM]
  show _=if p=t.length then Except.ok (([]:List (List Nat)).map eI,At t p) else .error p
  by_cases h:p=t.length
  ·rw[af h,ae (by rw[jI];(clear hp;omega))]
   rfl
  ·rw[ae h,af (by rw[jI];omega)]
 |n+1,p,hp=>by
  rw[yS,cJ]
  by_cases h:p=t.length
  ·rw[ae (by rw[jI];(clear hp;omega)),af (by rw[fK];exact h)]
   show _=if p=t.length then Except.ok (([]:List (List Nat)).map eI,At t p) else .error p
   rw[af h]
   rfl
  ·rw[af (by rw[jI];omega),ae (by rw[fK];exact h),aAs]
   cases e:eT ((c.map λ(p:Br.Part)=>p.name).map aY) (aY t) p with
   |error i=>rfl
   |ok q=>
    have hq:=Ym e
    rw[fK] at hq
    show eM (Br.toEnd (Br.line_ c) n (At t q.2)) (λy=>Except.ok (eI q.1::y.1,y.2))=aAo t (List.map eI) (gI q.1 (cJ _ (aY t) n q.2))
    rw[Gr hq]
    cases cJ ((c.map λ(p:Br.Part)=>p.name).map aY) (aY t) n q.2 with
    |error i=>rfl
    |ok r=>
     show eM (if r.2=t.length then (Except.ok (r.1.map eI,At t r.2):Except Nat _) else .error r.2) (λy=>Except.ok (eI q.1::y.1,y.2))=if r.2=t.length then Except.ok ((q.1::r.1).map eI,At t r.2) else .error r.2
     by_cases hr:r.2=t.length
     ·rw[af hr,af hr];rfl
     ·rw[ae hr,ae hr];rfl
theorem Pf{q:Nat}(e:aV l p [10]=.ok q):q<=l.length:=by
 rw[aV] at e
 split at e
 ·rename_i di
  have:=gA (l:=l) (p:=p) (by rw[di];decide)
  cases e
  (clear di;omega)
 ·cases e
theorem Ws(t:Br.Bytes)(c:Br.Catalogue):Br.readB c t=eM (dP ((c.map λ(p:Br.Part)=>p.name).map aY) (aY t)) λb=>.ok (⟨b.1.map sP,b.2.map eI⟩:Br.Build):=by
 show (((Br.bytes_ (Br.ascii "build ")>>=λ_=>Br.longName_>>=λn=>Br.byte_ 10>>=λ_=>Br.toEnd (Br.line_ c) 256>>=λl=>pure (⟨n,l⟩:Br.Build)) (At t 0)).map λ(x:Br.Build×(Nat×Br.Bytes))=>x.1)=_
 unfold dP
 rw[Hf,bI,qU (cs:=[98,117,105,108,100,32])]
 show _=eM (eM (aV (aY t) 0 (([98,117,105,108,100,32]:Br.Bytes).map UInt8.toNat)) _) _
 cases aV (aY t) 0 (([98,117,105,108,100,32]:Br.Bytes).map UInt8.toNat) with
 |error i=>rfl
 |ok p1=>
  show (((Br.longName_>>=λn=>Br.byte_ 10>>=λ_=>Br.toEnd (Br.line_ c) 256>>=λl=>pure (⟨n,l⟩:Br.Build)) (At t p1)).map λ(x:Br.Build×(Nat×Br.Bytes))=>x.1)=eM (eM (gG (aY t) p1 16) _) _
  rw[bI,Hk]
  cases gG (aY t) p1 16 with
  |error i=>rfl
  |ok nm=>
   show (((Br.byte_ 10>>=λ_=>Br.toEnd (Br.line_ c) 256>>=λl=>pure (⟨nm.1.map sP,l⟩:Br.Build)) (At t nm.2)).map λ(x:Br.Build×(Nat×Br.Bytes))=>x.1)=eM (eM (aV (aY t) nm.2 [10]) _) _
   rw[bI,pF (c:=10)]
   show ((eM (Of t (aV (aY t) nm.2 [10])) _).map _)=_
   cases e3:aV (aY t) nm.2 [10] with
   |error i=>rfl
   |ok p3=>
    have xk:=Pf e3
    rw[fK] at xk
    show (((Br.toEnd (Br.line_ c) 256>>=λl=>pure (⟨nm.1.map sP,l⟩:Br.Build)) (At t p3)).map λ(x:Br.Build×(Nat×Br.Bytes))=>x.1)=eM (eM (cJ ((c.map λ(p:Br.Part)=>p.name).map aY) (aY t) 256 p3) λr=>if r.2=(aY t).length then .ok (nm.1,r.1) else .error r.2) λb=>.ok (⟨b.1.map sP,b.2.map eI⟩:Br.Build)
    rw[bI,Gr xk]
    cases cJ ((c.map λ(p:Br.Part)=>p.name).map aY) (aY t) 256 p3 with
    |error i=>rfl
    |ok r=>
     show ((eM (if r.2=t.length then (Except.ok (r.1.map eI,At t r.2):Except Nat _) else .error r.2) λy=>Except.ok ((⟨nm.1.map sP,y.1⟩:Br.Build),y.2)).map λ(x:Br.Build×(Nat×Br.Bytes))=>x.1)=eM (if r.2=(aY t).length then .ok (nm.1,r.1) else .error r.2) λb=>.ok (⟨b.1.map sP,b.2.map eI⟩:Br.Build)
     rw[fK]
     by_cases hr:r.2=t.length
     ·rw[af hr,af hr];rfl
     ·rw[ae hr,ae hr];rfl
theorem xV{hi:Int}:∀{n p:Nat}{v:Int},v<=hi->(dD l hi n p v).1<=hi
 |0,p,v,h=>h
 |n+1,p,v,h=>by
  rw[dD]
  split
  ·rename_i q
   exact xV q.2.2
  ·exact h
theorem zO{l:List Int}{hi:Int}:∀{n p:Nat}{v:Int},0<=v->v<=(dD l hi n p v).1
 |0,p,v,h=>J1 _
 |n+1,p,v,h=>by
  rw[dD]
  split
  ·rename_i q
   have:=iP q.2.1
   have:=zO (l:=l) (hi:=hi) (n:=n) (p:=p+1) (v:=v * 10+aT l p - 48) (by (clear q;omega))
   (clear q;omega)
  ·exact J1 _
theorem lG{lo:Nat}{v:Nat×Nat}(h:jB l p lo hi=.ok v):lo<=v.1/\v.1<=hi:=by
 unfold jB at h
 split at h
 ·rename_i ok
  cases h
  obtain⟨h1,h2,h3⟩:=ok
  have a:=xV (l:=l) (hi:=hi) (n:=l.length - (p+1)) (p:=p+1) h3
  have b:=zO (l:=l) (hi:=hi) (n:=l.length - (p+1)) (p:=p+1) (v:=aT l p - 48) (by (clear a h3;omega))
  show lo<=(eL l p hi).1.toNat/\(eL l p hi).1.toNat<=hi
  unfold eL
  (clear h3;omega)
 ·cases h
theorem Fe:∀{n p:Nat}{r:List Int×Nat},bV l n p=.ok r->∀s∈r.1,s∈cM
 |0,p,r,h=>by cases h;intro s hs;cases hs
 |n+1,p,r,h=>by
  rw[bV] at h
  split at h
  ·rename_i a7
   obtain⟨q,e,rfl⟩:=fV h
   intro s hs
   rcases ao.mp hs with rfl|hs
   ·exact a7
   ·exact Fe e s hs
  ·cases h
theorem Zh{w:Nat}{r:List Int×Nat}(h:fG l w p=.ok r):r.1.length=w/\∀s∈r.1,s∈cM:=by
 unfold fG at h
 split at h
 ·rename_i q e
  split at h
  ·cases h
   exact⟨Cb (r:=q) e,λs hs=>Fe (r:=q) e s hs⟩
  ·cases h
 ·cases h
theorem Fz{w:Nat}:∀{n p:Nat} {r:List (List Int)×Nat},bU l w n p=.ok r->r.1.length=n/\∀x∈r.1,x.length=w/\∀s∈x,s∈cM
 |0,p,r,h=>by cases h;exact⟨rfl,λx hx=>by cases hx⟩
 |n+1,p,r,h=>by
  rw[bU] at h
  cases e:fG l w p with
  |error i=>rw[e] at h;cases h
  |ok q=>
   rw[e] at h
   obtain⟨q',e2,rfl⟩:=fV h
   obtain⟨h1,h2⟩:=Fz e2
   refine⟨by rw[bw,h1],λx hx=>?_⟩
   rcases ao.mp hx with rfl|hx
   ·exact Zh e
   ·exact h2 x hx
theorem pU:∀{n p:Nat}{x:Int},x∈bJ l p n->gT x=true
 |0,p,x,h=>by simp[bJ] at h
 |n+1,p,x,h=>by
  rw[bJ] at h
  split at h
  ·rename_i ha
   rcases ao.mp h with rfl|h
   ·exact ha
   ·exact pU h
  ·cases h
structure dC(pr:aL):Prop where
 w1:1<=pr.w
 w2:pr.w<=16
 d1:1<=pr.d
 d2:pr.d<=16
 h1:1<=pr.h
 h2:pr.h<=18
 rl:pr.rows.length=pr.d * pr.h
 rw:∀x∈pr.rows,x.length=pr.w
 sg:∀x∈pr.rows,∀s∈x,s∈cM
 nm:∀x∈pr.name,gT x=true
theorem Mi{q:aL×Nat}(h:dW l p=.ok q):dC q.1:=by
 unfold dW at h
 obtain⟨p1,_,h⟩:=aM h
 obtain⟨nm,en,h⟩:=aM h
 obtain⟨_,_,h⟩:=aM h
 obtain⟨w,ew,h⟩:=aM h
 obtain⟨_,_,h⟩:=aM h
 obtain⟨d,ed,h⟩:=aM h
 obtain⟨_,_,h⟩:=aM h
 obtain⟨hh,eh,h⟩:=aM h
 obtain⟨_,_,h⟩:=aM h
 obtain⟨g,_,h⟩:=aM h
 obtain⟨_,_,h⟩:=aM h
 obtain⟨rs,er,h⟩:=aM h
 cases h
 obtain⟨a1,a2⟩:=lG (lo:=1) (hi:=16) ew
 obtain⟨b1,b2⟩:=lG (lo:=1) (hi:=16) ed
 obtain⟨c1,c2⟩:=lG (lo:=1) (hi:=18) eh
 obtain⟨r1,r2⟩:=Fz er
 refine⟨a1,a2,b1,b2,c1,c2,r1,λx hx=>(r2 x hx).1,λx hx=>(r2 x hx).2,?_⟩
 unfold gG at en
 split at en
 ·cases en
  exact λx hx=>pU hx
 ·cases en
theorem Fj:∀{n p:Nat}{q:List aL×Nat},cT l n p=.ok q->∀pr∈q.1,dC pr
 |0,p,q,h=>by cases h;intro pr hp;cases hp
 |n+1,p,q,h=>by
  rw[cT] at h
  split at h
  ·cases h;intro pr hp;cases hp
  ·obtain⟨q1,e1,h⟩:=aM h
   obtain⟨q2,e2,rfl⟩:=fV h
   intro pr hp
   rcases ao.mp hp with rfl|hp
   ·exact Mi e1
   ·exact Fj e2 pr hp
theorem Sx(h:gY l=.ok U):∀pr∈U,dC pr:=by
 unfold gY at h
 obtain⟨q,e1,h⟩:=aM h
 obtain⟨r,e2,h⟩:=aM h
 split at h
 ·cases h
  intro pr hp
  rcases ao.mp hp with rfl|hp
  ·exact Mi e1
  ·exact Fj e2 pr hp
 ·cases h
theorem Tu:∀l:List Int,(∀x∈l,gT x=true)->aY (l.map sP)=l:=by
 intro l
 induction l with
 |nil=>intro _;rfl
 |cons x r ih=>
  intro hx
  have h1:=hx x bf
  have h2:0<=x/\x<256:=by
   unfold gT kX jG at h1
   rw[ya,cn,cn,b7,b7,b7,b7] at h1
   omega
  have h3:((sP x).toNat:Int)=x:=by
   unfold sP
   rw[O6]
   omega
  show ((sP x).toNat:Int)::aY (r.map sP)=x::r
  rw[h3,ih λy hy=>hx y (az _ hy)]
theorem sQ(h:dC pr):aY (pr.name.map sP)=pr.name:=Tu _ h.nm
theorem Cc:∀a b:Br.Bytes,Br.before a b= !HT.gH (aY b) (aY a)
 |[],[]=>rfl
 |[],_::_=>rfl
 |_::_,[]=>rfl
 |x::a,y::b=>by
  have ih:=Cc a b
  show (decide (x.toNat<y.toNat)||(x==y && Br.before a b))= !(if (y.toNat:Int)=(x.toNat:Int) then HT.gH (aY b) (aY a) else decide ((y.toNat:Int)<=(x.toNat:Int)))
  by_cases h:x=y
  ·subst h
   rw[af rfl,ih]
   simp
  ·have h2:¬x.toNat=y.toNat:=λz=>h (UInt8.toNat_inj.mp z)
   have hb:(x==y)=false:=pb.mpr h
   rw[ae (by (clear h;omega)),hb,lr,J2,ge,cq,b7,lx]
   (clear h2 h;omega)
def hX(p:Br.Part):Bool:=p.studsOk && (p.tubesOk && (p.tight && p.whole))
def Uv:Option Br.Bytes->Br.Part->Bool
 |some n,p=>Br.before n p.name
 |none,_=>true
def lV:Option Br.Bytes->List Br.Part->Bool
 |_,[]=>true
 |last,p::r=>Uv last p && lV (some p.name) r
theorem uO(last:Option Br.Bytes)(p:Br.Part)(r:List Br.Part):lV last (p::r)=(Uv last p && lV (some p.name) r):=by cases last<;>rfl
theorem Kk{p:Br.Part}{last:Option Br.Bytes}:(p.wrong last).isSome= !(hX p && Uv last p):=by
 unfold Br.Part.wrong hX
 cases p.studsOk<;>cases p.tubesOk<;>cases p.tight<;>cases p.whole<;>try rfl
 cases last with
 |none=>rfl
 |some n=>
  show (if Br.before n p.name=true then Option.none else some 5).isSome= !(true && (true && (true && true)) && Br.before n p.name)
  cases Br.before n p.name<;>rfl
theorem pZ:∀{l:List Br.Part}{i:Nat}{last:Option Br.Bytes},(Br.wrongFrom i last l).isSome= !(l.all hX && lV last l)
 |[],i,last=>rfl
 |p::r,i,last=>by
  have ih:=pZ (l:=r) (i:=i+1) (last:=some p.name)
  have hp:=Kk (p:=p) (last:=last)
  rw[Br.wrongFrom]
  cases e:p.wrong last with
  |some k=>
   rw[e] at hp
   show true=_
   rw[ub,uO]
   have hp:true= !(hX p && Uv last p):=hp
   cases hg:hX p
   ·rfl
   ·rw[hg,i8] at hp
    have h2:Uv last p=false:=by
     cases z:Uv last p
     ·rfl
     ·rw[z] at hp;cases hp
    rw[h2,lr,yk]
    rfl
  |none=>
   rw[e] at hp
   show (Br.wrongFrom (i+1) (some p.name) r).isSome=_
   rw[ih,ub,uO]
   have hp:false= !(hX p && Uv last p):=hp
   have h3:(hX p && Uv last p)=true:=by
    cases z:(hX p && Uv last p)
    ·rw[z] at hp;cases hp
    ·rfl
   rw[cn] at h3
   rw[h3.1,h3.2,i8,i8]
theorem pS:∀{U:List aL}{last:Option aL},(∀pr∈U,dC pr)->(∀q,last=some q->dC q)->lV (last.map λq=>q.name.map sP) (U.map bQ)=jE ((last.toList++U).map (·.name))
 |[],none,_,_=>rfl
 |[],some q,_,_=>rfl
 |pr::r,none,h,_=>by
  show (true && lV (some (pr.name.map sP)) (r.map bQ))=_
  rw[i8]
  exact pS (last:=some pr) (λx hx=>h x (az _ hx)) λq hq=>by cases hq;exact h _ bf
 |pr::r,some q,h,hq=>by
  have ih:=pS (U:=r) (last:=some pr) (λx hx=>h x (az _ hx)) λq hq=>by cases hq;exact h _ bf
  show (Br.before (q.name.map sP) (pr.name.map sP) && lV (some (pr.name.map sP)) (r.map bQ))=jE (q.name::pr.name::r.map (·.name))
  rw[Cc,sQ (h _ bf),sQ (hq q rfl),jE]
  have ih:lV (some (pr.name.map sP)) (r.map bQ)=jE (pr.name::r.map (·.name)):=ih
  rw[ih]
theorem Rq(h:∀pr∈U,dC pr)(hg:∀pr∈U,hX (bQ pr)=gS pr):(Br.wrong (U.map bQ)).isSome= !nY U:=by
 unfold Br.wrong nY
 rw[pZ]
 have e1:(U.map bQ).all hX=U.all gS:=by
  rw[ET]
  have key:∀l:List aL,(∀pr∈l,hX (bQ pr)=gS pr)->l.all (hX∘bQ)=l.all gS:=by
   intro l
   induction l with
   |nil=>intro _;rfl
   |cons a r ih=>
    intro hx
    rw[ub,ub,ih λy hy=>hx y (az _ hy)]
    show (hX (bQ a) && _)=_
    rw[hx a bf]
  exact key U hg
 have e2:=pS (U:=U) (last:=none) h (λq hq=>by cases hq)
 rw[e1]
 have e2:lV none (U.map bQ)=jE (U.map (·.name)):=e2
 rw[e2]
abbrev kU:=Nat×Nat×Nat
def cK(s:kU):Pl:=((s.1:Int),(s.2.1:Int),(s.2.2:Int))
theorem gO{a b:kU}(h:cK a=cK b):a=b:=by
 obtain⟨x,y,z⟩:=a
 obtain⟨u,v,w⟩:=b
 unfold cK at h
 simp only[Prod.mk.injEq] at h ⊢
 omega
def fH(w d i:Nat):kU:=(i % w,i / w % d,i / w / d)
theorem lX{w d x y:Nat}(h:fH w d i=(x,y,z)):i=(z * d+y) * w+x:=by
 unfold fH at h
 simp only[Prod.mk.injEq] at h
 obtain⟨rfl,rfl,rfl⟩:=h
 have h1:=E9 (i / w) d
 have h2:=E9 i w
 rw[mm (i / w / d) d,h1,mm (i / w) w,h2]
theorem Kw{w d x y:Nat}(hx:x<w)(hy:y<d):fH w d ((z * d+y) * w+x)=(x,y,z):=by
 have hw:0<w:=by (clear hy;omega)
 have hd:0<d:=by (clear hw hx;omega)
 have e1:((z * d+y) * w+x) / w=z * d+y:=by
  rw[mq,yf _ _ hw,yg hx,oo]
 have e2:((z * d+y) * w+x) % w=x:=by rw[mq,yd,ye hx]
 unfold fH
 rw[e1,e2,mq (z * d),yf _ _ hd,yg hy,oo,yd,ye hy]
theorem lJ{f:Nat->List α}(hf:∀z,(f z).length=m):∀n,((List.range n).flatMap f).length=n * m
 |0=>by simp
 |n+1=>by
  rw[O7,FM,c8,lJ hf n,J3,hf,om]
theorem xJ{f:Nat->List α}(hm:0<m)(hf:∀z,(f z).length=m):∀n i,i<n * m->((List.range n).flatMap f)[i]?=(f (i / m))[i % m]?
 |0,i,h=>by (clear hm;omega)
 |n+1,i,h=>by
  rw[O7,FM,J3]
  by_cases hi:i<n * m
  ·rw[JH (by rw[lJ hf];exact hi)]
   exact xJ hm hf n i hi
  ·rw[JG (by rw[lJ hf];(clear h hm;omega)),lJ hf]
   rw[om] at h
   have e:i=(i - n * m)+n * m:=by (clear h hm;omega)
   have hl:i - n * m<m:=by (clear e hi;omega)
   have e1:i / m=n:=by
    rw[e,yf _ _ hm,yg hl,oo]
   have e2:i % m=i - n * m:=by
    conv=>lhs;rw[e]
    rw[yd,ye hl]
   rw[e1,e2]
theorem rT{p:Br.Part}(hw:0<p.wide)(hd:0<p.deep):p.spots=(List.range (p.high * (p.deep * p.wide))).map (fH p.wide p.deep):=by
 have l1:∀y z:Nat,((List.range p.wide).map λ(x:Nat)=>(x,y,z)).length=p.wide:=by simp
 have l2:∀z:Nat,((List.range p.deep).flatMap λ(y:Nat)=>(List.range p.wide).map λ(x:Nat)=>(x,y,z)).length=p.deep * p.wide:=λz=>lJ (λy=>l1 y z) _
 apply CZ
 intro i
 unfold Br.Part.spots
 by_cases hi:i<p.high * (p.deep * p.wide)
 ·rw[xJ (C0 hd hw) l2 _ _ hi,bg,AN hi]
  have am:i % (p.deep * p.wide)<p.deep * p.wide:=rh _ (C0 hd hw)
  rw[xJ hw (λy=>l1 y _) _ _ am,bg,AN (rh _ hw)]
  show some _=some _
  unfold fH
  rw[Nat.mod_mul_left_mod,Nat.mod_mul_left_div_self,mm p.deep p.wide,FN]
 ·rw[jv,jv]
  ·rw[ai,AO];(clear hd hw;omega)
  ·rw[lJ l2];(clear hd hw;omega)
def kept(q:Nat×Int):Bool:= !decide (q.2=46)
def mD(w d:Nat)(q:Nat×Int):Pl×Int:=(cK (fH w d q.1),q.2)
theorem Hc{w d j:Nat}:∀(r:List Int)(x:Nat),x+r.length<=w->xP (j % d) (j / d) x r=(((List.range' (j * w+x) r.length).zip r).filter kept).map (mD w d)
 |[],x,_=>by simp[xP]
 |s::r,x,h=>by
  rw[bw] at h
  have ih:=Hc (w:=w) (d:=d) (j:=j) r (x+1) (by omega)
  have hw:0<w:=by omega
  rw[xP,ih,bw,J4,yj,show j * w+x+1=j * w+(x+1) by (clear hw h;omega)]
  have e1:(j * w+x) / w=j:=by
   rw[mq,yf _ _ hw,yg (by (clear hw;omega)),oo]
  have e2:(j * w+x) % w=x:=by rw[mq,yd,ye (by (clear e1 hw;omega))]
  by_cases hs:s=46
  ·rw[af hs,FI (by simp[kept,hs]),List.nil_append]
  ·rw[ae hs,FJ (by simp[kept,hs]),bn]
   show _::_=_
   unfold mD cK fH
   simp only[e1,e2]
   rfl
theorem Ca{w d:Nat}:∀(rs:List (List Int)) (j:Nat),(∀x∈rs,x.length=w)->qG d j rs=(((List.range' (j * w) rs.flatten.length).zip rs.flatten).filter kept).map (mD w d)
 |[],j,_=>by simp[qG]
 |r::rs,j,h=>by
  have ih:=Ca (w:=w) (d:=d) rs (j+1) λx hx=>h x (az _ hx)
  have hr:=h r bf
  have e:=Hc (w:=w) (d:=d) (j:=j) r 0 (by omega)
  rw[qG,ih,e,O8,c8,<-List.range'_append_1,List.zip_append (by rw[List.length_range']),List.filter_append,c9,hr,Nat.add_zero,om]
theorem Gd{w:Nat}:∀{rs:List (List Int)},(∀x∈rs,x.length=w)->rs.flatten.length=rs.length * w
 |[],_=>by simp
 |r::rs,h=>by
  rw[O8,c8,Gd λx hx=>h x (az _ hx),h r bf,bw,om,mq]
def zP(pr:aL):List (Nat×Int):=(List.range (pr.h * (pr.d * pr.w))).zip pr.rows.flatten
theorem Ig(ok:dC pr):pr.rows.flatten.length=pr.h * (pr.d * pr.w):=by
 rw[Gd ok.rw,ok.rl,mm pr.d,FL]
theorem Bz(ok:dC pr):vF pr=((zP pr).filter kept).map (mD pr.w pr.d):=by
 unfold vF zP
 rw[Ca pr.rows 0 ok.rw,Ig ok,Nat.zero_mul,<-List.range_eq_range']
theorem oA(s:Int):(pJ s).isCell= !decide (s=46):=by
 unfold pJ
 by_cases h:s=46
 ·simp[h,Br.Place.isCell]
 ·rw[ae h]
  simp only[h,JY,Bool.not_false]
  split
  ·rfl
  ·split
   ·rfl
   ·split<;>rfl
theorem wX{s:Int}(h:s∈cM):(pJ s).stud=fB s:=by
 simp only[cM,ao,dh,io] at h
 rcases h with rfl|rfl|rfl|rfl|rfl<;>decide
theorem wV{s:Int}(h:s∈cM):(pJ s).tube=dU s:=by
 simp only[cM,ao,dh,io] at h
 rcases h with rfl|rfl|rfl|rfl|rfl<;>decide
theorem gP(pr:aL):(bQ pr).places=pr.rows.flatten.map pJ:=by
 show (pr.rows.map (List.map pJ)).flatten=_
 rw[List.map_flatten]
theorem Da(ok:dC pr)(f:Br.Place->Bool):(bQ pr).such f=((zP pr).filter λq=>f (pJ q.2)).map λq=>fH pr.w pr.d q.1:=by
 unfold Br.Part.such
 rw[rT (p:=bQ pr) ok.w1 ok.d1,gP]
 show List.map _ (List.filter _ (((List.range (pr.h * (pr.d * pr.w))).map (fH pr.w pr.d)).zip _))=_
 rw[List.zip_map,List.filter_map,de]
 rfl
theorem qR(ok:dC pr):(bQ pr).cells=((zP pr).filter kept).map λq=>fH pr.w pr.d q.1:=by
 unfold Br.Part.cells
 rw[Da ok]
 congr 2
 funext q
 exact oA q.2
theorem oY(ok:dC pr):(vF pr).map (·.1)=(bQ pr).cells.map cK:=by
 rw[Bz ok,qR ok,de,de]
 rfl
theorem uF(ok:dC pr){q:Nat×Int}(h:q∈zP pr):q.2∈cM:=by
 have h2:=(B8 h).2
 obtain⟨r,hr,hs⟩:=List.mem_flatten.mp h2
 exact ok.sg r hr _ hs
theorem vZ(ok:dC pr)(s:kU):(aZ (vF pr) (cK s)).isSome=true↔s∈(bQ pr).cells:=by
 rw[dN]
 constructor
 ·rintro⟨c,hc,e⟩
  have:cK s∈(vF pr).map (·.1):=a8.mpr ⟨c,hc,e⟩
  rw[oY ok] at this
  obtain⟨t,ht,e2⟩:=a8.mp this
  rw[<-gO e2];exact ht
 ·intro h
  have:cK s∈(vF pr).map (·.1):=by rw[oY ok];exact px h
  obtain⟨c,hc,e⟩:=a8.mp this
  exact⟨c,hc,e⟩
theorem Ny(ok:dC pr){s:Int}:(i,s)∈zP pr↔pr.rows.flatten[i]?=some s:=by
 unfold zP
 rw[pi]
 constructor
 ·rintro⟨k,e⟩
  rw[FO] at e
  obtain⟨e1,e2⟩:=e
  obtain⟨hk,e3⟩:=bp.mp e1
  rw[List.getElem_range] at e3
  subst e3
  exact e2
 ·intro e
  refine⟨i,?_⟩
  rw[FO]
  refine⟨AN ?_,e⟩
  rw[<-Ig ok]
  exact(bp.mp e).1
theorem qZ(ok:dC pr)(x y z:Nat):((bQ pr).at_ x y z).isCell=true↔(x,y,z)∈(bQ pr).cells:=by
 rw[qR ok]
 unfold Br.Part.at_
 show ((if x<pr.w/\y<pr.d/\z<pr.h then (bQ pr).places.getD ((z * pr.d+y) * pr.w+x) .none else .none:Br.Place)).isCell=true↔_
 have hN:∀i,i<pr.h * (pr.d * pr.w)->i % pr.w<pr.w/\i / pr.w % pr.d<pr.d/\i / pr.w / pr.d<pr.h:=λi hi=>by
  refine⟨rh _ ok.w1,rh _ ok.d1,?_⟩
  rw[FN]
  apply O9
  rw[mm,mm pr.w]
  exact hi
 constructor
 ·intro h
  split at h
  ·rename_i hr
   rw[gP,cx,bg] at h
   cases e:pr.rows.flatten[(z * pr.d+y) * pr.w+x]? with
   |none=>rw[e] at h;cases h
   |some s=>
    rw[e] at h
    have h:(pJ s).isCell=true:=h
    rw[oA] at h
    refine a8.mpr ⟨(_,s),jl.mpr ⟨(Ny ok).mpr e,h⟩,?_⟩
    exact Kw hr.1 hr.2.1
  ·cases h
 ·intro h
  obtain⟨⟨i,s⟩,hm,e⟩:=a8.mp h
  obtain⟨hz,hk⟩:=jl.mp hm
  have hz:=(Ny ok).mp hz
  have hi:i<pr.h * (pr.d * pr.w):=by rw[<-Ig ok];exact(bp.mp hz).1
  have e:fH pr.w pr.d i=(x,y,z):=e
  have e2:=lX e
  have h3:=hN i hi
  unfold fH at e
  simp only[Prod.mk.injEq] at e
  rw[af (by (clear e2 hi;omega)),gP,cx,bg,<-e2,hz]
  show (pJ s).isCell=true
  rw[oA]
  exact hk
theorem Jv(ok:dC pr):(bQ pr).studsOk=nM (vF pr):=by
 rw[ge]
 unfold Br.Part.studsOk nM Br.Part.studs
 rw[Da ok,jw,jw]
 constructor
 ·intro h c hc
  rw[Bz ok] at hc
  obtain⟨q,hq,rfl⟩:=a8.mp hc
  obtain⟨hz,hk⟩:=jl.mp hq
  cases hs:fB (mD pr.w pr.d q).2 with
  |false=>rfl
  |true=>
   have h2:=h (fH pr.w pr.d q.1) (a8.mpr ⟨q,jl.mpr ⟨hz,by rw[wX (uF ok hz)];exact hs⟩,rfl⟩)
   rw[i8,cq,<-rj]
   intro g
   have g2:(aZ (vF pr) (cK ((fH pr.w pr.d q.1).1,(fH pr.w pr.d q.1).2.1,(fH pr.w pr.d q.1).2.2+1))).isSome=true:=g
   rw[vZ ok,<-qZ ok] at g2
   rw[g2] at h2
   cases h2
 ·intro h s hs
  obtain⟨q,hq,rfl⟩:=a8.mp hs
  obtain⟨hz,hk⟩:=jl.mp hq
  rw[wX (uF ok hz)] at hk
  have BG:kept q=true:=by
   unfold kept
   cases e:decide (q.2=46) with
   |false=>rfl
   |true=>rw[b7.mp e] at hk;cases hk
  have h2:=h (mD pr.w pr.d q) (by rw[Bz ok];exact a8.mpr ⟨q,jl.mpr ⟨hz,BG⟩,rfl⟩)
  rw[show fB (mD pr.w pr.d q).2=true from hk,i8,cq,<-rj] at h2
  rw[cq,<-rj]
  intro g
  rw[qZ ok,<-vZ ok] at g
  exact h2 g
theorem Kq(ok:dC pr):(bQ pr).tubesOk=oB (vF pr):=by
 rw[ge]
 unfold Br.Part.tubesOk oB Br.Part.tubes
 rw[Da ok,jw,jw]
 constructor
 ·intro h c hc
  have XD:=hc
  rw[Bz ok] at hc
  obtain⟨q,hq,rfl⟩:=a8.mp hc
  obtain⟨hz,hk⟩:=jl.mp hq
  cases hs:dU (mD pr.w pr.d q).2 with
  |false=>rfl
  |true=>
   have h2:=h (fH pr.w pr.d q.1) (a8.mpr ⟨q,jl.mpr ⟨hz,by rw[wV (uF ok hz)];exact hs⟩,rfl⟩)
   rw[i8,cq,<-rj]
   intro g
   by_cases h0:(fH pr.w pr.d q.1).2.2=0
   ·obtain⟨c,hc,e⟩:=dN.mp g
    have hm:c.1∈(vF pr).map (·.1):=px hc
    rw[oY ok,e] at hm
    obtain⟨t,ht,e2⟩:=a8.mp hm
    have e3:((t.2.2:Nat):Int)=((fH pr.w pr.d q.1).2.2:Int) - 1:=congrArg (λp:Pl=>p.2.2) e2
    omega
   ·have g2:(aZ (vF pr) (cK ((fH pr.w pr.d q.1).1,(fH pr.w pr.d q.1).2.1,(fH pr.w pr.d q.1).2.2 - 1))).isSome=true:=by
     have e:cK ((fH pr.w pr.d q.1).1,(fH pr.w pr.d q.1).2.1,(fH pr.w pr.d q.1).2.2 - 1)=qD (mD pr.w pr.d q).1:=by
      refine d6 rfl (d6 rfl ?_)
      show (((fH pr.w pr.d q.1).2.2 - 1:Nat):Int)=((fH pr.w pr.d q.1).2.2:Int) - 1
      omega
     rw[e];exact g
    rw[vZ ok,<-qZ ok] at g2
    rw[g2,Bool.not_true,J2,cp] at h2
    exact h0 h2
 ·intro h s hs
  obtain⟨q,hq,rfl⟩:=a8.mp hs
  obtain⟨hz,hk⟩:=jl.mp hq
  rw[wV (uF ok hz)] at hk
  have BG:kept q=true:=by
   unfold kept
   cases e:decide (q.2=46) with
   |false=>rfl
   |true=>rw[b7.mp e] at hk;cases hk
  have h2:=h (mD pr.w pr.d q) (by rw[Bz ok];exact a8.mpr ⟨q,jl.mpr ⟨hz,BG⟩,rfl⟩)
  rw[show dU (mD pr.w pr.d q).2=true from hk,i8,cq,<-rj] at h2
  by_cases h0:(fH pr.w pr.d q.1).2.2=0
  ·rw[h0];rfl
  ·rw[ya]
   right
   rw[cq,<-rj]
   intro g
   rw[qZ ok,<-vZ ok] at g
   have e:cK ((fH pr.w pr.d q.1).1,(fH pr.w pr.d q.1).2.1,(fH pr.w pr.d q.1).2.2 - 1)=qD (mD pr.w pr.d q).1:=by
    refine d6 rfl (d6 rfl ?_)
    show (((fH pr.w pr.d q.1).2.2 - 1:Nat):Int)=((fH pr.w pr.d q.1).2.2:Int) - 1
    (clear h2;omega)
   rw[e] at g
   exact h2 g
theorem iO(ok:dC pr)(a:Nat)(n:Int)(f:kU->Bool)(hf:∀s,f s=true↔coP (cK s) a=n):(bQ pr).cells.any f=decide (n∈fO (vF pr) a):=by
 rw[ge,mr,b7]
 have e:fO (vF pr) a=(bQ pr).cells.map λs=>coP (cK s) a:=by
  have:fO (vF pr) a=((vF pr).map (·.1)).map λp=>coP p a:=by unfold fO;rw[de];rfl
  rw[this,oY ok,de]
  rfl
 rw[e,a8]
 exact⟨λ⟨s,h1,h2⟩=>⟨s,h1,(hf s).mp h2⟩,λ⟨s,h1,h2⟩=>⟨s,h1,(hf s).mpr h2⟩⟩
theorem Ld(ok:dC pr):(bQ pr).tight=mZ (vF pr) pr.w pr.d pr.h:=by
 have hw:=ok.w1
 have hd:=ok.d1
 have hh:=ok.h1
 show ((bQ pr).cells.any (λ(s:kU)=>s.1==0) && ((bQ pr).cells.any (λ(s:kU)=>s.1+1==pr.w) && ((bQ pr).cells.any (λ(s:kU)=>s.2.1==0) && ((bQ pr).cells.any (λ(s:kU)=>s.2.1+1==pr.d) && ((bQ pr).cells.any (λ(s:kU)=>s.2.2==0) && (bQ pr).cells.any λ(s:kU)=>s.2.2+1==pr.h)))))=_
 rw[iO ok 0 0 _ (λs=>by rw[cp];show s.1=0↔(s.1:Int)=0;(clear hh hd hw;omega)),
  iO ok 0 (pr.w - 1) _ (λs=>by rw[cp];show s.1+1=pr.w↔(s.1:Int)=pr.w - 1;(clear hh hd hw;omega)),
  iO ok 1 0 _ (λs=>by rw[cp];show s.2.1=0↔(s.2.1:Int)=0;(clear hh hd hw;omega)),
  iO ok 1 (pr.d - 1) _ (λs=>by rw[cp];show s.2.1+1=pr.d↔(s.2.1:Int)=pr.d - 1;(clear hh hd hw;omega)),
  iO ok 2 0 _ (λs=>by rw[cp];show s.2.2=0↔(s.2.2:Int)=0;(clear hh hd hw;omega)),
  iO ok 2 (pr.h - 1) _ (λs=>by rw[cp];show s.2.2+1=pr.h↔(s.2.2:Int)=pr.h - 1;(clear hh hd hw;omega))]
 unfold mZ fF
 simp only[Bool.and_assoc]
inductive mM{α:Type}(E:α->α->Prop)(l rest:List α):α->Prop
 |base {a:α}:a∈l->mM E l rest a
 |step {p q:α}:mM E l rest p->E p q->q∈rest->mM E l rest q
def Se(p q:kU):Prop:=Br.beside q p=true
theorem Vu{l rest:List kU}{q:kU}:q∈(rest.partition λ(c:kU)=>l.any (Br.beside c)).1↔q∈rest/\∃i∈l,Se i q:=by
 rw[J5,jl,mr]
 rfl
theorem Zo{l rest:List kU}{q:kU}:q∈(rest.partition λ(c:kU)=>l.any (Br.beside c)).2↔q∈rest/\¬∃i∈l,Se i q:=by
 rw[J5,jl]
 show _/\(!(l.any (Br.beside q)))=true↔_
 rw[cq,<-rj,mr]
 rfl
theorem qO(f:α->Bool):∀l:List α,(l.filter f).length+(l.filter (not∘f)).length=l.length
 |[]=>rfl
 |a::r=>by
  have ih:=qO f r
  cases h:f a with
  |true=>rw[FJ h,FI (by simp[h]),bw,bw];omega
  |false=>rw[FI (by simp[h]),FJ (by simp[h]),bw,bw];omega
theorem Cm:∀{n:Nat}{l rest:List kU},rest.length<=n->(∀x∈l,x∉rest)->(Br.apartFrom n l rest=[]↔∀s∈rest,mM Se l rest s)
 |0,l,rest,hn,_=>by
  have:rest=[]:=yn (by omega)
  subst this
  exact Iff.intro (λ_ s hs=>absurd hs dh) (λ_=>rfl)
 |n+1,l,rest,hn,dj=>by
  have nm:= @Vu l rest
  have fm:= @Zo l rest
  have ln:(rest.partition λ(c:kU)=>l.any (Br.beside c)).1.length+(rest.partition λ(c:kU)=>l.any (Br.beside c)).2.length=rest.length:=by
   rw[J5]
   exact qO _ _
  show (if (rest.partition λ(c:kU)=>l.any (Br.beside c)).1=[] then rest else Br.apartFrom n (rest.partition λ(c:kU)=>l.any (Br.beside c)).1 (rest.partition λ(c:kU)=>l.any (Br.beside c)).2)=[]↔_
  generalize rest.partition (λ(c:kU)=>l.any (Br.beside c))=pt at nm fm ln
  by_cases h:pt.1=[]
  ·rw[af h]
   constructor
   ·rintro rfl s hs
    cases hs
   ·intro hs
    have key:∀s,mM Se l rest s->s∈l:=by
     intro s hf
     induction hf with
     |base ha=>exact ha
     |step _ e hq ih=>
      have:=nm.mpr ⟨hq,_,ih,e⟩
      rw[h] at this
      cases this
    cases rest with
    |nil=>rfl
    |cons a r=>exact absurd bf (dj a (key a (hs a bf)))
  ·rw[ae h]
   have hl:0<pt.1.length:=by
    cases e:pt.1 with
    |nil=>exact absurd e h
    |cons a r=>simp
   rw[Cm (n:=n) (by (clear h;omega)) λx hx hy=>(fm.mp hy).2 (nm.mp hx).2]
   constructor
   ·intro hs s hr
    by_cases hx:∃i∈l,Se i s
    ·obtain⟨i,hi,e⟩:=hx
     exact .step (.base hi) e hr
    ·have hf:=hs s (fm.mpr ⟨hr,hx⟩)
     clear hr hx
     induction hf with
     |base ha=>
      obtain⟨h1,i,hi,e⟩:=nm.mp ha
      exact .step (.base hi) e h1
     |step _ e hq ih=>exact .step ih e (fm.mp hq).1
   ·intro hs s hf
    have MT:=fm.mp hf
    have key:∀s,mM Se l rest s->s∈l\/mM Se pt.1 pt.2 s:=by
     intro s hf
     induction hf with
     |base ha=>exact .inl ha
     | @step p q _ e hq ih=>
      right
      by_cases hx:∃i∈l,Se i q
      ·exact .base (nm.mpr ⟨hq,hx⟩)
      ·rcases ih with h1|h1
       ·exact absurd ⟨p,h1,e⟩ hx
       ·exact .step h1 e (fm.mpr ⟨hq,hx⟩)
    rcases key s (hs s MT.1) with h1|h1
    ·exact absurd MT.1 (dj s h1)
    ·exact h1
def Tx(p q:Pl):Prop:=q∈Ch p
theorem wH[DecidableEq α]:∀{l m:List α},l.Nodup->(∀x∈l,x∈m)->l.length<=m.length
 |[],m,_,_=>c7 _
 |a::l,m,nd,h=>by
  have nd:=pd.mp nd
  have ha:=h a bf
  have ih:=wH (l:=l) (m:=m.erase a) nd.2 λx hx=>(PB (by rintro rfl;exact nd.1 hx)).mpr (h x (az _ hx))
  have:=List.length_erase_of_mem ha
  have hp:=PD ha
  rw[bw]
  (clear nd;omega)
structure Ye(cs:CL)(a:Pl)(vg xl:List Pl)(M:Nat)(st:List Pl×List Pl):Prop where
 nd:st.1.Nodup
 ks:∀r∈st.1,(aZ cs r).isSome=true/\mM Tx [a] (cs.map (·.1)) r
 ws:∀r∈st.2,r∈st.1
 ol:∀r∈vg,r∈st.1
 nw:∀r∈st.1,r∉st.2->r∈vg/\r∉xl
 ms:st.2.length+zC cs st.1<=M
theorem xH{p:Pl}:(aZ cs p).isSome=true↔p∈cs.map (·.1):=by
 rw[dN,a8]
theorem Ye.push{a q:Pl}{vg xl:List Pl}{M:Nat}{st:List Pl×List Pl}{p:Pl}(h:Ye cs a vg xl M st)(hq:mM Tx [a] (cs.map (·.1)) q)(hp:p∈Ch q):Ye cs a vg xl M (gW cs st p)/\(∀r∈st.1,r∈(gW cs st p).1)/\((aZ cs p).isSome=true->p∈(gW cs st p).1):=by
 unfold gW
 by_cases hc:(aZ cs p).isSome=true/\p∉st.1
 ·rw[af hc]
  obtain⟨nd,ks,ws,ol,nw,ms⟩:=h
  refine⟨⟨?_,?_,?_,?_,?_,?_⟩,λr hr=>lq _ hr,λ_=>gd _ bf⟩
  ·show (st.1++[p]).Nodup
   rw[J6]
   refine⟨nd,by simp,λx hx y hy z=>?_⟩
   rw[gq] at hy
   subst hy
   subst z
   exact hc.2 hx
  ·intro r hr
   rcases je.mp hr with hr|hr
   ·exact ks r hr
   ·rw[gq] at hr
    subst hr
    exact⟨hc.1,.step hq hp (xH.mp hc.1)⟩
  ·intro r hr
   rcases je.mp hr with hr|hr
   ·exact lq _ (ws r hr)
   ·exact gd _ hr
  ·exact λr hr=>lq _ (ol r hr)
  ·intro r hr hn
   rcases je.mp hr with hr|hr
   ·exact nw r hr λz=>hn (lq _ z)
   ·exact absurd (gd _ hr) hn
  ·have:=oC hc.2 hc.1
   show (st.2++[p]).length+zC cs (st.1++[p])<=M
   rw[c8,AE]
   (clear hc;omega)
 ·rw[ae hc]
  refine⟨h,λr hr=>hr,λhg=>?_⟩
  by_cases hm:p∈st.1
  ·exact hm
  ·exact absurd ⟨hg,hm⟩ hc
theorem Ye.all{a q:Pl}{vg xl:List Pl}{M:Nat}(hq:mM Tx [a] (cs.map (·.1)) q):∀{ps:List Pl}{st:List Pl×List Pl},Ye cs a vg xl M st->(∀p∈ps,p∈Ch q)->Ye cs a vg xl M (ps.foldl (gW cs) st)/\(∀r∈st.1,r∈(ps.foldl (gW cs) st).1)/\∀p∈ps,(aZ cs p).isSome=true->p∈(ps.foldl (gW cs) st).1
 |[],st,h,_=>⟨h,λ_ hr=>hr,λp hp=>by cases hp⟩
 |p::ps,st,h,cf=>by
  obtain⟨h1,h2,h3⟩:=h.push hq (cf p bf)
  obtain⟨k1,k2,k3⟩:=Ye.all hq h1 λx hx=>cf x (az _ hx)
  refine⟨k1,λr hr=>k2 r (h2 r hr),λx hx hg=>?_⟩
  rcases ao.mp hx with rfl|hx
  ·exact k2 _ (h3 hg)
  ·exact k3 x hx hg
structure aCe(cs:CL)(a:Pl)(n:Nat)(rs ws:List Pl):Prop where
 nd:rs.Nodup
 ks:∀r∈rs,(aZ cs r).isSome=true/\mM Tx [a] (cs.map (·.1)) r
 sb:∀r∈ws,r∈rs
 cl:∀r∈rs,r∉ws->∀q∈Ch r,(aZ cs q).isSome=true->q∈rs
 ms:ws.length+zC cs rs<=n
theorem Mx{a:Pl}:∀{n:Nat}{rs ws:List Pl},aCe cs a n rs ws->(dR cs n rs ws).Nodup/\(∀r∈dR cs n rs ws,(aZ cs r).isSome=true/\mM Tx [a] (cs.map (·.1)) r)/\(∀r∈dR cs n rs ws,∀q∈Ch r,(aZ cs q).isSome=true->q∈dR cs n rs ws)/\∀r∈rs,r∈dR cs n rs ws
 |0,rs,ws,h=>by
  have:ws=[]:=yn (by have:=h.ms;omega)
  subst this
  exact⟨h.nd,h.ks,λr hr=>h.cl r hr (by simp),λr hr=>hr⟩
 |n+1,rs,ws,h=>by
  rw[dR]
  cases e:ws.getLast? with
  |none=>
   have:ws=[]:=List.getLast?_eq_none_iff.mp e
   subst this
   exact⟨h.nd,h.ks,λr hr=>h.cl r hr (by simp),λr hr=>hr⟩
  |some q=>
   obtain⟨w0,rfl⟩:=List.getLast?_eq_some_iff.mp e
   rw[List.dropLast_concat]
   have hq:=h.sb q (by simp)
   have p0:Ye cs a rs w0 n (rs,w0):=⟨h.nd,h.ks,λr hr=>h.sb r (lq _ hr),λr hr=>hr,λr hr hn=>⟨hr,hn⟩,by have:=h.ms;rw[c8,AE] at this;show w0.length+zC cs rs<=n;omega⟩
   obtain⟨k1,k2,k3⟩:=Ye.all (h.ks q hq).2 p0 (ps:=Ch q) λp hp=>hp
   have s2:aCe cs a n ((Ch q).foldl (gW cs) (rs,w0)).1 ((Ch q).foldl (gW cs) (rs,w0)).2:=by
    refine⟨k1.nd,k1.ks,k1.ws,λr hr hn x hx hg=>?_,k1.ms⟩
    obtain⟨h1,h2⟩:=k1.nw r hr hn
    by_cases MU:r=q
    ·subst MU
     exact k3 x hx hg
    ·exact k2 x (h.cl r h1 (by simp[h2,MU]) x hx hg)
   obtain⟨r1,r2,r3,r4⟩:=Mx s2
   exact⟨r1,r2,r3,λr hr=>r4 r (k2 r hr)⟩
theorem Uq{c:Pl×Int}{r:CL}(nd:((c::r).map (·.1)).Nodup):xT (c::r)=true↔∀p∈(c::r).map (·.1),mM Tx [c.1] ((c::r).map (·.1)) p:=by
 have g0:(aZ (c::r) c.1).isSome=true:=dN.mpr ⟨c,bf,rfl⟩
 have u0:1+zC (c::r) [c.1]<=(c::r).length:=by
  rw[mR,af (by simp),bw]
  have:zC r [c.1]<=r.length:=JZ _ _
  omega
 have s0:aCe (c::r) c.1 (c::r).length [c.1] [c.1]:=⟨by simp,λx hx=>by rw[gq] at hx;subst hx;exact⟨g0,.base bf⟩,λx hx=>hx,λx hx hn=>absurd hx hn,u0⟩
 obtain⟨r1,r2,r3,r4⟩:=Mx s0
 rw[xT,b7]
 generalize dR (c::r) (c::r).length [c.1] [c.1]=R at r1 r2 r3 r4
 have sub:∀x∈R,x∈(c::r).map (·.1):=λx hx=>xH.mp (r2 x hx).1
 have gj:=wH r1 sub
 rw[ai] at gj
 have all:∀x,mM Tx [c.1] ((c::r).map (·.1)) x->x∈R:=by
  intro x hf
  induction hf with
  |base ha=>exact r4 _ ha
  |step _ e hq ih=>exact r3 _ ih _ e (xH.mpr hq)
 constructor
 ·intro hl p hp
  by_cases hm:p∈R
  ·exact(r2 p hm).2
  ·have:=wH (l:=p::R) (m:=(c::r).map (·.1)) (pd.mpr ⟨hm,r1⟩) λx hx=>by
    rcases ao.mp hx with rfl|hx
    ·exact hp
    ·exact sub x hx
   rw[ai,bw,hl] at this
   (clear hm hl gj u0;omega)
 ·intro h
  have:=wH nd λx hx=>all x (h x hx)
  rw[ai] at this
  (clear u0;omega)
theorem aF4{q r:Nat}(h:p+q+r=1):(p=1/\q=0/\r=0)\/(p=0/\q=1/\r=0)\/(p=0/\q=0/\r=1):=by omega
theorem mL{x u:Nat}:(u - x)+(x - u)=0↔(u:Int)=(x:Int):=by omega
theorem De{x u:Nat}:(u - x)+(x - u)=1↔(u:Int)=(x:Int) - 1\/(u:Int)=(x:Int)+1:=by omega
theorem Bv(a b:kU):Se a b↔Tx (cK a) (cK b):=by
 obtain⟨x,y,z⟩:=a
 obtain⟨u,v,w⟩:=b
 unfold Se Tx Br.beside
 rw[cp]
 constructor
 ·intro h
  rcases aF4 h with ⟨h1,h2,h3⟩|⟨h1,h2,h3⟩|⟨h1,h2,h3⟩
  ·have e2:(v:Int)=y:=mL.mp h2
   have e3:(w:Int)=z:=mL.mp h3
   rcases De.mp h1 with e1|e1
   ·exact ao.mpr (.inl (d6 e1 (d6 e2 e3)))
   ·exact az _ (ao.mpr (.inl (d6 e1 (d6 e2 e3))))
  ·have e1:(u:Int)=x:=mL.mp h1
   have e3:(w:Int)=z:=mL.mp h3
   rcases De.mp h2 with e2|e2
   ·exact az _ (az _ (ao.mpr (.inl (d6 e1 (d6 e2 e3)))))
   ·exact az _ (az _ (az _ (ao.mpr (.inl (d6 e1 (d6 e2 e3))))))
  ·have e1:(u:Int)=x:=mL.mp h1
   have e2:(v:Int)=y:=mL.mp h2
   rcases De.mp h3 with e3|e3
   ·exact az _ (az _ (az _ (az _ (az _ (ao.mpr (.inl (d6 e1 (d6 e2 e3))))))))
   ·exact az _ (az _ (az _ (az _ (ao.mpr (.inl (d6 e1 (d6 e2 e3)))))))
 ·have fin:∀{p q r:Nat},(p=1/\q=0/\r=0)\/(p=0/\q=1/\r=0)\/(p=0/\q=0/\r=1)->p+q+r=1:=by
   rintro p q r (⟨rfl,rfl,rfl⟩|⟨rfl,rfl,rfl⟩|⟨rfl,rfl,rfl⟩)<;>rfl
  intro h
  refine fin ?_
  have st:∀{c:Pl},cK (u,v,w)=c->(u:Int)=c.1/\(v:Int)=c.2.1/\(w:Int)=c.2.2:=λe=>by rw[<-e];exact⟨rfl,rfl,rfl⟩
  rcases ao.mp h with e|h
  ·obtain⟨e1,e2,e3⟩:=st e
   exact .inl ⟨De.mpr (.inl e1),mL.mpr e2,mL.mpr e3⟩
  rcases ao.mp h with e|h
  ·obtain⟨e1,e2,e3⟩:=st e
   exact .inl ⟨De.mpr (.inr e1),mL.mpr e2,mL.mpr e3⟩
  rcases ao.mp h with e|h
  ·obtain⟨e1,e2,e3⟩:=st e
   exact .inr (.inl ⟨mL.mpr e1,De.mpr (.inl e2),mL.mpr e3⟩)
  rcases ao.mp h with e|h
  ·obtain⟨e1,e2,e3⟩:=st e
   exact .inr (.inl ⟨mL.mpr e1,De.mpr (.inr e2),mL.mpr e3⟩)
  rcases ao.mp h with e|h
  ·obtain⟨e1,e2,e3⟩:=st e
   exact .inr (.inr ⟨mL.mpr e1,mL.mpr e2,De.mpr (.inr e3)⟩)
  rcases ao.mp h with e|h
  ·obtain⟨e1,e2,e3⟩:=st e
   exact .inr (.inr ⟨mL.mpr e1,mL.mpr e2,De.mpr (.inl e3)⟩)
  ·cases h
theorem An{c:kU}{r:List kU}:∀{s:kU},mM Se [c] r s↔mM Tx [cK c] ((c::r).map cK) (cK s):=by
 intro s
 constructor
 ·intro h
  induction h with
  |base ha=>rw[gq] at ha;subst ha;exact .base bf
  |step _ e hq ih=>exact .step ih ((Bv _ _).mp e) (px (az _ hq))
 ·have key:∀p,mM Tx [cK c] ((c::r).map cK) p->∃t,p=cK t/\mM Se [c] r t:=by
   intro p h
   induction h with
   |base ha=>rw[gq] at ha;exact⟨c,ha,.base bf⟩
   |step _ e hq ih=>
    obtain⟨t,rfl,ht⟩:=ih
    obtain⟨u,hu,rfl⟩:=a8.mp hq
    refine⟨u,rfl,?_⟩
    rcases ao.mp hu with rfl|hu
    ·exact .base bf
    ·exact .step ht ((Bv _ _).mpr e) hu
  intro h
  obtain⟨t,e,ht⟩:=key _ h
  rw[gO e]
  exact ht
theorem Fg(ok:dC pr):(bQ pr).cells.Nodup:=by
 rw[qR ok]
 have sl:List.Sublist (((zP pr).filter kept).map λq=>fH pr.w pr.d q.1) ((zP pr).map λq=>fH pr.w pr.d q.1):=PF _ PJ
 refine sl.nodup ?_
 have e:(zP pr).map (λq=>fH pr.w pr.d q.1)=(List.range (pr.h * (pr.d * pr.w))).map (fH pr.w pr.d):=by
  have:(zP pr).map (λq=>fH pr.w pr.d q.1)=((zP pr).map Prod.fst).map (fH pr.w pr.d):=by rw[de];rfl
  rw[this]
  unfold zP
  rw[PK (by rw[Ig ok,AO];exact ap _)]
 rw[e]
 refine ug _ (λa b h z=>h ?_) PL
 have h1:=lX (show fH pr.w pr.d a=((fH pr.w pr.d b).1,(fH pr.w pr.d b).2.1,(fH pr.w pr.d b).2.2) from z)
 have h2:=lX (show fH pr.w pr.d b=((fH pr.w pr.d b).1,(fH pr.w pr.d b).2.1,(fH pr.w pr.d b).2.2) from rfl)
 rw[h1,<-h2]
theorem Jc(ok:dC pr):(bQ pr).whole=xT (vF pr):=by
 have ks:=oY ok
 have nd:=Fg ok
 unfold Br.Part.whole
 generalize (bQ pr).cells=cl at ks nd
 generalize vF pr=cs at ks
 match cl,cs,ks,nd with
 |[],[],_,_=>rfl
 |[],_::_,ks,_=>cases ks
 |_::_,[],ks,_=>cases ks
 |c::r,k::cs,ks,nd=>
  have ndc:=pd.mp nd
  have hk:k.1=cK c:=(List.cons.inj ks).1
  have UM:((k::cs).map (·.1)).Nodup:=by
   rw[ks]
   exact ug _ (λa b h z=>h (gO z)) nd
  rw[ge,Uq UM,ks,hk]
  show (Br.apartFrom r.length [c] r).isEmpty=true↔_
  rw[List.isEmpty_iff,Cm (ap _) (λx hx=>by rw[gq] at hx;subst hx;exact ndc.1)]
  constructor
  ·intro h p hp
   obtain⟨s,hs,rfl⟩:=a8.mp hp
   rcases ao.mp hs with rfl|hs
   ·exact .base bf
   ·exact An.mp (h s hs)
  ·exact λh s hs=>An.mpr (h _ (px (az _ hs)))
theorem Qe(ok:dC pr):hX (bQ pr)=gS pr:=by
 unfold hX gS Di
 rw[Jv ok,Kq ok,Ld ok,Jc ok]
abbrev mJ(l:List Int):Br.Bytes:=BuildsNeutral.text l
def Iv(l:List Int):Prop:=∀x∈l,0<=x/\x<=255
theorem Eg:∀{l:List Int},Iv l->aY (mJ l)=l
 |[],_=>rfl
 |x::r,h=>by
  have h1:=h x bf
  have ih:=Eg (l:=r) λy hy=>h y (az _ hy)
  have e:((UInt8.ofNat x.toNat).toNat:Int)=x:=by
   rw[O6]
   omega
  show ((UInt8.ofNat x.toNat).toNat:Int)::aY (mJ r)=x::r
  rw[ih,e]
def aEt(tc tb:Br.Bytes):Yn->Prop
 |.no n=>(n= -2/\(BrB.LOOKED<tc.length\/BrB.BUILT<tb.length))\/(n= -6/\¬(BrB.LOOKED<tc.length\/BrB.BUILT<tb.length)/\∃e,Br.readC tc=.error e)\/(n= -8/\¬(BrB.LOOKED<tc.length\/BrB.BUILT<tb.length)/\∃k,Br.readC tc=.ok k/\(Br.wrong k).isSome=true)
 |.bad i=>¬(BrB.LOOKED<tc.length\/BrB.BUILT<tb.length)/\∃k,Br.readC tc=.ok k/\¬(Br.wrong k).isSome=true/\Br.readB k tb=.error i
 |.ok U nm ls=>¬(BrB.LOOKED<tc.length\/BrB.BUILT<tb.length)/\(∀pr∈U,dC pr)/\Br.readC tc=.ok (U.map bQ)/\¬(Br.wrong (U.map bQ)).isSome=true/\∃d,Br.readB (U.map bQ) tb=.ok d/\d.lines=ls.map eI/\aY d.name=nm
theorem Tg{b:List Int×List (List Nat)}(h:dP aj l=.ok b):∀x∈b.1,gT x=true:=by
 unfold dP at h
 obtain⟨_,_,h⟩:=aM h
 obtain⟨nm,en,h⟩:=aM h
 obtain⟨_,_,h⟩:=aM h
 obtain⟨r,_,h⟩:=aM h
 split at h
 ·cases h
  unfold gG at en
  split at en
  ·cases en
   exact λx hx=>pU hx
  ·cases en
 ·cases h
theorem Gg(hc:Iv lc)(hb:Iv lb):aEt (mJ lc) (mJ lb) (cN lc lb):=by
 have l1:lc.length=(mJ lc).length:=(ai _).symm
 have l2:lb.length=(mJ lb).length:=(ai _).symm
 unfold cN
 by_cases hl:1048576<lc.length\/16384<lb.length
 ·rw[af hl]
  exact .inl ⟨rfl,by rw[l1,l2] at hl;exact hl⟩
 ·rw[ae hl]
  have i4:¬(BrB.LOOKED<(mJ lc).length\/BrB.BUILT<(mJ lb).length):=by rw[l1,l2] at hl;exact hl
  have rc:=Uw (mJ lc)
  rw[Eg hc] at rc
  cases e:gY lc with
  |error i=>
   rw[e] at rc
   exact .inr (.inl ⟨rfl,i4,i,rc⟩)
  |ok U=>
   rw[e] at rc
   have rc:Br.readC (mJ lc)=.ok (U.map bQ):=rc
   have ok:=Sx e
   have wr:=Rq ok λpr hp=>Qe (ok pr hp)
   show aEt _ _ (if nY U=true then (match dP (U.map (·.name)) lb with
    |.error i=>.bad i
    |.ok b=>.ok U b.1 b.2) else .no (-8))
   by_cases hk:nY U=true
   ·rw[af hk]
    rw[hk] at wr
    have nw:¬(Br.wrong (U.map bQ)).isSome=true:=by rw[wr];decide
    have rb:=Ws (mJ lb) (U.map bQ)
    have en:((U.map bQ).map λ(p:Br.Part)=>p.name).map aY=U.map (·.name):=by
     rw[de,de]
     refine uh λpr hp=>?_
     exact sQ (ok pr hp)
    rw[Eg hb,en] at rb
    cases e2:dP (U.map (·.name)) lb with
    |error i=>
     rw[e2] at rb
     exact⟨i4,_,rc,nw,rb⟩
    |ok b=>
     rw[e2] at rb
     exact⟨i4,ok,rc,nw,_,rb,rfl,Tu _ (Tg e2)⟩
   ·rw[ae hk]
    have:nY U=false:=by simpa using hk
    rw[this] at wr
    exact .inr (.inr ⟨rfl,i4,_,rc,by rw[wr];rfl⟩)
structure TP where
 W:Int
 D:Int
 Hh:Int
 cs:CL
noncomputable def fQ(W:Int)(p:Pl):Pl:=(p.2.1,W - 1 - p.1,p.2.2)
noncomputable def Ux(W:Int)(cs:CL):CL:=cs.map λc=>(fQ W c.1,c.2)
noncomputable def Mq(t:TP):TP:=⟨t.D,t.W,t.Hh,Ux t.W t.cs⟩
noncomputable def eW(t:TP):Nat->TP
 |0=>t
 |n+1=>Mq (eW t n)
noncomputable def iY(pr:aL):TP:=⟨pr.w,pr.d,pr.h,vF pr⟩
noncomputable def jP(t:TP)(x y z:Int):Bool:=decide (64<x+t.W)||(decide (64<y+t.D)||decide (96<z+t.Hh))
noncomputable def mI(x y z:Int)(p:Pl):Pl:=(x+p.1,y+p.2.1,z+p.2.2)
noncomputable def Hu(x y z:Int)(cs:CL):CL:=cs.map λc=>(mI x y z c.1,c.2)
noncomputable def fW(ow cells:CL):List Int:=cells.filterMap λc=>aZ ow c.1
noncomputable def mO(sg ow:CL)(c:Pl×Int):List Int:=match aZ sg (pT c.1) with
 |some s=>if fB c.2=true/\dU s=false then (aZ ow (pT c.1)).toList else []
 |none=>[]
noncomputable def pH(sg ow:CL)(c:Pl×Int):List Int:=match aZ sg (qD c.1) with
 |some s=>if dU c.2=false/\fB s=true then (aZ ow (qD c.1)).toList else []
 |none=>[]
noncomputable def cW(cells sg ow:CL):List Int:=cells.flatMap λc=>mO sg ow c++pH sg ow c
noncomputable def iD:List Int->Int
 |[]=>0
 |[a]=>a
 |a::r=>min a (iD r)
noncomputable def eC(x:List Nat)(k:Nat):Nat:=x.getD k 0
noncomputable def tX(U:List aL)(x:List Nat):TP:=eW ((U[eC x 0]?).elim ⟨0,0,0,[]⟩ iY) (eC x 5)
noncomputable def cX(U:List aL)(x:List Nat):CL:=Hu (eC x 2) (eC x 3) (eC x 4) (tX U x).cs
noncomputable def cE(U:List aL):Nat->CL->CL->List (List Nat)->List Int
 |_,_,_,[]=>[]
 |j,sg,ow,x::r=>
  if jP (tX U x) (eC x 2) (eC x 3) (eC x 4)=true then [1,j,j] else
  if 0<(fW ow (cX U x)).length then [2,j,iD (fW ow (cX U x))] else
  if 0<(cW (cX U x) sg ow).length then [3,j,iD (cW (cX U x) sg ow)] else
  cE U (j+1) (sg++cX U x) (ow++(cX U x).map λc=>(c.1,(j:Int))) r
theorem nQ:∀{l:List Int},l≠[]->iD l∈l
 |[],h=>absurd rfl h
 |[a],_=>bf
 |a::b::r,_=>by
  have ih:=nQ (l:=b::r) (by simp)
  show min a (iD (b::r))∈a::b::r
  rcases Int.le_total a (iD (b::r)) with h|h
  ·rw[Int.min_eq_left h];exact bf
  ·rw[Int.min_eq_right h];exact az _ ih
theorem oG:∀{l:List Int}{y:Int},y∈l->iD l<=y
 |[],y,h=>by cases h
 |[a],y,h=>by rw[gq] at h;subst h;exact J1 _
 |a::b::r,y,h=>by
  show min a (iD (b::r))<=y
  rcases ao.mp h with rfl|h
  ·exact Int.min_le_left _ _
  ·have:=oG h
   have:=Int.min_le_right a (iD (b::r))
   omega
theorem Mt{m:Int}(h1:m∈l)(h2:∀y∈l,m<=y):m=iD l:=by
 have a:=oG h1
 have b:=h2 _ (nQ (l:=l) (by rintro rfl;cases h1))
 omega
structure zW(p:Br.Part):Prop where
 w:1<=p.wide
 d:1<=p.deep
 h:1<=p.high
 l:p.places.length=p.high * (p.deep * p.wide)
theorem nF{p:Br.Part}(ok:zW p){f:Br.Place->Bool}(f0:f .none=false){s:kU}:s∈p.such f↔f (p.at_ s.1 s.2.1 s.2.2)=true:=by
 obtain⟨x,y,z⟩:=s
 unfold Br.Part.such Br.Part.at_
 rw[rT ok.w ok.d,a8]
 have hN:∀i,i<p.high * (p.deep * p.wide)->i % p.wide<p.wide/\i / p.wide % p.deep<p.deep/\i / p.wide / p.deep<p.high:=λi hi=>by
  refine⟨rh _ ok.w,rh _ ok.d,?_⟩
  rw[FN]
  apply O9
  rw[mm,mm p.wide]
  exact hi
 constructor
 ·rintro⟨⟨t,pl⟩,hm,e⟩
  obtain⟨hz,hf⟩:=jl.mp hm
  obtain⟨i,e1⟩:=pi.mp hz
  rw[FO] at e1
  obtain⟨e1,e2⟩:=e1
  have hi:i<p.high * (p.deep * p.wide):=by rw[<-ok.l];exact(bp.mp e2).1
  rw[bg,AN hi] at e1
  have e1:fH p.wide p.deep i=t:=by simpa using e1
  have e:t=(x,y,z):=e
  subst e
  have e3:=lX e1
  have h3:=hN i hi
  unfold fH at e1
  simp only[Prod.mk.injEq] at e1
  show f (if x<p.wide/\y<p.deep/\z<p.high then _ else _)=true
  rw[af (by omega),cx]
  show f ((p.places[(z * p.deep+y) * p.wide+x]?).getD .none)=true
  rw[<-e3,e2]
  exact hf
 ·intro h
  have h:f (if x<p.wide/\y<p.deep/\z<p.high then p.places.getD ((z * p.deep+y) * p.wide+x) .none else .none)=true:=h
  split at h
  ·rename_i hr
   have am:(z * p.deep+y) * p.wide+x<p.high * (p.deep * p.wide):=by
    have h1:(z * p.deep+y)+1<=p.high * p.deep:=by
     have:(z+1) * p.deep<=p.high * p.deep:=AK _ hr.2.2
     rw[om] at this
     omega
    have h2:=AK p.wide h1
    rw[om,FL] at h2
    omega
   rw[cx] at h
   have hp:(z * p.deep+y) * p.wide+x<p.places.length:=by rw[ok.l];exact am
   rw[ax hp] at h
   refine⟨((x,y,z),p.places[(z * p.deep+y) * p.wide+x]),jl.mpr ⟨?_,h⟩,rfl⟩
   refine pi.mpr ⟨(z * p.deep+y) * p.wide+x,?_⟩
   rw[FO]
   refine⟨?_,ax hp⟩
   rw[bg,AN am]
   show some (fH _ _ _)=_
   rw[Kw hr.1 hr.2.1]
  ·rw[f0] at h;cases h
structure Ro(t:TP)(p:Br.Part):Prop where
 sh:zW p
 w:t.W=p.wide
 d:t.D=p.deep
 h:t.Hh=p.high
 nd:(t.cs.map (·.1)).Nodup
 mem:∀(q:Pl)(v:Int),(q,v)∈t.cs↔∃s:kU,q=cK s/\v∈cM/\(p.at_ s.1 s.2.1 s.2.2).isCell=true/\p.at_ s.1 s.2.1 s.2.2=pJ v
theorem pO{p:Br.Part}{x y:Nat}(h:(p.at_ x y z).isCell=true):x<p.wide/\y<p.deep/\z<p.high:=by
 unfold Br.Part.at_ at h
 split at h
 ·rename_i hr;exact hr
 ·cases h
theorem Fl(ok:dC pr):Ro (iY pr) (bQ pr):=by
 have hl:(bQ pr).places.length=pr.h * (pr.d * pr.w):=by rw[gP,ai,Ig ok]
 refine⟨⟨ok.w1,ok.d1,ok.h1,hl⟩,rfl,rfl,rfl,?_,?_⟩
 ·show ((vF pr).map (·.1)).Nodup
  rw[oY ok]
  exact ug _ (λa b h z=>h (gO z)) (Fg ok)
 ·intro q v
  show (q,v)∈vF pr↔_
  rw[Bz ok,a8]
  constructor
  ·rintro⟨⟨i,s⟩,hm,e⟩
   obtain⟨hz,hk⟩:=jl.mp hm
   cases e
   have hc:fH pr.w pr.d i∈(bQ pr).cells:=by rw[qR ok];exact a8.mpr ⟨_,hm,rfl⟩
   have dk:=(qZ ok (fH pr.w pr.d i).1 (fH pr.w pr.d i).2.1 (fH pr.w pr.d i).2.2).mpr hc
   refine⟨fH pr.w pr.d i,rfl,uF ok hz,dk,?_⟩
   have a7:=pO dk
   have e2:=lX (w:=pr.w) (d:=pr.d) (i:=i) (x:=(fH pr.w pr.d i).1) (y:=(fH pr.w pr.d i).2.1) (z:=(fH pr.w pr.d i).2.2) rfl
   unfold Br.Part.at_
   rw[af a7,gP,cx,bg]
   show ((pr.rows.flatten[((fH pr.w pr.d i).2.2 * pr.d+(fH pr.w pr.d i).2.1) * pr.w+(fH pr.w pr.d i).1]?).map pJ).getD .none=_
   rw[<-e2,(Ny ok).mp hz]
   rfl
  ·rintro⟨s,rfl,hv,hc,he⟩
   have a7:=pO hc
   unfold Br.Part.at_ at he
   rw[af a7,gP,cx,bg] at he
   have he:((pr.rows.flatten[(s.2.2 * pr.d+s.2.1) * pr.w+s.1]?).map pJ).getD .none=pJ v:=he
   have qb:(pJ v).isCell=true:=by
    unfold Br.Part.at_ at hc
    rw[af a7,gP,cx,bg] at hc
    rw[<-he];exact hc
   cases e:pr.rows.flatten[(s.2.2 * pr.d+s.2.1) * pr.w+s.1]? with
   |none=>rw[e] at he;rw[<-he] at qb;cases qb
   |some u=>
    rw[e] at he
    have he:pJ u=pJ v:=he
    have hz:=(Ny ok).mpr e
    have hu:=uF ok hz
    have UN:u=v:=by
     simp only[cM,ao,dh,io] at hu hv
     rcases hu with rfl|rfl|rfl|rfl|rfl<;>rcases hv with rfl|rfl|rfl|rfl|rfl<;>first|rfl|(revert he;decide)
    subst UN
    refine⟨(_,u),jl.mpr ⟨hz,?_⟩,?_⟩
    ·rw[oA] at qb;exact qb
    ·have hs:fH pr.w pr.d ((s.2.2 * pr.d+s.2.1) * pr.w+s.1)=s:=Kw (w:=pr.w) (d:=pr.d) a7.1 a7.2.1
     show (cK (fH pr.w pr.d ((s.2.2 * pr.d+s.2.1) * pr.w+s.1)),u)=_
     rw[hs]
theorem zG{p:Br.Part}:p.turn.places.length=p.high * (p.wide * p.deep):=by
 show ((List.range p.high).flatMap λ(z:Nat)=>(List.range p.wide).flatMap λ(y:Nat)=>(List.range p.deep).map λ(x:Nat)=>p.places.toArray.getD ((z * p.deep+x) * p.wide+(p.wide - 1 - y)) .none).length=_
 refine lJ (λz=>?_) _
 refine lJ (λy=>?_) _
 simp
theorem sC{p:Br.Part}(ok:zW p){x y:Nat}(hx:x<p.deep)(hy:y<p.wide)(hz:z<p.high):p.turn.at_ x y z=p.at_ (p.wide - 1 - y) x z:=by
 have hw:=ok.w
 have hd:=ok.d
 have l1:∀y z:Nat,((List.range p.deep).map λ(x:Nat)=>p.places.toArray.getD ((z * p.deep+x) * p.wide+(p.wide - 1 - y)) Br.Place.none).length=p.deep:=by simp
 have l2:∀z:Nat,((List.range p.wide).flatMap λ(y:Nat)=>(List.range p.deep).map λ(x:Nat)=>p.places.toArray.getD ((z * p.deep+x) * p.wide+(p.wide - 1 - y)) Br.Place.none).length=p.wide * p.deep:=λz=>lJ (λy=>l1 y z) _
 have b1:y * p.deep+x<p.wide * p.deep:=by
  have:(y+1) * p.deep<=p.wide * p.deep:=AK _ hy
  rw[om] at this
  omega
 have b2:z * (p.wide * p.deep)+(y * p.deep+x)<p.high * (p.wide * p.deep):=by
  have:(z+1) * (p.wide * p.deep)<=p.high * (p.wide * p.deep):=AK _ hz
  rw[om] at this
  omega
 have e0:(z * p.wide+y) * p.deep+x=z * (p.wide * p.deep)+(y * p.deep+x):=by
  rw[Nat.add_mul,FL,Nat.add_assoc]
 unfold Br.Part.at_
 rw[af (show x<p.turn.wide/\y<p.turn.deep/\z<p.turn.high from ⟨hx,hy,hz⟩),af (by omega)]
 rw[cx,cx]
 show (((List.range p.high).flatMap λ(z:Nat)=>(List.range p.wide).flatMap λ(y:Nat)=>(List.range p.deep).map λ(x:Nat)=>p.places.toArray.getD ((z * p.deep+x) * p.wide+(p.wide - 1 - y)) Br.Place.none)[(z * p.wide+y) * p.deep+x]?).getD .none=_
 rw[e0,xJ (C0 hw hd) l2 _ _ b2]
 have e1:(z * (p.wide * p.deep)+(y * p.deep+x)) / (p.wide * p.deep)=z:=by
  rw[mq,yf _ _ (C0 hw hd),yg b1,oo]
 have e2:(z * (p.wide * p.deep)+(y * p.deep+x)) % (p.wide * p.deep)=y * p.deep+x:=by
  rw[mq,yd,ye b1]
 rw[e1,e2,xJ hd (λy=>l1 y z) _ _ b1]
 have e3:(y * p.deep+x) / p.deep=y:=by
  rw[mq,yf _ _ hd,yg hx,oo]
 have e4:(y * p.deep+x) % p.deep=x:=by rw[mq,yd,ye hx]
 rw[e3,e4,bg,AN hx]
 show p.places.toArray.getD ((z * p.deep+x) * p.wide+(p.wide - 1 - y)) .none=_
 simp
theorem Vr{t:TP}{p:Br.Part}(h:Ro t p):Ro (Mq t) p.turn:=by
 obtain⟨sh,hw,hd,hh,nd,mem⟩:=h
 have HY:zW p.turn:=⟨sh.d,sh.w,sh.h,zG⟩
 have inj:∀a b:Pl,fQ t.W a=fQ t.W b->a=b:=by
  rintro⟨x,y,z⟩ ⟨u,v,w⟩ e
  unfold fQ at e
  simp only[Prod.mk.injEq] at e ⊢
  omega
 refine⟨HY,hd,hw,hh,?_,?_⟩
 ·show (((t.cs).map λc=>(fQ t.W c.1,c.2)).map (·.1)).Nodup
  rw[de]
  have:(t.cs.map ((·.1)∘λc:Pl×Int=>(fQ t.W c.1,c.2)))=(t.cs.map (·.1)).map (fQ t.W):=by rw[de];rfl
  rw[this]
  exact ug _ (λa b h z=>h (inj a b z)) nd
 ·intro q v
  show (q,v)∈t.cs.map (λc=>(fQ t.W c.1,c.2))↔_
  rw[a8]
  constructor
  ·rintro⟨⟨c,u⟩,hc,e⟩
   obtain⟨s,rfl,hv,ro,ff⟩:=(mem c u).mp hc
   cases e
   have a7:=pO ro
   have hy:p.wide - 1 - s.1<p.wide:=by omega
   have ta:=sC sh a7.2.1 hy a7.2.2
   rw[show p.wide - 1 - (p.wide - 1 - s.1)=s.1 by omega] at ta
   refine⟨(s.2.1,p.wide - 1 - s.1,s.2.2),?_,hv,?_,?_⟩
   ·unfold fQ cK
    rw[hw]
    refine d6 rfl (d6 ?_ rfl)
    show (p.wide:Int) - 1 - (s.1:Int)=((p.wide - 1 - s.1:Nat):Int)
    omega
   ·show (p.turn.at_ s.2.1 (p.wide - 1 - s.1) s.2.2).isCell=true
    rw[ta];exact ro
   ·show p.turn.at_ s.2.1 (p.wide - 1 - s.1) s.2.2=_
    rw[ta];exact ff
  ·rintro⟨s,rfl,hv,ro,ff⟩
   have a7:s.1<p.deep/\s.2.1<p.wide/\s.2.2<p.high:=pO ro
   have ta:=sC sh a7.1 a7.2.1 a7.2.2
   rw[ta] at ro ff
   refine⟨(cK (p.wide - 1 - s.2.1,s.1,s.2.2),v),(mem _ _).mpr ⟨_,rfl,hv,ro,ff⟩,?_⟩
   unfold fQ cK
   rw[hw]
   refine d6 (d6 rfl (d6 ?_ rfl)) rfl
   show (p.wide:Int) - 1 - ((p.wide - 1 - s.2.1:Nat):Int)=(s.2.1:Int)
   omega
theorem oX{t:TP}{p:Br.Part}(h:Ro t p):∀n,Ro (eW t n) (p.turned n)
 |0=>h
 |n+1=>Vr (oX h n)
structure Ab(sh:Br.Shape)(cl:CL):Prop where
 c:∀s,s∈sh.cells↔∃v,(cK s,v)∈cl
 st:∀s,s∈sh.studs↔∃v,(cK s,v)∈cl/\fB v=true
 tb:∀s,s∈sh.tubes↔∃v,(cK s,v)∈cl/\dU v=true
 nd:(cl.map (·.1)).Nodup
 ps:∀q v,(q,v)∈cl->∃s:kU,q=cK s
 box:∀s∈sh.cells,(sh.at_.1<=s.1/\s.1<sh.at_.1+sh.size.1)/\(sh.at_.2.1<=s.2.1/\s.2.1<sh.at_.2.1+sh.size.2.1)/\(sh.at_.2.2<=s.2.2/\s.2.2<sh.at_.2.2+sh.size.2.2)
theorem Vt:∀{cl:CL}{q:Pl}{u v:Int},(cl.map (·.1)).Nodup->(q,u)∈cl->(q,v)∈cl->u=v
 |[],q,u,v,_,h,_=>by cases h
 |c::r,q,u,v,nd,h1,h2=>by
  have nd:=pd.mp nd
  rcases ao.mp h1 with e1|h1
  ·rcases ao.mp h2 with e2|h2
   ·rw[<-e1] at e2;cases e2;rfl
   ·exact absurd (a8.mpr ⟨_,h2,by rw[<-e1]⟩) nd.1
  ·rcases ao.mp h2 with e2|h2
   ·exact absurd (a8.mpr ⟨_,h1,by rw[<-e2]⟩) nd.1
   ·exact Vt nd.2 h1 h2
theorem oV{cl:CL}{q:Pl}{v:Int}(h:aZ cl q=some v):(q,v)∈cl:=by
 unfold aZ at h
 obtain⟨c,e,rfl⟩:=o9.mp h
 have h1:=PN e
 have h1:c.1=q:=by simpa using h1
 rw[<-h1]
 exact J7 e
theorem Os{cl:CL}{q:Pl}{v:Int}(nd:(cl.map (·.1)).Nodup):aZ cl q=some v↔(q,v)∈cl:=by
 refine⟨oV,λh=>?_⟩
 have hs:(aZ cl q).isSome=true:=dN.mpr ⟨_,h,rfl⟩
 obtain⟨u,e⟩:=vo.mp hs
 rw[e,Vt nd (oV e) h]
theorem zR(a b:CL)(q:Pl):aZ (a++b) q=(aZ a q).or (aZ b q):=by
 unfold aZ
 rw[List.find?_append]
 cases List.find? (λc=>decide (c.1=q)) a<;>rfl
theorem wS(pl:Br.Place):∃v∈cM,pl=pJ v:=by
 cases pl with
 |none=>exact⟨46,by decide,by decide⟩
 |cell a b=>cases a<;>cases b<;>first|exact⟨35,by decide,by decide⟩|exact⟨115,by decide,by decide⟩|exact⟨116,by decide,by decide⟩|exact⟨98,by decide,by decide⟩
theorem Qz{pl:Br.Place}(h:pl.stud=true):pl.isCell=true:=by cases pl;cases h;rfl
theorem Ra{pl:Br.Place}(h:pl.tube=true):pl.isCell=true:=by cases pl;cases h;rfl
theorem Gz{t:TP}{p:Br.Part}(h:Ro t p){f:Br.Place->Bool}{g:Int->Bool}(f0:∀pl,f pl=true->pl.isCell=true)(hg:∀v∈cM,v≠46->f (pJ v)=g v)(s:kU):s∈p.such f↔∃v,(cK s,v)∈t.cs/\g v=true:=by
 have fn:f .none=false:=by
  cases e:f .none with
  |false=>rfl
  |true=>have:=f0 _ e;cases this
 rw[nF h.sh fn]
 constructor
 ·intro hf
  have hc:=f0 _ hf
  obtain⟨v,hv,e⟩:=wS (p.at_ s.1 s.2.1 s.2.2)
  refine⟨v,(h.mem _ _).mpr ⟨s,rfl,hv,hc,e⟩,?_⟩
  rw[<-hg v hv (by rintro rfl;rw[e] at hc;revert hc;decide),<-e]
  exact hf
 ·rintro⟨v,hm,BO⟩
  obtain⟨s2,e,hv,hc,e2⟩:=(h.mem _ _).mp hm
  have e:=gO e
  subst e
  rw[e2,hg v hv (by rintro rfl;rw[e2] at hc;revert hc;decide)]
  exact BO
theorem aAl{t:TP}{p:Br.Part}(h:Ro t p)(x y z:Nat)(im:Bool)(put:kU->kU)(BP:∀s,put s=(x+s.1,y+s.2.1,z+s.2.2)):Ab ⟨(x,y,z),(p.wide,p.deep,p.high),im,p.cells.map put,p.studs.map put,p.tubes.map put⟩ (Hu x y z t.cs):=by
 have key:∀(f:Br.Place->Bool)(g:Int->Bool),(∀pl,f pl=true->pl.isCell=true)->(∀v∈cM,v≠46->f (pJ v)=g v)->∀s:kU,s∈(p.such f).map put↔∃v,(cK s,v)∈Hu x y z t.cs/\g v=true:=by
  intro f g f0 hg s
  rw[a8]
  constructor
  ·rintro⟨s0,h0,rfl⟩
   obtain⟨v,hm,BO⟩:=(Gz h f0 hg s0).mp h0
   refine⟨v,a8.mpr ⟨_,hm,?_⟩,BO⟩
   rw[BP]
   rfl
  ·rintro⟨v,hm,BO⟩
   obtain⟨⟨q,u⟩,hc,e⟩:=a8.mp hm
   obtain⟨e1,e2⟩:=Prod.mk.inj e
   have e2:u=v:=e2
   subst e2
   obtain⟨s0,rfl,_⟩:=(h.mem q u).mp hc
   refine⟨s0,(Gz h f0 hg s0).mpr ⟨u,hc,BO⟩,?_⟩
   apply gO
   rw[BP,<-e1]
   rfl
 have inj:∀a b:Pl,mI x y z a=mI x y z b->a=b:=by
  rintro⟨a,b,c⟩ ⟨u,v,w⟩ e
  unfold mI at e
  simp only[Prod.mk.injEq] at e ⊢
  omega
 refine⟨λs=>?_,λs=>?_,λs=>?_,?_,?_,?_⟩
 ·have k:=key Br.Place.isCell (λ_=>true) (λ_ h=>h) (λv hv hn=>by rw[oA];simp[hn]) s
  have k:s∈p.cells.map put↔_:=k
  show s∈p.cells.map put↔_
  rw[k]
  exact⟨λ⟨v,h1,_⟩=>⟨v,h1⟩,λ⟨v,h1⟩=>⟨v,h1,rfl⟩⟩
 ·exact key Br.Place.stud fB (λ_ h=>Qz h) (λv hv _=>wX hv) s
 ·exact key Br.Place.tube dU (λ_ h=>Ra h) (λv hv _=>wV hv) s
 ·unfold Hu
  rw[de]
  have:(t.cs.map ((·.1)∘λc:Pl×Int=>(mI x y z c.1,c.2)))=(t.cs.map (·.1)).map (mI x y z):=by rw[de];rfl
  rw[this]
  exact ug _ (λa b h z=>h (inj a b z)) h.nd
 ·intro q v hm
  obtain⟨⟨q0,u⟩,hc,e⟩:=a8.mp hm
  obtain⟨s0,rfl,_⟩:=(h.mem q0 u).mp hc
  obtain⟨e1,e2⟩:=Prod.mk.inj e
  exact⟨(x+s0.1,y+s0.2.1,z+s0.2.2),by rw[<-e1];rfl⟩
 ·intro s hs
  obtain⟨s0,h0,rfl⟩:=a8.mp hs
  have h0:s0∈p.such Br.Place.isCell:=h0
  rw[nF h.sh (by rfl)] at h0
  have:=pO h0
  rw[BP]
  show (x<=x+s0.1/\x+s0.1<x+p.wide)/\(y<=y+s0.2.1/\y+s0.2.1<y+p.deep)/\(z<=z+s0.2.2/\z+s0.2.2<z+p.high)
  omega
theorem Ae{i j:Br.Shape}{ci cj:CL}(hi:Ab i ci)(hj:Ab j cj):Br.clash i j=true↔∃q v u,(q,v)∈ci/\(q,u)∈cj:=by
 unfold Br.clash
 rw[cn,mr]
 constructor
 ·rintro⟨_,s,h1,h2⟩
  rw[AQ] at h2
  obtain⟨v,hv⟩:=(hi.c s).mp h1
  obtain⟨u,hu⟩:=(hj.c s).mp h2
  exact⟨_,v,u,hv,hu⟩
 ·rintro⟨q,v,u,hv,hu⟩
  obtain⟨s,rfl⟩:=hi.ps q v hv
  have m1:=(hi.c s).mpr ⟨v,hv⟩
  have m2:=(hj.c s).mpr ⟨u,hu⟩
  have b1:=hi.box s m1
  have b2:=hj.box s m2
  refine⟨?_,s,m1,AQ.mpr m2⟩
  unfold Br.meet
  simp only[cn,b7]
  omega
theorem oN{i j:Br.Shape}{ci cj:CL}(hi:Ab i ci)(hj:Ab j cj):Br.stuck i j=true↔∃q v u,(q,v)∈ci/\fB v=true/\(pT q,u)∈cj/\dU u=false:=by
 unfold Br.stuck
 rw[cn,mr]
 constructor
 ·rintro⟨_,s,h1,h2⟩
  rw[cn,cq,<-rj,AQ,AQ] at h2
  obtain⟨v,hv,hs⟩:=(hi.st s).mp h1
  obtain⟨u,hu⟩:=(hj.c _).mp h2.1
  refine⟨_,v,u,hv,hs,hu,?_⟩
  cases e:dU u with
  |false=>rfl
  |true=>exact absurd ((hj.tb _).mpr ⟨u,hu,e⟩) h2.2
 ·rintro⟨q,v,u,hv,hs,hu,ht⟩
  obtain⟨s,rfl⟩:=hi.ps q v hv
  have m1:=(hi.c s).mpr ⟨v,hv⟩
  have m2:Br.above s∈j.cells:=(hj.c (Br.above s)).mpr ⟨u,hu⟩
  have b1:=hi.box s m1
  have b2:=hj.box _ m2
  refine⟨?_,s,(hi.st s).mpr ⟨v,hv,hs⟩,?_⟩
  ·unfold Br.meet
   simp only[cn,b7]
   unfold Br.above at b2
   simp only at b2
   omega
  ·rw[cn,cq,<-rj,AQ,AQ]
   refine⟨m2,λz=>?_⟩
   obtain⟨u2,BQ,qo⟩:=(hj.tb _).mp z
   rw[Vt hj.nd hu (show (pT (cK s),u2)∈cj from BQ),qo] at ht
   cases ht
structure aQ(zs:List (Br.Shape×CL))(sg ow:CL):Prop where
 rep:∀z∈zs,Ab z.1 z.2
 sgO:∀q v,aZ sg q=some v↔∃(i:Nat)(z:Br.Shape×CL),zs[i]?=some z/\(q,v)∈z.2
 owO:∀q k,aZ ow q=some k↔∃(i:Nat)(z:Br.Shape×CL)(v:Int),zs[i]?=some z/\(q,v)∈z.2/\k=(i:Int)
theorem Nm{f:Br.Shape->Bool}{L:List Int}(h:∀k:Int,k∈L↔∃(i:Nat)(z:Br.Shape×CL),zs[i]?=some z/\f z.1=true/\k=(i:Int)):
  (L=[]->(zs.map (·.1)).findIdx? f=none)/\(L≠[]->∃i:Nat,(zs.map (·.1)).findIdx? f=some i/\iD L=(i:Int)):=by
 constructor
 ·rintro rfl
  rw[PP]
  intro x hx
  obtain⟨z,hz,rfl⟩:=a8.mp hx
  obtain⟨i,hi⟩:=pi.mp hz
  cases e:f z.1 with
  |false=>rfl
  |true=>exact absurd ((h i).mpr ⟨i,z,hi,e,rfl⟩) dh
 ·intro aw
  have hm:=nQ aw
  obtain⟨i,z,hi,hf,e⟩:=(h _).mp hm
  refine⟨i,?_,e⟩
  obtain⟨am,hz⟩:=bp.mp hi
  rw[PQ]
  refine⟨by rw[ai];exact am,by rw[PR,hz];exact hf,λj hj=>?_⟩
  have D4:j<zs.length:=by omega
  rw[PR]
  intro UO
  have:=oG ((h (j:Int)).mpr ⟨j,zs[j],ax D4,UO,rfl⟩)
  omega
theorem Yk{cl:CL}(I:aQ zs sg ow)(hs:Ab sh cl)(k:Int):k∈fW ow cl↔∃(i:Nat)(z:Br.Shape×CL),zs[i]?=some z/\Br.clash z.1 sh=true/\k=(i:Int):=by
 unfold fW
 rw[AA]
 constructor
 ·rintro⟨⟨q,u⟩,hc,e⟩
  obtain⟨i,z,v,hi,hv,rfl⟩:=(I.owO _ _).mp e
  exact⟨i,z,hi,(Ae (I.rep z (fj hi)) hs).mpr ⟨q,v,u,hv,hc⟩,rfl⟩
 ·rintro⟨i,z,hi,jq,rfl⟩
  obtain⟨q,v,u,hv,hu⟩:=(Ae (I.rep z (fj hi)) hs).mp jq
  exact⟨(q,u),hu,(I.owO _ _).mpr ⟨i,z,v,hi,hv,rfl⟩⟩
theorem aEw(q:Pl):pT (qD q)=q:=by
 unfold pT qD
 refine d6 rfl (d6 rfl ?_)
 show q.2.2 - 1+1=q.2.2
 omega
theorem aBo(q:Pl):qD (pT q)=q:=by
 unfold pT qD
 refine d6 rfl (d6 rfl ?_)
 show q.2.2+1 - 1=q.2.2
 omega
theorem Hv{c:Pl×Int}{k:Int}:k∈mO sg ow c↔fB c.2=true/\(∃s,aZ sg (pT c.1)=some s/\dU s=false)/\aZ ow (pT c.1)=some k:=by
 unfold mO
 cases e:aZ sg (pT c.1) with
 |none=>simp
 |some s=>
  simp only[Option.some.injEq,PU]
  split
  ·rename_i h
   rw[PV]
   exact⟨λz=>⟨h.1,h.2,z⟩,λz=>z.2.2⟩
  ·rename_i h
   exact⟨λz=>absurd z dh,λz=>absurd ⟨z.1,z.2.1⟩ h⟩
theorem Iu{c:Pl×Int}{k:Int}:k∈pH sg ow c↔dU c.2=false/\(∃s,aZ sg (qD c.1)=some s/\fB s=true)/\aZ ow (qD c.1)=some k:=by
 unfold pH
 cases e:aZ sg (qD c.1) with
 |none=>simp
 |some s=>
  simp only[Option.some.injEq,PU]
  split
  ·rename_i h
   rw[PV]
   exact⟨λz=>⟨h.1,h.2,z⟩,λz=>z.2.2⟩
  ·rename_i h
   exact⟨λz=>absurd z dh,λz=>absurd ⟨z.1,z.2.1⟩ h⟩
theorem aAr{cl:CL}(I:aQ zs sg ow)(hs:Ab sh cl)(k:Int):k∈cW cl sg ow↔∃(i:Nat)(z:Br.Shape×CL),zs[i]?=some z/\(Br.stuck z.1 sh||Br.stuck sh z.1)=true/\k=(i:Int):=by
 unfold cW
 rw[J8]
 have one:∀{q:Pl}{i:Nat}{z:Br.Shape×CL}{v s k:Int},zs[i]?=some z->(q,v)∈z.2->aZ sg q=some s->s=v:=by
  intro q i z v s k hi hv e
  have:=(I.sgO q v).mpr ⟨i,z,hi,hv⟩
  rw[e] at this
  exact Option.some.inj this
 constructor
 ·rintro⟨⟨q,u⟩,hc,hk⟩
  rcases je.mp hk with hk|hk
  ·obtain⟨h1,⟨s,e,h2⟩,h3⟩:=Hv.mp hk
   obtain⟨i,z,v,hi,hv,rfl⟩:=(I.owO _ _).mp h3
   have:=one (k:=0) hi hv e
   subst this
   refine⟨i,z,hi,?_,rfl⟩
   rw[ya]
   exact .inr ((oN hs (I.rep z (fj hi))).mpr ⟨q,u,s,hc,h1,hv,h2⟩)
  ·obtain⟨h1,⟨s,e,h2⟩,h3⟩:=Iu.mp hk
   obtain⟨i,z,v,hi,hv,rfl⟩:=(I.owO _ _).mp h3
   have:=one (k:=0) hi hv e
   subst this
   refine⟨i,z,hi,?_,rfl⟩
   rw[ya]
   exact .inl ((oN (I.rep z (fj hi)) hs).mpr ⟨qD q,s,u,hv,h2,by rw[aEw];exact hc,h1⟩)
 ·rintro⟨i,z,hi,d8,rfl⟩
  have hz:=I.rep z (fj hi)
  rw[ya] at d8
  rcases d8 with d8|d8
  ·obtain⟨q,v,u,hv,h1,hu,h2⟩:=(oN hz hs).mp d8
   refine⟨(pT q,u),hu,gd _ (Iu.mpr ⟨h2,⟨v,?_,h1⟩,?_⟩)⟩
   ·rw[aBo];exact(I.sgO _ _).mpr ⟨i,z,hi,hv⟩
   ·rw[aBo];exact(I.owO _ _).mpr ⟨i,z,v,hi,hv,rfl⟩
  ·obtain⟨q,v,u,hv,h1,hu,h2⟩:=(oN hs hz).mp d8
   refine⟨(q,v),hv,lq _ (Hv.mpr ⟨h1,⟨u,?_,h2⟩,?_⟩)⟩
   ·exact(I.sgO _ _).mpr ⟨i,z,hi,hu⟩
   ·exact(I.owO _ _).mpr ⟨i,z,u,hi,hu,rfl⟩
theorem Ha{cl:CL}{q:Pl}{k j:Int}:aZ (cl.map λc=>(c.1,j)) q=some k↔k=j/\∃v,(q,v)∈cl:=by
 constructor
 ·intro h
  obtain⟨c,hc,e⟩:=a8.mp (oV h)
  obtain⟨e1,e2⟩:=Prod.mk.inj e
  exact⟨e2.symm,c.2,by rw[<-e1];exact hc⟩
 ·rintro⟨rfl,v,hv⟩
  have hs:(aZ (cl.map λc=>(c.1,k)) q).isSome=true:=dN.mpr ⟨(q,k),a8.mpr ⟨_,hv,rfl⟩,rfl⟩
  obtain⟨u,e⟩:=vo.mp hs
  obtain⟨c,hc,e2⟩:=a8.mp (oV e)
  rw[e,<-(Prod.mk.inj e2).2]
theorem aQ.next{cl:CL}(I:aQ zs sg ow)(hs:Ab sh cl)(h0:fW ow cl=[]):aQ (zs++[(sh,cl)]) (sg++cl) (ow++cl.map λc=>(c.1,(zs.length:Int))):=by
 have fr:∀q v,(q,v)∈cl->aZ ow q=none:=by
  intro q v hv
  cases e:aZ ow q with
  |none=>rfl
  |some k=>
   have:k∈fW ow cl:=AA.mpr ⟨_,hv,e⟩
   rw[h0] at this
   cases this
 have HZ:∀q v,(q,v)∈cl->aZ sg q=none:=by
  intro q v hv
  cases e:aZ sg q with
  |none=>rfl
  |some k=>
   obtain⟨i,z,hi,hz⟩:=(I.sgO _ _).mp e
   have:=(I.owO q i).mpr ⟨i,z,k,hi,hz,rfl⟩
   rw[fr q v hv] at this
   cases this
 have ix:∀(i:Nat)(z:Br.Shape×CL),(zs++[(sh,cl)])[i]?=some z↔zs[i]?=some z\/(i=zs.length/\z=(sh,cl)):=by
  intro i z
  by_cases hi:i<zs.length
  ·rw[JH hi]
   exact⟨λh=>.inl h,λh=>h.elim id λh=>by omega⟩
  ·rw[JG (by omega)]
   constructor
   ·intro h
    have hl:=(bp.mp h).1
    rw[AE] at hl
    have:i=zs.length:=by omega
    subst this
    rw[CW] at h
    exact .inr ⟨rfl,(Option.some.inj h).symm⟩
   ·rintro(h|⟨rfl,rfl⟩)
    ·exact absurd (bp.mp h).1 hi
    ·rw[CW];rfl
 refine⟨λz hz=>?_,λq v=>?_,λq k=>?_⟩
 ·rcases je.mp hz with hz|hz
  ·exact I.rep z hz
  ·rw[gq] at hz;subst hz;exact hs
 ·rw[zR]
  constructor
  ·intro h
   cases e:aZ sg q with
   |some u=>
    rw[e] at h
    have:u=v:=Option.some.inj h
    subst this
    obtain⟨i,z,hi,hz⟩:=(I.sgO _ _).mp e
    exact⟨i,z,(ix _ _).mpr (.inl hi),hz⟩
   |none=>
    rw[e] at h
    exact⟨_,_,(ix _ _).mpr (.inr ⟨rfl,rfl⟩),oV h⟩
  ·rintro⟨i,z,hi,hz⟩
   rcases(ix _ _).mp hi with hi|⟨rfl,rfl⟩
   ·rw[(I.sgO q v).mpr ⟨i,z,hi,hz⟩];rfl
   ·rw[HZ q v hz,(Os hs.nd).mpr hz];rfl
 ·rw[zR]
  constructor
  ·intro h
   cases e:aZ ow q with
   |some u=>
    rw[e] at h
    have:u=k:=Option.some.inj h
    subst this
    obtain⟨i,z,v,hi,hz,e2⟩:=(I.owO _ _).mp e
    exact⟨i,z,v,(ix _ _).mpr (.inl hi),hz,e2⟩
   |none=>
    rw[e] at h
    obtain⟨rfl,v,hv⟩:=Ha.mp h
    exact⟨_,_,v,(ix _ _).mpr (.inr ⟨rfl,rfl⟩),hv,rfl⟩
  ·rintro⟨i,z,v,hi,hz,rfl⟩
   rcases(ix _ _).mp hi with hi|⟨rfl,rfl⟩
   ·rw[(I.owO q i).mpr ⟨i,z,v,hi,hz,rfl⟩];rfl
   ·rw[fr q v hz,Ha.mpr ⟨rfl,v,hz⟩];rfl
def wrI(w:Option (Nat×Nat×Nat)):List Int:=w.elim [] λw=>[(w.1:Int),(w.2.1:Int),(w.2.2:Int)]
theorem qM(ok:∀pr∈U,dC pr){x:List Nat}(hx:eC x 0<U.length):Ab (Br.Line.shape (U.map bQ) (eI x)) (cX U x)/\(Br.Line.shape (U.map bQ) (eI x)).inRoom= !jP (tX U x) (eC x 2) (eC x 3) (eC x 4):=by
 have e1:U[eC x 0]?=some U[eC x 0]:=ax hx
 have e2:Br.Line.of (U.map bQ) (eI x)=(bQ U[eC x 0]).turned (eC x 5):=by
  unfold Br.Line.of
  show ((U.map bQ).getD (eC x 0) Br.nothing).turned (eC x 5)=_
  rw[cx,bg,e1]
  rfl
 have r0:=oX (Fl (ok _ (ui hx))) (eC x 5)
 have et:tX U x=eW (iY U[eC x 0]) (eC x 5):=by
  unfold tX
  rw[e1]
  rfl
 constructor
 ·unfold Br.Line.shape cX
  rw[e2,et]
  exact aAl r0 (eC x 2) (eC x 3) (eC x 4) _ _ λs=>rfl
 ·unfold Br.Line.shape
  rw[e2,et]
  unfold jP
  rw[r0.w,r0.d,r0.h]
  show (decide (eC x 2+((bQ U[eC x 0]).turned (eC x 5)).wide<=64) && (decide (eC x 3+((bQ U[eC x 0]).turned (eC x 5)).deep<=64) && decide (eC x 4+((bQ U[eC x 0]).turned (eC x 5)).high<=96)))=_
  rw[ge]
  simp only[cn,b7,cq,PX,lx]
  omega
theorem xC(ok:∀pr∈U,dC pr):∀{ls:List (List Nat)} {zs:List (Br.Shape×CL)} {sg ow:CL},(∀x∈ls,eC x 0<U.length)->aQ zs sg ow->
  cE U zs.length sg ow ls=wrI (Br.wrongLines zs.length (zs.map (·.1)) (ls.map λx=>Br.Line.shape (U.map bQ) (eI x)))
 |[],zs,sg,ow,_,_=>rfl
 |x::r,zs,sg,ow,hx,I=>by
  obtain⟨sr,tp⟩:=qM ok (hx x bf)
  rw[cE,bn,Br.wrongLines]
  generalize Br.Line.shape (U.map bQ) (eI x)=sh at sr tp
  have im:=Nm (f:=λi=>Br.clash i sh) (λk=>Yk I sr k)
  have ib:=Nm (f:=λi=>Br.stuck i sh||Br.stuck sh i) (λk=>aAr I sr k)
  cases hl:jP (tX U x) (eC x 2) (eC x 3) (eC x 4) with
  |true=>
   rw[hl] at tp
   rw[af rfl]
   have:Br.wrongLine (zs.map (·.1)) zs.length sh=some (1,zs.length):=by
    unfold Br.wrongLine
    rw[af (show sh.inRoom=false from tp)]
   rw[this]
   rfl
  |false=>
   rw[hl] at tp
   rw[ae (by decide)]
   have tp:¬sh.inRoom=false:=by rw[tp];decide
   by_cases h1:fW ow (cX U x)=[]
   ·rw[ae (by rw[h1];decide)]
    have f1:=im.1 h1
    by_cases h2:cW (cX U x) sg ow=[]
    ·rw[ae (by rw[h2];decide)]
     have f2:=ib.1 h2
     have hw:Br.wrongLine (zs.map (·.1)) zs.length sh=none:=by
      unfold Br.wrongLine
      rw[ae tp,f1]
      show (match List.findIdx? _ _ with|some i=>some (3,i)|none=>none)=none
      rw[f2]
     rw[hw]
     have ih:=xC ok (ls:=r) (zs:=zs++[(sh,cX U x)]) (λy hy=>hx y (az _ hy)) (I.next sr h1)
     rw[c8,AE,c9] at ih
     exact ih
    ·rw[af (PY.mpr h2)]
     obtain⟨i,f2,e⟩:=ib.2 h2
     have hw:Br.wrongLine (zs.map (·.1)) zs.length sh=some (3,i):=by
      unfold Br.wrongLine
      rw[ae tp,f1]
      show (match List.findIdx? _ _ with|some i=>some (3,i)|none=>none)=some (3,i)
      rw[f2]
     rw[hw,e]
     rfl
   ·rw[af (PY.mpr h1)]
    obtain⟨i,f1,e⟩:=im.2 h1
    have hw:Br.wrongLine (zs.map (·.1)) zs.length sh=some (2,i):=by
     unfold Br.wrongLine
     rw[ae tp,f1]
    rw[hw,e]
    rfl
theorem uH(ok:∀pr∈U,dC pr)(hx:∀x∈ls,eC x 0<U.length){d:Br.Build}(hd:d.lines=ls.map eI):cE U 0 [] [] ls=wrI (d.wrong (U.map bQ)):=by
 have I0:aQ [] [] []:=⟨λz hz=>absurd hz dh,λq v=>(by simp[aZ]),λq k=>(by simp[aZ])⟩
 have:=xC ok (ls:=ls) hx I0
 unfold Br.Build.wrong Br.Build.shapes
 rw[hd,de]
 exact this
def Et(n:Nat)(x:List Nat):Prop:=x.length=6/\eC x 0<n
theorem Su{q:List Nat×Nat}(h:eT aj l p=.ok q):Et aj.length q.1:=by
 unfold eT at h
 obtain⟨p1,_,h⟩:=aM h
 obtain⟨n,en,h⟩:=aM h
 obtain⟨r,er,h⟩:=aM h
 obtain⟨_,_,h⟩:=aM h
 cases h
 refine⟨?_,?_⟩
 ·rw[bw,yK (r:=r) er]
  rfl
 ·show n.1<aj.length
  unfold sR at en
  split at en
  ·rename_i hm
   cases en
   exact O4 ⟨_,hm,by simp⟩
  ·cases en
theorem By:∀{n p:Nat} {q:List (List Nat)×Nat},cJ aj l n p=.ok q->∀x∈q.1,Et aj.length x
 |0,p,q,h=>by cases h;intro x hx;cases hx
 |n+1,p,q,h=>by
  rw[cJ] at h
  split at h
  ·cases h;intro x hx;cases hx
  ·obtain⟨q1,e1,h⟩:=aM h
   obtain⟨q2,e2,rfl⟩:=fV h
   intro x hx
   rcases ao.mp hx with rfl|hx
   ·exact Su e1
   ·exact By e2 x hx
theorem Ri{b:List Int×List (List Nat)}(h:dP aj l=.ok b):∀x∈b.2,Et aj.length x:=by
 unfold dP at h
 obtain⟨_,_,h⟩:=aM h
 obtain⟨_,_,h⟩:=aM h
 obtain⟨_,_,h⟩:=aM h
 obtain⟨r,er,h⟩:=aM h
 split at h
 ·cases h;exact By er
 ·cases h
theorem vN{lc lb:List Int}{U:List aL}{nm:List Int}{ls:List (List Nat)}(h:cN lc lb=.ok U nm ls):∀x∈ls,Et U.length x:=by
 unfold cN at h
 split at h
 ·cases h
 ·split at h
  ·cases h
  ·split at h
   ·split at h
    ·cases h
    ·rename_i e
     cases h
     have:=Ri e
     rw[ai] at this
     exact this
   ·cases h
end Br1
namespace Br1
open PySem PySem.Spec PyProof.Rows L2
def xU(f:Pl->Pl)(cs:CL):CL:=cs.map λc=>(f c.1,c.2)
theorem yO{p:Pl}{s:Int}(nd:(cs.map (·.1)).Nodup)(e:cs[i]?=some (p,s)):∀c∈cs.take i,c.1≠p:=by
 obtain⟨hi,e⟩:=bp.mp e
 have hd:cs.drop i=(p,s)::cs.drop (i+1):=by rw[E7 hi,e]
 have h2:=nd
 rw[<-List.take_append_drop i cs,hd,c9,J6] at h2
 intro c hc
 exact h2.2.2 c.1 (px hc) p (by simp)
theorem Vy(cl:CL)(q:Pl)(v:Int):aJ cl++[(eJ q.1 q.2.1 q.2.2,V.int v)]=aJ (cl++[(q,v)]):=by
 unfold aJ
 rw[c9]
 rfl
theorem Mf{cl:CL}{q:Pl}{v:Int}(h:aZ cl q=none):jU (aJ cl) (eJ q.1 q.2.1 q.2.2) (V.int v)=aJ (cl++[(q,v)]):=by
 rw[rN _ (by rw[lB,h];rfl),Vy]
theorem Cg{cl:CL}{q:Pl}(h:∀c∈cl,c.1≠q):aZ cl q=none:=by
 cases e:aZ cl q with
 |none=>rfl
 |some v=>
  obtain⟨c,hc,e2⟩:=dN.mp (by rw[e];rfl:(aZ cl q).isSome=true)
  exact absurd e2 (h c hc)
theorem Nr{f:Pl->Pl}(inj:∀a b,f a=f b->a=b){p:Pl}{s:Int}(nd:(cs.map (·.1)).Nodup)(e:cs[i]?=some (p,s)):jU (aJ (xU f (cs.take i))) (eJ (f p).1 (f p).2.1 (f p).2.2) (V.int s)=aJ (xU f (cs.take (i+1))):=by
 rw[Mf]
 ·rw[jg,e]
  unfold xU
  rw[c9]
  rfl
 ·refine Cg λc hc z=>?_
  obtain⟨c0,h0,rfl⟩:=a8.mp hc
  exact yO nd e c0 h0 (inj _ _ z)
theorem Fb(W:Int)(a b:Pl)(e:fQ W a=fQ W b):a=b:=by
 obtain⟨x,y,z⟩:=a
 obtain⟨u,v,w⟩:=b
 unfold fQ at e
 simp only[Prod.mk.injEq] at e ⊢
 omega
theorem Rt(x y z:Int)(p q:Pl)(e:mI x y z p=mI x y z q):p=q:=by
 obtain⟨a,b,c⟩:=p
 obtain⟨u,v,w⟩:=q
 unfold mI at e
 simp only[Prod.mk.injEq] at e ⊢
 omega
theorem aAp{f:Pl->Pl}(inj:∀a b,f a=f b->a=b)(nd:(cs.map (·.1)).Nodup):((xU f cs).map (·.1)).Nodup:=by
 unfold xU
 rw[de]
 have:(cs.map ((·.1)∘λc:Pl×Int=>(f c.1,c.2)))=(cs.map (·.1)).map f:=by rw[de];rfl
 rw[this]
 exact ug _ (λa b h z=>h (inj a b z)) nd
theorem Fp(f:Pl->Pl)(cs:CL):(xU f cs).length=cs.length:=ai _
theorem iC(cs:CL):(aJ cs).length=cs.length:=by unfold aJ;rw[ai]
structure rG(t:TP):Prop where
 nd:(t.cs.map (·.1)).Nodup
 ln:t.cs.length<20000
theorem rG.once{t:TP}(h:rG t):rG (Mq t):=⟨aAp (Fb t.W) h.nd,by show (Ux t.W t.cs).length<20000;unfold Ux;rw[ai];exact h.ln⟩
theorem rG.turns{t:TP}(h:rG t):∀n,rG (eW t n)
 |0=>h
 |n+1=>(rG.turns h n).once
theorem six{x:List Nat}(h:x.length=6):∃a b c d e f,x=[a,b,c,d,e,f]:=by
 match x,h with
 |[a,b,c,d,e,f],_=>exact⟨a,b,c,d,e,f,rfl⟩
theorem Mv{c:Addr}{u:HO}(h:H c=some u)(hd:H d=none){o:HO}(s:SX d (upd (upd H d o) c (.frz od u)) H'):aK H (upd H' c u):=λb ob e=>by
 have nb:=aD e hd
 by_cases hb:b=c
 ·rw[hb] at e ⊢
  rw[aB,<-e,h]
 ·rw[aC hb]
  exact s b ob (by rw[aC hb,aC nb];exact e) nb
variable{K:Frag}
def Ks(CP:Addr)(H:Hp)(b nm:Addr)(g:Int)(t:TP):Prop:=zZ CP H b nm t.W t.D t.Hh g t.cs
def Ke(CP:Addr):Sp:=λvs H Q _=>∃(b nm:Addr)(g:Int)(t:TP),vs=[.ref b]/\Ks CP H b nm g t/\rG t/\∀(H':Hp)(b':Addr),aK H H'->Ks CP H' b' nm g (Mq t)->Q (.ref b') H'
theorem vR:aN ["part","cells","place","sign"] ["part"] (aG Ng):=⟨rfl,rfl,rfl,by decide+kernel,rfl,by decide+kernel,by decide+kernel⟩
theorem Yt(F:eZ K "turned_once" "turned_once" Ng f fd)(T':Rh K CP)(PM:PtM P w K mg base CP):bO P w K mg base bN 3 f fd ["part"] (Ke CP):=by
 obtain⟨fp,fdp,MP,GP,bP⟩:=PM.ex
 refine F.ok vR (λvs H Q E h=>?_) (λak A outer s H vs Q E hr h=>?_)
 ·obtain⟨b,nm,g,t,rfl,_⟩:=h
  rfl
 ·obtain⟨b,nm,g,⟨W,D,Hh,cs⟩,rfl,⟨dx,c,hb,hc⟩,⟨nd,ln⟩,k⟩:=h
  have hb:H b=some (.ins CP dx (Sf nm W D Hh g c)):=hb
  have hc:H c=some (.dT (aJ cs)):=hc
  have ln:cs.length<20000:=ln
  have a9:=hr.mono (j:=2) (by decide)
  have hu:=iQ hr
  refine⟨_,aF (bF (i:=1) vR.nd rfl (Or.inl rfl) nH)
   (aF (lT (eG jy rfl (kY (aU (pv 0) rfl)) (nG rfl (dI (bE (i:=2) vR.nd rfl (Or.inl rfl)) (dI (bE (i:=3) vR.nd rfl (Or.inl rfl)) jO)))
    (aH (lF hu (pv 1) (dO (aA (bH aW (pv 2) aI (λ_ _=>rfl)) (aA (bY eE (bY eE (aU (pv 0) rfl) aI) (bH aW (pv 2) aI (λ_ _=>rfl))) (aA (bH aW (pv 2) aI (λ_ _=>rfl)) aE)))) (pv 3) rfl))))
   (aH (aR (qQ MP GP a9 (by rfl) PM.mg bP .nil aX (aA (aU (pv 0) rfl) (aA (aU (pv 0) rfl) (aA (aU (pv 0) rfl) (aA (aU (pv 0) rfl) (aA (aU (pv 0) rfl) (aA (pv 1) aE)))))))))),?_⟩
  intro d hd
  have S0:aK H (upd H d (.dT [])):=aK.new hd
  have UP:b≠d:=aD hb hd
  have tq:c≠d:=aD hc hd
  have xg:b≠c:=λz=>by rw[z,hc] at hb;cases hb
  have bu:=bA
  refine⟨c,_,S0 _ _ hc,trivial,λod=>?_⟩
  have ic:upd (upd H d (.dT [])) c (.frz od (.dT (aJ cs))) c=some (.frz od (.dT (aJ cs))):=aB
  have qr:upd (upd H d (.dT [])) c (.frz od (.dT (aJ cs))) b=some (.ins CP dx (Sf nm W D Hh g c)):=by rw[aC xg];exact S0 _ _ hb
  have n8:upd (upd H d (.dT [])) c (.frz od (.dT (aJ cs))) d=some (.dT []):=by rw[aC (au tq),aB]
  refine⟨_,rfl,b,CP,dx,_,_,rfl,qr,T'.cl,T'.n6,rfl,c,od,_,rfl,ic,?_⟩
  refine iL (λi σ H'=>∃v2 v3,σ=[some (.ref b),some (.ref d),v2,v3]/\SX d (upd (upd H d (.dT [])) c (.frz od (.dT (aJ cs)))) H'/\H' d=some (.dT (aJ (xU (fQ W) (cs.take i))))) ⟨none,none,rfl,SX.refl _ _,n8⟩ ?_ ?_ ?_
  ·rintro i σ H1 hi ⟨v2,v3,rfl,S1,_⟩
   exact S1 _ _ ic tq
  ·rintro i σ H1 T k v q e ⟨v2,v3,rfl,S1,n0⟩ hT hq
   obtain⟨p,sg,e1,rfl,rfl⟩:=iJ e
   have ST:=aK.new (o:=.tup [.ref q,.int sg]) hT
   refine⟨T,_,rfl,cG.of aB,rfl,_,_,rfl,_,_,rfl,rfl,?_⟩
   have f9:=ST _ _ hq
   have j0:=ST _ _ (S1 _ _ qr UP)
   have ja:=ST _ _ n0
   generalize upd H1 T (.tup [.ref q,.int sg])=H2 at ST f9 j0 ja
   refine⟨_,rfl,_,rfl,_,rfl,q,_,_,_,rfl,rfl,cG.of f9,rfl,_,rfl,b,CP,dx,_,_,rfl,j0,T'.cl,T'.n2,rfl,_,_,rfl,rfl,_,rfl,q,_,_,_,rfl,rfl,cG.of f9,rfl,_,_,rfl,rfl,_,rfl,q,_,_,_,rfl,rfl,cG.of f9,rfl,(by show 3<=sizeLine;decide),λt ht=>?_⟩
   have SQ:=aK.new (o:=.tup [.int p.2.1,.int (W - 1 - p.1),.int p.2.2]) ht
   have hi:i<cs.length:=(bp.mp e1).1
   refine⟨d,_,rfl,tE.tt (k:=eJ p.2.1 (W - 1 - p.1) p.2.2) (SQ _ _ ja) aB (by rw[iC,Fp,gf];omega),?_⟩
   refine⟨_,_,rfl,λb' o e' n'=>?_,?_⟩
   ·rw[aC n']
    exact SQ _ _ (ST _ _ (S1 _ _ e' n'))
   ·rw[aB]
    exact congrArg (λz=>some (HO.dT z)) (Nr (Fb W) nd e1)
  ·rintro σ H1 ⟨v2,v3,rfl,S1,n0⟩
   rw[iC,jo] at n0
   refine⟨S1 _ _ ic tq,?_⟩
   have S2:=Mv hc hd S1
   have ja:upd H1 c (.dT (aJ cs)) d=some (.dT (aJ (xU (fQ W) cs))):=by rw[aC (au tq)];exact n0
   generalize upd H1 c (.dT (aJ cs))=H2 at S2 ja
   have j0:=S2 _ _ hb
   refine⟨_,rfl,b,CP,dx,_,_,rfl,j0,T'.cl,T'.n1,rfl,_,rfl,b,CP,dx,_,_,rfl,j0,T'.cl,T'.n3,rfl,_,rfl,b,CP,dx,_,_,rfl,j0,T'.cl,T'.n2,rfl,_,rfl,b,CP,dx,_,_,rfl,j0,T'.cl,T'.n4,rfl,_,rfl,b,CP,dx,_,_,rfl,j0,T'.cl,T'.n5,rfl,_,rfl,?_⟩
   intro b' db l9 gi aw
   refine⟨b',db,nm,d,D,W,Hh,g,rfl,aB,λH3 w6 s3=>⟨rfl,?_⟩⟩
   have w8:∀y o,H2 y=some o->H3 y=some o:=λy o e=>s3 y o (by rw[aC (aD e l9),aC (aD e gi)];exact e) (aD e l9)
   exact k H3 b' (λy o e=>w8 y o (S2 y o e)) ⟨db,d,w6,w8 _ _ ja⟩
def mS(CP:Addr):Sp:=λvs H Q _=>∃(b nm:Addr)(g:Int)(t:TP)(n:Nat),vs=[.ref b,.int (n:Int)]/\n<=100/\Ks CP H b nm g t/\rG t/\∀(H':Hp)(b':Addr),aK H H'->Ks CP H' b' nm g (eW t n)->Q (.ref b') H'
theorem tK:aN ["part","turns","turn"] ["part","turns"] (aG vU):=⟨rfl,rfl,rfl,by decide+kernel,rfl,by decide+kernel,by decide+kernel⟩
theorem Pi(F:eZ K "turned_part" "turned_part" vU f fd)(o4:mg "range"=none)(L1:dE P w K mg base "turned_once" bN 3 ["part"] (Ke CP)):bO P w K mg base bN 4 f fd ["part","turns"] (mS CP):=by
 obtain⟨g1,gc,G1,b1,k1,h1⟩:=L1.ex
 refine F.ok tK (λvs H Q E h=>?_) (λak A outer s H vs Q E hr h=>?_)
 ·obtain⟨b,nm,g,t,n,rfl,_⟩:=h
  rfl
 ·obtain⟨b,nm,g,t,n,rfl,hn,ht,tok,k⟩:=h
  refine⟨_,aF (eG jy rfl (iM rfl o4 (aA (pv 1) aE)) (bE (i:=2) tK.nd rfl (Or.inl rfl))
    (aH (bF (i:=0) tK.nd rfl (Or.inl rfl) (aP G1 hr (by rfl) h1 k1 b1 .nil aX (aA (pv 0) aE)))))
   (aH (aR (pv 0))),?_⟩
  refine⟨_,rfl,_,rfl,by omega,by omega,lN (n:=n) (λi σ H'=>∃b' v2,σ=[some (.ref b'),some (.int (n:Int)),v2]/\aK H H'/\Ks CP H' b' nm g (eW t i)) ⟨b,none,rfl,aK.id' _,ht⟩ ?_ ?_⟩
  ·rintro i σ H1 hi ⟨b',v2,rfl,S1,h1⟩
   exact⟨_,rfl,b',nm,g,eW t i,rfl,h1,tok.turns i,λH2 b2 S2 h2=>⟨b2,_,rfl,S1.trans S2,h2⟩⟩
  ·rintro σ H1 ⟨b',v2,rfl,S1,h1⟩
   exact⟨_,rfl,k H1 b' S1 h1⟩
end Br1
namespace L2
open PySem PySem.Spec PyProof.Rows
def vH(D:fX)(d:Addr)(o:Obj)(u:HO):fX:=⟨λah H'=>H' d=some (.frz o u)/\D.nx ah (upd H' d u),λv H'=>H' d=some (.frz o u)/\D.rt v (upd H' d u),λah H'=>H' d=some (.frz o u)/\D.bk ah (upd H' d u),λah H'=>H' d=some (.frz o u)/\D.ct ah (upd H' d u)⟩
def aFd(td:TE)(g:TG)(tb:TS):TS:=λD σ H=>td σ H λx H1=>∃d aJ,x=.ref d/\H1 d=some (.dT aJ)/\∀o,∃W:Nat->Nat->St->Hp->Prop,(∃m,W 0 m σ (upd H1 d (.frz o (.dT aJ))))/\∀i m σ H,W i m σ H->
 ((Ln d o aJ).stop i H/\(vH D d o (.dT aJ)).nx σ H)\/((Ln d o aJ).go i H/\∃N:St->Hp->Prop,(∀ah H',N ah H'->∃m',m'<m/\W (i+1) m' ah H')/\∀x H',(Ln d o aJ).yld i H x H'->g x σ H' λa6 H2=>tb {vH D d o (.dT aJ) with nx:=N,ct:=N,bk:=(vH D d o (.dT aJ)).nx} a6 H2)
def aD6(X:Cx)(D:fX)(σ:St)(g:TG)(tb:TS):It->Hp->Prop:=λJ H'=>∃d aJ o,J=Ln d o aJ/\(∀o' u',X.H_0 d≠some (.frz o' u'))/\
   ∃W:Nat->Nat->St->Hp->Prop,(∃m,W 0 m σ H')/\∀i m σ H,W i m σ H->((Ln d o aJ).stop i H/\(vH D d o (.dT aJ)).nx σ H)\/((Ln d o aJ).go i H/\∃N:St->Hp->Prop,(∀ah H',N ah H'->∃m',m'<m/\W (i+1) m' ah H')/\∀x H',(Ln d o aJ).yld i H x H'->g x σ H' λa6 H2=>tb {vH D d o (.dT aJ) with nx:=N,ct:=N,bk:=(vH D d o (.dT aJ)).nx} a6 H2)
theorem Zi{kk:Nat}(hp:PassesOwn (model X.prog X.w) X.A X.env X.xe)(hc:X.calm=true)(he:PE X e td)(hg:PG X (.Tuple js kk ip) g)(hb:Ar X body tb)
  (r9:attributeBase e "items" X.env (eval e X.env)=eval e X.env:=by rfl) (wp:(gr.endLine==f6.line)=true:=by rfl) (hs:∀x,foldedSetIterable (.Call (.Attribute e "items" gr) [] [] f6) X.env x=pure x:=by intro _;rfl):
  PS X (.For (.Tuple js kk ip) (.Call (.Attribute e "items" gr) [] [] f6) body [] pos) (aFd td g tb):=by
 intro aa s σ H D I h
 have hi:wpAny (model X.prog X.w) X.A (eval (.Call (.Attribute e "items" gr) [] [] f6) X.env) (λv s1=>wpAny (model X.prog X.w) X.A (pyIter v) (PIE X aa σ (.Tuple js kk ip) (aD6 X D σ g tb)) X.xe s1) X.xe s:=by
  refine wpAny_Call_method (T:="dict") (id:="dict.items") r9 rfl wp F.plainAttrs_dict FE F.type_dict_items (cV (he aa s σ H _ I h) λu s1 ⟨x,H0,I0,rx,d,aJ,ex,MV,q⟩=>?_)
  subst ex
  obtain rfl:u=Value.ref d:=rx
  have hn:=I0.nofrz MV trivial
  obtain⟨o,I1⟩:=I0.lock MV trivial
  have hd:upd H0 d (.frz o (.dT aJ)) d=some (.frz o (.dT aJ)):=aB
  obtain⟨hs,f7,hx,es,ep,b9,hsz,qg⟩:=I1.frzT2 hd
  have jz:s1.TypeIs (.ref d) "dict":=⟨o,f7,hx.1⟩
  refine⟨jz,λb q=>by cases q;exact⟨o,f7,hx.2.1⟩,?_⟩
  have I2:aQ X aa σ (upd H0 d (.frz o (.dT aJ))) {s1 with heap:=s1.heap.push {cls:=.type "dict_items",data:=.fields #[.ref d]}}:=I1.kept (t':=s1.toks) λb ob q=>bh _ q
  have fin:wpAny (model X.prog X.w) X.A (pyIter (.ref s1.heap.objs.size)) (PIE X aa σ (.Tuple js kk ip) (aD6 X D σ g tb)) X.xe {s1 with heap:=s1.heap.push {cls:=.type "dict_items",data:=.fields #[.ref d]}}:=
   Fv (d:=d) (n:=aJ.length) ⟨_,cb _ rfl,rfl,rfl⟩ (bh _ f7) b9 hsz (sX (tk:=s1.toks) I2 _ (uK _ b9) ⟨.none,.none,cb _ rfl⟩ ⟨d,aJ,o,rfl,hn,q o⟩)
  show wpAny _ _ (callWith f6 (.builtin "dict.items") [.ref d] [] []) _ X.xe s1
  exact method_meetsIn FE F.entry_dict_items rfl (PySem.evalArgs_none ⟨rfl,jz,F.args_dict_items_1 _,_,Bb hs,jz,fin⟩)
 refine wpAny_For (cV hi λv s1 h1=>cV h1 λC6 s2 h2=>?_) hs
 obtain⟨it,fp,tn,J,H2,e,I2,T,y6,f2,d,aJ,o,rfl,hn,W,⟨m0,w0⟩,turn⟩:=h2
 subst e
 have stat:∀{H':Hp},(∀b∈fp,H' b=none)->∀b∈fp,iV X aa H' b:=λhn b hb=>⟨hn b hb,(f2 b hb).2⟩
 refine codeAny_forLoop_any (λn s'=>∃i ah H',aQ X aa ah H' s'/\tn i s'.heap/\(∀b∈fp,H' b=none)/\W i n ah H') ?_ m0 ⟨0,σ,H2,I2,y6,λb hb=>(f2 b hb).1,w0⟩
 rintro n s3 ⟨i,jp,H3,I3,wk,AV,w3⟩
 rcases turn i n jp H3 w3 with ⟨stop,qn⟩|⟨go,N,hN,step⟩
 ·refine wpAny_passesOwn hp (cV (T.done X rfl rfl rfl hc i aa s3 jp H3 X.xe I3 (stat AV) wk stop) λr s4 ⟨hr,I4⟩=>?_)
  subst hr
  exact xz ⟨jp,_,I4.unlock qn.1 hn,qn.2⟩
 ·refine wpAny_passesOwn hp (cV (T.item X rfl rfl rfl hc i aa s3 jp H3 X.xe I3 (stat AV) wk go) λr s4 ⟨u,hr,h4⟩=>?_)
  subst hr
  refine wpAny_passesOwn hp (cV h4 λ_ s5 ⟨x,H5,I5,r5,y5,qc,FZ⟩=>?_)
  have F0:=I5.pinned (stat FZ) (T.obj _ _ qc)
  refine wpAny_passesOwn hp (cV (hg _ s5 jp H5 x u _ F0 r5 (step x H5 y5)) λ_ s6 ⟨C7,H6,I6,q6⟩=>?_)
  refine wpAny_passesOwn hp (cV (hb _ s6 C7 H6 _ I6 q6) λf s7 q7=>?_)
  have again:∀{gg:St}{H7:Hp},aQ X (aa++tG fp s5.heap) gg H7 s7->N gg H7->∃m,m<n/\∃i ah H',aQ X aa ah H' s7/\tn i s7.heap/\(∀b∈fp,H' b=none)/\W i m ah H':=λ{gg H7} I7 n7=>by
   obtain⟨m',hm,w7⟩:=hN gg H7 n7
   refine⟨m',hm,i+1,gg,H7,I7.unpinned,T.keep _ _ _ qc λb hb o e=>(I7.pin (b,o) (gd _ (gd _ (iX hb e)))).1,λb hb=>?_,w7⟩
   obtain⟨o,e,d⟩:=T.obj _ _ qc b hb
   exact(I7.pin (b,o) (gd _ (gd _ (iX hb e)))).2.1
  cases f with
  |next=>obtain⟨gg,H7,I7,n7⟩:=q7;exact again I7 n7
  |cont=>obtain⟨gg,H7,I7,n7⟩:=q7;exact again I7 n7
  |brk=>obtain⟨gg,H7,I7,q7⟩:=q7;exact⟨gg,_,I7.unpinned.unlock q7.1 hn,q7.2⟩
  |ret v=>obtain⟨x7,gg,H7,I7,r7,q7⟩:=q7;exact⟨x7,gg,_,I7.unpinned.unlock q7.1 hn,r7,q7.2⟩
end L2
namespace Br1
section
open Classical
end
theorem Oq{p:Br.Part}(ok:zW p)(f:Br.Place->Bool):(p.such f).Nodup:=by
 unfold Br.Part.such
 have sl:List.Sublist (((p.spots.zip p.places).filter λ(s:kU×Br.Place)=>f s.2).map λ(s:kU×Br.Place)=>s.1) ((p.spots.zip p.places).map Prod.fst):=PF _ PJ
 refine sl.nodup ?_
 rw[PK (by rw[rT ok.w ok.d,ai,AO,ok.l];exact ap _),rT ok.w ok.d]
 refine ug _ ?_ PL
 intro a b h z
 have e1:=lX (w:=p.wide) (d:=p.deep) (i:=a) rfl
 have e2:=lX (w:=p.wide) (d:=p.deep) (i:=b) (x:=(fH p.wide p.deep a).1) (y:=(fH p.wide p.deep a).2.1) (z:=(fH p.wide p.deep a).2.2) z.symm
 exact h (e1.trans e2.symm)
structure SNd(sh:Br.Shape):Prop where
 c:sh.cells.Nodup
 s:sh.studs.Nodup
theorem aC5{p:Br.Part}(ok:zW p)(l:Br.Line)(im:Bool):SNd ⟨(l.x,l.y,l.z),(p.wide,p.deep,p.high),im,p.cells.map l.put,p.studs.map l.put,p.tubes.map l.put⟩:=by
 have inj:∀a b:kU,l.put a=l.put b->a=b:=by
  rintro⟨a,b,c⟩ ⟨u,v,w⟩ e
  unfold Br.Line.put at e
  simp only[Prod.mk.injEq] at e ⊢
  omega
 exact⟨ug _ (λa b h z=>h (inj a b z)) (Oq ok _),ug _ (λa b h z=>h (inj a b z)) (Oq ok _)⟩
abbrev ZS:=List (Br.Shape×CL)
def sgZ(zs:ZS):CL:=zs.flatMap (·.2)
def Ej:Nat->List CL->CL
 |_,[]=>[]
 |j,c::r=>(c.map λx=>(x.1,(j:Int)))++Ej (j+1) r
def Yd(zs:ZS):CL:=Ej 0 (zs.map (·.2))
theorem On:∀(j:Nat)(a b:List CL),Ej j (a++b)=Ej j a++Ej (j+a.length) b
 |j,[],b=>rfl
 |j,c::r,b=>by
  show _++Ej (j+1) (r++b)=(_++Ej (j+1) r)++Ej (j+(r.length+1)) b
  rw[On (j+1) r b,rg,show j+1+r.length=j+(r.length+1) by omega]
theorem zQ(zs:ZS)(z:Br.Shape×CL):Yd (zs++[z])=Yd zs++z.2.map λc=>(c.1,(zs.length:Int)):=by
 unfold Yd
 rw[c9,On,ai,oo]
 show _++(_++[])=_
 rw[ie]
theorem wW(zs:ZS)(z:Br.Shape×CL):sgZ (zs++[z])=sgZ zs++z.2:=by
 unfold sgZ
 rw[FM]
 simp
structure Kp(zs:ZS):Prop where
 inv:aQ zs (sgZ zs) (Yd zs)
 snd:∀z∈zs,SNd z.1
def wU(U:List aL)(ls:List (List Nat)):ZS:=ls.map λx=>(Br.Line.shape (U.map bQ) (eI x),cX U x)
theorem Wn(ok:∀pr∈U,dC pr){x:List Nat}(hx:eC x 0<U.length):SNd (Br.Line.shape (U.map bQ) (eI x)):=by
 have e1:U[eC x 0]?=some U[eC x 0]:=ax hx
 have e2:Br.Line.of (U.map bQ) (eI x)=(bQ U[eC x 0]).turned (eC x 5):=by
  unfold Br.Line.of
  show ((U.map bQ).getD (eC x 0) Br.nothing).turned (eC x 5)=_
  rw[cx,bg,e1]
  rfl
 have r0:=oX (Fl (ok _ (ui hx))) (eC x 5)
 unfold Br.Line.shape
 rw[e2]
 exact aC5 r0.sh _ _
theorem uW(ok:∀pr∈U,dC pr):∀{ls:List (List Nat)} {zs:ZS},(∀x∈ls,eC x 0<U.length)->Kp zs->cE U zs.length (sgZ zs) (Yd zs) ls=[]->Kp (zs++wU U ls)
 |[],zs,_,R,_=>by
  show Kp (zs++[])
  rw[ie]
  exact R
 |x::r,zs,hx,R,h=>by
  obtain⟨sr,_⟩:=qM ok (hx x bf)
  have sn:=Wn ok (hx x bf)
  rw[cE] at h
  split at h
  ·cases h
  ·split at h
   ·cases h
   ·rename_i h1
    split at h
    ·cases h
    ·have h0:fW (Yd zs) (cX U x)=[]:=yn (by omega)
     have R2:Kp (zs++[(Br.Line.shape (U.map bQ) (eI x),cX U x)]):=by
      refine⟨?_,λz hz=>?_⟩
      ·rw[wW,zQ]
       exact R.inv.next sr h0
      ·rcases je.mp hz with hz|hz
       ·exact R.snd z hz
       ·rw[gq] at hz
        subst hz
        exact sn
     have:=uW ok (ls:=r) (zs:=zs++[(Br.Line.shape (U.map bQ) (eI x),cX U x)]) (λy hy=>hx y (az _ hy)) R2 (by rw[wW,zQ,c8,AE];exact h)
     rw[rg] at this
     exact this
theorem Kn(ok:∀pr∈U,dC pr)(hx:∀x∈ls,eC x 0<U.length)(h:cE U 0 [] [] ls=[]):Kp (wU U ls):=by
 have I0:Kp []:=⟨⟨λz hz=>absurd hz dh,λq v=>(by simp[aZ,sgZ]),λq k=>(by simp[aZ,Yd,Ej])⟩,λz hz=>absurd hz dh⟩
 exact uW ok hx I0 h
noncomputable def nB(x:List Nat):List Int:=x.map λ(n:Nat)=>(n:Int)
noncomputable def jR(y:List Int):List Nat:=y.map Int.toNat
noncomputable def iN(y:List Int)(k:Nat):Int:=y.getD k 0
noncomputable def tsz(U:List aL)(p r:Nat):Int×Int×Int:=match U[p]? with
 |some pr=>if r % 2=1 then ((pr.d:Int),(pr.w:Int),(pr.h:Int)) else ((pr.w:Int),(pr.d:Int),(pr.h:Int))
 |none=>(0,0,0)
noncomputable def Fi(x y z:Int):Bool:= !(decide (0<=x) && decide (x<64) && (decide (0<=y) && decide (y<64)) && (decide (0<=z) && decide (z<96)))
noncomputable def oS(U:List aL)(p r:Nat)(x y z:Int):Bool:=Fi x y z||Fi (x+(tsz U p r).1 - 1) (y+(tsz U p r).2.1 - 1) (z+(tsz U p r).2.2 - 1)
theorem Cn(p:Br.Part):∀r:Nat,(p.turned r).high=p.high/\(p.turned r).wide=(if r % 2=1 then p.deep else p.wide)/\(p.turned r).deep=(if r % 2=1 then p.wide else p.deep)
 |0=>⟨rfl,rfl,rfl⟩
 |r+1=>by
  obtain⟨h1,h2,h3⟩:=Cn p r
  show (p.turned r).high=_/\(p.turned r).deep=_/\(p.turned r).wide=_
  rw[h1,h2,h3]
  by_cases h:r % 2=1
  ·rw[af h,af h,ae (show ¬(r+1) % 2=1 by omega),ae (show ¬(r+1) % 2=1 by omega)]
   exact⟨rfl,rfl,rfl⟩
  ·rw[ae h,ae h,af (show (r+1) % 2=1 by omega),af (show (r+1) % 2=1 by omega)]
   exact⟨rfl,rfl,rfl⟩
theorem aBm{l:Br.Line}(h:l.part<U.length):(((l.of (U.map bQ)).wide:Int),((l.of (U.map bQ)).deep:Int),((l.of (U.map bQ)).high:Int))=tsz U l.part l.r:=by
 have e1:U[l.part]?=some U[l.part]:=ax h
 have e2:l.of (U.map bQ)=(bQ U[l.part]).turned l.r:=by
  unfold Br.Line.of
  rw[cx,bg,e1]
  rfl
 obtain⟨h1,h2,h3⟩:=Cn (bQ U[l.part]) l.r
 rw[e2,h1,h2,h3]
 unfold tsz
 rw[e1]
 by_cases hr:l.r % 2=1
 ·rw[af hr,af hr]
  show _=if l.r % 2=1 then _ else _
  rw[af hr]
  rfl
 ·rw[ae hr,ae hr]
  show _=if l.r % 2=1 then _ else _
  rw[ae hr]
  rfl
theorem Lw(ok:∀pr∈U,dC pr){r:Nat}(h:p<U.length):1<=(tsz U p r).1/\1<=(tsz U p r).2.1/\1<=(tsz U p r).2.2:=by
 have e1:U[p]?=some U[p]:=ax h
 have o:=ok _ (ui h)
 have h1:=o.w1
 have h2:=o.d1
 have h3:=o.h1
 unfold tsz
 rw[e1]
 show 1<=(if r % 2=1 then _ else _:Int×Int×Int).1/\1<=(if r % 2=1 then _ else _:Int×Int×Int).2.1/\1<=(if r % 2=1 then _ else _:Int×Int×Int).2.2
 split
 ·show 1<=((U[p].d:Nat):Int)/\1<=((U[p].w:Nat):Int)/\1<=((U[p].h:Nat):Int)
  omega
 ·show 1<=((U[p].w:Nat):Int)/\1<=((U[p].d:Nat):Int)/\1<=((U[p].h:Nat):Int)
  omega
theorem Gi{x y z:Int}:Fi x y z=false↔(0<=x/\x<64)/\(0<=y/\y<64)/\0<=z/\z<96:=by
 unfold Fi
 rw[Bool.not_eq_false']
 simp only[cn,b7,and_assoc]
theorem uP(ok:∀pr∈U,dC pr){r:Nat}(h:p<U.length){x y z:Int}:
  oS U p r x y z=false↔(0<=x/\0<=y/\0<=z/\x+(tsz U p r).1<=64/\y+(tsz U p r).2.1<=64/\z+(tsz U p r).2.2<=96):=by
 have h1:=Lw ok (r:=r) h
 unfold oS
 rw[PX,Gi,Gi]
 omega
theorem Ak(ok:∀pr∈U,dC pr){x:List Nat}(hx:eC x 0<U.length):oS U (eC x 0) (eC x 5) (eC x 2) (eC x 3) (eC x 4)=jP (tX U x) (eC x 2) (eC x 3) (eC x 4):=by
 have hr:=(qM ok hx).2
 have hs:=aBm (U:=U) (l:=eI x) hx
 have hs:((((eI x).of (U.map bQ)).wide:Int),(((eI x).of (U.map bQ)).deep:Int),(((eI x).of (U.map bQ)).high:Int))=tsz U (eC x 0) (eC x 5):=hs
 rw[<-Bool.not_not (jP _ _ _ _),<-hr,ge,cq,<-yc,uP ok hx,<-hs]
 show ¬_↔(decide (eC x 2+((eI x).of (U.map bQ)).wide<=64) && (decide (eC x 3+((eI x).of (U.map bQ)).deep<=64) && decide (eC x 4+((eI x).of (U.map bQ)).high<=96)))=false
 rw[<-rj]
 simp only[cn,b7]
 omega
noncomputable def Vo(dx dy dz:Int)(y:List Int):List Int:=[iN y 0,iN y 1,iN y 2+dx,iN y 3+dy,iN y 4+dz,iN y 5]
noncomputable def Nj(U:List aL)(y:List Int):Bool:=oS U (iN y 0).toNat (iN y 5).toNat (iN y 2) (iN y 3) (iN y 4)
noncomputable def zE(U:List aL)(y:List Int):List Int:=[iN y 0,iN y 1,iN y 3,63 - (iN y 2+(tsz U (iN y 0).toNat (iN y 5).toNat).1 - 1),iN y 4,(iN y 5+1) % 4]
structure zT(U:List aL)(v:List Int):Prop where
 l:v.length=6
 n:∀k∈v,0<=k
 p:(iN v 0).toNat<U.length
 r:iN v 5<4
 x:iN v 2+(tsz U (iN v 0).toNat (iN v 5).toNat).1<=64
 y:iN v 3+(tsz U (iN v 0).toNat (iN v 5).toNat).2.1<=64
 z:iN v 4+(tsz U (iN v 0).toNat (iN v 5).toNat).2.2<=96
theorem jV{y:List Int}(h:y.length=6):∃a b c d e f,y=[a,b,c,d,e,f]:=by
 match y,h with
 |[a,b,c,d,e,f],_=>exact⟨a,b,c,d,e,f,rfl⟩
theorem Wz{r s:Nat}(h:s % 2≠r % 2):tsz U p s=((tsz U p r).2.1,(tsz U p r).1,(tsz U p r).2.2):=by
 unfold tsz
 cases U[p]? with
 |none=>rfl
 |some pr=>
  show (if s % 2=1 then _ else _:Int×Int×Int)=((if r % 2=1 then _ else _:Int×Int×Int).2.1,(if r % 2=1 then _ else _:Int×Int×Int).1,(if r % 2=1 then _ else _:Int×Int×Int).2.2)
  by_cases hr:r % 2=1
  ·rw[af hr,ae (by omega)]
  ·rw[ae hr,af (by omega)]
theorem zJ(ok:∀pr∈U,dC pr){y:List Int}(h:zT U y):zT U (zE U y)/\eI (jR (zE U y))=Br.Line.turn (U.map bQ) (eI (jR y)):=by
 obtain⟨hl,hn,hp,hr,hx,hy,hz⟩:=h
 obtain⟨a,b,c,d,e,f,rfl⟩:=jV hl
 have hp:a.toNat<U.length:=hp
 have hr:f<4:=hr
 have hx:c+(tsz U a.toNat f.toNat).1<=64:=hx
 have hy:d+(tsz U a.toNat f.toNat).2.1<=64:=hy
 have hz:e+(tsz U a.toNat f.toNat).2.2<=96:=hz
 simp only[ao,dh,io,uj,uk] at hn
 obtain⟨n1,n2,n3,n4,n5,n6⟩:=hn
 have hs:=aBm (U:=U) (l:=eI (jR [a,b,c,d,e,f])) hp
 have hs:((((eI (jR [a,b,c,d,e,f])).of (U.map bQ)).wide:Int),(((eI (jR [a,b,c,d,e,f])).of (U.map bQ)).deep:Int),(((eI (jR [a,b,c,d,e,f])).of (U.map bQ)).high:Int))=tsz U a.toNat f.toNat:=hs
 have fl:=Wz (U:=U) (p:=a.toNat) (r:=f.toNat) (s:=((f+1) % 4).toNat) (by omega)
 have DM:=Lw ok (r:=f.toNat) hp
 have hw:(((eI (jR [a,b,c,d,e,f])).of (U.map bQ)).wide:Int)=(tsz U a.toNat f.toNat).1:=congrArg Prod.fst hs
 have et:zE U [a,b,c,d,e,f]=[a,b,d,63 - (c+(tsz U a.toNat f.toNat).1 - 1),e,(f+1) % 4]:=rfl
 rw[et]
 generalize tsz U a.toNat f.toNat=T at *
 refine⟨⟨rfl,?_,hp,?_,?_,?_,?_⟩,?_⟩
 ·simp only[ao,dh,io,uj,uk]
  omega
 ·show (f+1) % 4<4
  omega
 ·show d+(tsz U a.toNat ((f+1) % 4).toNat).1<=64
  rw[fl]
  exact hy
 ·show 63 - (c+T.1 - 1)+(tsz U a.toNat ((f+1) % 4).toNat).2.1<=64
  rw[fl]
  show 63 - (c+T.1 - 1)+T.1<=64
  omega
 ·show e+(tsz U a.toNat ((f+1) % 4).toNat).2.2<=96
  rw[fl]
  exact hz
 ·unfold Br.Line.turn
  show (⟨a.toNat,b.toNat,d.toNat,(63 - (c+T.1 - 1)).toNat,e.toNat,((f+1) % 4).toNat⟩:Br.Line)=⟨a.toNat,b.toNat,d.toNat,64 - c.toNat - ((eI (jR [a,b,c,d,e,f])).of (U.map bQ)).wide,e.toNat,(f.toNat+1) % 4⟩
  have e1:(63 - (c+T.1 - 1)).toNat=64 - c.toNat - ((eI (jR [a,b,c,d,e,f])).of (U.map bQ)).wide:=by
   generalize ((eI (jR [a,b,c,d,e,f])).of (U.map bQ)).wide=W at hw
   omega
  have e2:((f+1) % 4).toNat=(f.toNat+1) % 4:=by omega
  rw[e1,e2]
noncomputable def pY(U:List aL):Nat->List (List Int)->List (List Int)
 |0,ys=>ys
 |n+1,ys=>(pY U n ys).map (zE U)
theorem Ah(ok:∀pr∈U,dC pr){d:Br.Build}(h:∀y∈ys,zT U y)(hd:d.lines=ys.map λy=>eI (jR y)):∀n:Nat,(∀y∈pY U n ys,zT U y)/\(d.turnedOnly (U.map bQ) n).lines=(pY U n ys).map λy=>eI (jR y)
 |0=>⟨h,hd⟩
 |n+1=>by
  obtain⟨h1,h2⟩:=Ah ok h hd n
  refine⟨λy hy=>?_,?_⟩
  ·obtain⟨x,hx,rfl⟩:=a8.mp hy
   exact(zJ ok (h1 x hx)).1
  ·show ((d.turnedOnly (U.map bQ) n).lines).map (Br.Line.turn (U.map bQ))=((pY U n ys).map (zE U)).map _
   rw[h2,de,de]
   exact uh λy hy=>(zJ ok (h1 y hy)).2.symm
structure jY(p:Br.Part):Prop where
 sh:zW p
 x0:∃y z,(p.at_ 0 y z).isCell=true
 x1:∃y z,(p.at_ (p.wide - 1) y z).isCell=true
 y0:∃x z,(p.at_ x 0 z).isCell=true
 y1:∃x z,(p.at_ x (p.deep - 1) z).isCell=true
 z0:∃x y,(p.at_ x y 0).isCell=true
theorem He{p:Br.Part}(sh:zW p)(h:p.tight=true):jY p:=by
 have cm:∀s:kU,s∈p.cells↔(p.at_ s.1 s.2.1 s.2.2).isCell=true:=λs=>nF sh rfl
 unfold Br.Part.tight at h
 simp only[cn,mr,cp] at h
 have hw:=sh.w
 have hd:=sh.d
 obtain⟨⟨s1,m1,e1⟩,⟨s2,m2,e2⟩,⟨s3,m3,e3⟩,⟨s4,m4,e4⟩,⟨s5,m5,e5⟩,_⟩:=h
 refine⟨sh,⟨s1.2.1,s1.2.2,?_⟩,⟨s2.2.1,s2.2.2,?_⟩,⟨s3.1,s3.2.2,?_⟩,⟨s4.1,s4.2.2,?_⟩,⟨s5.1,s5.2.1,?_⟩⟩
 ·rw[<-e1];exact(cm s1).mp m1
 ·rw[show p.wide - 1=s2.1 by omega];exact(cm s2).mp m2
 ·rw[<-e3];exact(cm s3).mp m3
 ·rw[show p.deep - 1=s4.2.1 by omega];exact(cm s4).mp m4
 ·rw[<-e5];exact(cm s5).mp m5
theorem jY.turn{p:Br.Part}(h:jY p):jY p.turn:=by
 obtain⟨sh,⟨y1,z1,c1⟩,⟨y2,z2,c2⟩,⟨x3,z3,c3⟩,⟨x4,z4,c4⟩,⟨x5,y5,c5⟩⟩:=h
 have hw:=sh.w
 have hd:=sh.d
 have back:∀{x y z:Nat},(p.at_ x y z).isCell=true->(p.turn.at_ y (p.wide - 1 - x) z).isCell=true:=by
  intro x y z hc
  have a7:=pO hc
  rw[sC sh a7.2.1 (by omega) a7.2.2,show p.wide - 1 - (p.wide - 1 - x)=x by omega]
  exact hc
 refine⟨⟨sh.d,sh.w,sh.h,zG⟩,⟨_,_,back c3⟩,⟨_,_,back c4⟩,⟨y2,z2,?_⟩,⟨y1,z1,?_⟩,⟨_,_,back c5⟩⟩
 ·have:=back c2
  rwa [CW] at this
 ·have:=back c1
  exact this
theorem jY.turned{p:Br.Part}(h:jY p):∀r,jY (p.turned r)
 |0=>h
 |r+1=>(jY.turned h r).turn
theorem lK:∀{l:List Nat},l≠[]->Br.least l∈l/\∀x∈l,Br.least l<=x
 |[],h=>absurd rfl h
 |[a],_=>⟨bf,λx hx=>by rw[gq] at hx;subst hx;exact ap _⟩
 |a::b::r,_=>by
  obtain⟨h1,h2⟩:=lK (l:=b::r) (by simp)
  show min a (Br.least (b::r))∈_/\∀x∈_,min a (Br.least (b::r))<=x
  refine⟨?_,λx hx=>?_⟩
  ·rcases Nat.le_total a (Br.least (b::r)) with h|h
   ·rw[O1 h];exact bf
   ·rw[O2 h];exact az _ h1
  ·rcases ao.mp hx with rfl|hx
   ·exact Nat.min_le_left _ _
   ·exact gm (OB _ _) (h2 x hx)
theorem Sw{l m:List Nat}(h1:∀x∈l,∃y∈m,y<=x)(h2:∀y∈m,∃x∈l,x<=y):Br.least l=Br.least m:=by
 by_cases hl:l=[]
 ·subst hl
  have:m=[]:=by
   cases m with
   |nil=>rfl
   |cons a r=>obtain⟨x,hx,_⟩:=h2 a bf;cases hx
  rw[this]
 ·have hm:m≠[]:=by
   rintro rfl
   cases l with
   |nil=>exact hl rfl
   |cons a r=>obtain⟨x,hx,_⟩:=h1 a bf;cases hx
  obtain⟨a1,a2⟩:=lK hl
  obtain⟨b1,b2⟩:=lK hm
  obtain⟨y,hy,gj⟩:=h1 _ a1
  obtain⟨x,hx,UQ⟩:=h2 _ b1
  exact Nat.le_antisymm (gm (a2 x hx) UQ) (gm (b2 y hy) gj)
theorem qB{c:Br.Catalogue}{d:Br.Build}(h:∀l∈d.lines,jY (l.of c))(f:Br.Spot->Nat)(g:Br.Line->Nat)(lo:∀l∈d.lines,∀s∈l.cells c,g l<=f s)(hi:∀l∈d.lines,∃s∈l.cells c,f s=g l):Br.least ((d.cells c).map f)=Br.least (d.lines.map g):=by
 refine Sw (λx hx=>?_) λy hy=>?_
 ·obtain⟨s,hs,rfl⟩:=a8.mp hx
  obtain⟨l,hl,hm⟩:=J8.mp hs
  exact⟨g l,px hl,lo l hl s hm⟩
 ·obtain⟨l,hl,rfl⟩:=a8.mp hy
  obtain⟨s,hs,e⟩:=hi l hl
  exact⟨f s,px (J8.mpr ⟨l,hl,hs⟩),vn e⟩
theorem Zt{c:Br.Catalogue}{d:Br.Build}(h:∀l∈d.lines,jY (l.of c)):
  (d.home c).lines=d.lines.map λ(l:Br.Line)=>{l with x:=l.x - Br.least (d.lines.map (·.x)),y:=l.y - Br.least (d.lines.map (·.y)),z:=l.z - Br.least (d.lines.map (·.z))}:=by
 have cm:∀l∈d.lines,∀s,s∈l.cells c↔∃t:kU,((l.of c).at_ t.1 t.2.1 t.2.2).isCell=true/\l.put t=s:=by
  intro l hl s
  unfold Br.Line.cells
  rw[a8]
  constructor
  ·rintro⟨t,ht,e⟩;exact⟨t,(nF (h l hl).sh rfl).mp ht,e⟩
  ·rintro⟨t,ht,e⟩;exact⟨t,(nF (h l hl).sh rfl).mpr ht,e⟩
 have ex:=qB h (λs=>s.1) (λl=>l.x) (λl hl s hs=>by
  obtain⟨t,_,rfl⟩:=(cm l hl s).mp hs
  exact CQ _ _) (λl hl=>by
  obtain⟨y,z,hc⟩:=(h l hl).x0
  exact⟨_,(cm l hl _).mpr ⟨(0,y,z),hc,rfl⟩,rfl⟩)
 have ey:=qB h (λs=>s.2.1) (λl=>l.y) (λl hl s hs=>by
  obtain⟨t,_,rfl⟩:=(cm l hl s).mp hs
  exact CQ _ _) (λl hl=>by
  obtain⟨x,z,hc⟩:=(h l hl).y0
  exact⟨_,(cm l hl _).mpr ⟨(x,0,z),hc,rfl⟩,rfl⟩)
 have ez:=qB h (λs=>s.2.2) (λl=>l.z) (λl hl s hs=>by
  obtain⟨t,_,rfl⟩:=(cm l hl s).mp hs
  exact CQ _ _) (λl hl=>by
  obtain⟨x,y,hc⟩:=(h l hl).z0
  exact⟨_,(cm l hl _).mpr ⟨(x,y,0),hc,rfl⟩,rfl⟩)
 unfold Br.Build.home
 dsimp only
 rw[ex,ey,ez]
noncomputable def fZ(ys:List (List Int)):List (List Int):=if ys.length=0 then [] else ys.map (Vo (-(iD (ys.map λy=>iN y 2))) (-(iD (ys.map λy=>iN y 3))) (-(iD (ys.map λy=>iN y 4))))
theorem tO(hn:ys≠[])(h:∀y∈ys,0<=iN y k):iD (ys.map λy=>iN y k)=(Br.least (ys.map λy=>(iN y k).toNat):Int)/\∀y∈ys,iD (ys.map λy=>iN y k)<=iN y k:=by
 have h1:(ys.map λy=>iN y k)≠[]:=by simpa using hn
 have h2:(ys.map λy=>(iN y k).toNat)≠[]:=by simpa using hn
 obtain⟨a1,a2⟩:=lK h2
 have b1:=nQ h1
 obtain⟨y,hy,e⟩:=a8.mp b1
 obtain⟨z,hz,e2⟩:=a8.mp a1
 have c1:=a2 _ (px (f:=λy=>(iN y k).toNat) hy)
 have c2:=oG (px (f:=λy=>iN y k) hz)
 have n1:=h y hy
 have n2:=h z hz
 refine⟨?_,λx hx=>oG (px (f:=λy=>iN y k) hx)⟩
 have e:iN y k=iD (ys.map λy=>iN y k):=e
 have e2:(iN z k).toNat=Br.least (ys.map λy=>(iN y k).toNat):=e2
 have c1:Br.least (ys.map λy=>(iN y k).toNat)<=(iN y k).toNat:=c1
 have c2:iD (ys.map λy=>iN y k)<=iN z k:=c2
 omega
theorem tV(ok:∀pr∈U,dC pr)(tg:∀pr∈U,(bQ pr).tight=true){d:Br.Build}(h:∀y∈ys,zT U y)(hd:d.lines=ys.map λy=>eI (jR y)):
  (∀y∈fZ ys,zT U y)/\(d.home (U.map bQ)).lines=(fZ ys).map λy=>eI (jR y):=by
 have ht:∀l∈d.lines,jY (l.of (U.map bQ)):=by
  intro l hl
  rw[hd] at hl
  obtain⟨y,hy,rfl⟩:=a8.mp hl
  have hp:=(h y hy).p
  obtain⟨a,b,c,e,f,g,rfl⟩:=jV (h y hy).l
  have hp:a.toNat<U.length:=hp
  have e2:Br.Line.of (U.map bQ) (eI (jR [a,b,c,e,f,g]))=(bQ U[a.toNat]).turned g.toNat:=by
   unfold Br.Line.of
   show ((U.map bQ).getD a.toNat Br.nothing).turned g.toNat=_
   rw[cx,bg,ax hp]
   rfl
  rw[e2]
  exact(He (Fl (ok _ (ui hp))).sh (tg _ (ui hp))).turned _
 rw[Zt ht,hd,de,de,de,de]
 unfold fZ
 by_cases hn:ys=[]
 ·subst hn
  exact⟨λy hy=>(by cases hy),rfl⟩
 ·rw[ae (by intro z;exact hn (yn z))]
  have nn:∀k,k<6->∀y∈ys,0<=iN y k:=by
   intro k hk y hy
   have hl:=(h y hy).l
   unfold iN
   rw[cx,ax (by omega)]
   exact(h y hy).n _ (ui _)
  obtain⟨x1,x2⟩:=tO hn (k:=2) (nn 2 (by decide))
  obtain⟨y1,y2⟩:=tO hn (k:=3) (nn 3 (by decide))
  obtain⟨z1,z2⟩:=tO hn (k:=4) (nn 4 (by decide))
  have gx:(ys.map ((λ(l:Br.Line)=>l.x)∘λy=>eI (jR y)))=ys.map λy=>(iN y 2).toNat:=by
   refine uh λy hy=>?_
   obtain⟨a,b,c,e,f,g,rfl⟩:=jV (h y hy).l
   rfl
  have gy:(ys.map ((λ(l:Br.Line)=>l.y)∘λy=>eI (jR y)))=ys.map λy=>(iN y 3).toNat:=by
   refine uh λy hy=>?_
   obtain⟨a,b,c,e,f,g,rfl⟩:=jV (h y hy).l
   rfl
  have gz:(ys.map ((λ(l:Br.Line)=>l.z)∘λy=>eI (jR y)))=ys.map λy=>(iN y 4).toNat:=by
   refine uh λy hy=>?_
   obtain⟨a,b,c,e,f,g,rfl⟩:=jV (h y hy).l
   rfl
  rw[gx,gy,gz]
  generalize iD (ys.map λy=>iN y 2)=mx at x1 x2
  generalize iD (ys.map λy=>iN y 3)=my at y1 y2
  generalize iD (ys.map λy=>iN y 4)=mz at z1 z2
  generalize Br.least (ys.map λy=>(iN y 2).toNat)=bx at x1
  generalize Br.least (ys.map λy=>(iN y 3).toNat)=by_ at y1
  generalize Br.least (ys.map λy=>(iN y 4).toNat)=bz at z1
  refine⟨λy hy=>?_,?_⟩
  ·obtain⟨v,hv,rfl⟩:=a8.mp hy
   have k1:=x2 v hv
   have k2:=y2 v hv
   have k3:=z2 v hv
   obtain⟨hl,UR,hp,hr,hx,hy,hz⟩:=h v hv
   obtain⟨a,b,c,e,f,g,rfl⟩:=jV hl
   simp only[ao,dh,io,uj,uk] at UR
   have k1:mx<=c:=k1
   have k2:my<=e:=k2
   have k3:mz<=f:=k3
   have hx:c+(tsz U a.toNat g.toNat).1<=64:=hx
   have hy:e+(tsz U a.toNat g.toNat).2.1<=64:=hy
   have hz:f+(tsz U a.toNat g.toNat).2.2<=96:=hz
   refine⟨rfl,?_,hp,hr,?_,?_,?_⟩
   ·show ∀k∈[a,b,c+ -mx,e+ -my,f+ -mz,g],0<=k
    simp only[ao,dh,io,uj,uk]
    omega
   ·show c+ -mx+(tsz U a.toNat g.toNat).1<=64
    omega
   ·show e+ -my+(tsz U a.toNat g.toNat).2.1<=64
    omega
   ·show f+ -mz+(tsz U a.toNat g.toNat).2.2<=96
    omega
  ·rw[de]
   refine uh λv hv=>?_
   have k1:=x2 v hv
   have k2:=y2 v hv
   have k3:=z2 v hv
   obtain⟨a,b,c,e,f,g,rfl⟩:=jV (h v hv).l
   have k1:mx<=c:=k1
   have k2:my<=e:=k2
   have k3:mz<=f:=k3
   show (⟨a.toNat,b.toNat,c.toNat - bx,e.toNat - by_,f.toNat - bz,g.toNat⟩:Br.Line)=⟨a.toNat,b.toNat,(c+ -mx).toNat,(e+ -my).toNat,(f+ -mz).toNat,g.toNat⟩
   rw[show c.toNat - bx=(c+ -mx).toNat by omega,show e.toNat - by_=(e+ -my).toNat by omega,show f.toNat - bz=(f+ -mz).toNat by omega]
end Br1
namespace Br1
open PySem PySem.Spec PyProof.Rows L2
def sV(H:Hp)(t:Addr)(y:List Int):Prop:=H t=some (.tup (y.map V.int))/\y.length=6
theorem Uh(x:List Nat):x.map Eu=(nB x).map V.int:=by
 unfold nB
 rw[de]
 rfl
theorem xA{aJ:List (List dL×V)}{σ:(List (Option V))}(Pv:Nat->(List (Option V))->Hp->Prop)(h0:Pv 0 σ H)(hl:∀i σ H,i<=aJ.length->Pv i σ H->H d=some (.frz o (.dT aJ)))
  (hs:∀i σ H T k v q,aJ[i]?=some (k,v)->Pv i σ H->H T=none->H q=some (.tup (k.map kV))->g (.ref T) σ (upd H T (.tup [.ref q,v])) λa6 H2=>tb {vH D d o (.dT aJ) with nx:=Pv (i+1),ct:=Pv (i+1),bk:=(vH D d o (.dT aJ)).nx} a6 H2) (hd:∀ σ H,Pv aJ.length σ H->D.nx σ (upd H d (.dT aJ))):
  ∃W:Nat->Nat->(List (Option V))->Hp->Prop,(∃m,W 0 m σ H)/\∀i m σ H,W i m σ H->
   ((Ln d o aJ).stop i H/\(vH D d o (.dT aJ)).nx σ H)\/((Ln d o aJ).go i H/\∃N:(List (Option V))->Hp->Prop,(∀ah H',N ah H'->∃m',m'<m/\W (i+1) m' ah H')/\∀x H',(Ln d o aJ).yld i H x H'->g x σ H' λa6 H2=>tb {vH D d o (.dT aJ) with nx:=N,ct:=N,bk:=(vH D d o (.dT aJ)).nx} a6 H2):=
 iL (D:=vH D d o (.dT aJ)) Pv h0 hl hs λah H' p=>⟨hl _ _ _ (ap _) p,hd ah H' p⟩
variable{K:Frag}
def tzz(n:Nat)(W D Hh:Int):List Int:=if n % 2=1 then [D,W,Hh] else [W,D,Hh]
def mT(CP:Addr):Sp:=λvs H Q _=>∃(b dx nm c:Addr)(W D Hh g:Int)(n:Nat),vs=[.ref b,.int (n:Int)]/\H b=some (.ins CP dx (Sf nm W D Hh g c))/\∀t,H t=none->Q (.ref t) (upd H t (.tup ((tzz n W D Hh).map V.int)))
theorem Pw:aN ["part","turns"] ["part","turns"] (aG vO):=⟨rfl,rfl,rfl,by decide+kernel,rfl,by decide+kernel,by decide+kernel⟩
theorem Qu(F:eZ K "turned_sizes" "turned_sizes" vO f fd)(T':Rh K CP):bO P w K mg base bN 1 f fd ["part","turns"] (mT CP):=by
 refine F.ok Pw (λvs H Q E h=>?_) (λak A outer s H vs Q E hr h=>?_)
 ·obtain⟨b,dx,nm,c,W,D,Hh,g,n,rfl,_⟩:=h
  rfl
 ·obtain⟨b,dx,nm,c,W,D,Hh,g,n,rfl,hb,k⟩:=h
  refine⟨_,aF (eA (fM rD (bY Lm (pv 1) aI) aI (gX _)) (aH (aR (dO (aA (aU (pv 0) rfl) (aA (aU (pv 0) rfl) (aA (aU (pv 0) rfl) aE)))))) bX)
   (aH (aR (dO (aA (aU (pv 0) rfl) (aA (aU (pv 0) rfl) (aA (aU (pv 0) rfl) aE)))))),?_⟩
  unfold tzz at k
  refine⟨_,rfl,_,_,rfl,rfl,(by show (0:Int)<2;decide),rfl,_,rfl,bZ (λe=>?_) (λe=>?_)⟩
  ·rw[gZ] at e
   have e:=dw e
   rw[af (by omega)] at k
   exact⟨_,rfl,b,CP,dx,_,_,rfl,hb,T'.cl,T'.n3,rfl,_,rfl,b,CP,dx,_,_,rfl,hb,T'.cl,T'.n2,rfl,_,rfl,b,CP,dx,_,_,rfl,hb,T'.cl,T'.n4,rfl,(by show 3<=sizeLine;decide),k⟩
  ·rw[gZ] at e
   have e:¬((n:Int) % 2=1):=λz=>e (decide_eq_true z)
   rw[ae (by omega)] at k
   exact⟨_,rfl,b,CP,dx,_,_,rfl,hb,T'.cl,T'.n2,rfl,_,rfl,b,CP,dx,_,_,rfl,hb,T'.cl,T'.n3,rfl,_,rfl,b,CP,dx,_,_,rfl,hb,T'.cl,T'.n4,rfl,(by show 3<=sizeLine;decide),k⟩
theorem Vw{r:Nat}(h:U[p]?=some pr):tzz r pr.w pr.d pr.h=[(tsz U p r).1,(tsz U p r).2.1,(tsz U p r).2.2]:=by
 unfold tzz tsz
 rw[h]
 by_cases hr:r % 2=1
 ·rw[af hr]
  show _=[(if r % 2=1 then _ else _:Int×Int×Int).1,(if r % 2=1 then _ else _:Int×Int×Int).2.1,(if r % 2=1 then _ else _:Int×Int×Int).2.2]
  rw[af hr]
 ·rw[ae hr]
  show _=[(if r % 2=1 then _ else _:Int×Int×Int).1,(if r % 2=1 then _ else _:Int×Int×Int).2.1,(if r % 2=1 then _ else _:Int×Int×Int).2.2]
  rw[ae hr]
theorem xN{lo hi v:Int}{σ:(List (Option V))}{Q:VK}(lh:σ[i]?=some (some (.int v)))(k:Q (.bl (decide (lo<=v) && decide (v<hi))) H):
  Jh (Wu λi j=>.bl (decide (i<=j))) (Wu λi j=>.bl (decide (i<j))) (tC (.int lo)) (cU i) (tC (.int hi)) σ H Q:=by
 refine⟨_,lh,_,_,rfl,rfl,_,rfl,bZ (λh=>⟨_,_,rfl,rfl,?_⟩) (λh=>?_)⟩
 ·rw[h,i8] at k
  exact k
 ·rw[cD h,lr] at k
  exact k
def sK:Sp:=λvs H Q _=>∃x y z:Int,vs=[.int x,.int y,.int z]/\Q (.bl (Fi x y z)) H
theorem Qn:aN ["x","y","z"] ["x","y","z"] (aG wJ):=⟨rfl,rfl,rfl,by decide+kernel,rfl,by decide+kernel,by decide+kernel⟩
theorem Qq(F:eZ K "beyond_room" "beyond_room" wJ f fd)(c1:CI mg "ROOM_WIDTH" 64)(c2:CI mg "ROOM_DEPTH" 64)(c3:CI mg "ROOM_HEIGHT" 96):bO P w K mg base bN 1 f fd ["x","y","z"] sK:=by
 refine F.ok Qn (λvs H Q E h=>?_) (λak A outer s H vs Q E hr h=>?_)
 ·obtain⟨x,y,z,rfl,_⟩:=h
  rfl
 ·obtain⟨x,y,z,rfl,k⟩:=h
  refine⟨_,aH (aR (aBy (sS (mX qX Vv aI (pv 0) (eB c1)) (sS (mX qX Vv aI (pv 1) (eB c2)) (uE (mX qX Vv aI (pv 2) (eB c3))))))),?_⟩
  unfold Fi at k
  refine xN rfl ⟨_,rfl,bZ (λe1=>xN rfl ⟨_,rfl,bZ (λe2=>xN rfl ⟨_,rfl,?_⟩) (λe2=>⟨_,rfl,?_⟩)⟩) (λe1=>⟨_,rfl,?_⟩)⟩
  ·rw[e1,e2,i8,i8] at k
   exact k
  ·rw[e1,cD e2,i8,lr] at k
   exact k
  ·rw[cD e1,lr,lr] at k
   exact k
def sJ(K:Frag)(CP:Addr):Sp:=λvs H Q _=>∃(pa t:Addr)(bs:List Addr)(U:List aL)(y:List Int),vs=[.ref pa,.ref t]/\cP K H pa (bs.map V.ref)/\dF CP H bs U/\sV H t y/\0<=iN y 0/\(iN y 0).toNat<U.length/\0<=iN y 5/\
 ∀H':Hp,aK H H'->Q (.bl (Nj U y)) H'
theorem Aw:aN ["parts","put","size"] ["parts","put"] (aG vV):=⟨rfl,rfl,rfl,by decide+kernel,rfl,by decide+kernel,by decide+kernel⟩
theorem Rg(F:eZ K "leaves_room" "leaves_room" vV f fd)(L1:dE P w K mg base "turned_sizes" bN 1 ["part","turns"] (mT CP))(L2:dE P w K mg base "beyond_room" bN 1 ["x","y","z"] sK):bO P w K mg base bN 2 f fd ["parts","put"] (sJ K CP):=by
 obtain⟨g1,gc,G1,b1,k1,h1⟩:=L1.ex
 obtain⟨g2,ky,G2,b2,k2,h2⟩:=L2.ex
 refine F.ok Aw (λvs H Q E h=>?_) (λak A outer s H vs Q E hr h=>?_)
 ·obtain⟨pa,t,bs,U,y,rfl,_⟩:=h
  rfl
 ·obtain⟨pa,t,bs,U,y,rfl,ck,cf,⟨ht,hy⟩,qv,am,tu,k⟩:=h
  obtain⟨a0,a1,a2,a3,a4,a5,rfl⟩:=jV hy
  have qv:0<=a0:=qv
  have am:a0.toNat<U.length:=am
  have tu:0<=a5:=tu
  have bj:=hr.mono (j:=1) (by decide)
  refine⟨_,aF (bF (i:=2) Aw.nd rfl (Or.inl rfl) (aP G1 bj (by rfl) h1 k1 b1 .nil aX (aA (bH jM (pv 0) (bH aW (pv 1) aI (λ_ _=>rfl)) (λ_ _=>rfl)) (aA (bH aW (pv 1) aI (λ_ _=>rfl)) aE))))
   (aH (aR (Ss (aP G2 bj (by rfl) h2 k2 b2 .nil aX (aA (bH aW (pv 1) aI (λ_ _=>rfl)) (aA (bH aW (pv 1) aI (λ_ _=>rfl)) (aA (bH aW (pv 1) aI (λ_ _=>rfl)) aE))))
    (uE (aP G2 bj (by rfl) h2 k2 b2 .nil aX (aA (bY eE (bY eP (bH aW (pv 1) aI (λ_ _=>rfl)) (bH aW (pv 2) aI (λ_ _=>rfl))) aI)
     (aA (bY eE (bY eP (bH aW (pv 1) aI (λ_ _=>rfl)) (bH aW (pv 2) aI (λ_ _=>rfl))) aI) (aA (bY eE (bY eP (bH aW (pv 1) aI (λ_ _=>rfl)) (bH aW (pv 2) aI (λ_ _=>rfl))) aI) aE)))))))),?_⟩
  obtain⟨pr,jt⟩:∃pr,U[a0.toNat]?=some pr:=⟨_,ax am⟩
  obtain⟨b,eb,BK,po⟩:=bT cf jt
  obtain⟨dx,nm,cc,f1,f2,f3⟩:=BK
  have e0:Ps (bs.map V.ref) a0=some (V.ref b):=by
   have:=jF (xs:=bs.map V.ref) (j:=a0.toNat) (v:=V.ref b) (by rw[bg,eb];rfl)
   rwa [oq qv] at this
  have e5:a5=((a5.toNat:Nat):Int):=(oq tu).symm
  refine⟨_,rfl,_,rfl,t,_,_,_,rfl,rfl,cG.of ht,rfl,pa,_,_,_,rfl,rfl,ck,e0,_,rfl,t,_,_,_,rfl,rfl,cG.of ht,rfl,b,dx,nm,cc,_,_,_,_,a5.toNat,by rw[<-e5];rfl,f1,λtz Io=>?_⟩
  have ez:=Vw (r:=a5.toNat) jt
  rw[ez]
  have S1:=aK.new (o:=.tup ([(tsz U a0.toNat a5.toNat).1,(tsz U a0.toNat a5.toNat).2.1,(tsz U a0.toNat a5.toNat).2.2].map V.int)) Io
  have il:=S1 _ _ ht
  have BR:upd H tz (.tup ([(tsz U a0.toNat a5.toNat).1,(tsz U a0.toNat a5.toNat).2.1,(tsz U a0.toNat a5.toNat).2.2].map V.int)) tz=some (.tup ([(tsz U a0.toNat a5.toNat).1,(tsz U a0.toNat a5.toNat).2.1,(tsz U a0.toNat a5.toNat).2.2].map V.int)):=aB
  generalize upd H tz (.tup ([(tsz U a0.toNat a5.toNat).1,(tsz U a0.toNat a5.toNat).2.1,(tsz U a0.toNat a5.toNat).2.2].map V.int))=H1 at S1 il BR
  have k:=k H1 S1
  have k:Q (.bl (Fi a2 a3 a4||Fi (a2+(tsz U a0.toNat a5.toNat).1 - 1) (a3+(tsz U a0.toNat a5.toNat).2.1 - 1) (a4+(tsz U a0.toNat a5.toNat).2.2 - 1))) H1:=k
  generalize tsz U a0.toNat a5.toNat=Z at k BR
  refine⟨_,rfl,t,_,_,_,rfl,rfl,cG.of il,rfl,_,rfl,t,_,_,_,rfl,rfl,cG.of il,rfl,_,rfl,t,_,_,_,rfl,rfl,cG.of il,rfl,a2,a3,a4,rfl,_,rfl,bZ (λe1=>?_) (λe1=>?_)⟩
  ·rw[e1,Bool.true_or] at k
   exact k
  ·rw[cD e1,Bool.false_or] at k
   exact⟨_,rfl,t,_,_,_,rfl,rfl,cG.of il,rfl,_,rfl,tz,_,_,_,rfl,rfl,cG.of BR,rfl,_,_,rfl,rfl,_,_,rfl,rfl,_,rfl,t,_,_,_,rfl,rfl,cG.of il,rfl,_,rfl,tz,_,_,_,rfl,rfl,cG.of BR,rfl,_,_,rfl,rfl,_,_,rfl,rfl,
    _,rfl,t,_,_,_,rfl,rfl,cG.of il,rfl,_,rfl,tz,_,_,_,rfl,rfl,cG.of BR,rfl,_,_,rfl,rfl,_,_,rfl,rfl,_,_,_,rfl,k⟩
def Kc(K:Frag)(CP:Addr):Sp:=λvs H Q _=>∃(pa q:Addr)(bs:List Addr)(U:List aL)(x:List Nat),vs=[.ref pa,.ref q]/\cP K H pa (bs.map V.ref)/\dF CP H bs U/\(∀pr∈U,dC pr)/\H q=some (.tup (x.map Eu))/\Et U.length x/\eC x 5<=3/\
 ∀(H':Hp)(d:Addr),aK H H'->H d=none->H' d=some (.dT (aJ (cX U x)))->Q (.ref d) H'
theorem wC:aN ["parts","put","cells","place","sign"] ["parts","put"] (aG Mn):=⟨rfl,rfl,rfl,by decide+kernel,rfl,by decide+kernel,by decide+kernel⟩
theorem aAy(F:eZ K "cells_in_room" "cells_in_room" Mn f fd)(T':Rh K CP)(L1:dE P w K mg base "turned_part" bN 4 ["part","turns"] (mS CP)):bO P w K mg base bN 5 f fd ["parts","put"] (Kc K CP):=by
 obtain⟨g1,gc,G1,b1,k1,h1⟩:=L1.ex
 refine F.ok wC (λvs H Q E h=>?_) (λak A outer s H vs Q E hr h=>?_)
 ·obtain⟨pa,q,bs,U,x,rfl,_⟩:=h
  rfl
 ·obtain⟨pa,qp,bs,U,x,rfl,ck,cf,hok,hp,⟨BS,uz⟩,IA,k⟩:=h
  obtain⟨pr,jt⟩:∃pr,U[eC x 0]?=some pr:=⟨_,ax uz⟩
  have IB:tX U x=eW (iY pr) (eC x 5):=by
   unfold tX
   rw[jt]
   rfl
  obtain⟨b,eb,D5,md⟩:=bT cf jt
  obtain⟨nm,w6⟩:=D5.pt
  have tok:rG (iY pr):=⟨(Fl (hok pr (fj jt))).nd,md.len⟩
  obtain⟨a0,a1,a2,a3,a4,a5,rfl⟩:=six BS
  have hu:=iQ hr
  refine⟨_,aF (bF (i:=2) wC.nd rfl (Or.inl rfl) nH)
   (aF (Zi jy rfl (aU (aP G1 (hr.mono (j:=4) (by decide)) (by rfl) h1 k1 b1 .nil aX (aA (bH jM (pv 0) (bH aW (pv 1) aI (λ_ _=>rfl)) (λ_ _=>rfl)) (aA (bH aW (pv 1) aI (λ_ _=>rfl)) aE))) rfl) (nG rfl (dI (bE (i:=3) wC.nd rfl (Or.inl rfl)) (dI (bE (i:=4) wC.nd rfl (Or.inl rfl)) jO)))
    (aH (lF hu (pv 2) (dO (aA (bY eP (bH aW (pv 1) aI (λ_ _=>rfl)) (bH aW (pv 3) aI (λ_ _=>rfl))) (aA (bY eP (bH aW (pv 1) aI (λ_ _=>rfl)) (bH aW (pv 3) aI (λ_ _=>rfl))) (aA (bY eP (bH aW (pv 1) aI (λ_ _=>rfl)) (bH aW (pv 3) aI (λ_ _=>rfl))) aE)))) (pv 4) rfl)))
   (aH (aR (pv 2)))),?_⟩
  intro d hd
  have S0:aK H (upd H d (.dT [])):=aK.new hd
  have e0:Ps (bs.map V.ref) ((a0:Nat):Int)=some (V.ref b):=jF (by
   rw[bg]
   show Option.map V.ref bs[eC [a0,a1,a2,a3,a4,a5] 0]?=_
   rw[eb];rfl)
  have IC:=S0 _ _ hp
  have bu:=bA
  refine⟨_,rfl,_,rfl,qp,_,_,_,rfl,rfl,cG.of IC,rfl,pa,_,_,_,rfl,rfl,S0.seq ck,e0,_,rfl,qp,_,_,_,rfl,rfl,cG.of IC,rfl,b,nm,_,iY pr,a5,rfl,gm IA (by decide),w6.same S0,tok,λH1 b' S1 jd=>?_⟩
  have ID:rG (eW (iY pr) a5):=tok.turns _
  have k:∀(H':Hp)(d:Addr),aK H H'->H d=none->H' d=some (.dT (aJ (xU (mI a2 a3 a4) (eW (iY pr) a5).cs)))->Q (.ref d) H':=λH' d s n e=>k H' d s n (by unfold cX;rw[IB];exact e)
  obtain⟨f8,c,vi,vj⟩:=jd
  generalize eW (iY pr) a5=tt at vi vj ID k
  obtain⟨W,D,Hh,cs⟩:=tt
  have vi:H1 b'=some (.ins CP f8 (Sf nm W D Hh pr.g c)):=vi
  have vj:H1 c=some (.dT (aJ cs)):=vj
  have nd:(cs.map (·.1)).Nodup:=ID.nd
  have ln:cs.length<20000:=ID.ln
  have n0:H1 d=some (.dT []):=S1 _ _ aB
  have jd:=S1 _ _ IC
  refine⟨b',CP,f8,_,_,rfl,vi,T'.cl,T'.n6,rfl,c,_,rfl,vj,λod=>?_⟩
  have zt:=S0.trans S1
  by_cases tq:c=d
  ·-- the new dict itself:then there is nothing to walk
   subst tq
   rw[n0] at vj
   have qe:cs=[]:=by
    cases cs with
    |nil=>rfl
    |cons a r=>cases vj
   subst qe
   refine xA (λi σ H'=>∃v3 v4,σ=[some (.ref pa),some (.ref qp),some (.ref c),v3,v4]/\H'=upd H1 c (.frz od (.dT (aJ [])))) ⟨none,none,rfl,rfl⟩ ?_ ?_ ?_
   ·rintro i σ H2 hi ⟨v3,v4,rfl,rfl⟩
    exact aB
   ·rintro i σ H2 T k' v q e
    cases i<;>cases e
   ·rintro σ H2 ⟨v3,v4,rfl,rfl⟩
    refine⟨_,rfl,k _ c (λy o e=>?_) hd (by rw[aB];rfl)⟩
    have ny:=aD e hd
    rw[aC ny,aC ny]
    exact zt _ _ e
  ·have ic:upd H1 c (.frz od (.dT (aJ cs))) c=some (.frz od (.dT (aJ cs))):=aB
   have n8:upd H1 c (.frz od (.dT (aJ cs))) d=some (.dT []):=by rw[aC (au tq)];exact n0
   have US:qp≠c:=λz=>by rw[z,vj] at jd;cases jd
   have HJ:qp≠d:=λz=>by rw[z,n0] at jd;cases jd
   have UT:upd H1 c (.frz od (.dT (aJ cs))) qp=some (.tup ([a0,a1,a2,a3,a4,a5].map Eu)):=by rw[aC US];exact jd
   refine xA (λi σ H'=>∃v3 v4,σ=[some (.ref pa),some (.ref qp),some (.ref d),v3,v4]/\SX d (upd H1 c (.frz od (.dT (aJ cs)))) H'/\H' d=some (.dT (aJ (xU (mI a2 a3 a4) (cs.take i))))) ⟨none,none,rfl,SX.refl _ _,n8⟩ ?_ ?_ ?_
   ·rintro i σ H2 hi ⟨v3,v4,rfl,S2,_⟩
    exact S2 _ _ ic tq
   ·rintro i σ H2 T kk v q e ⟨v3,v4,rfl,S2,ja⟩ hT hq
    obtain⟨p,sg,e1,rfl,rfl⟩:=iJ e
    have ST:=aK.new (o:=.tup [.ref q,.int sg]) hT
    refine⟨T,_,rfl,cG.of aB,rfl,_,_,rfl,_,_,rfl,rfl,?_⟩
    have j2:=ST _ _ hq
    have xk:=ST _ _ (S2 _ _ UT HJ)
    have xm:=ST _ _ ja
    generalize upd H2 T (.tup [.ref q,.int sg])=H3 at ST j2 xk xm
    refine⟨_,rfl,_,rfl,_,rfl,qp,_,_,_,rfl,rfl,cG.of xk,rfl,_,rfl,q,_,_,_,rfl,rfl,cG.of j2,rfl,_,_,rfl,rfl,_,rfl,qp,_,_,_,rfl,rfl,cG.of xk,rfl,_,rfl,q,_,_,_,rfl,rfl,cG.of j2,rfl,_,_,rfl,rfl,_,rfl,qp,_,_,_,rfl,rfl,cG.of xk,rfl,_,rfl,q,_,_,_,rfl,rfl,cG.of j2,rfl,_,_,rfl,rfl,(by show 3<=sizeLine;decide),λt ht=>?_⟩
    have SQ:=aK.new (o:=.tup [.int (a2+p.1),.int (a3+p.2.1),.int (a4+p.2.2)]) ht
    have hi:i<cs.length:=(bp.mp e1).1
    refine⟨d,_,rfl,tE.tt (k:=eJ (a2+p.1) (a3+p.2.1) (a4+p.2.2)) (SQ _ _ xm) aB (by rw[iC,Fp,gf];omega),?_⟩
    refine⟨_,_,rfl,λb' o e' n'=>?_,?_⟩
    ·rw[aC n']
     exact SQ _ _ (ST _ _ (S2 _ _ e' n'))
    ·rw[aB]
     exact congrArg (λz=>some (HO.dT z)) (Nr (Rt a2 a3 a4) nd e1)
   ·rintro σ H2 ⟨v3,v4,rfl,S2,ja⟩
    rw[iC,jo] at ja
    have UU:upd H2 c (.dT (aJ cs)) d=some (.dT (aJ (xU (mI a2 a3 a4) cs))):=by rw[aC (au tq)];exact ja
    refine⟨_,rfl,k _ d (λy o e=>?_) hd UU⟩
    have ny:=aD e hd
    have e1:=zt _ _ e
    by_cases hy:y=c
    ·rw[hy] at e1 ⊢
     rw[aB,<-e1,vj]
    ·rw[aC hy]
     exact S2 _ _ (by rw[aC hy];exact e1) ny
theorem aAm{A B:TS}{σ:List (Option V)}{M:List (Option V)->Hp->Prop}(h2:∀ah H',M ah H'->B D ah H')(h1:(∀ah H',M ah H'->B D ah H')->A {D with nx:=B D} σ H):Fu A B D σ H:=h1 h2
theorem aBp{x:V}{σ:List (Option V)}{k:List (Option V)->Hp->Prop}(h:k (σ.set i (some x)) H):mG i x σ H k:=h
def Iy(ds os wr:Addr):List (Str×V):=[("signs",.ref ds),("owners",.ref os),("wrong",.ref wr)]
structure RmT(K:Frag)(CM:Addr):Prop where
 cl:Ix K CM
 n1:dG K CM "signs"
 n2:dG K CM "owners"
 n3:dG K CM "wrong"
def aBf(CM:Addr):Sp:=λvs H Q _=>∃(r dx:Addr),vs=[.ref r]/\H r=some (.ins CM dx [])/\∀(H':Hp)(ds os wr:Addr),H' r=some (.ins CM dx (Iy ds os wr))->H' ds=some (.dT [])->H' os=some (.dT [])->H' wr=some (.lst [])->H ds=none->H os=none->H wr=none->ds≠os->SX r H H'->Q .non H'
theorem aCk:aN ["self"] ["self"] (aG Eo):=⟨rfl,rfl,rfl,by decide+kernel,rfl,by decide+kernel,by decide+kernel⟩
theorem aBw(F:eZ K "__init__" "Room.__init__" Eo f fd)(T:RmT K CM):bO P w K mg base bN 1 f fd ["self"] (aBf CM):=by
 refine F.ok aCk (λvs H Q E h=>?_) (λak A outer s H vs Q E hr h=>?_)
 ·obtain⟨r,dx,rfl,_⟩:=h
  rfl
 ·obtain⟨r,dx,rfl,hp,k⟩:=h
  refine⟨_,aF (dZ (pv 0) nH rfl) (aF (dZ (pv 0) nH rfl) (aH (dZ (pv 0) (eD aE) rfl))),?_⟩
  intro ds r6
  have n1:r≠ds:=aD hp r6
  refine⟨_,rfl,r,CM,dx,_,rfl,by rw[aC n1];exact hp,T.cl,T.n1,(by show 0<1000;decide),?_⟩
  intro os fh
  have n2:r≠os:=λz=>by rw[<-z,aB] at fh;cases fh
  have n3:ds≠os:=λz=>by rw[<-z,aC (au n1),aB] at fh;cases fh
  rw[aC (au n2),aC (au n3)] at fh
  refine⟨_,rfl,r,CM,dx,_,rfl,by rw[aC n2,aB],T.cl,T.n2,(by show 1<1000;decide),?_⟩
  refine⟨c7 _,λwr tw=>?_⟩
  have n4:r≠wr:=λz=>by rw[<-z,aB] at tw;cases tw
  have n5:os≠wr:=λz=>by rw[<-z,aC (au n2),aB] at tw;cases tw
  have n6:ds≠wr:=λz=>by rw[<-z,aC (au n1),aC n3,aC (au n1),aB] at tw;cases tw
  rw[aC (au n4),aC (au n5),aC (au n4),aC (au n6)] at tw
  refine⟨_,rfl,r,CM,dx,_,rfl,by rw[aC n4,aB],T.cl,T.n3,(by show 2<1000;decide),?_⟩
  refine k _ ds os wr aB ?_ ?_ ?_ r6 fh tw n3 λb o e hb=>?_
  ·rw[aC (au n1),aC n6,aC (au n1),aC n3,aC (au n1),aB]
  ·rw[aC (au n2),aC n5,aC (au n2),aB]
  ·rw[aC (au n4),aB]
  ·rw[aC hb,aC (aD e tw),aC hb,aC (aD e fh),aC hb,aC (aD e r6)]
   exact e
structure RmM(P:Program)(w:World)(K:Frag)(mg:Str->Option Value)(base:Heap)(CM:Addr):Prop where
 ex:∃f fd,Mk K CM f/\bO P w K mg base bN 1 f fd ["self"] (aBf CM)/\eR K fd ["self"] []
 mg:mg "Room"=some (.ref CM)
section
variable{c:Pl×Int}{s k:Int}
theorem Pz(h:¬fB c.2=true):mO sg ow c=[]:=by
 unfold mO
 split
 ·exact ae λz=>h z.1
 ·rfl
theorem Rx(h:aZ sg (pT c.1)=none):mO sg ow c=[]:=by
 unfold mO
 rw[h]
theorem Rb(h:aZ sg (pT c.1)=some s)(ht:dU s=true):mO sg ow c=[]:=by
 unfold mO
 rw[h]
 exact ae λz=>by rw[ht] at z;exact Bool.noConfusion z.2
theorem Ut(h:aZ sg (pT c.1)=some s)(h1:fB c.2=true)(h2:dU s=false)(h3:aZ ow (pT c.1)=some k):mO sg ow c=[k]:=by
 unfold mO
 rw[h]
 show (if fB c.2=true/\dU s=false then _ else _)=_
 rw[af ⟨h1,h2⟩,h3]
 rfl
theorem Rf(h:dU c.2=true):pH sg ow c=[]:=by
 unfold pH
 split
 ·exact ae λz=>by rw[h] at z;exact Bool.noConfusion z.1
 ·rfl
theorem Sd(h:aZ sg (qD c.1)=none):pH sg ow c=[]:=by
 unfold pH
 rw[h]
theorem Pu(h:aZ sg (qD c.1)=some s)(ht:¬fB s=true):pH sg ow c=[]:=by
 unfold pH
 rw[h]
 exact ae λz=>ht z.2
theorem Tb(h:aZ sg (qD c.1)=some s)(h1:dU c.2=false)(h2:fB s=true)(h3:aZ ow (qD c.1)=some k):pH sg ow c=[k]:=by
 unfold pH
 rw[h]
 show (if dU c.2=false/\fB s=true then _ else _)=_
 rw[af ⟨h1,h2⟩,h3]
 rfl
theorem Fq:(mO sg ow c).length<=1:=by
 unfold mO
 split
 ·split
  ·cases aZ ow (pT c.1)<;>simp
  ·simp
 ·simp
theorem Sn:(pH sg ow c).length<=1:=by
 unfold pH
 split
 ·split
  ·cases aZ ow (qD c.1)<;>simp
  ·simp
 ·simp
end
theorem Bh(sg ow:CL):∀cl:CL,(cW cl sg ow).length<=2 * cl.length
 |[]=>ap _
 |c::r=>by
  have ih:=Bh sg ow r
  have h1:=Fq (sg:=sg) (ow:=ow) (c:=c)
  have h2:=Sn (sg:=sg) (ow:=ow) (c:=c)
  unfold cW at ih ⊢
  rw[List.flatMap_cons,c8,c8,bw]
  omega
theorem pW{cl:CL}{c:Pl×Int}(e:cl[i]?=some c):cW (cl.take (i+1)) sg ow=cW (cl.take i) sg ow++mO sg ow c++pH sg ow c:=by
 unfold cW
 rw[jg,e,FM,rg]
 show _++List.flatMap _ [c]=_
 rw[J3]
theorem sA{c:Addr}{p:Pl}{v:Int}(hc:H c=some (.dT (aJ cs)))(hq:H q=some (.tup [.int p.1,.int p.2.1,.int p.2.2]))(h:aZ cs p=some v):mP H c (.ref q) (some (V.int v)):=by
 have:=xS (p:=p) hc hq
 rw[h] at this
 exact this
theorem jT:16000000<sizeLine:=by rw[qz];decide
def tY(CM:Addr):Sp:=λvs H Q _=>∃(d m dm wr s o:Addr)(cl sg ow:CL),vs=[.ref d,.ref m]/\H m=some (.ins CM dm (Iy s o wr))/\H d=some (.dT (aJ cl))/\H s=some (.dT (aJ sg))/\H o=some (.dT (aJ ow))/\d≠s/\d≠o/\(∀p,(aZ sg p).isSome=true->(aZ ow p).isSome=true)/\cl.length<20000/\
 ∀(H':Hp)(l:Addr),aK H H'->H l=none->H' l=some (.lst ((cW cl sg ow).map V.int))->Q (.ref l) H'
theorem gK:aN ["cells","room","blocked","place","sign","over","under"] ["cells","room"] (aG rJ):=⟨rfl,rfl,rfl,by decide+kernel,rfl,by decide+kernel,by decide+kernel⟩
theorem Jy(F:eZ K "blocked_lines" "blocked_lines" rJ f fd)(TM:RmT K CM)(L1:dE P w K mg base "above" bN 1 ["place"] oU)(L2:dE P w K mg base "below" bN 1 ["place"] oF)
  (L3:dE P w K mg base "has_stud" bN 1 ["sign"] yQ) (L4:dE P w K mg base "has_tube" bN 1 ["sign"] wT):bO P w K mg base bN 2 f fd ["cells","room"] (tY CM):=by
 obtain⟨g1,gc,G1,b1,k1,h1⟩:=L1.ex
 obtain⟨g2,ky,G2,b2,k2,h2⟩:=L2.ex
 obtain⟨g3,BH,G3,b3,k3,h3⟩:=L3.ex
 obtain⟨g4,L',G4,b4,k4,h4⟩:=L4.ex
 refine F.ok gK (λvs H Q E h=>?_) (λak A outer s H vs Q E hr h=>?_)
 ·obtain⟨d,m,dm,wr,s,o,cl,sg,ow,rfl,_⟩:=h
  rfl
 ·obtain⟨d,m,dm,wr,s,o,cl,sg,ow,rfl,hm,hd,hs,ho,t7,qw,sub,ln,k⟩:=h
  have bj:=hr.mono (j:=1) (by decide)
  have hu:=iQ hr
  refine⟨_,aF (bF (i:=2) gK.nd rfl (Or.inl rfl) (eD aE))
   (aF (lT (eG jy rfl (kY (pv 0)) (nG rfl (dI (bE (i:=3) gK.nd rfl (Or.inl rfl)) (dI (bE (i:=4) gK.nd rfl (Or.inl rfl)) jO)))
    (aF (bF (i:=5) gK.nd rfl (Or.inl rfl) (aP G1 bj (by rfl) h1 k1 b1 .nil aX (aA (pv 3) aE)))
    (aF (eA (hJ (eQ (aP G3 bj (by rfl) h3 k3 b3 .nil aX (aA (pv 4) aE))) (hJ (dS (tZ hu (pv 5) (aU (pv 1) rfl))) (iE (lQ (eQ (aP G4 bj (by rfl) h4 k4 b4 .nil aX (aA (oJ hu (aU (pv 1) rfl) (pv 5) (λ_ _=>rfl)) aE))))))).pt
     (aH (cR (uY plainAttrs_list PySem.F.slot_list_append PySem.F.type_list_append gN (pv 2) (aA (oJ hu (aU (pv 1) rfl) (pv 5) (λ_ _=>rfl)) aE)))) bX)
    (aF (bF (i:=6) gK.nd rfl (Or.inl rfl) (aP G2 bj (by rfl) h2 k2 b2 .nil aX (aA (pv 3) aE)))
    (aH (eA (hJ (lQ (eQ (aP G4 bj (by rfl) h4 k4 b4 .nil aX (aA (pv 4) aE)))) (hJ (dS (tZ hu (pv 6) (aU (pv 1) rfl))) (iE (eQ (aP G3 bj (by rfl) h3 k3 b3 .nil aX (aA (oJ hu (aU (pv 1) rfl) (pv 6) (λ_ _=>rfl)) aE)))))).pt
     (aH (cR (uY plainAttrs_list PySem.F.slot_list_append PySem.F.type_list_append gN (pv 2) (aA (oJ hu (aU (pv 1) rfl) (pv 6) (λ_ _=>rfl)) aE)))) bX)))))))
   (aH (aR (pv 2)))),?_⟩
  refine⟨by show 0<=sizeLine;decide,λl hl=>?_⟩
  have S0:aK H (upd H l (.lst [])):=aK.new hl
  have ve:d≠l:=aD hd hl
  have nz:s≠l:=aD hs hl
  have MW:o≠l:=aD ho hl
  have nml:m≠l:=aD hm hl
  have xo:m≠d:=λz=>by rw[z,hd] at hm;cases hm
  have hsz:=jT
  refine⟨d,_,S0 _ _ hd,trivial,λod=>?_⟩
  have n8:upd (upd H l (.lst [])) d (.frz od (.dT (aJ cl))) d=some (.frz od (.dT (aJ cl))):=aB
  have D6:upd (upd H l (.lst [])) d (.frz od (.dT (aJ cl))) s=some (.dT (aJ sg)):=by rw[aC (au t7)];exact S0 _ _ hs
  have wj:upd (upd H l (.lst [])) d (.frz od (.dT (aJ cl))) o=some (.dT (aJ ow)):=by rw[aC (au qw)];exact S0 _ _ ho
  have t8:upd (upd H l (.lst [])) d (.frz od (.dT (aJ cl))) m=some (.ins CM dm (Iy s o wr)):=by rw[aC xo];exact S0 _ _ hm
  have UV:upd (upd H l (.lst [])) d (.frz od (.dT (aJ cl))) l=some (.lst []):=by rw[aC (au ve),aB]
  refine⟨_,rfl,d,od,_,rfl,n8,?_⟩
  refine iL (λi σ H'=>∃v4 v5 v6 v7,σ=[some (.ref d),some (.ref m),some (.ref l),v4,v5,v6,v7]/\SX l (upd (upd H l (.lst [])) d (.frz od (.dT (aJ cl)))) H'/\H' l=some (.lst ((cW (cl.take i) sg ow).map V.int))) ⟨none,none,none,none,rfl,SX.refl _ _,UV⟩ ?_ ?_ ?_
  ·rintro i σ H1 hi ⟨v4,v5,v6,v7,rfl,S1,_⟩
   exact S1 _ _ n8 ve
  ·rintro i σ H1 T kk v q e ⟨v4,v5,v6,v7,rfl,S1,mh⟩ hT hq
   obtain⟨p,sv,e1,rfl,rfl⟩:=iJ e
   have hi:i<cl.length:=(bp.mp e1).1
   have ST:=aK.new (o:=.tup [.ref q,.int sv]) hT
   refine⟨T,_,rfl,cG.of aB,rfl,_,_,rfl,_,_,rfl,rfl,?_⟩
   have f9:=ST _ _ hq
   have S2:SX l (upd (upd H l (.lst [])) d (.frz od (.dT (aJ cl)))) (upd H1 T (.tup [.ref q,.int sv])):=λb ob eb nb=>ST _ _ (S1 _ _ eb nb)
   have i4:=ST _ _ mh
   generalize upd H1 T (.tup [.ref q,.int sv])=H2 at ST f9 S2 i4
   have UW:q≠l:=λz=>by rw[z,i4] at f9;cases f9
   have XE:(cW (cl.take i) sg ow).length<=40000:=by
    have:=Bh sg ow (cl.take i)
    rw[gf] at this
    omega
   have fin:∀{H':Hp}{xs:List Int},mO sg ow (p,sv)++pH sg ow (p,sv)=xs->H' l=some (.lst ((cW (cl.take i) sg ow++xs).map V.int))->H' l=some (.lst ((cW (cl.take (i+1)) sg ow).map V.int)):=λ{H' xs} ex hx=>by
    rw[hx,pW e1,rg,ex]
   refine⟨_,rfl,q,p.1,p.2.1,p.2.2,rfl,f9,λt ht=>?_⟩
   have SQ:=aK.new (o:=.tup [.int p.1,.int p.2.1,.int (p.2.2+1)]) ht
   have S3:SX l (upd (upd H l (.lst [])) d (.frz od (.dT (aJ cl)))) (upd H2 t (.tup [.int p.1,.int p.2.1,.int (p.2.2+1)])):=λb ob eb nb=>SQ _ _ (S2 _ _ eb nb)
   have qx:=SQ _ _ i4
   have j2:=SQ _ _ f9
   have xi:upd H2 t (.tup [.int p.1,.int p.2.1,.int (p.2.2+1)]) t=some (.tup [.int (pT p).1,.int (pT p).2.1,.int (pT p).2.2]):=aB
   generalize upd H2 t (.tup [.int p.1,.int p.2.1,.int (p.2.2+1)])=H3 at S3 qx j2 xi
   refine aBp ?_
   dsimp only
   refine aAm (A:=aDe _ _ _) (M:=λah H'=>∃v7,ah=[some (.ref d),some (.ref m),some (.ref l),some (.ref q),some (.int sv),some (.ref t),v7]/\SX l (upd (upd H l (.lst [])) d (.frz od (.dT (aJ cl)))) H'/\H' l=some (.lst ((cW (cl.take i) sg ow++mO sg ow (p,sv)).map V.int))/\H' q=some (.tup [.int p.1,.int p.2.1,.int p.2.2])) ?_ (λxp=>?_)
   ·rintro ah H4 ⟨v7,rfl,S4,BU,w9⟩
    refine⟨_,rfl,q,p.1,p.2.1,p.2.2,rfl,w9,λu HA=>?_⟩
    have SU:=aK.new (o:=.tup [.int p.1,.int p.2.1,.int (p.2.2 - 1)]) HA
    have S5:SX l (upd (upd H l (.lst [])) d (.frz od (.dT (aJ cl)))) (upd H4 u (.tup [.int p.1,.int p.2.1,.int (p.2.2 - 1)])):=λb ob eb nb=>SU _ _ (S4 _ _ eb nb)
    have qu:=SU _ _ BU
    have D7:upd H4 u (.tup [.int p.1,.int p.2.1,.int (p.2.2 - 1)]) u=some (.tup [.int (qD p).1,.int (qD p).2.1,.int (qD p).2.2]):=aB
    generalize upd H4 u (.tup [.int p.1,.int p.2.1,.int (p.2.2 - 1)])=H5 at S5 qu D7
    have D8:pH sg ow (p,sv)=[]->H5 l=some (.lst ((cW (cl.take (i+1)) sg ow).map V.int)):=λz=>by
     rw[pW e1,z,ie]
     exact qu
    refine⟨_,rfl,sv,rfl,_,rfl,bZ (λil=>?_) (λil=>vI ⟨_,_,_,_,rfl,S5,D8 (Rf (by cases z:dU sv with|true=>exact rfl|false=>exact absurd (by rw[z];rfl) il))⟩)⟩
    have il:dU sv=false:=by
     cases z:dU sv with
     |false=>rfl
     |true=>rw[z] at il;cases il
    refine⟨_,rfl,_,rfl,m,CM,dm,_,_,rfl,(S5 _ _ t8 nml),TM.cl,TM.n1,rfl,s,_,rfl,xS (p:=qD p) (S5 _ _ D6 nz) D7,_,rfl,bZ (λa7=>?_) (λa7=>vI ⟨_,_,_,_,rfl,S5,D8 (Sd ?_)⟩)⟩
    ·rw[j9] at a7
     obtain⟨zu,es⟩:=vo.mp a7
     obtain⟨ov,eo⟩:=vo.mp (sub _ a7)
     refine⟨_,rfl,m,CM,dm,_,_,rfl,(S5 _ _ t8 nml),TM.cl,TM.n1,rfl,_,rfl,s,_,rfl,sA (p:=qD p) (S5 _ _ D6 nz) D7 es,zu,rfl,_,rfl,bZ (λlg=>?_) (λlg=>⟨_,_,_,_,rfl,S5,D8 (Pu es lg)⟩)⟩
     refine⟨_,rfl,.inl ⟨rfl,_,cP.of qu⟩,_,rfl,m,CM,dm,_,_,rfl,(S5 _ _ t8 nml),TM.cl,TM.n2,rfl,_,rfl,o,_,rfl,sA (p:=qD p) (S5 _ _ wj MW) D7 eo,l,_,_,rfl,rfl,qu,?_,?_⟩
     ·have:=Fq (sg:=sg) (ow:=ow) (c:=(p,sv))
      rw[ai,c8]
      omega
     ·refine⟨_,_,_,_,rfl,λb ob eb nb=>?_,?_⟩
      ·rw[aC nb]
       exact S5 _ _ eb nb
      ·rw[aB,pW e1,Tb es il lg eo]
       simp only[c9,bn,vq]
    ·rw[j9] at a7
     cases z:aZ sg (qD p) with
     |none=>rfl
     |some y=>rw[z] at a7;exact absurd rfl a7
   ·have D9:mO sg ow (p,sv)=[]->H3 l=some (.lst ((cW (cl.take i) sg ow++mO sg ow (p,sv)).map V.int)):=λz=>by
     rw[z,ie]
     exact qx
    refine⟨_,rfl,sv,rfl,_,rfl,bZ (λj3=>?_) (λj3=>vI (xp _ _ ⟨_,rfl,S3,D9 (Pz j3),j2⟩))⟩
    refine⟨_,rfl,_,rfl,m,CM,dm,_,_,rfl,(S3 _ _ t8 nml),TM.cl,TM.n1,rfl,s,_,rfl,xS (p:=pT p) (S3 _ _ D6 nz) xi,_,rfl,bZ (λa7=>?_) (λa7=>vI (xp _ _ ⟨_,rfl,S3,D9 (Rx ?_),j2⟩))⟩
    ·rw[j9] at a7
     obtain⟨zu,es⟩:=vo.mp a7
     obtain⟨ov,eo⟩:=vo.mp (sub _ a7)
     refine⟨_,rfl,m,CM,dm,_,_,rfl,(S3 _ _ t8 nml),TM.cl,TM.n1,rfl,_,rfl,s,_,rfl,sA (p:=pT p) (S3 _ _ D6 nz) xi es,zu,rfl,_,rfl,bZ (λqo=>?_) (λqo=>xp _ _ ⟨_,rfl,S3,D9 (Rb es ?_),j2⟩)⟩
     ·have qo:dU zu=false:=by
       cases z:dU zu with
       |false=>rfl
       |true=>rw[z] at qo;cases qo
      refine⟨_,rfl,.inl ⟨rfl,_,cP.of qx⟩,_,rfl,m,CM,dm,_,_,rfl,(S3 _ _ t8 nml),TM.cl,TM.n2,rfl,_,rfl,o,_,rfl,sA (p:=pT p) (S3 _ _ wj MW) xi eo,l,_,_,rfl,rfl,qx,?_,xp _ _ ?_⟩
      ·rw[ai]
       omega
      ·refine⟨_,rfl,λb ob eb nb=>?_,?_,?_⟩
       ·rw[aC nb]
        exact S3 _ _ eb nb
       ·rw[aB,Ut es j3 qo eo]
        simp only[c9,bn,vq]
       ·rw[aC UW]
        exact j2
     ·cases z:dU zu with
      |true=>rfl
      |false=>exact absurd (by rw[z];rfl) qo
    ·rw[j9] at a7
     cases z:aZ sg (pT p) with
     |none=>rfl
     |some y=>rw[z] at a7;exact absurd rfl a7
  ·rintro σ H1 ⟨v4,v5,v6,v7,rfl,S1,mh⟩
   rw[iC,jo] at mh
   refine⟨S1 _ _ n8 ve,?_⟩
   have S2:=Mv hd hl S1
   have i4:upd H1 d (.dT (aJ cl)) l=some (.lst ((cW cl sg ow).map V.int)):=by rw[aC (au ve)];exact mh
   exact⟨_,rfl,k _ l S2 hl i4⟩
end Br1
namespace L2
open PySem PySem.Spec PyProof.Rows
variable{K:Frag}
theorem Qr(Pv:Nat->St->Hp->Prop)(h0:Pv 0 σ H)(hl:∀i σ H,i<=xs.length->Pv i σ H->cP K H a xs)
  (hs:∀i x σ H T,xs[i]?=some x->Pv i σ H->H T=none->g (.ref T) σ (upd H T (.tup [.int (i:Nat),x])) λa6 H2=>tb {D with nx:=Pv (i+1),ct:=Pv (i+1),bk:=D.nx} a6 H2) (hd:∀ σ H,Pv xs.length σ H->D.nx σ H):
  ∃W:Nat->Nat->St->Hp->Prop,(∃m,W 0 m σ H)/\∀i m σ H,W i m σ H->
   ((Ite K a).stop i H/\D.nx σ H)\/((Ite K a).go i H/\∃N:St->Hp->Prop,(∀ah H',N ah H'->∃m',m'<m/\W (i+1) m' ah H')/\∀x H',(Ite K a).yld i H x H'->g x σ H' λa6 H2=>tb {D with nx:=N,ct:=N,bk:=D.nx} a6 H2):=by
 refine⟨λi m σ H=>m=xs.length - i/\i<=xs.length/\Pv i σ H,⟨xs.length,by simp,c7 _,h0⟩,?_⟩
 rintro i m σ H ⟨rfl,hi,p⟩
 have q:=hl i σ H hi p
 by_cases am:i<xs.length
 ·refine .inr ⟨⟨xs,xs[i],q,by simp[am]⟩,Pv (i+1),λah H' p'=>⟨xs.length - (i+1),by omega,rfl,am,p'⟩,λx H' y=>?_⟩
  obtain⟨T,x',rfl,hT,rfl,y⟩:=y
  exact hs i x' σ H T (y xs q) p hT
 ·have e:i=xs.length:=by omega
  subst e
  exact .inl ⟨⟨xs,q,ap _⟩,hd σ H p⟩
end L2
namespace Br1
open PySem PySem.Spec PyProof.Rows L2
theorem Fd{cl:CL}{c:Pl×Int}(e:cl[i]?=some c):fW ow (cl.take (i+1))=fW ow (cl.take i)++(aZ ow c.1).toList:=by
 unfold fW
 rw[jg,e,List.filterMap_append]
 show _++List.filterMap _ [c]=_
 cases h:aZ ow c.1<;>simp[h]
theorem Xu(ow cl:CL):(fW ow cl).length<=cl.length:=by
 unfold fW
 exact List.length_filterMap_le _ _
theorem Wo{cl:CL}(h:¬0<(fW ow cl).length):∀c∈cl,aZ ow c.1=none:=by
 intro c hc
 cases e:aZ ow c.1 with
 |none=>rfl
 |some k=>
  have:k∈fW ow cl:=AA.mpr ⟨c,hc,e⟩
  exact absurd (PD this) h
def Iq(j:Nat)(cl:CL):CL:=cl.map λc=>(c.1,(j:Int))
theorem Ni{dct cl:CL}{p:Pl}{s v:Int}(f:Pl×Int->Pl×Int)(hf:∀c,(f c).1=c.1)(nd:(cl.map (·.1)).Nodup)(fr:∀c∈cl,aZ dct c.1=none)(e:cl[i]?=some (p,s))(hv:(f (p,s)).2=v):
  jU (aJ (dct++(cl.take i).map f)) (eJ p.1 p.2.1 p.2.2) (V.int v)=aJ (dct++(cl.take (i+1)).map f):=by
 rw[Mf]
 ·rw[jg,e,c9,rg]
  show aJ (dct++(_++[(p,v)]))=aJ (dct++(_++[f (p,s)]))
  rw[<-hv]
  have:f (p,s)=(p,(f (p,s)).2):=d6 (hf _) rfl
  rw[<-this]
 ·rw[zR,fr _ (fj e)]
  show aZ _ _=none
  refine Cg λc hc z=>?_
  obtain⟨c0,h0,rfl⟩:=a8.mp hc
  rw[hf] at z
  exact yO nd e c0 h0 z
def xZ(cl sg ow:CL)(j:Int):List Int:=if 0<(fW ow cl).length then [2,j,iD (fW ow cl)] else if 0<(cW cl sg ow).length then [3,j,iD (cW cl sg ow)] else []
variable{K:Frag}
def yY(CM:Addr):Sp:=λvs H Q _=>∃(d m dm wr s o:Addr)(cl sg ow:CL)(j:Int),vs=[.ref m,.ref d,.int j]/\H m=some (.ins CM dm (Iy s o wr))/\H d=some (.dT (aJ cl))/\H s=some (.dT (aJ sg))/\H o=some (.dT (aJ ow))/\d≠s/\d≠o/\(∀p,(aZ sg p).isSome=true->(aZ ow p).isSome=true)/\cl.length<20000/\
 ∀(H':Hp)(l:Addr),aK H H'->H l=none->H' l=some (.lst ((xZ cl sg ow j).map V.int))->Q (.ref l) H'
abbrev Oo:List Str:=["room","cells","j","hit","blocked","place"]
theorem pB:aN Oo ["room","cells","j"] (aG rE):=⟨rfl,rfl,rfl,by decide+kernel,rfl,by decide+kernel,by decide+kernel⟩
theorem Qi(F:eZ K "wrong_with" "wrong_with" rE f fd)(TM:RmT K CM)(bi:mg "len"=none)(zv:mg "min"=none)(L1:dE P w K mg base "blocked_lines" bN 2 ["cells","room"] (tY CM)):bO P w K mg base bN 3 f fd ["room","cells","j"] (yY CM):=by
 obtain⟨g1,gc,G1,b1,k1,h1⟩:=L1.ex
 refine F.ok pB (λvs H Q E h=>?_) (λak A outer s H vs Q E hr h=>?_)
 ·obtain⟨d,m,dm,wr,s,o,cl,sg,ow,j,rfl,_⟩:=h
  rfl
 ·obtain⟨d,m,dm,wr,s,o,cl,sg,ow,j,rfl,hm,hd,hs,ho,t7,qw,sub,ln,k⟩:=h
  have a9:=hr.mono (j:=2) (by decide)
  have hu:=iQ hr
  have hsz:=jT
  refine⟨_,aF (lT (rK (i:=3) (tt:=tB (aFj (cU 5) (Yq K (cU 0) "owners"))) (te:=Uz (Yq K (cU 0) "owners") (cU 5)) (own:=[("place",5)]) rfl pB.nd rfl rfl rfl (Mu (pv 1)) (eN (N:=Oo) (sc:=aG rE) (by decide+kernel))
     (λ_ _ _ _ _=>bE (i:=5) pB.nd rfl (Or.inl rfl)) (λ_ _ _ _ _=>Zk (dS (tZ hu (pv 5) (aU (pv 0) rfl)))) (λ_ _ _ _ _=>oJ hu (aU (pv 0) rfl) (pv 5) (λ_ _=>rfl))))
   (aF (eA (dS (sN (bS bW (by rfl) bi boot_len (aA (pv 3) aE)) aI)) (aH (aR (eD (aA aI (aA (pv 2) (aA (bS (yC rfl) (by rfl) zv boot_min (aA (pv 3) aE)) aE)))))) bX)
   (aF (bF (i:=4) pB.nd rfl (Or.inl rfl) (aP G1 a9 (by rfl) h1 k1 b1 .nil aX (aA (pv 1) (aA (pv 0) aE))))
   (aF (eA (dS (sN (bS bW (by rfl) bi boot_len (aA (pv 4) aE)) aI)) (aH (aR (eD (aA aI (aA (pv 2) (aA (bS (yC rfl) (by rfl) zv boot_min (aA (pv 4) aE)) aE)))))) bX)
   (aH (aR (eD aE)))))),?_⟩
  refine⟨d,_,hd,trivial,λod=>?_⟩
  have xo:m≠d:=λz=>by rw[z,hd] at hm;cases hm
  have n8:upd H d (.frz od (.dT (aJ cl))) d=some (.frz od (.dT (aJ cl))):=aB
  have wj:upd H d (.frz od (.dT (aJ cl))) o=some (.dT (aJ ow)):=by rw[aC (au qw)];exact ho
  have t8:upd H d (.frz od (.dT (aJ cl))) m=some (.ins CM dm (Iy s o wr)):=by rw[aC xo];exact hm
  refine⟨_,rfl,d,od,rfl,.inr ⟨aJ cl,n8,λDl c6=>?_⟩⟩
  refine Fs (λi H'=>aK (upd H d (.frz od (.dT (aJ cl)))) H'/\H' Dl=some (.lst ((fW ow (cl.take i)).map V.int))) ⟨aK.new c6,aB⟩ (λi H' _ p=>p.1 _ _ n8) ?_ ?_
  ·rintro i kk vv q H5 e5 ⟨S5,BV⟩ hq
   obtain⟨p,sv,e6,rfl,rfl⟩:=iJ e5
   have hi:i<cl.length:=(bp.mp e6).1
   refine⟨rfl,_,rfl,_,rfl,m,CM,dm,_,_,rfl,S5 _ _ t8,TM.cl,TM.n2,rfl,o,_,rfl,xS (p:=p) (S5 _ _ wj) hq,_,rfl,bZ (λa7=>?_) (λa7=>?_)⟩
   ·rw[j9] at a7
    obtain⟨ov,eo⟩:=vo.mp a7
    refine⟨_,rfl,m,CM,dm,_,_,rfl,S5 _ _ t8,TM.cl,TM.n2,rfl,_,rfl,o,_,rfl,sA (p:=p) (S5 _ _ wj) hq eo,_,BV,?_,λb2 ob MX=>?_,?_⟩
    ·rw[ai]
     have:=Xu ow (cl.take i)
     rw[gf] at this
     omega
    ·rw[aC (aD MX c6)]
     exact S5 _ _ MX
    ·rw[aB,Fd e6]
     show some (HO.lst _)=some (HO.lst ((fW ow (cl.take i)++(aZ ow p).toList).map V.int))
     rw[eo,c9]
     rfl
   ·refine⟨S5,?_⟩
    rw[j9] at a7
    rw[Fd e6]
    show _=some (HO.lst ((fW ow (cl.take i)++(aZ ow p).toList).map V.int))
    cases z:aZ ow p with
    |none=>show _=some (HO.lst ((fW ow (cl.take i)++[]).map V.int));rw[ie];exact BV
    |some y=>rw[z] at a7;exact absurd rfl a7
  ·rintro H5 ⟨S5,BV⟩
   rw[iC,jo] at BV
   refine⟨S5 _ _ n8,?_⟩
   have S6:=iK hd S5
   have MY:Dl≠d:=λz=>by rw[z,n8] at c6;cases c6
   have XF:H Dl=none:=by rw[aC MY] at c6;exact c6
   have IE:upd H5 d (.dT (aJ cl)) Dl=some (.lst ((fW ow cl).map V.int)):=by rw[aC MY];exact BV
   have zw:upd H5 d (.dT (aJ cl)) d=some (.dT (aJ cl)):=aB
   generalize upd H5 d (.dT (aJ cl))=H6 at S6 IE zw
   unfold xZ at k
   refine⟨_,rfl,Dl,_,rfl,.inl (cP.of IE),_,_,rfl,rfl,_,rfl,bZ (λhh=>?_) (λhh=>?_)⟩
   ·have hh:(0:Int)<(((fW ow cl).map V.int).length:Int):=dw hh
    rw[ai] at hh
    have qm:0<(fW ow cl).length:=by omega
    rw[af qm] at k
    refine⟨_,rfl,_,rfl,Dl,_,rfl,cP.of IE,qm,λmn n9 t9=>⟨by show 3<=sizeLine;decide,λl hl=>?_⟩⟩
    refine k _ l (S6.trans (aK.new hl)) (S6.free hl) ?_
    rw[aB,<-Mt n9 t9]
    rfl
   ·have hh:¬(0:Int)<(((fW ow cl).map V.int).length:Int):=λz=>hh (decide_eq_true z)
    rw[ai] at hh
    have qm:¬0<(fW ow cl).length:=by omega
    rw[ae qm] at k
    refine⟨_,rfl,_,rfl,d,m,dm,wr,s,o,cl,sg,ow,rfl,S6 _ _ hm,zw,S6 _ _ hs,S6 _ _ ho,t7,qw,sub,ln,λH7 bl S7 MN MZ=>?_⟩
    have D':=S6.trans S7
    refine⟨_,rfl,bl,_,rfl,.inl (cP.of MZ),_,_,rfl,rfl,_,rfl,bZ (λhh=>?_) (λhh=>?_)⟩
    ·have hh:(0:Int)<(((cW cl sg ow).map V.int).length:Int):=dw hh
     rw[ai] at hh
     have zx:0<(cW cl sg ow).length:=by omega
     rw[af zx] at k
     refine⟨_,rfl,_,rfl,bl,_,rfl,cP.of MZ,zx,λmn n9 t9=>⟨by show 3<=sizeLine;decide,λl hl=>?_⟩⟩
     refine k _ l (D'.trans (aK.new hl)) (D'.free hl) ?_
     rw[aB,<-Mt n9 t9]
     rfl
    ·have hh:¬(0:Int)<(((cW cl sg ow).map V.int).length:Int):=λz=>hh (decide_eq_true z)
     rw[ai] at hh
     have zx:¬0<(cW cl sg ow).length:=by omega
     rw[ae zx] at k
     exact⟨c7 _,λl hl=>k _ l (D'.trans (aK.new hl)) (D'.free hl) aB⟩
theorem Gy(ok:∀pr∈U,dC pr){x:List Nat}(hx:Et U.length x):Nj U (nB x)=jP (tX U x) (eC x 2) (eC x 3) (eC x 4):=by
 rw[<-Ak ok hx.2]
 obtain⟨a0,a1,a2,a3,a4,a5,rfl⟩:=six hx.1
 show oS U ((a0:Int).toNat) ((a5:Int).toNat) a2 a3 a4=oS U a0 a5 a2 a3 a4
 rw[fc,fc]
theorem aAu{x:List Nat}(e:ls[j]?=some x):wU U (ls.take (j+1))=wU U (ls.take j)++[(Br.Line.shape (U.map bQ) (eI x),cX U x)]:=by
 unfold wU
 rw[jg,e,c9]
 rfl
theorem aCo:(wU U ls).length=ls.length:=ai _
def Jz(CM:Addr)(H:Hp)(m:Addr)(U:List aL)(ls:List (List Nat)):Prop:=∃(dm s o wr:Addr)(sg ow:CL),H m=some (.ins CM dm (Iy s o wr))/\H wr=some (.lst ((cE U 0 [] [] ls).map V.int))/\H s=some (.dT (aJ sg))/\H o=some (.dT (aJ ow))/\s≠o/\
 (cE U 0 [] [] ls=[]->sg=sgZ (wU U ls)/\ow=Yd (wU U ls))/\sg.length<=5120000/\ow.length<=5120000
structure FW(CM:Addr)(H:Hp)(m dm s o:Addr)(U:List aL)(ls:List (List Nat))(j:Nat)(sg ow:CL)(H':Hp):Prop where
 sm:aK H H'
 hm:∃wr,H' m=some (.ins CM dm (Iy s o wr))/\H' wr=some (.lst [])
 hs:H' s=some (.dT (aJ sg))
 ho:H' o=some (.dT (aJ ow))
 sub:∀p,(aZ sg p).isSome=true->(aZ ow p).isSome=true
 l1:sg.length<=j * 20000
 l2:ow.length<=j * 20000
 er:cE U 0 [] [] ls=cE U j sg ow (ls.drop j)
 eg:sg=sgZ (wU U (ls.take j))
 eo:ow=Yd (wU U (ls.take j))
theorem FW.same{m dm s o:Addr}(f:FW CM H m dm s o U ls j sg ow H1)(S:aK H1 H2):FW CM H m dm s o U ls j sg ow H2:=by
 obtain⟨wr,h1,h2⟩:=f.hm
 exact⟨f.sm.trans S,⟨wr,S _ _ h1,S _ _ h2⟩,S _ _ f.hs,S _ _ f.ho,f.sub,f.l1,f.l2,f.er,f.eg,f.eo⟩
theorem Yo{f:Str}{B:TS}{σ:List (Option V)}(M:V->Hp->Prop)(h1:∀Q:VK,(∀y H',M y H'->Q y H')->tv σ H Q)(h2:∀y H',M y H'->aDd K ta (tC y) f {D with nx:=B D} σ H'):Fu (aDd K ta tv f) B D σ H:=h1 _ h2
def Lo(K:Frag)(CP CM:Addr):Sp:=λvs H Q _=>∃(pa la:Addr)(bs ts:List Addr)(U:List aL) (ls:List (List Nat)),vs=[.ref pa,.ref la]/\H pa=some (.lst (bs.map V.ref))/\dF CP H bs U/\H la=some (.lst (ts.map V.ref))/\jL H ts ls/\
 (∀pr∈U,dC pr)/\(∀x∈ls,Et U.length x/\eC x 5<=3)/\ls.length<=256/\∀(H':Hp)(m:Addr),aK H H'->H m=none->Jz CM H' m U ls->Q (.ref m) H'
abbrev aEy:List Str:=["parts","lines","room","j","put","cells","place","sign"]
theorem lW:aN aEy ["parts","lines"] (aG Mr):=⟨rfl,rfl,rfl,by decide+kernel,rfl,by decide+kernel,by decide+kernel⟩
theorem aAa(F:eZ K "fill_room" "fill_room" Mr f fd)(TM:RmT K CM)(RM:RmM P w K mg base CM)(bi:mg "len"=none)(HB:mg "enumerate"=none)(L1:dE P w K mg base "cells_in_room" bN 5 ["parts","put"] (Kc K CP))
  (L2:dE P w K mg base "leaves_room" bN 2 ["parts","put"] (sJ K CP)) (L3:dE P w K mg base "wrong_with" bN 3 ["room","cells","j"] (yY CM)):bO P w K mg base bN 6 f fd ["parts","lines"] (Lo K CP CM):=by
 obtain⟨g1,gc,G1,b1,k1,h1⟩:=L1.ex
 obtain⟨g2,ky,G2,b2,k2,h2⟩:=L2.ex
 obtain⟨g3,BH,G3,b3,k3,h3⟩:=L3.ex
 obtain⟨fm,XG,MM,GM,bM⟩:=RM.ex
 refine F.ok lW (λvs H Q E h=>?_) (λak A outer s H vs Q E hr h=>?_)
 ·obtain⟨pa,la,bs,ts,U,ls,rfl,_⟩:=h
  rfl
 ·obtain⟨pa,la,bs,ts,U,ls,rfl,ck,cf,d7,xq,hok,DT,kx,k⟩:=h
  have a9:=hr.mono (j:=2) (by decide)
  have iw:=hr.mono (j:=3) (by decide)
  have hu:=iQ hr
  have hsz:=jT
  refine⟨_,aF (bF (i:=2) lW.nd rfl (Or.inl rfl) (Ts MM GM a9 (by rfl) RM.mg bM .nil aX))
   (aF (eG jy rfl (Xz (by rfl) HB (aA (pv 1) aE)) (nG rfl (dI (bE (i:=3) lW.nd rfl (Or.inl rfl)) (dI (bE (i:=4) lW.nd rfl (Or.inl rfl)) jO)))
    (aF (bF (i:=5) lW.nd rfl (Or.inl rfl) (aP G1 hr (by rfl) h1 k1 b1 .nil aX (aA (pv 0) (aA (pv 4) aE))))
    (aF (dZ (pv 2) (Fx (eQ (aP G2 a9 (by rfl) h2 k2 b2 .nil aX (aA (pv 0) (aA (pv 4) aE)))) (eD (aA aI (aA (pv 3) (aA (pv 3) aE)))) (aP G3 iw (by rfl) h3 k3 b3 .nil aX (aA (pv 2) (aA (pv 5) (aA (pv 3) aE))))) rfl)
    (aF (eA (dS (sN (bS bW (by rfl) bi boot_len (aA (aU (pv 2) rfl) aE)) aI)) (aH (aR (pv 2))) bX)
    (aH (lT (eG jy rfl (kY (pv 5)) (nG rfl (dI (bE (i:=6) lW.nd rfl (Or.inl rfl)) (dI (bE (i:=7) lW.nd rfl (Or.inl rfl)) jO)))
     (aF (lF hu (aU (pv 2) rfl) (pv 6) (pv 7) rfl) (aH (lF hu (aU (pv 2) rfl) (pv 6) (pv 3) rfl))))))))))
   (aH (aR (pv 2)))),?_⟩
  intro m dm BW UX aw
  refine⟨m,dm,rfl,aB,λH1 s0 o0 UY n9 j3 UZ U0 fs fo XH zy sx=>⟨rfl,?_⟩⟩
  have S1:aK H H1:=λy o e=>sx y o (by rw[aC (aD e BW),aC (aD e UX)];exact e) (aD e BW)
  have nsm:s0≠m:=λz=>by rw[z,aB] at fs;cases fs
  have EA:o0≠m:=λz=>by rw[z,aB] at fo;cases fo
  have A4:s0≠dm:=λz=>by rw[z,aC aw,aB] at fs;cases fs
  have nod:o0≠dm:=λz=>by rw[z,aC aw,aB] at fo;cases fo
  have U1:H s0=none:=by rw[aC nsm,aC A4] at fs;exact fs
  have U2:H o0=none:=by rw[aC EA,aC nod] at fo;exact fo
  have i4:ts.length=ls.length:=Paired.length xq
  refine⟨_,rfl,la,_,rfl,cP.of (S1 _ _ d7),?_⟩
  refine Qr (xs:=ts.map V.ref) (λj σ H'=>∃sg ow v3 v4 v5 v6 v7,σ=[some (.ref pa),some (.ref la),some (.ref m),v3,v4,v5,v6,v7]/\FW CM H m dm s0 o0 U ls j sg ow H')
   ⟨[],[],none,none,none,none,none,rfl,S1,⟨UY,n9,U0⟩,j3,UZ,λp z=>(by cases z),(by simp),(by simp),rfl,rfl,rfl⟩ ?_ ?_ ?_
  ·rintro i σ H2 hi ⟨sg,ow,v3,v4,v5,v6,v7,rfl,fw⟩
   exact cP.of (fw.sm _ _ d7)
  ·rintro j xv σ H2 T ex ⟨sg,ow,v3,v4,v5,v6,v7,rfl,fw⟩ hT
   have hj:j<ls.length:=by
    have:=(bp.mp ex).1
    rwa [ai,i4] at this
   obtain⟨x,EB⟩:∃x,ls[j]?=some x:=⟨_,ax hj⟩
   obtain⟨t,et,ht,BS⟩:=bT xq EB
   rw[bg,et] at ex
   cases ex
   obtain⟨uz,IA⟩:=DT x (fj EB)
   have edrop:ls.drop j=x::ls.drop (j+1):=by
    obtain⟨h0,h1⟩:=bp.mp EB
    rw[E7 h0,h1]
   have er:=fw.er
   rw[edrop,cE] at er
   have IF:=aAu (U:=U) EB
   have etk:(ls.take j).length=j:=by rw[gf];omega
   obtain⟨sr,_⟩:=qM hok uz.2
   have IG:=sr.nd
   have ST:=aK.new (o:=.tup [.int (j:Nat),.ref t]) hT
   refine⟨T,_,rfl,cG.of aB,rfl,_,_,rfl,_,_,rfl,rfl,?_⟩
   have xr:=fw.same ST
   generalize upd H2 T (.tup [.int (j:Nat),.ref t])=H3 at xr
   have U3:dF CP H3 bs U:=Paired.mapP cf λ_ _ z=>⟨z.1.same xr.sm,z.2⟩
   refine⟨_,rfl,_,rfl,pa,t,bs,U,x,rfl,cP.of (xr.sm _ _ ck),U3,hok,xr.sm _ _ ht,uz,IA,λH4 d S4 xm BX=>?_⟩
   have o8:=xr.same S4
   have t7:d≠s0:=λz=>by rw[z,xr.hs] at xm;cases xm
   have qw:d≠o0:=λz=>by rw[z,xr.ho] at xm;cases xm
   have M0:(cX U x).length<20000:=by
    obtain⟨pr,jt⟩:∃pr,U[eC x 0]?=some pr:=⟨_,ax uz.2⟩
    obtain⟨b,eb,D5,md⟩:=bT cf jt
    have tok:rG (iY pr):=⟨(Fl (hok pr (fj jt))).nd,md.len⟩
    have IB:tX U x=eW (iY pr) (eC x 5):=by
     unfold tX
     rw[jt]
     rfl
    unfold cX Hu
    rw[ai,IB]
    exact(tok.turns _).ln
   have M':=Gy hok uz
   generalize cX U x=cl at er BX IG M0 IF
   have U4:dF CP H4 bs U:=Paired.mapP cf λ_ _ z=>⟨z.1.same o8.sm,z.2⟩
   obtain⟨wr,xt,XI⟩:=o8.hm
   have xo:m≠d:=λz=>by rw[z,BX] at xt;cases xt
   refine aBp ?_
   dsimp only
   refine Yo (λy H5=>∃(l:Addr)(ws:List Int),y=.ref l/\aK H4 H5/\H4 l=none/\H5 l=some (.lst (ws.map V.int))/\(0<ws.length->cE U 0 [] [] ls=ws)/\(ws=[]->cE U 0 [] [] ls=cE U (j+1) (sg++cl) (ow++cl.map λc=>(c.1,(j:Int))) (ls.drop (j+1))/\¬0<(fW ow cl).length)) (λQ2 xp=>?_) ?_
   ·have BP:sV H4 t (nB x):=⟨by rw[<-Uh];exact o8.sm _ _ ht,by unfold nB;rw[ai];exact BS⟩
    have qv:iN (nB x) 0=(eC x 0:Int):=by
     obtain⟨a0,a1,a2,a3,a4,a5,rfl⟩:=six BS
     rfl
    have tu:iN (nB x) 5=(eC x 5:Int):=by
     obtain⟨a0,a1,a2,a3,a4,a5,rfl⟩:=six BS
     rfl
    refine⟨_,rfl,_,rfl,pa,t,bs,U,nB x,rfl,cP.of (o8.sm _ _ ck),U4,BP,by rw[qv];omega,by rw[qv,fc];exact uz.2,by rw[tu];omega,λH5 S5=>⟨_,rfl,bZ (λhl=>?_) (λhl=>?_)⟩⟩
    ·rw[M'] at hl
     rw[af hl] at er
     refine⟨_,rfl,_,rfl,by show 3<=sizeLine;decide,λl hl=>xp _ _ ⟨l,[1,(j:Int),(j:Int)],rfl,S5.trans (aK.new hl),S5.free hl,aB,λ_=>er,λz=>(by cases z)⟩⟩
    ·rw[M'] at hl
     rw[ae hl] at er
     refine⟨_,rfl,_,rfl,_,rfl,d,m,dm,wr,s0,o0,cl,sg,ow,(j:Int),rfl,S5 _ _ xt,S5 _ _ BX,S5 _ _ o8.hs,S5 _ _ o8.ho,t7,qw,fw.sub,M0,λH6 l S6 qy ss=>xp _ _ ⟨l,xZ cl sg ow (j:Int),rfl,S5.trans S6,S5.free qy,ss,λhw=>?_,λhw=>?_⟩⟩
     ·unfold xZ at hw ⊢
      by_cases hh:0<(fW ow cl).length
      ·rw[af hh] at er ⊢
       exact er
      ·rw[ae hh] at er hw ⊢
       by_cases hb:0<(cW cl sg ow).length
       ·rw[af hb] at er ⊢
        exact er
       ·rw[ae hb] at hw
        cases hw
     ·unfold xZ at hw
      by_cases hh:0<(fW ow cl).length
      ·rw[af hh] at hw
       cases hw
      ·rw[ae hh] at er hw
       by_cases hb:0<(cW cl sg ow).length
       ·rw[af hb] at hw
        cases hw
       ·rw[ae hb] at er
        exact⟨er,hh⟩
   ·rintro y H5 ⟨l,ws,rfl,S5,qy,qu,U5,U6⟩
    have nlm:l≠m:=λz=>by rw[z,xt] at qy;cases qy
    refine⟨_,rfl,m,CM,dm,_,rfl,S5 _ _ xt,TM.cl,TM.n3,(by show 3<1000;decide),?_⟩
    have EC:upd H5 m (.ins CM dm (Iy s0 o0 l)) m=some (.ins CM dm (Iy s0 o0 l)):=aB
    have ss:upd H5 m (.ins CM dm (Iy s0 o0 l)) l=some (.lst (ws.map V.int)):=by rw[aC nlm];exact qu
    have S6:∀y o,H4 y=some o->y≠m->upd H5 m (.ins CM dm (Iy s0 o0 l)) y=some o:=λy o e n=>by rw[aC n];exact S5 _ _ e
    have IH:aK H (upd H5 m (.ins CM dm (Iy s0 o0 l))):=λy o e=>S6 y o (o8.sm _ _ e) (aD e BW)
    have XJ:s0≠m:=nsm
    have xc:=S6 _ _ o8.hs nsm
    have II:=S6 _ _ o8.ho EA
    have zw:=S6 _ _ BX (au xo)
    show Fu _ _ _ _ (upd H5 m (.ins CM dm (Iy s0 o0 l)))
    generalize upd H5 m (.ins CM dm (Iy s0 o0 l))=H6 at EC ss IH xc II zw
    refine⟨_,rfl,m,CM,dm,_,_,rfl,EC,TM.cl,TM.n3,rfl,l,_,rfl,.inl (cP.of ss),_,_,rfl,rfl,_,rfl,bZ (λhh=>?_) (λhh=>?_)⟩
    ·have hh:(0:Int)<((ws.map V.int).length:Int):=dw hh
     rw[ai] at hh
     have e1:=U5 (by omega)
     refine⟨_,rfl,k _ m IH BW ⟨dm,s0,o0,l,sg,ow,EC,by rw[e1];exact ss,xc,II,zy,λz=>?_,by have:=fw.l1;omega,by have:=fw.l2;omega⟩⟩
     rw[e1] at z
     rw[z] at hh
     cases hh
    ·have hh:¬(0:Int)<((ws.map V.int).length:Int):=λz=>hh (decide_eq_true z)
     rw[ai] at hh
     have NA:ws=[]:=yn (by omega)
     obtain⟨HF,qm⟩:=U6 NA
     subst NA
     have NB:=Wo qm
     have frS:∀c∈cl,aZ sg c.1=none:=λc hc=>by
      cases z:aZ sg c.1 with
      |none=>rfl
      |some y=>
       have:=fw.sub c.1 (by rw[z];rfl)
       rw[NB c hc] at this
       cases this
     refine⟨d,_,zw,trivial,λxu=>?_⟩
     have IJ:upd H6 d (.frz xu (.dT (aJ cl))) d=some (.frz xu (.dT (aJ cl))):=aB
     have U7:upd H6 d (.frz xu (.dT (aJ cl))) s0=some (.dT (aJ sg)):=by rw[aC (au t7)];exact xc
     have U8:upd H6 d (.frz xu (.dT (aJ cl))) o0=some (.dT (aJ ow)):=by rw[aC (au qw)];exact II
     have NC:upd H6 d (.frz xu (.dT (aJ cl))) m=some (.ins CM dm (Iy s0 o0 l)):=by rw[aC xo];exact EC
     refine⟨_,rfl,d,xu,_,rfl,IJ,?_⟩
     refine iL (λi σ H'=>∃v6 v7,σ=[some (.ref pa),some (.ref la),some (.ref m),some (.int (j:Nat)),some (.ref t),some (.ref d),v6,v7]/\(∀y ob,upd H6 d (.frz xu (.dT (aJ cl))) y=some ob->y≠s0->y≠o0->H' y=some ob)/\H' s0=some (.dT (aJ (sg++(cl.take i).map id)))/\H' o0=some (.dT (aJ (ow++Iq j (cl.take i)))))
      ⟨_,_,rfl,λy ob ey _ _=>ey,by simpa using U7,by simpa[Iq] using U8⟩ ?_ ?_ ?_
     ·rintro i σ H8 hi ⟨v6,v7,rfl,S8,_⟩
      exact S8 _ _ IJ t7 qw
     ·rintro i σ H8 T8 kk vv q e8 ⟨v6,v7,rfl,S8,BY,ED⟩ U9 hq
      obtain⟨p,sv,e9,rfl,rfl⟩:=iJ e8
      have hi:i<cl.length:=(bp.mp e9).1
      have zz:=aK.new (o:=.tup [.ref q,.int sv]) U9
      refine⟨T8,_,rfl,cG.of aB,rfl,_,_,rfl,_,_,rfl,rfl,?_⟩
      have BZ:=zz _ _ hq
      have IK:=zz _ _ BY
      have ND:=zz _ _ ED
      have IL:=zz _ _ (S8 _ _ NC (au nsm) (au EA))
      generalize upd H8 T8 (.tup [.ref q,.int sv])=H9 at zz BZ IK ND IL
      have U':q≠s0:=λz=>by rw[z,IK] at BZ;cases BZ
      have D4:j<=256:=by omega
      have mh:=fw.l1
      have VA:=fw.l2
      refine⟨_,rfl,_,rfl,m,CM,dm,_,_,rfl,IL,TM.cl,TM.n1,rfl,_,rfl,s0,_,rfl,tE.tt (k:=eJ p.1 p.2.1 p.2.2) IK BZ (by rw[iC,c8,ai,gf];omega),?_⟩
      have ps:=Ni (dct:=sg) id (λ_=>rfl) IG frS e9 (v:=sv) rfl
      rw[ps]
      have VB:upd H9 s0 (.dT (aJ (sg++(cl.take (i+1)).map id))) o0=some (.dT (aJ (ow++Iq j (cl.take i)))):=by rw[aC (au zy)];exact ND
      have VC:upd H9 s0 (.dT (aJ (sg++(cl.take (i+1)).map id))) q=some (.tup ((eJ p.1 p.2.1 p.2.2).map kV)):=by rw[aC U'];exact BZ
      have VD:upd H9 s0 (.dT (aJ (sg++(cl.take (i+1)).map id))) m=some (.ins CM dm (Iy s0 o0 l)):=by rw[aC (au nsm)];exact IL
      refine⟨_,rfl,_,rfl,m,CM,dm,_,_,rfl,VD,TM.cl,TM.n2,rfl,_,rfl,o0,_,rfl,tE.tt (k:=eJ p.1 p.2.1 p.2.2) VB VC (by unfold Iq;rw[iC,c8,ai,gf];omega),?_⟩
      have po:=Ni (dct:=ow) (λc=>(c.1,(j:Int))) (λ_=>rfl) IG NB e9 (v:=(j:Int)) rfl
      have po:jU (aJ (ow++Iq j (cl.take i))) (eJ p.1 p.2.1 p.2.2) (V.int (j:Int))=aJ (ow++Iq j (cl.take (i+1))):=po
      refine⟨_,_,rfl,λy ob ey n1 n2=>?_,?_,?_⟩
      ·rw[aC n2,aC n1]
       exact zz _ _ (S8 _ _ ey n1 n2)
      ·rw[aC zy,aB]
      ·rw[aB]
       exact congrArg (λz=>some (HO.dT z)) po
     ·rintro σ H8 ⟨v6,v7,rfl,S8,BY,ED⟩
      rw[iC,jo] at BY ED
      rw[J9] at BY
      refine⟨S8 _ _ IJ t7 qw,?_⟩
      have e9:((j+1) * 20000)=j * 20000+20000:=by omega
      have mh:=fw.l1
      have VA:=fw.l2
      have VE:l≠s0:=λz=>by rw[z,o8.hs] at qy;cases qy
      have VF:l≠o0:=λz=>by rw[z,o8.ho] at qy;cases qy
      have NE:l≠d:=λz=>by rw[z,BX] at qy;cases qy
      refine⟨sg++cl,ow++Iq j cl,_,_,_,_,_,rfl,λy ob ey=>?_,⟨l,?_,?_⟩,?_,?_,λp hp=>?_,?_,?_,?_,?_,?_⟩
      ·have n1:y≠s0:=aD ey U1
       have n2:y≠o0:=aD ey U2
       have h7:=IH _ _ ey
       by_cases hy:y=d
       ·rw[hy] at h7 ⊢
        rw[aB,<-h7,zw]
       ·rw[aC hy]
        exact S8 _ _ (by rw[aC hy];exact h7) n1 n2
      ·rw[aC xo]
       exact S8 _ _ NC (au nsm) (au EA)
      ·rw[aC NE]
       exact S8 _ _ (by rw[aC NE];exact ss) VE VF
      ·rw[aC (au t7)]
       exact BY
      ·rw[aC (au qw)]
       exact ED
      ·rw[dN] at hp ⊢
       obtain⟨c,hc,e⟩:=hp
       rcases je.mp hc with hc|hc
       ·obtain⟨c2,dk,e2⟩:=dN.mp (fw.sub p (dN.mpr ⟨c,hc,e⟩))
        exact⟨c2,lq _ dk,e2⟩
       ·exact⟨(c.1,(j:Int)),gd _ (a8.mpr ⟨c,hc,rfl⟩),e⟩
      ·rw[c8]
       omega
      ·unfold Iq
       rw[c8,ai]
       omega
      ·exact HF
      ·rw[IF,wW,<-fw.eg]
      ·rw[IF,zQ,<-fw.eo,aCo,etk]
       rfl
  ·rintro σ H2 ⟨sg,ow,v3,v4,v5,v6,v7,rfl,fw⟩
   have er:=fw.er
   rw[ai,i4,List.drop_length] at er
   have er:cE U 0 [] [] ls=[]:=er
   have eg:=fw.eg
   have eo:=fw.eo
   rw[ai,i4,jo] at eg eo
   have l1:=fw.l1
   have l2:=fw.l2
   rw[ai,i4] at l1 l2
   obtain⟨wr,e1,e2⟩:=fw.hm
   exact⟨_,rfl,k _ m fw.sm BW ⟨dm,s0,o0,wr,sg,ow,e1,by rw[er];exact e2,fw.hs,fw.ho,zy,λ_=>⟨eg,eo⟩,by omega,by omega⟩⟩
theorem Nk:∀{ms:List Nat}{p:Nat}{r:List Nat×Nat},dA l ms p=.ok r->∀(i v m:Nat),r.1[i]?=some v->ms[i]?=some m->v<=m
 |[],p,r,h=>by
  intro i v m h1 h2
  simp at h2
 |m0::ms,p,r,h=>by
  rw[dA] at h
  obtain⟨p1,_,h⟩:=aM h
  obtain⟨u,eu,h⟩:=aM h
  obtain⟨q,eq,rfl⟩:=fV h
  intro i v m h1 h2
  cases i with
  |zero=>
   cases h1
   cases h2
   exact(lG (lo:=0) eu).2
  |succ i=>exact Nk eq i v m h1 h2
theorem Rr{q:List Nat×Nat}(h:eT aj l p=.ok q):eC q.1 5<=3:=by
 unfold eT at h
 obtain⟨p1,_,h⟩:=aM h
 obtain⟨n,en,h⟩:=aM h
 obtain⟨r,er,h⟩:=aM h
 obtain⟨_,_,h⟩:=aM h
 cases h
 have hl:=yK (r:=r) er
 have hl:r.1.length=5:=hl
 have e:r.1[4]?=some r.1[4]:=ax (by omega)
 have:=Nk er 4 r.1[4] 3 e rfl
 show (n.1::r.1).getD 5 0<=3
 rw[cx]
 show (r.1[4]?).getD 0<=3
 rw[e]
 exact this
theorem zL:∀{n p:Nat} {q:List (List Nat)×Nat},cJ aj l n p=.ok q->∀x∈q.1,eC x 5<=3
 |0,p,q,h=>by cases h;intro x hx;cases hx
 |n+1,p,q,h=>by
  rw[cJ] at h
  split at h
  ·cases h;intro x hx;cases hx
  ·obtain⟨q1,e1,h⟩:=aM h
   obtain⟨q2,e2,rfl⟩:=fV h
   intro x hx
   rcases ao.mp hx with rfl|hx
   ·exact Rr e1
   ·exact zL e2 x hx
theorem pC{nm:List Int}(h:cN lc lb=.ok U nm ls):gY lc=.ok U/\dP (U.map (·.name)) lb=.ok (nm,ls):=by
 unfold cN at h
 split at h
 ·cases h
 ·split at h
  ·cases h
  ·rename_i e1
   split at h
   ·split at h
    ·cases h
    ·rename_i e
     cases h
     exact⟨e1,e⟩
   ·cases h
theorem qY{lc lb:List Int}{U:List aL}{nm:List Int}{ls:List (List Nat)}(h:cN lc lb=.ok U nm ls):∀x∈ls,eC x 5<=3:=by
 have h:=(pC h).2
 unfold dP at h
 obtain⟨_,_,h⟩:=aM h
 obtain⟨_,_,h⟩:=aM h
 obtain⟨_,_,h⟩:=aM h
 obtain⟨r,er,h⟩:=aM h
 split at h
 ·cases h;exact zL er
 ·cases h
def aBh(CG CP CB CM:Addr)(H:Hp)(g:Addr):Yn->Prop
 |.no n=>∃dx pa,H g=some (.ins CG dx (Ev n 0 pa .non .non))
 |.bad i=>∃dx pa,H g=some (.ins CG dx (Ev (-5) i pa .non .non))
 |.ok U nm ls=>∃dx pa q m bs,H g=some (.ins CG dx (Ev (if cE U 0 [] [] ls=[] then 0 else -9) 0 pa (.ref q) (.ref m)))/\H pa=some (.lst (bs.map V.ref))/\dF CP H bs U/\yA CB H q nm ls/\Jz CM H m U ls/\U.length<=64
def xO(K:Frag)(CG CP CB CM:Addr):Sp:=λvs H Q _=>∃(c b:Addr)(lc lb:List Int),vs=[.ref c,.ref b]/\cP K H c (lc.map V.int)/\cP K H b (lb.map V.int)/\∀(H':Hp)(g:Addr),aK H H'->H g=none->aBh CG CP CB CM H' g (cN lc lb)->Q (.ref g) H'
theorem qN:aN ["c","b","given"] ["c","b"] (aG lL):=⟨rfl,rfl,rfl,by decide+kernel,rfl,by decide+kernel,by decide+kernel⟩
theorem Ea(F:eZ K "read_right" "read_right" lL f fd)(TG:GvT K CG)(TB:BdT K CB)(TM:RmT K CM)(bi:mg "len"=none)(L1:dE P w K mg base "read_given" bN 9 ["c","b"] (Em K CG CP CB))(L2:dE P w K mg base "fill_room" bN 6 ["parts","lines"] (Lo K CP CM)):bO P w K mg base bN 10 f fd ["c","b"] (xO K CG CP CB CM):=by
 obtain⟨g1,gc,G1,b1,k1,h1⟩:=L1.ex
 obtain⟨g2,ky,G2,b2,k2,h2⟩:=L2.ex
 refine F.ok qN (λvs H Q E h=>?_) (λak A outer s H vs Q E hr h=>?_)
 ·obtain⟨c,b,lc,lb,rfl,_⟩:=h
  rfl
 ·obtain⟨c,b,lc,lb,rfl,hc,hb,k⟩:=h
  have VG:=hr.mono (j:=6) (by decide)
  refine⟨_,aF (bF (i:=2) qN.nd rfl (Or.inl rfl) (aP G1 hr (by rfl) h1 k1 b1 .nil aX (aA (pv 0) (aA (pv 1) aE))))
   (aF (eA (fM rD (aU (pv 2) rfl) aI (gX _))
    (aF (dZ (pv 2) (aP G2 VG (by rfl) h2 k2 b2 .nil aX (aA (aU (pv 2) rfl) (aA (aU (aU (pv 2) rfl) rfl) aE))) rfl)
    (aH (eA (dS (sN (bS bW (by rfl) bi boot_len (aA (aU (aU (pv 2) rfl) rfl) aE)) aI)) (aH (dZ (pv 2) (rV lO aI) rfl)) bX))) bX)
   (aH (aR (pv 2)))),?_⟩
  refine⟨_,rfl,_,rfl,c,b,lc,lb,rfl,hc,hb,λH1 g S1 EE hg=>?_⟩
  cases eg:cN lc lb with
  |no n=>
   rw[eg] at k hg
   obtain⟨dx,pa,hg⟩:=hg
   have hn:=Ll eg
   refine⟨_,rfl,g,CG,dx,_,_,rfl,hg,TG.cl,TG.n1,rfl,rfl,_,rfl,bZ (λe=>?_) (λe=>?_)⟩
   ·rw[gZ] at e
    have:=dw e
    omega
   ·exact⟨_,rfl,k _ g S1 EE ⟨dx,pa,hg⟩⟩
  |bad i=>
   rw[eg] at k hg
   obtain⟨dx,pa,hg⟩:=hg
   refine⟨_,rfl,g,CG,dx,_,_,rfl,hg,TG.cl,TG.n1,rfl,rfl,_,rfl,bZ (λe=>?_) (λe=>?_)⟩
   ·rw[gZ] at e
    exact absurd (dw e) (by decide)
   ·exact⟨_,rfl,k _ g S1 EE ⟨dx,pa,hg⟩⟩
  |ok U nm ls=>
   rw[eg] at k hg
   obtain⟨dx,pa,q,bs,hg,ck,cf,BN,jd,su⟩:=hg
   obtain⟨EF,na,la,ts,hq,m7,d7,xq,kx,VH⟩:=id BN
   have six:=vN eg
   have trn:=qY eg
   refine⟨_,rfl,g,CG,dx,_,_,rfl,hg,TG.cl,TG.n1,rfl,rfl,_,rfl,bZ (λe=>?_) (λe=>absurd (by decide) e)⟩
   refine⟨_,rfl,g,CG,dx,_,_,rfl,hg,TG.cl,TG.n3,rfl,_,rfl,g,CG,dx,_,_,rfl,hg,TG.cl,TG.n4,rfl,q,CB,EF,_,_,rfl,hq,TB.cl,TB.n2,rfl,pa,la,bs,ts,U,ls,rfl,ck,cf,d7,xq,Sx (pC eg).1,λx hx=>⟨six x hx,trn x hx⟩,kx,λH2 m S2 n9 NF=>?_⟩
   have mi:=S1.trans S2
   obtain⟨dm,s0,o0,wr,sg,ow,r1,r2,r3,r4,r5⟩:=id NF
   have NG:m≠g:=λz=>by rw[z,hg] at n9;cases n9
   have lj:=S2 _ _ hg
   refine⟨_,rfl,g,CG,dx,_,rfl,lj,TG.cl,TG.n5,(by show 5<1000;decide),?_⟩
   have keep:∀(rf:Int)(bv:V),(∀y o,H y=some o->upd H2 g (.ins CG dx (Ev rf 0 pa (.ref q) bv)) y=some o):=λrf bv y o e=>by
    rw[aC (aD e EE)]
    exact mi _ _ e
   have mf:∀(rf:Int){y:Addr}{o:HO},y≠g->H2 y=some o->upd H2 g (.ins CG dx (Ev rf 0 pa (.ref q) (.ref m))) y=some o:=λrf y o n e=>by rw[aC n];exact e
   have fin:∀(rf:Int)(H3:Hp),rf=(if cE U 0 [] [] ls=[] then 0 else -9)->H3=upd H2 g (.ins CG dx (Ev rf 0 pa (.ref q) (.ref m)))->Q (.ref g) H3:=λrf H3 er e3=>by
    subst e3
    have n1:∀{y:Addr}{o:HO},H2 y=some o->(∀C dx fs,o≠.ins C dx fs)->upd H2 g (.ins CG dx (Ev rf 0 pa (.ref q) (.ref m))) y=some o:=λ{y o} e nn=>mf rf (λz=>by
     rw[z,lj] at e
     cases e
     exact nn _ _ _ rfl) e
    have nq:q≠g:=λz=>by
     rw[z,hg] at hq
     injection hq with hq
     injection hq with _ _ hq
     cases hq
    have DY:dF CP (upd H2 g (.ins CG dx (Ev rf 0 pa (.ref q) (.ref m)))) bs U:=by
     refine Paired.mapP cf λb' pr z=>⟨?_,z.2⟩
     obtain⟨VI,VJ,cc,f1,f2,f3⟩:=z.1
     have nb:b'≠g:=λz=>by
      rw[z,hg] at f1
      injection f1 with f1
      injection f1 with _ _ f1
      cases f1
     exact⟨VI,VJ,cc,mf rf nb (S2 _ _ f1),n1 (S2 _ _ f2) (by intro _ _ _ z;cases z),n1 (S2 _ _ f3) (by intro _ _ _ z;cases z)⟩
    refine k _ g (keep rf _) EE ⟨dx,pa,q,m,bs,by rw[aB,er],n1 (S2 _ _ ck) (by intro _ _ _ z;cases z),DY,⟨EF,na,la,ts,mf rf nq (S2 _ _ hq),n1 (S2 _ _ m7) (by intro _ _ _ z;cases z),n1 (S2 _ _ d7) (by intro _ _ _ z;cases z),xq.keep λy xs e=>n1 (S2 _ _ e) (by intro _ _ _ z;cases z),kx,VH⟩,
     ⟨dm,s0,o0,wr,sg,ow,mf rf NG r1,n1 r2 (by intro _ _ _ z;cases z),n1 r3 (by intro _ _ _ z;cases z),n1 r4 (by intro _ _ _ z;cases z),r5⟩,su⟩
   have NH:upd H2 g (.ins CG dx (Ev 0 0 pa (.ref q) (.ref m))) g=some (.ins CG dx (Ev 0 0 pa (.ref q) (.ref m))):=aB
   have IM:=mf 0 NG r1
   have VL:wr≠g:=λz=>by rw[z,lj] at r2;cases r2
   have VM:=mf 0 VL r2
   refine⟨_,rfl,g,CG,dx,_,_,rfl,NH,TG.cl,TG.n5,rfl,m,CM,dm,_,_,rfl,IM,TM.cl,TM.n3,rfl,wr,_,rfl,.inl (cP.of VM),_,_,rfl,rfl,_,rfl,bZ (λhh=>?_) (λhh=>?_)⟩
   ·have hh:(0:Int)<(((cE U 0 [] [] ls).map V.int).length:Int):=dw hh
    rw[ai] at hh
    refine⟨_,rfl,_,rfl,g,CG,dx,_,rfl,NH,TG.cl,TG.n1,(by show 5<1000;decide),_,rfl,fin (-9) _ ?_ ?_⟩
    ·rw[ae]
     intro z
     rw[z] at hh
     cases hh
    ·funext y
     by_cases hy:y=g
     ·rw[hy,aB,aB]
      rfl
     ·rw[aC hy,aC hy,aC hy]
   ·have hh:¬(0:Int)<(((cE U 0 [] [] ls).map V.int).length:Int):=λz=>hh (decide_eq_true z)
    rw[ai] at hh
    have e0:cE U 0 [] [] ls=[]:=yn (by omega)
    exact⟨_,rfl,fin 0 _ (by rw[af e0]) rfl⟩
structure aEo(P:Program)(w:World)(K:Frag)(mg:Str->Option Value)(base:Heap)(CG CP CB CM:Addr):Prop where
 TM:RmT K CM
 tpt:dE P w K mg base "turned_part" bN 4 ["part","turns"] (mS CP)
 tsz:dE P w K mg base "turned_sizes" bN 1 ["part","turns"] (mT CP)
 bey:dE P w K mg base "beyond_room" bN 1 ["x","y","z"] sK
 lea:dE P w K mg base "leaves_room" bN 2 ["parts","put"] (sJ K CP)
 right:dE P w K mg base "read_right" bN 10 ["c","b"] (xO K CG CP CB CM)
theorem aE0(X:K.In h)(G:h.Ns mainGlobals mg)(L:aBr P w K mg base (dQ K "Part") (dQ K "Build") (dQ K "Given"))(hK:∀f∈ftR,f.PP K):aEo P w K mg base (dQ K "Given") (dQ K "Part") (dQ K "Build") (dQ K "Room"):=by
 have g:∀(i:Nat)(f:Ft),ftR[i]?=some f->f.PP K:=λi f e=>Ft.nth hK i e
 have ci:∀{x:Str}{n:Int},Le K x n->CI mg x n:=λhk=>hk.ci X G
 have nn:∀{x:Str},nsIn K mainGlobals x=some none->mg x=none:=λe=>mg_none_of X G e
 have TM:RmT K (dQ K "Room"):=⟨Kh.cl (g 0 (.cl "Room") rfl),(g 1 (.at "Room" "signs") rfl),(g 2 (.at "Room" "owners") rfl),(g 3 (.at "Room" "wrong") rfl)⟩
 have RM:RmM P w K mg base (dQ K "Room"):=⟨Bi.mk (g 4 (.mt "Room" "__init__" "Room.__init__" Eo) rfl) (g 0 (.cl "Room") rfl) (λf fd F=>aBw F TM) λ_ _ _ _ _ _ us hl=>(by obtain⟨a,rfl⟩:=_root_.L2.tL hl;rfl),mg_of X G (Kh.ns (g 0 (.cl "Room") rfl))⟩
 have M1:dE P w K mg base "turned_once" bN 3 ["part"] (Ke (dQ K "Part")):=gJ.fn0 (g 5 (.fn "turned_once" Ng) rfl) X G (λf fd F=>Yt F L.TP L.PM) λ_ _ _ _ _ _ us hl=>(by obtain⟨a,rfl⟩:=_root_.L2.tL hl;rfl)
 have M2:dE P w K mg base "turned_part" bN 4 ["part","turns"] (mS (dQ K "Part")):=gJ.fn0 (g 6 (.fn "turned_part" vU) rfl) X G (λf fd F=>Pi F (nn (g 7 (.no "range") rfl)) M1) λ_ _ _ _ _ _ us hl=>(by obtain⟨a,b,rfl⟩:=_root_.L2.wI hl;rfl)
 have M3:dE P w K mg base "turned_sizes" bN 1 ["part","turns"] (mT (dQ K "Part")):=gJ.fn0 (g 8 (.fn "turned_sizes" vO) rfl) X G (λf fd F=>Qu F L.TP) λ_ _ _ _ _ _ us hl=>(by obtain⟨a,b,rfl⟩:=_root_.L2.wI hl;rfl)
 have M4:dE P w K mg base "beyond_room" bN 1 ["x","y","z"] sK:=gJ.fn0 (g 9 (.fn "beyond_room" wJ) rfl) X G (λf fd F=>Qq F (ci (g 10 (.int "ROOM_WIDTH" 64) rfl)) (ci (g 11 (.int "ROOM_DEPTH" 64) rfl)) (ci (g 12 (.int "ROOM_HEIGHT" 96) rfl))) λ_ _ _ _ _ _ us hl=>(by obtain⟨a,b,c,rfl⟩:=_root_.L2.us3 hl;rfl)
 have M5:dE P w K mg base "leaves_room" bN 2 ["parts","put"] (sJ K (dQ K "Part")):=gJ.fn0 (g 13 (.fn "leaves_room" vV) rfl) X G (λf fd F=>Rg F M3 M4) λ_ _ _ _ _ _ us hl=>(by obtain⟨a,b,rfl⟩:=_root_.L2.wI hl;rfl)
 have M6:dE P w K mg base "cells_in_room" bN 5 ["parts","put"] (Kc K (dQ K "Part")):=gJ.fn0 (g 14 (.fn "cells_in_room" Mn) rfl) X G (λf fd F=>aAy F L.TP M2) λ_ _ _ _ _ _ us hl=>(by obtain⟨a,b,rfl⟩:=_root_.L2.wI hl;rfl)
 have M7:dE P w K mg base "blocked_lines" bN 2 ["cells","room"] (tY (dQ K "Room")):=gJ.fn0 (g 15 (.fn "blocked_lines" rJ) rfl) X G (λf fd F=>Jy F TM L.up L.dn L.stud L.tube) λ_ _ _ _ _ _ us hl=>(by obtain⟨a,b,rfl⟩:=_root_.L2.wI hl;rfl)
 have M8:dE P w K mg base "wrong_with" bN 3 ["room","cells","j"] (yY (dQ K "Room")):=gJ.fn0 (g 16 (.fn "wrong_with" rE) rfl) X G (λf fd F=>Qi F TM (nn (g 17 (.no "len") rfl)) (nn (g 18 (.no "min") rfl)) M7) λ_ _ _ _ _ _ us hl=>(by obtain⟨a,b,c,rfl⟩:=_root_.L2.us3 hl;rfl)
 have M9:dE P w K mg base "fill_room" bN 6 ["parts","lines"] (Lo K (dQ K "Part") (dQ K "Room")):=gJ.fn0 (g 19 (.fn "fill_room" Mr) rfl) X G (λf fd F=>aAa F TM RM (nn (g 17 (.no "len") rfl)) (nn (g 20 (.no "enumerate") rfl)) M6 M5 M8) λ_ _ _ _ _ _ us hl=>(by obtain⟨a,b,rfl⟩:=_root_.L2.wI hl;rfl)
 exact⟨TM,M2,M3,M4,M5,gJ.fn0 (g 21 (.fn "read_right" lL) rfl) X G (λf fd F=>Ea F L.TG L.TB TM (nn (g 17 (.no "len") rfl)) L.given M9) λ_ _ _ _ _ _ us hl=>(by obtain⟨a,b,rfl⟩:=_root_.L2.wI hl;rfl)⟩
def sU(r:List aL->List Int->List (List Nat)->List Int)(lc lb:List Int):List Int:=match cN lc lb with
 |.no n=>[n]
 |.bad _=>[-5]
 |.ok U nm ls=>if cE U 0 [] [] ls=[] then r U nm ls else [-9]
structure aGp(lc lb:List Int)(U:List aL)(nm:List Int)(ls:List (List Nat))(d:Br.Build):Prop where
 eg:cN lc lb=.ok U nm ls
 ok:∀pr∈U,dC pr
 ln:∀x∈ls,Et U.length x
 tr:∀x∈ls,eC x 5<=3
 dl:d.lines=ls.map eI
 dn:aY d.name=nm
 cw:¬(Br.wrong (U.map bQ)).isSome=true
 fr:cE U 0 [] [] ls=[]
 rm:Kp (wU U ls)
theorem Ob{g:Addr}(h:aBh CG CP CB CM H g (cN lc lb)):∃(dx pa:Addr)(bv rv:V)(rf ft:Int),H g=some (.ins CG dx (Ev rf ft pa bv rv))/\
  ((rf<0/\∀r,sU r lc lb=[rf])\/(rf=0/\∃(U:List aL)(nm:List Int) (ls:List (List Nat)) (q m:Addr) (bs:List Addr),cN lc lb=.ok U nm ls/\(∀r,sU r lc lb=r U nm ls)/\cE U 0 [] [] ls=[]/\bv=.ref q/\rv=.ref m/\H pa=some (.lst (bs.map V.ref))/\dF CP H bs U/\yA CB H q nm ls/\Jz CM H m U ls/\U.length<=64)):=by
 have hn:= @Ll lc lb
 unfold sU
 cases eg:cN lc lb with
 |no n=>
  rw[eg] at h
  obtain⟨dx,pa,h⟩:=h
  have hn:=hn eg
  exact⟨dx,pa,.non,.non,n,0,h,.inl ⟨by omega,λ_=>rfl⟩⟩
 |bad i=>
  rw[eg] at h
  obtain⟨dx,pa,h⟩:=h
  exact⟨dx,pa,.non,.non, -5,i,h,.inl ⟨by decide,λ_=>rfl⟩⟩
 |ok U nm ls=>
  rw[eg] at h
  obtain⟨dx,pa,q,m,bs,h1,h2,h3,h4,h5,h6⟩:=h
  refine⟨dx,pa,.ref q,.ref m,_,0,h1,?_⟩
  by_cases e:cE U 0 [] [] ls=[]
  ·rw[af e]
   exact .inr ⟨rfl,U,nm,ls,q,m,bs,rfl,λr=>(by show (if _=_ then _ else _)=_;rw[af e]),e,rfl,rfl,h2,h3,h4,h5,h6⟩
  ·rw[ae e]
   exact .inl ⟨by decide,λr=>(by show (if _=_ then _ else _)=_;rw[ae e])⟩
end Br1
namespace L2
open PySem PySem.Spec PyProof.Rows
end L2
namespace Br1
open PySem PySem.Spec PyProof.Rows L2
def nN(H:Hp)(la:Addr)(ys:List (List Int)):Prop:=∃ts:List Addr,H la=some (.lst (ts.map V.ref))/\Paired (sV H) ts ys
theorem nN.same(h:nN H la ys)(s:aK H H'):nN H' la ys:=by
 obtain⟨ts,h1,h2⟩:=h
 exact⟨ts,s _ _ h1,Paired.mapP h2 λt y z=>⟨s _ _ z.1,z.2⟩⟩
theorem aBj(h1:H la=some (.lst (ts.map V.ref)))(h2:jL H ts ls):nN H la (ls.map nB):=by
 refine⟨ts,h1,?_⟩
 clear h1
 unfold jL at h2
 induction h2 with
 |nil=>exact .nil
 |cons r t ih=>exact .cons ⟨by rw[<-Uh];exact r.1,by unfold nB;rw[ai];exact r.2⟩ ih
variable{K:Frag}
def zK(K:Frag):Sp:=λvs H Q _=>∃(la:Addr)(dx dy dz:Int) (ys:List (List Int)),vs=[.ref la,.int dx,.int dy,.int dz]/\nN H la ys/\ys.length<=256/\
 ∀(H':Hp)(l:Addr),aK H H'->H l=none->nN H' l (ys.map (Vo dx dy dz))->Q (.ref l) H'
abbrev Nh:List Str:=["lines","dx","dy","dz","put"]
theorem tH:aN Nh ["lines","dx","dy","dz"] (aG oZ):=⟨rfl,rfl,rfl,by decide+kernel,rfl,by decide+kernel,by decide+kernel⟩
theorem Qs(F:eZ K "moved_lines" "moved_lines" oZ f fd):bO P w K mg base bN 1 f fd ["lines","dx","dy","dz"] (zK K):=by
 refine F.ok tH (λvs H Q E h=>?_) (λak A outer s H vs Q E hr h=>?_)
 ·obtain⟨la,dx,dy,dz,ys,rfl,_⟩:=h
  rfl
 ·obtain⟨la,dx,dy,dz,ys,rfl,⟨ts,d7,j4⟩,yl,k⟩:=h
  refine⟨_,aH (aR (uQ (own:=[("put",4)]) (te:=Xo (dH (vG (gD K) (cU 4) (tC (.int 0))) (dH (vG (gD K) (cU 4) (tC (.int 1))) (dH (vG (Wu λi j=>.int (i+j)) (vG (gD K) (cU 4) (tC (.int 2))) (cU 1)) (dH (vG (Wu λi j=>.int (i+j)) (vG (gD K) (cU 4) (tC (.int 3))) (cU 2)) (dH (vG (Wu λi j=>.int (i+j)) (vG (gD K) (cU 4) (tC (.int 4))) (cU 3)) (dH (vG (gD K) (cU 4) (tC (.int 5))) gC))))))) rfl tH.nd (fN (pv 0)) (eN (N:=Nh) (sc:=aG oZ) (by decide+kernel))
   (λ_ _ _ _ _=>bE (i:=4) tH.nd rfl (Or.inl rfl)) (λ_ _ _ _ _=>fY)
   (λ_ _ _ _ _=>dO (aA (bH (r:=gD K) aW (pv 4) aI (λ_ _=>rfl)) (aA (bH (r:=gD K) aW (pv 4) aI (λ_ _=>rfl)) (aA (bY eP (bH (r:=gD K) aW (pv 4) aI (λ_ _=>rfl)) (pv 1)) (aA (bY eP (bH (r:=gD K) aW (pv 4) aI (λ_ _=>rfl)) (pv 2)) (aA (bY eP (bH (r:=gD K) aW (pv 4) aI (λ_ _=>rfl)) (pv 3)) (aA (bH (r:=gD K) aW (pv 4) aI (λ_ _=>rfl)) aE))))))))),?_⟩
  have bu:=bA
  have jj:ts.length=ys.length:=Paired.length j4
  refine⟨_,rfl,la,rfl,⟨_,cP.of d7⟩,λDl c6=>?_⟩
  refine jQ (K:=K) (xs:=ts.map V.ref) (λi H'=>aK H H'/\∃us:List Addr,H' Dl=some (.lst (us.map V.ref))/\Paired (sV H') us ((ys.map (Vo dx dy dz)).take i)) ⟨aK.new c6,[],aB,.nil⟩ (λi H' _ z=>cP.of (z.1 _ _ d7)) ?_ ?_
  ·rintro i x H1 ex ⟨S1,us,cz,pu⟩
   have hi:i<ys.length:=by
    have:=(bp.mp ex).1
    rwa [ai,jj] at this
   obtain⟨y,ey⟩:∃y,ys[i]?=some y:=⟨_,ax hi⟩
   obtain⟨t,et,ht,vk⟩:=bT j4 ey
   rw[bg,et] at ex
   cases ex
   obtain⟨a0,a1,a2,a3,a4,a5,rfl⟩:=jV vk
   have il:=cG.of (K:=K) (S1 _ _ ht)
   have ul:us.length<=256:=by
    have:=Paired.length pu
    rw[gf,ai] at this
    omega
   refine⟨rfl,_,rfl,t,_,_,_,rfl,rfl,il,rfl,_,rfl,t,_,_,_,rfl,rfl,il,rfl,_,rfl,t,_,_,_,rfl,rfl,il,rfl,_,rfl,_,_,rfl,rfl,_,rfl,t,_,_,_,rfl,rfl,il,rfl,_,rfl,_,_,rfl,rfl,_,rfl,t,_,_,_,rfl,rfl,il,rfl,_,rfl,_,_,rfl,rfl,_,rfl,t,_,_,_,rfl,rfl,il,rfl,(by show 6<=sizeLine;omega),λp fp=>?_⟩
   have nDp:Dl≠p:=aD cz fp
   refine⟨_,by rw[aC nDp];exact cz,by rw[ai];omega,λb o e=>?_,us++[p],by rw[aB,c9];rfl,?_⟩
   ·rw[aC (aD e c6),aC (aD (S1 _ _ e) fp)]
    exact S1 _ _ e
   ·have e2:(ys.map (Vo dx dy dz))[i]?=some (Vo dx dy dz [a0,a1,a2,a3,a4,a5]):=by rw[bg,ey];rfl
    rw[jg,e2]
    refine Paired.snoc (Paired.mapP pu λu v z=>⟨?_,z.2⟩) ⟨?_,rfl⟩
    ·rw[aC (λe=>by have z1:=z.1;rw[e,cz] at z1;cases z1),aC (aD z.1 fp)]
     exact z.1
    ·rw[aC (au nDp),aB]
     rfl
  ·rintro H1 ⟨S1,us,cz,pu⟩
   rw[ai,jj,ym (by rw[ai];exact ap _)] at pu
   exact k H1 Dl S1 c6 ⟨us,cz,pu⟩
theorem aC1(hc:Iv lc)(hb:Iv lb){nm:List Int}(h:cN lc lb=.ok U nm ls):(∀pr∈U,dC pr)/\¬(Br.wrong (U.map bQ)).isSome=true:=by
 have h1:=Gg hc hb
 rw[h] at h1
 exact⟨h1.2.1,h1.2.2.2.1⟩
theorem Hm:∀{ls:List (List Nat)} {j:Nat} {sg ow:CL},cE U j sg ow ls=[]->∀x∈ls,jP (tX U x) (eC x 2) (eC x 3) (eC x 4)=false
 |[],_,_,_,_,x,hx=>by cases hx
 |y::r,j,sg,ow,h,x,hx=>by
  rw[cE] at h
  split at h
  ·cases h
  ·rename_i h1
   split at h
   ·cases h
   ·split at h
    ·cases h
    ·rcases ao.mp hx with rfl|hx
     ·exact cD h1
     ·exact Hm h x hx
theorem rX(ok:∀pr∈U,dC pr)(h6:∀x∈ls,Et U.length x)(h5:∀x∈ls,eC x 5<=3)(fr:cE U 0 [] [] ls=[]):∀y∈ls.map nB,zT U y:=by
 intro y hy
 obtain⟨x,hx,rfl⟩:=a8.mp hy
 have lv:=Hm fr x hx
 obtain⟨hl,h0⟩:=h6 x hx
 rw[<-Ak ok h0] at lv
 have z:=(uP ok h0).mp lv
 have z5:=h5 x hx
 obtain⟨a,b,c,d,e,f,rfl⟩:=six hl
 have z:0<=(c:Int)/\0<=(d:Int)/\0<=(e:Int)/\(c:Int)+(tsz U a f).1<=64/\(d:Int)+(tsz U a f).2.1<=64/\(e:Int)+(tsz U a f).2.2<=96:=z
 have z5:f<=3:=z5
 refine⟨rfl,?_,h0,?_,?_,?_,?_⟩
 ·show ∀k∈[(a:Int),(b:Int),(c:Int),(d:Int),(e:Int),(f:Int)],0<=k
  simp only[ao,dh,io,uj,uk]
  omega
 ·show (f:Int)<4
  omega
 ·show (c:Int)+(tsz U a f).1<=64
  omega
 ·show (d:Int)+(tsz U a f).2.1<=64
  omega
 ·show (e:Int)+(tsz U a f).2.2<=96
  omega
theorem wO:(ls.map nB).map (λy=>eI (jR y))=ls.map eI:=by
 rw[de]
 refine uh λx _=>?_
 show eI (jR (nB x))=eI x
 have:jR (nB x)=x:=by
  unfold jR nB
  rw[de]
  have:(Int.toNat∘λ(n:Nat)=>(n:Int))=id:=funext λn=>fc n
  rw[this,J9]
 rw[this]
theorem Jt(ok:∀pr∈U,dC pr)(h:∀y∈ys,zT U y):∀n:Nat,∀y∈pY U n ys,zT U y
 |0,y,hy=>h y hy
 |n+1,y,hy=>by
  obtain⟨v,hv,rfl⟩:=a8.mp hy
  exact(zJ ok (Jt ok h n v hv)).1
theorem wB:∀n:Nat,(pY U n ys).length=ys.length
 |0=>rfl
 |n+1=>by
  show ((pY U n ys).map (zE U)).length=_
  rw[ai,wB n]
theorem Ly:(fZ ys).length=ys.length:=by
 unfold fZ
 split
 ·rename_i h
  rw[h]
  rfl
 ·rw[ai]
theorem zT.six0{y:List Int}(h:zT U y):0<=iN y 0/\0<=iN y 5:=by
 obtain⟨hl,hn,_⟩:=h
 obtain⟨a,b,c,d,e,f,rfl⟩:=jV hl
 exact⟨hn a (by simp),hn f (by simp)⟩
theorem Ad(h:¬(Br.wrong (U.map bQ)).isSome=true):∀pr∈U,(bQ pr).tight=true:=by
 intro pr hp
 unfold Br.wrong at h
 rw[pZ,cq,yc,cn] at h
 have g:=jw.mp h.1 (bQ pr) (px hp)
 unfold hX at g
 simp only[cn] at g
 exact g.2.2.1
theorem Dt{Dl:Addr}{kk:Int}(hk:k<6)(ek:kk=k)(d7:H la=some (.lst (ts.map V.ref)))(j4:Paired (sV H) ts ys)(yl:ys.length<=256)(c6:H Dl=none){v0 vx vy vz v4:Option V}(h:∀(H':Hp),aK H H'->H' Dl=some (.lst ((ys.map λy=>iN y k).map V.int))->Qd H'):
  ∃W:Nat->Nat->Hp->Prop,(∃m,W 0 m (upd H Dl (.lst [])))/\∀i m H,W i m H->
   ((Td K la).stop i H/\Qd H)\/((Td K la).go i H/\∃Nx:Hp->Prop,(∀H',Nx H'->∃m',m'<m/\W (i+1) m' H')/\∀x H',(Td K la).yld i H x H'->mG 4 x (gF [v0,vx,vy,vz,v4] [4]) H' λa6 H2=>gF a6 [4]=gF [v0,vx,vy,vz,v4] [4]/\aEs a6 H2 λb H3=>
    if b=true then vG (gD K) (cU 4) (tC (.int kk)) a6 H3 λy H4=>∃acc,H4 Dl=some (.lst acc)/\acc.length<sizeLine/\Nx (upd H4 Dl (.lst (acc++[y]))) else Nx H3):=by
 have bu:=bA
 have jj:ts.length=ys.length:=Paired.length j4
 refine jQ (K:=K) (xs:=ts.map V.ref) (λi H'=>aK H H'/\H' Dl=some (.lst (((ys.map λy=>iN y k).take i).map V.int))) ⟨aK.new c6,aB⟩ (λi H' _ z=>cP.of (z.1 _ _ d7)) ?_ ?_
 ·rintro i x H1 ex ⟨S1,cz⟩
  have hi:i<ys.length:=by
   have:=(bp.mp ex).1
   rwa [ai,jj] at this
  obtain⟨y,ey⟩:∃y,ys[i]?=some y:=⟨_,ax hi⟩
  obtain⟨t,et,ht,vk⟩:=bT j4 ey
  rw[bg,et] at ex
  cases ex
  have IN:Ps (y.map V.int) kk=some (V.int (iN y k)):=by
   have:(y.map V.int)[k]?=some (V.int (iN y k)):=by
    unfold iN
    rw[bg,cx,ax (by omega)]
    rfl
   rw[ek]
   exact jF this
  refine⟨rfl,_,rfl,t,_,_,_,rfl,rfl,cG.of (S1 _ _ ht),IN,_,cz,?_,?_,?_⟩
  ·rw[ai,gf,ai]
   omega
  ·intro b' o e
   rw[aC (aD e c6)]
   exact S1 _ _ e
  ·have e3:(ys.map λy=>iN y k)[i]?=some (iN y k):=by rw[bg,ey];rfl
   rw[aB,jg,e3,c9]
   rfl
 ·rintro H1 ⟨S1,cz⟩
  rw[ai,jj,ym (by rw[ai];exact ap _)] at cz
  exact h H1 S1 cz
theorem Ki{m:Int}(hm:m∈l)(hl:∀y∈l,m<=y):m=iD l:=by
 have h1:=nQ (l:=l) (List.ne_nil_of_mem hm)
 have h2:=oG hm
 have h3:=hl _ h1
 omega
def Ew(K:Frag):Sp:=λvs H Q _=>∃(la:Addr) (ys:List (List Int)),vs=[.ref la]/\nN H la ys/\ys.length<=256/\∀(H':Hp)(l:Addr),aK H H'->nN H' l (fZ ys)->Q (.ref l) H'
abbrev Ov:List Str:=["lines","x","y","z","put"]
theorem gR:aN Ov ["lines"] (aG jN):=⟨rfl,rfl,rfl,by decide+kernel,rfl,by decide+kernel,by decide+kernel⟩
theorem Xx(F:eZ K "moved_home" "moved_home" jN f fd)(bi:mg "len"=none)(zv:mg "min"=none)(L1:dE P w K mg base "moved_lines" bN 1 ["lines","dx","dy","dz"] (zK K)):bO P w K mg base bN 2 f fd ["lines"] (Ew K):=by
 obtain⟨g1,gc,G1,b1,k1,h1⟩:=L1.ex
 refine F.ok gR (λvs H Q E h=>?_) (λak A outer s H vs Q E hr h=>?_)
 ·obtain⟨la,ys,rfl,_⟩:=h
  rfl
 ·obtain⟨la,ys,rfl,hY,yl,k⟩:=h
  have pl:∀(kk:Int)(s:Shared)(H:Hp)(C:Addr) (cl:List (Str×Addr)) (fp:List Addr),True:=λ_ _ _ _ _ _=>trivial
  refine⟨_,aF (eA (dS (aB7 (bS bW (by rfl) bi boot_len (aA (pv 0) aE)) aI)) (aH (aR (eD aE))) bX)
   (aF (bF (i:=1) gR.nd rfl (Or.inl rfl) (bS (yC rfl) (by rfl) zv boot_min (aA (uQ (own:=[("put",4)]) (te:=vG (gD K) (cU 4) (tC (.int 2))) rfl gR.nd (fN (pv 0)) (eN (N:=Ov) (sc:=aG jN) (by decide+kernel)) (λ_ _ _ _ _=>bE (i:=4) gR.nd rfl (Or.inl rfl)) (λ_ _ _ _ _=>fY) (λ_ _ _ _ _=>bH (r:=gD K) aW (pv 4) aI (λ_ _=>rfl))) aE)))
   (aF (bF (i:=2) gR.nd rfl (Or.inl rfl) (bS (yC rfl) (by rfl) zv boot_min (aA (uQ (own:=[("put",4)]) (te:=vG (gD K) (cU 4) (tC (.int 3))) rfl gR.nd (fN (pv 0)) (eN (N:=Ov) (sc:=aG jN) (by decide+kernel)) (λ_ _ _ _ _=>bE (i:=4) gR.nd rfl (Or.inl rfl)) (λ_ _ _ _ _=>fY) (λ_ _ _ _ _=>bH (r:=gD K) aW (pv 4) aI (λ_ _=>rfl))) aE)))
   (aF (bF (i:=3) gR.nd rfl (Or.inl rfl) (bS (yC rfl) (by rfl) zv boot_min (aA (uQ (own:=[("put",4)]) (te:=vG (gD K) (cU 4) (tC (.int 4))) rfl gR.nd (fN (pv 0)) (eN (N:=Ov) (sc:=aG jN) (by decide+kernel)) (λ_ _ _ _ _=>bE (i:=4) gR.nd rfl (Or.inl rfl)) (λ_ _ _ _ _=>fY) (λ_ _ _ _ _=>bH (r:=gD K) aW (pv 4) aI (λ_ _=>rfl))) aE)))
   (aH (aR (aP G1 hr (by rfl) h1 k1 b1 .nil aX (aA (pv 0) (aA (rV lO (pv 1)) (aA (rV lO (pv 2)) (aA (rV lO (pv 3)) aE)))))))))),?_⟩
  have bu:=bA
  obtain⟨ts,d7,j4⟩:=id hY
  have jj:(ts.map V.ref).length=ys.length:=by rw[ai];exact Paired.length j4
  refine⟨_,rfl,la,_,rfl,.inl (cP.of d7),_,_,rfl,rfl,_,rfl,bZ (λe=>?_) (λe=>?_)⟩
  ·have e:(((ts.map V.ref).length:Nat):Int)=0:=dw e
   rw[jj] at e
   have e0:ys.length=0:=by omega
   unfold fZ at k
   rw[af e0] at k
   exact⟨by show 0<=sizeLine;omega,λl fl=>k _ l (aK.new fl) ⟨[],aB,.nil⟩⟩
  ·have e:¬(((ts.map V.ref).length:Nat):Int)=0:=λz=>e (decide_eq_true z)
   rw[jj] at e
   have e0:¬ys.length=0:=by omega
   unfold fZ at k
   rw[ae e0] at k
   have np:∀j,0<(ys.map λy=>iN y j).length:=λj=>by rw[ai];omega
   have pk:∀{H':Hp},aK H H'->Paired (sV H') ts ys:=λs=>Paired.mapP j4 λt y z=>⟨s _ _ z.1,z.2⟩
   refine⟨_,rfl,la,rfl,⟨_,cP.of d7⟩,λD1 n1=>Dt (k:=2) (by decide) rfl d7 j4 yl n1 λH1 S1 d1=>⟨D1,_,rfl,cP.of d1,np 2,λm2 t9 i4=>?_⟩⟩
   refine⟨_,rfl,la,rfl,⟨_,cP.of (S1 _ _ d7)⟩,λD2 n2=>Dt (k:=3) (by decide) rfl (S1 _ _ d7) (pk S1) yl n2 λH2 S2 d2=>⟨D2,_,rfl,cP.of d2,np 3,λm3 IM qx=>?_⟩⟩
   have mi:=S1.trans S2
   refine⟨_,rfl,la,rfl,⟨_,cP.of (mi _ _ d7)⟩,λD3 n3=>Dt (k:=4) (by decide) rfl (mi _ _ d7) (pk mi) yl n3 λH3 S3 d3=>⟨D3,_,rfl,cP.of d3,np 4,λm4 xt BU=>?_⟩⟩
   have xj:=(S1.trans S2).trans S3
   rw[<-Ki t9 i4,<-Ki IM qx,<-Ki xt BU] at k
   exact⟨_,rfl,_,rfl,_,rfl,_,rfl,_,rfl,_,rfl,_,rfl,la,_,_,_,ys,rfl,hY.same xj,yl,λH4 l S4 fl hl=>k H4 l (xj.trans S4) hl⟩
def wF(K:Frag)(CP:Addr):Sp:=λvs H Q _=>∃(pa t:Addr)(bs:List Addr)(U:List aL)(y:List Int),vs=[.ref pa,.ref t]/\cP K H pa (bs.map V.ref)/\dF CP H bs U/\sV H t y/\0<=iN y 0/\(iN y 0).toNat<U.length/\0<=iN y 5/\
 ∀(H':Hp)(u:Addr),aK H H'->H u=none->sV H' u (zE U y)->Q (.ref u) H'
theorem Ey:aN ["parts","put","last"] ["parts","put"] (aG kJ):=⟨rfl,rfl,rfl,by decide+kernel,rfl,by decide+kernel,by decide+kernel⟩
theorem Vg(F:eZ K "turned_line" "turned_line" kJ f fd)(c1:CI mg "ROOM_WIDTH" 64)(L1:dE P w K mg base "turned_sizes" bN 1 ["part","turns"] (mT CP)):bO P w K mg base bN 2 f fd ["parts","put"] (wF K CP):=by
 obtain⟨g1,gc,G1,b1,k1,h1⟩:=L1.ex
 refine F.ok Ey (λvs H Q E h=>?_) (λak A outer s H vs Q E hr h=>?_)
 ·obtain⟨pa,t,bs,U,y,rfl,_⟩:=h
  rfl
 ·obtain⟨pa,t,bs,U,y,rfl,ck,cf,⟨ht,hy⟩,qv,am,tu,k⟩:=h
  obtain⟨a0,a1,a2,a3,a4,a5,rfl⟩:=jV hy
  have qv:0<=a0:=qv
  have am:a0.toNat<U.length:=am
  have tu:0<=a5:=tu
  refine⟨_,aF (bF (i:=2) Ey.nd rfl (Or.inl rfl) (bY eE (bY eP (bH aW (pv 1) aI (λ_ _=>rfl)) (bH aW (aP G1 hr (by rfl) h1 k1 b1 .nil aX (aA (bH jM (pv 0) (bH aW (pv 1) aI (λ_ _=>rfl)) (λ_ _=>rfl)) (aA (bH aW (pv 1) aI (λ_ _=>rfl)) aE))) aI (λ_ _=>rfl))) aI))
   (aH (aR (dO (aA (bH aW (pv 1) aI (λ_ _=>rfl)) (aA (bH aW (pv 1) aI (λ_ _=>rfl)) (aA (bH aW (pv 1) aI (λ_ _=>rfl)) (aA (bY eE (bY eE (eB c1) aI) (pv 2)) (aA (bH aW (pv 1) aI (λ_ _=>rfl)) (aA (bY Lm (bY eP (bH aW (pv 1) aI (λ_ _=>rfl)) aI) aI) aE))))))))),?_⟩
  obtain⟨pr,jt⟩:∃pr,U[a0.toNat]?=some pr:=⟨_,ax am⟩
  obtain⟨b,eb,BK,po⟩:=bT cf jt
  obtain⟨dx,nm,cc,f1,f2,f3⟩:=BK
  have e0:Ps (bs.map V.ref) a0=some (V.ref b):=by
   have:=jF (xs:=bs.map V.ref) (j:=a0.toNat) (v:=V.ref b) (by rw[bg,eb];rfl)
   rwa [oq qv] at this
  have e5:a5=((a5.toNat:Nat):Int):=(oq tu).symm
  have st:=cG.of (K:=K) ht
  refine⟨_,rfl,t,_,_,_,rfl,rfl,st,rfl,_,rfl,_,rfl,t,_,_,_,rfl,rfl,st,rfl,pa,_,_,_,rfl,rfl,ck,e0,_,rfl,t,_,_,_,rfl,rfl,st,rfl,b,dx,nm,cc,_,_,_,_,a5.toNat,by rw[<-e5];rfl,f1,λtz Io=>?_⟩
  have ez:=Vw (r:=a5.toNat) jt
  rw[ez]
  have S1:=aK.new (o:=.tup ([(tsz U a0.toNat a5.toNat).1,(tsz U a0.toNat a5.toNat).2.1,(tsz U a0.toNat a5.toNat).2.2].map V.int)) Io
  have B0:=cG.of (K:=K) (S1 _ _ ht)
  refine⟨tz,_,_,_,rfl,rfl,cG.of aB,rfl,_,_,rfl,rfl,_,_,rfl,rfl,?_⟩
  refine⟨_,rfl,t,_,_,_,rfl,rfl,B0,rfl,_,rfl,t,_,_,_,rfl,rfl,B0,rfl,_,rfl,t,_,_,_,rfl,rfl,B0,rfl,_,_,rfl,rfl,_,rfl,_,_,rfl,rfl,_,rfl,t,_,_,_,rfl,rfl,B0,rfl,_,rfl,t,_,_,_,rfl,rfl,B0,rfl,_,_,rfl,rfl,_,_,rfl,rfl,(show (0:Int)<4 by decide),(by show 6<=sizeLine;decide),λu fu=>k _ u (S1.trans (aK.new fu)) (S1.free fu) ⟨?_,rfl⟩⟩
  rw[aB]
  rfl
def tU(K:Frag)(CP:Addr):Sp:=λvs H Q _=>∃(pa la:Addr)(n:Nat)(bs:List Addr)(U:List aL) (ys:List (List Int)),vs=[.ref pa,.ref la,.int (n:Int)]/\n<=3/\H pa=some (.lst (bs.map V.ref))/\dF CP H bs U/\(∀pr∈U,dC pr)/\nN H la ys/\ys.length<=256/\(∀y∈ys,zT U y)/\
 ∀(H':Hp)(l:Addr),aK H H'->nN H' l (fZ (pY U n ys))->Q (.ref l) H'
abbrev Gq:List Str:=["parts","lines","turns","turn","put"]
theorem lR:aN Gq ["parts","lines","turns"] (aG kH):=⟨rfl,rfl,rfl,by decide+kernel,rfl,by decide+kernel,by decide+kernel⟩
theorem Lc(F:eZ K "turned_lines" "turned_lines" kH f fd)(o4:mg "range"=none)(L1:dE P w K mg base "turned_line" bN 2 ["parts","put"] (wF K CP))(L2:dE P w K mg base "moved_home" bN 2 ["lines"] (Ew K)):bO P w K mg base bN 4 f fd ["parts","lines","turns"] (tU K CP):=by
 obtain⟨g1,gc,G1,b1,k1,h1⟩:=L1.ex
 obtain⟨g2,ky,G2,b2,k2,h2⟩:=L2.ex
 refine F.ok lR (λvs H Q E h=>?_) (λak A outer s H vs Q E hr h=>?_)
 ·obtain⟨pa,la,n,bs,U,ys,rfl,_⟩:=h
  rfl
 ·obtain⟨pa,la,n,bs,U,ys,rfl,n3,ck,cf,ok,hY,yl,yi,k⟩:=h
  have a9:=hr.mono (j:=2) (by decide)
  refine⟨_,aF (eG jy rfl (iM rfl o4 (aA (pv 2) aE)) (bE (i:=3) lR.nd rfl (Or.inl rfl))
    (aH (rK (i:=1) (te:=Bg (wF K CP) [] E0 (dH (cU 0) (dH (cU 4) gC))) (own:=[("put",4)]) rfl lR.nd rfl rfl rfl (fN (pv 1)) (eN (N:=Gq) (sc:=aG kH) (by decide+kernel))
      (λ_ _ _ _ _=>bE (i:=4) lR.nd rfl (Or.inl rfl)) (λ_ _ _ _ _=>fY) (λ_ _ _ _ _=>aP G1 a9 (by rfl) h1 k1 b1 .nil aX (aA (pv 0) (aA (pv 4) aE))))))
   (aH (aR (aP G2 a9 (by rfl) h2 k2 b2 .nil aX (aA (pv 1) aE)))),?_⟩
  have bu:=bA
  refine⟨_,rfl,(n:Int),rfl,by omega,by omega,?_⟩
  refine oR (n:=n) (λi σ H'=>∃z6 v3 v4,σ=[some (.ref pa),some (.ref z6),some (.int (n:Int)),v3,v4]/\aK H H'/\nN H' z6 (pY U i ys)) ⟨la,none,none,rfl,λ_ _ e=>e,hY⟩ ?_ ?_
  ·rintro i σ H1 hi ⟨z6,v3,v4,rfl,S1,ts,d7,j4⟩
   have ln:=wB (U:=U) (ys:=ys) i
   have inr:=Jt ok yi i
   generalize hz:pY U i ys=zs at j4 ln inr
   have jj:ts.length=zs.length:=Paired.length j4
   refine⟨_,rfl,z6,rfl,⟨_,cP.of d7⟩,λDl c6=>?_⟩
   refine jQ (K:=K) (xs:=ts.map V.ref) (λj H'=>aK H1 H'/\∃us:List Addr,H' Dl=some (.lst (us.map V.ref))/\Paired (sV H') us ((zs.map (zE U)).take j)) ⟨aK.new c6,[],aB,.nil⟩ (λj H' _ z=>cP.of (z.1 _ _ d7)) ?_ ?_
   ·rintro j x H2 ex ⟨S2,us,li,pu⟩
    have hj:j<zs.length:=by
     have:=(bp.mp ex).1
     rwa [ai,jj] at this
    obtain⟨y,ey⟩:∃y,zs[j]?=some y:=⟨_,ax hj⟩
    obtain⟨t,et,ht,vk⟩:=bT j4 ey
    rw[bg,et] at ex
    cases ex
    have iy:=inr y (fj ey)
    have mi:=S1.trans S2
    have ul:us.length<=256:=by
     have:=Paired.length pu
     rw[gf,ai] at this
     omega
    refine⟨rfl,_,rfl,_,rfl,pa,t,bs,U,y,rfl,cP.of (mi _ _ ck),Paired.mapP cf (λ_ _ z=>⟨z.1.same mi,z.2⟩),⟨S2 _ _ ht,vk⟩,iy.six0.1,iy.p,iy.six0.2,λH3 u S3 fu NI=>?_⟩
    have nDu:Dl≠u:=aD li fu
    refine⟨_,S3 _ _ li,by rw[ai];omega,λb o e=>?_,us++[u],by rw[aB,c9];rfl,?_⟩
    ·rw[aC (aD e c6)]
     exact S3 _ _ (S2 _ _ e)
    ·have e2:(zs.map (zE U))[j]?=some (zE U y):=by rw[bg,ey];rfl
     rw[jg,e2]
     refine Paired.snoc (Paired.mapP pu λv z q=>⟨?_,q.2⟩) ⟨?_,NI.2⟩
     ·rw[aC (λe=>by have z1:=q.1;rw[e,li] at z1;cases z1)]
      exact S3 _ _ q.1
     ·rw[aC (au nDu)]
      exact NI.1
   ·rintro H2 ⟨S2,us,li,pu⟩
    rw[ai,jj,ym (by rw[ai];exact ap _)] at pu
    refine⟨Dl,_,_,rfl,S1.trans S2,us,li,?_⟩
    show Paired (sV H2) us ((pY U i ys).map (zE U))
    rw[hz]
    exact pu
  ·rintro σ H1 ⟨z6,v3,v4,rfl,S1,VN⟩
   exact⟨_,rfl,z6,pY U n ys,rfl,VN,by rw[wB];exact yl,λH2 l S2 hl=>k H2 l (S1.trans S2) hl⟩
theorem Wy{nm:String}{xs ys:List (List dL×Addr×Value)}{Q:Bool->Shared->Prop}(ha:(a==sysModules)=false)(hb:(b==sysModules)=false)(da:s.heap.DictOfH (tupleKind (dJ prog w)) a xs)(db:s.heap.DictOfH (tupleKind (dJ prog w)) b ys)(room:(tupleKind (dJ prog w)).room A)
  (vx:∀x∈xs,∃n t,x.2.2=Value.int n t) (f:List dL->Option Int) (f1:∀(j:Nat)(k:List dL)(p:Addr×Value),ys[j]?=some (k,p)->∃n t,p.2=Value.int n t/\f k=some n) (f2:∀k,(∀(j:Nat)(p:Addr×Value),ys[j]?≠some (k,p))->f k=none)
  (h:Q (decide (xs.length=ys.length) && xs.all λx=>decide (f x.1=some (numOf x.2.2))) s):wpAny (model prog w) A (Builtin.Dict.samePairs nm a b) Q E s:=by
 obtain⟨oa,es,ep,EG,xa,dda,ea,ia,na⟩:=da
 obtain⟨ob,fv,l0,IP,xb,ddb,eb,ib,nb⟩:=db
 have za:es.size=xs.length:=CN ea
 have zb:fv.size=ys.length:=CN eb
 unfold Builtin.Dict.samePairs Builtin.Dict.showsAll
 rw[ae (show ¬(a==sysModules)=true by rw[ha];exact b6),ae (show ¬(b==sysModules)=true by rw[hb];exact b6)]
 refine ac (ag (ac (ag (ac (ph EG dda ?_)))))
 dsimp only
 refine ac (ph IP ddb ?_)
 by_cases hz:xs.length=ys.length
 ·rw[ae (by rw[za,zb,hz];simp)]
  rw[decide_eq_true hz,i8] at h
  refine ac (wa EG dda (ac ?_))
  rw[Std.Legacy.Range.forIn_eq_forIn_range']
  simp only[Std.Legacy.Range.size,CV,Nat.add_sub_cancel,Nat.div_one]
  rw[za]
  refine wpAny_forIn_list _ (λrest q s'=>s'=s/\q=(none,())/\∃i,rest=List.range' i (xs.length - i)/\i<=xs.length/\((xs.take i).all λx=>decide (f x.1=some (numOf x.2.2)))=true) _ ?_ ?_ _ _ ⟨rfl,rfl,0,by simp,c7 _,rfl⟩
  ·rintro x rest q s' ⟨rfl,rfl,i,hr,hi,al⟩
   have lt:i<xs.length:=by
    rcases FP i xs.length with z|z
    ·exact z
    ·rw[Nat.sub_eq_zero_of_le z] at hr
     cases hr
   obtain⟨rfl,G8⟩:x=i/\rest=List.range' (i+1) (xs.length - (i+1)):=by
    rw[show xs.length - i=(xs.length - (i+1))+1 by omega,J4] at hr
    injection hr with h1 h2
    exact⟨h1,h2⟩
   obtain⟨⟨k,q,v⟩,ex⟩:∃y,xs[x]?=some y:=⟨_,ax lt⟩
   have exm:=fj ex
   obtain⟨n,t,ev⟩:=vx _ exm
   have ev:v=.int n t:=ev
   subst ev
   refine ac (ph EG dda ?_)
   rw[CO ea x,ex]
   show wpAny _ _ (holding [Value.ref q,Value.int n t] _>>=_) _ _ _
   have fin:∀{m:Option Int},f k=m->(m=some n->((xs.take (x+1)).all λx=>decide (f x.1=some (numOf x.2.2)))=true)/\(m≠some n->(xs.all λx=>decide (f x.1=some (numOf x.2.2)))=false):=λ{m} e=>by
    refine⟨λz=>?_,λz=>?_⟩
    ·rw[jg,ex,OZ,al,i8]
     show (decide (f k=some n) && true)=true
     rw[e,z]
     simp
    ·rw[FH]
     intro y
     have:=jw.mp y _ exm
     have:=dw this
     have this:f k=some n:=this
     exact z (e.symm.trans this)
   refine ac (j8 (ac (wpAny_dictFind_heap room (ia _ exm) IP ddb eb ib nb (λcg=>?_) (λj p hj=>?_))))
   ·refine ag ?_
    show wpAny _ _ (if (!false)=true then _ else _) _ _ _
    rw[af (by decide)]
    rw[(fin (f2 k cg)).2 (by intro z;cases z)] at h
    exact ag (ag h)
   ·obtain⟨m,u,e1,e2⟩:=f1 j k p hj
    refine ac (ph IP ddb ?_)
    rw[CO eb j,hj]
    show wpAny _ _ (holding [p.2] (eqBool (Value.int n t) p.2)) _ _ _
    rw[e1]
    refine j8 (wpAny_eqBool_int ?_)
    by_cases z:n=m
    ·rw[show (n==m)=true from cp.mpr z]
     show wpAny _ _ (if (!true)=true then _ else _) _ _ _
     rw[ae (by decide)]
     refine ac (wa EG dda ?_)
     rw[ae (by simp)]
     exact ag ⟨rfl,rfl,x+1,G8,lt,(fin e2).1 (by rw[z])⟩
    ·rw[show (n==m)=false from pb.mpr z]
     show wpAny _ _ (if (!false)=true then _ else _) _ _ _
     rw[af (by decide)]
     rw[(fin e2).2 (λy=>z (Option.some.inj y).symm)] at h
     exact ag (ag h)
  ·rintro q s' ⟨rfl,rfl,i,hr,hi,al⟩
   have a7:i=xs.length:=by
    rcases FP i xs.length with z|z
    ·rw[show xs.length - i=(xs.length - (i+1))+1 by omega,J4] at hr
     cases hr
    ·omega
   rw[a7,jo] at al
   rw[al] at h
   exact ag h
 ·rw[af (by rw[za,zb];simpa using hz)]
  rw[jk hz,lr] at h
  exact ac (yh (ag h))
theorem Xm{xs ys:List (List dL×Addr×Value)}(ha:(a==sysModules)=false)(hb:(b==sysModules)=false)(da:s.heap.DictOfH (tupleKind (dJ prog w)) a xs)(db:s.heap.DictOfH (tupleKind (dJ prog w)) b ys)(hu:A.units+1<cLine)
  (vx:∀x∈xs,∃n t,x.2.2=Value.int n t) (f:List dL->Option Int) (f1:∀(j:Nat)(k:List dL)(p:Addr×Value),ys[j]?=some (k,p)->∃n t,p.2=Value.int n t/\f k=some n) (f2:∀k,(∀(j:Nat)(p:Addr×Value),ys[j]?≠some (k,p))->f k=none)
  (h:Q (.bool (decide (xs.length=ys.length) && xs.all λx=>decide (f x.1=some (numOf x.2.2)))) s):wpAny (model prog w) A (compareOp .Eq (.ref a) (.ref b)) Q E s:=by
 refine wpAny_richCompare_same_room (op:=.Eq) da.typeIs db.typeIs PySem.F.slot_dict_eq (jf PySem.F.slot_dict_eq da.typeIs PySem.F.entry_dict_eq ?_ (PySem.F.args_dict_eq_2 _ _)) (AM hu)
 show wpAny _ _ (Builtin.Dict.dictSlotArgs "__eq__" ⟨[.ref a,.ref b],[]⟩>>=_) _ _ s
 refine ac ?_
 unfold Builtin.Dict.dictSlotArgs
 refine ac (JQ da.typeIs ?_)
 show wpAny _ _ (pure (Value.ref a,Value.ref b)) _ _ s
 refine ag (ac (AI (T:="dict") db.typeIs PySem.F.sub_dict_dict ?_))
 simp only[Bool.not_true,pf,ju]
 refine ac (ag (ac (ag (ac (Wy ha hb da db (CD hu) vx f f1 f2 ?_)))))
 refine ag ⟨_,rfl,?_,?_⟩
 ·exact λx=>nomatch x
 ·simpa using h
def Xj(cs ds:CL):Bool:=decide (cs.length=ds.length) && cs.all λc=>decide (aZ ds c.1=some c.2)
def aG2:R2:=λx y H Q=>∃(a b:Addr)(cs ds:CL),x=.ref a/\y=.ref b/\H a=some (.dT (aJ cs))/\H b=some (.dT (aJ ds))/\Q (.bl (Xj cs ds)) H
theorem aBk{xs:List (List dL×Addr×Value)}(r:KT H (aJ cs) xs):xs.length=cs.length/\∀(j:Nat)(k:List dL)(p:Addr×Value),xs[j]?=some (k,p)->∃q n t,cs[j]?=some (q,n)/\k=eJ q.1 q.2.1 q.2.2/\p.2=Value.int n t:=by
 have l:=Paired.length r
 unfold aJ at l
 rw[ai] at l
 refine⟨l.symm,λj k p e=>?_⟩
 have hj:j<(aJ cs).length:=by
  have:=(bp.mp e).1
  unfold aJ
  rw[ai]
  omega
 obtain⟨y,ey⟩:∃y,(aJ cs)[j]?=some y:=⟨_,ax hj⟩
 obtain⟨b,e1,h1,_,h3⟩:=iR r ey
 rw[e] at e1
 cases e1
 obtain⟨q,n,e2,e3,e4⟩:=iJ (k:=y.1) (v:=y.2) ey
 rw[e4] at h3
 obtain⟨t,e5⟩:=h3
 exact⟨q,n,t,e2,h1.symm.trans e3,e5⟩
theorem Bp[DecidableEq α]:∀{l:List (α×β)} {j:Nat} {k:α} {v:β},(l.map (·.1)).Nodup->l[j]?=some (k,v)->l.find? (λc=>decide (c.1=k))=some (k,v)
 |[],j,k,v,_,e=>by cases e
 |x::r,0,k,v,_,e=>by
  cases e
  rw[jn,decide_eq_true rfl]
 |x::r,j+1,k,v,h,e=>by
  rw[bn,pd] at h
  have e:r[j]?=some (k,v):=e
  have ne:¬x.1=k:=λz=>h.1 (by rw[z];exact a8.mpr ⟨(k,v),fj e,rfl⟩)
  rw[jn,jk ne]
  exact Bp h.2 e
theorem aBx(hu:X.A.units+1<cLine):uI X (compareOp .Eq) aG2:=by
 intro aa s σ H x y v u Q I rx ry h
 obtain⟨a,b,cs,ds,rfl,rfl,ea,eb,q⟩:=h
 cases (show v=Value.ref a from rx)
 cases (show u=Value.ref b from ry)
 obtain⟨_,ha,xs,ra,da⟩:=Me I.hok ea
 obtain⟨_,hb,ys,rb,db⟩:=Me I.hok eb
 obtain⟨la,ka⟩:=aBk ra
 obtain⟨lb,kb⟩:=aBk rb
 have ndy:(ys.map (·.1)).Nodup:=by
  obtain⟨_,_,_,_,_,_,_,_,nb⟩:=id db
  exact nb
 have gy:∀(j:Nat)(q:Pl)(n:Int),ds[j]?=some (q,n)->aZ ds q=some n:=λj q n e=>by
  have nd:(ds.map (·.1)).Nodup:=by
   have e1:ys.map (·.1)=(ds.map (·.1)).map λq=>eJ q.1 q.2.1 q.2.2:=by
    refine CZ λi=>?_
    rw[bg,bg,bg]
    by_cases hi:i<ys.length
    ·obtain⟨⟨k,p⟩,ei⟩:∃y,ys[i]?=some y:=⟨_,ax hi⟩
     obtain⟨q,n,t,h1,h2,h3⟩:=kb i k p ei
     rw[ei,h1,h2]
     rfl
    ·rw[jv (by omega),jv (by omega)]
     rfl
   rw[e1] at ndy
   exact PZ (S:=(· ≠·)) _ (λa b h z=>h (by rw[z])) ndy
  unfold aZ
  rw[Bp nd e]
  rfl
 refine Xm ha hb da db hu (λx hx=>?_) (λk=>(gB (aJ ds) k).bind λv=>match v with|.int n=>some n|_=>none) (λj k p e=>?_) (λk cg=>?_) ⟨.bl _,H,I,rfl,?_⟩
 ·obtain⟨j,e⟩:=pi.mp hx
  obtain⟨q,n,t,_,_,e3⟩:=ka j x.1 x.2 e
  exact⟨n,t,e3⟩
 ·obtain⟨q,n,t,h1,h2,h3⟩:=kb j k p e
  refine⟨n,t,h3,?_⟩
  rw[h2,lB,gy j q n h1]
  rfl
 ·show (gB (aJ ds) k).bind _=none
  cases e:gB (aJ ds) k with
  |none=>rfl
  |some v=>
   exfalso
   unfold gB at e
   obtain⟨p,hp,_⟩:=o9.mp e
   have hk:p.1=k:=by
    have:=PN (p:=λkv:List dL×V=>decide (kv.1=k)) hp
    exact dw this
   obtain⟨j,ej⟩:=pi.mp (J7 hp)
   obtain⟨z,ez,h1,_⟩:=iR rb ej
   exact cg j z.2 (by rw[ez,<-hk,h1])
 ·have e1:(decide (xs.length=ys.length) && xs.all λx=>decide (((gB (aJ ds) x.1).bind λv=>match v with|.int n=>some n|_=>none)=some (numOf x.2.2)))=Xj cs ds:=by
   unfold Xj
   rw[la,lb]
   congr 1
   rw[ge,jw,jw]
   have key:∀(j:Nat)(x:List dL×Addr×Value)(c:Pl×Int),xs[j]?=some x->cs[j]?=some c->(decide (((gB (aJ ds) x.1).bind λv=>match v with|.int n=>some n|_=>none)=some (numOf x.2.2))=true↔decide (aZ ds c.1=some c.2)=true):=λj x c ex ec=>by
    obtain⟨q,n,t,h1,h2,h3⟩:=ka j x.1 x.2 ex
    rw[ec] at h1
    cases h1
    rw[h2,lB,h3,b7,b7]
    cases aZ ds q with
    |none=>constructor<;>intro z<;>cases z
    |some m=>exact Iff.rfl
   constructor
   ·intro h c hc
    obtain⟨j,e⟩:=pi.mp hc
    have hj:=(bp.mp e).1
    have ex:xs[j]?=some (xs[j]'(by omega)):=ax (by omega)
    exact(key j _ c ex e).mp (h _ (fj ex))
   ·intro h x hx
    obtain⟨j,e⟩:=pi.mp hx
    have hj:=(bp.mp e).1
    have ec:cs[j]?=some (cs[j]'(by omega)):=ax (by omega)
    exact(key j x _ e ec).mpr (h _ (fj ec))
  rw[e1]
  exact q
abbrev Oh:Nat->Bool:=λ_=>false
abbrev kIn(k:List Int):List (Int ⊕ List Nat):=k.map Sum.inl
def Sg(a b:List Int):Bool:=lexLt itemOrd (kIn a) (kIn b)
theorem pQ:∀{vs:List Value}{ns:List Int}(i:Nat),IntsAre vs ns->tupItems Oh i vs=some (kIn ns)
 |_,_,i,.nil=>rfl
 |_,_,i,.cons n t r=>by
  rw[tupItems,ae b6,pQ (i+1) r]
  rfl
def TI(h:Heap)(u:Addr)(k:List Int):Prop:=∃its:List Value,IsTup h u its.toArray/\IntsAre its k
theorem TI.key{u:Addr}{k:List Int}(t:TI h u k):G.tupKeyC h Oh (.ref u)=some (kIn k):=by
 obtain⟨its,⟨o,ho,hc,n,hd⟩,hi⟩:=t
 unfold G.tupKeyC
 have e:G.isTupObj h (.ref u)=true:=by simp[G.isTupObj,ho,hc]
 rw[af e]
 show (match h.get? u with|some o=>(match o.data with|.seq xs _=>tupItems Oh 0 xs.toList|_=>none)|none=>none)=_
 rw[ho]
 show (match o.data with|.seq xs _=>tupItems Oh 0 xs.toList|_=>none)=_
 rw[hd]
 exact pQ 0 hi
theorem Nq:∀{us:List Addr} {kz:List (List Int)},Paired (TI h) us kz->(∀k∈kz,0<k.length)->∃fs,TupsOf h Oh (us.map Value.ref) fs
 |_,_,.nil,_=>⟨[],.nil⟩
 |_,_,.cons t r,hp=>by
  obtain⟨fs,hf⟩:=Nq r λk hk=>hp k (az _ hk)
  obtain⟨its,⟨o,ho,hc,n,hd⟩,hi⟩:=t
  have hk:=hp _ bf
  cases hi with
  |nil=>cases hk
  |cons m t hr=>exact⟨_,.cons ⟨_,o,_,n,rfl,ho,hc,hd,rfl,λ_=>⟨m,t,rfl⟩,λz=>by cases z⟩ hf⟩
def adr:Value->Addr
 |.ref a=>a
 |_=>0
def xR(kz:List (List Int))(ts:List Addr)(ps:List (List Int×Addr)):Prop:=ps.Perm (kz.zip ts)/\ps.Pairwise λp q=>Sg q.1 p.1=false
theorem Er{us:List Addr}(hu:Paired (TI h) us kz):∀(ts:List Addr)(p:Keyed),p∈(us.map Value.ref).zip (ts.map Value.ref)->∃k t,(k,t)∈kz.zip ts/\G.tupKeyC h Oh p.1=some (kIn k)/\p.2=.ref t:=by
 induction hu with
 |nil=>intro ts p hp;cases hp
 |cons r rs ih=>
  intro ts p hp
  cases ts with
  |nil=>cases hp
  |cons t ts=>
   rw[bn,bn,yj] at hp
   rcases ao.mp hp with rfl|hp
   ·exact⟨_,t,bf,r.key,rfl⟩
   ·obtain⟨k,t',h1,h2,h3⟩:=ih ts p hp
    exact⟨k,t',az _ h1,h2,h3⟩
def unK(l:List (Int ⊕ List Nat)):List Int:=l.map λx=>match x with|.inl n=>n|.inr _=>0
theorem vM(k:List Int):unK (kIn k)=k:=by
 unfold unK
 rw[de]
 exact J9 k
def kp(h:Heap)(p:Keyed):List Int×Addr:=(unK ((G.tupKeyC h Oh p.1).getD []),adr p.2)
theorem aC4{us:List Addr}(hu:Paired (TI h) us kz):∀(ts:List Addr),((us.map Value.ref).zip (ts.map Value.ref)).map (kp h)=kz.zip ts:=by
 induction hu with
 |nil=>intro ts;rfl
 | @cons u k us kz r rs ih=>
  intro ts
  cases ts with
  |nil=>rfl
  |cons t ts=>
   rw[bn,bn,yj,yj,bn,ih ts]
   have:kp h (Value.ref u,Value.ref t)=(k,t):=by
    unfold kp
    rw[r.key]
    show (unK (kIn k),t)=_
    rw[vM]
   rw[this]
theorem Ve{us:List Addr}(hu:Paired (TI h) us kz){arr:Array Keyed}(hp:arr.Perm ((us.map Value.ref).toArray.zip (ts.map Value.ref).toArray))(hs:SortedToK (G.tupKindC h Oh) arr arr.size):
  ∃ps,xR kz ts ps/\(arr.map (·.2)).toList=ps.map λp=>Value.ref p.2:=by
 have uu:arr.toList.Perm ((us.map Value.ref).zip (ts.map Value.ref)):=by
  have:=Array.perm_iff_toList_perm.mp hp
  rwa [P0] at this
 refine⟨arr.toList.map (kp h),⟨?_,?_⟩,?_⟩
 ·rw[<-aC4 hu ts]
  exact uu.map _
 ·rw[J']
  refine C1.mpr λi j hi hj NJ=>?_
  rw[d5] at hi hj
  have z:=hs i j (B7 NJ) hj
  have gk:∀(n:Nat)(hn:n<arr.toList.length),KK (G.tupKindC h Oh) arr n=kIn (kp h arr.toList[n]).1:=λn hn=>by
   obtain⟨k,t,_,h2,h3⟩:=Er hu ts arr.toList[n] (uu.mem_iff.mp (ui hn))
   unfold KK kp
   rw[<-oh,ax hn]
   show (G.tupKeyC h Oh (arr.toList[n]).1).getD []=kIn (unK ((G.tupKeyC h Oh (arr.toList[n]).1).getD []))
   rw[h2]
   show kIn k=kIn (unK (kIn k))
   rw[vM]
  rw[gk i (by rw[d5];exact hi),gk j (by rw[d5];exact hj)] at z
  exact z
 ·rw[Array.toList_map,de]
  refine uh λp hm=>?_
  obtain⟨k,t,_,_,h3⟩:=Er hu ts p (uu.mem_iff.mp hm)
  show p.2=Value.ref (adr p.2)
  rw[h3]
  rfl
theorem Zb{D kS:Addr}{us:List Addr}{e e1:Nat}{P:PySem.Fin->Shared->Prop}(hD:s.heap.get? D=some (seqObj "list" #[] e1))(hk:s.heap.get? kS=some (seqObj "list" (us.map Value.ref).toArray e))(aw:kS≠D)(hu:Paired (TI s.heap) us kz)(hl:ts.length=us.length)(h0:∀k∈kz,0<k.length)(hz:ts.length<=sizeLine)
  (h:∀h' ps c,xR kz ts ps->h'.get? D=some (seqObj "list" (ps.map λp=>Value.ref p.2).toArray c)->(∀b o,b≠D->b≠kS->s.heap.get? b=some o->h'.get? b=some o)->P (.done (.ret .none)) {s with heap:=h'}):
  wpAny (model prog w) A (ksk_end D false (ts.map Value.ref).toArray e1 (.ref kS) (us.map Value.ref).toArray) P E s:=by
 have zs:((us.map Value.ref).toArray.zip (ts.map Value.ref).toArray).size=ts.length:=by
  rw[Array.size_zip,ca,ca,ai,ai,hl,Nat.min_self]
 have tail:∀st:SortSt,(arrOf st).Perm ((us.map Value.ref).toArray.zip (ts.map Value.ref).toArray)->SortedToK (G.tupKindC s.heap Oh) (arrOf st) (arrOf st).size->failedOf st=none->wpAny (model prog w) A (ksk_tail D false e1 (.ref kS) st) P E s:=λst hp hs hf=>by
  obtain⟨ps,sb,eo⟩:=Ve hu hp hs
  have oz:((arrOf st).map (·.2)).size=ts.length:=by rw[Array.size_map,hp.size_eq,zs]
  have ea:(arrOf st).map (·.2)=(ps.map λp=>Value.ref p.2).toArray:=by rw[<-eo]
  have s1:=jx s.heap kS (Obj.mapSeq λ_=>(#[]:Array Value))
  have cz:=(s1.2 D aw.symm).trans hD
  have s2:=jx (s.heap.update kS (Obj.mapSeq λ_=>(#[]:Array Value))) D (Obj.mapSeq λ_=>(arrOf st).map (·.2))
  obtain⟨c,hc⟩:∃c,((s.heap.update kS (Obj.mapSeq λ_=>(#[]:Array Value))).update D (Obj.mapSeq λ_=>(arrOf st).map (·.2))).get? D=some (seqObj "list" ((arrOf st).map (·.2)) c):=⟨_,KA cz λ_=>(arrOf st).map (·.2)⟩
  unfold ksk_tail
  refine ac (FQ hk rfl ?_ (by rw[ca,ai,<-hl];omega) (c7 _))
  refine ac (wpAny_letGo ?_)
  refine ac (seqEpoch_at cz rfl ?_)
  refine ac (FQ cz rfl ?_ (c7 _) ?_)
  ·rw[hf]
   simp only[bne_self_eq_false,pf,ju]
   exact ag (h _ ps c sb (hc.trans (by rw[ea])) λb o h1 h2 q=>(s2.2 b h1).trans ((s1.2 b h2).trans q))
  ·show ((arrOf st).map (·.2)).size<=_
   rw[oz]
   omega
 unfold ksk_end
 dsimp only
 rw[ae b6]
 by_cases h2:(ts.map Value.ref).toArray.size<2
 ·rw[af h2,af h2]
  refine ac (ag ?_)
  rw[StateT.run_pure]
  refine ac (ag ?_)
  refine tail (SortSt.mk' general' _ #[] 7 none) (P1 _) (λi j NJ hj=>?_) rfl
  have hj:j<((us.map Value.ref).toArray.zip (ts.map Value.ref).toArray).size:=hj
  rw[zs] at hj
  rw[ca,ai] at h2
  obtain rfl:i=j:=by omega
  exact KeyOrd.kle_refl _
 ·rw[ae h2,ae h2]
  rw[ca,ai] at h2
  obtain⟨fs,NK⟩:=Nq hu h0
  have fl:=G.TupsOf.length NK
  rw[ai] at fl
  refine ac (tup_kind (by omega) NK ?_)
  refine ac (jm (G.wpS_sortRunsSt (κ:=G.tupKindC s.heap Oh) (kd:=tuples' true) (a₀:=(us.map Value.ref).toArray.zip (ts.map Value.ref).toArray) (st:=SortSt.mk' (tuples' true) ((us.map Value.ref).toArray.zip (ts.map Value.ref).toArray) #[] 7 none)
   (Q:=λ_ d9=>(arrOf d9).Perm ((us.map Value.ref).toArray.zip (ts.map Value.ref).toArray)/\failedOf d9=none/\SortedToK (G.tupKindC s.heap Oh) (arrOf d9) ((us.map Value.ref).toArray.zip (ts.map Value.ref).toArray).size)
   (G.tupC_ltAt true (G.KeepsTups.refl _)) (λp hm=>?_) ⟨P1 _,rfl,rfl⟩ rfl (Stable.refl _) (by rw[zs];omega) λd9 a1 a2 a3 _=>⟨a1,a2,a3⟩) ?_ λ_ _ e=>e)
  ·rw[P0] at hm
   obtain⟨k,t,_,hk,_⟩:=Er hu ts p hm
   exact⟨_,hk⟩
  ·rintro⟨⟨⟩,d9⟩ s' ⟨rfl,hp,hf,hs⟩
   exact tail d9 hp (by rw[hp.size_eq];exact hs) hf
section
variable{σ:L2.St}
theorem Mm(h:iV X aa H b)(e:H' b=none):iV X aa H' b:=⟨e,h.2⟩
def Gj(H:Hp)(u:Addr)(k:List Int):Prop:=H u=some (.tup (k.map V.int))
theorem aEl(I:L2.aQ X aa σ H s){u:Addr}{k:List Int}(h:Gj H u k):TI s.heap u k:=by
 obtain⟨its,rv,p,_⟩:=I.tuple (cG.of (K:=X.K) h)
 exact⟨its,p,rv.ints⟩
def aA7(sp:Sp)(H:Hp)(ts:List Addr)(kz:List (List Int)):Prop:=∀(i:Nat)(t:Addr)(k:List Int)(H':Hp)(Q:VK),ts[i]?=some t->kz[i]?=some k->aK H H'->(∀(H2:Hp)(u:Addr),aK H' H2->Gj H2 u k->Q (.ref u) H2)->sp [.ref t] H' Q E0
variable{D kS:Addr}{e1:Nat}{p:Str}
theorem Uc{P:PySem.Fin->Shared->Prop}(F:bO X.prog X.w X.K X.mg X.base bN k f fd [p] sp)(hr:eY (k+2) X.A)(hb:eR X.K fd [p] [])(I:L2.aQ X aa σ H s)(hD:s.heap.get? D=some (seqObj "list" #[] e1))(hk:s.heap.get? kS=some (seqObj "list" #[] 0))(aw:kS≠D)(fD:iV X aa H D)(fk:iV X aa H kS)
  (ko:aA7 sp H ts kz) (hl:ts.length=kz.length) (h0:∀k∈kz,0<k.length) (hz:ts.length<=sizeLine)
  (h:∀(H':Hp)(s':Shared) ps c,aK H H'->L2.aQ X aa σ H' s'->iV X aa H' D->xR kz ts ps->s'.heap.get? D=some (seqObj "list" (ps.map λp=>Value.ref p.2).toArray c)->P (.done (.ret .none)) s'):
  wpAny (model X.prog X.w) X.A.in1.in1 (ksk_rest D (.ref f) false (ts.map Value.ref).toArray e1 (.ref kS)) P E s:=by
 unfold ksk_rest
 refine ac (yh ?_)
 rw[List.forIn_toArray]
 refine ac (ksk_fold (λi s'=>∃H' us e,L2.aQ X aa σ H' s'/\aK H H'/\s'.heap.get? D=some (seqObj "list" #[] e1)/\s'.heap.get? kS=some (seqObj "list" (us.map Value.ref).toArray e)/\iV X aa H' D/\iV X aa H' kS/\Paired (Gj H') us (kz.take i)) (ts.map Value.ref) 0 s
  ⟨H,[],0,I,λ_ _ e=>e,hD,hk,fD,fk,.nil⟩ ?_ ?_)
 ·rintro j x s1 hx ⟨H1,us,e,I1,S1,cz,EH,xw,z7,pu⟩
  rw[oo] at pu ⊢
  rw[bg] at hx
  cases et:ts[j]? with
  |none=>rw[et] at hx;cases hx
  |some t=>
   rw[et] at hx
   cases hx
   have hj:j<ts.length:=(bp.mp et).1
   obtain⟨kk,ek⟩:∃kk,kz[j]?=some kk:=⟨_,ax (by omega)⟩
   have ul:us.length=j:=by
    rw[Paired.length pu,gf]
    omega
   have Ip:L2.aQ X (aa++[(D,seqObj "list" #[] e1),(kS,seqObj "list" (us.map Value.ref).toArray e)]) σ H1 s1:=I1.pins_of λq hq=>by
    rcases je.mp hq with hq|hq
    ·exact I1.pin q (gd _ hq)
    ·rcases ao.mp hq with rfl|hq
     ·exact⟨cz,xw.1,xw.2.1,xw.2.2.1,λv z=>by cases z⟩
     ·rcases ao.mp hq with rfl|hq
      ·exact⟨EH,z7.1,z7.2.1,z7.2.2.1,λv z=>by cases z⟩
      ·cases hq
   have ke:=ko j t kk H1 (λv H2=>∃u,v=.ref u/\aK H1 H2/\Gj H2 u kk) et ek S1 λH2 u S2 ku=>⟨u,rfl,S2,ku⟩
   have bt:=hb s1 [.ref t] I1.kIn rfl
   refine ac (uc (AB (ua (F.run X.A.in1.in1 X.stack s1 H1 ⟨[.ref t],[]⟩ [.ref t] [.ref t] _ E0 hr.in1.in1 I1.env0.in1.in1 bt (.cons rfl .nil) ke) λr s2 hq=>?_)))
   cases r with
   |error e=>exact hq.elim
   |ok fl=>
    cases fl with
    |ret v=>
     obtain⟨v',H2,I2,rv,u,rfl,S2,ku⟩:=Ip.after hq
     obtain rfl:v=Value.ref u:=rv
     have pD:=I2.pin (D,_) (gd _ (gd _ bf))
     have pk:=I2.pin (kS,_) (gd _ (gd _ (az _ bf)))
     have I3:=I2.unpinned
     have NL:=Mm z7 pk.2.1
     have VO:=Mm xw pD.2.1
     have NM:=jx s2.heap kS (Obj.mapSeq (·.push (Value.ref u)))
     obtain⟨c2,dk⟩:∃c2,(s2.heap.update kS (Obj.mapSeq (·.push (Value.ref u)))).get? kS=some (seqObj "list" ((us.map Value.ref).toArray.push (Value.ref u)) c2):=⟨_,KA pk.1 (·.push (Value.ref u))⟩
     refine ac (FQ pk.1 rfl ?_ (by rw[ca,ai];omega) (gm (vn (Array.size_push ..)) (by rw[ca,ai];omega)))
     have I4:=I3.turnedL (ch:=[kS]) (t':=s2.toks) (h':=s2.heap.update kS (Obj.mapSeq (·.push (Value.ref u)))) (λb o hb q=>(NM.2 b (λz=>hb (by rw[z];exact gq.mpr rfl))).trans q) (λb hb=>by rw[gq.mp hb];exact NL)
     refine ag ⟨rfl,H2,us++[u],c2,I4,S1.trans S2,(NM.2 D aw.symm).trans pD.1,?_,VO,NL,?_⟩
     ·rw[dk,c9]
      congr 2
      exact(List.push_toArray ..)
     ·rw[List.take_add_one,ek]
      exact Paired.snoc (Paired.mapP pu λu k z=>S2 _ _ z) ku
    |next=>exact hq.elim
    |brk=>exact hq.elim
    |cont=>exact hq.elim
 ·rintro s1 ⟨H1,us,e,I1,S1,cz,EH,xw,z7,pu⟩
  have et:kz.take (0+(ts.map Value.ref).length)=kz:=ym (by rw[ai];omega)
  rw[et] at pu
  have ul:ts.length=us.length:=by rw[Paired.length pu,hl]
  have pt:Paired (TI s1.heap) us kz:=Paired.mapP pu λu k z=>aEl I1 z
  refine ac (listItems_at EH rfl ?_)
  refine Zb cz EH aw pt ul h0 hz λh' ps c sb hd ko=>?_
  refine h H1 _ ps c S1 (I1.turnedL (ch:=[D,kS]) (t':=s1.toks) (λb o hb q=>?_) (λb hb=>?_)) xw sb hd
  ·simp only[ao,dh,io,CA] at hb
   exact ko b o hb.1 hb.2 q
  ·simp only[ao,dh,io] at hb
   rcases hb with rfl|rfl
   ·exact xw
   ·exact z7
end
section
variable{σ:L2.St}
theorem aE4{D:Addr}{o:HO}(I:L2.aQ X aa σ H s)(f:iV X aa H D)(new:cF X.prog X.w (upd H D o) s.heap D o):L2.aQ X aa σ (upd H D o) s:=by
 have hn:=f.1
 refine I.step (g':=s.gens) (d':=s.drawn) (t':=s.toks) (h':=s.heap) (ch:=[D]) (λb hb=>by rw[gq.mp hb];exact⟨f.2.2.2.1,f.2.1,f.2.2.2.2.1,f.2.2.2.2.2⟩) (λb o _ _ _ e _=>e) (λb o _ _ _ e _=>⟨o.slots,e⟩)
  (λb o hc e n=>?_) (λb o hc e=>⟨o,e⟩) (λb xs e=>?_) (λb o u e=>?_) (λb ps e=>⟨#[],?_⟩) (λm hm=>hm) (λb u e=>?_) I.bare
 ·rw[aC (λz=>hc (by rw[z];exact gq.mpr rfl))];exact n
 ·rw[aC (aD e hn)];exact e
 ·rw[aC (aD e hn)];exact e
 ·rw[aC (aD e hn),e];simp
 ·by_cases hb:b=D
  ·subst hb
   rw[aB] at e
   cases e
   exact new
  ·rw[aC hb] at e
   exact(I.hok b u e).stay (λc v hc q=>q) (λc q=>by rw[aC (aD q hn)];exact q) λc xs q=>by rw[aC (aD q hn)];exact q
theorem pG:∀{ts:List Addr}{its:List Value},bK (ts.map V.ref) its->its=ts.map Value.ref
 |[],its,h=>by
  rw[vq] at h
  cases h
  rfl
 |t::ts,its,h=>by
  rw[bn] at h
  cases h with
  |cons r q=>
   cases r
   rw[pG q]
   rfl
theorem Aq:∀(ts:List Addr),bK (ts.map V.ref) (ts.map Value.ref)
 |[]=>.nil
 |t::ts=>.cons rfl (Aq ts)
def Va(K:Frag)(sp:Sp)(te:TE):TE:=fun σ H Q=>dH te gC σ H λvs H1=>∃(a:Addr)(ts:List Addr) (kz:List (List Int)),vs=[.ref a]/\cP K H1 a (ts.map V.ref)/\aA7 sp H1 ts kz/\ts.length=kz.length/\(∀k∈kz,0<k.length)/\
 ∀(H2:Hp)(D:Addr) (ps:List (List Int×Addr)),aK H1 H2->H2 D=none->xR kz ts ps->Q (.ref D) (upd H2 D (.lst (ps.map λp=>V.ref p.2)))
theorem Jo{p g:Str}{p1 p3:Pos}(F:bO X.prog X.w X.K X.mg X.base bN k f fd [p] sp)(hr:eY (k+2) X.A)(hb:eR X.K fd [p] [])(sj:Gl X "sorted")(n9:X.mg "sorted"=none)(lj:Gl X g)(t9:X.mg g=some (.ref f))(he:PE X e te)
  (gi:(g==("__debug__":Str))=false:=by decide) (hs:starEach [e] X.env=[(false,eval e X.env)]:=by rfl):PE X (.Call (.Name "sorted" p1) [e] [⟨some "key",.Name g p2,p3⟩] pos) (Va X.K sp te):=by
 intro aa s σ H Q I h
 refine wpAny_Call_Name_kw (lY I sj n9 boot_sorted ?_ (by decide) (by decide))
 refine PyProof.Rows.callWith_kw (cV ((aA he aE hs) pos aa s σ H _ I h) λus s1 ⟨vs,H1,I1,r1,q1⟩=>?_) (by rw[hs];rfl) (by rw[hs];rfl) rfl rfl
 refine PyProof.Rows.kws_cons (iG I1 lj t9 (PyProof.Rows.kws_nil ?_) gi)
 obtain⟨a,ts,kz,rfl,hq,ko,hl,h0,q⟩:=q1
 obtain⟨its,rv,pl,lz⟩:=I1.list hq
 obtain rfl:=pG rv
 rw[ai] at lz
 have iz:(ts.map Value.ref).length<=sizeLine:=by rw[ai];exact lz
 rw[bK.ref1 r1]
 refine call_function_entry_kw kind_sorted plain_sorted entry_sorted (ksk_s1 _ _) ?_
 unfold Builtin.«sorted»
 refine ac (m:=checkCount "sorted" 1 1 _) (ag ?_)
 refine ac (collect_list pl.isList ?_ iz)
 refine ac (KB ?_ iz)
 generalize hh1:(s1.heap.push (seqObj "list" #[] 0)).update s1.heap.objs.size (Obj.mapSeq (· ++(ts.map Value.ref).toArray))=h1
 have VP:h1.objs.size=s1.heap.objs.size+1:=by rw[<-hh1,Heap.size_update,size_push']
 have k1:∀b o,s1.heap.get? b=some o->h1.get? b=some o:=λb o e=>by
  have am:b<s1.heap.objs.size:=ba e
  rw[<-hh1,JS _ _ _ _ (b8 am),Heap.get?_push_ne _ _ _ (b8 am)]
  exact e
 have oD:(h1.push (seqObj "list" (ts.map Value.ref).toArray 0)).get? h1.objs.size=some (seqObj "list" (ts.map Value.ref).toArray 0):=cb _ rfl
 have k2:∀b o,s1.heap.get? b=some o->(h1.push (seqObj "list" (ts.map Value.ref).toArray 0)).get? b=some o:=λb o e=>bh _ (k1 b o e)
 have I2:=I1.kept (t':=s1.toks) k2
 have gu:s1.heap.objs.size<=h1.objs.size:=by rw[VP];exact AC _
 have fD:iV X aa H1 h1.objs.size:=I1.fpOk gu (I1.hok.fresh gu)
 refine ac (j8 (wpAny_call_entry_kw slot_list_sort ⟨_,oD,rfl⟩ entry_list_sort ?_ (ksk_l1 _ _)))
 show wpAny _ _ (Builtin.«list.sort» ⟨[.ref h1.objs.size],[(Str.ofString "key",.ref f)]⟩) _ _ {s1 with heap:=h1.push (seqObj "list" (ts.map Value.ref).toArray 0)}
 rw[ksk_t1]
 unfold ksk_tree
 refine ac (listItems_at oD rfl ?_)
 refine ac (FQ oD rfl ?_ (by rw[ca];omega) (c7 _))
 have sb:=jx (h1.push (seqObj "list" (ts.map Value.ref).toArray 0)) h1.objs.size (Obj.mapSeq λ_=>(#[]:Array Value))
 obtain⟨e1,IQ⟩:∃e1,((h1.push (seqObj "list" (ts.map Value.ref).toArray 0)).update h1.objs.size (Obj.mapSeq λ_=>(#[]:Array Value))).get? h1.objs.size=some (seqObj "list" #[] e1):=⟨_,KA oD λ_=>#[]⟩
 have I3:=I2.turnedL (ch:=[h1.objs.size]) (t':=s1.toks) (h':=(h1.push (seqObj "list" (ts.map Value.ref).toArray 0)).update h1.objs.size (Obj.mapSeq λ_=>(#[]:Array Value))) (λb o hb q=>(sb.2 b (λz=>hb (by rw[z];exact gq.mpr rfl))).trans q) (λb hb=>by rw[gq.mp hb];exact fD)
 refine ac (seqEpoch_at IQ rfl ?_)
 refine ac (wpAny_newTuple ?_ iz)
 refine ac (KB ?_ (c7 _))
 refine j8 ?_
 generalize zx:((h1.push (seqObj "list" (ts.map Value.ref).toArray 0)).update h1.objs.size (Obj.mapSeq λ_=>(#[]:Array Value)))=h3 at I3 IQ
 have VQ:h3.objs.size=h1.objs.size+1:=by rw[<-zx,Heap.size_update,size_push']
 have szk:(h3.push (seqObj "tuple" (ts.map Value.ref).toArray 0)).objs.size=h1.objs.size+2:=by rw[size_push',VQ]
 have I4:=I3.kept (t':=s1.toks) (h':=(h3.push (seqObj "tuple" (ts.map Value.ref).toArray 0)).push (seqObj "list" #[] 0)) λb u e=>bh _ (bh _ e)
 have lek:s1.heap.objs.size<=(h3.push (seqObj "tuple" (ts.map Value.ref).toArray 0)).objs.size:=by rw[szk];omega
 have fk:iV X aa H1 (h3.push (seqObj "tuple" (ts.map Value.ref).toArray 0)).objs.size:=I1.fpOk lek (I1.hok.fresh lek)
 refine Uc (s:={s1 with heap:=(h3.push (seqObj "tuple" (ts.map Value.ref).toArray 0)).push (seqObj "list" #[] 0)}) F hr hb I4 (bh _ (bh _ IQ)) (cb _ rfl) (by rw[szk];exact pc (v9 (lu _))) fD fk ko hl h0 lz λH5 s5 ps c S5 I5 f5 NN o5=>⟨_,rfl,?_⟩
 have pz:(ps.map λp=>V.ref p.2).length<=sizeLine:=by
  rw[ai,NN.1.length_eq,List.length_zip]
  omega
 have ev:(ps.map λp=>V.ref p.2)=(ps.map (·.2)).map V.ref:=by rw[de];rfl
 have eu:(ps.map λp=>Value.ref p.2)=(ps.map (·.2)).map Value.ref:=by rw[de];rfl
 refine ag ⟨_,rfl,.ref h1.objs.size,upd H5 h1.objs.size (.lst (ps.map λp=>V.ref p.2)),aE4 I5 f5 ⟨pz,ps.map (λp=>Value.ref p.2),c,?_,o5⟩,rfl,q H5 h1.objs.size ps S5 f5.1 NN⟩
 rw[ev,eu]
 exact Aq _
end
abbrev rR(l:List Nat):Prop:=l.Pairwise (· <·)
theorem wZ{l:List Nat}(hr:rR l)(j:Nat):∀(f lo hi:Nat),hi - lo<=f->lo<=hi->hi<=l.length->(∀i,i<lo->l.getD i j<j)->(∀i,hi<=i->i<l.length->j<=l.getD i j)->
  ∃m,SetTable.below.go l.toArray j f lo hi=m/\m<=l.length/\(∀i,i<m->l.getD i j<j)/\∀i,m<=i->i<l.length->j<=l.getD i j
 |0,lo,hi,h1,h2,h3,ha,hb=>⟨lo,rfl,by omega,ha,λi h4 h5=>hb i (by omega) h5⟩
 |f+1,lo,hi,h1,h2,h3,ha,hb=>by
  rw[SetTable.below.go]
  by_cases h:lo<hi
  ·rw[af h]
   have em:(l.toArray).getD ((lo+hi) / 2) j=l.getD ((lo+hi) / 2) j:=by
    rw[cx,Array.getD_eq_getD_getElem?,FR]
   show ∃m,(if (l.toArray).getD ((lo+hi) / 2) j<j then _ else _)=m/\_
   rw[em]
   have mono:∀i k,i<k->k<l.length->l.getD i j<l.getD k j:=λi k h1 h2=>by
    have:=C1.mp hr i k (by omega) h2 h1
    rw[cx,cx,ax h2,ax (by omega:i<l.length)]
    exact this
   by_cases hm:l.getD ((lo+hi) / 2) j<j
   ·rw[af hm]
    refine wZ hr j f _ _ (by omega) (by omega) h3 (λi G'=>?_) hb
    by_cases e:i=(lo+hi) / 2
    ·rw[e];exact hm
    ·exact EW (mono i ((lo+hi) / 2) (by omega) (by omega)) hm
   ·rw[ae hm]
    refine wZ hr j f _ _ (by omega) (by omega) (by omega) ha (λi G' hl=>?_)
    by_cases e:i=(lo+hi) / 2
    ·rw[e];omega
    ·have:=mono ((lo+hi) / 2) i (by omega) hl
     omega
  ·rw[ae h]
   exact⟨lo,rfl,by omega,ha,λi h4 h5=>hb i (by omega) h5⟩
theorem sF{l:List Nat}(hr:rR l)(j:Nat):SetTable.below l.toArray j<=l.length/\(∀i,i<SetTable.below l.toArray j->l.getD i j<j)/\∀i,SetTable.below l.toArray j<=i->i<l.length->j<=l.getD i j:=by
 obtain⟨m,e,h⟩:=wZ hr j l.length 0 l.length (by omega) (by omega) (ap _) (λi h=>absurd h (ue _)) (λi h1 h2=>absurd h2 (by omega))
 have e2:SetTable.below l.toArray j=m:=by
  rw[<-e]
  show SetTable.below.go l.toArray j l.toArray.size 0 l.toArray.size=_
  rw[ca]
 rw[e2]
 exact h
theorem Kd{l:List Nat}(hr:rR l)(hi:i<l.length):SetTable.below l.toArray l[i]=i:=by
 obtain⟨h1,h2,h3⟩:=sF hr l[i]
 have g:l.getD i l[i]=l[i]:=by rw[cx,ax hi];rfl
 by_cases a:i<SetTable.below l.toArray l[i]
 ·have:=h2 i a;rw[g] at this;exact absurd this (j6 _)
 ·by_cases b:SetTable.below l.toArray l[i]<i
  ·have q:=h3 _ (ap _) (by omega)
   have p:=C1.mp hr _ i (by omega) hi b
   rw[cx,ax (by omega)] at q
   have q:l[i]<=l[SetTable.below l.toArray l[i]]:=q
   omega
  ·omega
theorem Kl{l:List Nat}(hr:rR l)(hi:i<l.length):SetTable.below l.toArray (l[i]+1)=i+1:=by
 obtain⟨h1,h2,h3⟩:=sF hr (l[i]+1)
 have g:l.getD i (l[i]+1)=l[i]:=by rw[cx,ax hi];rfl
 by_cases a:SetTable.below l.toArray (l[i]+1)<=i
 ·have:=h3 i a hi;rw[g] at this;omega
 ·by_cases b:i+1<SetTable.below l.toArray (l[i]+1)
  ·have q:=h2 (i+1) b
   have p:=C1.mp hr i (i+1) hi (by omega) (by omega)
   rw[cx,ax (by omega)] at q
   have q:l[i+1]<l[i]+1:=q
   omega
  ·omega
theorem Kv{l:List Nat}(hr:rR l):SetTable.below l.toArray 0=0:=by
 obtain⟨h1,h2,h3⟩:=sF hr 0
 by_cases a:0<SetTable.below l.toArray 0
 ·exact absurd (h2 0 a) (ue _)
 ·omega
theorem Tc{l:List Nat}(hr:rR l)(hj:j∉l):rR (SetTable.insertAt l.toArray (SetTable.below l.toArray j) j).toList:=by
 obtain⟨h1,h2,h3⟩:=sF hr j
 rw[SetTable.toList_insertAt]
 show rR (l.take _++j::l.drop _)
 generalize SetTable.below l.toArray j=m at h1 h2 h3
 have bo:∀x∈l.take m,x<j:=λx hx=>by
  obtain⟨i,hi,rfl⟩:=FT.mp hx
  rw[gf] at hi
  have:=h2 i (by omega)
  rw[cx,ax (by omega:i<l.length)] at this
  rw[List.getElem_take]
  exact this
 have d4:∀x∈l.drop m,j<x:=λx hx=>by
  obtain⟨i,hi,rfl⟩:=FT.mp hx
  rw[JM] at hi
  have:=h3 (m+i) (by omega) (by omega)
  rw[cx,ax (by omega:m+i<l.length)] at this
  have this:j<=l[m+i]:=this
  rw[List.getElem_drop]
  rcases FP j l[m+i] with h|h
  ·exact h
  ·exact absurd (FT.mpr ⟨m+i,by omega,by omega⟩) hj
 refine List.pairwise_append.mpr ⟨hr.sublist (N8 _ _),yo.mpr ⟨d4,hr.sublist (List.drop_sublist _ _)⟩,λa ha b hb=>?_⟩
 rcases ao.mp hb with rfl|hb
 ·exact bo a ha
 ·exact EW (bo a ha) (d4 b hb)
theorem yX(n:Nat):rR (List.range n):=List.pairwise_lt_range
structure TG(t:SetTable):Prop where
 ris:rR t.place.toList
 nod:t.dummies=#[]
theorem wP{t:SetTable}(nd:t.dummies=#[])(hf:Nat->Int)(h:Int):∀(f:Nat)(p:SetTable.Probe)(j:Nat)(d:Option Nat),p.dummy=none->SetTable.probe.go t hf h f p=some (.empty j d)->d=none/\t.slot j=.empty
 |0,p,j,d,_,e=>by cases e
 |f+1,p,j,d,hp,e=>by
  rw[SetTable.probe.go] at e
  have ha:∀q:SetTable.Probe,q.dummy=none->(t.advance q).dummy=none:=λq hq=>by
   unfold SetTable.advance
   split
   ·exact hq
   ·exact hq
  split at e
  ·rename_i es
   cases e
   exact⟨hp,es⟩
  ·rename_i es
   exfalso
   unfold SetTable.slot at es
   dsimp only at es
   split at es
   ·cases es
   ·rw[nd] at es
    split at es
    ·rename_i hh
     unfold SetTable.has at hh
     simp at hh
    ·cases es
  ·split at e
   ·cases e
   ·exact wP nd hf h f _ j d (ha _ hp) e
theorem We{t:SetTable}(g:TG t){h:Int}{b:Bool}(e:t.freeSlot h=some (j,b)):j∉t.place.toList/\b=false:=by
 unfold SetTable.freeSlot at e
 split at e
 ·rename_i j' d e2
  obtain⟨rfl,hs⟩:=wP g.nod _ _ _ _ j' d rfl e2
  cases e
  refine⟨λhm=>?_,rfl⟩
  obtain⟨i,hi,e3⟩:=FT.mp hm
  have hb:=Kd g.ris hi
  rw[e3] at hb
  unfold SetTable.slot at hs
  dsimp only at hs
  have hb:SetTable.below t.place j'=i:=hb
  rw[hb] at hs
  have:(t.place[i]?==some j')=true:=by
   rw[<-oh,ax hi,e3]
   exact E3 _
  rw[af this] at hs
  cases hs
 ·cases e
theorem TG.stand{t:SetTable}{n:Nat}:TG (t.standIn n):=⟨by
 show rR (Array.range n).toList
 rw[Array.toList_range]
 exact yX n,rfl⟩
theorem TG.lay{t:SetTable}(g:TG t){h:Int}{x:Value}:TG (layNew t es h x).2.1:=by
 unfold layNew
 split
 ·rename_i j b e
  obtain⟨hj,rfl⟩:=We g e
  show TG ((t.put j).1.orStandIn _)
  unfold SetTable.orStandIn
  split
  ·refine⟨?_,?_⟩
   ·have:=Tc (l:=t.place.toList) g.ris hj
    exact this
   ·show (if SetTable.has t.dummies j=true then _ else t.dummies)=#[]
    rw[g.nod,ae (by show ¬SetTable.has #[] j=true;unfold SetTable.has;simp)]
  ·exact TG.stand
 ·exact TG.stand
theorem aAn{t:SetTable}{h:Int}{x:Value}:(layNew t es h x).2.1.led=t.led:=by
 unfold layNew
 split
 ·show ((t.put _).1.orStandIn _).led=_
  unfold SetTable.orStandIn
  split
  ·rfl
  ·rfl
 ·rfl
theorem rF{γ:Type}(f:Nat->Option γ):∀(l:List Nat),rR l->rR ((l.filterMap λj=>(f j).map λk=>(j,k)).map (·.1))
 |[],_=>.nil
 |a::r,h=>by
  obtain⟨h1,h2⟩:=yo.mp h
  have ih:=rF f r h2
  rw[z8]
  cases e:f a with
  |none=>exact ih
  |some k=>
   refine yo.mpr ⟨λy hy=>?_,ih⟩
   obtain⟨q,hq,rfl⟩:=a8.mp hy
   obtain⟨j,hj,e2⟩:=AA.mp hq
   cases e3:f j with
   |none=>rw[e3] at e2;cases e2
   |some k'=>
    rw[e3] at e2
    cases e2
    exact h1 j hj
theorem TG.laid{f v:Nat}{l p:Bool}{hs:Array Int}{t':SetTable}{o:Array Nat}(e:SetTable.laid m f v l p hs=some (t',o)):TG t'/\t'.led=l:=by
 unfold SetTable.laid at e
 cases e1:SetTable.layClean m hs with
 |none=>rw[e1] at e;cases e
 |some ow=>
  rw[e1] at e
  cases e
  refine⟨⟨?_,rfl⟩,rfl⟩
  show rR (List.map _ _).toArray.toList
  exact rF (λj=>ow.getD j none) _ (yX _)
theorem TG.relay{t:SetTable}(g:TG t){n:Nat}:TG (relayAll t es n).2.1/\(relayAll t es n).2.1.led=t.led:=by
 unfold relayAll
 split
 ·rename_i t' o e
  dsimp only
  unfold SetTable.relaid at e
  split
  ·exact TG.laid e
  ·exact⟨TG.stand,rfl⟩
 ·exact⟨TG.stand,rfl⟩
def SG(prog:Program)(w:World)(h:Heap)(a:Addr)(ks:List Int):Prop:=
 ∃o es ep t,h.get? a=some o/\o.ExactSet/\o.data=.set es ep t/\ElemsOf (PySem.intKind prog w) es.toList/\(es.toList.map λe=>numOf e.2).Perm ks/\es.size<scanBound/\t.fits es.size=true/\TG t/\t.led= !w.params.followText "set-order"
theorem SG.at(g:SG prog w h a ks)(e:∀o,h.get? a=some o->h'.get? a=some o):SG prog w h' a ks:=by
 obtain⟨o,es,ep,t,ho,r⟩:=g
 exact⟨o,es,ep,t,e _ ho,r⟩
theorem Xe{k:Int}(h:Value.isInt k v=true):numOf v=k:=by
 obtain⟨t,rfl⟩:=JC h
 rfl
theorem Fo{fv:Array (Int×Value)}{t t':SetTable}(ho:h.get? a=some o)(hx:o.ExactSet)(hd:o.data=.set es ep t)(h1:ElemsOf (PySem.intKind prog w) fv.toList)(h2:(fv.toList.map λe=>numOf e.2).Perm ks)
  (h3:fv.size<scanBound) (h4:t'.fits fv.size=true) (h5:TG t') (h6:t'.led= !w.params.followText "set-order"):(h.update a (Obj.putSet fv t')).get? a=some {o with data:=.set fv (ep+1) t'}/\SG prog w (h.update a (Obj.putSet fv t')) a ks:=by
 have e1:=(SetOf_store (knd:=PySem.intKind prog w) (S':=λk=>fv.toList.any λe=>(PySem.intKind prog w).is k e.2) ho hx hd h1 (λk=>mr) h3 h4).1
 exact⟨e1,_,fv,ep+1,t',e1,hx,rfl,h1,h2,h3,h4,h5,h6⟩
theorem SG.add{k:Int}{u:Tok}{Q:Bool->Shared->Prop}(g:SG prog w s.heap a ks)(room:ks.length+1<scanBound)
  (h:∀b h',Heap.SameBut a s.heap h'->SG prog w h' a (step_dedup ks k)->Q b {s with heap:=h'}):wpAny (model prog w) A (setAddHashed a (.int k u) ((PySem.intKind prog w).hash k)) Q E s:=by
 have hk:(PySem.intKind prog w).is k (.int k u)=true:=intKind_is _ _ _ _
 obtain⟨o,es,ep,t,ho,hx,hd,l8,hp,hb,hf,tg,ld⟩:=id g
 have lz:es.size=ks.length:=by
  have:=hp.length_eq
  rwa [ai,d5] at this
 have inn:ks.any (· ==k)=true↔∃e∈es.toList,(PySem.intKind prog w).is k e.2=true:=by
  rw[mr]
  constructor
  ·rintro⟨x,hx,ex⟩
   obtain⟨e,he,e2⟩:=a8.mp (hp.mem_iff.mpr hx)
   obtain⟨⟨k',qf,_⟩,_⟩:=l8 e he
   have:=Xe qf
   rw[e2,cp.mp ex] at this
   rw[this]
   exact⟨e,he,qf⟩
  ·rintro⟨e,he,ek⟩
   exact⟨k,hp.mem_iff.mp (a8.mpr ⟨e,he,Xe ek⟩),E3 _⟩
 unfold setAddHashed setAddHashedIn
 refine j8 (ac (yq ho hd hf ?_))
 dsimp only
 rw[byScan_of (x:=.int k u) rfl hb l8,af rfl]
 unfold setAddByScan
 refine ac (ac (yh (ac (wpAny_setScan_of hk ho hd hf l8 ?_))))
 cases fi:List.findIdx? (λe=>(PySem.intKind prog w).is k e.2) es.toList with
 |some j=>
  dsimp only
  obtain⟨hj,pj,_⟩:=PQ.mp fi
  have yes:=inn.mpr ⟨_,ui hj,pj⟩
  have z:=h false s.heap (Heap.SameBut.refl a s.heap)
  unfold step_dedup at z
  rw[af yes] at z
  exact ag (ag (z g))
 |none=>
  dsimp only
  have nay:¬ks.any (· ==k)=true:=λy=>by
   obtain⟨e,he,ek⟩:=inn.mp y
   have:=PP.mp fi e he
   rw[ek] at this
   cases this
  unfold step_dedup at h
  simp only[ae nay] at h
  have e1:=layNew_perm t es ((PySem.intKind prog w).hash k) (.int k u)
  have e2:=layNew_fits t es ((PySem.intKind prog w).hash k) (.int k u)
  have e3:TG (layNew t es ((PySem.intKind prog w).hash k) (.int k u)).2.1:=tg.lay
  have e4:(layNew t es ((PySem.intKind prog w).hash k) (.int k u)).2.1.led=t.led:=aAn
  generalize layNew t es ((PySem.intKind prog w).hash k) (.int k u)=L at e1 e2 e3 e4 ⊢
  obtain⟨i6,t1,wd,gv⟩:=L
  dsimp only at e1 e2 e3 e4 ⊢
  rw[P2] at e1
  have NO:=(l8.push hk rfl).perm e1
  have jd:(i6.toList.map λe=>numOf e.2).Perm (ks++[k]):=(e1.map _).trans (by
   rw[c9]
   exact hp.append_right _)
  have BF:i6.size=ks.length+1:=by
   have:=jd.length_eq
   rwa [ai,d5,c8] at this
  have vi:i6.size<scanBound:=by rw[BF];exact room
  have gw:∀(b:Bool)(ay:Shared)(Q':Unit->Shared->Prop),Q' () ay->wpAny (model prog w) A (match b with|true=>rule "set.scan.the-table-gave-way"|false=>pure ()) Q' E ay:=λb ay Q' hq=>by
   cases b
   ·exact ag hq
   ·exact yh hq
  have tail:∀t2:SetTable,t2.fits i6.size=true->TG t2->t2.led=t.led->wpAny (model prog w) A (do
    storeSet a i6 t2
    if (!wd && t2.tooFull)=true then do
      (match (relayAll t2 i6 (SetTable.grown i6.size)).2.2 with|true=>rule "set.scan.the-table-gave-way"|false=>pure ())
      storeSet a (relayAll t2 i6 (SetTable.grown i6.size)).1 (relayAll t2 i6 (SetTable.grown i6.size)).2.1
      pure (some true)
     else pure (some true)) (λr s'=>wpAny (model prog w) A (match r with|some b=>pure b|none=>setAddHashedIn a (.int k u) ((PySem.intKind prog w).hash k) 99999) Q E s') E s:=λt2 f2 g2 l2=>by
   obtain⟨o1,S1⟩:=Fo (t':=t2) ho hx hd NO jd vi f2 g2 (l2.trans ld)
   have sb:=jx s.heap a (Obj.putSet i6 t2)
   refine ac (wpAny_storeSet_of ho hd ?_ (FU vi))
   split
   ·have r1:=relayAll_perm t2 i6 (SetTable.grown i6.size)
    have r2:=relayAll_fits t2 i6 (SetTable.grown i6.size)
    have r3:=g2.relay (es:=i6) (n:=SetTable.grown i6.size)
    generalize relayAll t2 i6 (SetTable.grown i6.size)=R at r1 r2 r3 ⊢
    obtain⟨VR,t3,XM⟩:=R
    dsimp only at r1 r2 r3 ⊢
    have NP:VR.size<scanBound:=by
     have:=r1.length_eq
     rw[d5,d5] at this
     rw[this]
     exact vi
    obtain⟨_,S2⟩:=Fo (t':=t3) o1 hx rfl (NO.perm r1) ((r1.map _).trans jd) NP r2 r3.1 (r3.2.trans (l2.trans ld))
    refine ac (gw _ _ _ (ac (wpAny_storeSet_of o1 rfl ?_ (FU NP))))
    exact ag (ag (h _ _ (sb.trans (jx _ a _)) S2))
   ·exact ag (ag (h _ _ sb S1))
  refine ac (gw _ _ _ ?_)
  split
  ·refine ac ?_
   rw[hashByValue_scannable 8 (x:=.int k u) rfl]
   refine ag ?_
   exact tail t1 e2 e3 e4
  ·refine ac (ag ?_)
   exact tail t1 e2 e3 e4
theorem aCs{wr:List Addr}{G:Array GenState->Array GenState->Prop}{n:Nat}{P:Nat->Value->Prop}{St:Nat->Shared->Prop}(W:WalksS prog w A.in1 I fp wr G n P St)(hS:S∉fp)(val:Nat->Int)(hv:∀i v,P i v->∃t,v=.int (val i) t)(hb:n+1<scanBound):
  ∀(k i:Nat)(s:Shared),n - i=k->i<=n->St i s->SG prog w s.heap S (firstMet val i)->(∀s',Moved (S::wr) G s s'->SG prog w s'.heap S (firstMet val n)->R (.ok (.ret .none)) s')->
   codeAny (model prog w) A (.builtin "set.update.loop" ⟨[.ref S,.ref I],[]⟩) R s:=by
 have sw:S∉wr:=λh=>hS (W.sub _ h)
 have sub:∀b∈wr,b∈S::wr:=λb hb=>az _ hb
 intro k
 induction k with
 |zero=>
  intro i s e1 e2 st g hR
  obtain rfl:i=n:=by omega
  refine AR F.entry_set_update_loop ?_
  rw[C2 KC _]
  show wpAny _ A.in1 (pyNext (.ref I)>>=_) _ _ s
  exact ac (W.done s _ _ st λs' m=>ag (hR s' (m.mono sub) (g.at λo e=>m.heap S _ sw e)))
 |succ k ih=>
  intro i s e1 e2 st g hR
  have lt:i<n:=by omega
  refine AR F.entry_set_update_loop ?_
  rw[C2 KC _]
  show wpAny _ A.in1 (pyNext (.ref I)>>=_) _ _ s
  refine ac (W.item i s _ _ lt st λv s' hP d9 m=>?_)
  obtain⟨t,rfl⟩:=hv i v hP
  have g':SG prog w s'.heap S (firstMet val i):=g.at λo e=>m.heap S _ sw e
  show wpAny _ A.in1 (holding [Value.int (val i) t] (setAdd S (.int (val i) t))>>=_) _ _ s'
  refine ac (j8 ?_)
  unfold setAdd
  refine j8 (ac ((PySem.intKind prog w).pyHash (k:=val i) (intKind_is _ _ _ _) ?_))
  have room:(firstMet val i).length+1<scanBound:=by have:=firstMet_length_le val i;omega
  refine SG.add (s:={s' with toks:=s'.toks+1}) g' room λb h' sb g2=>?_
  rw[<-firstMet_succ] at g2
  refine ag ⟨FV KC _,ih (i+1) _ (by omega) lt (W.frame _ s' _ _ d9 (AC _) λb hb o e=>?_) g2 λAX m2 g3=>?_⟩
  ·rw[sb.2 b (λh:b=S=>hS (by rw[<-h];exact hb))]
   exact e
  ·refine hR AX (Moved.trans W.gtrans ((m.mono sub).then_heap (AC _) λb o hb e=>?_) m2) g3
   rw[sb.2 b (λh:b=S=>hb (by rw[h];exact bf))]
   exact e
theorem aCi(a:Value)(h:Q (.ref s.heap.objs.size) {s with heap:=s.heap.push {cls:=.type "set",dict:=none,data:=.set #[] 0 (.fresh 0 0 (!w.params.followText "set-order"))}}):
  codeAny (model prog w) A (.call (.builtin "set.__new__") ⟨[.type "set",a],[]⟩) (wants Q E) s:=by
 refine codeAny_of_tree ?_
 show wpAny _ A.in1 (do checkBuiltinCall "set.__new__" ⟨[.type "set",a],[]⟩;again (.builtin "set.__new__" ⟨[.type "set",a],[]⟩)) _ _ s
 refine ac (AH (PySem.F.newCall_set_1 a) (ag ⟨FV PySem.F.plain_set_new _,AR PySem.F.entry_set_new ?_⟩))
 rw[C2 PySem.F.plain_set_new _]
 unfold Builtin.«set.__new__» Builtin.Frozenset.newClass
 have LO:=sub_set_self
 obtain⟨hp,g,d,tk,os⟩:=s
 dsimp only
 wp_walk
 refine AS (ag ?_)
 dsimp only
 simp only[newObj]
 exact ac (wpAny_alloc (ag (ag h)))
theorem Zw{l:Addr}(hh:A.handled=none)(hl:s.heap.IsList l its.toArray)(hi:IntsAre its ns)(hb:its.length+1<scanBound)
  (h:∀(h':Heap)(tk:Nat),SG prog w h' s.heap.objs.size (firstMet (λi=>ns.getD i 0) its.length)->(∀b o,b<s.heap.objs.size->s.heap.get? b=some o->h'.get? b=some o)->Q (.ref s.heap.objs.size) {s with heap:=h',toks:=tk}):
  wpAny (model prog w) A (call (.type "set") [.ref l]) Q E s:=by
 obtain⟨c,tl,XN⟩:=called_set.mro
 have XQ:=called_set.made
 have LO:=called_set.sub
 refine AB (codeAny_of_tree ?_)
 show wpAny _ _ (callAny (.type "set") _) _ _ _
 refine ag ⟨Code.quiet_builtin _ (by decide+kernel),AR PySem.F.entry_type_call ?_⟩
 rw[Around.under_plain (weight_type_call_type "set" [.ref l] []) rfl]
 have h1:=called_set.notType
 have h2:=called_set.canCreate
 have XS:=PySem.F.typeCall_set_1 (.ref l)
 repeat (any_goals (first|assumption|wp_step))
 generalize hO:({cls:=.type "set",dict:=none,data:=.set #[] 0 (.fresh 0 0 (!w.params.followText "set-order"))}:Obj)=O0
 refine ua (aCi (.ref l) (E:=E) (Q:=λobj ay=>obj=.ref s.heap.objs.size/\ay={s with heap:=s.heap.push O0}) (by rw[hO];exact⟨rfl,rfl⟩)) λr ay hr=>?_
 cases r with
 |error e=>exact hr
 |ok fl=>
  cases fl with
  |ret obj=>
   obtain⟨rfl,rfl⟩:=hr
   have cO:O0.cls=.type "set":=by rw[<-hO]
   have hS:(s.heap.push O0).get? s.heap.objs.size=some O0:=cb _ (by rw[<-hO];rfl)
   have hT:Shared.TypeIs {s with heap:=s.heap.push O0} (.ref s.heap.objs.size) "set":=⟨_,hS,cO⟩
   have XU:=called_set.init.lookup
   have XV:=called_set.init.bind (.ref s.heap.objs.size)
   repeat (any_goals (first|assumption|wp_step))
   refine ua (JT (R:=wants (λr fq=>r=.none/\∃h' tk,fq={s with heap:=h',toks:=tk}/\SG prog w h' s.heap.objs.size (firstMet (λi=>ns.getD i 0) its.length)/\
     (∀b o,b<s.heap.objs.size->s.heap.get? b=some o->h'.get? b=some o)) E) called_set.init.plain PySem.F.entry_set_init (check_set_init_1 hT ?_)) λVS fq IR=>?_
   ·have mh:(s.heap.push O0).IsList l its.toArray:=hl.push _
    obtain⟨ol,zk,jq,nl,zm⟩:=hl
    obtain⟨ocls,odict,odata,oslots⟩:=ol
    simp only at jq zm
    subst jq;subst zm
    have XW:(s.heap.push O0).get? l=some {cls:=.type "list",dict:=odict,data:=.seq its.toArray nl,slots:=oslots}:=bh _ zk
    have XX:=PySem.F.sub_list_set
    have XY:=PySem.F.sub_list_frozenset
    have aw:(Value.type "list"==Value.type "dict")=false:=by decide
    subst hO
    unfold Builtin.«set.__init__» noKeywords Builtin.Frozenset.updateFrom
    generalize hPI:pyIter=PI
    wp_walk
    subst hPI
    refine JF mh ?_
    refine ac (wpAny_runValue ?_)
    have ls:l<s.heap.objs.size:=ba zk
    have h3:A.in1.in1.in1.handled=none:=by simp[hh]
    have nI:l≠(s.heap.push {cls:=.type "set",dict:=none,data:=.set #[] 0 (.fresh 0 0 (!w.params.followText "set-order"))}).objs.size:=by
     rw[gn]
     exact b8 (v9 ls)
    have fS:s.heap.objs.size∉[(s.heap.push {cls:=.type "set",dict:=none,data:=.set #[] 0 (.fresh 0 0 (!w.params.followText "set-order"))}).objs.size,l]:=by
     rw[gn]
     simp only[ao,dh,io,CA]
     exact⟨b8 (lu _),pc ls⟩
    have VT:∀(i:Nat)(v:Value),its.toArray[i]?=some v->∃t,v=.int ((λi=>ns.getD i 0) i) t:=λi v hv=>IntsAre.int_at hi i v (by rwa [FR] at hv)
    refine aCs ((Walks.list h3 _ l nI its.toArray).toS) fS (λi=>ns.getD i 0) VT (by rw[ca];exact hb) (its.toArray.size - 0) 0 _ (by omega) (c7 _) ⟨⟨_,cb _ rfl,rfl,rfl⟩,(mh.push _)⟩ ?_ ?_
    ·refine⟨_,#[],0,.fresh 0 0 (!w.params.followText "set-order"),bh _ hS,?_,?_,λe he=>?_,?_,by decide,rfl,⟨.nil,rfl⟩,rfl⟩
     ·exact⟨rfl,rfl,rfl⟩
     ·rfl
     ·simp at he
     ·exact .nil
    ·intro s' hm xx
     rw[ca] at xx
     obtain⟨h',g',d',m8,AW⟩:=s'
     obtain rfl:g'=s.gens:=hm.gens
     obtain rfl:d'=s.drawn:=hm.drawn
     obtain rfl:AW=s.os:=hm.os
     refine ag (ag ⟨rfl,h',m8,rfl,xx,λb o hb e=>?_⟩)
     refine hm.heap b o ?_ (bh _ (bh _ e))
     simp only[ao,dh,io,CA,gn]
     exact⟨b8 hb,b8 (v9 hb)⟩
   ·cases VS with
    |error e=>exact IR
    |ok VU=>
     cases VU with
     |ret r=>
      obtain⟨rfl,h',tk,rfl,xx,qf⟩:=IR
      repeat (any_goals (first|assumption|wp_step))
      exact h _ _ xx qf
     |_=>exact IR
  |_=>exact hr
theorem cI:Slot "set_iterator" "__next__" "set_iterator.__next__":=
 .of (owner:="set_iterator") (n:="__next__") (by rw[E4,E5];kernel_rfl) (by decide+kernel) (by decide+kernel) (by decide+kernel) (by first|exact .inl (by decide+kernel)|exact .inr (by decide+kernel)) (by rw[isSubtype_type];kernel_rfl)
theorem pN:Slot "set_iterator" "__iter__" "set_iterator.__iter__":=
 .of (owner:="set_iterator") (n:="__iter__") (by rw[E4,E5];kernel_rfl) (by decide+kernel) (by decide+kernel) (by decide+kernel) (by first|exact .inl (by decide+kernel)|exact .inr (by decide+kernel)) (by rw[isSubtype_type];kernel_rfl)
theorem iH:entryFor table "set_iterator.__next__"=some Builtin.«set_iterator.__next__»:=entryFor_of_tree (by kernel_rfl)
theorem Dm:entryFor table "set_iterator.__iter__"=some Builtin.«dict_keyiterator.__iter__»:=entryFor_alias (id':="dict_keyiterator.__iter__") (by kernel_rfl) rfl (by decide+kernel) (by kernel_rfl)
theorem Es:entryFor table "set.__iter__"=some Builtin.«frozenset.__iter__»:=entryFor_alias (id':="frozenset.__iter__") (by kernel_rfl) rfl (by decide+kernel) (by kernel_rfl)
theorem iI(a:Value):argsOk "set_iterator.__next__" ⟨[a],[]⟩:=by unfold argsOk;kernel_rfl
theorem Db(a:Value):argsOk "set_iterator.__iter__" ⟨[a],[]⟩:=by unfold argsOk;kernel_rfl
theorem Jq:typeLookup (.type "set") "__len__"=pure (some (.builtin "set.__len__")):=by rw[E4,E5];kernel_rfl
def gU(h:Heap)(I S:Addr)(f:Value)(i n ep:Nat):Prop:=∃o,h.get? I=some o/\o.cls=.type "set_iterator"/\o.data=.fields #[f,.int i 0,.ref S,.int n 0,.int ep 0]
theorem Xd{f:Value}{n:Nat}{t:SetTable}{nx:Nat}{x:Value}{Q:Option Value->Shared->Prop}(it:gU s.heap I S (.int sl 0) i n ep)(ho:s.heap.get? S=some o)(hd:o.data=.set es ep t)(hf:t.fits es.size=true)(hn:es.size=n)
  (hN:∀(A:Around)(E:Value->Shared->Prop) (Q:Option (Value×Nat)->Shared->Prop),Q (some (x,nx)) s->wpAny (model prog w) A (setNext S sl i ep) Q E s)
  (h:∀h',gU h' I S (.int nx 0) (i+1) n ep->Heap.SameBut I s.heap h'->Q (some x) {s with heap:=h'}):wpAny (model prog w) A (pyNext (.ref I)) Q E s:=by
 obtain⟨u,hu,cu,du⟩:=id it
 have tI:s.TypeIs (.ref I) "set_iterator":=⟨u,hu,cu⟩
 unfold pyNext
 refine ac (uc (mj (name:=Str.ofString "__next__") tI cI (jf cI tI iH ?_ (iI _))))
 show wpAny _ _ (fieldsOf (.ref I)>>=_) _ _ s
 refine ac (wb hu du ?_)
 show wpAny _ _ (setEntries S>>=_) _ _ s
 refine ac (C3 ho hd hf ?_)
 have e0:((es.size:Int) !=(n:Int))=false:=by rw[hn];simp
 simp only[e0,pf,ju]
 show wpAny _ _ (setNext S (sl:Int).toNat (i:Int).toNat (ep:Int).toNat>>=_) _ _ s
 rw[fc,fc,fc]
 refine ac (hN _ _ _ ?_)
 refine ac (lw hu du (by simp) ?_)
 have EI:=oj (Obj.mapFields (·.setIfInBounds 0 (rawInt nx))) hu (ud (kc du _))
 have B1:=kc du (·.setIfInBounds 0 (rawInt nx))
 refine ac (lw EI B1 (by simp) ?_)
 have BQ:=oj (Obj.mapFields (·.setIfInBounds 1 (rawInt ((i:Int)+1)))) EI (ud (kc B1 _))
 have IS:=kc B1 (·.setIfInBounds 1 (rawInt ((i:Int)+1)))
 refine ag ⟨_,rfl,ag (h _ ⟨_,BQ,?_,?_⟩ ((jx ..).trans (jx ..)))⟩
 ·exact(CH ..).trans ((CH ..).trans cu)
 ·rw[IS]
  rfl
theorem Zm{f:Value}{n:Nat}{t:SetTable}{Q:Option Value->Shared->Prop}(hh:A.handled=none)(it:gU s.heap I S (.int sl 0) i n ep)(ho:s.heap.get? S=some o)(hd:o.data=.set es ep t)(hf:t.fits es.size=true)(hn:es.size=n)
  (hN:∀(A:Around)(E:Value->Shared->Prop) (Q:Option (Value×Nat)->Shared->Prop),Q none s->wpAny (model prog w) A (setNext S sl i ep) Q E s)
  (h:∀h',Heap.ExtBut I s.heap h'->Q none {s with heap:=h'}):wpAny (model prog w) A (pyNext (.ref I)) Q E s:=by
 obtain⟨u,hu,cu,du⟩:=id it
 have tI:s.TypeIs (.ref I) "set_iterator":=⟨u,hu,cu⟩
 unfold pyNext
 refine ac (uc (mj (name:=Str.ofString "__next__") tI cI (jf cI tI iH ?_ (iI _))))
 show wpAny _ _ (fieldsOf (.ref I)>>=_) _ _ s
 refine ac (wb hu du ?_)
 show wpAny _ _ (setEntries S>>=_) _ _ s
 refine ac (C3 ho hd hf ?_)
 have e0:((es.size:Int) !=(n:Int))=false:=by rw[hn];simp
 simp only[e0,pf,ju]
 show wpAny _ _ (setNext S (sl:Int).toNat (i:Int).toNat (ep:Int).toNat>>=_) _ _ s
 rw[fc,fc,fc]
 refine ac (hN _ _ _ ?_)
 refine ac (lw hu du (by simp) ?_)
 refine ac ?_
 simp only[newExc,newTuple]
 refine ac (ig ?_ (by size_fits))
 refine ac (m:=firstArgMember _ _) (AH (a:=Value.none) (by first|rfl|(simp only[firstArgMember];rfl)) ?_)
 refine ig ?_ (by size_fits)
 simp only[raiseNew]
 refine ac (CJ ?_)
 rw[show A.in1.handled=none from hh]
 refine ac (ag (CK ?_))
 refine ac (AI (T:="StopIteration") (b:=true) ⟨_,cb _ rfl,rfl⟩ E1 ?_)
 exact ag (h _ (((jx ..).extBut.push _).push _))
theorem Qx{n:Nat}{t:SetTable}{ps:List Nat}{e:Int×Value}{Q:Option Value->Shared->Prop}(it:gU s.heap I S (.ref T) i n ep)(ho:s.heap.get? S=some o)(hd:o.data=.set es ep t)(hf:t.fits es.size=true)(hn:es.size=n)
  (hT:s.heap.IsTuple T (ps.map λ(k:Nat)=>rawInt k).toArray) (hp:ps[i]?=some p) (he:es[p]?=some e)
  (h:∀h',gU h' I S (.ref T) (i+1) n ep->Heap.SameBut I s.heap h'->Q (some e.2) {s with heap:=h'}):wpAny (model prog w) A (pyNext (.ref I)) Q E s:=by
 obtain⟨u,hu,cu,du⟩:=id it
 have tI:s.TypeIs (.ref I) "set_iterator":=⟨u,hu,cu⟩
 unfold pyNext
 refine ac (uc (mj (name:=Str.ofString "__next__") tI cI (jf cI tI iH ?_ (iI _))))
 show wpAny _ _ (fieldsOf (.ref I)>>=_) _ _ s
 refine ac (wb hu du ?_)
 show wpAny _ _ (setEntries S>>=_) _ _ s
 refine ac (C3 ho hd hf ?_)
 have e0:((es.size:Int) !=(n:Int))=false:=by rw[hn];simp
 simp only[e0,pf,ju]
 show wpAny _ _ (seqItems? (.ref T)>>=_) _ _ s
 obtain⟨v,hv,cv,nv,dv⟩:=id hT
 refine ac (FG hv dv ?_)
 have e1:((ps.map λ(k:Nat)=>rawInt k).toArray)[(i:Int).toNat]?=some (rawInt p):=by
  rw[fc,FR,bg,hp]
  rfl
 simp only[e1]
 show wpAny _ _ (setNextDrawn S (p:Int).toNat (ep:Int).toNat>>=_) _ _ s
 rw[fc,fc]
 unfold setNextDrawn
 refine ac (ac (yq ho hd hf ?_))
 have e2:(ep !=ep)=false:=by simp
 simp only[e2,pf,ju,he]
 refine ag ?_
 refine ac (lw hu du (by simp) ?_)
 have BQ:=oj (Obj.mapFields (·.setIfInBounds 1 (rawInt ((i:Int)+1)))) hu (ud (kc du _))
 have IS:=kc du (·.setIfInBounds 1 (rawInt ((i:Int)+1)))
 refine ag ⟨_,rfl,ag (h _ ⟨_,BQ,?_,?_⟩ (jx ..))⟩
 ·exact(CH ..).trans cu
 ·rw[IS]
  rfl
theorem Xa{n:Nat}{t:SetTable}{ps:List Nat}{Q:Option Value->Shared->Prop}(hh:A.handled=none)(it:gU s.heap I S (.ref T) i n ep)(ho:s.heap.get? S=some o)(hd:o.data=.set es ep t)(hf:t.fits es.size=true)(hn:es.size=n)
  (hT:s.heap.IsTuple T (ps.map λ(k:Nat)=>rawInt k).toArray) (hp:ps[i]?=none)
  (h:∀h',Heap.ExtBut I s.heap h'->Q none {s with heap:=h'}):wpAny (model prog w) A (pyNext (.ref I)) Q E s:=by
 obtain⟨u,hu,cu,du⟩:=id it
 have tI:s.TypeIs (.ref I) "set_iterator":=⟨u,hu,cu⟩
 unfold pyNext
 refine ac (uc (mj (name:=Str.ofString "__next__") tI cI (jf cI tI iH ?_ (iI _))))
 show wpAny _ _ (fieldsOf (.ref I)>>=_) _ _ s
 refine ac (wb hu du ?_)
 show wpAny _ _ (setEntries S>>=_) _ _ s
 refine ac (C3 ho hd hf ?_)
 have e0:((es.size:Int) !=(n:Int))=false:=by rw[hn];simp
 simp only[e0,pf,ju]
 show wpAny _ _ (seqItems? (.ref T)>>=_) _ _ s
 obtain⟨v,hv,cv,nv,dv⟩:=id hT
 refine ac (FG hv dv ?_)
 have e1:((ps.map λ(k:Nat)=>rawInt k).toArray)[(i:Int).toNat]?=none:=by
  rw[fc,FR,bg,hp]
  rfl
 simp only[e1]
 refine ac (lw hu du (by simp) ?_)
 have EI:=oj (Obj.mapFields (·.setIfInBounds 0 (rawInt 0))) hu (ud (kc du _))
 have B1:=kc du (·.setIfInBounds 0 (rawInt 0))
 refine ac (lw EI B1 (by simp) ?_)
 refine ac ?_
 simp only[newExc,newTuple]
 refine ac (ig ?_ (by size_fits))
 refine ac (m:=firstArgMember _ _) (AH (a:=Value.none) (by first|rfl|(simp only[firstArgMember];rfl)) ?_)
 refine ig ?_ (by size_fits)
 simp only[raiseNew]
 refine ac (CJ ?_)
 rw[show A.in1.handled=none from hh]
 refine ac (ag (CK ?_))
 refine ac (AI (T:="StopIteration") (b:=true) ⟨_,cb _ rfl,rfl⟩ E1 ?_)
 exact ag (h _ ((((jx ..).trans (jx ..)).extBut.push _).push _))
theorem Fa{f:Value}{n:Nat}(it:gU s.heap I S f i n ep)(h:Q (.ref I) s):wpAny (model prog w) A (pyIter (.ref I)) Q E s:=by
 obtain⟨u,hu,cu,du⟩:=id it
 have tI:s.TypeIs (.ref I) "set_iterator":=⟨u,hu,cu⟩
 refine CF tI pN (jf pN tI Dm ?_ (Db _))
 show wpAny _ _ (ret (.ref I)) _ _ s
 exact ag ⟨_,rfl,"set_iterator",_,tI,cI.lookup,h⟩
theorem qC:∀{l:List α}{i:Nat}(h:i<l.length),(l[i]::l.eraseIdx i).Perm l
 |[],_,h=>absurd h (ue _)
 |a::r,0,_=>.refl _
 |a::r,i+1,h=>(List.Perm.swap _ _ _).trans ((qC (l:=r) (Nat.lt_of_succ_lt_succ h)).cons a)
theorem Ot(nx:Nat->Nat):∀(f k:Nat)(l:List α)(out:Array α),l.length=f->(pickOrder.go nx f k l out).toList.Perm (out.toList++l)
 |0,k,l,out,h=>by
  rw[pickOrder.go,FK.mp h,ie]
 |f+1,k,l,out,h=>by
  have hl:nx k % l.length<l.length:=rh _ (by omega)
  rw[pickOrder.go,ax hl]
  refine(Ot nx f (k+1) _ _ (by rw[P3 hl,h];rfl)).trans ?_
  rw[P2,rg]
  exact(qC hl).append_left _
theorem Bx(nx:Nat->Nat)(xs:Array α):(pickOrder nx xs).toList.Perm xs.toList:=by
 have:=Ot nx xs.size 0 xs.toList #[] (d5)
 exact this
theorem Bs:∀(n:Nat)(xs:List α)(s:Shared)(Q:List α->Shared->Prop),xs.length=n->(∀ys d,ys.Perm xs->Q ys {s with drawn:=d})->wpAny (model prog w) A (drawOrder n xs) Q E s
 |0,xs,s,Q,h,q=>by
  rw[drawOrder]
  have z:=q [] s.drawn (by rw[FK.mp h])
  exact ag z
 |n+1,[],s,Q,h,q=>by cases h
 |n+1,x::r,s,Q,h,q=>by
  rw[drawOrder]
  ·refine ac ?_
   have ch:∀{Q':Nat->Shared->Prop},(∀i d,i<(x::r).length->Q' i {s with drawn:=d})->wpAny (model prog w) A (choose .order (x::r).length) Q' E s:=λhq _ _ _=>⟨Nat.succ_ne_zero _,hq _ _ (rh _ (Nat.succ_pos _))⟩
   refine ch λi d hi=>?_
   rw[ax hi]
   refine ac (Bs n _ _ _ (by rw[P3 hi];omega) λys d' hp=>?_)
   exact ag (q _ d' ((hp.cons _).trans (qC hi)))
  ·intro e;cases e
theorem nxT{t:SetTable}{Q:Option (Value×Nat)->Shared->Prop}(hb:w.params.followText "set-order"=true)(ho:s.heap.get? S=some o)(hd:o.data=.set es ep t)(hf:t.fits es.size=true)
  (h:Q (((pickOrder (w.params.setOrder S ep) es)[i]?).map λe=>(e.2,sl)) s):wpAny (model prog w) A (setNext S sl i ep) Q E s:=by
 unfold setNext
 refine ac (yq ho hd hf ?_)
 dsimp only
 unfold setsByText
 refine ac (ac (AS (ag ?_)))
 have e1:((model prog w).w.params.followText "set-order")=true:=hb
 rw[af e1]
 have e2:(ep !=ep)=false:=by simp
 simp only[e2,pf,ju]
 unfold setWalk
 refine ac (ac (yq ho hd hf ?_))
 dsimp only
 unfold setsByText
 refine ac (ac (AS (ag ?_)))
 rw[af e1]
 exact ac (AS (ag (ag h)))
theorem nxP{t:SetTable}{Q:Option (Value×Nat)->Shared->Prop}(hb:w.params.followText "set-order"=false)(ho:s.heap.get? S=some o)(hd:o.data=.set es ep t)(hf:t.fits es.size=true)(led:t.led=true)(np:(!t.plain && decide (es.size>1))=false)
  (h:Q (match es[SetTable.below t.place sl]?,t.place[SetTable.below t.place sl]? with|some (_,x),some j=>some (x,j+1)|_,_=>none) s):wpAny (model prog w) A (setNext S sl i ep) Q E s:=by
 unfold setNext
 refine ac (yq ho hd hf ?_)
 dsimp only
 unfold setsByText
 refine ac (ac (AS (ag ?_)))
 have e1:¬((model prog w).w.params.followText "set-order")=true:=λz=>by
  have z:w.params.followText "set-order"=true:=z
  rw[hb] at z
  cases z
 rw[ae e1]
 have e2:¬(!t.plain && decide (es.size>1))=true:=by rw[np];exact b6
 show wpAny _ _ (if (!t.plain && decide (es.size>1))=true then _ else _) _ _ _
 rw[ae e2]
 refine ac ?_
 show wpAny _ _ (if (!t.led && !es.isEmpty)=true then _ else _) _ _ _
 rw[led]
 exact ag (ag h)
theorem gU.at{f:Value}{n:Nat}(x:gU h I S f i n ep)(e:∀o,h.get? I=some o->h'.get? I=some o):gU h' I S f i n ep:=by
 obtain⟨o,ho,r⟩:=x
 exact⟨o,e _ ho,r⟩
theorem aBc{t:SetTable}{ord:List Value}{slot:Nat->Nat}(hh:A.handled=none)(IT:S≠I)(hd:o.data=.set es ep t)(hf:t.fits es.size=true)(hn:ord.length=es.size)
  (hN:∀(i:Nat)(x:Value)(s:Shared)(A:Around)(E:Value->Shared->Prop) (Q:Option (Value×Nat)->Shared->Prop),s.heap.get? S=some o->ord[i]?=some x->Q (some (x,slot (i+1))) s->wpAny (model prog w) A (setNext S (slot i) i ep) Q E s)
  (hZ:∀(s:Shared)(A:Around)(E:Value->Shared->Prop) (Q:Option (Value×Nat)->Shared->Prop),s.heap.get? S=some o->Q none s->wpAny (model prog w) A (setNext S (slot es.size) es.size ep) Q E s):
  Walks prog w A I [I,S] [I] es.size (λi v=>ord[i]?=some v) (λi h=>gU h I S (.int (slot i) 0) i es.size ep/\h.get? S=some o) where
 sub:=λb hb=>by simp at hb;simp[hb]
 frame:=λ_ _ _ st hk=>⟨st.1.at λo e=>hk I (by simp) o e,hk S (by simp) o st.2⟩
 item:=λi s Q E hi st hQ=>by
  have ex:ord[i]?=some (ord[i]'(by omega)):=ax (by omega)
  refine Xd (f:=.none) (nx:=slot (i+1)) st.1 st.2 hd hf rfl (λA E Q q=>hN i _ s A E Q st.2 ex q) λh' it sb=>?_
  exact hQ _ h' s.toks ex ⟨it,sb.extBut S o IT st.2⟩ λb o hb e=>sb.extBut b o (λh=>hb (by simp[h])) e
 done:=λs Q E st hQ=>Zm (f:=.none) hh st.1 st.2 hd hf rfl (λA E Q q=>hZ s A E Q st.2 q) λh' he=>hQ h' s.toks λb o hb e=>he b o (λh=>hb (by simp[h])) e
 self:=λ_ _ _ _ st hQ=>Fa st.1 hQ
theorem aEa{t:SetTable}{ps:List Nat}{ord:List Value}(hh:A.handled=none)(IT:S≠I)(VV:T≠I)(hd:o.data=.set es ep t)(hf:t.fits es.size=true)(hn:ps.length=es.size)
  (ho:∀i p:Nat,ps[i]?=some p->∃e:Int×Value,es[p]?=some e/\ord[i]?=some e.2):
  Walks prog w A I [I,S,T] [I] es.size (λi v=>ord[i]?=some v) (λi h=>gU h I S (.ref T) i es.size ep/\h.get? S=some o/\h.IsTuple T (ps.map λ(k:Nat)=>rawInt k).toArray) where
 sub:=λb hb=>by simp at hb;simp[hb]
 frame:=λ_ _ _ st hk=>⟨st.1.at λo e=>hk I (by simp) o e,hk S (by simp) o st.2.1,st.2.2.at λo e=>hk T (by simp) o e⟩
 item:=λi s Q E hi st hQ=>by
  have ex:ps[i]?=some (ps[i]'(by omega)):=ax (by omega)
  obtain⟨e,e1,e2⟩:=ho i _ ex
  refine Qx st.1 st.2.1 hd hf rfl st.2.2 ex e1 λh' it sb=>?_
  exact hQ _ h' s.toks e2 ⟨it,sb.extBut S o IT st.2.1,st.2.2.extBut sb.extBut VV⟩ λb o hb e=>sb.extBut b o (λh=>hb (by simp[h])) e
 done:=λs Q E st hQ=>Xa hh st.1 st.2.1 hd hf rfl st.2.2 (jv (by omega)) λh' he=>hQ h' s.toks λb o hb e=>he b o (λh=>hb (by simp[h])) e
 self:=λ_ _ _ _ st hQ=>Fa st.1 hQ
theorem Rw{ord:List Value}(hp:(es.toList.map λe=>numOf e.2).Perm ks)(ho:ord.Perm (es.toList.map (·.2))):(ord.map numOf).Perm ks:=(ho.map numOf).trans (by rw[de];exact hp)
theorem Yg(hS:SG prog w s.heap S ks)
  (h:∀(I:Addr)(h':Heap)(d:Drawn)(ord:List Value)(fp:List Addr)(St:Nat->Heap->Prop),(∀A':Around,A'.handled=none->Walks prog w A' I fp [I] ks.length (λi v=>ord[i]?=some v) St)->St 0 h'->(∀b∈fp,b=S\/s.heap.objs.size<=b)->I∈fp->
   ord.length=ks.length->(∀v∈ord,∃n t,v=Value.int n t)->(ord.map numOf).Perm ks->(∀b o,s.heap.get? b=some o->h'.get? b=some o)->s.heap.objs.size<=I->Q (.ref I) {s with heap:=h',drawn:=d}):
  wpAny (model prog w) A (pyIter (.ref S)) Q E s:=by
 obtain⟨o,es,ep,t,ho,hx,hd,l8,hp,hb,hf,tg,ld⟩:=id hS
 have tS:s.TypeIs (.ref S) "set":=⟨o,ho,hx.1⟩
 have kl:ks.length=es.size:=by
  have:=hp.length_eq
  rw[ai,d5] at this
  exact this.symm
 have allI:∀v∈es.toList.map (·.2),∃n t,v=Value.int n t:=λv hv=>by
  obtain⟨e,he,rfl⟩:=a8.mp hv
  obtain⟨⟨k,hk,_⟩,_⟩:=l8 e he
  obtain⟨t,et⟩:=JC hk
  exact⟨k,t,et⟩
 have fz:t.place.size=es.size:=by
  unfold SetTable.fits at hf
  rw[cn] at hf
  exact cp.mp hf.1
 refine CF tS PySem.F.slot_set_iter (jf PySem.F.slot_set_iter tS Es ?_ (PySem.F.args_set_iter_1 _))
 show wpAny _ _ (Builtin.Frozenset.sizeOf S>>=_) _ _ s
 unfold Builtin.Frozenset.sizeOf
 refine ac (ac (C3 ho hd hf (ag ?_)))
 unfold setDrawn
 refine ac (ac (yq ho hd hf ?_))
 dsimp only
 unfold setsByText
 refine ac (ac (AS (ag ?_)))
 refine ag ?_
 have lS:S<s.heap.objs.size:=ba ho
 have fin:∀(f:Value)(ay:Shared)(fp:List Addr)(ord:List Value)(St:Nat->Heap->Prop),ay.heap.get? S=some o->ay.gens=s.gens->ay.toks=s.toks->ay.os=s.os->(∀b o,s.heap.get? b=some o->ay.heap.get? b=some o)->s.heap.objs.size<=ay.heap.objs.size->
   (∀A':Around,A'.handled=none->Walks prog w A' ay.heap.objs.size fp [ay.heap.objs.size] ks.length (λi v=>ord[i]?=some v) St)->(∀h',gU h' ay.heap.objs.size S f 0 es.size ep->(∀b o,ay.heap.get? b=some o->h'.get? b=some o)->St 0 h')->(∀b∈fp,b=S\/s.heap.objs.size<=b)->ay.heap.objs.size∈fp->
   ord.Perm (es.toList.map (·.2))->
   wpAny (model prog w) A.in1 (setEpoch S>>=λe=>newFields "set_iterator" [f,rawInt 0,.ref S,rawInt es.size,rawInt e]>>=λx=>ret x) (λfin s'=>∃v,fin=.done (.ret v)/\∃T' r,s'.TypeIs v T'/\typeLookup (.type T') "__next__"=pure (some r)/\Q v s') (λe s'=>E e s') ay:=λf ay fp ord St h1 h2 h3 h4 h5 VW h6 h7 h8 h9 di=>by
  unfold setEpoch
  refine ac (ac (yq h1 hd hf (ag ?_)))
  refine ac (ig (ag ⟨_,rfl,"set_iterator",_,⟨_,cb _ rfl,rfl⟩,cI.lookup,?_⟩))
  obtain⟨cy,XZ,VX,X0,X1⟩:=ay
  dsimp only at h2 h3 h4
  subst h2;subst h3;subst h4
  exact h _ _ VX ord fp St h6 (h7 _ ⟨_,cb _ rfl,rfl,rfl⟩ λb o e=>bh _ e) h8 h9
   (by rw[di.length_eq,ai,d5,kl]) (λv hv=>allI v (di.mem_iff.mp hv)) (Rw hp di) (λb o e=>bh _ (h5 b o e)) VW
 by_cases EJ:w.params.followText "set-order"=true
 ·-- by the text's order
  have e1:(!(model prog w).w.params.followText "set-order" && (!t.plain && decide (es.size>1)))=false:=by
   show (!w.params.followText "set-order" && _)=false
   rw[EJ]
   rfl
  show wpAny _ _ (if (!(model prog w).w.params.followText "set-order" && (!t.plain && decide (es.size>1)))=true then _ else _) _ _ s
  rw[e1,ae b6]
  refine ac (ag ?_)
  have po:=(Bx (w.params.setOrder S ep) es).map (·.2)
  have pl:=(Bx (w.params.setOrder S ep) es).length_eq
  refine fin (rawInt 0) s [s.heap.objs.size,S] ((pickOrder (w.params.setOrder S ep) es).toList.map (·.2)) (λi h'=>gU h' s.heap.objs.size S (.int ((λ_=>0) i:Nat) 0) i es.size ep/\h'.get? S=some o) ho rfl rfl rfl (λ_ _ e=>e) (ap _) (λA' hA=>?_) (λh' it k=>⟨it,k _ _ ho⟩) (λb hb=>?_) (by simp) po
  ·rw[kl]
   refine aBc (slot:=λ_=>0) hA (b8 lS) hd hf (by rw[ai,pl,d5]) (λi x s A E Q hs ex q=>nxT EJ hs hd hf ?_) (λs A E Q hs q=>nxT EJ hs hd hf ?_)
   ·rw[bg,oh] at ex
    cases e:(pickOrder (w.params.setOrder S ep) es)[i]? with
    |none=>rw[e] at ex;cases ex
    |some y=>rw[e] at ex;cases ex;exact q
   ·have:(pickOrder (w.params.setOrder S ep) es)[es.size]?=none:=by
     rw[<-oh]
     exact jv (by rw[pl,d5];exact ap _)
    rw[this]
    exact q
  ·simp only[ao,dh,io] at hb
   rcases hb with rfl|rfl
   ·exact .inr (ap _)
   ·exact .inl rfl
 ·have EK:w.params.followText "set-order"=false:=by
   cases e:w.params.followText "set-order" with
   |false=>rfl
   |true=>exact absurd e EJ
  have led:t.led=true:=by rw[ld,EK];rfl
  cases ii:(!t.plain && decide (es.size>1)) with
  |false=>
   have e1:(!(model prog w).w.params.followText "set-order" && (!t.plain && decide (es.size>1)))=false:=by
    rw[ii,yk]
   show wpAny _ _ (if (!(model prog w).w.params.followText "set-order" && (!t.plain && decide (es.size>1)))=true then _ else _) _ _ s
   rw[e1,ae b6]
   refine ac (ag ?_)
   have sb:∀i,i<=es.size->SetTable.below t.place ((λi=>if i=0 then 0 else t.place.toList.getD (i - 1) 0+1) i)=i:=λi hi=>by
    cases i with
    |zero=>exact Kv tg.ris
    |succ j=>
     have hj:j<t.place.toList.length:=by rw[d5];omega
     have:=Kl tg.ris hj
     show SetTable.below t.place (t.place.toList.getD j 0+1)=j+1
     rw[cx,ax hj]
     exact this
   refine fin (rawInt 0) s [s.heap.objs.size,S] (es.toList.map (·.2)) (λi h'=>gU h' s.heap.objs.size S (.int ((λi=>if i=0 then 0 else t.place.toList.getD (i - 1) 0+1) i:Nat) 0) i es.size ep/\h'.get? S=some o) ho rfl rfl rfl (λ_ _ e=>e) (ap _) (λA' hA=>?_) (λh' it k=>⟨it,k _ _ ho⟩) (λb hb=>?_) (by simp) (List.Perm.refl _)
   ·rw[kl]
    refine aBc (slot:=λi=>if i=0 then 0 else t.place.toList.getD (i - 1) 0+1) hA (b8 lS) hd hf (by rw[ai,d5]) (λi x s A E Q hs ex q=>nxP EK hs hd hf led ii ?_) (λs A E Q hs q=>nxP EK hs hd hf led ii ?_)
    ·have hi:i<es.size:=by
      have:=(bp.mp ex).1
      rwa [ai,d5] at this
     rw[sb i (by omega)]
     rw[bg,oh] at ex
     have e3:t.place[i]?=some (t.place.toList.getD i 0):=by
      rw[<-oh,cx,ax (by rw[d5];omega)]
      rfl
     rw[e3]
     cases e:es[i]? with
     |none=>rw[e] at ex;cases ex
     |some y=>rw[e] at ex;cases ex;exact q
    ·rw[sb es.size (ap _)]
     have:es[es.size]?=none:=by rw[<-oh];exact jv (by rw[d5];exact ap _)
     rw[this]
     exact q
   ·simp only[ao,dh,io] at hb
    rcases hb with rfl|rfl
    ·exact .inr (ap _)
    ·exact .inl rfl
  |true=>
   have e1:(!(model prog w).w.params.followText "set-order" && (!t.plain && decide (es.size>1)))=true:=by
    rw[ii,Bool.and_true]
    show (!w.params.followText "set-order")=true
    rw[EK]
    rfl
   show wpAny _ _ (if (!(model prog w).w.params.followText "set-order" && (!t.plain && decide (es.size>1)))=true then _ else _) _ _ s
   rw[e1,af rfl]
   refine ac (Bs es.size _ _ _ AO λps d cf=>?_)
   refine ac (ig ?_ ?_)
   ·have pl:ps.length=es.size:=by rw[cf.length_eq,AO]
    have gt:∀i p,ps[i]?=some p->∃e,es[p]?=some e:=λi p e=>by
     have:p<es.size:=vm.mp (cf.mem_iff.mp (fj e))
     exact⟨_,EZ this⟩
    have fm:∀l:List Nat,(∀p∈l,p<es.size)->(l.map λp=>(es.toList.map (·.2)).getD p .none)=l.filterMap λp=>(es.toList.map (·.2))[p]?:=λl hl=>by
     induction l with
     |nil=>rfl
     |cons a r ih=>
      rw[bn,z8,ih λp hp=>hl p (az _ hp)]
      have ha:a<(es.toList.map (·.2)).length:=by rw[ai,d5];exact hl a bf
      rw[cx,ax ha]
      rfl
    have op:(ps.map λp=>(es.toList.map (·.2)).getD p .none).Perm (es.toList.map (·.2)):=by
     refine(cf.map _).trans ?_
     rw[fm _ λp hp=>vm.mp hp]
     have:=List.filterMap_getElem?_range_length (es.toList.map (·.2))
     rw[ai,d5] at this
     rw[this]
    refine fin (.ref s.heap.objs.size) {s with heap:=s.heap.push _,drawn:=d} [s.heap.objs.size+1,S,s.heap.objs.size] (ps.map λp=>(es.toList.map (·.2)).getD p .none) (λi h'=>gU h' (s.heap.objs.size+1) S (.ref s.heap.objs.size) i es.size ep/\h'.get? S=some o/\h'.IsTuple s.heap.objs.size (ps.map λ(k:Nat)=>rawInt k).toArray) (bh _ ho) rfl rfl rfl (λ_ _ e=>bh _ e) (by rw[gn];omega) (λA' hA=>?_) (λh' it k=>⟨?_,k _ _ (bh _ ho),⟨_,k _ _ (cb _ rfl),rfl,_,rfl⟩⟩) (λb hb=>?_) ?_ op
    ·rw[kl]
     show Walks prog w A' (s.heap.push _).objs.size _ [(s.heap.push _).objs.size] _ _ _
     rw[gn]
     refine aEa hA (b8 (v9 lS)) (b8 (lu _)) hd hf pl λi p e=>?_
     obtain⟨y,ey⟩:=gt i p e
     refine⟨y,ey,?_⟩
     rw[bg,e]
     show some ((es.toList.map (·.2)).getD p .none)=some y.2
     rw[cx,bg,oh,ey]
     rfl
    ·have it:gU h' (s.heap.push _).objs.size S _ 0 es.size ep:=it
     rw[gn] at it
     exact it
    ·simp only[ao,dh,io] at hb
     rcases hb with rfl|rfl|rfl
     ·exact .inr (AC _)
     ·exact .inl rfl
     ·exact .inr (ap _)
    ·show (s.heap.push _).objs.size∈_
     rw[gn]
     simp
   ·have DC:scanBound=4096:=rfl
    have hz:es.size<4096:=hb
    have hl:((ps.map λ(k:Nat)=>rawInt k)).length=es.size:=by rw[ai,cf.length_eq,AO]
    show (ps.map λ(k:Nat)=>rawInt k).toArray.size<=sizeLine
    rw[ca,hl,qz]
    omega
end Br1
namespace L2
open PySem PySem.Spec PyProof.Rows
theorem Ul{val:Nat->Int}:∀n:Nat,(firstMet val n).Nodup/\∀x,x∈firstMet val n↔∃i,i<n/\val i=x
 |0=>⟨JO,λx=>⟨λh=>absurd h dh,λ⟨i,h,_⟩=>absurd h (ue _)⟩⟩
 |n+1=>by
  obtain⟨h1,h2⟩:=Ul (val:=val) n
  rw[firstMet_succ]
  unfold step_dedup
  have ea:(firstMet val n).any (· ==val n)=true↔val n∈firstMet val n:=by
   rw[mr]
   exact⟨λ⟨x,hx,e⟩=>by rw[<-cp.mp e];exact hx,λh=>⟨_,h,E3 _⟩⟩
  split
  ·rename_i e
   refine⟨h1,λx=>?_⟩
   rw[h2]
   constructor
   ·rintro⟨i,hi,e⟩;exact⟨i,by omega,e⟩
   ·rintro⟨i,hi,e'⟩
    by_cases z:i=n
    ·rw[z] at e'
     rw[<-e']
     exact(h2 _).mp (ea.mp e)
    ·exact⟨i,by omega,e'⟩
  ·rename_i e
   refine⟨?_,λx=>?_⟩
   ·rw[J6]
    refine⟨h1,pd.mpr ⟨dh,JO⟩,λa ha b hb z=>?_⟩
    rw[gq.mp hb] at z
    exact e (ea.mpr (by rw[<-z];exact ha))
   ·rw[je,h2,gq]
    constructor
    ·rintro(⟨i,hi,e'⟩|e')
     ·exact⟨i,by omega,e'⟩
     ·exact⟨n,by omega,e'.symm⟩
    ·rintro⟨i,hi,e'⟩
     by_cases z:i=n
     ·rw[z] at e';exact .inr e'.symm
     ·exact .inl ⟨i,by omega,e'⟩
end L2
namespace Br1
open PySem PySem.Spec PyProof.Rows L2
theorem Hr:∀{vs:List Value},(∀v∈vs,∃n t,v=Value.int n t)->IntsAre vs (vs.map numOf)
 |[],_=>.nil
 |v::r,h=>by
  obtain⟨n,t,rfl⟩:=h _ bf
  exact .cons n t (Hr λv hv=>h v (az _ hv))
theorem Kt{ord:List Value}{acc:Array Value}{n:Nat}(h:ItemsOf (λi v=>ord[i]?=some v) acc n)(hn:ord.length=n):acc.toList=ord:=by
 refine CZ λi=>?_
 by_cases hi:i<acc.size
 ·have e:acc.toList[i]?=some acc[i]:=by rw[oh];exact EZ hi
  rw[e,h.2 i acc[i] (EZ hi)]
 ·rw[jv (by rw[d5];omega),jv (by rw[hn,<-h.1];omega)]
theorem Lk{Q:List Value->Shared->Prop}(hh:A.handled=none)(hS:SG prog w s.heap S ks)(hk:ks.length<scanBound)
  (h:∀(vs:List Value)(h':Heap)(d:Drawn)(tk:Nat),(∀v∈vs,∃n t,v=Value.int n t)->(vs.map numOf).Perm ks->(∀b o,s.heap.get? b=some o->h'.get? b=some o)->s.heap.objs.size<h'.objs.size->Q vs {s with heap:=h',drawn:=d,toks:=tk}):
  wpAny (model prog w) A (collect (.ref S)) Q E s:=by
 obtain⟨o,es,ep,t,ho,hx,_⟩:=id hS
 have lS:S<s.heap.objs.size:=ba ho
 generalize hL:({cls:=.type "list",data:=.seq ([]:List Value).toArray}:Obj)=L0
 have nf:L0.isFreed=false:=by rw[<-hL];rfl
 have e0:(s.heap.push L0).get? S=some o:=bh _ ho
 have tS:Shared.TypeIs {s with heap:=s.heap.push L0} (.ref S) "set":=⟨o,e0,hx.1⟩
 unfold collect
 refine ac (wpAny_runValue (AR PySem.F.entry_proto_collect ?_))
 rw[C2 PySem.F.plain_proto_collect _]
 show wpAny _ A.in1 (newList []>>=λl=>again (.builtin "list.__iadd__" ⟨[l,.ref S],[]⟩)) _ _ s
 refine ac (ig ?_)
 rw[hL]
 refine ag ⟨FV PySem.F.plain_list_iadd _,AR PySem.F.entry_list_iadd ?_⟩
 rw[C2 PySem.F.plain_list_iadd _]
 show wpAny _ A.in1 (Builtin.List.listExtendWith (.ref s.heap.objs.size) (.ref S) (.ref s.heap.objs.size)) _ _ _
 unfold Builtin.List.listExtendWith
 refine ac (B9 tS ?_)
 have h1:Builtin.List.listSameRef (.ref s.heap.objs.size) (.ref S)=false:=by
  show (s.heap.objs.size==S)=false
  exact pb.mpr (pc lS)
 rw[ae (by rw[h1];decide)]
 refine ac (Yg (hS.at λo e=>bh _ e) λI cy d ord fp St W st ur hI ol oi op xy gj=>?_)
 refine ac (j8 ?_)
 unfold Builtin.List.listLengthHint
 have IU:Shared.TypeIs {s with heap:=cy,drawn:=d} (.ref S) "set":=⟨o,xy _ _ e0,hx.1⟩
 refine ac (wpAny_specialOf IU Jq ?_)
 (generalize IV:("set.__len__":String)=id0;(fail_if_success (clear IV id0));wp_delta;rw[show splitId id0=some ("set","__len__") from by subst IV;decide+kernel];subst IV)
 refine ac (AI (b:=true) IU sub_set_self ?_)
 refine ac (B9 IU ?_)
 refine ag ?_
 rw[af (by decide)]
 refine ac (yh ?_)
 have hD:cy.get? s.heap.objs.size=some L0:=xy _ _ (cb _ nf)
 rw[<-hL] at hD
 refine ac ?_
 show wpAny _ A.in1 (updateSeq s.heap.objs.size (·.push .none)>>=λ_=>updateSeq s.heap.objs.size (·.pop)) _ _ _
 refine ac (wpAny_updateSeq (s:={s with heap:=cy,drawn:=d}) hD rfl ?_)
 have li:=oj (Obj.mapSeq (·.push Value.none)) hD rfl
 refine wpAny_updateSeq li rfl ?_
 have nk:=oj (Obj.mapSeq (·.pop)) li rfl
 have mf:∀b o,b≠s.heap.objs.size->cy.get? b=some o->((cy.update s.heap.objs.size (Obj.mapSeq (·.push Value.none))).update s.heap.objs.size (Obj.mapSeq (·.pop))).get? b=some o:=
  λb o hb e=>(vt _ _ (au hb)).trans ((vt _ _ (au hb)).trans e)
 have nD:s.heap.objs.size∉fp:=λhm=>by
  rcases ur _ hm with e|e
  ·rw[e] at lS
   exact j6 _ lS
  ·have e:(s.heap.push L0).objs.size<=s.heap.objs.size:=e
   rw[gn] at e
   exact j6 _ e
 have h2:A.in1.in1.handled=none:=by simp[hh]
 have Wa:=(W A.in1 (by simp[hh])).toS
 have fr:=Wa.frame 0 {s with heap:=cy,drawn:=d} ((cy.update s.heap.objs.size (Obj.mapSeq (·.push Value.none))).update s.heap.objs.size (Obj.mapSeq (·.pop))) s.toks st (ap _) λb hb o e=>mf b o (λz=>nD (z▸hb)) e
 have nl:ks.length<=sizeLine:=FU hk
 refine ag ⟨FV PySem.F.plain_extend_loop _,codeAny_extend_loopS Wa nl _ nD _ ks.length 0 _ _ _ rfl (c7 _) fr nk (ItemsOf.nil _) λs' xf c' hm xx G5=>?_⟩
 show wpAny _ A (load s.heap.objs.size>>=_) _ _ s'
 refine ac (wpAny_load xx ?_)
 obtain⟨h',g',d',m8,AW⟩:=s'
 obtain rfl:g'=s.gens:=hm.gens
 obtain rfl:d'=d:=hm.drawn
 obtain rfl:AW=s.os:=hm.os
 have ea:=Kt G5 ol
 refine ag ?_
 show Q xf.toList _
 rw[ea]
 refine h ord h' d' m8 oi op (λb u e=>?_) (ba xx)
 have hb:b<s.heap.objs.size:=ba e
 have nI:I≠b:=λz=>by
  have gj:(s.heap.push L0).objs.size<=I:=gj
  rw[gn,z] at gj
  exact j6 _ (EW hb gj)
 refine hm.heap b u ?_ (mf b u (b8 hb) (xy b u (bh _ e)))
 simp only[ao,dh,io,CA]
 exact⟨b8 hb,λz=>nI z.symm⟩
theorem Px(hh:A.handled=none)(hS:SG prog w s.heap S ks)(hk:ks.length<scanBound)
  (h:∀(D:Addr)(vs:List Value)(ns:List Int)(h':Heap)(d:Drawn)(tk ep:Nat),IntsAre vs ns->ns.Perm ks->ns.Pairwise (· <=·)->s.heap.objs.size<=D->h'.get? D=some (seqObj "list" vs.toArray ep)->(∀b o,s.heap.get? b=some o->h'.get? b=some o)->Q (.ref D) {s with heap:=h',drawn:=d,toks:=tk}):
  wpAny (model prog w) A (call (.builtin "sorted") [.ref S]) Q E s:=by
 refine OV kind_sorted plain_sorted entry_sorted (args_sorted1 _) ?_
 unfold Builtin.«sorted»
 refine ac (m:=checkCount "sorted" 1 1 _) (ag ?_)
 refine ac (Lk (by simp[hh]) hS hk λvs cy d tk hi hp xy sz=>?_)
 have vl:vs.length=ks.length:=by
  have:=hp.length_eq
  rwa [ai] at this
 have vz:vs.length<=sizeLine:=by rw[vl];exact FU hk
 refine ac (KB ?_ vz)
 have hD:(cy.push (seqObj "list" vs.toArray 0)).get? cy.objs.size=some (seqObj "list" vs.toArray 0):=cb _ rfl
 refine ac (j8 (jf slot_list_sort ⟨_,hD,rfl⟩ entry_list_sort (list_sort_treeAny hD (Hr hi) vz λout va h1 h2 h3=>⟨_,rfl,?_⟩) (args_list_sort _)))
 obtain⟨ep,he⟩:=sortedHeap_at hD (vs:=vs) (out:=out)
 exact ag ⟨_,rfl,h _ out.toList va _ d tk ep h1 (h2.trans hp) h3 (B7 sz) he λb o e=>(sortedHeap_old (b8 (ba (xy b o e))) (ba (bh _ (xy b o e)))).trans (bh _ (xy b o e))⟩
theorem drw{σ:List (Option V)}{d:Drawn}(I:L2.aQ X aa σ H s):L2.aQ X aa σ H {s with drawn:=d}:=⟨I.ok,I.os,I.bare,I.base,I.loc,I.cell,I.free,I.freeC,I.pin,I.hok,I.len⟩
def aGd(u ns:List Int):Prop:=u.Nodup/\(∀x,x∈u↔x∈ns)/\u.Pairwise (· <=·)
def Wj(K:Frag)(te:TE):TE:=fun σ H Q=>dH te gC σ H λvs H1=>∃(a:Addr)(ns:List Int),vs=[.ref a]/\cP K H1 a (ns.map V.int)/\ns.length<=1000/\∀(u:List Int)(p:Addr),aGd u ns->u.length<=ns.length->H1 p=none->Q (.ref p) (upd H1 p (.lst (u.map V.int)))
theorem Ky{p1 B2:Pos}(hc:X.calm=true)(sj:Gl X "sorted")(lj:Gl X "set")(n9:X.mg "sorted"=none)(t9:X.mg "set"=none)(he:PE X e te)
  (j3:starEach [.Call (.Name "set" p2) [e] [] B2] X.env=[(false,eval (.Call (.Name "set" p2) [e] [] B2) X.env)]:=by rfl) (lg:starEach [e] X.env=[(false,eval e X.env)]:=by rfl):PE X (.Call (.Name "sorted" p1) [.Call (.Name "set" p2) [e] [] B2] [] pos) (Wj X.K te):=by
 intro aa s σ H Q I h
 refine wpAny_Call_Name_kw (lY I sj n9 boot_sorted ?_ (by decide) (by decide))
 refine OA ?_ j3 rfl
 rw[j3]
 show wpAny _ _ (spliced ((false,eval (.Call (.Name "set" p2) [e] [] B2) X.env)::backTo pos [])) _ _ s
 refine Calls.spliced_cons ?_
 refine wpAny_Call_Name_kw (lY I lj t9 boot_set ?_ (by decide) (by decide))
 refine z9 (cV ((aA he aE lg) B2 aa s σ H _ I h) λus s1 ⟨vs,H1,I1,r1,q1⟩=>?_) lg rfl
 obtain⟨a,ns,rfl,hs,hl,q⟩:=q1
 obtain⟨its,rv,pl,_⟩:=I1.list hs
 rw[bK.ref1 r1]
 have bi:its.length=ns.length:=by rw[<-rv.length,ai]
 have bd:∀n:Nat,n<=1000->n+1<scanBound:=λn hn=>by show n+1<4096;omega
 refine Zw (I1.ok.hd hc) pl.isList rv.ints (bd _ (by omega)) λh' tk hS hk=>?_
 refine Calls.spliced_nil ?_
 have qf:∀b u,s1.heap.get? b=some u->h'.get? b=some u:=λb u e=>hk b u (ba e) e
 have mo:=Ul (val:=λi=>ns.getD i 0) its.length
 have ml:=firstMet_length_le (λi=>ns.getD i 0) its.length
 have hm:∀x,x∈firstMet (λi=>ns.getD i 0) its.length↔x∈ns:=λx=>by
  rw[mo.2,bi,pi]
  constructor
  ·rintro⟨i,hi,e⟩
   refine⟨i,?_⟩
   rw[<-e,cx,ax hi]
   rfl
  ·rintro⟨i,e⟩
   exact⟨i,(bp.mp e).1,by show ns.getD i 0=x;rw[cx,e];rfl⟩
 have I2:=(I1.kept (t':=tk) qf)
 refine Px (I1.ok.hd hc) hS (AM (bd _ (by omega))) λD vs u h2 d VY ep h3 h4 h5 h6 h7 h8=>?_
 have ul:=h4.length_eq
 have hz:(u.map V.int).length<=sizeLine:=by
  rw[ai,ul,qz]
  omega
 have I3:=I2.laid (a:=D) (o:=.lst (u.map V.int)) (t':=VY) h8 h6 ⟨hz,vs,ep,rQ h3,h7⟩
 exact⟨.ref D,_,drw (d:=d) I3,rfl,q u D ⟨h4.nodup_iff.mpr mo.1,λx=>(h4.mem_iff).trans (hm x),h5⟩ (by omega) (I2.hok.fresh h6)⟩
def alk(t:TP)(n:Nat):Bool:=Xj (eW t n).cs t.cs
def wY(t:TP):Nat:=if alk t 1=true then 1 else if alk t 2=true then 2 else 4
variable{K:Frag}
def Dk(CP:Addr):Sp:=λvs H Q _=>∃(b nm:Addr)(g:Int)(t:TP),vs=[.ref b]/\Ks CP H b nm g t/\rG t/\∀H',aK H H'->Q (.int (wY t:Nat)) H'
theorem Fr:aN ["part","turns"] ["part"] (aG wN):=⟨rfl,rfl,rfl,by decide+kernel,rfl,by decide+kernel,by decide+kernel⟩
theorem Th(F:eZ K "turns_until_alike" "turns_until_alike" wN f fd)(T':Rh K CP)(L1:dE P w K mg base "turned_part" bN 4 ["part","turns"] (mS CP)):bO P w K mg base bN 5 f fd ["part"] (Dk CP):=by
 obtain⟨g1,gc,G1,b1,k1,h1⟩:=L1.ex
 refine F.ok Fr (λvs H Q E h=>?_) (λak A outer s H vs Q E hr h=>?_)
 ·obtain⟨b,nm,g,t,rfl,_⟩:=h
  rfl
 ·obtain⟨b,nm,g,t,rfl,ht,tok,k⟩:=h
  have hu:=iQ hr
  refine⟨_,aF (eG jy rfl (Jk (dO (aA aI (aA aI aE)))) (bE (i:=1) Fr.nd rfl (Or.inl rfl))
    (aH (eA (fM (aBx hu) (aU (aP G1 hr (by rfl) h1 k1 b1 .nil aX (aA (pv 0) (aA (pv 1) aE))) rfl) (aU (pv 0) rfl) (xY _ (by decide) (by decide))) (aH (aR (pv 1))) bX)))
   (aH (aR aI)),?_⟩
  refine⟨(by show 2<=sizeLine;decide),λtt K7=>⟨tt,rfl,⟨_,cG.of aB⟩,?_⟩⟩
  have S0:=aK.new (o:=.tup [.int 1,.int 2]) K7
  have e0:upd H tt (.tup [.int 1,.int 2]) tt=some (.tup [.int 1,.int 2]):=aB
  refine Ct (K:=K) (xs:=[.int 1,.int 2]) (λi σ H'=>∃v1,σ=[some (.ref b),v1]/\aK (upd H tt (.tup [.int 1,.int 2])) H'/\(0<i->alk t 1=false)/\(1<i->alk t 2=false)) ⟨none,rfl,λ_ _ e=>e,λz=>absurd z (ue _),λz=>absurd z (by omega)⟩ (λi σ H' _ z=>?_) ?_ ?_
  ·obtain⟨_,_,S,_⟩:=z
   exact cG.of (S _ _ e0)
  ·rintro i x σ H1 ex ⟨v1,rfl,S1,n1,n2⟩
   obtain⟨n,hx,hn⟩:∃n:Nat,x=V.int (n:Int)/\((i=0/\n=1)\/(i=1/\n=2)):=by
    match i,ex with
    |0,ex=>cases ex;exact⟨1,rfl,.inl ⟨rfl,rfl⟩⟩
    |1,ex=>cases ex;exact⟨2,rfl,.inr ⟨rfl,rfl⟩⟩
    |i+2,ex=>cases ex
   subst hx
   have zt:=S0.trans S1
   have VZ:Ks CP H1 b nm g t:=by
    obtain⟨dx,c,q1,q2⟩:=ht
    exact⟨dx,c,zt _ _ q1,zt _ _ q2⟩
   refine⟨_,rfl,_,rfl,b,nm,g,t,n,rfl,by omega,VZ,tok,λH2 b2 S2 t2=>?_⟩
   obtain⟨ij,c2,q1,q2⟩:=t2
   obtain⟨dx,c,p1,p2⟩:=id ht
   have lm:=zt.trans S2
   refine⟨b2,CP,ij,_,_,rfl,q1,T'.cl,T'.n6,rfl,_,rfl,b,CP,dx,_,_,rfl,lm _ _ p1,T'.cl,T'.n6,rfl,c2,c,_,_,rfl,rfl,q2,lm _ _ p2,_,rfl,bZ (λe=>?_) (λe=>?_)⟩
   ·have er:wY t=n:=by
     unfold wY
     rcases hn with ⟨rfl,rfl⟩|⟨rfl,rfl⟩
     ·exact af e
     ·rw[ae (by rw[n1 (by omega)];exact b6)]
      exact af e
    have:=k H2 lm
    rw[er] at this
    exact⟨_,rfl,this⟩
   ·have e:alk t n=false:=cD e
    refine⟨_,rfl,S1.trans S2,λz=>?_,λz=>?_⟩
    ·rcases hn with ⟨rfl,rfl⟩|⟨rfl,rfl⟩
     ·exact e
     ·exact n1 (by omega)
    ·rcases hn with ⟨rfl,rfl⟩|⟨rfl,rfl⟩
     ·omega
     ·exact e
  ·rintro σ H1 ⟨v1,rfl,S1,n1,n2⟩
   have er:wY t=4:=by
    unfold wY
    rw[ae (by rw[n1 (by decide)];exact b6),ae (by rw[n2 (by decide)];exact b6)]
   have:=k H1 (S0.trans S1)
   rw[er] at this
   exact this
def eV(y:List Int):List Int:=[iN y 4,iN y 3,iN y 2,iN y 0,iN y 1,iN y 5]
def Ti(K:Frag):Sp:=λvs H Q _=>∃(t:Addr)(y:List Int),vs=[.ref t]/\sV H t y/\∀(H':Hp)(u:Addr),aK H H'->Gj H' u (eV y)->Q (.ref u) H'
theorem aDt:aN ["put"] ["put"] (aG sO):=⟨rfl,rfl,rfl,by decide+kernel,rfl,by decide+kernel,by decide+kernel⟩
theorem aDp(F:eZ K "plain_order" "plain_order" sO f fd):bO P w K mg base bN 1 f fd ["put"] (Ti K):=by
 refine F.ok aDt (λvs H Q E h=>?_) (λak A outer s H vs Q E hr h=>?_)
 ·obtain⟨t,y,rfl,_⟩:=h
  rfl
 ·obtain⟨t,y,rfl,⟨ht,hy⟩,k⟩:=h
  obtain⟨a0,a1,a2,a3,a4,a5,rfl⟩:=jV hy
  have st:=cG.of (K:=K) ht
  refine⟨_,aH (aR (dO (aA (bH aW (pv 0) aI (λ_ _=>rfl)) (aA (bH aW (pv 0) aI (λ_ _=>rfl)) (aA (bH aW (pv 0) aI (λ_ _=>rfl)) (aA (bH aW (pv 0) aI (λ_ _=>rfl)) (aA (bH aW (pv 0) aI (λ_ _=>rfl)) (aA (bH aW (pv 0) aI (λ_ _=>rfl)) aE)))))))),?_⟩
  refine⟨_,rfl,t,_,_,_,rfl,rfl,st,rfl,_,rfl,t,_,_,_,rfl,rfl,st,rfl,_,rfl,t,_,_,_,rfl,rfl,st,rfl,_,rfl,t,_,_,_,rfl,rfl,st,rfl,_,rfl,t,_,_,_,rfl,rfl,st,rfl,_,rfl,t,_,_,_,rfl,rfl,st,rfl,(by show 6<=sizeLine;decide),λu fu=>k _ u (aK.new fu) ?_⟩
  show upd _ _ _ _=_
  rw[aB]
  rfl
def Bt(U:List aL)(p:Nat):Nat:=match U[p]? with
 |some pr=>wY (iY pr)
 |none=>1
theorem Ma(U:List aL)(p:Nat):0<Bt U p:=by
 unfold Bt wY
 split
 ·split
  ·decide
  ·split<;>decide
 ·decide
def Mo(U:List aL)(y:List Int):List Int:=y.take 5++[iN y 5 % (Bt U (iN y 0).toNat:Int)]
def aBi(U:List aL)(ys zs:List (List Int)):Prop:=zs.Perm ((fZ ys).map (Mo U))/\zs.Pairwise λa b=>Sg (eV b) (eV a)=false
def vJ(U:List aL)(u:List Int):List (dL×V):=u.map λn=>((.inl n:dL),V.int (Bt U n.toNat:Nat))
theorem Gp{n:Int}:∀{u:List Int},n∈u->gB (vJ U u) (.inl n)=some (V.int (Bt U n.toNat:Nat))
 |[],h=>by cases h
 |a::r,h=>by
  unfold vJ
  rw[bn]
  by_cases e:a=n
  ·rw[qT (by rw[e])]
   rw[e]
  ·rw[mV (λz=>e (Sum.inl.inj z))]
   rcases ao.mp h with z|z
   ·exact absurd z.symm e
   ·exact Gp z
theorem Bc{n:Int}:∀{u:List Int},n∉u->gB (vJ U u) (.inl n)=none
 |[],h=>rfl
 |a::r,h=>by
  unfold vJ
  rw[bn,mV (λz=>h (by rw[<-Sum.inl.inj z];exact bf))]
  exact Bc λz=>h (az _ z)
theorem So{n:Int}{u:List Int}(h:n∉u):jU (vJ U u) (.inl n) (V.int (Bt U n.toNat:Nat))=vJ U (u++[n]):=by
 rw[rN _ (Bc h)]
 unfold vJ
 rw[c9]
 rfl
theorem Si{y:List Int}(h:y∈fZ ys):iN y 0∈ys.map λy=>iN y 0:=by
 unfold fZ at h
 split at h
 ·cases h
 ·obtain⟨v,hv,rfl⟩:=a8.mp h
  exact a8.mpr ⟨v,hv,rfl⟩
theorem Tw{g:α->β}:∀{ps:List β}{l:List α},ps.Perm (l.map g)->∃l':List α,l'.Perm l/\l'.map g=ps:=by
 intro ps l h
 generalize hm:l.map g=m at h
 induction h generalizing l with
 |nil=>exact⟨[],by rw[List.map_eq_nil_iff.mp hm],rfl⟩
 | @cons x l1 l2 _ ih=>
  cases l with
  |nil=>cases hm
  |cons a r=>
   rw[bn] at hm
   injection hm with h1 h2
   obtain⟨l',h3,h4⟩:=ih h2
   exact⟨a::l',h3.cons a,by rw[bn,h4,h1]⟩
 | @swap x y l1=>
  match l,hm with
  |a::b::r,hm=>
   simp only[bn,List.cons.injEq] at hm
   exact⟨b::a::r,List.Perm.swap a b r,by rw[bn,bn,hm.1,hm.2.1,hm.2.2]⟩
 | @trans l1 l2 l3 _ _ ih1 ih2=>
  obtain⟨l',h1,h2⟩:=ih2 hm
  obtain⟨V0,h3,h4⟩:=ih1 h2
  exact⟨V0,h3.trans h1,h4⟩
theorem aA0(R:Addr->α->Prop)(f:α->List Int){ws:List Addr}{xs:List α}(h:Paired R ws xs){ps:List (List Int×Addr)}(sb:xR (xs.map f) ws ps):∃zs,Paired R (ps.map (·.2)) zs/\zs.Perm xs/\zs.Pairwise λa b=>Sg (f b) (f a)=false:=by
 obtain⟨hp,hs⟩:=sb
 have key:∀(l:List (Addr×α)),(∀q∈l,R q.1 q.2)->Paired R (l.map (·.1)) (l.map (·.2)):=λl=>by
  induction l with
  |nil=>intro _;exact .nil
  |cons q r ih=>intro hq;exact .cons (hq q bf) (ih λx hx=>hq x (az _ hx))
 have ez:∀{ws:List Addr}{xs:List α},Paired R ws xs->∃l:List (Addr×α),(∀q∈l,R q.1 q.2)/\l.map (·.1)=ws/\l.map (·.2)=xs/\(xs.map f).zip ws=l.map λq=>(f q.2,q.1):=λh=>by
  induction h with
  |nil=>exact⟨[],(λq hq=>absurd hq dh),rfl,rfl,rfl⟩
  | @cons t x ts xs r rs ih=>
   obtain⟨l,h1,h2,h3,h4⟩:=ih
   refine⟨(t,x)::l,λq hq=>?_,by rw[bn,h2],by rw[bn,h3],?_⟩
   ·rcases ao.mp hq with rfl|hq
    ·exact r
    ·exact h1 q hq
   ·rw[bn,yj,h4]
    rfl
 obtain⟨l,h1,h2,h3,h4⟩:=ez h
 rw[h4] at hp
 obtain⟨l',p8,e⟩:=Tw hp
 refine⟨l'.map (·.2),?_,?_,?_⟩
 ·have:=key l' λq hq=>h1 q (p8.mem_iff.mp hq)
  rw[<-e,de]
  exact this
 ·rw[<-h3]
  exact p8.map _
 ·rw[<-e,J'] at hs
  rw[J']
  exact hs
def xI(K:Frag)(CP:Addr):Sp:=λvs H Q _=>∃(pa la:Addr)(bs:List Addr)(U:List aL) (ys:List (List Int)),vs=[.ref pa,.ref la]/\H pa=some (.lst (bs.map V.ref))/\dF CP H bs U/\(∀pr∈U,dC pr)/\nN H la ys/\ys.length<=256/\(∀y∈ys,0<=iN y 0/\(iN y 0).toNat<U.length)/\
 ∀(H':Hp)(l:Addr) (zs:List (List Int)),aK H H'->nN H' l zs->aBi U ys zs->Q (.ref l) H'
abbrev Dj:List Str:=["parts","lines","rounds","number","put","plain"]
abbrev aG4(K:Frag):TE:=vG (aBg K) (tSl (aAf K) (cU 4) Ei (Ta (tC (.int 5)))) (Xo (dH (vG (rI (λ_ j=>0<j) λi j=>.int (i % j)) (vG (gD K) (cU 4) (tC (.int 5))) (Uz (cU 2) (vG (gD K) (cU 4) (tC (.int 0))))) gC))
theorem gL:aN Dj ["parts","lines"] (aG lM):=⟨rfl,rfl,rfl,by decide+kernel,rfl,by decide+kernel,by decide+kernel⟩
theorem Rs(F:eZ K "plain_lines" "plain_lines" lM f fd)(NQ:mg "sorted"=none)(V1:mg "set"=none)(L1:dE P w K mg base "turns_until_alike" bN 5 ["part"] (Dk CP))(L2:dE P w K mg base "moved_home" bN 2 ["lines"] (Ew K))(L3:dE P w K mg base "plain_order" bN 1 ["put"] (Ti K)):bO P w K mg base bN 6 f fd ["parts","lines"] (xI K CP):=by
 obtain⟨g1,gc,G1,b1,k1,h1⟩:=L1.ex
 obtain⟨g2,ky,G2,b2,k2,h2⟩:=L2.ex
 obtain⟨g3,BH,G3,b3,k3,h3⟩:=L3.ex
 refine F.ok gL (λvs H Q E h=>?_) (λak A outer s H vs Q E hr h=>?_)
 ·obtain⟨pa,la,bs,U,ys,rfl,_⟩:=h
  rfl
 ·obtain⟨pa,la,bs,U,ys,rfl,ck,cf,ok,hY,yl,yp,k⟩:=h
  have hu:=iQ hr
  have a9:=hr.mono (j:=2) (by decide)
  have iw:=hr.mono (j:=3) (by decide)
  refine⟨_,aF (bF (i:=2) gL.nd rfl (by first|exact Or.inl rfl|exact Or.inr rfl) Tk)
   (aF (eG jy rfl (fN (Ky rfl (by rfl) (by rfl) NQ V1 (uQ (own:=[("put",4)]) (te:=vG (gD K) (cU 4) (tC (.int 0))) rfl gL.nd (fN (pv 1)) (eN (N:=Dj) (sc:=aG lM) (by decide+kernel)) (λ_ _ _ _ _=>bE (i:=4) gL.nd rfl (Or.inl rfl)) (λ_ _ _ _ _=>fY) (λ_ _ _ _ _=>bH (r:=gD K) aW (pv 4) aI (λ_ _=>rfl))))) (bE (i:=3) gL.nd rfl (Or.inl rfl))
    (aH (lF hu (pv 2) (pv 3) (aP G1 hr (by rfl) h1 k1 b1 .nil aX (aA (bH jM (pv 0) (pv 3) (λ_ _=>rfl)) aE)) rfl)))
   (aF (rK (i:=5) (own:=[("put",4)]) (te:=aG4 K) rfl gL.nd rfl rfl rfl (fN (aP G2 a9 (by rfl) h2 k2 b2 .nil aX (aA (pv 1) aE))) (eN (N:=Dj) (sc:=aG lM) (by decide+kernel)) (λ_ _ _ _ _=>bE (i:=4) gL.nd rfl (Or.inl rfl)) (λ_ _ _ _ _=>fY)
     (λ_ _ _ _ _=>bY Ow (Hi Nz (pv 4) No (Ou aI)) (dO (aA (bY Lm (bH (r:=gD K) aW (pv 4) aI (λ_ _=>rfl)) (oJ hu (pv 2) (bH (r:=gD K) aW (pv 4) aI (λ_ _=>rfl)) (λ_ _=>rfl))) aE))))
   (aH (aR (Jo G3 iw b3 (by rfl) NQ (by rfl) h3 (pv 5)))))),?_⟩
  intro R hR
  have bu:=bA
  obtain⟨ts,d7,j4⟩:=id hY
  have jj:ts.length=ys.length:=Paired.length j4
  have S0:aK H (upd H R (.dK [])):=aK.new hR
  have nRla:la≠R:=aD d7 hR
  have nRpa:pa≠R:=aD ck hR
  refine⟨_,rfl,la,rfl,⟨_,cP.of (S0 _ _ d7)⟩,λDl c6=>?_⟩
  refine jQ (K:=K) (xs:=ts.map V.ref) (λi H'=>aK (upd H R (.dK [])) H'/\H' Dl=some (.lst (((ys.map λy=>iN y 0).take i).map V.int))) ⟨aK.new c6,aB⟩ (λi H' _ z=>cP.of (z.1 _ _ (S0 _ _ d7))) ?_ ?_
  ·rintro i x H1 ex ⟨S1,cz⟩
   have hi:i<ys.length:=by
    have:=(bp.mp ex).1
    rwa [ai,jj] at this
   obtain⟨y,ey⟩:∃y,ys[i]?=some y:=⟨_,ax hi⟩
   obtain⟨t,et,ht,vk⟩:=bT j4 ey
   rw[bg,et] at ex
   cases ex
   have IN:Ps (y.map V.int) 0=some (V.int (iN y 0)):=by
    obtain⟨a0,a1,a2,a3,a4,a5,rfl⟩:=jV vk
    rfl
   refine⟨rfl,_,rfl,t,_,_,_,rfl,rfl,cG.of (S1 _ _ (S0 _ _ ht)),IN,_,cz,?_,?_,?_⟩
   ·rw[ai,gf,ai]
    omega
   ·intro b' o e
    rw[aC (aD e c6)]
    exact S1 _ _ e
   ·have e3:(ys.map λy=>iN y 0)[i]?=some (iN y 0):=by rw[bg,ey];rfl
    rw[aB,jg,e3,c9]
    rfl
  rintro H1 ⟨S1,cz⟩
  rw[ai,jj,ym (by rw[ai];exact ap _)] at cz
  refine⟨Dl,_,rfl,cP.of cz,by rw[ai];omega,λu p us ul fp=>⟨p,rfl,⟨_,cP.of aB⟩,?_⟩⟩
  have un:∀n∈u,0<=n/\n.toNat<U.length:=λn hn=>by
   obtain⟨y,hy,e⟩:=a8.mp ((us.2.1 n).mp hn)
   rw[<-e]
   exact yp y hy
  have NR:H1 R=some (.dK []):=S1 _ _ aB
  have npR:p≠R:=λz=>by rw[z,NR] at fp;cases fp
  have IW:aK H (upd H1 p (.lst (u.map V.int))):=(S0.trans S1).trans (aK.new fp)
  have jd:upd H1 p (.lst (u.map V.int)) p=some (.lst (u.map V.int)):=aB
  have IX:upd H1 p (.lst (u.map V.int)) R=some (.dK []):=by rw[aC (au npR)];exact NR
  generalize upd H1 p (.lst (u.map V.int))=Hb at IW jd IX
  have nb:∀b o,H b=some o->b≠R:=λb o e=>aD e hR
  refine Hy (K:=K) (xs:=u.map V.int) (λi σ H'=>∃v3,σ=[some (.ref pa),some (.ref la),some (.ref R),v3,none,none]/\SX R Hb H'/\H' R=some (.dK (vJ U (u.take i)))) ⟨none,rfl,SX.refl _ _,IX⟩ (λi σ H' _ z=>?_) ?_ ?_
  ·obtain⟨_,_,S,_⟩:=z
   exact cP.of (S _ _ jd npR)
  ·rintro i x σ H2 ex ⟨v3,rfl,S2,EL⟩
   rw[bg] at ex
   obtain⟨n,en,ex⟩:=o9.mp ex
   subst ex
   have nu:=un n (fj en)
   obtain⟨pr,jt⟩:∃pr,U[n.toNat]?=some pr:=⟨_,ax nu.2⟩
   have lm:aK H H2:=λb o e=>S2 _ _ (IW _ _ e) (nb b o e)
   obtain⟨b,eb,D5,md⟩:=bT cf jt
   obtain⟨nm,w6⟩:=D5.pt
   have tok:rG (iY pr):=⟨(Fl (ok pr (fj jt))).nd,md.len⟩
   have e0:Ps (bs.map V.ref) n=some (V.ref b):=by
    have:=jF (xs:=bs.map V.ref) (j:=n.toNat) (v:=V.ref b) (by rw[bg,eb];rfl)
    rwa [oq nu.1] at this
   have er:wY (iY pr)=Bt U n.toNat:=by
    unfold Bt
    rw[jt]
   have nt:n∉u.take i:=λz=>by
    obtain⟨j,hj⟩:=pi.mp z
    rw[List.getElem?_take] at hj
    split at hj
    ·rename_i am
     obtain⟨V2,D4⟩:=bp.mp hj
     obtain⟨V3,DQ⟩:=bp.mp en
     exact(C1.mp us.1 j i V2 V3 am) (D4.trans DQ.symm)
    ·cases hj
   refine⟨_,rfl,_,rfl,pa,_,_,_,rfl,rfl,cP.of (lm _ _ ck),e0,b,nm,_,iY pr,rfl,w6.same lm,tok,λH3 S3=>?_⟩
   rw[er]
   have V4:=S3 _ _ EL
   have bi:(vJ U (u.take i)).length<sizeLine:=by
    unfold vJ
    rw[ai,gf]
    rw[ai] at ul
    omega
   refine⟨_,rfl,_,rfl,R,_,rfl,tE.kk (k:=.inl n) V4 bi,_,rfl,λb' o e' n'=>?_,?_⟩
   ·rw[aC n']
    exact S3 _ _ (S2 _ _ e' n')
   ·rw[aB,So nt,jg,en]
    rfl
  ·rintro σ H2 ⟨v3,rfl,S2,EL⟩
   rw[ai,jo] at EL
   have lm:aK H H2:=λb o e=>S2 _ _ (IW _ _ e) (nb b o e)
   refine⟨_,rfl,la,ys,rfl,hY.same lm,yl,λH3 l S3 qx=>?_⟩
   obtain⟨wI,hl,pus⟩:=id qx
   have NS:wI.length=(fZ ys).length:=Paired.length pus
   have o6:(fZ ys).length=ys.length:=Ly
   refine⟨l,rfl,⟨_,cP.of hl⟩,λD2 li=>?_⟩
   refine jQ (K:=K) (xs:=wI.map V.ref) (λj H'=>aK H3 H'/\∃ws:List Addr,H' D2=some (.lst (ws.map V.ref))/\Paired (sV H') ws (((fZ ys).map (Mo U)).take j)) ⟨aK.new li,[],aB,.nil⟩ (λj H' _ z=>cP.of (z.1 _ _ hl)) ?_ ?_
   ·rintro j x H4 ex ⟨S4,ws,sk,pw⟩
    have hj:j<(fZ ys).length:=by
     have:=(bp.mp ex).1
     rwa [ai,NS] at this
    obtain⟨y,ey⟩:∃y,(fZ ys)[j]?=some y:=⟨_,ax hj⟩
    obtain⟨t,et,ht,vk⟩:=bT pus ey
    rw[bg,et] at ex
    cases ex
    have yu:iN y 0∈u:=(us.2.1 _).mpr (Si (fj ey))
    have V5:H4 R=some (.dK (vJ U u)):=S4 _ _ (S3 _ _ EL)
    have dg:∀H':Hp,H' R=some (.dK (vJ U u))->mP H' R (V.int (iN y 0)) (some (V.int (Bt U (iN y 0).toNat:Nat))):=λH' e=>by
     have:=mP.kk (k:=.inl (iN y 0)) e
     rw[Gp yu] at this
     exact this
    have rp:=Ma U (iN y 0).toNat
    have epl:Mo U y=y.take 5++[iN y 5 % (Bt U (iN y 0).toNat:Int)]:=rfl
    have wl:ws.length<=256:=by
     have:=Paired.length pw
     rw[gf,ai] at this
     omega
    generalize Bt U (iN y 0).toNat=rr at dg rp epl
    obtain⟨a0,a1,a2,a3,a4,a5,rfl⟩:=jV vk
    have NT:=S4 _ _ ht
    refine⟨rfl,_,rfl,_,rfl,t,_,rfl,cG.of NT,λp1 H5 S5 IY=>?_⟩
    have NU:=cG.of (K:=K) (S5 _ _ NT)
    have V6:mP H5 R (V.int a0) (some (V.int (rr:Nat))):=dg H5 (S5 _ _ V5)
    refine⟨_,rfl,t,_,_,_,rfl,rfl,NU,rfl,_,rfl,_,rfl,t,_,_,_,rfl,rfl,NU,rfl,R,_,rfl,V6,_,_,rfl,rfl,(by show (0:Int)<(rr:Int);omega),(by show 1<=sizeLine;decide),λp2 f2=>?_⟩
    have S6:=aK.new (o:=.tup [V.int (a5 % (rr:Int))]) f2
    have e5:zX [V.int a0,V.int a1,V.int a2,V.int a3,V.int a4,V.int a5] none (some 5)=[V.int a0,V.int a1,V.int a2,V.int a3,V.int a4]:=rfl
    have IY:cG K H5 p1 [V.int a0,V.int a1,V.int a2,V.int a3,V.int a4]:=by rw[<-e5];exact IY
    refine⟨p1,p2,[V.int a0,V.int a1,V.int a2,V.int a3,V.int a4],[V.int (a5 % (rr:Int))],rfl,rfl,S6.seqT IY,cG.of aB,(by intro z;cases z),(by show 6<=sizeLine;decide),(λz=>by cases z),λ_ p3 f3=>?_⟩
    have IZ:=(S5.trans S6).trans (aK.new (o:=.tup ([V.int a0,V.int a1,V.int a2,V.int a3,V.int a4]++[V.int (a5 % (rr:Int))])) f3)
    have V7:p3≠D2:=λz=>by
     have:=(S5.trans S6) _ _ sk
     rw[<-z,f3] at this
     cases this
    refine⟨_,IZ _ _ sk,by rw[ai];omega,λb' o e=>?_,ws++[p3],by rw[aB,c9];rfl,?_⟩
    ·rw[aC (aD e li)]
     exact IZ _ _ (S4 _ _ e)
    ·have e2:((fZ ys).map (Mo U))[j]?=some ([a0,a1,a2,a3,a4,a5].take 5++[a5 % (rr:Int)]):=by rw[bg,ey];exact congrArg some epl
     rw[jg,e2]
     refine Paired.snoc (Paired.mapP pw λv z q=>⟨?_,q.2⟩) ⟨?_,rfl⟩
     ·rw[aC (λe=>by have z1:=q.1;rw[e,sk] at z1;cases z1)]
      exact IZ _ _ q.1
     ·rw[aC V7,aB]
      rfl
   ·rintro H4 ⟨S4,ws,sk,pw⟩
    rw[ai,NS,ym (by rw[ai];exact ap _)] at pw
    have V8:=(lm.trans S3).trans S4
    have wl:=Paired.length pw
    refine⟨_,rfl,D2,ws,((fZ ys).map (Mo U)).map eV,rfl,cP.of sk,?_,by rw[wl,ai,ai,ai],λkk hk=>?_,λH5 D ps S5 f5 sb=>?_⟩
    ·intro i t kk H5 Q5 e1 e2 S5 q5
     rw[bg] at e2
     obtain⟨y,ey,rfl⟩:=o9.mp e2
     obtain⟨t',et,hp⟩:=bT pw ey
     rw[e1] at et
     cases et
     exact⟨t,y,rfl,⟨S5 _ _ hp.1,hp.2⟩,q5⟩
    ·obtain⟨y,_,rfl⟩:=a8.mp hk
     exact Nat.succ_pos _
    ·obtain⟨zs,pz,e3,e4⟩:=aA0 (λt y=>sV H4 t y) eV pw sb
     refine k _ D zs (V8.trans (S5.trans (aK.new f5))) ⟨ps.map (·.2),by rw[aB,de];rfl,Paired.mapP pz λt y q=>⟨?_,q.2⟩⟩ ⟨e3,e4⟩
     rw[aC (aD (S5 _ _ q.1) f5)]
     exact S5 _ _ q.1
end Br1
namespace Br1
theorem Am{p:Br.Part}(sh:zW p)(hi:i<p.places.length):p.places[i]?=some (p.at_ (i % p.wide) (i / p.wide % p.deep) (i / p.wide / p.deep)):=by
 have hw:=sh.w
 have hd:=sh.d
 have hl:=sh.l
 have b3:i / p.wide / p.deep<p.high:=by
  rw[FN,Nat.div_lt_iff_lt_mul (C0 hw hd)]
  rw[hl,mm p.deep p.wide] at hi
  exact hi
 have e:(i / p.wide / p.deep * p.deep+i / p.wide % p.deep) * p.wide+i % p.wide=i:=by
  rw[P4,P4]
 unfold Br.Part.at_
 rw[af ⟨rh _ hw,rh _ hd,b3⟩,e,cx,ax hi]
 rfl
theorem xG{p q:Br.Part}(hp:zW p)(hq:zW q)(w:p.wide=q.wide)(d:p.deep=q.deep)(h:p.high=q.high)(e:∀x y z,p.at_ x y z=q.at_ x y z):p.places=q.places:=by
 have hl:p.places.length=q.places.length:=by rw[hp.l,hq.l,w,d,h]
 refine CZ λi=>?_
 by_cases hi:i<p.places.length
 ·rw[Am hp hi,Am hq (by omega),e,w,d]
 ·rw[jv (by omega),jv (by omega)]
abbrev fA(p:Br.Part):Nat×Nat×Nat×List Br.Place:=(p.wide,p.deep,p.high,p.places)
theorem Ph{p q:Br.Part}:p.same q=true↔fA p=fA q:=by
 unfold Br.Part.same fA
 simp only[cn,cp,Prod.mk.injEq]
theorem aAz{p q:Br.Part}(h:fA p=fA q)(x y z:Nat):p.at_ x y z=q.at_ x y z:=by
 simp only[fA,Prod.mk.injEq] at h
 unfold Br.Part.at_
 rw[h.1,h.2.1,h.2.2.1,h.2.2.2]
theorem Qj{p q:Br.Part}(h:fA p=fA q):fA p.turn=fA q.turn:=by
 simp only[fA,Prod.mk.injEq] at h
 simp only[fA,Prod.mk.injEq]
 unfold Br.Part.turn
 dsimp only
 rw[h.1,h.2.1,h.2.2.1,h.2.2.2]
 exact⟨rfl,rfl,rfl,rfl⟩
theorem zW.turn{p:Br.Part}(sh:zW p):zW p.turn:=⟨sh.d,sh.w,sh.h,zG⟩
theorem zW.turned{p:Br.Part}(sh:zW p):∀r,zW (p.turned r)
 |0=>sh
 |r+1=>(zW.turned sh r).turn
theorem Tn{p:Br.Part}{x y:Nat}(h:¬(x<p.wide/\y<p.deep/\z<p.high)):p.at_ x y z=.none:=by
 unfold Br.Part.at_
 rw[ae h]
theorem Ia{p:Br.Part}(sh:zW p){x y:Nat}(hx:x<p.wide)(hy:y<p.deep)(hz:z<p.high):p.turn.turn.at_ x y z=p.at_ (p.wide - 1 - x) (p.deep - 1 - y) z:=by
 rw[sC sh.turn (show x<p.turn.deep from hx) (show y<p.turn.wide from hy) (show z<p.turn.high from hz)]
 show p.turn.at_ (p.deep - 1 - y) x z=_
 exact sC sh (by omega) hx hz
theorem aE1{p:Br.Part}(sh:zW p):fA (p.turned 4)=fA p:=by
 have HY:zW p.turn.turn:=sh.turn.turn
 have e:∀x y z,(p.turned 4).at_ x y z=p.at_ x y z:=λx y z=>by
  show p.turn.turn.turn.turn.at_ x y z=_
  by_cases h:x<p.wide/\y<p.deep/\z<p.high
  ·rw[Ia HY (show x<p.turn.turn.wide from h.1) (show y<p.turn.turn.deep from h.2.1) (show z<p.turn.turn.high from h.2.2)]
   show p.turn.turn.at_ (p.wide - 1 - x) (p.deep - 1 - y) z=_
   rw[Ia sh (by omega) (by omega) h.2.2,show p.wide - 1 - (p.wide - 1 - x)=x by omega,show p.deep - 1 - (p.deep - 1 - y)=y by omega]
  ·rw[Tn h,Tn (p:=p.turn.turn.turn.turn) h]
 have:=xG (p:=p.turned 4) (q:=p) (sh.turned 4) sh rfl rfl rfl e
 show ((p.turned 4).wide,(p.turned 4).deep,(p.turned 4).high,(p.turned 4).places)=_
 rw[this]
 rfl
theorem qL[DecidableEq α]:∀{l m:List α},l.Nodup->(∀x∈l,x∈m)->∃r,m.Perm (l++r)
 |[],m,_,_=>⟨m,.refl _⟩
 |a::l,m,nd,h=>by
  obtain⟨na,nl⟩:=pd.mp nd
  have ha:=h a bf
  obtain⟨r,hr⟩:=qL (m:=m.erase a) nl λx hx=>(PB (λz=>na (by rw[<-z];exact hx))).mpr (h x (az _ hx))
  exact⟨r,(List.perm_cons_erase ha).trans (hr.cons a)⟩
theorem Tl[DecidableEq α]{l m:List α}(nd:l.Nodup)(h:∀x∈l,x∈m)(e:l.length=m.length):∀x∈m,x∈l:=by
 obtain⟨r,hr⟩:=qL nd h
 have:=hr.length_eq
 rw[c8] at this
 have:r=[]:=yn (by omega)
 rw[this,ie] at hr
 exact λx hx=>hr.mem_iff.mp hx
theorem Wg(h:(cs.map (·.1)).Nodup):cs.Nodup:=PZ (S:=(· ≠·)) _ (λa b h z=>h (by rw[z])) h
theorem Yy{ds:CL}(nc:(cs.map (·.1)).Nodup)(nd:(ds.map (·.1)).Nodup):Xj cs ds=true↔∀c,c∈cs↔c∈ds:=by
 unfold Xj
 rw[cn,b7,jw]
 constructor
 ·rintro⟨hl,h⟩ c
  have sub:∀x∈cs,x∈ds:=λx hx=>oV (dw (h x hx))
  exact⟨sub c,Tl (Wg nc) sub hl c⟩
 ·intro h
  refine⟨?_,λx hx=>decide_eq_true ((Os nd).mpr ((h x).mp hx))⟩
  obtain⟨r,hr⟩:=qL (Wg nc) λx hx=>(h x).mp hx
  obtain⟨r',V9⟩:=qL (Wg nd) λx hx=>(h x).mpr hx
  have h1:=hr.length_eq
  have h2:=V9.length_eq
  rw[c8] at h1 h2
  omega
theorem aDo{t1 t2:TP}{p1 p2:Br.Part}(r1:Ro t1 p1)(r2:Ro t2 p2):(∀c,c∈t1.cs↔c∈t2.cs)↔∀x y z,p1.at_ x y z=p2.at_ x y z:=by
 have one:∀{t1 t2:TP}{p1 p2:Br.Part},Ro t1 p1->Ro t2 p2->(∀c,c∈t1.cs->c∈t2.cs)->∀x y z,(p1.at_ x y z).isCell=true->p1.at_ x y z=p2.at_ x y z:=λ{t1 t2 p1 p2} r1 r2 h x y z hc=>by
  obtain⟨v,hv,e⟩:=wS (p1.at_ x y z)
  have m1:=(r1.mem (cK (x,y,z)) v).mpr ⟨(x,y,z),rfl,hv,hc,e⟩
  obtain⟨s,es,_,_,e2⟩:=(r2.mem _ v).mp (h _ m1)
  have:=gO es
  subst this
  rw[e]
  exact e2.symm
 constructor
 ·intro h x y z
  by_cases c1:(p1.at_ x y z).isCell=true
  ·exact one r1 r2 (λc hc=>(h c).mp hc) x y z c1
  ·by_cases c2:(p2.at_ x y z).isCell=true
   ·exact(one r2 r1 (λc hc=>(h c).mpr hc) x y z c2).symm
   ·cases e1:p1.at_ x y z with
    |cell a b=>rw[e1] at c1;exact absurd rfl c1
    |none=>
     cases e2:p2.at_ x y z with
     |cell a b=>rw[e2] at c2;exact absurd rfl c2
     |none=>rfl
 ·intro h c
  obtain⟨q,v⟩:=c
  rw[r1.mem,r2.mem]
  constructor
  ·rintro⟨s,h1,h2,h3,h4⟩
   exact⟨s,h1,h2,by rw[<-h];exact h3,by rw[<-h];exact h4⟩
  ·rintro⟨s,h1,h2,h3,h4⟩
   exact⟨s,h1,h2,by rw[h];exact h3,by rw[h];exact h4⟩
theorem Up{t1 t2:TP}{p1 p2:Br.Part}(r1:Ro t1 p1)(r2:Ro t2 p2)(g1:jY p1)(g2:jY p2)(hh:p1.high=p2.high):Xj t1.cs t2.cs=true↔fA p1=fA p2:=by
 rw[Yy r1.nd r2.nd,aDo r1 r2]
 constructor
 ·intro h
  have wd:p1.wide=p2.wide:=by
   obtain⟨y1,z1,c1⟩:=g1.x1
   obtain⟨y2,z2,c2⟩:=g2.x1
   rw[h] at c1
   rw[<-h] at c2
   have a1:=(pO c1).1
   have a2:=(pO c2).1
   have w1:=r1.sh.w
   have w2:=r2.sh.w
   omega
  have dp:p1.deep=p2.deep:=by
   obtain⟨y1,z1,c1⟩:=g1.y1
   obtain⟨y2,z2,c2⟩:=g2.y1
   rw[h] at c1
   rw[<-h] at c2
   have a1:=(pO c1).2.1
   have a2:=(pO c2).2.1
   have w1:=r1.sh.d
   have w2:=r2.sh.d
   omega
  have:=xG r1.sh r2.sh wd dp hh h
  simp only[fA,Prod.mk.injEq]
  exact⟨wd,dp,hh,this⟩
 ·intro h x y z
  exact aAz h x y z
theorem vC(p:Br.Part):∀n,(p.turned n).high=p.high
 |0=>rfl
 |n+1=>vC p n
theorem Hs(ok:dC pr)(tg:(bQ pr).tight=true)(n:Nat):Xj (eW (iY pr) n).cs (iY pr).cs=true↔fA ((bQ pr).turned n)=fA (bQ pr):=by
 have r0:=Fl ok
 have g0:=He r0.sh tg
 exact Up (oX r0 n) r0 (g0.turned n) g0 (vC _ n)
theorem Jp(a:Nat->α)(st:∀i j,a i=a j->a (i+1)=a (j+1))(h4:a 4=a 0)(hm:(m=1/\a 1=a 0)\/(m=2/\a 1≠a 0/\a 2=a 0)\/(m=4/\a 1≠a 0/\a 2≠a 0)):∀i j,i<4->j<4->(a i=a j↔i % m=j % m):=by
 have n:∀i,i<4->i=0\/i=1\/i=2\/i=3:=by omega
 rcases hm with ⟨rfl,h1⟩|⟨rfl,h1,h2⟩|⟨rfl,h1,h2⟩
 ·have e2:a 2=a 0:=(st 1 0 h1).trans h1
  have e3:a 3=a 0:=(st 2 0 e2).trans h1
  intro i j hi hj
  refine⟨λ_=>by rw[Nat.mod_one,Nat.mod_one],λ_=>?_⟩
  rcases n i hi with rfl|rfl|rfl|rfl<;>rcases n j hj with rfl|rfl|rfl|rfl<;>simp only[h1,e2,e3]
 ·have e3:a 3=a 1:=st 2 0 h2
  intro i j hi hj
  rcases n i hi with rfl|rfl|rfl|rfl<;>rcases n j hj with rfl|rfl|rfl|rfl<;>simp[h1,h2,e3,au h1]
 ·have e3:a 3≠a 0:=λz=>h1 ((st 3 0 z).symm.trans h4)
  have u7:a 1≠a 2:=λz=>e3 ((st 2 3 (st 1 2 z)).trans h4)
  have NV:a 1≠a 3:=λz=>h2 ((st 1 3 z).trans h4)
  have NW:a 2≠a 3:=λz=>e3 ((st 2 3 z).trans h4)
  intro i j hi hj
  rcases n i hi with rfl|rfl|rfl|rfl<;>rcases n j hj with rfl|rfl|rfl|rfl<;>simp[h1,h2,e3,u7,NV,NW,au h1,au h2,au e3,au u7,au NV,au NW]
end Br1
namespace Br1
open PySem PySem.Spec PyProof.Rows L2
theorem aEv{f:Nat->Bool}{r:Nat}(hm:m=1\/m=2\/m=4)(hr:r<4)(h:∀i,i<4->(f i=true↔i % m=r % m)):(List.range 4).find? f=some (r % m):=by
 have n:r=0\/r=1\/r=2\/r=3:=by omega
 have fb:∀i,i<4->f i=decide (i % m=r % m):=λi hi=>by
  rw[ge,b7]
  exact h i hi
 have f0:=fb 0 (by decide)
 have f1:=fb 1 (by decide)
 have f2:=fb 2 (by decide)
 have f3:=fb 3 (by decide)
 show List.find? f [0,1,2,3]=_
 rw[jn,jn,jn,jn,f0,f1,f2,f3]
 rcases hm with rfl|rfl|rfl<;>rcases n with rfl|rfl|rfl|rfl<;>rfl
theorem Ub(ok:dC pr)(tg:(bQ pr).tight=true){r:Nat}(hr:r<4):(List.range 4).find? (λ(i:Nat)=>((bQ pr).turned i).same ((bQ pr).turned r))=some (r % wY (iY pr)):=by
 have h1:=Hs ok tg 1
 have h2:=Hs ok tg 2
 have sh:=(Fl ok).sh
 have lt:∀{m:Nat},((m=1/\fA ((bQ pr).turned 1)=fA ((bQ pr).turned 0))\/(m=2/\fA ((bQ pr).turned 1)≠fA ((bQ pr).turned 0)/\fA ((bQ pr).turned 2)=fA ((bQ pr).turned 0))\/(m=4/\fA ((bQ pr).turned 1)≠fA ((bQ pr).turned 0)/\fA ((bQ pr).turned 2)≠fA ((bQ pr).turned 0)))->∀i j,i<4->j<4->(fA ((bQ pr).turned i)=fA ((bQ pr).turned j)↔i % m=j % m):=λhm=>
  Jp (λn=>fA ((bQ pr).turned n)) (λi j e=>Qj e) (aE1 sh) hm
 have fin:∀{m:Nat},(m=1\/m=2\/m=4)->(∀i j,i<4->j<4->(fA ((bQ pr).turned i)=fA ((bQ pr).turned j)↔i % m=j % m))->(List.range 4).find? (λ(i:Nat)=>((bQ pr).turned i).same ((bQ pr).turned r))=some (r % m):=λhm h=>aEv hm hr λi hi=>by rw[Ph];exact h i r hi hr
 unfold wY alk
 by_cases e1:Xj (eW (iY pr) 1).cs (iY pr).cs=true
 ·rw[af e1]
  exact fin (.inl rfl) (lt (.inl ⟨rfl,h1.mp e1⟩))
 ·rw[ae e1]
  by_cases e2:Xj (eW (iY pr) 2).cs (iY pr).cs=true
  ·rw[af e2]
   exact fin (.inr (.inl rfl)) (lt (.inr (.inl ⟨rfl,λz=>e1 (h1.mpr z),h2.mp e2⟩)))
  ·rw[ae e2]
   exact fin (.inr (.inr rfl)) (lt (.inr (.inr ⟨rfl,λz=>e1 (h1.mpr z),λz=>e2 (h2.mpr z)⟩)))
theorem Ec(ok:∀pr∈U,dC pr)(tg:∀pr∈U,(bQ pr).tight=true){y:List Int}(h:zT U y):Br.Line.plainly (U.map bQ) (eI (jR y))=eI (jR (Mo U y)):=by
 obtain⟨hl,hn,hp,hr,_⟩:=h
 obtain⟨a,b,c,d,e,f,rfl⟩:=jV hl
 have hp:a.toNat<U.length:=hp
 have hr:f<4:=hr
 have hf:0<=f:=hn f (by simp)
 have pm:=ui hp
 have eg:(U.map bQ).getD a.toNat Br.nothing=bQ U[a.toNat]:=by
  rw[cx,bg,ax hp]
  rfl
 have er:Bt U a.toNat=wY (iY U[a.toNat]):=by
  unfold Bt
  rw[ax hp]
 have fd:=Ub (ok _ pm) (tg _ pm) (r:=f.toNat) (by omega)
 rw[<-er] at fd
 unfold Br.Line.plainly Br.Line.of
 show ({eI (jR [a,b,c,d,e,f]) with r:=((List.range 4).find? λ(r:Nat)=>(((U.map bQ).getD a.toNat Br.nothing).turned r).same (((U.map bQ).getD a.toNat Br.nothing).turned f.toNat)).getD _}:Br.Line)=_
 rw[eg,fd]
 show (⟨a.toNat,b.toNat,c.toNat,d.toNat,e.toNat,f.toNat % Bt U a.toNat⟩:Br.Line)=⟨a.toNat,b.toNat,c.toNat,d.toNat,e.toNat,(f % (Bt U a.toNat:Int)).toNat⟩
 have:(f % (Bt U a.toNat:Int)).toNat=f.toNat % Bt U a.toNat:=by
  obtain⟨g,rfl⟩:=Int.eq_ofNat_of_zero_le hf
  rw[<-P5,fc,fc]
 rw[this]
theorem Mw:∀{l m:List Nat},l.length=m.length->Sg (l.map λ(n:Nat)=>(n:Int)) (m.map λ(n:Nat)=>(n:Int))=Br.lesser l m
 |[],[],_=>rfl
 |[],b::y,h=>by cases h
 |a::x,[],h=>by cases h
 |a::x,b::y,h=>by
  have ih:=Mw (l:=x) (m:=y) (by simpa using h)
  unfold Sg at ih ⊢
  rw[bn,bn]
  show (decide ((a:Int)<(b:Int))||(!decide ((b:Int)<(a:Int)) && lexLt itemOrd (kIn (x.map _)) (kIn (y.map _))))=(decide (a<b)||(a==b && Br.lesser x y))
  rw[ih]
  by_cases h1:a<b
  ·rw[decide_eq_true h1,decide_eq_true (show (a:Int)<(b:Int) by omega)]
   rfl
  ·rw[jk h1,jk (show ¬(a:Int)<(b:Int) by omega)]
   by_cases h2:a=b
   ·rw[jk (show ¬(b:Int)<(a:Int) by omega),cp.mpr h2]
    rfl
   ·rw[decide_eq_true (show (b:Int)<(a:Int) by omega),pb.mpr h2]
    rfl
structure Zv(y:List Int):Prop where
 l:y.length=6
 n:∀k∈y,0<=k
theorem vX{y:List Int}(h:Zv y):eV y=(Br.Line.key (eI (jR y))).map λ(n:Nat)=>(n:Int):=by
 obtain⟨hl,hn⟩:=h
 obtain⟨a,b,c,d,e,f,rfl⟩:=jV hl
 simp only[ao,dh,io,uj,uk] at hn
 show [e,d,c,a,b,f]=[((e.toNat:Nat):Int),((d.toNat:Nat):Int),((c.toNat:Nat):Int),((a.toNat:Nat):Int),((b.toNat:Nat):Int),((f.toNat:Nat):Int)]
 rw[oq hn.1,oq hn.2.1,oq hn.2.2.1,oq hn.2.2.2.1,oq hn.2.2.2.2.1,oq hn.2.2.2.2.2]
theorem aDu{y z:List Int}(hy:Zv y)(hz:Zv z):Sg (eV y) (eV z)=Br.lesser (Br.Line.key (eI (jR y))) (Br.Line.key (eI (jR z))):=by
 rw[vX hy,vX hz]
 exact Mw rfl
abbrev Sh(a b:List Int):Prop:=Sg (eV b) (eV a)=false
theorem Vc{a b:List Int}(ha:a.length=6)(hb:b.length=6)(h1:Sh a b)(h2:Sh b a):a=b:=by
 have e:=lex_total (O:=itemOrd) (kIn (eV a)) (kIn (eV b)) h2 h1
 have e:eV a=eV b:=by
  have:=congrArg unK e
  rwa [vM,vM] at this
 obtain⟨a0,a1,a2,a3,a4,a5,rfl⟩:=jV ha
 obtain⟨b0,b1,b2,b3,b4,b5,rfl⟩:=jV hb
 have e:[a4,a3,a2,a0,a1,a5]=[b4,b3,b2,b0,b1,b5]:=e
 simp only[List.cons.injEq,E8] at e ⊢
 omega
theorem Pp{a b c:List Int}(h1:Sh a b)(h2:Sh b c):Sh a c:=by
 unfold Sh at *
 cases e:Sg (eV c) (eV a) with
 |false=>rfl
 |true=>
  rcases lex_negTrans (O:=itemOrd) (kIn (eV c)) (kIn (eV b)) (kIn (eV a)) e with z|z
  ·have h2:lexLt itemOrd (kIn (eV c)) (kIn (eV b))=false:=h2
   rw[h2] at z;cases z
  ·have h1:lexLt itemOrd (kIn (eV b)) (kIn (eV a))=false:=h1
   rw[h1] at z;cases z
theorem Py{a b:List Int}(h:Sg (eV a) (eV b)=true):Sh a b:=by
 cases e:Sg (eV b) (eV a) with
 |false=>exact e
 |true=>
  have:=lex_trans (O:=itemOrd) (kIn (eV a)) (kIn (eV b)) (kIn (eV a)) h e
  rw[lex_irrefl] at this
  cases this
def Fy(l:List Int):List (List Int)->List (List Int)
 |[]=>[l]
 |m::r=>if Sg (eV m) (eV l)=true then m::Fy l r else l::m::r
theorem xX(l:List Int):∀zs,(Fy l zs).Perm (l::zs)
 |[]=>.refl _
 |m::r=>by
  rw[Fy]
  split
  ·exact((xX l r).cons m).trans (List.Perm.swap l m r)
  ·exact .refl _
theorem yL(l:List Int):∀zs,zs.Pairwise Sh->(Fy l zs).Pairwise Sh
 |[],_=>yo.mpr ⟨(λx hx=>absurd hx dh),List.Pairwise.nil⟩
 |m::r,h=>by
  obtain⟨h1,h2⟩:=yo.mp h
  rw[Fy]
  split
  ·rename_i e
   refine yo.mpr ⟨λx hx=>?_,yL l r h2⟩
   rcases ao.mp ((xX l r).mem_iff.mp hx) with rfl|hx
   ·exact Py e
   ·exact h1 x hx
  ·rename_i e
   have e:Sh l m:=by
    cases z:Sg (eV m) (eV l) with
    |false=>exact z
    |true=>exact absurd z e
   refine yo.mpr ⟨λx hx=>?_,h⟩
   rcases ao.mp hx with rfl|hx
   ·exact e
   ·exact Pp e (h1 x hx)
def Wk(l:List (List Int)):List (List Int):=l.foldr Fy []
theorem nE:∀l,(Wk l).Perm l
 |[]=>.refl _
 |a::r=>(xX a (Wk r)).trans ((nE r).cons a)
theorem xD:∀l,(Wk l).Pairwise Sh
 |[]=>.nil
 |a::r=>yL a _ (xD r)
def xM(U:List aL)(ys:List (List Int)):List (List Int):=Wk ((fZ ys).map (Mo U))
theorem Gc{zs:List (List Int)}(h6:∀y∈fZ ys,y.length=6)(h:aBi U ys zs):zs=xM U ys:=by
 have l6:∀x∈(fZ ys).map (Mo U),x.length=6:=λx hx=>by
  obtain⟨y,hy,rfl⟩:=a8.mp hx
  unfold Mo
  rw[c8,gf,h6 y hy]
  rfl
 refine List.Perm.eq_of_pairwise (le:=Sh) (λa b ha hb h1 h2=>Vc (l6 a (h.1.mem_iff.mp ha)) (l6 b ((nE _).mem_iff.mp hb)) h1 h2) h.2 (xD _) (h.1.trans (nE _).symm)
theorem Bk:∀{l:List (List Int)},(∀y∈l,Zv y)->(l.map λy=>eI (jR y)).foldr Br.putLine []=(Wk l).map λy=>eI (jR y)
 |[],_=>rfl
 |a::r,h=>by
  have ih:=Bk (l:=r) λy hy=>h y (az _ hy)
  have ha:=h a bf
  have pl:∀{zs:List (List Int)},(∀y∈zs,Zv y)->Br.putLine (eI (jR a)) (zs.map λy=>eI (jR y))=(Fy a zs).map λy=>eI (jR y):=λ{zs} hz=>by
   induction zs with
   |nil=>rfl
   |cons m r ih2=>
    rw[bn,Br.putLine,Fy,<-aDu (hz m bf) ha]
    split
    ·rw[bn,ih2 λy hy=>hz y (az _ hy)]
    ·rfl
  rw[bn,List.foldr_cons,ih]
  exact pl λy hy=>h y (az _ ((nE r).mem_iff.mp hy))
theorem aBd{y:List Int}(h:zT U y):Zv (Mo U y)/\(iN (Mo U y) 0).toNat<U.length/\∀k∈Mo U y,k∈y\/(0<=k/\k<4):=by
 obtain⟨hl,hn,hp,hr,_⟩:=h
 obtain⟨a,b,c,d,e,f,rfl⟩:=jV hl
 have hr:f<4:=hr
 have rp:=Ma U a.toNat
 have f0:0<=f % (Bt U a.toNat:Int):=Int.emod_nonneg _ (by omega)
 have hf:0<=f:=hn f (by simp)
 have f1:f % (Bt U a.toNat:Int)<=f:=by
  have e1:f=((f.toNat:Nat):Int):=(oq hf).symm
  rw[e1,<-P5]
  exact Int.ofNat_le.mpr (Nat.mod_le _ _)
 have el:Mo U [a,b,c,d,e,f]=[a,b,c,d,e,f % (Bt U a.toNat:Int)]:=rfl
 rw[el]
 simp only[ao,dh,io,uj,uk] at hn
 refine⟨⟨rfl,?_⟩,hp,?_⟩
 ·simp only[ao,dh,io,uj,uk]
  exact⟨hn.1,hn.2.1,hn.2.2.1,hn.2.2.2.1,hn.2.2.2.2.1,f0⟩
 ·simp only[ao,dh,io,uj,uk]
  refine⟨by simp,by simp,by simp,by simp,by simp,.inr ⟨f0,by omega⟩⟩
theorem kQ(ok:∀pr∈U,dC pr)(tg:∀pr∈U,(bQ pr).tight=true){d:Br.Build}(h:∀y∈ys,zT U y)(hd:d.lines=ys.map λy=>eI (jR y)):
  (d.plain (U.map bQ)).lines=(xM U ys).map λy=>eI (jR y):=by
 obtain⟨h1,h2⟩:=tV ok tg h hd
 unfold Br.Build.plain
 show ((d.home (U.map bQ)).lines.map (Br.Line.plainly (U.map bQ))).foldr Br.putLine []=_
 rw[h2,de]
 have e:(fZ ys).map (Br.Line.plainly (U.map bQ)∘λy=>eI (jR y))=((fZ ys).map (Mo U)).map λy=>eI (jR y):=by
  rw[de]
  exact uh λy hy=>Ec ok tg (h1 y hy)
 rw[e]
 exact Bk λx hx=>by
  obtain⟨y,hy,rfl⟩:=a8.mp hx
  exact(aBd (h1 y hy)).1
def aGz:R2:=λx y H Q=>∃(a b:Addr) (ys zs:List (List Int)),x=.ref a/\y=.ref b/\nN H a ys/\nN H b zs/\Q (.bl (decide (ys=zs))) H
theorem aDj(hu:X.A.units+1<cLine):uI X (compareOp .Eq) aGz:=by
 intro aa s σ H x y v u Q I rx ry h
 obtain⟨a,b,ys,zs,rfl,rfl,⟨ts,ha,pt⟩,⟨us,hb,pu⟩,q⟩:=h
 cases (show v=Value.ref a from rx)
 cases (show u=Value.ref b from ry)
 obtain⟨its,r1,NX,_⟩:=I.list (cP.of (K:=X.K) ha)
 obtain⟨jts,r2,NY,_⟩:=I.list (cP.of (K:=X.K) hb)
 obtain rfl:=pG r1
 obtain rfl:=pG r2
 have l1:=Paired.length pt
 have l2:=Paired.length pu
 have NZ:X.A.units<cLine:=AM hu
 by_cases hl:ts.length=us.length
 ·refine SeqAt.eq_listAt (e:=λj=>decide (ys[j]?=zs[j]?)) NX.isList NY.isList (by rw[ca,ca,ai,ai,hl]) NZ (λj h1 h2=>?_) ⟨.bl _,H,I,rfl,?_⟩
  ·rw[ca,ai] at h1 h2
   obtain⟨y,ey⟩:∃y,ys[j]?=some y:=⟨_,ax (by omega)⟩
   obtain⟨z,ez⟩:∃z,zs[j]?=some z:=⟨_,ax (by omega)⟩
   obtain⟨t,et,ht,_⟩:=bT pt ey
   obtain⟨w',ew,hw,_⟩:=bT pu ez
   obtain⟨i1,v1,p1,_⟩:=I.tuple (cG.of (K:=X.K) ht)
   obtain⟨i2,v2,p2,_⟩:=I.tuple (cG.of (K:=X.K) hw)
   have g1:(ts.map Value.ref).toArray[j]'(by simpa using h1)=Value.ref t:=by
    obtain⟨q1,q2⟩:=bp.mp et
    simp[q2]
   have g2:(us.map Value.ref).toArray[j]'(by simpa using h2)=Value.ref w':=by
    obtain⟨q1,q2⟩:=bp.mp ew
    simp[q2]
   rw[g1,g2,ey,ez]
   have e:=HT.Az (A:=X.A.in1) p1 p2 (by simpa using eK v1) (by simpa using eK v2) hu
   have:decide (some y=some z)=decide (y=z):=by
    rw[JX]
    exact⟨Option.some.inj,λz=>by rw[z]⟩
   rw[this]
   exact e
  ·have e:((List.range (ts.map Value.ref).toArray.size).all λj=>decide (ys[j]?=zs[j]?))=decide (ys=zs):=by
    rw[ge,jw,b7,ca,ai]
    constructor
    ·intro hh
     refine CZ λi=>?_
     by_cases hi:i<ts.length
     ·exact dw (hh i (vm.mpr hi))
     ·rw[jv (by omega),jv (by omega)]
    ·rintro rfl j _
     exact decide_eq_true rfl
   rw[e]
   exact q
 ·have ne:ys≠zs:=λz=>hl (by rw[l1,l2,z])
  rw[jk ne] at q
  exact SeqAt.eq_list_lengthsAt NX.isList NY.isList (by rw[ca,ca,ai,ai];simpa using hl) NZ ⟨.bl _,H,I,rfl,q⟩
def Pj(U:List aL)(ys zs:List (List Int))(n:Nat):Bool:=decide (xM U (fZ (pY U n ys))=xM U zs)
def Qk(U:List aL)(ys zs:List (List Int)):Nat:=((List.range 4).find? (Pj U ys zs)).getD 4
theorem Ur{f:Nat->Bool}:∀{i:Nat},(∀j,j<i->f j=false)->f i=true->∀n,i<n->(List.range n).find? f=some i:=by
 intro i h hi n hn
 rw[List.find?_range_eq_some]
 exact⟨hi,vm.mpr hn,λj hj=>by rw[h j hj];rfl⟩
variable{K:Frag}
def sY(K:Frag)(CP:Addr):Sp:=λvs H Q _=>∃(pa la lb:Addr)(bs:List Addr)(U:List aL) (ys zs:List (List Int)),vs=[.ref pa,.ref la,.ref lb]/\H pa=some (.lst (bs.map V.ref))/\dF CP H bs U/\(∀pr∈U,dC pr)/\(∀pr∈U,(bQ pr).tight=true)/\nN H la ys/\ys.length<=256/\(∀y∈ys,zT U y)/\nN H lb zs/\zs.length<=256/\(∀y∈zs,zT U y)/\
 ∀H',aK H H'->Q (.int (Qk U ys zs:Nat)) H'
theorem qF:aN ["parts","first","second","wanted","turns"] ["parts","first","second"] (aG nL):=⟨rfl,rfl,rfl,by decide+kernel,rfl,by decide+kernel,by decide+kernel⟩
theorem sB(ok:∀pr∈U,dC pr)(tg:∀pr∈U,(bQ pr).tight=true)(h:∀y∈ys,zT U y):∀y∈fZ ys,zT U y:=(tV ok tg (d:=⟨[],ys.map λy=>eI (jR y)⟩) h rfl).1
theorem Li(F:eZ K "turns_between" "turns_between" nL f fd)(o4:mg "range"=none)(c1:CI mg "MOST_TURNS" 3)(L1:dE P w K mg base "turned_lines" bN 4 ["parts","lines","turns"] (tU K CP))(L2:dE P w K mg base "plain_lines" bN 6 ["parts","lines"] (xI K CP)):bO P w K mg base bN 7 f fd ["parts","first","second"] (sY K CP):=by
 obtain⟨g1,gc,G1,b1,k1,h1⟩:=L1.ex
 obtain⟨g2,ky,G2,b2,k2,h2⟩:=L2.ex
 refine F.ok qF (λvs H Q E h=>?_) (λak A outer s H vs Q E hr h=>?_)
 ·obtain⟨pa,la,lb,bs,U,ys,zs,rfl,_⟩:=h
  rfl
 ·obtain⟨pa,la,lb,bs,U,ys,zs,rfl,ck,cf,ok,tg,hY,yl,yi,hZ,zl,zi,k⟩:=h
  have hu:=iQ hr
  have jb:=hr.mono (j:=4) (by decide)
  refine⟨_,aF (bF (i:=3) qF.nd rfl (Or.inl rfl) (aP G2 hr (by rfl) h2 k2 b2 .nil aX (aA (pv 0) (aA (pv 2) aE))))
   (aF (eG jy rfl (iM rfl o4 (aA (bY eP (eB c1) aI) aE)) (bE (i:=4) qF.nd rfl (Or.inl rfl))
    (aH (eA (fM (aDj hu) (aP G2 hr (by rfl) h2 k2 b2 .nil aX (aA (pv 0) (aA (aP G1 jb (by rfl) h1 k1 b1 .nil aX (aA (pv 0) (aA (pv 1) (aA (pv 4) aE)))) aE))) (pv 3) (xY _ (by decide) (by decide))) (aH (aR (pv 4))) bX)))
   (aH (aR (bY eP (eB c1) aI)))),?_⟩
  have PH:∀{H':Hp},aK H H'->dF CP H' bs U:=λS=>Paired.mapP cf λ_ _ z=>⟨z.1.same S,z.2⟩
  refine⟨_,rfl,_,rfl,pa,lb,bs,U,zs,rfl,ck,cf,ok,hZ,zl,λy hy=>⟨(zi y hy).six0.1,(zi y hy).p⟩,λH1 wl ws S1 hW ff=>?_⟩
  obtain rfl:=Gc (λy hy=>(sB ok tg zi y hy).l) ff
  refine⟨_,_,rfl,rfl,4,rfl,by decide,by decide,?_⟩
  refine oR (n:=4) (λi σ H'=>∃v4,σ=[some (.ref pa),some (.ref la),some (.ref lb),some (.ref wl),v4]/\aK H1 H'/\∀j,j<i->Pj U ys zs j=false) ⟨none,rfl,λ_ _ e=>e,λj hj=>absurd hj (ue _)⟩ ?_ ?_
  ·rintro i σ H2 hi ⟨v4,rfl,S2,nb⟩
   have lm:=S1.trans S2
   have ti:=Jt ok yi i
   have tl:=wB (U:=U) (ys:=ys) i
   refine⟨_,rfl,_,rfl,_,rfl,_,rfl,pa,la,i,bs,U,ys,(by show [V.ref pa,V.ref la,V.int (0+(i:Int))]=_;rw[JV]),by omega,lm _ _ ck,PH lm,ok,hY.same lm,yl,yi,λH3 l3 S3 qx=>?_⟩
   have JA:=lm.trans S3
   have JB:=sB ok tg ti
   refine⟨pa,l3,bs,U,fZ (pY U i ys),rfl,JA _ _ ck,PH JA,ok,qx,by rw[Ly,tl];exact yl,λy hy=>⟨(JB y hy).six0.1,(JB y hy).p⟩,λH4 l4 X3 S4 BU V'=>?_⟩
   obtain rfl:=Gc (λy hy=>(sB ok tg JB y hy).l) V'
   refine⟨_,rfl,l4,wl,_,_,rfl,rfl,BU,hW.same ((S2.trans S3).trans S4),_,rfl,bZ (λe=>?_) (λe=>?_)⟩
   ·have er:Qk U ys zs=i:=by
     unfold Qk
     rw[Ur nb e 4 hi]
     rfl
    have:=k H4 (JA.trans S4)
    rw[er] at this
    exact⟨_,(by show some (some (V.int (0+(i:Int))))=_;rw[JV]),this⟩
   ·refine⟨_,rfl,(S2.trans S3).trans S4,λj hj=>?_⟩
    rcases FP j i with z|z
    ·exact nb j z
    ·obtain rfl:j=i:=by omega
     exact cD e
  ·rintro σ H2 ⟨v4,rfl,S2,nb⟩
   have er:Qk U ys zs=4:=by
    unfold Qk
    have:(List.range 4).find? (Pj U ys zs)=none:=JU.mpr λj hj=>by rw[nb j (vm.mp hj)];exact b6
    rw[this]
    rfl
   have:=k H2 (S1.trans S2)
   rw[er] at this
   exact⟨_,_,rfl,rfl,this⟩
def Jf(a b r:Int):Bool:=decide (a=r)||decide (b=r)
def fL(a b:Int):Int:=(tR.find? (Jf a b)).getD 0
def CT(K:Frag)(mg:Str->Option Value)(x:Str)(l:List Int):Prop:=∃a,mg x=some (.ref a)/\∀H,cG K H a (l.map V.int)
def yG(CG:Addr):Sp:=λvs H Q _=>∃(g1 g2 f8 ij p1 p2:Addr)(a b f1 f2:Int)(B3 B4 B5 B6:V),vs=[.ref g1,.ref g2]/\H g1=some (.ins CG f8 (Ev a f1 p1 B3 B4))/\H g2=some (.ins CG ij (Ev b f2 p2 B5 B6))/\∀H',aK H H'->Q (.int (fL a b)) H'
theorem Bm:aN ["one","other","refusal"] ["one","other"] (aG rP):=⟨rfl,rfl,rfl,by decide+kernel,rfl,by decide+kernel,by decide+kernel⟩
theorem Ms{f:α->Bool}:∀{l:List α}{i:Nat}{x:α},l[i]?=some x->(∀y∈l.take i,f y=false)->f x=true->l.find? f=some x
 |[],_,_,e,_,_=>by cases e
 |a::r,0,x,e,_,h=>by
  cases e
  rw[jn,h]
 |a::r,i+1,x,e,n,h=>by
  rw[jn,n a (by simp)]
  exact Ms (l:=r) e (λy hy=>n y (by rw[List.take_succ_cons];exact az _ hy)) h
theorem Ql(F:eZ K "first_refusal" "first_refusal" rP f fd)(T:GvT K CG)(c1:CT K mg "REFUSALS" tR):bO P w K mg base bN 1 f fd ["one","other"] (yG CG):=by
 obtain⟨ra,WA,sra⟩:=c1
 refine F.ok Bm (λvs H Q E h=>?_) (λak A outer s H vs Q E hr h=>?_)
 ·obtain⟨g1,g2,f8,ij,p1,p2,a,b,f1,f2,B3,B4,B5,B6,rfl,_⟩:=h
  rfl
 ·obtain⟨g1,g2,f8,ij,p1,p2,a,b,f1,f2,B3,B4,B5,B6,rfl,sj,lj,k⟩:=h
  refine⟨_,aF (eG jy rfl (Jk (wD (v:=V.ref ra) (by rfl) WA rfl (by decide))) (bE (i:=2) Bm.nd rfl (Or.inl rfl))
    (aH (eA (fM Pd (pv 2) (dO (aA (aU (pv 0) rfl) (aA (aU (pv 1) rfl) aE))) rfl) (aH (aR (pv 2))) bX)))
   (aH (aR aI)),?_⟩
  refine⟨ra,rfl,⟨_,sra H⟩,?_⟩
  refine Ct (K:=K) (xs:=tR.map V.int) (λi σ H'=>∃v2,σ=[some (.ref g1),some (.ref g2),v2]/\aK H H'/\∀y∈tR.take i,Jf a b y=false) ⟨none,rfl,λ_ _ e=>e,λy hy=>by cases hy⟩ (λi σ H' _ _=>sra H') ?_ ?_
  ·rintro i x σ H1 ex ⟨v2,rfl,S1,nb⟩
   rw[bg] at ex
   obtain⟨r,er,rfl⟩:=o9.mp ex
   refine⟨_,rfl,_,rfl,g1,CG,f8,_,_,rfl,S1 _ _ sj,T.cl,T.n1,rfl,_,rfl,g2,CG,ij,_,_,rfl,S1 _ _ lj,T.cl,T.n1,rfl,(by show 2<=sizeLine;decide),λt ft=>?_⟩
   have S2:=aK.new (o:=.tup [V.int a,V.int b]) ft
   refine⟨t,[V.int a,V.int b],rfl,.inr (cG.of aB),rfl,rfl,_,rfl,?_⟩
   have ei:Kr (V.int r) [V.int a,V.int b]=Jf a b r:=by
    unfold Kr Jf
    rw[re,re,List.any_nil,J2]
    rfl
   rw[show (if false=true then !Kr (V.int r) [V.int a,V.int b] else Kr (V.int r) [V.int a,V.int b])=Jf a b r from ei]
   refine bZ (λe=>?_) (λe=>?_)
   ·have:=k _ (S1.trans S2)
    unfold fL at this
    rw[Ms er nb e] at this
    exact⟨_,rfl,this⟩
   ·refine⟨_,rfl,S1.trans S2,λy hy=>?_⟩
    rw[jg,er] at hy
    rcases je.mp hy with z|z
    ·exact nb y z
    ·have:y=r:=by simpa using z
     rw[this]
     exact cD e
  ·rintro σ H1 ⟨v2,rfl,S1,nb⟩
   have:=k H1 S1
   unfold fL at this
   rw[JU.mpr λy hy=>by rw[nb y (by rw[ai,jo];exact hy)];exact b6] at this
   exact this
def kK(lc lb:List Int):Int:=match cN lc lb with
 |.no n=>n
 |.bad _=> -5
 |.ok U _ ls=>if cE U 0 [] [] ls=[] then 0 else -9
def Ce(lc lb ld:List Int):List Int:=if fL (kK lc lb) (kK lc ld)<0 then [fL (kK lc lb) (kK lc ld)] else match cN lc lb,cN lc ld with
 |.ok U _ ls,.ok _ _ og=>if 3<Qk U (ls.map nB) (og.map nB) then [-3] else [(Qk U (ls.map nB) (og.map nB):Int)]
 |_,_=>[]
abbrev Lb(c b:Br.Bytes):Prop:=BrB.LOOKED<c.length\/BrB.BUILT<b.length
def Jn(c b:Br.Bytes)(n:Int):Prop:=(n= -2/\Lb c b)\/(n= -6/\¬Lb c b/\∃e,Br.readC c=.error e)\/(n= -8/\¬Lb c b/\∃k,Br.readC c=.ok k/\(Br.wrong k).isSome=true)\/(n= -5/\¬Lb c b/\∃k,Br.readC c=.ok k/\¬(Br.wrong k).isSome=true/\∃e,Br.readB k b=.error e)\/
 (n= -9/\¬Lb c b/\∃k,Br.readC c=.ok k/\¬(Br.wrong k).isSome=true/\∃d,Br.readB k b=.ok d/\(d.wrong k).isSome=true)\/(n=0/\¬Lb c b/\∃k,Br.readC c=.ok k/\¬(Br.wrong k).isSome=true/\∃d,Br.readB k b=.ok d/\¬(d.wrong k).isSome=true)
theorem Jn.q1{c b:Br.Bytes}{n:Int}(s:Jn c b n)(h:Lb c b):n= -2:=by
 rcases s with ⟨e,_⟩|⟨_,w,_⟩|⟨_,w,_⟩|⟨_,w,_⟩|⟨_,w,_⟩|⟨_,w,_⟩
 ·exact e
 all_goals exact absurd h w
theorem Jn.q2{c b:Br.Bytes}{n:Int}(s:Jn c b n)(h:¬Lb c b){e:Nat}(ec:Br.readC c=.error e):n= -6:=by
 rcases s with ⟨_,w⟩|⟨e,_⟩|⟨_,_,k,q,_⟩|⟨_,_,k,q,_⟩|⟨_,_,k,q,_⟩|⟨_,_,k,q,_⟩
 ·exact absurd w h
 ·exact e
 all_goals rw[ec] at q;cases q
theorem Jn.q3{c b:Br.Bytes}{n:Int}(s:Jn c b n)(h:¬Lb c b){k:Br.Catalogue}(ec:Br.readC c=.ok k)(hw:(Br.wrong k).isSome=true):n= -8:=by
 rcases s with ⟨_,w⟩|⟨_,_,e,q⟩|⟨e,_⟩|⟨_,_,k',q,r,_⟩|⟨_,_,k',q,r,_⟩|⟨_,_,k',q,r,_⟩
 ·exact absurd w h
 ·rw[ec] at q;cases q
 ·exact e
 all_goals rw[ec] at q;cases q;exact absurd hw r
theorem Jn.q4{c b:Br.Bytes}{n:Int}(s:Jn c b n)(h:¬Lb c b){k:Br.Catalogue}(ec:Br.readC c=.ok k)(hw:¬(Br.wrong k).isSome=true)(eb:Br.readB k b=.error i):n= -5:=by
 rcases s with ⟨_,w⟩|⟨_,_,e,q⟩|⟨_,_,k',q,r⟩|⟨e,_⟩|⟨_,_,k',q,r,d,u,_⟩|⟨_,_,k',q,r,d,u,_⟩
 ·exact absurd w h
 ·rw[ec] at q;cases q
 ·rw[ec] at q;cases q;exact absurd r hw
 ·exact e
 all_goals rw[ec] at q;cases q;rw[eb] at u;cases u
theorem Jn.q5{c b:Br.Bytes}{n:Int}(s:Jn c b n)(h:¬Lb c b){k:Br.Catalogue}(ec:Br.readC c=.ok k)(hw:¬(Br.wrong k).isSome=true){d:Br.Build}(eb:Br.readB k b=.ok d)(hd:(d.wrong k).isSome=true):n= -9:=by
 rcases s with ⟨_,w⟩|⟨_,_,e,q⟩|⟨_,_,k',q,r⟩|⟨_,_,k',q,r,i,u⟩|⟨e,_⟩|⟨_,_,k',q,r,d',u,v⟩
 ·exact absurd w h
 ·rw[ec] at q;cases q
 ·rw[ec] at q;cases q;exact absurd r hw
 ·rw[ec] at q;cases q;rw[eb] at u;cases u
 ·exact e
 ·rw[ec] at q;cases q;rw[eb] at u;cases u;exact absurd hd v
theorem Jn.q6{c b:Br.Bytes}{n:Int}(s:Jn c b n)(h:¬Lb c b){k:Br.Catalogue}(ec:Br.readC c=.ok k)(hw:¬(Br.wrong k).isSome=true){d:Br.Build}(eb:Br.readB k b=.ok d)(hd:¬(d.wrong k).isSome=true):n=0:=by
 rcases s with ⟨_,w⟩|⟨_,_,e,q⟩|⟨_,_,k',q,r⟩|⟨_,_,k',q,r,i,u⟩|⟨_,_,k',q,r,d',u,v⟩|⟨e,_⟩
 ·exact absurd w h
 ·rw[ec] at q;cases q
 ·rw[ec] at q;cases q;exact absurd r hw
 ·rw[ec] at q;cases q;rw[eb] at u;cases u
 ·rw[ec] at q;cases q;rw[eb] at u;cases u;exact absurd v hd
 ·exact e
theorem aEz(x:Int):fL (-2) x= -2:=rfl
theorem aF3(x:Int):fL x (-2)= -2:=by
 unfold fL tR
 rw[jn,show Jf x (-2) (-2)=true by unfold Jf;simp]
 rfl
theorem xQ(hc:Iv lc)(hb:Iv lb):Jn (mJ lc) (mJ lb) (kK lc lb)/\(kK lc lb=0->∃U nm ls d,Br.readC (mJ lc)=.ok (U.map bQ)/\Br.readB (U.map bQ) (mJ lb)=.ok d/\aGp lc lb U nm ls d):=by
 have h:=Gg hc hb
 have h6:= @vN lc lb
 have h7:= @qY lc lb
 have hn:= @Ll lc lb
 unfold kK
 generalize hg:cN lc lb=g at h h6 h7 hn
 cases g with
 |no n=>
  have hn:=hn rfl
  refine⟨?_,λz=>?_⟩
  ·rcases h with ⟨rfl,h⟩|⟨rfl,h,e,h2⟩|⟨rfl,h,k,h2,h3⟩
   ·exact .inl ⟨rfl,h⟩
   ·exact .inr (.inl ⟨rfl,h,e,h2⟩)
   ·exact .inr (.inr (.inl ⟨rfl,h,k,h2,h3⟩))
  ·have z:n=0:=z
   omega
 |bad i=>
  obtain⟨h,k,h2,h3,h4⟩:=h
  exact⟨.inr (.inr (.inr (.inl ⟨rfl,h,k,h2,h3,i,h4⟩))),λz=>by cases z⟩
 |ok U nm ls=>
  obtain⟨h,ok,h2,h3,d,h4,h5,hn⟩:=h
  have fm:=uH ok (λx hx=>(h6 rfl x hx).2) h5
  by_cases e0:cE U 0 [] [] ls=[]
  ·rw[e0] at fm
   have hw:¬(d.wrong (U.map bQ)).isSome=true:=by
    cases e:d.wrong (U.map bQ) with
    |none=>decide
    |some w=>rw[e] at fm;cases fm
   show Jn _ _ (if _=_ then _ else _)/\_
   rw[af e0]
   exact⟨.inr (.inr (.inr (.inr (.inr ⟨rfl,h,_,h2,h3,d,h4,hw⟩)))),λ_=>⟨U,nm,ls,d,h2,h4,hg,ok,λx hx=>h6 rfl x hx,λx hx=>h7 rfl x hx,h5,hn,h3,e0,Kn ok (λx hx=>(h6 rfl x hx).2) e0⟩⟩
  ·have hw:(d.wrong (U.map bQ)).isSome=true:=by
    cases e:d.wrong (U.map bQ) with
    |none=>rw[e] at fm;exact absurd fm e0
    |some w=>rfl
   show Jn _ _ (if _=_ then _ else _)/\((if _=_ then _ else _)=_->_)
   rw[ae e0]
   exact⟨.inr (.inr (.inr (.inr (.inl ⟨rfl,h,_,h2,h3,d,h4,hw⟩)))),λz=>by cases z⟩
theorem Xf{zs:List (List Int)}(hy:∀y∈ys,Zv y)(hz:∀z∈zs,Zv z)(h:(ys.map λy=>eI (jR y))=zs.map λy=>eI (jR y)):ys=zs:=by
 induction ys generalizing zs with
 |nil=>
  cases zs with
  |nil=>rfl
  |cons z r=>cases h
 |cons y r ih=>
  cases zs with
  |nil=>cases h
  |cons z q=>
   rw[bn,bn] at h
   injection h with h1 h2
   rw[ih (λy F5=>hy y (az _ F5)) (λz KL=>hz z (az _ KL)) h2]
   have sy:=hy y bf
   have sz:=hz z bf
   have e:eV y=eV z:=by rw[vX sy,vX sz,h1]
   obtain⟨ly,_⟩:=sy
   obtain⟨lz,_⟩:=sz
   obtain⟨a0,a1,a2,a3,a4,a5,rfl⟩:=jV ly
   obtain⟨b0,b1,b2,b3,b4,b5,rfl⟩:=jV lz
   have e:[a4,a3,a2,a0,a1,a5]=[b4,b3,b2,b0,b1,b5]:=e
   simp only[List.cons.injEq,E8] at e
   obtain⟨rfl,rfl,rfl,rfl,rfl,rfl⟩:=e
   rfl
theorem zA(h:∀y∈fZ ys,zT U y):∀z∈xM U ys,Zv z:=λz hz=>by
 obtain⟨y,hy,e⟩:=a8.mp ((nE _).mem_iff.mp hz)
 rw[<-e]
 exact(aBd (h y hy)).1
theorem Pr(ok:∀pr∈U,dC pr)(tg:∀pr∈U,(bQ pr).tight=true){b d:Br.Build}{zs:List (List Int)}(hy:∀y∈ys,zT U y)(hz:∀y∈zs,zT U y)(hb:b.lines=ys.map λy=>eI (jR y))(hd:d.lines=zs.map λy=>eI (jR y)):
  Br.same (U.map bQ) b d=(List.range 4).find? (Pj U ys zs):=by
 unfold Br.same
 congr 1
 funext r
 have tm:=Ah ok hy hb r
 have hm:=tV ok tg tm.1 tm.2
 have p1:=kQ ok tg (d:=b.turned (U.map bQ) r) (ys:=fZ (pY U r ys)) hm.1 hm.2
 have p2:=kQ ok tg hz hd
 have h1:=sB ok tg hm.1
 have h2:=sB ok tg hz
 rw[p1,p2]
 unfold Pj
 rw[ge,cp,b7]
 exact⟨Xf (zA h1) (zA h2),λz=>by rw[z]⟩
theorem Qg{ld:List Int}(hc:Iv lc)(hb:Iv lb)(hd:Iv ld):PyWqasbx.same lc lb ld=Ce lc lb ld:=by
 show BuildsNeutral.shown (BrB.answer (.same (mJ lc) (mJ lb) (mJ ld)))=_
 obtain⟨s1,o1⟩:=xQ hc hb
 obtain⟨s2,o2⟩:=xQ hc hd
 unfold BrB.answer
 show BuildsNeutral.shown (if BrB.LOOKED<(mJ lc).length\/BrB.BUILT<(mJ lb).length\/BrB.BUILT<(mJ ld).length then _ else _)=_
 by_cases z:kK lc lb=0/\kK lc ld=0
 ·obtain⟨U,nm,ls,x,c1,b1,R1⟩:=o1 z.1
  obtain⟨j5,WB,og,y,c2,b2,R2⟩:=o2 z.2
  obtain rfl:j5=U:=by
   have e1:=(pC R1.eg).1
   have e2:=(pC R2.eg).1
   rw[e1] at e2
   cases e2
   rfl
  rcases s1 with ⟨e,_⟩|⟨e,_⟩|⟨e,_⟩|⟨e,_⟩|⟨e,_⟩|⟨_,n1,k1,q1,q2,x1,q3,q4⟩
  iterate 5 (rw[z.1] at e;exact absurd e (by decide))
  rcases s2 with ⟨e,_⟩|⟨e,_⟩|⟨e,_⟩|⟨e,_⟩|⟨e,_⟩|⟨_,n2,k2,r1,r2,y1,r3,r4⟩
  iterate 5 (rw[z.2] at e;exact absurd e (by decide))
  rw[c1] at q1
  cases q1
  rw[c1] at r1
  cases r1
  rw[b1] at q3
  cases q3
  rw[b2] at r3
  cases r3
  rw[ae (λw=>by rcases w with w|w|w;exact n1 (.inl w);exact n1 (.inr w);exact n2 (.inr w))]
  unfold BrB.ofCatalogue
  rw[c1]
  show BuildsNeutral.shown (if (Br.wrong (j5.map bQ)).isSome=true then _ else _)=_
  rw[ae q2]
  show BuildsNeutral.shown (match Br.readB (j5.map bQ) (mJ lb),Br.readB (j5.map bQ) (mJ ld) with|.ok x,.ok y=>_|_,_=>_)=_
  rw[b1,b2]
  show BuildsNeutral.shown (if (x.wrong (j5.map bQ)).isSome=true\/(y.wrong (j5.map bQ)).isSome=true then _ else _)=_
  rw[ae (λw=>by rcases w with w|w;exact q4 w;exact r4 w)]
  have hx:x.lines=(ls.map nB).map λy=>eI (jR y):=by rw[wO];exact R1.dl
  have hy:y.lines=(og.map nB).map λy=>eI (jR y):=by rw[wO];exact R2.dl
  have i1:=rX R1.ok R1.ln R1.tr R1.fr
  have i2:=rX R2.ok R2.ln R2.tr R2.fr
  have st:=Pr R1.ok (Ad R1.cw) i1 i2 hx hy
  unfold Ce
  rw[z.1,z.2,ae (by decide),R1.eg,R2.eg]
  show BuildsNeutral.shown (match Br.same (j5.map bQ) x y with|some r=>_|none=>_)=(if 3<Qk j5 (ls.map nB) (og.map nB) then [-3] else [(Qk j5 (ls.map nB) (og.map nB):Int)])
  rw[st]
  unfold Qk
  cases e:(List.range 4).find? (Pj j5 (ls.map nB) (og.map nB)) with
  |none=>rfl
  |some r=>
   have:r<4:=vm.mp (J7 e)
   show _=(if 3<r then [-3] else [(r:Int)])
   rw[ae (by omega)]
   rfl
 ·have fin:∀{n:Int}{A:BrB.Answer},fL (kK lc lb) (kK lc ld)=n->n<0->BuildsNeutral.shown A=[n]->BuildsNeutral.shown A=Ce lc lb ld:=λ{n A} e hn h=>by
   unfold Ce
   rw[e,af hn]
   exact h
  by_cases hl:BrB.LOOKED<(mJ lc).length\/BrB.BUILT<(mJ lb).length\/BrB.BUILT<(mJ ld).length
  ·rw[af hl]
   refine fin (n:= -2) ?_ (by decide) rfl
   rcases hl with w|w|w
   ·rw[s1.q1 (.inl w)];exact aEz _
   ·rw[s1.q1 (.inr w)];exact aEz _
   ·rw[s2.q1 (.inr w)];exact aF3 _
  ·rw[ae hl]
   have n1:¬Lb (mJ lc) (mJ lb):=λw=>hl (w.elim .inl λw=>.inr (.inl w))
   have n2:¬Lb (mJ lc) (mJ ld):=λw=>hl (w.elim .inl λw=>.inr (.inr w))
   unfold BrB.ofCatalogue
   cases ec:Br.readC (mJ lc) with
   |error e=>exact fin (n:= -6) (by rw[s1.q2 n1 ec,s2.q2 n2 ec];rfl) (by decide) rfl
   |ok k=>
    show BuildsNeutral.shown (if (Br.wrong k).isSome=true then _ else _)=_
    by_cases hw:(Br.wrong k).isSome=true
    ·rw[af hw]
     exact fin (n:= -8) (by rw[s1.q3 n1 ec hw,s2.q3 n2 ec hw];rfl) (by decide) rfl
    ·rw[ae hw]
     show BuildsNeutral.shown (match Br.readB k (mJ lb),Br.readB k (mJ ld) with|.ok x,.ok y=>_|_,_=>_)=_
     cases eb:Br.readB k (mJ lb) with
     |error e=>
      have a1:=s1.q4 n1 ec hw eb
      cases ed:Br.readB k (mJ ld) with
      |error e2=>exact fin (n:= -5) (by rw[a1,s2.q4 n2 ec hw ed];rfl) (by decide) rfl
      |ok y=>
       by_cases h2:(y.wrong k).isSome=true
       ·exact fin (n:= -5) (by rw[a1,s2.q5 n2 ec hw ed h2];rfl) (by decide) rfl
       ·exact fin (n:= -5) (by rw[a1,s2.q6 n2 ec hw ed h2];rfl) (by decide) rfl
     |ok x=>
      by_cases h1:(x.wrong k).isSome=true
      ·have a1:=s1.q5 n1 ec hw eb h1
       cases ed:Br.readB k (mJ ld) with
       |error e2=>exact fin (n:= -5) (by rw[a1,s2.q4 n2 ec hw ed];rfl) (by decide) rfl
       |ok y=>
        show BuildsNeutral.shown (if (x.wrong k).isSome=true\/(y.wrong k).isSome=true then _ else _)=_
        rw[af (.inl h1)]
        by_cases h2:(y.wrong k).isSome=true
        ·exact fin (n:= -9) (by rw[a1,s2.q5 n2 ec hw ed h2];rfl) (by decide) rfl
        ·exact fin (n:= -9) (by rw[a1,s2.q6 n2 ec hw ed h2];rfl) (by decide) rfl
      ·have a1:=s1.q6 n1 ec hw eb h1
       cases ed:Br.readB k (mJ ld) with
       |error e2=>exact fin (n:= -5) (by rw[a1,s2.q4 n2 ec hw ed];rfl) (by decide) rfl
       |ok y=>
        show BuildsNeutral.shown (if (x.wrong k).isSome=true\/(y.wrong k).isSome=true then _ else _)=_
        by_cases h2:(y.wrong k).isSome=true
        ·rw[af (.inr h2)]
         exact fin (n:= -9) (by rw[a1,s2.q5 n2 ec hw ed h2];rfl) (by decide) rfl
        ·exact absurd ⟨a1,s2.q6 n2 ec hw ed h2⟩ z
theorem Qp(lc lb:List Int):sU (λ_ _ _=>[0]) lc lb=[kK lc lb]:=by
 unfold sU kK
 cases cN lc lb with
 |no n=>rfl
 |bad i=>rfl
 |ok U nm ls=>
  show (if _=_ then _ else _)=[if _=_ then _ else _]
  split
  ·rfl
  ·rfl
theorem Yr{a b:Int}(ha:a<=0)(hb:b<=0)(h1:a=0\/a∈tR)(h2:b=0\/b∈tR)(h:¬fL a b<0):a=0/\b=0:=by
 unfold tR at h1 h2
 simp only[ao,dh,io] at h1 h2
 rcases h1 with rfl|rfl|rfl|rfl|rfl|rfl<;>rcases h2 with rfl|rfl|rfl|rfl|rfl|rfl<;>first|exact⟨rfl,rfl⟩|exact absurd (by decide) h
theorem Ox(hc:Iv lc)(hb:Iv lb):kK lc lb<=0/\(kK lc lb=0\/kK lc lb∈tR):=by
 obtain⟨s,_⟩:=xQ hc hb
 rcases s with ⟨e,_⟩|⟨e,_⟩|⟨e,_⟩|⟨e,_⟩|⟨e,_⟩|⟨e,_⟩<;>rw[e]<;>decide
def Ju(K:Frag):Sp:=λvs H Q _=>∃(c b d:Addr)(lc lb ld:List Int),vs=[.ref c,.ref b,.ref d]/\Iv lc/\Iv lb/\Iv ld/\cP K H c (lc.map V.int)/\cP K H b (lb.map V.int)/\cP K H d (ld.map V.int)/\∀(H':Hp)(l:Addr),H' l=some (.lst ((Ce lc lb ld).map V.int))->Q (.ref l) H'
theorem sG:aN ["c","b","d","one","other","refusal","turns"] ["c","b","d"] (aG rH):=⟨rfl,rfl,rfl,by decide+kernel,rfl,by decide+kernel,by decide+kernel⟩
theorem Yz(F:eZ K "same" "same" rH f fd)(T:GvT K CG)(TB:BdT K CB)(c1:CI mg "MOST_TURNS" 3)(L1:dE P w K mg base "read_right" bN 10 ["c","b"] (xO K CG CP CB CM))(L2:dE P w K mg base "first_refusal" bN 1 ["one","other"] (yG CG))(L3:dE P w K mg base "turns_between" bN 7 ["parts","first","second"] (sY K CP)):bO P w K mg base bN 11 f fd ["c","b","d"] (Ju K):=by
 obtain⟨g1,gc,G1,b1,k1,h1⟩:=L1.ex
 obtain⟨g2,ky,G2,b2,k2,h2⟩:=L2.ex
 obtain⟨g3,BH,G3,b3,k3,h3⟩:=L3.ex
 refine F.ok sG (λvs H Q E h=>?_) (λak A outer s H vs Q E hr h=>?_)
 ·obtain⟨c,b,d,lc,lb,ld,rfl,_⟩:=h
  rfl
 ·obtain⟨c,b,d,lc,lb,ld,rfl,bc,bb,bd,hc,hb,hd,k⟩:=h
  have bj:=hr.mono (j:=1) (by decide)
  have HV:=hr.mono (j:=7) (by decide)
  refine⟨_,aF (bF (i:=3) sG.nd rfl (Or.inl rfl) (aP G1 hr (by rfl) h1 k1 b1 .nil aX (aA (pv 0) (aA (pv 1) aE))))
   (aF (bF (i:=4) sG.nd rfl (Or.inl rfl) (aP G1 hr (by rfl) h1 k1 b1 .nil aX (aA (pv 0) (aA (pv 2) aE))))
   (aF (bF (i:=5) sG.nd rfl (Or.inl rfl) (aP G2 bj (by rfl) h2 k2 b2 .nil aX (aA (pv 3) (aA (pv 4) aE))))
   (aF (eA (dS (Op (pv 5) aI)) (aH (aR (eD (aA (pv 5) aE)))) bX)
   (aF (bF (i:=6) sG.nd rfl (Or.inl rfl) (aP G3 HV (by rfl) h3 k3 b3 .nil aX (aA (aU (pv 3) rfl) (aA (aU (aU (pv 3) rfl) rfl) (aA (aU (aU (pv 4) rfl) rfl) aE)))))
   (aH (aR (Fx (dS (sN (pv 6) (eB c1))) (eD (aA (rV lO aI) aE)) (eD (aA (pv 6) aE))))))))),?_⟩
  refine⟨_,rfl,_,rfl,c,b,lc,lb,rfl,hc,hb,λH1 o1 S1 D9 r1=>?_⟩
  refine⟨_,rfl,_,rfl,c,d,lc,ld,rfl,S1.seq hc,S1.seq hd,λH2 o2 S2 D8 r2=>?_⟩
  obtain⟨f8,N0,B3,B4,EM,WC,sj,N1⟩:=Ob r1
  obtain⟨ij,WD,B5,B6,EN,WE,lj,N2⟩:=Ob r2
  have rn:∀{lb:List Int}{rf:Int},((rf<0/\∀r,sU r lc lb=[rf])\/(rf=0/\∃(U:List aL)(nm:List Int) (ls:List (List Nat)),cN lc lb=.ok U nm ls/\cE U 0 [] [] ls=[]))->kK lc lb=rf:=λ{lb rf} h=>by
   rcases h with ⟨_,h⟩|⟨h0,U,nm,ls,h,hf⟩
   ·have:=h λ_ _ _=>[0]
    rw[Qp] at this
    exact(List.cons.inj this).1
   ·unfold kK
    rw[h,h0]
    show (if _=_ then _ else _)=_
    rw[af hf]
  have n1:kK lc lb=EM:=rn (N1.imp id λ⟨h0,U,nm,ls,q,m,bs,eg,_,hf,_⟩=>⟨h0,U,nm,ls,eg,hf⟩)
  have n2:kK lc ld=EN:=rn (N2.imp id λ⟨h0,U,nm,ls,q,m,bs,eg,_,hf,_⟩=>⟨h0,U,nm,ls,eg,hf⟩)
  have m1:=Ox bc bb
  have m2:=Ox bc bd
  unfold Ce at k
  rw[n1] at m1 k
  rw[n2] at m2 k
  refine⟨_,rfl,_,rfl,o1,o2,f8,ij,N0,WD,EM,EN,WC,WE,B3,B4,B5,B6,rfl,S2 _ _ sj,lj,λH3 S3=>?_⟩
  refine⟨_,rfl,_,_,rfl,rfl,_,rfl,bZ (λe=>?_) (λe=>?_)⟩
  ·have e:fL EM EN<0:=dw e
   rw[af e] at k
   exact⟨_,rfl,by show 1<=sizeLine;decide,λl hl=>k _ l aB⟩
  ·have e:¬fL EM EN<0:=λz=>e (decide_eq_true z)
   rw[ae e] at k
   obtain⟨z1,z2⟩:=Yr m1.1 m2.1 m1.2 m2.2 e
   rcases N1 with ⟨w,_⟩|⟨_,U,nm,ls,q,m,bs,eg,hR,fr,rfl,rfl,ck,cf,BN,NF,su⟩
   ·omega
   rcases N2 with ⟨w,_⟩|⟨_,j5,WB,og,q2,X4,X5,EO,IX,HZ,rfl,rfl,MO,DY,WF,X6,X7⟩
   ·omega
   rw[eg,EO] at k
   obtain rfl:j5=U:=by
    have e1:=(pC eg).1
    have e2:=(pC EO).1
    rw[e1] at e2
    cases e2
    rfl
   obtain⟨ok,cw⟩:=aC1 bc bb eg
   obtain⟨EF,na,la,ts,hq,m7,d7,xq,WG,X8⟩:=BN
   obtain⟨WH,X9,WI,X',f9,YA,WJ,WK,WL,YB⟩:=WF
   have hY:=(aBj d7 xq).same (S2.trans S3)
   have hZ:=(aBj WJ WK).same S3
   have i1:=rX ok (vN eg) (qY eg) fr
   have i2:=rX ok (vN EO) (qY EO) HZ
   have EQ:=S2.trans S3
   have N3:=EQ _ _ sj
   have WM:=S3 _ _ lj
   refine⟨_,rfl,o1,CG,f8,_,_,rfl,N3,T.cl,T.n3,rfl,_,rfl,o1,CG,f8,_,_,rfl,N3,T.cl,T.n4,rfl,q,CB,EF,_,_,rfl,EQ _ _ hq,TB.cl,TB.n2,rfl,_,rfl,o2,CG,ij,_,_,rfl,WM,T.cl,T.n4,rfl,q2,CB,WH,_,_,rfl,S3 _ _ f9,TB.cl,TB.n2,rfl,N0,la,WI,bs,j5,ls.map nB,og.map nB,rfl,EQ _ _ ck,Paired.mapP cf (λ_ _ z=>⟨z.1.same EQ,z.2⟩),ok,Ad cw,hY,by rw[ai];exact WG,i1,hZ,by rw[ai];exact WL,i2,λH4 S4=>?_⟩
   have k:∀(H':Hp)(l:Addr),H' l=some (.lst ((if 3<Qk j5 (ls.map nB) (og.map nB) then [-3] else [(Qk j5 (ls.map nB) (og.map nB):Int)]).map V.int))->Q (.ref l) H':=k
   generalize Qk j5 (ls.map nB) (og.map nB)=n at k
   refine⟨_,rfl,_,_,rfl,rfl,_,rfl,bZ (λe=>?_) (λe=>?_)⟩
   ·have e:(3:Int)<(n:Int):=dw e
    rw[af (by omega)] at k
    exact⟨_,rfl,by show 1<=sizeLine;decide,λl hl=>k _ l aB⟩
   ·have e:¬(3:Int)<(n:Int):=λz=>e (decide_eq_true z)
    rw[ae (by omega)] at k
    exact⟨_,rfl,by show 1<=sizeLine;decide,λl hl=>k _ l aB⟩
theorem Ug{fa:Addr}(X:K.In h)(G:h.Ns mainGlobals mg)(WN:mg "same"=some (.ref fa))(k:∀f∈ftC,f.PP K)(k2:∀f∈ftR,f.PP K)(nl:nsIn K mainGlobals "len"=some none)(nm:nsIn K mainGlobals "min"=some none)(nr:nsIn K mainGlobals "range"=some none)(zy:nsIn K mainGlobals "sorted"=some none)(nse:nsIn K mainGlobals "set"=some none)(i1:Le K "ROOM_WIDTH" 64)(i2:Le K "MOST_TURNS" 3)(kr:(Ft.ints "REFUSALS" tR).PP K)
  (km:gJ K "moved_lines" "moved_lines" oZ) (kh:gJ K "moved_home" "moved_home" jN) (kt:gJ K "turned_line" "turned_line" kJ) (ku:gJ K "turned_lines" "turned_lines" kH) (ka:gJ K "turns_until_alike" "turns_until_alike" wN) (ko:gJ K "plain_order" "plain_order" sO) (kp:gJ K "plain_lines" "plain_lines" lM) (kb:gJ K "turns_between" "turns_between" nL) (kf:gJ K "first_refusal" "first_refusal" rP) (kj:gJ K "same" "same" rH):
  ∃fd:FuncData,(∀(s:Shared)(us:List Value),us.length=(["c","b","d"]:List Str).length->BindsTo s fd ⟨us,[]⟩ ((["c","b","d"]:List Str).zip us))/\∀base:Heap,K.In base->base.Ns mainGlobals mg->bO P w K mg base bN 11 fa fd ["c","b","d"] (Ju K):=by
 obtain⟨f,oc,od,kV,bq,pm,an,ak,ct,df,a,l,c,kq⟩:=kj
 have e:=WN.symm.trans (mg_of X G a)
 cases e
 have F:=sW (st:=rH) l c kq
 refine⟨fnOf "same" "same" (eU rH) (dX rH) (aG rH) .none kV bq pm an ak ct,λs us hu=>(by obtain⟨a,b,c,rfl⟩:=_root_.L2.us3 hu;exact .of_eq rfl),λbase X2 G2=>?_⟩
 have L:=aFy (P:=P) (w:=w) (base:=base) X G k
 have R:=aE0 X G L k2
 have nn:∀{x:Str},nsIn K mainGlobals x=some none->mg x=none:=λz=>mg_none_of X G z
 have CR:CT K mg "REFUSALS" tR:=by
  obtain⟨a,e,o,its,n,q1,q2,q3,q4,q5⟩:=kr
  exact⟨a,mg_of X G e,λH=>.inr ⟨o,its,n,q1,q2,q3,q4,q5⟩⟩
 have M4:dE P w K mg base "moved_lines" bN 1 ["lines","dx","dy","dz"] (zK K):=gJ.fn0 km X G (λf fd F=>Qs F) λ_ _ _ _ _ _ us hl=>(by obtain⟨a,b,c,d,rfl⟩:=_root_.L2.us4 hl;rfl)
 have M5:dE P w K mg base "moved_home" bN 2 ["lines"] (Ew K):=gJ.fn0 kh X G (λf fd F=>Xx F (nn nl) (nn nm) M4) λ_ _ _ _ _ _ us hl=>(by obtain⟨a,rfl⟩:=_root_.L2.tL hl;rfl)
 have M6:dE P w K mg base "turned_line" bN 2 ["parts","put"] (wF K (dQ K "Part")):=gJ.fn0 kt X G (λf fd F=>Vg F (i1.ci X G) R.tsz) λ_ _ _ _ _ _ us hl=>(by obtain⟨a,b,rfl⟩:=_root_.L2.wI hl;rfl)
 have M7:dE P w K mg base "turned_lines" bN 4 ["parts","lines","turns"] (tU K (dQ K "Part")):=gJ.fn0 ku X G (λf fd F=>Lc F (nn nr) M6 M5) λ_ _ _ _ _ _ us hl=>(by obtain⟨a,b,c,rfl⟩:=_root_.L2.us3 hl;rfl)
 have M8:dE P w K mg base "turns_until_alike" bN 5 ["part"] (Dk (dQ K "Part")):=gJ.fn0 ka X G (λf fd F=>Th F L.TP R.tpt) λ_ _ _ _ _ _ us hl=>(by obtain⟨a,rfl⟩:=_root_.L2.tL hl;rfl)
 have M9:dE P w K mg base "plain_order" bN 1 ["put"] (Ti K):=gJ.fn0 ko X G (λf fd F=>aDp F) λ_ _ _ _ _ _ us hl=>(by obtain⟨a,rfl⟩:=_root_.L2.tL hl;rfl)
 have MA:dE P w K mg base "plain_lines" bN 6 ["parts","lines"] (xI K (dQ K "Part")):=gJ.fn0 kp X G (λf fd F=>Rs F (nn zy) (nn nse) M8 M5 M9) λ_ _ _ _ _ _ us hl=>(by obtain⟨a,b,rfl⟩:=_root_.L2.wI hl;rfl)
 have MB:dE P w K mg base "turns_between" bN 7 ["parts","first","second"] (sY K (dQ K "Part")):=gJ.fn0 kb X G (λf fd F=>Li F (nn nr) (i2.ci X G) M7 MA) λ_ _ _ _ _ _ us hl=>(by obtain⟨a,b,c,rfl⟩:=_root_.L2.us3 hl;rfl)
 have MC:dE P w K mg base "first_refusal" bN 1 ["one","other"] (yG (dQ K "Given")):=gJ.fn0 kf X G (λf fd F=>Ql F L.TG CR) λ_ _ _ _ _ _ us hl=>(by obtain⟨a,b,rfl⟩:=_root_.L2.wI hl;rfl)
 exact Yz F L.TG L.TB (i2.ci X G) R.right MC MB
end Br1
namespace Br1
open PySem PySem.W
end Br1
namespace Br1
open PySem PySem.Spec PyProof.Rows L2
def hkC:Hook:=aDf asC ftZ
theorem Jj(h:l.all (PySem.W.Codec.inInt 0 255)=true):Iv l:=λx hx=>PySem.W.Codec.inInt_iff.mp (jw.mp h x hx)
end Br1
open PySem PySem.W PyProof.Rows
set_option maxHeartbeats 0 in
theorem PySem.Challenge.cw_brickrooms_s11_same_holds : PySem.Challenge.rw_brickrooms_s11_same.Holds := by
 refine holds_os (q:=Br1.vwC) (loose:=Br1.Tf) (Xt:=λ_=>true) (XP:=λ_ _=>True) (Yf:=Br1.hkC.obs) (Ya:=Br1.hkC.val) (YP:=Br1.hkC.says) (N:=6528) Br1.aEj Br1.hkC.of Br1.hkC.keeps (λ_ _=>trivial) (λ_ _ _ _ _=>trivial) (by rfl) (by rfl) (by rfl) (λs _=>recFacts_of (s:=s) (by rfl)) os_shapes (by decide+kernel) (by decide+kernel) ⟨rfl,rfl,rfl,rfl,rfl,by decide+kernel⟩ ⟨[.list [],.list [],.list []],by decide+kernel,by decide+kernel⟩ ?_
 refine L2.Lr (r:=PySem.Challenge.rw_brickrooms_s11_same) (k:=11) (CX:=L2.bN) (ps:=["c","b","d"]) (sp:=Br1.Ju) (Good:=λK=>∀f∈Br1.ftZ,f.PP K) (by decide+kernel) rfl rfl ⟨rfl,by decide,by decide⟩ (λw h Y=>Y) ?F ?S (λ_ _ _ _ z=>z)
 case F=>
  intro w K mg fa h g KX G HX
  have k0:∀f∈Br1.ftC,f.PP K:=λf hf=>g f (lq _ hf)
  have g0:=λ(f:Br1.Ft)(hf:f∈_)=>g f (gd _ hf)
  have k1:∀f∈Br1.ftR,f.PP K:=λf hf=>g0 f (lq _ hf)
  have g1:=λ(f:Br1.Ft)(hf:f∈_)=>g0 f (gd _ hf)
  exact Br1.Ug KX G HX k0 k1 (Br1.Ft.nth g1 0 (f:=.no "len") rfl) (Br1.Ft.nth g1 1 (f:=.no "min") rfl) (Br1.Ft.nth g1 2 (f:=.no "range") rfl) (Br1.Ft.nth g1 3 (f:=.no "sorted") rfl) (Br1.Ft.nth g1 4 (f:=.no "set") rfl) (Br1.Ft.nth g1 5 (f:=.int "ROOM_WIDTH" 64) rfl) (Br1.Ft.nth g1 6 (f:=.int "MOST_TURNS" 3) rfl) (Br1.Ft.nth g1 7 (f:=.ints "REFUSALS" Br1.tR) rfl) (Br1.Ft.nth g1 8 (f:=.fn "moved_lines" Br1.oZ) rfl) (Br1.Ft.nth g1 9 (f:=.fn "moved_home" Br1.jN) rfl) (Br1.Ft.nth g1 10 (f:=.fn "turned_line" Br1.kJ) rfl) (Br1.Ft.nth g1 11 (f:=.fn "turned_lines" Br1.kH) rfl) (Br1.Ft.nth g1 12 (f:=.fn "turns_until_alike" Br1.wN) rfl) (Br1.Ft.nth g1 13 (f:=.fn "plain_order" Br1.sO) rfl) (Br1.Ft.nth g1 14 (f:=.fn "plain_lines" Br1.lM) rfl) (Br1.Ft.nth g1 15 (f:=.fn "turns_between" Br1.nL) rfl) (Br1.Ft.nth g1 16 (f:=.fn "first_refusal" Br1.rP) rfl) (Br1.Ft.nth g1 17 (f:=.fn "same" Br1.rH) rfl)
 case S=>
  intro K H xs a hO vb YC hx
  cases hx with
  |cons hc rc=>
   cases rc with
   |cons hb rb=>
    cases rb with
    |cons hd rd=>
     cases rd
     cases hc with
     |lst j3 WO=>
      cases hb with
      |lst lg WP=>
       cases hd with
       |lst l7 BI=>
        have e1:=L2.vT a.1 _ WO
        subst e1
        have e2:=L2.vT a.2.1 _ WP
        subst e2
        have e3:=L2.vT a.2.2.1 _ BI
        subst e3
        have q:((Codec.inLen 0 100000 a.1 && a.1.all (Codec.inInt 0 255)) && ((Codec.inLen 0 17000 a.2.1 && a.2.1.all (Codec.inInt 0 255)) && ((Codec.inLen 0 17000 a.2.2.1 && a.2.2.1.all (Codec.inInt 0 255)) && true)))=true:=vb
        simp only[cn] at q
        have bc:=Br1.Jj q.1.2
        have bb:=Br1.Jj q.2.1.2
        have bd:=Br1.Jj q.2.2.1.2
        refine⟨_,_,_,a.1,a.2.1,a.2.2.1,rfl,bc,bb,bd,j3,lg,l7,λH' p hp=>?_⟩
        have m:=Br1.Qg bc bb bd
        show L2.Dw K H' (.ref p) (.list ((PyWqasbx.same a.1 a.2.1 a.2.2.1).map WData.int))
        rw[m]
        exact .lst (L2.cP.of hp) (L2.Nl _)
end
