import PyProof.Rows.All
import Wide.All
import OpenK.AllK
import Wide.FinOn
import Lean
import PyProof.EqAt
import PyProof.EqKinds
import PyProof.TupleCall
import PyProof.StrLawsTight
import PyProof.FitsReplace
import KE.KSortTup
import PyProof.TupleKey
import PyProof.SetKind
import PyProof.IsRules
import PyProof.Rows.SetFrom
import PyProof.CollectWalk
import PyProof.DictUpdate
import PyProof.AutoListH
import PyProof.SeqI3
import PyProof.EnumStmt
import PyProof.EnumMake
import PyProof.Rows.CallKwBuiltin
import PyProof.NeKinds
import PyProof.StationsW
import PyProof.ExcClass3
import PyProof.PassesOwn
import OpenK.KOwn
import PyProof.RulesAs
import PyProof.RulesDel
import KE.KIsAll
import PyProof.ExcArgsOwn
import PyProof.StrLawsIn
import PyProof.Rows.Range3
import PyProof.Rows.FStr
import KE.KRevIter
import PyProof.DictItems
import PyProof.AttrMissHeap
import PyProof.ListCopy
import KE.KDictOf
import KE.KDictSum
import PyProof.Rows.SortRev
import PyProof.Rows.IntMath
import PyProof.Rows.TupDisplay
import PyProof.InstStoreFacts
import OpenK.KMake
import OpenK.KCls
import OpenK.KMore
import PyProof.ReprStr
import PyProof.ZipIter
import PyProof.Rows.SumAny
import PySem.Challenge.RW_levelbench_k96_whole_desk_of_few
set_option Elab.async false
set_option linter.all false
set_option maxRecDepth 100000
theorem zqa{α:Type}{p:α->Prop}:∀b,b∈([]:List α)->p b:=λ_ h=>absurd h List.not_mem_nil
theorem zqb{α O:Type}{q:List α}{f:α->O}:∀b,b∈q->f b∉([]:List O):=λ_ _=>List.not_mem_nil
theorem zqc{α:Type}{a:α}{M:List α}(h:a∈M):∀b,b∈[a]->b∈M:=λ_ z=>List.mem_singleton.mp z▸h
theorem zqd{α:Type}{a c:α}{M:List α}(h:a∈M)(g:c∈M):∀b,b∈[a,c]->b∈M:=λb z=>(List.mem_cons.mp z).elim (λe=>e▸h)$ zqc g b
theorem sS{p:Prop}(h:p:=by first|exact List.not_mem_nil|exact zqa|exact zqb|exact List.mem_cons_self|exact zqc List.mem_cons_self|exact zqc$ List.mem_cons_of_mem _ List.mem_cons_self|exact zqd List.mem_cons_self$ List.mem_cons_of_mem _ List.mem_cons_self|simp):p:=h
theorem lL{p:Prop}(h:p:=by lia):p:=h
theorem dD{p:Prop}(h:p:=by decide):p:=h
theorem kK{p:Prop}(h:p:=by decide +kernel):p:=h
theorem rR{p:Prop}(h:p:=by rfl):p:=h
theorem rF{a:Sort u}{b:a}:b=b:=rfl
def qAA:=@PySem.wpAny_bind
def qAB:=@List.length_map
def qAC:=@if_neg
def qAD:=@if_pos
def qAE:=@PySem.wpAny_pure
def qAF:=@Nat.le_refl
def qAG:=@List.mem_map
def qAH:=@List.mem_singleton
def qAI:=@List.map_append
def qAJ:=@decide_eq_true
def qAK:=@List.mem_append
def qAL:=@PySem.Heap.get?_push_of_some
def qAM:=@PySem.sizeLine_eq
def qAN:=@List.mem_of_getElem?
def qAO:=@List.mem_cons_self
def qAP:=@decide_eq_false
def qAQ:=@List.mem_cons
def qAR:=@Nat.le_trans
def qAS:=@List.mem_cons_of_mem
def qAT:=@List.size_toArray
def qAU:=@List.getElem?_map
def qAV:=@List.length_append
def qAW:=@PySem.Heap.lt_size
def qAX:=@List.length_take
def qAY:=@List.take_length
def qAZ:=@PySem.PassesOwn.never
def qAa:=@List.getElem?_eq_some_iff
def qAb:=@List.map_map
def qAc:=@List.mem_filter
def qAd:=@List.length_cons
def qAe:=@Nat.ne_of_lt
def qAf:=@congrArg
def qAg:=@PySem.Heap.get?_push_size
def qAh:=@Option.some.inj
def qAi:=@List.map_cons
def qAj:=@List.mem_append_left
def qAk:=@Bool.false_ne_true
def qAl:=@PyProof.Rows.wpS_bind
def qAm:=@Nat.zero_le
def qAn:=@of_decide_eq_true
def qAo:=@Ne.symm
def qAp:=@List.length_singleton
def qAq:=@List.length_filter_le
def qAr:=@List.mem_append_right
def qAs:=@Nat.lt_of_lt_of_le
def qAt:=@List.nodup_nil
def qAu:=@PyProof.Rows.wpS_pure
def qAv:=@Array.getElem?_toList
def qAw:=@Option.map_eq_some_iff
def qAx:=@List.getElem?_eq_getElem
def qAy:=@PySem.Heap.SameBut.update
def qAz:=@List.mem_range
def qA0:=@List.append_assoc
def qA1:=@decide_eq_true_eq
def qA2:=@PySem.Obj.data_mapFields
def qA3:=@PySem.wpAny_mono
def qA4:=@List.append_nil
def qA5:=@List.nodup_cons
def qA6:=@List.nodup_append
def qA7:=@PySem.F.plainAttrs_list
def qA8:=@List.foldl_append
def qA9:=@List.filter_cons
def qBA:=@beq_eq_false_iff_ne
def qBB:=@List.all_eq_true
def qBC:=@List.take_of_length_le
def qBD:=@List.filter_append
def qBE:=@PySem.F.plainAttrs_str
def qBF:=@PySem.wpAny_holding
def qBG:=@List.mem_iff_getElem
def qBH:=@Bool.true_and
def qBI:=@Classical.byContradiction
def qBJ:=@List.length_range
def qBK:=@List.find?_eq_none
def qBL:=@PySem.wpAny_call_entry
def qBM:=@PySem.Heap.size_push
def qBN:=@List.getD_eq_getElem?_getD
def qBO:=@PySem.wpAny_truthy_bool
def qBP:=@PySem.W.kia_one
def qBQ:=@Int.toNat_natCast
def qBR:=@PySem.call_meets
def qBS:=@List.length_nil
def qBT:=@List.lookup_cons
def qBU:=@List.map_congr_left
def qBV:=@Nat.ne_of_gt
def qBW:=@PySem.Heap.get?_update_self
def qBX:=@if_true
def qBY:=@PySem.wpAny_newObj_type
def qBZ:=@PySem.wpAny_askSetting
def qBa:=@List.length_eq_zero_iff
def qBb:=@PySem.wpAny_setField
def qBc:=@PySem.wpAny_field
def qBd:=@PySem.wpAny_setField_rec
def qBe:=@Nat.lt_irrefl
def qBf:=@List.getElem?_append_left
def qBg:=@List.flatten_cons
def qBh:=@List.foldl_cons
def qBi:=@List.find?_cons
def qBj:=@List.filter_congr
def qBk:=@PySem.codeAny_mono
def qBl:=@Nat.le_succ
def qBm:=@List.length_drop
def qBn:=@Bool.and_eq_true
def qBo:=@Nat.lt_of_le_of_lt
def qBp:=@Nat.pow_le_pow_right
def qBq:=@List.getElem?_range
def qBr:=@PySem.F.called_set
def qBs:=@Nat.eq_of_testBit_eq
def qBt:=@PySem.Paired.length
def qBu:=@List.filterMap_cons
def qBv:=@Array.length_toList
def qBw:=@PySem.wpAny_passesOwn
def qBx:=@PySem.typeIs_str
def qBy:=@PySem.wpAny_attempt
def qBz:=@PyProof.Rows.KeyOrd.kle_refl
def qB0:=@List.pairwise_map
def qB1:=@PySem.codeAny_builtin
def qB2:=@Prod.mk.inj
def qB3:=@List.take_succ_cons
def qB4:=@PySem.F.slot_str_join
def qB5:=@PySem.F.type_str_join
def qB6:=@Nat.testBit_or
def qB7:=@Int.eq_ofNat_of_zero_le
def qB8:=@Nat.le_of_lt
def qB9:=@PySem.wpAny_Call_Name_kw
def qCA:=@PySem.mem_of_lookup
def qCB:=@List.getElem?_append_right
def qCC:=@if_false
def qCD:=@List.any_cons
def qCE:=@Nat.lt_succ_of_lt
def qCF:=@Array.toList_append
def qCG:=@PyProof.Rows.wpS_forRange
def qCH:=@Int.emod_nonneg
def qCI:=@Int.emod_lt_of_pos
def qCJ:=@List.mem_of_find?_eq_some
def qCK:=@PySem.wpAny_of_eq
def qCL:=@PySem.wpAny_callSpecial?_slot
def qCM:=@PySem.Obj.isFreed_of_fields
def qCN:=@List.map_eq_nil_iff
def qCO:=@PySem.F.slot_list_append
def qCP:=@PySem.F.type_list_append
def qCQ:=@List.dropLast_concat_getLast
def qCR:=@PySem.wpAny_ite_split
def qCS:=@Bool.and_eq_true_iff
def qCT:=@PySem.wpAny_standAt
def qCU:=@Int.natCast_nonneg
def qCV:=@Bool.eq_iff_iff
def qCW:=@beq_iff_eq
def qCX:=@Nat.lt_succ_self
def qCY:=@PySem.wpAny_call
def qCZ:=@List.getElem?_take_of_lt
def qCa:=@PySem.Heap.get?_update_other
def qCb:=@PySem.Calls.callWith_builtin
def qCc:=@List.replicate_succ
def qCd:=@List.nil_append
def qCe:=@PySem.tupleKind_room_in1
def qCf:=@Bool.or_eq_true
def qCg:=@List.getElem?_drop
def qCh:=@PySem.Str.cps_append
def qCi:=@PyProof.Rows.wpS_reverse
def qCj:=@PySem.wpAny_rule
def qCk:=@Array.toList_extract
def qCl:=@List.getElem?_cons_succ
def qCm:=@List.mem_of_mem_take
def qCn:=@List.find?_some
def qCo:=@List.not_mem_nil
def qCp:=@Nat.not_lt
def qCq:=@PySem.Around.under_plainId
def qCr:=@PySem.Obj.cls_mapFields
def qCs:=@PySem.wpAny_pyIter_slot
def qCt:=@List.drop_of_length_le
def qCu:=@PySem.F.slot_dict_itemiterator_next
def qCv:=@PySem.F.slot_str_split
def qCw:=@PySem.F.type_str_split
def qCx:=@Nat.log2_le_self
def qCy:=@List.mem_reverse
def qCz:=@PySem.wpAny_execs_nil
def qC0:=@Bool.false_and
def qC1:=@PySem.wpAny_pyIter_list
def qC2:=@PyProof.Rows.callWith_type1
def qC3:=@Nat.le_of_eq
def qC4:=@Bool.or_false
def qC5:=@PySem.SeqAt.EqAt.same
def qC6:=@List.length_dropLast
def qC7:=@Option.map_some
def qC8:=@PySem.F.plainAttrs_dict
def qC9:=@List.getElem_mem
def qDA:=@Array.perm_iff_toList_perm
def qDB:=@PyProof.Rows.KeyOrd.kle_trans
def qDC:=@PyProof.Rows.KeyOrd.kle_of_klt
def qDD:=@Array.getElem?_eq_some_iff
def qDE:=@Nat.pow_succ
def qDF:=@Nat.le_add_right
def qDG:=@List.getElem?_eq_none
def qDH:=@Nat.not_lt_zero
def qDI:=@PySem.plainId_quiet
def qDJ:=@PySem.codeAny_call_builtin
def qDK:=@PySem.wpAny_fieldsOf
def qDL:=@PySem.wpAny_isInstance
def qDM:=@PySem.wpAny_newTuple
def qDN:=@PySem.F.slot_enumerate_next
def qDO:=@PySem.wpAny_getItem_str_slice
def qDP:=@PySem.post_val_or_str
def qDQ:=@PySem.Txt.slice_le
def qDR:=@PySem.F.slot_dict_itemiterator_iter
def qDS:=@PySem.F.slot_dict_items
def qDT:=@List.all_map
def qDU:=@List.filter_sublist
def qDV:=@PySem.F.slot_list_extend
def qDW:=@PySem.F.type_list_extend
def qDX:=@Int.zero_add
def qDY:=@List.any_eq_true
def qDZ:=@PySem.wpAny_typeNameOfWhole_itemiter
def qDa:=@PySem.wpAny_typeNameOf_itemiter
def qDb:=@List.take_left'
def qDc:=@List.mem_iff_getElem?
def qDd:=@Nat.zero_testBit
def qDe:=@Bool.coe_iff_coe
def qDf:=@Int.fdiv_eq_ediv_of_nonneg
def qDg:=@Array.mem_toList_iff
def qDh:=@PySem.W.cellsFrom_some
def qDi:=@Option.isSome_iff_exists
def qDj:=@PySem.wpAny_Call_method0_late
def qDk:=@PySem.F.slot_dict_get
def qDl:=@PySem.StrLaws.glued_eq_join
def qDm:=@List.pairwise_iff_getElem
def qDn:=@PyProof.Rows.F.plain_set_update_loop
def qDo:=@PySem.builtinLookup_eq_fast
def qDp:=@List.getElem?_eq_none_iff
def qDq:=@Option.map_eq_none_iff
def qDr:=@List.getElem?_toArray
def qDs:=@PySem.wpAny_isOneOf_itemiter
def qDt:=@List.dropLast_sublist
def qDu:=@List.filter_eq_nil_iff
local macro_rules|`(tactic|wp_step)=>`(tactic|first|with_reducible (first|refine PySem.wpAny_pure ?_|refine PySem.wpAny_bind ?_|refine PySem.wpAny_holding ?_|refine PySem.wpAny_standAt ?_|refine PySem.wpAny_point ?_|refine PySem.wpAny_rule ?_|refine PySem.wpAny_letGo ?_|refine PySem.wpAny_mkInt' ?_|refine PySem.wpAny_fresh' ?_|refine PySem.wpAny_alloc' ?_|refine PySem.wpAny_attempt ?_|refine PySem.wpAny_of_eq (by assumption) ?_|refine PySem.wpAny_typeOf (by assumption) ?_|refine PySem.wpAny_specialOf_val (by assumption) (by assumption) ?_|refine PySem.wpAny_specialOf (by assumption) (by assumption) ?_|refine PySem.wpAny_isInstance (by assumption) (by assumption) ?_|refine PySem.wpAny_call ?_|refine PySem.wpAny_runValue ?_|refine PySem.wpAny_run ?_)|(with_reducible apply PySem.wpAny_load';focus(heap_get;done))|(with_reducible apply PySem.wpAny_update';focus(heap_get;done))|(with_reducible apply PySem.wpAny_loadPart';focus(heap_get;done))|(with_reducible apply PySem.wpAny_ite_false;focus(rfl;done))|(with_reducible apply PySem.wpAny_ite_true;focus(rfl;done))|(with_reducible apply PySem.wpAny_ite_false;focus(simp[*];done))|(with_reducible apply PySem.wpAny_ite_true;focus(simp[*];done))|wp_delta)
namespace L2
open PySem PySem.Spec PyProof.Rows
variable{us:List Value}{x:Str}{u:Value}{a b C:Addr}{P:Program}{w:World}{h base:Heap}{t' i:Nat}{e tg:Expr}{A:Around}{s:Shared}{pins:List (Addr×Obj)}{op:CmpOp}{K:PySem.W.Frag}
abbrev Key:=Sum Int Str
def gX:Key->Value->Bool
 | .inl k,v=>Value.isInt k v
 | .inr x,v=>Value.isStrOf x v
def zB(w:World):Key->Int
 | .inl k=>hashInt k
 | .inr x=>hashStr w x
theorem zBj:∀{k:Key}{v:Value},gX k v=true->(∃i t,k=Sum.inl i/\v=Value.int i t)\/(∃x t,k=Sum.inr x/\v=Value.str x t)
 | .inl i,v,h=>by
  obtain⟨t,e⟩:=Value.isInt_shape (k:=i) (v:=v) h;exact .inl ⟨i,t,rF,e⟩
 | .inr x,v,h=>by
  obtain⟨t,e⟩:=Value.isStrOf_shape (x:=x) (v:=v) h;exact .inr ⟨x,t,rF,e⟩
theorem qG(i:Int)(t:Tok):gX (.inl i) (.int i t)=true:=by simp[gX,Value.isInt]
theorem qQ(x:Str)(t:Tok):gX (.inr x) (.str x t)=true:=by simp[gX,Value.isStrOf]
theorem xO(a b:Int):decide ((Sum.inl a:Key)=Sum.inl b)=(a==b):=by
 by_cases e:a=b
 .subst e;simp
 .have h:¬(Sum.inl a:Key)=Sum.inl b:=λq=>e$ Sum.inl.inj q;rw[qAP h];exact(qBA.mpr e).symm
theorem wE(a b:Str):decide ((Sum.inr a:Key)=Sum.inr b)=decide (a=b):=by
 by_cases e:a=b
 .subst e;simp
 .have h:¬(Sum.inr a:Key)=Sum.inr b:=λq=>e$ Sum.inr.inj q;rw[qAP h,qAP e]
theorem wR(a:Int)(b:Str):decide ((Sum.inl a:Key)=Sum.inr b)=false:=qAP (λq=>nomatch q)
theorem wF(a:Str)(b:Int):decide ((Sum.inr a:Key)=Sum.inl b)=false:=qAP (λq=>nomatch q)
def zBc(prog:Program)(w:World):PySem.KeyKind prog w Key where
 is:=gX
 hash:=zB w
 inj:=λv a b S O=>by
  rcases zBj S with⟨i,t,rfl,rfl⟩|⟨x,t,rfl,rfl⟩
  .rcases zBj O with⟨j,u,rfl,e⟩|⟨y,u,rfl,e⟩
   .injection e with e1 _;rw[e1]
   .exact nomatch e
  .rcases zBj O with⟨j,u,rfl,e⟩|⟨y,u,rfl,e⟩
   .exact nomatch e
   .injection e with e1 _;rw[e1]
 byValue:=λk v h=>by
  rcases zBj h with⟨i,t,rfl,rfl⟩|⟨x,t,rfl,rfl⟩<;>rfl
 pyHash:=λV h=>by
  rcases zBj V with⟨i,t,rfl,rfl⟩|⟨x,t,rfl,rfl⟩
  .exact wpAny_pyHash_int h
  .exact wpAny_pyHash_str h
 eqBool:=λW V h=>by
  rcases zBj W with⟨i,t,rfl,rfl⟩|⟨x,t,rfl,rfl⟩
  .rcases zBj V with⟨j,u,rfl,rfl⟩|⟨y,u,rfl,rfl⟩
   .rw [xO]at h;exact wpAny_eqBool_int h
   .rw [wR]at h;exact SeqAt.EqAt.int_str i t y u _ _ _ _ h
  .rcases zBj V with⟨j,u,rfl,rfl⟩|⟨y,u,rfl,rfl⟩
   .rw [wF]at h;exact SeqAt.EqAt.str_int x t j u _ _ _ _ h
   .rw [wE]at h;exact wpAny_eqBool_str h
 «strs»:=λk x t v h=>by
  rcases zBj h with⟨i,u,rfl,e⟩|⟨y,u,rfl,e⟩
  .exact nomatch e
  .injection e with e1 _;subst e1
   cases v<;>rfl
theorem kO(prog:Program)(w:World)(i:Int)(t:Tok):(zBc prog w).is (.inl i) (.int i t)=true:=qG i t
theorem kN(prog:Program)(w:World)(x:Str)(t:Tok):(zBc prog w).is (.inr x) (.str x t)=true:=qQ x t
inductive V where
 |non|bl (b:Bool)|int (i:Int)|str (x:Str)|byt (b:Array UInt8)|flt (b:UInt64)|ref (a:Addr)|ty (n:String)
 deriving DecidableEq
variable{xs:List V}{v y:V}
def eE:V->Value->Prop
 | .non,u=>u=Value.none
 | .bl b,u=>u=Value.bool b
 | .int i,u=>∃t,u=Value.int i t
 | .str x,u=>∃t,u=Value.str x t
 | .byt b,u=>∃t,u=Value.bytes b t
 | .flt b,u=>∃t,u=Value.float b t
 | .ref a,u=>u=Value.ref a
 | .ty n,u=>u=Value.type n
abbrev eB:List V->List Value->Prop:=Paired eE
theorem eB.length(r:eB xs us):xs.length=us.length:=qBt r
theorem eB.get:∀{xs:List V}{us:List Value}{i:Nat}{x:V},eB xs us->xs[i]?=some x->∃u,us[i]?=some u/\eE x u:=by
 intro xs us i x h
 induction h generalizing i with
 |nil=>intro e;simp at e
 |cons r t O=>
  intro e
  cases i with
  |zero=>simp at e;subst e;exact⟨_,rF,r⟩
  |succ i=>
   obtain⟨u,h1,h2⟩:=O (by simpa using e);exact⟨u,by simpa using h1,h2⟩
theorem eB.set{x:V}(r:eE x u):∀{xs:List V}{us:List Value}(i:Nat),eB xs us->eB (xs.set i x) (us.set i u):=by
 intro xs us i h
 induction h generalizing i with
 |nil=>exact .nil
 |cons q t O=>
  cases i with
  |zero=>exact .cons r t
  |succ i=>exact .cons q$ O i
theorem eB.append:∀{xs ys:List V}{us W:List Value},eB xs us->eB ys W->eB (xs++ys) (us++W):=by
 intro xs ys us W h s
 induction h with
 |nil=>exact s
 |cons r t O=>exact .cons r O
theorem eB.take:∀{xs:List V}{us:List Value}(n:Nat),eB xs us->eB (xs.take n) (us.take n):=by
 intro xs us n h
 induction h generalizing n with
 |nil=>cases n<;>exact .nil
 |cons r t O=>
  cases n with
  |zero=>exact .nil
  |succ n=>exact .cons r$ O n
theorem eB.drop:∀{xs:List V}{us:List Value}(n:Nat),eB xs us->eB (xs.drop n) (us.drop n):=by
 intro xs us n h
 induction h generalizing n with
 |nil=>cases n<;>exact .nil
 |cons r t O=>
  cases n with
  |zero=>exact .cons r t
  |succ n=>exact O n
def fV:Option V->Option Value->Prop
 |some v,some u=>eE v u
 |none,none=>True
 |_,_=>False
def KV{κ:Type}:List (κ×V)->List (κ×Value)->Prop:=Paired λ(p:κ×V)(q:κ×Value)=>p.1=q.1/\eE p.2 q.2
def kV:Key->V
 | .inl i=>.int i
 | .inr x=>.str x
inductive HO where
 |lst (xs:List V)
 |tup (xs:List V)
 |dK (kvs:List (Key×V))|dT (kvs:List (List Key×V))
 |set (S:Int->Bool) (n:Nat)
 |ins (C dx:Addr) (fs:List (Str×V))
 |own (x:Addr)
 |xd (fs:List (Str×V))
 |met (f x:Addr)
 |rng (lo hi:Int)
 |frz (o:Obj) (u:HO)
 |tbl (ps:Array Value)
 |ext (φ:Heap->Prop)
variable{o:HO}
abbrev Hp:=Addr->Option HO
variable{H:Hp}
def upd(H:Hp)(a:Addr)(o:HO):Hp:=λb=>if b=a then some o else H b
theorem ac :upd H a o a=some o:=by unfold upd;rw[qAD rF]
theorem a_(h:b≠a):upd H a o b=H b:=by unfold upd;rw[qAC h]
theorem zBm{u:HO}:upd (upd H a o) a u=upd H a u:=by
 funext b;unfold upd;split<;>rfl
theorem zAu{u:HO}(h:H a=some o)(h':H b=some u)(d:o≠u):a≠b:=by
 intro e;subst e;rw[h]at h';exact d$ qAh h'
theorem zAp(h:H a=some o)(h':H b=none):a≠b:=by
 intro e;subst e;rw[h]at h';cases h'
section
variable(P:Program)(w:World)
def zBk(H:Hp)(h:Heap)(a:Addr):HO->Prop
 | .lst xs=>xs.length<=sizeLine/\∃(its:List Value)(n:Nat),eB xs its/\h.get? a=some {cls:=.type "list",data:=.seq its.toArray n}
 | .tup xs=>xs.length<=sizeLine/\∃its:List Value,eB xs its/\IsTup h a its.toArray
 | .dK kvs=>kvs.length<=sizeLine/\(a==sysModules)=false/\∃vs,KV kvs vs/\h.DictOf (zBc P w) a vs
 | .dT kvs=>kvs.length<=sizeLine/\(a==sysModules)=false/\∃xs:List (List Key×Addr×Value),
   Paired (λ(p:List Key×V)(q:List Key×Addr×Value)=>p.1=q.1/\H q.2.1=some (.tup$ p.1.map kV)/\eE p.2 q.2.2) kvs xs /\
   ∃o es ep,h.get? a=some o/\o.ExactDict/\o.data= .dict es ep/\es.toList=xs.map (entryOfKey$ tupleKind$ zBc P w)/\(xs.map (·.1)).Nodup
 | .set S n=>h.SetOf (intKind P w) a S n
 | .ins C dx fs=>H dx=some (.own a)/\fs.length<=1000/\dx≠a/\h.get? a=some (PySem.W.instObj C dx) /\
   ∃mA,h.Ns1 dx mA/\(∀f,fV (fs.lookup f) (mA f))/\PySem.Within mA (fs.map (·.1))
 | .own _=>∃o,h.get? a=some o
 | .xd fs=>∃mA,h.Ns1 a mA/\∀f,fV (fs.lookup f) (mA f)
 | .rng lo hi=>∃t u v,h.get? a=some {cls:=.type "range",data:=.fields #[.int lo t,.int hi u,.int 1 v]}
 | .frz o u=>h.get? a=some o/\zBk H h a u
 | .tbl ps=>h.get? a=some {cls:=.none,data:=.fields ps}
 | .met f x=>h.get? a=some (PySem.W.methodObj (.ref f)$ .ref x)
 | .ext O=>O h/\(∃o,h.get? a=some o)/\∀h1 h2:Heap,O h1->(∀o,h1.get? a=some o->h2.get? a=some o)->O h2
def HOk(H:Hp)(h:Heap):Prop:=∀a o,H a=some o->zBk P w H h a o
end
section
variable{P:Program}{w:World}{H H':Hp}{h h':Heap}{a:Addr}{o:HO}
theorem zBk.lt(x:zBk P w H h a o):a<h.objs.size:=by
 cases o with
 |lst xs=>obtain⟨_,_,_,_,e⟩:=x;exact qAW e
 |tup xs=>obtain⟨_,_,_,p⟩:=x;exact p.lt
 |dK kvs=>obtain⟨_,_,_,_,o,_,_,e,_⟩:=x;exact qAW e
 |dT kvs=>obtain⟨_,_,_,_,o,_,_,e,_⟩:=x;exact qAW e
 |set S n=>obtain⟨o,_,_,_,e,_⟩:=x;exact qAW e
 |ins C dx fs=>obtain⟨_,_,_,e,_⟩:=x;exact qAW e
 |own y=>obtain⟨_,e⟩:=x;exact qAW e
 |xd fs=>obtain⟨_,⟨_,_,_,e,_⟩,_⟩:=x;exact qAW e
 |rng lo hi=>obtain⟨_,_,_,e⟩:=x;exact qAW e
 |frz O u=>obtain⟨e,_⟩:=x;exact qAW e
 |tbl ps=>exact qAW$ show h.get? a=some _ from x
 |met f y=>exact qAW$ show h.get? a=some _ from x
 |ext V=>obtain⟨_,⟨_,e⟩,_⟩:=x;exact qAW e
theorem Paired.mapP{α V:Type}{F G:α->V->Prop}:∀{O:List α}{S:List V},Paired F O S->(∀a b,F a b->G a b)->Paired G O S:=by
 intro a b h f
 induction h with
 |nil=>exact .nil
 |cons r t W=>exact .cons (f _ _ r) W
theorem zBk.stay(x:zBk P w H h a o)(k:∀b u,(b=a\/H b=some (.own a))->h.get? b=some u->h'.get? b=some u)
  (V:∀b,H b=some (.own a)->H' b=some (.own a)) (W:∀b xs,H b=some (.tup xs)->H' b=some (.tup xs)):zBk P w H' h' a o:=by
 induction o with
 |lst xs=>obtain⟨z,its,n,r,e⟩:=x;exact⟨z,its,n,r,k _ _ (.inl rF) e⟩
 |tup xs=>obtain⟨z,its,r,O,e,c⟩:=x;exact⟨z,its,r,O,k _ _ (.inl rF) e,c⟩
 |dK kvs=>obtain⟨z,y,vs,r,O,es,ep,e,c⟩:=x;exact⟨z,y,vs,r,O,es,ep,k _ _ (.inl rF) e,c⟩
 |dT kvs=>
  obtain⟨z,y,xs,r,O,es,ep,e,c⟩:=x;exact⟨z,y,xs,Paired.mapP r λp q z=>⟨z.1,W _ _ z.2.1,z.2.2⟩,O,es,ep,k _ _ (.inl rF) e,c⟩
 |set S n=>obtain⟨O,es,ep,t,e,c⟩:=x;exact⟨O,es,ep,t,k _ _ (.inl rF) e,c⟩
 |ins C dx fs=>
  obtain⟨d,z,ne,e,mA,⟨od,es,ep,e2,c⟩,r⟩:=x;exact⟨V _ d,z,ne,k _ _ (.inl rF) e,mA,⟨od,es,ep,k _ _ (.inr d) e2,c⟩,r⟩
 |own y=>obtain⟨O,e⟩:=x;exact⟨O,k _ _ (.inl rF) e⟩
 |xd fs=>obtain⟨mA,⟨od,es,ep,e,c⟩,r⟩:=x;exact⟨mA,⟨od,es,ep,k _ _ (.inl rF) e,c⟩,r⟩
 |rng lo hi=>obtain⟨t,u,v,e⟩:=x;exact⟨t,u,v,k _ _ (.inl rF) e⟩
 |frz O u ih=>obtain⟨e,q⟩:=x;exact⟨k _ _ (.inl rF) e,ih q⟩
 |tbl ps=>
  have e:h.get? a=some {cls:=.none,data:=.fields ps}:=x;show h'.get? a=some {cls:=.none,data:=.fields ps};exact k a _ (.inl rF) e
 |met f y=>
  have e:h.get? a=some (PySem.W.methodObj (.ref f)$ .ref y):=x;show h'.get? a=some (PySem.W.methodObj (.ref f)$ .ref y);exact k a _ (.inl rF) e
 |ext φ=>obtain⟨p,⟨o,e⟩,st⟩:=x;exact⟨st _ _ p λo q=>k _ _ (.inl rF) q,⟨o,k _ _ (.inl rF) e⟩,st⟩
theorem HOk.lt(x:HOk P w H h)(e:H a=some o):a<h.objs.size:=(x a o e).lt
theorem HOk.fresh(x:HOk P w H h)(e:h.objs.size<=a):H a=none:=by
 cases q:H a with
 |none=>rfl
 |some u=>exact absurd (qAs (x.lt q) e)$ qBe _
theorem HOk.kept(x:HOk P w H h)(k:∀b u,h.get? b=some u->h'.get? b=some u):HOk P w H h':=λa o e=>
 (x a o e).stay (λb u _ q=>k b u q) (λ_ q=>q) λ_ _ q=>q
theorem HOk.laid(x:HOk P w H h)(k:∀b u,h.get? b=some u->h'.get? b=some u)(S:h.objs.size<=a)(new:zBk P w (upd H a o) h' a o):HOk P w (upd H a o) h':=λb u e=>by
 have O:=x.fresh S
 by_cases hb:b=a
 .subst hb;rw[ac]at e;cases e;exact new
 .rw [a_ hb]at e;exact(x b u e).stay (λc v _ q=>k c v q) (λc q=>by rw[a_$ zAp q O];exact q) λc xs q=>by rw[a_$ zAp q O];exact q
end
def Rd(H:Hp)(a:Addr)(u:HO):Prop:=H a=some u\/∃o,H a=some (.frz o u)
theorem Rd.ok{u:HO}(r:Rd H a u)(x:HOk P w H h):zBk P w H h a u:=by
 rcases r with r|⟨o,r⟩
 .exact x a u r
 .obtain ⟨_,q⟩:=x a _ r;exact q
def Mut:Option HO->Prop
 |some (.lst _)=>True
 |some (.dK _)=>True
 |some (.dT _)=>True
 |some (.set _ _)=>True
 |some (.ins _ _ _)=>True
 |some (.ext _)=>True
 |_=>False
section
variable{P:Program}{w:World}{H:Hp}{h h':Heap}{x e:Addr}{o':HO}
theorem HOk.write(ok:HOk P w H h)(V:Mut (H x))(he:e=x\/H e=some (.own x))(k:∀b u,b≠e->h.get? b=some u->h'.get? b=some u)(aa:∃u,h'.get? e=some u)
  (new:zBk P w (upd H x o') h' x o'):HOk P w (upd H x o') h':=λb u q=>by
 have O:∀c y,H c=some (.own y)->c≠x:=λc y r z=>by subst z;rw[r]at V;exact V
 have S:∀c xs,H c=some (.tup xs)->c≠x:=λc xs r z=>by subst z;rw[r]at V;exact V
 by_cases hb:b=x
 .subst hb;rw[ac]at q;cases q;exact new
 .rw [a_ hb]at q
  by_cases hbe:b=e
  .have q':H b=some (.own x):=by
    rcases he with z|z
    .exact absurd (hbe.trans z) hb
    .rw [hbe];exact z
   rw[q]at q';cases q';obtain⟨v,hv⟩:=aa;exact⟨v,by rw[hbe];exact hv⟩
  .refine (ok b u q).stay (λc v W r=>k c v ?_ r) (λc r=>by rw[a_$ O c b r];exact r) λc xs r=>by rw[a_$ S c xs r];exact r
   rcases W with rfl|W
   .exact hbe
   .rintro rfl;rcases he with z|z
    .exact O c b W z
    .rw [W]at z;cases z;exact hb rF
end
structure Un(fs ex:List Addr)(H H':Hp)(h h':Heap):Prop where
 keep:∀b o,h.get? b=some o->H b=none->b∉fs->b∉ex->h'.get? b=some o
 slot:∀b o,h.get? b=some o->H b=none->b∈fs->b∉ex->∃sl,h'.get? b=some {o with slots:=sl}
 free:∀b o,h.get? b=some o->H b=none->b∉ex->H' b=none
 there:∀b o,h.get? b=some o->b∉ex->∃o',h'.get? b=some o'
 tups:∀b xs,H b=some (.tup xs)->H' b=some (.tup xs)
 frzs:∀b o u,H b=some (.frz o u)->H' b=some (.frz o u)
 tbls:∀b ps,H b=some (.tbl ps)->∃more,H' b=some (.tbl$ ps++more)
section
variable{fs fs' ex ex':List Addr}{H H1 H2:Hp}{h h1 h2 h':Heap}{a x e:Addr}{o:HO}
theorem Un.any(u:Un fs ex H H1 h h1){O:Obj}(q:h.get? b=some O)(n:H b=none)(S:b∉ex):∃V,h1.get? b=some {O with slots:=V}:=by
 by_cases hb:b∈fs
 .exact u.slot b O q n hb S
 .exact ⟨O.slots,u.keep b O q n hb S⟩
theorem Un.kept(k:∀b u,h.get? b=some u->h'.get? b=some u):Un fs ex H H h h' :=
 ⟨λb O q _ _ _=>k b O q,λb O q _ _ _=>⟨O.slots,k b O q⟩,λ_ _ _ n _=>n,λb O q _=>⟨O,k b O q⟩,λ_ _ q=>q,λ_ _ _ q=>q,λ_ ps q=>⟨#[],by rw[q];simp⟩⟩
theorem Un.refl:Un fs ex H H h h:=Un.kept λ_ _ q=>q
theorem Un.laid(k:∀b u,h.get? b=some u->h'.get? b=some u)(S:h.objs.size<=a)(O:H a=none):Un fs ex H (upd H a o) h h' where
 keep:=λb u q _ _ _=>k b u q
 slot:=λb u q _ _ _=>⟨u.slots,k b u q⟩
 free:=λb u q n _=>by rw[a_$ qAe$ qAs (qAW q) S];exact n
 there:=λb u q _=>⟨u,k b u q⟩
 tups:=λb xs q=>by rw[a_$ zAp q O];exact q
 frzs:=λb u xs q=>by rw[a_$ zAp q O];exact q
 tbls:=λb ps q=>⟨#[],by rw[a_$ zAp q O,q];simp⟩
theorem Un.write(O:Mut (H x))(he:e=x\/H e=some (.own x))(k:∀b u,b≠e->h.get? b=some u->h'.get? b=some u)(S:∃u,h'.get? e=some u):Un fs ex H (upd H x o) h h':=by
 have W:∀b,H b=none->b≠x:=λb n z=>by subst z;rw[n]at O;exact O
 have hb:∀b,H b=none->b≠e:=λb n z=>by
  subst z;rcases he with r|r
  .exact W b n r
  .rw [n]at r;cases r
 have V:∀b u,H b=some u->¬Mut (some u)->b≠x:=λb u q nm z=>by subst z;rw[q]at O;exact nm O
 refine⟨λb u q n _ _=>k b u (hb b n) q,λb u q n _ _=>⟨u.slots,k b u (hb b n) q⟩,λb u q n _=>by rw[a_$ W b n];exact n,λb u q _=>?_,
  λb xs q=>by rw[a_$ V b _ q λz=>z];exact q,λb u xs q=>by rw[a_$ V b _ q λz=>z];exact q,λb ps q=>⟨#[],by rw[a_$ V b _ q λz=>z,q];simp⟩⟩
 by_cases hbe:b=e
 .subst hbe;exact S
 .exact ⟨u,k b u hbe q⟩
end
def trk(h:Heap)(H:Hp):List Addr:=(List.range h.objs.size).filter λa=>(H a).isSome
def ki(h:Heap)(H:Hp):Heap:=PySem.W.hideAll h$ trk h H
theorem qh(h:Heap)(H:Hp):(ki h H).objs.size=h.objs.size:=PySem.W.hideAll_size _ _
theorem sG{o:Obj}(e:h.get? b=some o)(n:H b=none):(ki h H).get? b=some o :=
 PySem.W.hideAll_get _ e λO=>by
  have q:(H b).isSome=true:=(qAc.mp O).2;rw[n]at q;simp at q
theorem ve{o:Obj}(e:(ki h H).get? b=some o):h.get? b=some o/\H b=none:=by
 have e':h.get? b=some o:=PySem.W.of_hideAll (trk h H) e;refine⟨e',?_⟩
 cases q:H b with
 |none=>rfl
 |some x=>
  have O:b∈trk h H:=qAc.mpr ⟨qAz.mpr$ qAW e',by simp[q]⟩;have z:(ki h H).get? b=none:=PySem.W.hideAll_none (trk h H) O;rw[z]at e;cases e
structure Mod(K:PySem.W.Frag)(mg:Str->Option Value)(base:Heap):Prop where
 kin:K.In base
 glob:base.Ns mainGlobals mg
 blt:∃mb,base.Ns builtinsNs mb/\∀x:Str,x≠ "__name__"->mb x=bootBuiltins x
 nolimit:base.NoLimit
structure Cx where
 prog:Program
 w:World
 K:PySem.W.Frag
 mg:Str->Option Value
 base:Heap
 A:Around
 N:List Str
 s₀:Shared
 H₀:Hp
 env:Env
 outer:List Env
 stack:List Env
 ex:List Addr
 fn:Str->Bool
 calm:Bool
 pn:List (Addr×Obj)
 xe:Value->Shared->Prop
variable{X:Cx}
def frs(l:List Env):List Addr:=l.filterMap (·.frame)
abbrev Cx.fs(X:Cx):List Addr:=frs X.outer
def Vis(sc:Scope)(x:Str):Prop:=sc.names.lookup x=some .local\/sc.names.lookup x=some .cell\/sc.names.lookup x=some .free
def Loc(sc:Scope)(x:Str):Prop:=sc.names.lookup x=some .local\/sc.names.lookup x=some .cell
def yZ(env:Env)(h:Heap)(m:Str->Option Value)(x:Str)(u:Value):Prop :=
 (env.kindOf x=some .local/\m x=some u)\/((env.kindOf x=some .cell\/env.kindOf x=some .free)/\∃c,env.cells.lookup x=some c/\h.IsCell c (some u))
structure Cx.Ok(X:Cx):Prop where
 mod:Mod X.K X.mg X.base
 kind:X.env.scope.kind= .function
 glob:X.env.globals=mainGlobals
 blt:X.env.builtins=builtinsNs
 above:X.s₀.heap.objs.size<=X.env.locals
 inj:∀x y c,X.env.cells.lookup x=some c->X.env.cells.lookup y=some c->x=y
 has:∀x,(X.env.kindOf x=some .cell\/X.env.kindOf x=some .free)->∃c,X.env.cells.lookup x=some c
 cab:∀x c,X.fn x=true->X.env.cells.lookup x=some c->X.s₀.heap.objs.size<=c
 hd:X.calm=true->X.A.handled=none
 frames:X.A.frames=some X.stack
 stk:X.stack=X.outer\/(X.stack=X.env::X.outer/\X.env.frame=some X.env.locals)
 exf:∀b∈X.ex,b≠X.env.locals/\∀x c,X.env.cells.lookup x=some c->c≠b
 bs:∀b o,X.base.get? b=some o->X.s₀.heap.get? b=some o/\X.H₀ b=none
 bsz:X.base.objs.size<=X.s₀.heap.objs.size
 noex:∀b o,X.base.get? b=some o->b∉X.ex
 exfs:∀b∈X.ex,b∉X.fs
 funs:X.s₀.heap.FunFrames X.base X.outer
 frf:∀b∈X.fs,X.H₀ b=none
structure Inv(X:Cx)(pins:List (Addr×Obj))(σ:List (Option V))(H:Hp)(s:Shared):Prop where
 ok:X.Ok
 os:s.os=X.s₀.os
 bare:AllBare s.gens
 base:Un X.fs X.ex X.H₀ H X.s₀.heap s.heap
 loc:∃m,s.heap.Ns X.env.locals m/\∀(i:Nat)(x:Str)(v:V),X.N[i]?=some x->σ[i]?=some (some v)->Vis X.env.scope x->∃u,eE v u/\yZ X.env s.heap m x u
 cell:∀x c,X.env.cells.lookup x=some c->∃v,s.heap.IsCell c v
 free:H X.env.locals=none
 freeC:∀x c,X.env.cells.lookup x=some c->H c=none
 pin:∀p∈X.pn++pins,s.heap.get? p.1=some p.2/\H p.1=none/\p.1≠X.env.locals/\p.1∉X.fs/\∀v,p.2.data≠.cell v
 hok:HOk X.prog X.w H s.heap
 len:σ.length=X.N.length
section
variable{X:Cx}{pins:List (Addr×Obj)}{σ:List (Option V)}{H H':Hp}{s:Shared}{h':Heap}
theorem Cx.Ok.nofr(ok:X.Ok){o:Obj}(e:X.base.get? b=some o):b∉X.fs:=λO=>by
 have:=(ok.funs.mem O).1;rw[e]at this;cases this
theorem Inv.bs(I:Inv X pins σ H s):∀b o,X.base.get? b=some o->s.heap.get? b=some o/\H b=none:=λb o e=>
 ⟨I.base.keep b o (I.ok.bs b o e).1 (I.ok.bs b o e).2 (I.ok.nofr e)$ I.ok.noex b o e,I.base.free b o (I.ok.bs b o e).1 (I.ok.bs b o e).2$ I.ok.noex b o e⟩
theorem Inv.bk(I:Inv X pins σ H s):∀b o,X.base.get? b=some o->s.heap.get? b=some o:=λb o e=>(I.bs b o e).1
theorem Inv.mod(I:Inv X pins σ H s):Mod X.K X.mg X.base:=I.ok.mod
theorem Inv.kIn(I:Inv X pins σ H s):X.K.In s.heap:=I.ok.mod.kin.keeps I.bk
theorem Inv.lt(I:Inv X pins σ H s):X.env.locals<s.heap.objs.size:=let⟨_,O,_⟩:=I.loc;O.lt
theorem Inv.sz(I:Inv X pins σ H s):X.s₀.heap.objs.size<=s.heap.objs.size:=qAR I.ok.above$ qB8 I.lt
theorem Inv.nofs(I:Inv X pins σ H s)(h:s.heap.objs.size<=a):a∉X.fs:=λO=>by
 obtain⟨_,o,S,_⟩:=I.ok.funs.mem O;exact absurd (qAs (qAW S)$ qAR I.sz h)$ qBe _
theorem Inv.cne(I:Inv X pins σ H s):∀x c,X.env.cells.lookup x=some c->c≠X.env.locals:=λx c e z=>by
 obtain⟨v,o,V,W⟩:=I.cell x c e;obtain⟨m,⟨o',es,ep,O,S,_⟩,_⟩:=I.loc;rw[z,O]at V;cases V;rw[S]at W;cases W
theorem Inv.funs(I:Inv X pins σ H s):s.heap.FunFrames X.base X.outer:=by
 have all:∀(l:List Env),(∀b∈frs l,b∈X.fs)->X.s₀.heap.FunFrames X.base l->s.heap.FunFrames X.base l:=by
  intro l
  induction l with
  |nil=>intro _ _;trivial
  |cons env r W=>
   intro hs hl;obtain⟨hk,⟨L,o,O,hn,ho,hd⟩,hr⟩:=hl;have S:L∈X.fs:=hs L (by unfold frs;rw[qBu,O];exact qAO);obtain⟨sl,e⟩:=I.base.slot L o ho (I.ok.frf L S) S λz=>I.ok.exfs L z S;exact⟨hk,⟨L,_,O,hn,e,hd⟩,W (λb V=>hs b$ by unfold frs;rw[qBu,O];exact qAS _ V) hr⟩
 exact all X.outer (λ_ V=>V) I.ok.funs
theorem Inv.stack(I:Inv X pins σ H s):s.heap.FunFrames X.base X.stack:=by
 rcases I.ok.stk with e|⟨e,O⟩
 .rw [e];exact I.funs
 .rw [e];obtain⟨m,S,_⟩:=I.loc;refine .cons (by rw[I.ok.kind];decide) O S ?_ I.funs;exact Heap.get?_none_of_le$ qAR I.ok.bsz I.ok.above
theorem Inv.stkSub(I:Inv X pins σ H s):∀b∈frs X.stack,b∈X.env.locals::X.fs:=λb O=>by
 rcases I.ok.stk with e|⟨e,S⟩
 .rw [e]at O;exact qAS _ O
 .rw [e]at O;unfold frs at O;rw[qBu,S]at O;exact O
theorem Inv.stkFree(I:Inv X pins σ H s):∀b∈frs X.stack,H b=none:=λb O=>by
 rcases qAQ.mp (I.stkSub b O) with e|O
 .rw [e];exact I.free
 .obtain ⟨_,o,S,_⟩:=I.ok.funs.mem O;exact I.base.free b o S (I.ok.frf b O) λz=>I.ok.exfs b z O
theorem Inv.step{g':Array GenState}{t':Nat}{d':Drawn}{ch:List Addr}(I:Inv X pins σ H s)
  (V:∀b∈ch,(b∈X.ex\/X.s₀.heap.objs.size<=b)/\b≠X.env.locals/\(∀x c,X.env.cells.lookup x=some c->c≠b)/\∀p∈X.pn++pins,p.1≠b)
  (W:∀b o,b≠X.env.locals->b∉X.fs->b∉ch->s.heap.get? b=some o->H b=none->h'.get? b=some o)
  (slot:∀b o,b≠X.env.locals->b∈X.fs->b∉ch->s.heap.get? b=some o->H b=none->∃sl,h'.get? b=some {o with slots:=sl}) (S:∀b o,b∉ch->s.heap.get? b=some o->H b=none->H' b=none)
  (ae:∀b o,b∉ch->s.heap.get? b=some o->∃o',h'.get? b=some o')
  (af:∀b xs,H b=some (.tup xs)->H' b=some (.tup xs)) (ag:∀b o u,H b=some (.frz o u)->H' b=some (.frz o u)) (ah:∀b ps,H b=some (.tbl ps)->∃more,H' b=some (.tbl$ ps++more))
  (ns:∀m,s.heap.Ns X.env.locals m->h'.Ns X.env.locals m) (aj:HOk X.prog X.w H' h') (hg:AllBare g') :
  Inv X pins σ H' {s with heap:=h',gens:=g',drawn:=d',toks:=t'}:=by
 have ai:∀b o,X.s₀.heap.get? b=some o->b≠X.env.locals:=λb o e=>qAe$ qAs (qAW e) I.ok.above
 have ad:∀b o,X.s₀.heap.get? b=some o->b∉X.ex->b∉ch:=λb o e O hb=>by
  rcases(V b hb).1 with z|z
  .exact O z
  .exact absurd (qAs (qAW e) z)$ qBe _
 have aa:∀x c,X.env.cells.lookup x=some c->∀v,s.heap.IsCell c v->h'.IsCell c v:=λx c e v ⟨o,ho,hd⟩=>by
  have ab:c∉ch:=λz=>(V c z).2.2.1 x c e rF
  by_cases hc:c∈X.fs
  .obtain ⟨sl,q⟩:=slot c o (I.cne x c e) hc ab ho$ I.freeC x c e;exact⟨_,q,hd⟩
  .exact ⟨o,W c o (I.cne x c e) hc ab ho$ I.freeC x c e,hd⟩
 refine⟨I.ok,I.os,hg,⟨λb o e n hb O=>?_,λb o e n hb O=>?_,λb o e n O=>?_,λb o e O=>?_,λb xs e=>af b xs$ I.base.tups b xs e,λb o xs e=>ag b o xs$ I.base.frzs b o xs e,λb ps e=>?_⟩,?_,λx c e=>?_,?_,λx c e=>?_,λp hp=>?_,aj,I.len⟩
 .exact W b o (ai b o e) hb (ad b o e O) (I.base.keep b o e n hb O)$ I.base.free b o e n O
 .obtain ⟨sl,e1⟩:=I.base.slot b o e n hb O;obtain⟨ak,e2⟩:=slot b _ (ai b o e) hb (ad b o e O) e1$ I.base.free b o e n O;exact⟨ak,e2⟩
 .obtain ⟨o',e1⟩:=I.base.there b o e O;exact S b o' (ad b o e O) e1$ I.base.free b o e n O
 .obtain ⟨o',e1⟩:=I.base.there b o e O;exact ae b o' (ad b o e O) e1
 .obtain ⟨m1,e1⟩:=I.base.tbls b ps e;obtain⟨m2,e2⟩:=ah b _ e1;exact⟨m1++m2,by rw[e2,Array.append_assoc]⟩
 .obtain ⟨m,hn,hl⟩:=I.loc;refine⟨m,ns m hn,λi x v e1 e2 e3=>?_⟩;obtain⟨u,r,l⟩:=hl i x v e1 e2 e3;refine⟨u,r,?_⟩;rcases l with l|⟨k,c,e,z⟩
  .exact .inl l
  .exact .inr ⟨k,c,e,aa x c e _ z⟩
 .obtain ⟨v,z⟩:=I.cell x c e;exact⟨v,aa x c e v z⟩
 .obtain ⟨m,⟨o,_,_,ho,_⟩,_⟩:=I.loc;exact S _ o (λz=>(V _ z).2.1 rF) ho I.free
 .obtain ⟨v,o,ho,hd⟩:=I.cell x c e;exact S c o (λz=>(V c z).2.2.1 x c e rF) ho$ I.freeC x c e
 .obtain ⟨e,n,ne,nf,d⟩:=I.pin p hp;have ab:p.1∉ch:=λz=>(V p.1 z).2.2.2 p hp rF;exact⟨W p.1 p.2 ne nf ab e n,S p.1 p.2 ab e n,ne,nf,d⟩
theorem Inv.un{t':Nat}(I:Inv X pins σ H s)(u:Un X.fs [] H H' s.heap h')(S:HOk X.prog X.w H' h'):Inv X pins σ H' {s with heap:=h',toks:=t'}:=by
 obtain⟨m,⟨o,es,ep,ho,r⟩,_⟩:=id I.loc;obtain⟨sl,hL⟩:=u.any ho I.free sS
 exact I.step (g':=s.gens) (d':=s.drawn) (ch:=[]) (λ_ z=>nomatch z) (λb o _ V _ e n=>u.keep b o e n V sS) (λb o _ V _ e n=>u.slot b o e n V sS) (λb o _ e n=>u.free b o e n sS) (λb o _ e=>u.there b o e sS) u.tups u.frzs u.tbls (λm' hm=>by
  obtain⟨o',W,aa,O,r'⟩:=hm;rw[ho]at O;cases O;exact⟨_,W,aa,hL,r'⟩) S I.bare
theorem Inv.call{g':Array GenState}{t':Nat}{d':Drawn}{ch:List Addr}(I:Inv X pins σ H s)(u:Un (frs X.stack) ch H H' s.heap h')(W:HOk X.prog X.w H' h')(hg:AllBare g')
  (S:∀b∈ch,(b∈X.ex\/X.s₀.heap.objs.size<=b)/\b≠X.env.locals/\(∀x c,X.env.cells.lookup x=some c->c≠b)/\∀p∈X.pn++pins,p.1≠b) :
  Inv X pins σ H' {s with heap:=h',gens:=g',drawn:=d',toks:=t'}:=by
 obtain⟨m,⟨o,es,ep,ho,r⟩,_⟩:=id I.loc;obtain⟨sl,hL⟩:=u.any ho I.free λz=>(S _ z).2.1 rF
 exact I.step (ch:=ch) S (λb o hL hb O e n=>u.keep b o e n (λz=>(qAQ.mp$ I.stkSub b z).elim hL hb) O) (λb o _ _ O e n=>u.any e n O) (λb o O e n=>u.free b o e n O) (λb o O e=>u.there b o e O) u.tups u.frzs u.tbls (λm' hm=>by
  obtain⟨o',aa,ab,V,r'⟩:=hm;rw[ho]at V;cases V;exact⟨_,aa,ab,hL,r'⟩) W hg
theorem Inv.turned{t':Nat}{O:Addr}(I:Inv X pins σ H s)(k:∀b o,b≠O->s.heap.get? b=some o->h'.get? b=some o)(hn:H O=none)(W:O≠X.env.locals)
  (h1:O∈X.ex\/X.s₀.heap.objs.size<=O) (h2:∀x c,X.env.cells.lookup x=some c->c≠O) (h3:∀p∈X.pn++pins,p.1≠O):Inv X pins σ H {s with heap:=h',toks:=t'}:=by
 have V:∀b u,H b=some u->b≠O:=λb u e z=>by rw[z,hn]at e;cases e
 refine I.step (g':=s.gens) (d':=s.drawn) (ch:=[O]) (λb hb=>?_) (λb o _ _ S e _=>k b o (λz=>S$ by simp[z]) e) (λb o _ _ S e _=>⟨o.slots,k b o (λz=>S$ by simp[z]) e⟩) (λ_ _ _ _ n=>n)
  (λb o S e=>⟨o,k b o (λz=>S$ by simp[z]) e⟩) (λ_ _ e=>e) (λ_ _ _ e=>e) (λb ps e=>⟨#[],by rw[e];simp⟩) (λm hm=>?_) (λb u e=>?_) I.bare
 .have e:b=O:=by simpa using hb
  subst e;exact⟨h1,W,h2,h3⟩
 .obtain ⟨o,es,ep,ho,r⟩:=hm;exact⟨o,es,ep,k _ o (qAo W) ho,r⟩
 .refine (I.hok b u e).stay (λc v S q=>k c v ?_ q) (λ_ q=>q) λ_ _ q=>q;rcases S with z|z
  .rw [z];exact V b u e
  .exact V c _ z
theorem Inv.tok(I:Inv X pins σ H s)(t:Nat):Inv X pins σ H {s with toks:=t}:=I.un (h':=s.heap) (t':=t) Un.refl I.hok
theorem Inv.kept{t':Nat}(I:Inv X pins σ H s)(k:∀b u,s.heap.get? b=some u->h'.get? b=some u):Inv X pins σ H {s with heap:=h',toks:=t'}:=I.un (Un.kept k)$ I.hok.kept k
theorem Inv.laid{a:Addr}{o:HO}{t':Nat}(I:Inv X pins σ H s)(k:∀b u,s.heap.get? b=some u->h'.get? b=some u)(O:s.heap.objs.size<=a)(new:zBk X.prog X.w (upd H a o) h' a o) :
  Inv X pins σ (upd H a o) {s with heap:=h',toks:=t'}:=I.un (Un.laid k O$ I.hok.fresh O)$ I.hok.laid k O new
theorem Inv.write{x e:Addr}{t':Nat}(I:Inv X pins σ H s)(S:Mut (H x))(V:e=x\/H e=some (.own x))(k:∀b u,b≠e->s.heap.get? b=some u->h'.get? b=some u)(O:∃u,h'.get? e=some u)
  (new:zBk X.prog X.w (upd H x o) h' x o):Inv X pins σ (upd H x o) {s with heap:=h',toks:=t'}:=I.un (Un.write S V k O)$ I.hok.write S V k O new
theorem Inv.pins_of{O:List (Addr×Obj)}(I:Inv X pins σ H s)(h:∀p∈O,s.heap.get? p.1=some p.2/\H p.1=none/\p.1≠X.env.locals/\p.1∉X.fs/\∀v,p.2.data≠.cell v):Inv X O σ H s :=
 ⟨I.ok,I.os,I.bare,I.base,I.loc,I.cell,I.free,I.freeC,λp S=>(qAK.mp S).elim (λz=>I.pin p$ qAj _ z)$ h p,I.hok,I.len⟩
theorem kI{N:List Str}(O:N.Nodup){j:Nat}(a:N[i]?=some x)(b:N[j]?=some x):i=j:=by
 obtain⟨h1,S⟩:=qAa.mp a;obtain⟨h2,V⟩:=qAa.mp b;exact(List.getElem_inj O).mp$ S.trans V.symm
theorem iu{M:Model}{E:Value->Shared->Prop}{Q:Unit->Shared->Prop}(I:Inv X pins σ H s)(hN:X.N.Nodup)(hi:X.N[i]?=some x)(W:Loc X.env.scope x)(r:eE v u)
  (h:∀s',Inv X pins (σ.set i$ some v) H s'->(∃a,Heap.SameBut a s.heap s'.heap/\(a=X.env.locals\/X.env.cells.lookup x=some a))->Q () s') (hf:X.fn x=true\/X.env.scope.names.lookup x=some .local:=by first|exact .inl rF|exact .inr rF|assumption):wpAny M A (storeName X.env x u) Q E s:=by
 obtain⟨m,hn,hl⟩:=id I.loc;have ae:(X.env.scope.kind== .class||(X.env.scope.kind== .module&&X.env.locals != X.env.globals))=false:=by rw[I.ok.kind];rfl
 have ab:i<σ.length:=by rw[I.len];exact(qAa.mp hi).1
 have cne:=I.cne
 have O:∀{a:Addr}{h':Heap},(∃o,s.heap.get? a=some o/\H a=none)->Heap.SameBut a s.heap h'->HOk X.prog X.w H h':=λ{a h'} ha hs b ob e=>by
  obtain⟨_,_,aa⟩:=ha;refine(I.hok b ob e).stay (λc w' V q=>(hs.2 c ?_).trans q) (λ_ q=>q) λ_ _ q=>q;rintro rfl;rcases V with rfl|V
  .rw [aa]at e;cases e
  .rw [aa]at V;cases V
 rcases W with hk|hk
 .refine wpAny_storeName_local hk hn (λh' ai hs=>?_) ae;obtain⟨oL,_,_,aj,_⟩:=id hn;refine h _ ⟨I.ok,I.os,I.bare,⟨λb o e n hb W=>?_,λb o e n hb W=>?_,I.base.free,λb o e W=>?_,I.base.tups,I.base.frzs,I.base.tbls⟩,⟨_,ai,λj y v' S e2 e3=>?_⟩,λy c e=>?_,I.free,I.freeC,λp hp=>?_,O ⟨oL,aj,I.free⟩ hs,by simpa using I.len⟩ ⟨_,hs,.inl rF⟩
  .exact (hs.2 b$ qAe$ qAs (qAW e) I.ok.above).trans$ I.base.keep b o e n hb W
  .obtain ⟨sl,S⟩:=I.base.slot b o e n hb W;exact⟨sl,(hs.2 b$ qAe$ qAs (qAW e) I.ok.above).trans S⟩
  .obtain ⟨o',S⟩:=I.base.there b o e W;exact⟨o',(hs.2 b$ qAe$ qAs (qAW e) I.ok.above).trans S⟩
  .by_cases hj:j=i
   .subst hj;rw[hi]at S;cases S;rw[List.getElem?_set_self ab]at e2
    cases e2
    exact⟨u,r,.inl ⟨hk,sS⟩⟩
   .rw [List.getElem?_set_ne$ qAo hj]at e2;obtain⟨u',r',q⟩:=hl j y v' S e2 e3;refine⟨u',r',?_⟩;rcases q with⟨k,e⟩|⟨k,c,e,z⟩
    .refine .inl ⟨k,?_⟩;have:y≠x:=λe=>hj$ kI hN S$ e▸hi;simp[this,e]
    .exact .inr ⟨k,c,e,z.sameBut hs$ cne y c e⟩
  .obtain ⟨w',z⟩:=I.cell y c e;exact⟨w',z.sameBut hs$ cne y c e⟩
  .obtain ⟨e,n,ne,nf,d⟩:=I.pin p hp;exact⟨(hs.2 p.1 ne).trans e,n,ne,nf,d⟩
 .have ad:X.fn x=true:=by
   rcases hf with z|z
   .exact z
   .rw [z]at hk;cases hk
  obtain⟨c,V⟩:=I.ok.has x$ .inl hk;obtain⟨w',z⟩:=I.cell x c V;refine wpAny_storeName_cell I.ok.kind hk V z λh' af hs=>?_;obtain⟨oc,ag,ah⟩:=id z;refine h {s with heap:=h'} ⟨I.ok,I.os,I.bare,⟨λb o e n hb W=>?_,λb o e n hb W=>?_,I.base.free,λb o e W=>?_,I.base.tups,I.base.frzs,I.base.tbls⟩,⟨m,hn.sameBut hs$ qAo$ cne x c V,λj y v' S e2 e3=>?_⟩,λy c' e=>?_,I.free,I.freeC,λp hp=>?_,O ⟨oc,ag,I.freeC x c V⟩ hs,by simpa using I.len⟩ ⟨c,hs,.inr V⟩
  .exact (hs.2 b$ qAe$ qAs (qAW e)$ I.ok.cab x c ad V).trans$ I.base.keep b o e n hb W
  .obtain ⟨sl,S⟩:=I.base.slot b o e n hb W;exact⟨sl,(hs.2 b$ qAe$ qAs (qAW e)$ I.ok.cab x c ad V).trans S⟩
  .obtain ⟨o',S⟩:=I.base.there b o e W;exact⟨o',(hs.2 b$ qAe$ qAs (qAW e)$ I.ok.cab x c ad V).trans S⟩
  .by_cases hj:j=i
   .subst hj;rw[hi]at S;cases S;rw[List.getElem?_set_self ab]at e2
    cases e2
    exact⟨u,r,.inr ⟨.inl hk,c,V,af⟩⟩
   .rw [List.getElem?_set_ne$ qAo hj]at e2;obtain⟨u',r',q⟩:=hl j y v' S e2 e3;refine⟨u',r',?_⟩;rcases q with q|⟨k,c',e,z'⟩
    .exact .inl q
    .refine .inr ⟨k,c',e,z'.sameBut hs ?_⟩;rintro rfl;exact hj$ kI hN S$ I.ok.inj _ _ _ e V▸hi
  .by_cases hcc:c'=c
   .subst hcc;exact⟨_,af⟩
   .obtain ⟨w2,z2⟩:=I.cell y c' e;exact⟨w2,z2.sameBut hs hcc⟩
  .obtain ⟨e,n,ne,nf,d⟩:=I.pin p hp;refine⟨(hs.2 p.1 ?_).trans e,n,ne,nf,d⟩;intro q;rw[q,ag]at e;have q':oc=p.2:=qAh e;exact d w' (by rw[<-q'];exact ah)
theorem my{M:Model}{E:Value->Shared->Prop}{Q:Unit->Shared->Prop}(I:Inv X pins σ H s)(O:X.N.Nodup)(hi:X.N[i]?=some x)(S:Loc X.env.scope x)(r:eE v u)
  (h:∀s',Inv X pins (σ.set i$ some v) H s'->Q () s') (V:X.fn x=true\/X.env.scope.names.lookup x=some .local:=by first|exact .inl rF|exact .inr rF|assumption):wpAny M A (storeName X.env x u) Q E s :=
 iu I O hi S r (λs' W _=>h s' W) V
theorem Inv.call'{s':Shared}{ch:List Addr}(I:Inv X pins σ H s)(V:s'.os=s.os)(u:Un (frs X.stack) ch H H' s.heap s'.heap)(O:HOk X.prog X.w H' s'.heap)(W:AllBare s'.gens)
  (S:∀b∈ch,(b∈X.ex\/X.s₀.heap.objs.size<=b)/\b≠X.env.locals/\(∀x c,X.env.cells.lookup x=some c->c≠b)/\∀p∈X.pn++pins,p.1≠b):Inv X pins σ H' s':=by
 obtain⟨h',g',d',t',o'⟩:=s';have e:o'=s.os:=V;subst e;exact I.call (g':=g') (t':=t') (d':=d') u O W S
end
abbrev XK:=Value->Option Addr->Hp->Prop
abbrev St:=List$ Option V
variable{σ:St}
abbrev VK:=V->Hp->Prop
abbrev TE:=St->Hp->VK->Prop
abbrev TT:=St->Hp->(Bool->Hp->Prop)->Prop
abbrev TA:=St->Hp->(List V->Hp->Prop)->Prop
structure fW where
 nx:St->Hp->Prop
 rt:VK
 bk:St->Hp->Prop:=λ_ _=>False
 ct:St->Hp->Prop:=λ_ _=>False
variable{D:fW}
abbrev TS:=fW->St->Hp->Prop
variable{tb:TS}
def EP(X:Cx)(pins:List (Addr×Obj))(σ:St)(Q:VK)(u:Value)(s':Shared):Prop:=∃v H',Inv X pins σ H' s'/\eE v u/\Q v H'
def TP(X:Cx)(pins:List (Addr×Obj))(σ:St)(Q:Bool->Hp->Prop)(b:Bool)(s':Shared):Prop:=∃H',Inv X pins σ H' s'/\Q b H'
def AP(X:Cx)(pins:List (Addr×Obj))(σ:St)(Q:List V->Hp->Prop)(us:List Value)(s':Shared):Prop:=∃vs H',Inv X pins σ H' s'/\eB vs us/\Q vs H'
def SP(X:Cx)(pins:List (Addr×Obj))(D:fW)(f:Flow)(s':Shared):Prop :=
 match f with
 | .next=>∃O H',Inv X pins O H' s'/\D.nx O H'
 | .brk=>∃O H',Inv X pins O H' s'/\D.bk O H'
 | .cont=>∃O H',Inv X pins O H' s'/\D.ct O H'
 | .ret u=>∃v O H',Inv X pins O H' s'/\eE v u/\D.rt v H'
def PE(X:Cx)(e:Expr)(t:TE):Prop :=
 ∀(pins:List (Addr×Obj)) (s:Shared) (σ:St) (H:Hp) (Q:VK),Inv X pins σ H s->t σ H Q->wpAny (model X.prog X.w) X.A (eval e X.env) (EP X pins σ Q) X.xe s
def PT(X:Cx)(e:Expr)(t:TT):Prop :=
 ∀(pins:List (Addr×Obj)) (s:Shared) (σ:St) (H:Hp) (Q:Bool->Hp->Prop),Inv X pins σ H s->t σ H Q->wpAny (model X.prog X.w) X.A (isTrue e X.env$ eval e X.env) (TP X pins σ Q) X.xe s
def PW(X:Cx)(e:Expr)(t:TT):Prop :=
 ∀(W:Sem Value) (pins:List (Addr×Obj)) (s:Shared) (σ:St) (H:Hp) (Q:Bool->Hp->Prop),Inv X pins σ H s->t σ H Q->wpAny (model X.prog X.w) X.A (isTrue e X.env W) (TP X pins σ Q) X.xe s
theorem PW.pt{t:TT}(h:PW X e t):PT X e t:=h _
def PA(X:Cx)(es:List Expr)(t:TA):Prop :=
 ∀(pos:Pos) (pins:List (Addr×Obj)) (s:Shared) (σ:St) (H:Hp) (Q:List V->Hp->Prop),Inv X pins σ H s->t σ H Q->wpAny (model X.prog X.w) X.A (spliced$ backTo pos$ starEach es X.env) (AP X pins σ Q) X.xe s
def PS(X:Cx)(st:Stmt)(t:TS):Prop :=
 ∀(pins:List (Addr×Obj)) (s:Shared) (σ:St) (H:Hp) (D:fW),Inv X pins σ H s->t D σ H->wpAny (model X.prog X.w) X.A (exec st X.env) (SP X pins D) X.xe s
def PSs(X:Cx)(st:List Stmt)(t:TS):Prop :=
 ∀(pins:List (Addr×Obj)) (s:Shared) (σ:St) (H:Hp) (D:fW),Inv X pins σ H s->t D σ H->wpAny (model X.prog X.w) X.A (execs st X.env) (SP X pins D) X.xe s
theorem thn{α:Type}{t:Sem α}{Q O:α->Shared->Prop}{M:Model}{E:Value->Shared->Prop}(h:wpAny M A t Q E s)(S:∀a s,Q a s->O a s):wpAny M A t O E s:=qA3 h S λ_ _ x=>x
section
variable{X:Cx}
inductive rY(i:Nat)(σ:St)(H:Hp)(Q:VK):Prop
 |mk:∀v,σ[i]?=some (some v)->Q v H->rY i σ H Q
def tC(v:V):TE:=λ_ H Q=>Q v H
theorem wW{pos:Pos}(hN:X.N[i]?=some x)(hv:Vis X.env.scope x)(V:(x==("__debug__": Str))=false:=by decide)(W:(x==("__classdict__": Str))=false:=by decide):PE X (.Name x pos) (rY i):=by
 intro pins s σ H Q I h;obtain⟨v,e,h⟩:=h;obtain⟨m,hn,hl⟩:=I.loc;obtain⟨u,r,l⟩:=hl i x v hN e hv;have fin:EP X pins σ Q u s:=⟨v,H,I,r,h⟩;rcases l with⟨S,hm⟩|⟨S,c,hc,O⟩
 .exact wpAny_Name (wpAny_loadName_local I.ok.kind S hn hm fin) V
 .rcases S with S|S
  .exact wpAny_Name (wpAny_loadName_cell I.ok.kind S hc O fin) V
  .exact wpAny_Name (wpAny_loadName_free I.ok.kind S hc O fin W) V
theorem zAg{i j pos}:PE X (.Constant (.int i) j pos) (tC$ .int i):=λ_ _ _ H _ I h=>wpAny_Constant_int ⟨.int i,H,I.tok _,⟨_,rF⟩,h⟩
theorem zJz{b j pos}:PE X (.Constant (.bool b) j pos) (tC$ .bl b):=λ_ _ _ H _ I h=>Constant_bool ⟨.bl b,H,I,rF,h⟩
theorem jS{j pos}:PE X (.Constant .none j pos) (tC .non):=λ_ _ _ H _ I h=>Constant_none ⟨.non,H,I,rF,h⟩
theorem zAm{x j pos}:PE X (.Constant (.str x) j pos) (tC$ .str x):=λ_ _ _ H _ I h=>Calls.Constant_str ⟨.str x,H,I.tok _,⟨_,rF⟩,h⟩
def Gl(X:Cx)(x:Str):Prop:=X.env.kindOf x=some .globalImplicit
theorem zLz{E:Value->Shared->Prop}{pos:Pos}{Q:Value->Shared->Prop}(I:Inv X pins σ H s)(O:Gl X x)(S:X.mg x=some u)(h:Q u s)
  (V:(x==("__debug__": Str))=false:=by decide):wpAny (model X.prog X.w) X.A (eval (.Name x pos) X.env) Q E s :=
 Calls.Name_function_global I.ok.kind O (Calls.loadGlobal_global (by rw[I.ok.glob];exact I.mod.glob.keeps I.bk) S h) V
theorem zJi{E:Value->Shared->Prop}{pos:Pos}{Q:Value->Shared->Prop}(I:Inv X pins σ H s)(O:Gl X x)(S:X.mg x=none)(V:bootBuiltins x=some u)(h:Q u s)
  (W:x≠ "__name__":= by decide) (hd:(x==("__debug__": Str))=false:=by decide):wpAny (model X.prog X.w) X.A (eval (.Name x pos) X.env) Q E s:=by
 obtain⟨mb,h1,h2⟩:=I.mod.blt;exact Calls.Name_function_global I.ok.kind O (Calls.loadGlobal_builtin (by rw[I.ok.glob];exact I.mod.glob.keeps I.bk) S (by rw[I.ok.blt];exact h1.keeps I.bk) ((h2 x W).trans V) h) hd
theorem zDb{pos:Pos}(O:Gl X x)(S:X.mg x=some u)(r:eE v u)(V:(x==("__debug__": Str))=false:=by decide):PE X (.Name x pos) (tC v) :=
 λ_ _ _ H _ I h=>zLz I O S ⟨v,H,I,r,h⟩ V
theorem zCx{pos:Pos}(O:Gl X x)(S:X.mg x=none)(V:bootBuiltins x=some u)(r:eE v u)(W:x≠ "__name__":= by decide)(hd:(x==("__debug__": Str))=false:=by decide):PE X (.Name x pos) (tC v) :=
 λ_ _ _ H _ I h=>zJi I O S V ⟨v,H,I,r,h⟩ W hd
variable{a b:Expr}{ta tb:TE}{pos:Pos}
def PC(X:Cx)(op:CmpOp)(a b:Expr)(t:TE):Prop :=
 ∀(pins:List (Addr×Obj)) (s:Shared) (σ:St) (H:Hp) (Q:VK),Inv X pins σ H s->t σ H Q ->
  wpAny (model X.prog X.w) X.A (eval a X.env) (λv S=>wpAny (model X.prog X.w) X.A (eval b X.env) (λu O=>wpAny (model X.prog X.w) X.A (compareOp op v u) (EP X pins σ Q) X.xe O) X.xe S) X.xe s
inductive tBI(Q:Bool->Hp->Prop)(x:V)(H1:Hp):Prop
 |mk:∀c,x= .bl c->Q c H1->tBI Q x H1
def tB(t:TE):TT:=λσ H Q=>t σ H λx H1=>tBI Q x H1
theorem so{t:TE}(h:PC X op a b t)(h1:behindInMarks op b=false:=by first|exact nobehind _ dD dD|rfl):PE X (.Compare a [op] [b] pos) t:=λpins s σ H Q I hw=>wpAny_Compare1 (h pins s σ H Q I hw) h1
theorem zE0{t:TE}(h:PC X op a b t)(h1:behindInMarks op b=false:=by first|exact nobehind _ dD dD|rfl):PT X (.Compare a [op] [b] pos) (tB t):=by
 intro pins s σ H Q I hw;refine wpAny_isTrue_Compare1 (thn (h pins s σ H _ I hw) λv W h1=>thn h1 λu s2 h2=>thn h2 λc s3 ⟨x,H1,O,S,V⟩=>?_) h1;obtain⟨d,rfl,q⟩:=V
 cases S
 exact qBO ⟨H1,O,q⟩
theorem zBv{t:TE}(h:PE X e t)(O:∀whole,isTrue e X.env whole=(do let v<-whole;standAt e.pos;holding [v] (truthy v)):=by intro _;rfl):PT X e (tB t):=by
 intro pins s σ H Q I hw;refine isTrue_plain (thn (h pins s σ H _ I hw) λv s1 ⟨x,H1,S,V,W⟩=>?_)$ O _;obtain⟨d,rfl,q⟩:=W
 cases V
 exact qBO ⟨H1,S,q⟩
variable{tA tB':TT}{rest:List Expr}
def zh(t u:TT):TT:=λσ H Q=>t σ H λc H1=>if c=true then u σ H1 Q else Q false H1
def tOr(t u:TT):TT:=λσ H Q=>t σ H λc H1=>if c=true then Q true H1 else u σ H1 Q
def yX(t:TT):TT:=λσ H Q=>t σ H λc H1=>Q (!c) H1
theorem zK9(O:PT X a tA):PW X (.BoolOp .And [a] pos) tA:=by
 intro W pins s σ H Q I h;refine isTrue_and$ thn (O pins s σ H Q I h) λc S e=>?_
 cases c with
 |true=>exact isTrue_and_nil e
 |false=>exact e
theorem zEy(O:PT X a tA):PW X (.BoolOp .Or [a] pos) tA:=by
 intro W pins s σ H Q I h;refine isTrue_or$ thn (O pins s σ H Q I h) λc S e=>?_
 cases c with
 |false=>exact isTrue_or_nil e
 |true=>exact e
theorem ku(V:PT X a tA)(W:PW X (.BoolOp .And (b::rest) pos) tB'):PW X (.BoolOp .And (a::b::rest) pos) (zh tA tB'):=by
 intro wh pins s σ H Q I h;refine isTrue_and$ thn (V pins s σ H _ I h) λc s1 ⟨H1,O,S⟩=>?_
 cases c with
 |true=>exact W wh pins s1 σ H1 Q O S
 |false=>exact⟨H1,O,S⟩
theorem zI8(V:PT X a tA)(W:PW X (.BoolOp .Or (b::rest) pos) tB'):PW X (.BoolOp .Or (a::b::rest) pos) (tOr tA tB'):=by
 intro wh pins s σ H Q I h;refine isTrue_or$ thn (V pins s σ H _ I h) λc s1 ⟨H1,O,S⟩=>?_
 cases c with
 |true=>exact⟨H1,O,S⟩
 |false=>exact W wh pins s1 σ H1 Q O S
theorem zBy(O:PT X a tA):PT X (.UnaryOp .Not a pos) (yX tA):=by
 intro pins s σ H Q I h;exact isTrue_not$ O pins s σ H (λc H1=>Q (!c) H1) I h
inductive sd(tb:TE)(σ:St)(Q:VK)(x:V)(H1:Hp):Prop
 |mk:∀c,x= .bl c->(if c=true then tb σ H1 Q else Q (.bl false) H1)->sd tb σ Q x H1
def yE(ta tb:TE):TE:=λσ H Q=>ta σ H λx H1=>sd tb σ Q x H1
inductive vZ(tb:TE)(σ:St)(Q:VK)(x:V)(H1:Hp):Prop
 |mk:∀c,x= .bl c->(if c=true then Q (.bl true) H1 else tb σ H1 Q)->vZ tb σ Q x H1
def zD(ta tb:TE):TE:=λσ H Q=>ta σ H λx H1=>vZ tb σ Q x H1
inductive rc(Q:VK)(x:V)(H1:Hp):Prop
 |mk:∀c,x= .bl c->Q (.bl$ !c) H1->rc Q x H1
def yL(ta:TE):TE:=λσ H Q=>ta σ H λx H1=>rc Q x H1
theorem jE{op}{t:TE}(h:PE X a t):PE X (.BoolOp op [a] pos) t:=λpins s σ H Q I hw=>BoolOp_one$ h pins s σ H Q I hw
theorem mP(V:PE X a ta)(W:PE X (.BoolOp .And (b::rest) pos) tb):PE X (.BoolOp .And (a::b::rest) pos) (yE ta tb):=by
 intro pins s σ H Q I h;refine BoolOp_and$ thn (V pins s σ H _ I h) λv s1 ⟨x,H1,S,r1,O⟩=>?_;obtain⟨c,rfl,O⟩:=O
 cases r1
 refine qBO ?_
 cases c with
 |true=>exact W pins s1 σ H1 Q S O
 |false=>exact⟨.bl false,H1,S,rF,O⟩
theorem yh(V:PE X a ta)(W:PE X (.BoolOp .Or (b::rest) pos) tb):PE X (.BoolOp .Or (a::b::rest) pos) (zD ta tb):=by
 intro pins s σ H Q I h;refine BoolOp_or$ thn (V pins s σ H _ I h) λv s1 ⟨x,H1,S,r1,O⟩=>?_;obtain⟨c,rfl,O⟩:=O
 cases r1
 refine qBO ?_
 cases c with
 |false=>exact W pins s1 σ H1 Q S O
 |true=>exact⟨.bl true,H1,S,rF,O⟩
theorem xr(S:PE X a ta):PE X (.UnaryOp .Not a pos) (yL ta):=by
 intro pins s σ H Q I h;refine UnaryOp_$ thn (S pins s σ H _ I h) λv s1 ⟨x,H1,V,W,O⟩=>?_;obtain⟨c,rfl,O⟩:=O
 cases W
 exact not_of$ qBO ⟨.bl$ !c,H1,V,rF,O⟩
def tIf(t:TT)(ta tb:TE):TE:=λσ H Q=>t σ H λc H1=>if c=true then ta σ H1 Q else tb σ H1 Q
theorem zLe{c:Expr}(W:PT X c tA)(ha:PE X a ta)(hb:PE X b tb):PE X (.IfExp c a b pos) (tIf tA ta tb):=by
 intro pins s σ H Q I h;refine wpAny_IfExp$ thn (W pins s σ H _ I h) λd S ⟨H1,O,V⟩=>?_
 cases d with
 |true=>exact ha pins S σ H1 Q O V
 |false=>exact hb pins S σ H1 Q O V
end
def SqL(K:PySem.W.Frag)(H:Hp)(a:Addr)(xs:List V):Prop :=
 Rd H a (.lst xs) \/
  ∃(o:Obj)(its:Array Value)(n:Nat),K.lookup a=some o/\o.cls= .type "list"/\o.dict=none/\o.data= .seq its n/\its.size<=sizeLine/\eB xs its.toList
def SqT(K:PySem.W.Frag)(H:Hp)(a:Addr)(xs:List V):Prop :=
 Rd H a (.tup xs) \/
  ∃(o:Obj)(its:Array Value)(n:Nat),K.lookup a=some o/\o.cls= .type "tuple"/\o.data= .seq its n/\its.size<=sizeLine/\eB xs its.toList
def y8:Value->Option V
 | .none=>some .non
 | .bool b=>some (.bl b)
 | .int i _=>some (.int i)
 | .str x _=>some (.str x)
 | .bytes b _=>some (.byt b)
 | .float b _=>some (.flt b)
 | .ref a=>some (.ref a)
 | .type n=>some (.ty n)
 |_=>none
theorem eE.abs{x:V}(r:eE x u):y8 u=some x:=by
 cases x with
 |non=>cases r;rfl
 |bl _=>cases r;rfl
 |int _=>obtain⟨t,rfl⟩:=r;rfl
 |str _=>obtain⟨t,rfl⟩:=r;rfl
 |byt _=>obtain⟨t,rfl⟩:=r;rfl
 |flt _=>obtain⟨t,rfl⟩:=r;rfl
 |ref _=>cases r;rfl
 |ty _=>cases r;rfl
theorem eE.inj{x:V}(r:eE x u)(q:eE y u):x=y:=qAh$ r.abs.symm.trans q.abs
theorem eB.inj:∀{xs ys:List V}{us:List Value},eB xs us->eB ys us->xs=ys:=by
 intro xs ys us h h'
 induction h generalizing ys with
 |nil=>cases h';rfl
 |cons r t O=>
  cases h' with
  |cons S t'=>rw[r.inj S,O t']
section
variable{X:Cx}{pins:List (Addr×Obj)}{σ:St}{H:Hp}{s:Shared}{a:Addr}{xs ys:List V}
theorem SqL.of(h:H a=some (.lst xs)):SqL K H a xs:=.inl$ .inl h
theorem SqT.of(h:H a=some (.tup xs)):SqT K H a xs:=.inl$ .inl h
theorem Inv.list(I:Inv X pins σ H s)(h:SqL X.K H a xs):∃its:List Value,eB xs its/\PlainL s.heap a its.toArray/\xs.length<=sizeLine:=by
 rcases h with h|⟨o,its,n,O,S,V,hs,W,r⟩
 .obtain ⟨z,its,n,r,e⟩:=h.ok I.hok;exact⟨its,r,⟨_,n,e,rF,rF,rF⟩,z⟩
 .refine ⟨its.toList,r,⟨o,n,I.kIn a o O,S,V,by simpa using hs⟩,?_⟩;have e:=r.length;simp only[qBv]at e;lia
theorem Inv.tuple(I:Inv X pins σ H s)(h:SqT X.K H a xs):∃its:List Value,eB xs its/\IsTup s.heap a its.toArray/\xs.length<=sizeLine:=by
 rcases h with h|⟨o,its,n,O,S,hs,V,r⟩
 .obtain ⟨z,its,r,p⟩:=h.ok I.hok;exact⟨its,r,p,z⟩
 .refine ⟨its.toList,r,⟨o,I.kIn a o O,S,n,by simpa using hs⟩,?_⟩;have e:=r.length;simp only[qBv]at e;lia
theorem Inv.list_inj(I:Inv X pins σ H s)(h:SqL X.K H a xs)(h':SqL X.K H a ys):xs=ys:=by
 obtain⟨its,r,⟨o,n,e,_,_,d⟩,_⟩:=I.list h;obtain⟨its',O,⟨o',S,e',_,_,d'⟩,_⟩:=I.list h';rw[e]at e';cases e';rw[d]at d';injection d' with d1 _;have:its=its':=by simpa using qAf Array.toList d1
 subst this;exact r.inj O
theorem Inv.tuple_inj(I:Inv X pins σ H s)(h:SqT X.K H a xs)(h':SqT X.K H a ys):xs=ys:=by
 obtain⟨its,r,⟨o,e,_,n,d⟩,_⟩:=I.tuple h;obtain⟨its',O,⟨o',e',_,S,d'⟩,_⟩:=I.tuple h';rw[e]at e';cases e';rw[d]at d';injection d' with d1 _;have:its=its':=by simpa using qAf Array.toList d1
 subst this;exact r.inj O
end
abbrev Cx.wish(X:Cx)(E:Value->Shared->Prop):Cx:={X with xe:=E}
abbrev Cx.nox(X:Cx):Cx:=X.wish λ_ _=>False
theorem Cx.Ok.wish(ok:X.Ok)(E:Value->Shared->Prop):(X.wish E).Ok :=
 ⟨ok.mod,ok.kind,ok.glob,ok.blt,ok.above,ok.inj,ok.has,ok.cab,ok.hd,ok.frames,ok.stk,ok.exf,ok.bs,ok.bsz,ok.noex,ok.exfs,ok.funs,ok.frf⟩
theorem Cx.Ok.unwish{E:Value->Shared->Prop}(ok:(X.wish E).Ok):X.Ok :=
 ⟨ok.mod,ok.kind,ok.glob,ok.blt,ok.above,ok.inj,ok.has,ok.cab,ok.hd,ok.frames,ok.stk,ok.exf,ok.bs,ok.bsz,ok.noex,ok.exfs,ok.funs,ok.frf⟩
section
variable{X:Cx}{pins:List (Addr×Obj)}{σ:St}{H:Hp}{s:Shared}{E:Value->Shared->Prop}
theorem Inv.wish(I:Inv X pins σ H s)(E:Value->Shared->Prop):Inv (X.wish E) pins σ H s:=⟨I.ok.wish E,I.os,I.bare,I.base,I.loc,I.cell,I.free,I.freeC,I.pin,I.hok,I.len⟩
theorem Inv.unwish(I:Inv (X.wish E) pins σ H s):Inv X pins σ H s:=⟨I.ok.unwish,I.os,I.bare,I.base,I.loc,I.cell,I.free,I.freeC,I.pin,I.hok,I.len⟩
theorem SP.unwish{f:Flow}{s':Shared}(h:SP (X.wish E) pins D f s'):SP X pins D f s':=by
 cases f with
 |next=>obtain⟨O,H',I,q⟩:=h;exact⟨O,H',I.unwish,q⟩
 |brk=>obtain⟨O,H',I,q⟩:=h;exact⟨O,H',I.unwish,q⟩
 |cont=>obtain⟨O,H',I,q⟩:=h;exact⟨O,H',I.unwish,q⟩
 |ret u=>obtain⟨v,O,H',I,r,q⟩:=h;exact⟨v,O,H',I.unwish,r,q⟩
theorem PSs.nox{st:List Stmt}{t:TS}(h:PSs X.nox st t):PSs X st t:=λpins s σ H D I hw=>
 qA3 (h pins s σ H D (I.wish _) hw) (λ_ _ q=>q.unwish) λ_ _ z=>False.elim z
end
section
variable{X:Cx}{st:Stmt}{rest:List Stmt}{t u:TS}{e:Expr}{te:TE}{pos:Pos}
def wm:TS:=λD σ H=>D.nx σ H
def eK(t u:TS):TS:=λD σ H=>t {D with nx:=u D} σ H
theorem zAi:PSs X [] wm:=λ_ _ σ H _ I h=>qCz ⟨σ,H,I,h⟩
theorem zAb(h1:PS X st t)(h2:PSs X rest u):PSs X (st::rest) (eK t u):=by
 intro pins s σ H D I h;refine wpAny_execs_cons$ thn (h1 pins s σ H {D with nx:=u D} I h) λf S q=>?_
 cases f with
 |next=>
  obtain⟨O,H',V,q⟩:=q;exact h2 pins S O H' D V q
 |ret v=>exact q
 |brk=>exact q
 |cont=>exact q
theorem zAd(h1:PS X st t):PSs X [st] t:=by
 intro pins s σ H D I h;refine wpAny_execs_cons$ thn (h1 pins s σ H D I h) λf S q=>?_
 cases f with
 |next=>exact qCz q
 |ret v=>exact q
 |brk=>exact q
 |cont=>exact q
theorem Inv.quiet(I:Inv X pins σ H s):interactive X.env=false:=by simp[interactive,I.ok.kind]
def yp(te:TE):TS:=λD σ H=>te σ H λ_ H1=>D.nx σ H1
theorem zBb(O:PE X e te)(hs:swapsWith e none pos.line X.env=pure false:=by rfl):PS X (.Expr e pos) (yp te):=by
 intro pins s σ H D I h;exact wpAny_Expr_any (thn (O pins s σ H _ I h) λv W ⟨x,H1,S,r1,V⟩=>⟨σ,H1,S,V⟩) I.quiet hs
def zc(te:TE):TS:=λD σ H=>te σ H D.rt
theorem zAk(O:PE X e te):PS X (.Return (some e) pos) (zc te):=by
 intro pins s σ H D I h;exact wpAny_Return_some$ thn (O pins s σ H _ I h) λv s1 ⟨x,H1,S,V,W⟩=>⟨x,σ,H1,S,V,W⟩
def zj(c:TT)(t u:TS):TS:=λD σ H=>c σ H λb H1=>if b=true then t D σ H1 else u D σ H1
theorem zA1{c:Expr}{a b:List Stmt}{tc:TT}(W:PT X c tc)(ha:PSs X a t)(hb:PSs X b u):PS X (.If c a b pos) (zj tc t u):=by
 intro pins s σ H D I h;refine wpAny_If$ thn (W pins s σ H _ I h) λd S ⟨H1,O,V⟩=>?_
 cases d with
 |true=>exact ha pins S σ H1 D O V
 |false=>exact hb pins S σ H1 D O V
def tG:TS:=λ_ _ _=>False
theorem zAq:PS X st tG:=λ_ _ _ _ _ _ h=>h.elim
theorem zGt{S:List Stmt}:PSs X S tG:=λ_ _ _ _ _ _ h=>h.elim
end
abbrev TG:=V->St->Hp->(St->Hp->Prop)->Prop
variable{g:TG}
abbrev TGs:=List V->St->Hp->(St->Hp->Prop)->Prop
def PG(X:Cx)(O:Expr)(t:TG):Prop :=
 ∀(pins:List (Addr×Obj)) (s:Shared) (σ:St) (H:Hp) (v:V) (u:Value) (Q:St->Hp->Prop),Inv X pins σ H s->eE v u->t v σ H Q ->
  wpAny (model X.prog X.w) X.A (assign O X.env u) (λ_ s'=>∃S H',Inv X pins S H' s'/\Q S H') X.xe s
def PGs(X:Cx)(ts:List Expr)(t:TGs):Prop :=
 ∀(pins:List (Addr×Obj)) (s:Shared) (σ:St) (H:Hp) (vs:List V) (us:List Value) (Q:St->Hp->Prop),Inv X pins σ H s->eB vs us->t vs σ H Q ->
  wpAny (model X.prog X.w) X.A (assignInOrder ((assignEach ts X.env).map (·.2)) us) (λ_ s'=>∃O H',Inv X pins O H' s'/\Q O H') X.xe s
abbrev wU:=V->V->V->Hp->(Hp->Prop)->Prop
def yF(X:Cx)(t:wU):Prop :=
 ∀(pins:List (Addr×Obj)) (s:Shared) (σ:St) (H:Hp) (o i v:V) (O S u:Value) (Q:Hp->Prop),Inv X pins σ H s->eE o O->eE i S->eE v u->t o i v H Q ->
  wpAny (model X.prog X.w) X.A (setItem O S u) (λ_ s'=>∃H',Inv X pins σ H' s'/\Q H') X.xe s
section
variable{X:Cx}{pos:Pos}
def gz(i:Nat):TG:=λv σ H Q=>Q (σ.set i$ some v) H
theorem oM(O:X.N.Nodup)(hi:X.N[i]?=some x)(S:Loc X.env.scope x)(V:X.fn x=true\/X.env.scope.names.lookup x=some .local:=by first|exact .inl rF|exact .inr rF|assumption):PG X (.Name x pos) (gz i):=by
 intro pins s σ H v u Q I r h;exact wpAny_assign_Name$ my I O hi S r (λs' W=>⟨_,H,W,h⟩) V
def y_:TGs:=λvs σ H Q=>vs=[]/\Q σ H
inductive v9(t:TG)(u:TGs)(vs:List V)(σ:St)(H:Hp)(Q:St->Hp->Prop):Prop
 |mk:∀v r,vs=v::r->(t v σ H λσ' H'=>u r σ' H' Q)->v9 t u vs σ H Q
theorem zBz:PGs X [] y_:=by
 intro pins s σ H vs us Q I r h;obtain⟨e,h⟩:=h;subst e
 cases r
 exact assignInOrder_nil ⟨σ,H,I,h⟩
theorem zAr{es:List Expr}{t:TG}{u:TGs}(h1:PG X e t)(h2:PGs X es u)
  (hs:(assignEach (e::es) X.env).map (·.2)=assign e X.env::(assignEach es X.env).map (·.2):=by rfl):PGs X (e::es) (v9 t u):=by
 intro pins s σ H vs us Q I r h;obtain⟨v,vr,S,h⟩:=h;subst S
 cases r with
 |cons r V=>
  rw[hs];refine assignInOrder_cons$ thn (h1 pins s σ H _ _ _ I r h) λ_ W ⟨O,H1,I1,q1⟩=>?_;exact h2 pins W O H1 _ _ Q I1 V q1
inductive xC(K:PySem.W.Frag)(n:Nat)(t:TGs)(v:V)(σ:St)(H:Hp)(Q:St->Hp->Prop):Prop
 |mk:∀a xs,v= .ref a->SqT K H a xs->xs.length=n->t xs σ H Q->xC K n t v σ H Q
theorem zEm{es:List Expr}{k:Nat}{t:TGs}{n:Nat}(S:X.calm=true)(h:PGs X es t)
  (W:(assignEach es X.env).length=n:=by rfl) (O:(assignEach es X.env).findIdx? (·.1)=none:=by rfl):PG X (.Tuple es k pos) (xC X.K n t):=by
 intro pins s σ H v u Q I r hw;obtain⟨a,xs,e1,hq,hl,hw⟩:=hw;subst e1
 cases r
 obtain⟨its,V,ht,hz⟩:=I.tuple hq;refine assign_Tuple_tuple (I.ok.hd S) ht (by simp[W,<-hl,V.length]) O λh' hx=>?_;have I1:Inv X pins σ H {s with heap:=h'}:=I.kept (t':=s.toks) λb o e=>hx b o (qAe$ qAW e) e;exact h pins _ σ H xs _ Q I1 (by simpa using V) hw
def zi(to O:TE)(t:wU):TG:=λv σ H Q=>to σ H λo H1=>O σ H1 λi H2=>t o i v H2 λS=>Q σ S
theorem jP{o i:Expr}{to O:TE}{t:wU}(S:PE X o to)(hi:PE X i O)(hs:yF X t)
  (V:∀v,assign (.Subscript o i pos) X.env v=(do
   let ov<-holding [v] (eval o X.env)
   let iv<-holding [v,ov] (eval i X.env)
   standAt pos
   holding [v,ov,iv] (setItem ov iv v)
   release [v,ov,iv] []):=by intro _;rfl):PG X (.Subscript o i pos) (zi to O t):=by
 intro pins s σ H v u Q I r h;rw[V];refine qAA$ qBF$ thn (S pins s σ H _ I h) λov W ⟨x,H1,I1,r1,q1⟩=>?_;refine qAA$ qBF$ thn (hi pins W σ H1 _ I1 q1) λiv s2 ⟨y,H2,I2,r2,q2⟩=>?_;refine qAA$ qCT$ qAA$ qBF$ thn (hs pins s2 σ H2 x y v ov iv u _ I2 r1 r2 r q2) λ_ s3 ⟨H3,I3,q3⟩=>?_;exact wpAny_release ⟨σ,H3,I3,q3⟩
def uA(te:TE)(g:TG):TS:=λD σ H=>te σ H λx H1=>g x σ H1 D.nx
theorem zKg{te:TE}(O:PE X e te)(S:PG X tg g)(hs:swapsWithSole [tg] e pos.line X.env=pure false:=by rfl)(hw:swappedStores [tg] e X.env=pure none:=by rfl)
  (h1:(assignEach [tg] X.env).map (·.2)=[assign tg X.env]:=by rfl):PS X (.Assign [tg] e pos) (uA te g):=by
 intro pins s σ H D I h;refine wpAny_Assign_stores (thn (O pins s σ H _ I h) λv V ⟨x,H1,W,r1,q1⟩=>?_) hs hw;rw[h1];exact thn (S pins V σ H1 x v _ W r1 q1) λ_ s2 q=>q
theorem xq{te:TE}{pos':Pos}(O:X.N.Nodup)(hi:X.N[i]?=some x)(S:Loc X.env.scope x)(V:PE X e te)(hs:swapsWith e (some$ .Name x pos') pos.line X.env=pure false:=by rfl)(W:X.fn x=true\/X.env.scope.names.lookup x=some .local:=by first|exact .inl rF|exact .inr rF|assumption) :
  PS X (.Assign [.Name x pos'] e pos) (uA te$ gz i):=by
 intro pins s σ H D I h;refine wpAny_Assign_Name (thn (V pins s σ H _ I h) λv s1 ⟨y,H1,I1,r1,q1⟩=>?_) hs;exact my I1 O hi S r1 (λs2 I2=>⟨_,H1,I2,q1⟩) W
end
section
variable{X:Cx}{pos:Pos}
def gF(c:TT)(tb:TS):TS:=λD σ H=>∃W:Nat->St->Hp->Prop,(∃m,W m σ H)/\∀m σ H,W m σ H ->
 c σ H λb H1=>if b=true then∃N:St->Hp->Prop,(∀O H',N O H'->∃S,S<m/\W S O H')/\tb {D with nx:=N,ct:=N,bk:=D.nx} σ H1 else D.nx σ H1
theorem zGu{c:Expr}{body:List Stmt}{tc:TT}(hp:PassesOwn (model X.prog X.w) X.A X.env X.xe)(hc:PT X c tc)(hb:PSs X body tb):PS X (.While c body [] pos) (gF tc tb):=by
 intro pins s σ H D I h;obtain⟨W,⟨m0,w0⟩,V⟩:=h;refine wpAny_While$ codeAny_whileLoop (λn s'=>∃aa H',Inv X pins aa H' s'/\W n aa H') ?_ m0 ⟨σ,H,I,w0⟩;rintro n s1 ⟨S,H1,I1,w1⟩;refine qBw hp$ thn (hc pins s1 S H1 _ I1$ V n S H1 w1) λb s2 ⟨H2,I2,q2⟩=>?_
 cases b with
 |true=>
  obtain⟨N,hN,q2⟩:=q2;rw[qAD rF];refine qBw hp$ thn (hb pins s2 S H2 _ I2 q2) λf s3 q3=>?_
  cases f with
  |next=>
   obtain⟨O,H3,I3,n3⟩:=q3;obtain⟨m',hm,w3⟩:=hN O H3 n3;exact⟨m',hm,O,H3,I3,w3⟩
  |cont=>
   obtain⟨O,H3,I3,n3⟩:=q3;obtain⟨m',hm,w3⟩:=hN O H3 n3;exact⟨m',hm,O,H3,I3,w3⟩
  |brk=>exact q3
  |ret v=>exact q3
 |false=>
  rw[qAC qAk];exact qCz ⟨S,H2,I2,q2⟩
end
structure It where
 go:Nat->Hp->Prop
 yld:Nat->Hp->V->Hp->Prop
 stop:Nat->Hp->Prop
def ie(X:Cx)(pins:List (Addr×Obj))(H:Hp)(b:Addr):Prop :=
 H b=none/\b≠X.env.locals/\b∉X.fs/\(b∈X.ex\/X.s₀.heap.objs.size<=b)/\(∀x c,X.env.cells.lookup x=some c->c≠b)/\∀p∈X.pn++pins,p.1≠b
theorem Inv.fpOk{H':Hp}{b:Addr}(I:Inv X pins σ H s)(O:s.heap.objs.size<=b)(S:H' b=none):ie X pins H' b:=by
 refine⟨S,qBV$ qAs I.lt O,I.nofs O,.inr$ qAR I.sz O,λx c e z=>?_,λp V z=>?_⟩
 .obtain ⟨v,q⟩:=I.cell x c e;exact absurd (qAs q.lt$ by rw[z];exact O)$ qBe _
 .exact absurd (qAs (qAW (I.pin p V).1)$ by rw[z];exact O)$ qBe _
structure ig(P:Program)(w:World)(K:PySem.W.Frag)(tg:Expr)(J:It)(fp:List Addr)(it:Addr)(tn:Nat->Heap->Prop):Prop where
 mem:it∈fp
 obj:∀i h,tn i h->∀b∈fp,∃o,h.get? b=some o/\∀v,o.data≠.cell v
 keep:∀i h h',tn i h->(∀b∈fp,∀o,h.get? b=some o->h'.get? b=some o)->tn i h'
 item:∀(X:Cx),X.prog=P->X.w=w->X.K=K->X.calm=true->∀(i:Nat) (pins:List (Addr×Obj)) (s:Shared) (σ:St) (H:Hp) (E:Value->Shared->Prop),Inv X pins σ H s->(∀b∈fp,ie X pins H b)->tn i s.heap->J.go i H ->
  wpAny (model P w) X.A (pyNext$ .ref it) (λr s1=>∃u,r=some u /\ wpAny (model P w) X.A (letOwnedTupleGo tg (.ref it) u) (λ_ s2=>∃x H',Inv X pins σ H' s2/\eE x u/\J.yld i H x H'/\tn (i+1) s2.heap/\∀b∈fp,H' b=none) E s1) E s
 done:∀(X:Cx),X.prog=P->X.w=w->X.K=K->X.calm=true->∀(i:Nat) (pins:List (Addr×Obj)) (s:Shared) (σ:St) (H:Hp) (E:Value->Shared->Prop),Inv X pins σ H s->(∀b∈fp,ie X pins H b)->tn i s.heap->J.stop i H ->
  wpAny (model P w) X.A (pyNext$ .ref it) (λr s1=>r=none/\Inv X pins σ H s1) E s
 self:∀(A:Around)(i:Nat)(s:Shared)(Q:Value->Shared->Prop)(E:Value->Shared->Prop),tn i s.heap->Q (.ref it) s->wpAny (model P w) A (pyIter$ .ref it) Q E s
abbrev TI:=St->Hp->(It->Hp->Prop)->Prop
def PIE(X:Cx)(pins:List (Addr×Obj))(σ:St)(tg:Expr)(R:It->Hp->Prop)(V:Value)(s2:Shared):Prop :=
 ∃(O:Addr)(fp:List Addr)(S:Nat->Heap->Prop)(J:It)(H':Hp),V= .ref O/\Inv X pins σ H' s2/\ig X.prog X.w X.K tg J fp O S/\S 0 s2.heap/\(∀b∈fp,ie X pins H' b)/\R J H'
def PI(X:Cx)(tg iter:Expr)(wi:TI):Prop :=
 ∀(pins:List (Addr×Obj)) (s:Shared) (σ:St) (H:Hp) (R:It->Hp->Prop),Inv X pins σ H s->wi σ H R ->
  wpAny (model X.prog X.w) X.A (eval iter X.env) (λv S=>wpAny (model X.prog X.w) X.A (pyIter v) (PIE X pins σ tg R) X.xe S) X.xe s
theorem mB{M:Model}{E:Value->Shared->Prop}{s:Shared}{S:Addr}{o:Obj}{n:String}{vs:Array Value}{Q:Unit->Shared->Prop}(V:s.heap.get? S=some o)(W:o.cls= .type n)(hd:o.data= .fields vs)
  (hn:["enumerate","zip","dict_itemiterator","dict_reverseitemiterator","odict_iterator","itertools.zip_longest","itertools.pairwise"].contains n=false) (O:Q () s):wpAny M A (letOwnedTupleGo tg (.ref S) u) Q E s:=by
 unfold letOwnedTupleGo
 cases tg<;>first
  |exact qAE O
  | (cases u<;>first
    |exact qAE O
    | (refine qAA$ wpAny_load V ?_
       rw[W,hd];show wpAny M A (if(["enumerate","zip","dict_itemiterator","dict_reverseitemiterator","odict_iterator","itertools.zip_longest","itertools.pairwise"].contains n&&vs[0]?==some (rawInt _))=true then _ else _) Q E s;rw[qAC$ by intro h;rw[hn,qC0]at h;cases h];exact qAE O))
def Itl(K:PySem.W.Frag)(a:Addr):It :=
 ⟨λi H=>∃xs x,SqL K H a xs/\xs[i]?=some x,λi H x H'=>H'=H/\∀xs,SqL K H a xs->xs[i]?=some x,λi H=>∃xs,SqL K H a xs/\xs.length<=i⟩
def Itt(K:PySem.W.Frag)(a:Addr):It :=
 ⟨λi H=>∃xs x,SqT K H a xs/\xs[i]?=some x,λi H x H'=>H'=H/\∀xs,SqT K H a xs->xs[i]?=some x,λi H=>∃xs,SqT K H a xs/\xs.length<=i⟩
def Itr(lo:Int)(n:Nat):It:=⟨λi _=>i<n,λi H x H'=>H'=H/\x= .int (lo+i),λi _=>n<=i⟩
theorem qc(a O:Addr):ig P w K tg (Itl K a) [O] O (λi h=>h.IsListIter O a i) where
 mem:=sS
 obj:=λi h st b S=>by
  have e:b=O:=by simpa using S
  subst e;obtain⟨o,e,c,d⟩:=st;exact⟨o,e,λv z=>by rw[d]at z;cases z⟩
 keep:=λi h h' st k=>st.at λo e=>k O sS o e
 item:=by
  intro X hP hw hK hc i pins s σ H E I W st hg;subst hP hw hK;obtain⟨xs,x,hq,hx⟩:=hg;obtain⟨its,rv,p,hz⟩:=I.list hq;obtain⟨u,hu,ru⟩:=rv.get hx;obtain⟨f0,f1,f2,f3,f4,f5⟩:=W O sS;refine wpAny_pyNext_list_item st p.isList (x:=u) (by simpa using hu) λh' V sb=>?_;have I1:Inv X pins σ H {s with heap:=h'}:=I.turned (t':=s.toks) (λb o S e=>(sb.2 b S).trans e) f0 f1 f3 f4 f5;obtain⟨o,e,c,d⟩:=id V;exact⟨u,rF,mB (s:={s with heap:=h'}) e c d dD ⟨x,H,I1,ru,⟨rF,λys hy=>by rw[I.list_inj hy hq];exact hx⟩,V,λb S=>(W b S).1⟩⟩
 done:=by
  intro X hP hw hK hc i pins s σ H E I W st hg;subst hP hw hK;obtain⟨xs,hq,hx⟩:=hg;obtain⟨its,rv,p,hz⟩:=I.list hq;obtain⟨f0,f1,f2,f3,f4,f5⟩:=W O sS;have hl:=rv.length;exact wpAny_pyNext_list_end (I.ok.hd hc) st p.isList (by simp;lia) λh' eb=>⟨rF,I.turned (t':=s.toks) (λb o S e=>eb b o S e) f0 f1 f3 f4 f5⟩
 self:=λ_ _ _ _ _ st h=>wpAny_pyIter_listiter st h
theorem nM(a O:Addr):ig P w K tg (Itt K a) [O] O (λi h=>h.IsTupleIter O a i) where
 mem:=sS
 obj:=λi h st b S=>by
  have e:b=O:=by simpa using S
  subst e;obtain⟨o,e,c,d⟩:=st;exact⟨o,e,λv z=>by rw[d]at z;cases z⟩
 keep:=λi h h' st k=>st.at λo e=>k O sS o e
 item:=by
  intro X hP hw hK hc i pins s σ H E I W st hg;subst hP hw hK;obtain⟨xs,x,hq,hx⟩:=hg;obtain⟨its,rv,p,hz⟩:=I.tuple hq;obtain⟨u,hu,ru⟩:=rv.get hx;obtain⟨f0,f1,f2,f3,f4,f5⟩:=W O sS;refine wpAny_pyNext_tuple_item st (show s.heap.IsTuple a its.toArray from p) (x:=u) (by simpa using hu) λh' V sb=>?_;have I1:Inv X pins σ H {s with heap:=h'}:=I.turned (t':=s.toks) (λb o S e=>(sb.2 b S).trans e) f0 f1 f3 f4 f5;obtain⟨o,e,c,d⟩:=id V;exact⟨u,rF,mB (s:={s with heap:=h'}) e c d dD ⟨x,H,I1,ru,⟨rF,λys hy=>by rw[I.tuple_inj hy hq];exact hx⟩,V,λb S=>(W b S).1⟩⟩
 done:=by
  intro X hP hw hK hc i pins s σ H E I W st hg;subst hP hw hK;obtain⟨xs,hq,hx⟩:=hg;obtain⟨its,rv,p,hz⟩:=I.tuple hq;obtain⟨f0,f1,f2,f3,f4,f5⟩:=W O sS;have hl:=rv.length;exact wpAny_pyNext_tuple_end (I.ok.hd hc) st (show s.heap.IsTuple a its.toArray from p) (by simp;lia) λh' eb=>⟨rF,I.turned (t':=s.toks) (λb o S e=>eb b o S e) f0 f1 f3 f4 f5⟩
 self:=λ_ _ _ _ _ st h=>wpAny_pyIter_tupleiter st h
theorem nP(O:Addr)(lo:Int)(n:Nat):ig P w K tg (Itr lo n) [O] O (λi h=>IsRangeIter h O (lo+(i:Nat)*1) ((n:Int)-(i:Nat)) 1) where
 mem:=sS
 obj:=λi h st b S=>by
  have e:b=O:=by simpa using S
  subst e
  exact⟨_,st,λv z=>by
   have z':Data.fields _=Data.cell v:=z
   cases z'⟩
 keep:=λi h h' st k=>k O sS _ st
 item:=by
  intro X hP hw hK hc i pins s σ H E I hf st hg;subst hP hw hK;obtain⟨f0,f1,f2,f3,f4,f5⟩:=hf O sS;have W:=Walks.range (prog:=X.prog) (w:=X.w) (I.ok.hd hc) O lo 1 n;refine W.item i s _ _ hg st λv h' tk hv V kk=>?_;obtain⟨t,rfl⟩:=hv;have I1:Inv X pins σ H {s with heap:=h',toks:=tk}:=I.turned (λb o S e=>kk b o (by simpa using S) e) f0 f1 f3 f4 f5;refine⟨_,rF,mB (s:={s with heap:=h',toks:=tk}) (n:="range_iterator") V rF rF dD ⟨.int$ lo+i,H,I1,⟨t,?_⟩,⟨rF,rF⟩,V,λb S=>(hf b S).1⟩⟩;rw[Int.mul_one]
 done:=by
  intro X hP hw hK hc i pins s σ H E I hf st hg;subst hP hw hK;obtain⟨f0,f1,f2,f3,f4,f5⟩:=hf O sS;exact wpAny_pyNext_range_end (I.ok.hd hc) st (by have:n<=i:=hg;lia) λh' eb=>⟨rF,I.turned (t':=s.toks) (λb o S e=>eb b o S e) f0 f1 f3 f4 f5⟩
 self:=λ_ _ _ _ _ st h=>wpAny_pyIter_rangeiter st h
section
variable{X:Cx}{tg:Expr}
inductive sy(K:PySem.W.Frag)(R:It->Hp->Prop)(x:V)(H1:Hp):Prop
 |mk:∀a,x= .ref a->(∃xs,SqL K H1 a xs)->R (Itl K a) H1->sy K R x H1
def v7(K:PySem.W.Frag)(tl:TE):TI:=λσ H R=>tl σ H λx H1=>sy K R x H1
inductive wv(K:PySem.W.Frag)(R:It->Hp->Prop)(x:V)(H1:Hp):Prop
 |mk:∀a,x= .ref a->(∃xs,SqT K H1 a xs)->R (Itt K a) H1->wv K R x H1
def ze(K:PySem.W.Frag)(tl:TE):TI:=λσ H R=>tl σ H λx H1=>wv K R x H1
theorem zAl{l:Expr}{tl:TE}(V:PE X l tl):PI X tg l (v7 X.K tl):=by
 intro pins s σ H R I h;refine thn (V pins s σ H _ I h) λv S ⟨x,H1,O,W,q1⟩=>?_;obtain⟨a,e,⟨xs,hq⟩,q⟩:=q1;subst e
 cases W
 obtain⟨its,rv,p,hz⟩:=O.list hq;refine qC1 p.isList ?_;refine⟨S.heap.objs.size,[S.heap.objs.size],_,_,H1,rF,O.kept (t':=S.toks) λb o e=>qAL _ e,qc a _,⟨_,qAg _ rF,rF,rF⟩,λb hb=>?_,q⟩;have e:b=S.heap.objs.size:=by simpa using hb
 subst e;exact O.fpOk (qAF _)$ O.hok.fresh$ qAF _
theorem rj{l:Expr}{tl:TE}(V:PE X l tl):PI X tg l (ze X.K tl):=by
 intro pins s σ H R I h;refine thn (V pins s σ H _ I h) λv S ⟨x,H1,O,W,q1⟩=>?_;obtain⟨a,e,⟨xs,hq⟩,q⟩:=q1;subst e
 cases W
 obtain⟨its,rv,p,hz⟩:=O.tuple hq;refine wpAny_pyIter_tuple (show S.heap.IsTuple a its.toArray from p) ?_;refine⟨S.heap.objs.size,[S.heap.objs.size],_,_,H1,rF,O.kept (t':=S.toks) λb o e=>qAL _ e,nM a _,⟨_,qAg _ rF,rF,rF⟩,λb hb=>?_,q⟩;have e:b=S.heap.objs.size:=by simpa using hb
 subst e;exact O.fpOk (qAF _)$ O.hok.fresh$ qAF _
theorem lQ{R:It->Hp->Prop}{E:Value->Shared->Prop}{lo hi:Int}{t u v:Tok}{tk:Nat}(I:Inv X pins σ H s)(h1:-(2^62)<=lo)(h2:lo<2^62)(h3:-(2^62)<=hi)(h4:hi<2^62)
  (q:R (Itr lo (hi-lo).toNat) H):wpAny (model X.prog X.w) X.A (pyIter$ .ref s.heap.objs.size) (PIE X pins σ tg R) E {s with heap:=s.heap.push {cls:=.type "range",data:=.fields #[.int lo t,.int hi u,.int 1 v]},toks:=tk}:=by
 refine wpAny_pyIter_range (IsRange.new ..) (small_one h1 h2 h3 h4) ?_;have O:Inv X pins σ H {s with heap:=s.heap.push {cls:=.type "range",data:=.fields #[.int lo t,.int hi u,.int 1 v]},toks:=tk}:=I.kept λb o e=>qAL _ e
 refine⟨(s.heap.push {cls:=.type "range",data:=.fields #[.int lo t,.int hi u,.int 1 v]}).objs.size,[(s.heap.push {cls:=.type "range",data:=.fields #[.int lo t,.int hi u,.int 1 v]}).objs.size],_,_,H,rF,O.kept (t':=tk) λb o e=>qAL _ e,nP _ lo (hi-lo).toNat,?_,λb S=>?_,q⟩
 .have V:lo+((0:Nat):Int)*1=lo:=sS
  have W:(((hi-lo).toNat:Nat):Int)-((0:Nat):Int)=Builtin.Range.rangeSize lo hi 1:=by rw[rangeSize_one];split<;>lia
  show IsRangeIter _ _ (lo+((0:Nat):Int)*1) ((((hi-lo).toNat:Nat):Int)-((0:Nat):Int)) 1;rw[V,W];exact qAg _ rF
 .have e:b=(s.heap.push {cls:=.type "range",data:=.fields #[.int lo t,.int hi u,.int 1 v]}).objs.size:=by simpa using S
  subst e;exact O.fpOk (qAF _)$ O.hok.fresh$ qAF _
inductive rb(R:It->Hp->Prop)(vs:List V)(H1:Hp):Prop
 |mk:∀(j:Int),vs=[.int j]->-(2^62)<=j->j<2^62->R (Itr 0 j.toNat) H1->rb R vs H1
def yC(ta:TA):TI:=λσ H R=>ta σ H λvs H1=>rb R vs H1
inductive sf(R:It->Hp->Prop)(vs:List V)(H1:Hp):Prop
 |mk:∀(i j:Int),vs=[.int i,.int j]->(-(2^62)<=i/\i<2^62/\-(2^62)<=j/\j<2^62)->R (Itr i (j-i).toNat) H1->sf R vs H1
def yj(ta:TA):TI:=λσ H R=>ta σ H λvs H1=>sf R vs H1
theorem zCu{a:Expr}{ta:TA}{p pos:Pos}(S:Gl X "range")(V:X.mg "range"=none)(W:PA X [a] ta)(hs:starEach [a] X.env=[(false,eval a X.env)]:=by rfl):PI X tg (.Call (.Name "range" p) [a] [] pos) (yC ta):=by
 intro pins s σ H R I h;refine Call_$ zJi I S V boot_range$ qC2 (thn (W pos pins s σ H _ I h) λus s1 ⟨vs,H1,I1,r1,O⟩=>?_) hs rF;obtain⟨j,e,O,q2,q⟩:=O;subst e
 cases r1 with
 |cons r rr=>
  cases rr
  obtain⟨t,rfl⟩:=r;exact call_range_1 (lQ I1 lL lL O q2$ by simpa using q)
theorem qZ{a b:Expr}{ta:TA}{p pos:Pos}(W:Gl X "range")(hm:X.mg "range"=none)(ha:PA X [a,b] ta)(hs:starEach [a,b] X.env=[(false,eval a X.env),(false,eval b X.env)]:=by rfl)(O:starEach [b] X.env=[(false,eval b X.env)]:=by rfl) :
  PI X tg (.Call (.Name "range" p) [a,b] [] pos) (yj ta):=by
 intro pins s σ H R I h;refine Call_ (zJi I W hm boot_range$ qC2 (thn (ha pos pins s σ H _ I h) λus s1 ⟨vs,H1,I1,r1,S⟩=>?_) (by rw[hs,O])$ by rw[O];rfl);obtain⟨i,j,e,⟨S,q2,q3,q4⟩,q⟩:=S;subst e
 cases r1 with
 |cons r V=>
  cases V with
  |cons r' V=>
   cases V
   obtain⟨t,rfl⟩:=r;obtain⟨t',rfl⟩:=r';exact call_range_2$ lQ I1 S q2 q3 q4 q
def zb(wi:TI)(g:TG)(tb:TS):TS:=λD σ H=>wi σ H λJ H1=>∃W:Nat->Nat->St->Hp->Prop,(∃m,W 0 m σ H1)/\∀i m σ H,W i m σ H ->
 (J.stop i H/\D.nx σ H)\/(J.go i H/\∃N:St->Hp->Prop,(∀O H',N O H'->∃V,V<m/\W (i+1) V O H')/\∀x H',J.yld i H x H'->g x σ H' λS H2=>tb {D with nx:=N,ct:=N,bk:=D.nx} S H2)
def g8(fp:List Addr)(h:Heap):List (Addr×Obj):=fp.filterMap λb=>(h.get? b).map λo=>(b,o)
theorem zFj{fp:List Addr}{o:Obj}(O:b∈fp)(e:h.get? b=some o):(b,o)∈g8 fp h:=List.mem_filterMap.mpr ⟨b,O,by rw[e];rfl⟩
theorem qY{fp:List Addr}{p:Addr×Obj}(O:p∈g8 fp h):p.1∈fp/\h.get? p.1=some p.2:=by
 obtain⟨b,S,e⟩:=List.mem_filterMap.mp O
 cases q:h.get? b with
 |none=>rw[q]at e;cases e
 |some o=>
  rw[q]at e;have e':(b,o)=p:=qAh e;subst e';exact⟨S,q⟩
theorem Inv.pinned{fp:List Addr}(I:Inv X pins σ H s)(S:∀b∈fp,ie X pins H b)(V:∀b∈fp,∃o,s.heap.get? b=some o/\∀v,o.data≠.cell v):Inv X (pins++g8 fp s.heap) σ H s :=
 I.pins_of λp W=>(qAK.mp W).elim (λz=>I.pin p$ qAr _ z) λz=>by
  obtain⟨O,e⟩:=qY z;obtain⟨f0,f1,f2,_⟩:=S p.1 O;obtain⟨o,e',d⟩:=V p.1 O;rw[e]at e';cases e';exact⟨e,f0,f1,f2,d⟩
theorem Inv.unpinned{pl:List (Addr×Obj)}(I:Inv X (pins++pl) σ H s):Inv X pins σ H s:=I.pins_of λp O=>I.pin p$ qAr _$ qAj _ O
theorem zA4{iter:Expr}{body:List Stmt}{wi:TI}{pos:Pos}(hp:PassesOwn (model X.prog X.w) X.A X.env X.xe)(hc:X.calm=true)(hi:PI X tg iter wi)(hg:PG X tg g)(S:PSs X body tb)
  (hs:∀x,foldedSetIterable iter X.env x=pure x:=by intro _;rfl):PS X (.For tg iter body [] pos) (zb wi g tb):=by
 intro pins s σ H D I h;refine wpAny_For (thn (hi pins s σ H _ I h) λv s1 h1=>thn h1 λam s2 h2=>?_) hs;obtain⟨it,fp,tn,J,H2,e,I2,T,ai,f2,W,⟨m0,w0⟩,ae⟩:=h2;subst e;have V:∀{H':Hp},(∀b∈fp,H' b=none)->∀b∈fp,ie X pins H' b:=λhn b S=>⟨hn b S,(f2 b S).2⟩;refine codeAny_forLoop_any (λn s'=>∃i aa H',Inv X pins aa H' s'/\tn i s'.heap/\(∀b∈fp,H' b=none)/\W i n aa H') ?_ m0 ⟨0,σ,H2,I2,ai,λb S=>(f2 b S).1,w0⟩;rintro n s3 ⟨i,ab,H3,I3,af,ag,w3⟩;rcases ae i n ab H3 w3 with⟨ah,qn⟩|⟨go,N,hN,step⟩
 .refine qBw hp$ thn (T.done X rF rF rF hc i pins s3 ab H3 X.xe I3 (V ag) af ah) λr s4 ⟨hr,I4⟩=>?_;subst hr;exact qCz ⟨ab,H3,I4,qn⟩
 .refine qBw hp$ thn (T.item X rF rF rF hc i pins s3 ab H3 X.xe I3 (V ag) af go) λr s4 ⟨u,hr,h4⟩=>?_;subst hr;refine qBw hp$ thn h4 λ_ s5 ⟨x,H5,I5,r5,y5,ad,aj⟩=>?_;have ak:=I5.pinned (V aj)$ T.obj _ _ ad;refine qBw hp$ thn (hg _ s5 ab H5 x u _ ak r5$ step x H5 y5) λ_ s6 ⟨al,H6,I6,q6⟩=>?_;refine qBw hp$ thn (S _ s6 al H6 _ I6 q6) λf s7 q7=>?_
  have again:∀{O:St}{H7:Hp},Inv X (pins++g8 fp s5.heap) O H7 s7->N O H7->∃m,m<n/\∃i aa H',Inv X pins aa H' s7/\tn i s7.heap/\(∀b∈fp,H' b=none)/\W i m aa H':=λ{O H7} I7 n7=>by
   obtain⟨m',hm,w7⟩:=hN O H7 n7;refine⟨m',hm,i+1,O,H7,I7.unpinned,T.keep _ _ _ ad λb S o e=>(I7.pin (b,o)$ qAr _$ qAr _$ zFj S e).1,λb S=>?_,w7⟩;obtain⟨o,e,d⟩:=T.obj _ _ ad b S;exact(I7.pin (b,o)$ qAr _$ qAr _$ zFj S e).2.1
  cases f with
  |next=>obtain⟨O,H7,I7,n7⟩:=q7;exact again I7 n7
  |cont=>obtain⟨O,H7,I7,n7⟩:=q7;exact again I7 n7
  |brk=>obtain⟨O,H7,I7,q7⟩:=q7;exact⟨O,H7,I7.unpinned,q7⟩
  |ret v=>obtain⟨x7,O,H7,I7,r7,q7⟩:=q7;exact⟨x7,O,H7,I7.unpinned,r7,q7⟩
end
theorem zA0{xs:List V}(O:Nat->St->Hp->Prop)(h0:O 0 σ H)(hl:∀i σ H,i<=xs.length->O i σ H->SqL K H a xs)
  (hs:∀i x σ H,xs[i]?=some x->O i σ H->g x σ H λS H2=>tb {D with nx:=O (i+1),ct:=O (i+1),bk:=D.nx} S H2) (hd:∀σ H,O xs.length σ H->D.nx σ H) :
  ∃W:Nat->Nat->St->Hp->Prop,(∃m,W 0 m σ H)/\∀i m σ H,W i m σ H ->
   ((Itl K a).stop i H/\D.nx σ H)\/((Itl K a).go i H/\∃N:St->Hp->Prop,(∀aa H',N aa H'->∃m',m'<m/\W (i+1) m' aa H')/\∀x H',(Itl K a).yld i H x H'->g x σ H' λS H2=>tb {D with nx:=N,ct:=N,bk:=D.nx} S H2):=by
 refine⟨λi m σ H=>m=xs.length-i/\i<=xs.length/\O i σ H,⟨xs.length,sS,qAm _,h0⟩,?_⟩;rintro i m σ H ⟨rfl,hi,p⟩;have q:=hl i σ H hi p
 by_cases hlt:i<xs.length
 .refine .inr ⟨⟨xs,xs[i],q,by simp[hlt]⟩,O$ i+1,λaa H' p'=>⟨xs.length-(i+1),lL,rF,hlt,p'⟩,λx H' y=>?_⟩;obtain⟨e,y⟩:=y;subst e;exact hs i x σ _ (y xs q) p
 .have e:i=xs.length:=lL
  subst e;exact .inl ⟨⟨xs,q,qAF _⟩,hd σ H p⟩
theorem uG(V:Nat->St->Hp->Prop)(h0:V 0 σ H)(hl:∀i σ H,i<=xs.length->V i σ H->SqT K H a xs)
  (hs:∀i x σ H,xs[i]?=some x->V i σ H->g x σ H λO H2=>tb {D with nx:=V (i+1),ct:=V (i+1),bk:=D.nx} O H2) (hd:∀σ H,V xs.length σ H->D.nx σ H) :
  ∃W:Nat->Nat->St->Hp->Prop,(∃m,W 0 m σ H)/\∀i m σ H,W i m σ H ->
   ((Itt K a).stop i H/\D.nx σ H)\/((Itt K a).go i H/\∃N:St->Hp->Prop,(∀S H',N S H'->∃m',m'<m/\W (i+1) m' S H')/\∀x H',(Itt K a).yld i H x H'->g x σ H' λO H2=>tb {D with nx:=N,ct:=N,bk:=D.nx} O H2):=by
 refine⟨λi m σ H=>m=xs.length-i/\i<=xs.length/\V i σ H,⟨xs.length,sS,qAm _,h0⟩,?_⟩;rintro i m σ H ⟨rfl,hi,p⟩;have q:=hl i σ H hi p
 by_cases hlt:i<xs.length
 .refine .inr ⟨⟨xs,xs[i],q,by simp[hlt]⟩,V$ i+1,λS H' p'=>⟨xs.length-(i+1),lL,rF,hlt,p'⟩,λx H' y=>?_⟩;obtain⟨e,y⟩:=y;subst e;exact hs i x σ _ (y xs q) p
 .have e:i=xs.length:=lL
  subst e;exact .inl ⟨⟨xs,q,qAF _⟩,hd σ H p⟩
theorem zDf{lo:Int}{n:Nat}(V:Nat->St->Hp->Prop)(h0:V 0 σ H)
  (hs:∀i σ H,i<n->V i σ H->g (.int$ lo+i) σ H λO H2=>tb {D with nx:=V (i+1),ct:=V (i+1),bk:=D.nx} O H2) (hd:∀σ H,V n σ H->D.nx σ H) :
  ∃W:Nat->Nat->St->Hp->Prop,(∃m,W 0 m σ H)/\∀i m σ H,W i m σ H ->
   ((Itr lo n).stop i H/\D.nx σ H)\/((Itr lo n).go i H/\∃N:St->Hp->Prop,(∀S H',N S H'->∃m',m'<m/\W (i+1) m' S H')/\∀x H',(Itr lo n).yld i H x H'->g x σ H' λO H2=>tb {D with nx:=N,ct:=N,bk:=D.nx} O H2):=by
 refine⟨λi m σ H=>m=n-i/\i<=n/\V i σ H,⟨n,sS,qAm _,h0⟩,?_⟩;rintro i m σ H ⟨rfl,hi,p⟩
 by_cases hlt:i<n
 .refine .inr ⟨hlt,V$ i+1,λS H' p'=>⟨n-(i+1),lL,rF,hlt,p'⟩,λx H' y=>?_⟩;obtain⟨e,y⟩:=y;subst e y;exact hs i σ _ hlt p
 .have e:i=n:=lL
  subst e;exact .inl ⟨qAF _,hd σ H p⟩
theorem zKx{c:TT}(V:St->Hp->Prop)(S:St->Hp->Nat)(h0:V σ H)
  (hs:∀σ H,V σ H->c σ H λb H1=>if b=true then tb {D with nx:=λO H'=>V O H'/\S O H'<S σ H,ct:=λO H'=>V O H'/\S O H'<S σ H,bk:=D.nx} σ H1 else D.nx σ H1)
  (mono:∀σ H Q W,(∀b H1,Q b H1->W b H1)->c σ H Q->c σ H W):gF c tb D σ H:=by
 refine⟨λm σ H=>m=S σ H/\V σ H,⟨_,rF,h0⟩,?_⟩;rintro m σ H ⟨rfl,p⟩;refine mono σ H _ _ (λb H1 q=>?_)$ hs σ H p
 cases b with
 |true=>exact⟨_,λO H' ⟨p',l⟩=>⟨_,l,rF,p'⟩,q⟩
 |false=>exact q
abbrev R2:=V->V->Hp->VK->Prop
variable{r:R2}
def OpR(X:Cx)(f:Value->Value->Sem Value)(r:R2):Prop :=
 ∀(pins:List (Addr×Obj)) (s:Shared) (σ:St) (H:Hp) (x y:V) (v u:Value) (Q:VK),Inv X pins σ H s->eE x v->eE y u->r x y H Q ->
  wpAny (model X.prog X.w) X.A (f v u) (EP X pins σ Q) X.xe s
def UnR(X:Cx)(f:Value->Sem Value)(r:V->Hp->VK->Prop):Prop :=
 ∀(pins:List (Addr×Obj)) (s:Shared) (σ:St) (H:Hp) (x:V) (v:Value) (Q:VK),Inv X pins σ H s->eE x v->r x H Q ->
  wpAny (model X.prog X.w) X.A (f v) (EP X pins σ Q) X.xe s
def zC4(X:Cx)(f:Value)(r:List V->Hp->VK->Prop):Prop :=
 ∀(pins:List (Addr×Obj)) (s:Shared) (σ:St) (H:Hp) (xs:List V) (us:List Value) (Q:VK),Inv X pins σ H s->eB xs us->r xs H Q ->
  wpAny (model X.prog X.w) X.A (call f us) (EP X pins σ Q) X.xe s
def zA(X:Cx)(r:V->Hp->(Bool->Hp->Prop)->Prop):Prop :=
 ∀(pins:List (Addr×Obj)) (s:Shared) (σ:St) (H:Hp) (x:V) (v:Value) (Q:Bool->Hp->Prop),Inv X pins σ H s->eE x v->r x H Q ->
  wpAny (model X.prog X.w) X.A (truthy v) (TP X pins σ Q) X.xe s
def tOp(r:R2)(ta tb:TE):TE:=λσ H Q=>ta σ H λx H1=>tb σ H1 λy H2=>r x y H2 Q
def tUn(r:V->Hp->VK->Prop)(ta:TE):TE:=λσ H Q=>ta σ H λx H1=>r x H1 Q
inductive rI(C:Int->Int->Prop)(g:Int->Int->V)(x:V)(y:V)(H:Hp)(Q:VK):Prop
 |mk:∀i j,x= .int i->y= .int j->C i j->Q (g i j) H->rI C g x y H Q
inductive rI0(g:Int->Int->V)(x:V)(y:V)(H:Hp)(Q:VK):Prop
 |mk:∀i j,x= .int i->y= .int j->Q (g i j) H->rI0 g x y H Q
inductive rU(g:Int->V)(x:V)(H:Hp)(Q:VK):Prop
 |mk:∀i,x= .int i->Q (g i) H->rU g x H Q
section
variable{X:Cx}{a b c:Expr}{ta tb tc:TE}{pos:Pos}
theorem w8(W:PE X a ta)(hb:PE X b tb){R:V->V->Hp->Prop}(I:Inv X pins σ H s)
  (h:ta σ H λx H1=>tb σ H1 λy H2=>R x y H2) {Q:Value->Shared->Prop} {f:Value->Value->Sem Value}
  (hf:∀v u s2 x y H2,Inv X pins σ H2 s2->eE x v->eE y u->R x y H2->wpAny (model X.prog X.w) X.A (f v u) Q X.xe s2) :
  wpAny (model X.prog X.w) X.A (eval a X.env) (λv S=>wpAny (model X.prog X.w) X.A (eval b X.env) (λu O=>wpAny (model X.prog X.w) X.A (f v u) Q X.xe O) X.xe S) X.xe s:=by
 refine thn (W pins s σ H _ I h) λv s1 ⟨x,H1,I1,r1,q1⟩=>?_;refine thn (hb pins s1 σ H1 _ I1 q1) λu s2 ⟨y,H2,I2,r2,q2⟩=>?_;exact hf v u s2 x y H2 I2 r1 r2 q2
theorem zAs{op:Operator}(O:OpR X (binaryOp op) r)(S:PE X a ta)(V:PE X b tb):PE X (.BinOp a op b pos) (tOp r ta tb):=by
 intro pins s σ H Q I h;exact wpAny_BinOp$ w8 S V I h λv u s2 x y H2 W rx ry q=>O pins s2 σ H2 x y v u Q W rx ry q
theorem ia{op:UnaryOp}{r:V->Hp->VK->Prop}(O:UnR X (unaryOp op) r)(S:PE X a ta):PE X (.UnaryOp op a pos) (tUn r ta):=by
 intro pins s σ H Q I h;exact UnaryOp_$ thn (S pins s σ H _ I h) λv W ⟨x,H1,I1,r1,q1⟩=>O pins W σ H1 x v Q I1 r1 q1
theorem opI{f:Value->Value->Sem Value}{C:Int->Int->Prop}{g:Int->Int->Int}
  (rule:∀(i j:Int)(t u:Tok)(s:Shared)(Q:Value->Shared->Prop)(E:Value->Shared->Prop),C i j->Q (.int (g i j) s.toks) {s with toks:=s.toks+1}->wpAny (model X.prog X.w) X.A (f (.int i t)$ .int j u) Q E s) :
  OpR X f (rI C λi j=>.int$ g i j):=by
 intro pins s σ H x y v u Q I O S h;obtain⟨i,j,rfl,rfl,V,q⟩:=h;obtain⟨t,rfl⟩:=O;obtain⟨t',rfl⟩:=S;exact rule i j t t' s _ _ V ⟨.int$ g i j,H,I.tok _,⟨_,rF⟩,q⟩
theorem uT{f:Value->Value->Sem Value}{g:Int->Int->Int}
  (rule:∀(i j:Int)(t u:Tok)(s:Shared)(Q:Value->Shared->Prop)(E:Value->Shared->Prop),Q (.int (g i j) s.toks) {s with toks:=s.toks+1}->wpAny (model X.prog X.w) X.A (f (.int i t)$ .int j u) Q E s) :
  OpR X f (rI0 λi j=>.int$ g i j):=by
 intro pins s σ H x y v u Q I O S h;obtain⟨i,j,rfl,rfl,q⟩:=h;obtain⟨t,rfl⟩:=O;obtain⟨t',rfl⟩:=S;exact rule i j t t' s _ _ ⟨.int$ g i j,H,I.tok _,⟨_,rF⟩,q⟩
theorem xk{f:Value->Value->Sem Value}{g:Int->Int->Bool}
  (rule:∀(i j:Int)(t u:Tok)(s:Shared)(Q:Value->Shared->Prop)(E:Value->Shared->Prop),Q (.bool$ g i j) s->wpAny (model X.prog X.w) X.A (f (.int i t)$ .int j u) Q E s) :
  OpR X f (rI0 λi j=>.bl$ g i j):=by
 intro pins s σ H x y v u Q I O S h;obtain⟨i,j,rfl,rfl,q⟩:=h;obtain⟨t,rfl⟩:=O;obtain⟨t',rfl⟩:=S;exact rule i j t t' s _ _ ⟨.bl$ g i j,H,I,rF,q⟩
def zE(i j:Int):Prop:=0<j/\j<1073741824
def yM(i j:Int):Prop:=0<=j/\j<=1000000/\i.natAbs<2^64
def xY(i j:Int):Prop:=(-(2^64)<i/\i<2^64)\/(-(2^64)<j/\j<2^64)
theorem xY.ok{i j:Int}(h:xY i j):IntMulOk i j:=by
 rcases h with⟨h1,h2⟩|⟨h1,h2⟩
 .exact .of_left$ intBits_le_64 h1 h2
 .exact .of_right$ intBits_le_64 h1 h2
theorem two_pow_nn(k:Nat):(0:Int)<=2^k:=by
 rw[two_pow_cast];exact qCU _
theorem zCz:OpR X (binaryOp .Add) (rI0 λi j=>.int$ i+j):=uT λ_ _ _ _ _ _ _ q=>add_int q
theorem zJb:OpR X (binaryOp .Sub) (rI0 λi j=>.int$ i-j):=uT λ_ _ _ _ _ _ _ q=>sub_int q
theorem zGy:OpR X (binaryOp .Mult) (rI xY λi j=>.int$ i*j):=opI λ_ _ _ _ _ _ _ O q=>mul_int q O.ok
theorem jZ:OpR X (binaryOp .FloorDiv) (rI zE λi j=>.int$ i / j):=opI λi j _ _ _ _ _ O q=>by
 have h1:(0:Int)<j:=O.1;have h2:j<1073741824:=O.2;exact floordiv_int lL (by rw[qDf i lL];exact q)$ .inl$ PyProof.noPylong_small lL
theorem zH3:OpR X (binaryOp .Mod) (rI (λ_ j=>0<j) λi j=>.int$ i % j):=opI λi j _ _ _ _ _ O q=>by
 have h1:(0:Int)<j:=O;exact mod_int' lL (by rw[Int.fmod_eq_emod_of_nonneg i lL];exact q)
theorem xF:OpR X (binaryOp .Pow) (rI yM λi j=>.int$ i^j.toNat):=opI λ_ _ _ _ _ _ _ O q=>pow_int_small O.1 O.2.1 O.2.2 q
theorem mH:OpR X (binaryOp .LShift) (rI yM λi j=>.int$ i*2^j.toNat):=opI λ_ _ _ _ _ _ _ O q=>lshift_int_small O.1 O.2.1 O.2.2 q
theorem ss:OpR X (binaryOp .RShift) (rI (λ_ j=>0<=j) λi j=>.int$ i / 2^j.toNat):=opI λi j _ _ _ _ _ O q=>
 rshift_int O (by rw[qDf i$ two_pow_nn _];exact q)
theorem ng:OpR X (binaryOp .BitAnd) (rI0 λi j=>.int$ Builtin.bitAnd i j):=uT λ_ _ _ _ _ _ _ q=>and_int q
theorem uw:OpR X (binaryOp .BitOr) (rI0 λi j=>.int$ Builtin.bitOr i j):=uT λ_ _ _ _ _ _ _ q=>or_int q
theorem unI{f:Value->Sem Value}{g:Int->Int}
  (rule:∀(i:Int)(t:Tok)(s:Shared)(Q:Value->Shared->Prop)(E:Value->Shared->Prop),Q (.int (g i) s.toks) {s with toks:=s.toks+1}->wpAny (model X.prog X.w) X.A (f$ .int i t) Q E s) :
  UnR X f (rU λi=>.int$ g i):=by
 intro pins s σ H x v Q I O h;obtain⟨i,rfl,q⟩:=h;obtain⟨t,rfl⟩:=O;exact rule i t s _ _ ⟨.int$ g i,H,I.tok _,⟨_,rF⟩,q⟩
theorem zIx:UnR X (unaryOp .USub) (rU λi=>.int$ -i):=unI λ_ _ _ _ _ q=>neg_int q
end
def yt:V->V->Bool
 | .non,.non=>true| .non,.int _=>true| .int _,.non=>true| .non,.bl _=>true| .bl _,.non=>true| .non,.str _=>true| .str _,.non=>true
 | .int _,.int _=>true| .bl _,.bl _=>true| .str _,.str _=>true| .byt _,.byt _=>true
 | .int _,.str _=>true| .str _,.int _=>true| .bl _,.str _=>true| .str _,.bl _=>true
 |_,_=>false
def rEq:R2:=λx y H Q=>yt x y=true/\Q (.bl$ decide$ x=y) H
def rNe:R2:=λx y H Q=>yt x y=true/\Q (.bl$ !decide (x=y)) H
theorem pE{i j:Int}:decide (V.int i=V.int j)=(i==j):=by
 rw[qCV];simp
theorem tT{i j:Bool}:decide (V.bl i=V.bl j)=(i==j):=by
 rw[qCV];simp
theorem ot{i j:Str}:decide (V.str i=V.str j)=(i==j):=by
 rw[qCV];simp
theorem pf{i j:Array UInt8}:decide (V.byt i=V.byt j)=(i.toList==j.toList):=by
 rw[qCV]
 cases i
 cases j
 simp
section
variable{X:Cx}{a b c:Expr}{ta tb tc:TE}{pos:Pos}
theorem zBd{Q:VK}{k O:Bool}(I:Inv X pins σ H s)(q:Q (.bl k) H)(e:k=O):EP X pins σ Q (.bool O) s:=by
 subst e;exact⟨.bl k,H,I,rF,q⟩
theorem zCo:OpR X (compareOp .Eq) rEq:=by
 intro pins s σ H x y v u Q I S O h;obtain⟨hs,q⟩:=h
 cases x with
 |non=>
  cases S
  cases y with
  |non=>cases O;exact PySem.EqNone.eq_none_none$ zBd I q sS
  |bl j=>cases O;exact PySem.EqNone.eq_none_bool$ zBd I q sS
  |int j=>obtain⟨t',rfl⟩:=O;exact PySem.EqNone.eq_none_int$ zBd I q sS
  |str j=>obtain⟨t',rfl⟩:=O;exact PySem.EqNone.eq_none_str$ zBd I q sS
  |_=>exact absurd (show false=true from hs) qAk
 |bl i=>
  cases S
  cases y with
  |non=>cases O;exact PySem.EqNone.eq_bool_none$ zBd I q sS
  |bl j=>cases O;exact eq_bool$ zBd I q tT
  |str j=>obtain⟨t',rfl⟩:=O;exact PySem.EqMixed.eq_bool_str$ zBd I q sS
  |_=>exact absurd (show false=true from hs) qAk
 |int i=>
  obtain⟨t,rfl⟩:=S
  cases y with
  |non=>cases O;exact PySem.EqNone.eq_int_none$ zBd I q sS
  |int j=>obtain⟨t',rfl⟩:=O;exact eq_int$ zBd I q pE
  |str j=>obtain⟨t',rfl⟩:=O;exact PySem.EqMixed.eq_int_str$ zBd I q sS
  |_=>exact absurd (show false=true from hs) qAk
 |str i=>
  obtain⟨t,rfl⟩:=S
  cases y with
  |non=>cases O;exact PySem.EqNone.eq_str_none$ zBd I q sS
  |bl j=>cases O;exact PySem.EqMixed.eq_str_bool$ zBd I q sS
  |int j=>obtain⟨t',rfl⟩:=O;exact PySem.EqMixed.eq_str_int$ zBd I q sS
  |str j=>obtain⟨t',rfl⟩:=O;exact eq_str$ zBd I q ot
  |_=>exact absurd (show false=true from hs) qAk
 |byt i=>
  obtain⟨t,rfl⟩:=S
  cases y with
  |byt j=>obtain⟨t',rfl⟩:=O;exact PySem.W.eq_bytes$ zBd I q pf
  |_=>exact absurd (show false=true from hs) qAk
 |_=>cases y<;>exact absurd (show false=true from hs) qAk
theorem zGx:OpR X (compareOp .NotEq) rNe:=by
 intro pins s σ H x y v u Q I S O h;obtain⟨hs,q⟩:=h
 cases x with
 |non=>
  cases S
  cases y with
  |non=>cases O;exact PySem.EqNone.ne_none_none$ zBd I q sS
  |bl j=>cases O;exact PySem.EqNone.ne_none_bool$ zBd I q sS
  |int j=>obtain⟨t',rfl⟩:=O;exact PySem.EqNone.ne_none_int$ zBd I q sS
  |str j=>obtain⟨t',rfl⟩:=O;exact PySem.EqNone.ne_none_str$ zBd I q sS
  |_=>exact absurd (show false=true from hs) qAk
 |bl i=>
  cases S
  cases y with
  |non=>cases O;exact PySem.EqNone.ne_bool_none$ zBd I q sS
  |bl j=>cases O;exact ne_bool$ zBd I q$ qAf not tT
  |str j=>obtain⟨t',rfl⟩:=O;exact PySem.EqMixed.ne_bool_str$ zBd I q sS
  |_=>exact absurd (show false=true from hs) qAk
 |int i=>
  obtain⟨t,rfl⟩:=S
  cases y with
  |non=>cases O;exact PySem.EqNone.ne_int_none$ zBd I q sS
  |int j=>obtain⟨t',rfl⟩:=O;exact ne_int$ zBd I q$ qAf not pE
  |str j=>obtain⟨t',rfl⟩:=O;exact PySem.EqMixed.ne_int_str$ zBd I q sS
  |_=>exact absurd (show false=true from hs) qAk
 |str i=>
  obtain⟨t,rfl⟩:=S
  cases y with
  |non=>cases O;exact PySem.EqNone.ne_str_none$ zBd I q sS
  |bl j=>cases O;exact PySem.EqMixed.ne_str_bool$ zBd I q sS
  |int j=>obtain⟨t',rfl⟩:=O;exact PySem.EqMixed.ne_str_int$ zBd I q sS
  |str j=>obtain⟨t',rfl⟩:=O;exact ne_str$ zBd I q$ qAf not ot
  |_=>exact absurd (show false=true from hs) qAk
 |byt i=>
  obtain⟨t,rfl⟩:=S
  cases y with
  |byt j=>obtain⟨t',rfl⟩:=O;exact PySem.W.ne_bytes$ zBd I q$ qAf not pf
  |_=>exact absurd (show false=true from hs) qAk
 |_=>cases y<;>exact absurd (show false=true from hs) qAk
theorem sX:OpR X (compareOp .Lt) (rI0 λi j=>.bl$ decide$ i<j):=xk λ_ _ _ _ _ _ _ q=>lt_int q
theorem zLh:OpR X (compareOp .LtE) (rI0 λi j=>.bl$ decide$ i<=j):=xk λ_ _ _ _ _ _ _ q=>le_int q
theorem zLi:OpR X (compareOp .Gt) (rI0 λi j=>.bl$ decide$ j<i):=xk λ_ _ _ _ _ _ _ q=>gt_int q
theorem wK:OpR X (compareOp .Is) (λx y H Q=>y= .non/\Q (.bl$ decide$ x= .non) H):=by
 intro pins s σ H x y v u Q I O S h;obtain⟨rfl,q⟩:=h
 cases S
 refine is_none_gen$ zBd I q ?_
 cases x<;>first
  |(cases O;rfl)
  |(obtain⟨t,rfl⟩:=O;rfl)
theorem vV:OpR X (compareOp .IsNot) (λx y H Q=>y= .non/\Q (.bl$ !decide (x= .non)) H):=by
 intro pins s σ H x y v u Q I O S h;obtain⟨rfl,q⟩:=h
 cases S
 refine isnot_none_gen$ zBd I q ?_
 cases x<;>first
  |(cases O;rfl)
  |(obtain⟨t,rfl⟩:=O;rfl)
theorem zAo(b:Expr)(h:op≠.In:=by decide)(h2:op≠.NotIn:=by decide):behindInMarks op b=false:=by
 have O:(op==CmpOp.In)=false:=by cases op<;>first|rfl|exact absurd rF h
 have S:(op==CmpOp.NotIn)=false:=by cases op<;>first|rfl|exact absurd rF h2
 cases b<;>simp[behindInMarks,O,S]
theorem zCn(O:OpR X (compareOp op) r)(S:PE X a ta)(V:PE X b tb)(W:behindInMarks op b=false):PE X (.Compare a [op] [b] pos) (tOp r ta tb):=by
 intro pins s σ H Q I h;exact wpAny_Compare1 (w8 S V I h λv u s2 x y H2 I2 rx ry q=>O pins s2 σ H2 x y v u Q I2 rx ry q) W
inductive rV(Q:Bool->Hp->Prop)(x:V)(H':Hp):Prop
 |mk:∀k,x= .bl k->Q k H'->rV Q x H'
def wk(t:TE):TT:=λσ H Q=>t σ H λx H'=>rV Q x H'
theorem zAj(O:OpR X (compareOp op) r)(S:PE X a ta)(V:PE X b tb)(W:behindInMarks op b=false):PT X (.Compare a [op] [b] pos) (wk$ tOp r ta tb):=by
 intro pins s σ H Q I h
 refine wpAny_isTrue_Compare1 (thn (S pins s σ H _ I h) λv s1 ⟨x,H1,I1,r1,q1⟩=>thn (V pins s1 σ H1 _ I1 q1) λu s2 ⟨y,H2,I2,r2,q2⟩=>thn (O pins s2 σ H2 x y v u _ I2 r1 r2 q2) λc s3 ⟨z,H3,I3,r3,k,e,q3⟩=>?_) W
 subst e
 cases r3
 exact qBO ⟨H3,I3,q3⟩
def sT(r S:R2)(ta tb tc:TE):TE:=λσ H Q=>ta σ H λx H1=>tb σ H1 λy H2=>r x y H2 λz O=>∃k,z= .bl k /\
 (if k=true then tc σ O λW V=>S y W V Q else Q (.bl false) O)
theorem lI{O:CmpOp}{V:R2}(ho:OpR X (compareOp op) r)(S:OpR X (compareOp O) V)(ha:PE X a ta)(hb:PE X b tb)(hc:PE X c tc)
  (hm:lastMarks [op,O] [b,c]=false:=by with_unfolding_all rfl):PE X (.Compare a [op,O] [b,c] pos) (sT r V ta tb tc):=by
 intro pins s σ H Q I h
 refine Compare_chain (thn (ha pins s σ H _ I h) λv s1 ⟨x,H1,I1,r1,q1⟩=>chain_link$ thn (hb pins s1 σ H1 _ I1 q1) λu s2 ⟨y,H2,I2,W,q2⟩=>thn (ho pins s2 σ H2 x y v u _ I2 r1 W q2) λd s3 ⟨z,H3,I3,r3,k,e,q3⟩=>?_) hm
 subst e
 cases r3
 refine qBO ?_
 cases k with
 |false=>exact ite_ff ⟨.bl false,H3,I3,rF,q3⟩
 |true=>exact ite_tt$ chain_last$ thn (hc pins s3 σ H3 _ I3 q3) λw' s4 ⟨z',H4,I4,r4,q4⟩=>S pins s4 σ H4 y z' u w' Q I4 W r4 q4
theorem zLb{O:CmpOp}{V:R2}(ho:OpR X (compareOp op) r)(S:OpR X (compareOp O) V)(ha:PE X a ta)(hb:PE X b tb)(hc:PE X c tc)
  (hm:lastMarks [op,O] [b,c]=false:=by with_unfolding_all rfl):PT X (.Compare a [op,O] [b,c] pos) (wk$ sT r V ta tb tc):=by
 intro pins s σ H Q I h
 refine isTrue_chain (thn (ha pins s σ H _ I h) λv s1 ⟨x,H1,I1,r1,q1⟩=>test_link$ thn (hb pins s1 σ H1 _ I1 q1) λu s2 ⟨y,H2,I2,W,q2⟩=>thn (ho pins s2 σ H2 x y v u _ I2 r1 W q2) λd s3 ⟨z,H3,I3,r3,k,e,q3⟩=>?_) hm
 subst e
 cases r3
 refine qBO ?_
 cases k with
 |false=>
  obtain⟨k',e',q'⟩:=q3
  cases e'
  exact ite_ff ⟨H3,I3,q'⟩
 |true=>
  refine ite_tt$ test_last$ thn (hc pins s3 σ H3 _ I3 q3) λw' s4 ⟨z',H4,I4,r4,q4⟩=>thn (S pins s4 σ H4 y z' u w' _ I4 W r4 q4) λd' s5 ⟨z2,H5,I5,r5,k2,e2,q5⟩=>?_;subst e2
  cases r5
  exact qBO ⟨H5,I5,q5⟩
def uF(K:PySem.W.Frag)(x:V)(H:Hp)(k:Bool):Prop :=
 match x with
 | .non=>k=false
 | .bl b=>k=b
 | .int i=>k=(i != 0)
 | .str y=>y.length<=sizeLine/\k=((y.length:Int) != 0)
 | .byt y=>y.size<=sizeLine/\k=((y.size:Int) != 0)
 | .ref p=>(∃xs,SqL K H p xs/\k= !xs.isEmpty)\/(∃xs,SqT K H p xs/\k= !xs.isEmpty)\/∃kvs,H p=some (.dK kvs)/\k= !kvs.isEmpty
 |_=>False
theorem nU{κ:Type}{kvs:List (κ×V)}{vs:List (κ×Value)}(r:KV kvs vs):(!vs.isEmpty)= !kvs.isEmpty:=by
 cases r<;>rfl
theorem zKm{its:List Value}(r:eB xs its):(!its.toArray.isEmpty)= !xs.isEmpty:=by
 cases r<;>simp
theorem zJg:(sizeLine:Nat)<2^63:=by rw[qAM];decide
theorem wO:zA X (λx H Q=>∃k,uF X.K x H k/\Q k H):=by
 intro pins s σ H x v Q I S h;obtain⟨k,e,q⟩:=h;have hl:=zJg;have hs:sizeLine=16777216:=qAM
 cases x with
 |non=>
  cases S
  have e':k=false:=e;subst e';exact truthy_none ⟨H,I,q⟩
 |bl b=>
  cases S
  have e':k=b:=e;subst e';exact qBO ⟨H,I,q⟩
 |int i=>
  obtain⟨t,rfl⟩:=S;have e':k=(i != 0):=e;subst e';exact PySem.P.truthy_int ⟨H,I,q⟩
 |str y=>
  obtain⟨t,rfl⟩:=S;obtain⟨hy,e'⟩:y.length<=sizeLine/\k=((y.length:Int) != 0):=e;subst e';exact PySem.P.truthy_str lL ⟨H,I.tok _,q⟩
 |byt y=>
  obtain⟨t,rfl⟩:=S;obtain⟨hy,e'⟩:y.size<=sizeLine/\k=((y.size:Int) != 0):=e;subst e';exact PySem.W.truthy_bytes lL ⟨H,I.tok _,q⟩
 |ref p=>
  cases S
  have e':(∃xs,SqL X.K H p xs/\k= !xs.isEmpty)\/(∃xs,SqT X.K H p xs/\k= !xs.isEmpty)\/∃kvs,H p=some (.dK kvs)/\k= !kvs.isEmpty:=e;rcases e' with⟨xs,V,e'⟩|⟨xs,V,e'⟩|⟨kvs,V,e'⟩
  .subst e';obtain⟨its,r,pl,W⟩:=I.list V;have O:=r.length;exact wpAny_truthy_list pl.isList (by simp only[qAT];lia) ⟨H,I.tok _,by rw[zKm r];exact q⟩
  .subst e';obtain⟨its,r,pl,W⟩:=I.tuple V;have O:=r.length;exact truthy_tuple pl (by simp only[qAT];lia) ⟨H,I.tok _,by rw[zKm r];exact q⟩
  .subst e';obtain⟨W,hS,vs,r,m⟩:kvs.length<=sizeLine/\(p==sysModules)=false/\∃vs,KV kvs vs/\s.heap.DictOf (zBc X.prog X.w) p vs:=I.hok p _ V;have O:kvs.length=vs.length:=qBt r;exact wpAny_truthy_dict hS m lL ⟨H,I.tok _,by rw[nU r];exact q⟩
 |_=>exact(show False from e).elim
theorem zIj(O:PE X a ta)(S:∀whole,isTrue a X.env whole=(do let v<-whole;standAt a.pos;holding [v] (truthy v))) :
  PT X a (λσ H Q=>ta σ H λx H'=>∃k,uF X.K x H' k/\Q k H'):=by
 intro pins s σ H Q I h;exact isTrue_plain (thn (O pins s σ H _ I h) λv V ⟨x,H1,W,r1,q1⟩=>wO pins V σ H1 x v Q W r1 q1)$ S _
theorem zA5:OpR X (binaryOp .Add) (λx y H Q=>∃i j,x= .str i/\y= .str j/\i.length+j.length<=sizeLine/\Q (.str$ i++j) H):=by
 intro pins s σ H x y v u Q I O S h;obtain⟨i,j,rfl,rfl,V,q⟩:=h;obtain⟨t,rfl⟩:=O;obtain⟨t',rfl⟩:=S;exact add_str (λt' tk=>⟨.str$ i++j,H,I.tok _,⟨_,rF⟩,q⟩) V
theorem zHg{x:V}(r:eB [x] us):∃u,us=[u]/\eE x u:=by
 cases r with
 |cons O S=>cases S;exact⟨_,rF,O⟩
theorem yU{x:V}(r:eB [x,y] us):∃u W,us=[u,W]/\eE x u/\eE y W:=by
 cases r with
 |cons O S=>
  cases S with
  |cons r3 r4=>cases r4;exact⟨_,_,rF,O,r3⟩
theorem qg(O:X.calm=true):zC4 X (.builtin "max") (λxs H Q=>∃i j,xs=[.int i,.int j]/\Q (.int$ if j>i then j else i) H):=by
 intro pins s σ H xs us Q I r h;obtain⟨i,j,rfl,q⟩:=h;obtain⟨u,W,rfl,⟨t,rfl⟩,⟨t',rfl⟩⟩:=yU r;refine max_two_ints (I.ok.hd O) λh' tk k=>⟨_,H,I.kept k,?_,q⟩
 by_cases hj:j>i
 .rw [qAD hj,qAD hj];exact⟨_,rF⟩
 .rw [qAC hj,qAC hj];exact⟨_,rF⟩
theorem zHd:zC4 X (.type "int") (λxs H Q=>(∃i,xs=[.int i]/\Q (.int i) H)\/∃k,xs=[.bl k]/\Q (.int$ if k then 1 else 0) H):=by
 intro pins s σ H xs us Q I r h;rcases h with⟨i,rfl,q⟩|⟨k,rfl,q⟩
 .obtain ⟨u,rfl,t,rfl⟩:=zHg r;exact call_int_int ⟨.int i,H,I,⟨_,rF⟩,q⟩
 .obtain ⟨u,rfl,O⟩:=zHg r
  cases O
  exact call_int_bool ⟨.int$ if k then 1 else 0,H,I.tok _,⟨_,rF⟩,q⟩
theorem zBo:zC4 X (.type "str") (λxs H Q=>∃i,xs=[.int i]/\i.natAbs.log2<1920/\Q (.str$ toString i) H):=by
 intro pins s σ H xs us Q I r h;obtain⟨i,rfl,O,q⟩:=h;obtain⟨u,rfl,t,rfl⟩:=zHg r;exact PySem.P.str_of_int O ⟨.str _,H,I.tok _,⟨_,rF⟩,q⟩
end
structure nv(h:Heap)(x dx C:Addr)(mA:Str->Option Value):Prop where
 obj:h.get? x=some (PySem.W.instObj C dx)
 ns:h.Ns1 dx mA
 ne:dx≠x
theorem qV{dx:Addr}{mA:Str->Option Value}(n:h.Ns1 dx mA):∃od,h.get? dx=some od/\∀name,PySem.W.lookIn name od=some (mA name):=by
 obtain⟨o,es,ep,S,V,W,_,hm⟩:=n;refine⟨o,S,λname=>?_⟩;have e:=hm name;unfold nsFind findBy at e;rw[<-Array.find?_toList]at e;unfold PySem.W.lookIn;rw[V];dsimp only;split
 .rename_i y q;rw[q]at e;exact qAf some e
 .rename_i q;rw[q]at e
  have a:es.toList.any (·.refKey)=false:=by
   rw[List.any_eq_false];intro y hy;obtain⟨z,t,O⟩:=W y$ qDg.mp hy;simp[DictEntry.refKey,O]
  have a':¬es.toList.any (·.refKey)=true:=by rw[a];exact qAk
  rw[qAC a'];exact qAf some e
theorem nv.look{x dx:Addr}{mA:Str->Option Value}(I:nv h x dx C mA):∃od,PySem.W.InstAt h x (PySem.W.instObj C dx) C (some od)/\∀name,PySem.W.lookIn name od=some (mA name) :=
 let⟨od,O,S⟩:=qV I.ns
 ⟨od,⟨I.obj,rF,rF,O⟩,S⟩
section
variable{prog:Program}{w:World}{A:Around}{E:Value->Shared->Prop}{s:Shared}{K:PySem.W.Frag}{x dx C f:Addr}{mA:Str->Option Value}{name:Str}{v:Value}
theorem vL{O:Bool}{Q:Value->Shared->Prop}(X:K.In s.heap)(I:nv s.heap x dx C mA)(V:PySem.W.plainGet K C name=true)(W:PySem.W.hasDictIn K C=true)
  (ha:PySem.W.findIn K (.ref C) name=some none) (hv:mA name=some v) (S:PySem.W.handedIn v=true) (h:Q v {s with toks:=s.toks+1}) :
  wpAny (model prog w) A (getAttr (.ref x) name O) Q E s:=by
 obtain⟨od,J,hl⟩:=I.look;exact PySem.W.get_value X J (PySem.W.plainGet_of V).1 (PySem.W.findObj_own W ha rF$ by rw[hl,hv]) S h
theorem uh{pl:Sem Bool}{Q:Value×List Value->Shared->Prop}(X:K.In s.heap)(I:nv s.heap x dx C mA)(O:PySem.W.plainGet K C name=true)
  (S:PySem.W.findIn K (.ref C) name=some (some$ .ref f)) (V:PySem.W.isFn K (.ref f)=true) (W:mA name=none) (h:Q (.ref f,[.ref x]) s) :
  wpAny (model prog w) A (getMethod (.ref x) name pl) Q E s:=by
 obtain⟨od,J,hl⟩:=I.look;exact PySem.W.method_fn X J (PySem.W.plainGet_of O).1 (PySem.W.plainGet_of O).2 S (qCW.mp V) (by show(PySem.W.lookIn name od).map (·.isSome)=some false;rw[hl,W];rfl) h
theorem vH{ns:List Str}{Q:Unit->Shared->Prop}(X:K.In s.heap)(I:nv s.heap x dx C mA)
  (hs:PySem.W.findIn K (.ref C) "__setattr__"=some (some$ .builtin "object.__setattr__")) (hp:PySem.W.plainOver K C=true) (ht:PySem.W.takerIn K C name=some none) (hh:PySem.W.hasDictIn K C=true)
  (hw:PySem.Within mA ns) (hsz:ns.length<=sizeLine)
  (h:∀h',nv h' x dx C (λy=>if y=name then some v else mA y)->Heap.SameBut dx s.heap h'->Q () {s with heap:=h',toks:=s.toks+2}) :
  wpAny (model prog w) A (setAttr (.ref x) name v) Q E s:=by
 obtain⟨od,J,hl⟩:=I.look;refine PySem.W.set_plain X J hs$ PySem.W.osa_open (s:={s with toks:=s.toks+1}) (r:=none) X J hp ht λb=>?_;obtain⟨cd,hc,V⟩:=PySem.W.any_some hh;have hx:s.heap.get? x=some ⟨.ref C,some dx,.plain,#[]⟩:=I.obj;refine qAA$ qAE$ qAA$ qAA$ wpAny_loadPart hx$ qAA$ PySem.W.Looks.here (s:={s with toks:=s.toks+1}) (PySem.W.looks_clsIn X hc) ?_;rw[V];refine qAE (a:=some dx)$ qAA$ qAE$ qAA ?_;refine wpAny_nsSet1 (s:={s with toks:=s.toks+1}) I.ns λh' O S=>?_;obtain⟨oD,ad,ae,W,aa,ab⟩:=O.count$ PySem.Within.cons name v hw;refine qAA$ wpAny_lookBehind W (by rw[aa];exact pastItsLine_dict$ qAR ab$ by rw[qAd];lia) ?_;exact qAE$ h _ ⟨(S.2 _$ qAo I.ne).trans I.obj,O,I.ne⟩ S
theorem tf{R:Result->Shared->Prop}{vs:List Value}{kw:List (Str×Value)}(X:K.In s.heap)(O:PySem.W.makesIn K C=true)
  (hi:PySem.W.findIn K (.ref C) "__init__"=some (some$ .ref f)) (V:PySem.W.typeIn K (.ref f)=some (.type "function"))
  (h:codeAny (model prog w) (A.under$ .builtin "type.__call__" ⟨.ref C::vs,kw⟩) (.call (.ref f) ⟨.ref (s.heap.objs.size+1)::vs,kw⟩) (PySem.W.InitBack (s.heap.objs.size+1) R)
   {s with heap:=(s.heap.push PySem.W.emptyDict).push (PySem.W.instObj C s.heap.objs.size)}) :
  codeAny (model prog w) A (.call (.ref C) ⟨vs,kw⟩) R s:=by
 obtain⟨W,g,d,t,os⟩:=s;exact PySem.W.make_core (PySem.W.makes_of X O) (PySem.W.looks_findIn X hi) (λS=>PySem.W.bind_fn X S V) (.inl rF) h
end
def eJ(f:Str)(v:V):List (Str×V)->List (Str×V)
 |[]=>[(f,v)]
 |(g,x)::r=>if g=f then(g,v)::r else(g,x)::eJ f v r
theorem zAv(f g:Str)(v:V):∀fs:List (Str×V),(eJ f v fs).lookup g=if g=f then some v else fs.lookup g
 |[]=>by
  show List.lookup g [(f,v)]=_
  by_cases h:g=f
  .have O:(g==f)=true:=qCW.mpr h;simp only[List.lookup,O,qAD h]
  .have O:(g==f)=false:=qBA.mpr h;simp only[List.lookup,O,qAC h]
 |(k,x)::r=>by
  have S:=zAv f g v r;rw[show eJ f v ((k,x)::r)=(if k=f then(k,v)::r else(k,x)::eJ f v r) from rfl]
  by_cases hk:k=f
  .rw [qAD hk]
   by_cases h:g=k
   .have O:(g==k)=true:=qCW.mpr h;simp only[List.lookup,O,qAD (h.trans hk)]
   .have O:(g==k)=false:=qBA.mpr h;simp only[List.lookup,O,qAC (λe:g=f=>h$ e.trans hk.symm)]
  .rw [qAC hk]
   by_cases h:g=k
   .have O:(g==k)=true:=qCW.mpr h;simp only[List.lookup,O,qAC (λe:g=f=>hk$ h.symm.trans e)]
   .have O:(g==k)=false:=qBA.mpr h;simp only[List.lookup,O];exact S
theorem zJk(f:Str)(v:V):∀fs:List (Str×V),f∈(eJ f v fs).map (·.1)/\∀g,g∈fs.map (·.1)->g∈(eJ f v fs).map (·.1)
 |[]=>⟨by simp[eJ],λg h=>by simp at h⟩
 |(k,x)::r=>by
  obtain⟨O,S⟩:=zJk f v r;rw[show eJ f v ((k,x)::r)=(if k=f then(k,v)::r else(k,x)::eJ f v r) from rfl]
  by_cases hk:k=f
  .rw [qAD hk];subst hk;exact⟨sS,λg h=>by simpa using h⟩
  .rw [qAC hk];refine⟨?_,λg h=>?_⟩
   .rw [qAi];exact qAS _ O
   .rw [qAi]at h ⊢;rcases qAQ.mp h with e|e
    .exact qAQ.mpr$ .inl e
    .exact qAS _$ S g e
theorem zJh(f:Str)(v:V):∀fs:List (Str×V),(eJ f v fs).length<=fs.length+1
 |[]=>by simp[eJ]
 |(k,x)::r=>by
  have O:=zJh f v r;rw[show eJ f v ((k,x)::r)=(if k=f then(k,v)::r else(k,x)::eJ f v r) from rfl]
  by_cases hk:k=f
  .rw [qAD hk,qAd,qAd];lia
  .rw [qAC hk,qAd,qAd];lia
theorem fV.some_of{v:V}{o:Option Value}(r:fV (some v) o):∃u,o=some u/\eE v u:=by
 cases o with
 |none=>exact(show False from r).elim
 |some u=>exact⟨u,rF,r⟩
theorem fV.none_of{o:Option Value}(r:fV none o):o=none:=by
 cases o with
 |none=>rfl
 |some u=>exact(show False from r).elim
theorem pT(r:eE v u):PySem.W.handedIn u=true:=by
 cases v with
 |non=>cases (show u=Value.none from r);rfl
 |bl b=>cases (show u=Value.bool b from r);rfl
 |int i=>obtain⟨t,e⟩:=(show∃t,u=Value.int i t from r);cases e;rfl
 |str x=>obtain⟨t,e⟩:=(show∃t,u=Value.str x t from r);cases e;rfl
 |byt b=>obtain⟨t,e⟩:=(show∃t,u=Value.bytes b t from r);cases e;rfl
 |flt b=>obtain⟨t,e⟩:=(show∃t,u=Value.float b t from r);cases e;rfl
 |ref a=>cases (show u=Value.ref a from r);rfl
 |ty n=>cases (show u=Value.type n from r);rfl
section
variable{P:Program}{w:World}{H H':Hp}{h h':Heap}{a C dx:Addr}{fs fs':List (Str×V)}
theorem zHr(O:HOk P w H h)(e:H a=some (.ins C dx fs)):∃mA,nv h a dx C mA/\(∀f,fV (fs.lookup f) (mA f))/\PySem.Within mA (fs.map (·.1))/\fs.length<=1000/\H dx=some (.own a):=by
 obtain⟨d,z,S,V,mA,n,r,q⟩:=(show zBk P w H h a (.ins C dx fs) from O a _ e);exact⟨mA,⟨V,n,S⟩,r,q,z,d⟩
end
structure Cls(K:PySem.W.Frag)(C:Addr):Prop where
 pg:PySem.W.plainGet K C Str.empty=true
 hd:PySem.W.hasDictIn K C=true
 po:PySem.W.plainOver K C=true
 sa:PySem.W.findIn K (.ref C) "__setattr__"=some (some$ .builtin "object.__setattr__")
theorem Cls.get(c:Cls K C)(f:Str):PySem.W.plainGet K C f=true:=c.pg
def zEo(K:PySem.W.Frag)(C:Addr)(f:Str):Prop:=PySem.W.findIn K (.ref C) f=some none
theorem zEo.taker{f:Str}(n:zEo K C f):PySem.W.takerIn K C f=some none:=by
 unfold PySem.W.takerIn;rw[show PySem.W.findIn K (.ref C) f=some none from n];rfl
structure uL(K:PySem.W.Frag)(C:Addr)(m:Str)(f:Addr):Prop where
 at_:PySem.W.findIn K (.ref C) m=some (some$ .ref f)
 fn:PySem.W.isFn K (.ref f)=true
 kp:PySem.W.keepIn K (.ref f)=true
section
variable{X:Cx}{pins:List (Addr×Obj)}{σ:St}{H:Hp}{s:Shared}{a C dx:Addr}{fs:List (Str×V)}{f:Str}{v:V}{A:Around}{E:Value->Shared->Prop}
theorem nL{b:Bool}{Q:Value->Shared->Prop}(I:Inv X pins σ H s)(e:H a=some (.ins C dx fs))(c:Cls X.K C)(n:zEo X.K C f)(l:fs.lookup f=some v)
  (h:∀u s',Inv X pins σ H s'->eE v u->Q u s'):wpAny (model X.prog X.w) A (getAttr (.ref a) f b) Q E s:=by
 obtain⟨mA,O,r,_,_,_⟩:=zHr I.hok e;obtain⟨u,V,S⟩:=fV.some_of (v:=v) (o:=mA f) (by rw[<-l];exact r f);exact vL I.kIn O (c.get f) c.hd n V (pT S)$ h u _ (I.tok _) S
theorem zKn{m:Str}{g:Addr}{pl:Sem Bool}{Q:Value×List Value->Shared->Prop}(I:Inv X pins σ H s)(e:H a=some (.ins C dx fs))(c:Cls X.K C)(k:uL X.K C m g)(l:fs.lookup m=none)
  (h:Q (.ref g,[.ref a]) s):wpAny (model X.prog X.w) A (getMethod (.ref a) m pl) Q E s:=by
 obtain⟨mA,O,r,_,_,_⟩:=zHr I.hok e;have S:mA m=none:=fV.none_of (by rw[<-l];exact r m);exact uh I.kIn O (c.get m) k.at_ k.fn S h
theorem mG{Q:Unit->Shared->Prop}(I:Inv X pins σ H s)(e:H a=some (.ins C dx fs))(c:Cls X.K C)(n:zEo X.K C f)(hl:fs.length<1000)(W:eE y u)
  (h:∀s',Inv X pins σ (upd H a$ .ins C dx$ eJ f y fs) s'->Q () s'):wpAny (model X.prog X.w) A (setAttr (.ref a) f u) Q E s:=by
 obtain⟨mA,O,r,wi,_,V⟩:=zHr I.hok e;have hz:(fs.map (·.1)).length<=sizeLine:=by rw[qAB,qAM];lia
 refine vH I.kIn O c.sa c.po n.taker c.hd wi hz λh' S sb=>h _ ?_;have hd:∃o,h'.get? dx=some o:=let⟨o,_,_,e',_⟩:=S.ns;⟨o,e'⟩;refine I.write (x:=a) (e:=dx) (by rw[e];exact True.intro) (.inr V) (λb q hb z=>(sb.2 b hb).trans z) hd ?_;refine⟨by rw[a_ O.ne];exact V,?_,O.ne,S.obj,_,S.ns,λg=>?_,λg hg=>?_⟩
 .have:=zJh f y fs;lia
 .show fV ((eJ f y fs).lookup g) (if g=f then some u else mA g);rw[zAv]
  by_cases q:g=f
  .rw [qAD q,qAD q];exact W
  .rw [qAC q,qAC q];exact r g
 .by_cases q:g=f
  .rw [q];exact(zJk f y fs).1
  .refine (zJk f y fs).2 g$ wi g λz=>hg ?_;show(if g=f then some u else mA g)=none;rw[qAC q];exact z
theorem Inv.made(I:Inv X pins σ H s):Inv X pins σ (upd (upd H s.heap.objs.size$ .own$ s.heap.objs.size+1) (s.heap.objs.size+1)$ .ins C s.heap.objs.size [])
  {s with heap:=(s.heap.push PySem.W.emptyDict).push (PySem.W.instObj C s.heap.objs.size)}:=by
 have O:(s.heap.push PySem.W.emptyDict).get? s.heap.objs.size=some PySem.W.emptyDict:=qAg s.heap rF
 have V:((s.heap.push PySem.W.emptyDict).push$ PySem.W.instObj C s.heap.objs.size).get? (s.heap.objs.size+1)=some (PySem.W.instObj C s.heap.objs.size):=by
  have:=qAg (s.heap.push PySem.W.emptyDict) (o:=PySem.W.instObj C s.heap.objs.size) rF
  rwa [qBM]at this
 have W:(s.heap.push PySem.W.emptyDict).Ns s.heap.objs.size (λ_=>none):=⟨PySem.W.emptyDict,#[],_,O,rF,(λe he=>absurd he sS),λ_=>rfl⟩;have I1:=I.laid (a:=s.heap.objs.size) (o:=.own$ s.heap.objs.size+1) (h':=s.heap.push PySem.W.emptyDict) (t':=s.toks) (λb u q=>qAL _ q) (qAF _) ⟨_,O⟩;refine I1.laid (a:=s.heap.objs.size+1) (o:=.ins C s.heap.objs.size []) (t':=s.toks) (λb u q=>qAL _ q) (qC3$ qBM _ _) ?_;have S:s.heap.objs.size≠s.heap.objs.size+1:=qAe$ qCX _;refine⟨by rw[a_ S,ac],qAm _,S,V,λ_=>none,(Heap.Ns1.of_empty W).at λo q=>qAL _ q,λ_=>True.intro,λy hy=>absurd rF hy⟩
theorem u0{prog:Program}{env:Env}{f:Str}{pos:Pos}{Q:Value->Shared->Prop}(O:attributeBase e f env (eval e env)=eval e env)
  (h:wpAny (model prog w) A (eval e env) (λo S=>wpAny (model prog w) A (getAttr o f true) Q E S) E s):wpAny (model prog w) A (eval (.Attribute e f pos) env) Q E s :=
 Attribute_any_ h (by rw[arm_eval_Attribute,O])
end
inductive wb(K:PySem.W.Frag)(f:Str)(Q:VK)(x:V)(H1:Hp):Prop
 |mk:∀a C dx fs v,x= .ref a->H1 a=some (.ins C dx fs)->Cls K C->zEo K C f->fs.lookup f=some v->Q v H1->wb K f Q x H1
def ye(K:PySem.W.Frag)(ta:TE)(f:Str):TE:=λσ H Q=>ta σ H λx H1=>wb K f Q x H1
inductive ww(K:PySem.W.Frag)(f:Str)(D:fW)(σ:St)(y:V)(x:V)(H2:Hp):Prop
 |mk:∀a C dx fs,x= .ref a->H2 a=some (.ins C dx fs)->Cls K C->zEo K C f->fs.length<1000->D.nx σ (upd H2 a$ .ins C dx$ eJ f y fs)->ww K f D σ y x H2
def zp(K:PySem.W.Frag)(ta tv:TE)(f:Str):TS:=λD σ H=>tv σ H λy H1=>ta σ H1 λx H2=>ww K f D σ y x H2
section
variable{X:Cx}{o e value:Expr}{f:Str}{pos pos' tpos:Pos}{ta tv:TE}
theorem zD2(O:PE X e ta)(S:attributeBase e f X.env (eval e X.env)=eval e X.env):PE X (.Attribute e f pos) (ye X.K ta f):=by
 intro pins s σ H Q I h;refine u0 S$ thn (O pins s σ H _ I h) λu s1 ⟨x,H1,V,W,a,C,dx,fs,v,ex,ea,c,n,l,q⟩=>?_;subst ex;obtain rfl:u=Value.ref a:=W;exact nL V ea c n l λu' s2 I2 ru=>⟨v,H1,I2,ru,q⟩
theorem zGv(O:PE X o ta)(V:PE X value tv)(hs:swapsWith value (some$ .Attribute o f pos') pos.line X.env=pure false):PS X (.Assign [.Attribute o f pos'] value pos) (zp X.K ta tv f):=by
 intro pins s σ H D I h;refine plainObj_wpAny_Assign_Attribute (thn (V pins s σ H _ I h) λu S ⟨y,H1,W,ry,q⟩=>thn (O pins S σ H1 _ W q) λov s2 ⟨x,H2,I2,rx,a,C,dx,fs,ex,ea,c,n,l,q2⟩=>?_) hs;subst ex;obtain rfl:ov=Value.ref a:=rx;exact mG I2 ea c n l ry λs3 I3=>⟨σ,_,I3,q2⟩
end
section
variable{X:Cx}{pins:List (Addr×Obj)}{σ:St}{H:Hp}{s:Shared}{A:Around}{E:Value->Shared->Prop}{Q:Value->Shared->Prop}{c:Value}{b:Bool}
inductive fL(K:PySem.W.Frag)(H:Hp):V->Value->Prop where
 |non:fL K H .non (.type "NoneType")
 |bl (x:Bool):fL K H (.bl x) (.type "bool")
 |int (i:Int):fL K H (.int i) (.type "int")
 |str (x:Str):fL K H (.str x) (.type "str")
 |flt (x:UInt64):fL K H (.flt x) (.type "float")
 |lst {a:Addr} {xs:List V} (e:H a=some (.lst xs)):fL K H (.ref a) (.type "list")
 |frz {a:Addr} {o:Obj} {xs:List V} (e:H a=some (.frz o$ .lst xs)):fL K H (.ref a) (.type "list")
 |tup {a:Addr} {xs:List V} (e:H a=some (.tup xs)):fL K H (.ref a) (.type "tuple")
 |dK {a:Addr} {kvs:List (Key×V)} (e:H a=some (.dK kvs)):fL K H (.ref a) (.type "dict")
 |dT {a:Addr} {kvs:List (List Key×V)} (e:H a=some (.dT kvs)):fL K H (.ref a) (.type "dict")
 |ins {a C dx:Addr} {fs:List (Str×V)} (e:H a=some (.ins C dx fs)) (cl:Cls K C) (ha:PySem.W.findIn K (.ref C) "__class__"=some (some$ .builtin "object.__class__"))
   (hn:PySem.W.specialIn K (.builtin "object.__class__") "__get__"=some (some$ .builtin "getset_descriptor.__get__")) (htk:PySem.W.takesIn K (.builtin "object.__class__")=some true)
   (hm:PySem.W.mroIn K C (.type "object")=some true):fL K H (.ref a) (.ref C)
theorem qv{x:V}{t:Value}(I:Inv X pins σ H s)(S:eE x u)(ty:fL X.K H x t)(e:PySem.W.kitOne X.K t c=some b)(h:∀tk,Q (.bool b) {s with toks:=tk}) :
  wpAny (model X.prog X.w) A (call (.builtin "isinstance") [u,c]) Q E s:=by
 cases ty with
 |non=>cases (show u=Value.none from S);exact qBP PySem.W.kitx_none I.kIn True.intro e (λz=>nomatch z) h
 |bl y=>cases (show u=Value.bool y from S);exact qBP PySem.W.kitx_bool I.kIn True.intro e (λz=>nomatch z) h
 |int i=>obtain⟨t,q⟩:=(show∃t,u=Value.int i t from S);cases q;exact qBP PySem.W.kitx_int I.kIn True.intro e (λz=>nomatch z) h
 |str y=>obtain⟨t,q⟩:=(show∃t,u=Value.str y t from S);cases q;exact qBP PySem.W.kitx_str I.kIn True.intro e (λz=>nomatch z) h
 |flt y=>obtain⟨t,q⟩:=(show∃t,u=Value.float y t from S);cases q;exact qBP PySem.W.kitx_float I.kIn True.intro e (λz=>nomatch z) h
 |@lst a xs W=>
  cases (show u=Value.ref a from S)
  obtain⟨_,_,n,_,h1⟩:=(show zBk X.prog X.w H s.heap a (.lst xs) from I.hok a _ W);exact qBP PySem.W.kitx_list I.kIn ⟨_,h1,rF⟩ e (λz=>nomatch z) h
 |@frz a ob xs W=>
  cases (show u=Value.ref a from S)
  obtain⟨_,_,_,n,_,h1⟩:=(show zBk X.prog X.w H s.heap a (.frz ob$ .lst xs) from I.hok a _ W);exact qBP PySem.W.kitx_list I.kIn ⟨_,h1,rF⟩ e (λz=>nomatch z) h
 |@tup a xs W=>
  cases (show u=Value.ref a from S)
  obtain⟨_,_,_,p⟩:=(show zBk X.prog X.w H s.heap a (.tup xs) from I.hok a _ W);obtain⟨o,h1,h2,_⟩:=p;exact qBP PySem.W.kitx_tuple I.kIn ⟨o,h1,h2⟩ e (λz=>nomatch z) h
 |@dK a kvs W=>
  cases (show u=Value.ref a from S)
  obtain⟨_,_,vs,_,p⟩:=(show zBk X.prog X.w H s.heap a (.dK kvs) from I.hok a _ W);obtain⟨o,es,ep,h1,h2,_⟩:=p;exact qBP PySem.W.kitx_dict I.kIn ⟨o,h1,h2.1⟩ e (λz=>nomatch z) h
 |@dT a kvs W=>
  cases (show u=Value.ref a from S)
  obtain⟨_,_,xs,_,o,es,ep,h1,h2,_⟩:=(show zBk X.prog X.w H s.heap a (.dT kvs) from I.hok a _ W);exact qBP PySem.W.kitx_dict I.kIn ⟨o,h1,h2.1⟩ e (λz=>nomatch z) h
 |@ins a C dx fs W cl ha hn aa hm=>
  cases (show u=Value.ref a from S)
  obtain⟨mA,O,_⟩:=zHr I.hok W;obtain⟨od,J,_⟩:=O.look;exact qBP (PySem.W.kitx_own (cl.get _) cl.hd ha hn aa hm) I.kIn J e (λz=>nomatch z) h
end
structure eR(k:Nat)(A:Around):Prop where
 hd:A.handled=none
 dp:A.depth+3*k+5<recursionLimit
 un:A.units+16*k+200<cLine
 gd:A.guards=some []
theorem eR.mono{j k:Nat}(r:eR k A)(h:j<=k):eR j A:=⟨r.hd,by have:=r.dp;lia,by have:=r.un;lia,r.gd⟩
theorem eR.deeper{k:Nat}(r:eR (k+1) A)(env:Env):eR k (A.deeper env) :=
 ⟨r.hd,by have:=r.dp;show A.depth+1+3*k+5<_;lia,by have:=r.un;show A.units+3+16*k+200<_;lia,r.gd⟩
theorem mO{kw:List (Str×Value)}:(A.under$ .builtin "type.__call__" ⟨.ref C::us,kw⟩).depth=A.depth+1:=by
 first|rfl|simp[Around.under,Code.weight,Code.isCreation,Code.isGuard,Code.isCaller,Code.frames,Code.isFrame,guardIds]
theorem mY{kw:List (Str×Value)}:(A.under$ .builtin "type.__call__" ⟨.ref C::us,kw⟩).units=A.units+1:=by
 first|rfl|simp[Around.under,Code.cUnits,Code.frames,Code.isFrame]
theorem eR.make{k:Nat}(r:eR (k+1) A)(C:Addr)(us:List Value)(kw:List (Str×Value)):eR k (A.under$ .builtin "type.__call__" ⟨.ref C::us,kw⟩) :=
 ⟨r.hd,by have:=r.dp;rw[mO];lia,by have:=r.un;rw[mY];lia,(by unfold Around.under;dsimp only;rw[r.gd];rfl)⟩
theorem eR.depth{k:Nat}(r:eR k A):A.depth<recursionLimit:=by have:=r.dp;lia
theorem eR.units{k:Nat}(r:eR k A):A.units+64<cLine:=by have:=r.un;lia
def pW:TA:=λ_ H Q=>Q [] H
def v_(ta:TE)(O:TA):TA:=λσ H Q=>ta σ H λx H1=>O σ H1 λxs H2=>Q (x::xs) H2
section
variable{X:Cx}{e:Expr}{es:List Expr}{te:TE}{t:TA}{pos:Pos}
theorem zAc:PA X [] pW:=λ_ _ _ _ H Q I h=>Calls.spliced_nil ⟨[],H,I,.nil,h⟩
theorem zAa(O:PE X e te)(S:PA X es t)(hs:starEach (e::es) X.env=(false,eval e X.env)::starEach es X.env:=by rfl):PA X (e::es) (v_ te t):=by
 intro pos pins s σ H Q I h;rw[hs];show wpAny _ _ (spliced$ (false,eval e X.env)::backTo pos (starEach es X.env)) _ _ s;refine Calls.spliced_cons$ thn (O pins s σ H _ I h) λu V ⟨x,H1,W,r1,q1⟩=>?_;exact thn (S pos pins V σ H1 _ W q1) λus s2 ⟨xs,H2,I2,r2,q2⟩=>⟨x::xs,H2,I2,.cons r1 r2,q2⟩
def zf(t:TA):TE:=λσ H Q=>t σ H λxs H1=>xs.length<=sizeLine/\∀p,H1 p=none->Q (.ref p) (upd H1 p$ .tup xs)
def zC(t:TA):TE:=λσ H Q=>t σ H λxs H1=>xs.length<=sizeLine/\∀p,H1 p=none->Q (.ref p) (upd H1 p$ .lst xs)
theorem zCl{V}(h:PA X es t):PE X (.Tuple es V pos) (zf t):=by
 intro pins s σ H Q I W;refine wpAny_Tuple_spliced$ thn (h pos pins s σ H _ I W) λus S ⟨xs,H1,O,r,z,q⟩=>⟨by rw[<-r.length];exact z,?_⟩;have hf:H1 S.heap.objs.size=none:=O.hok.fresh$ qAF _;refine⟨.ref S.heap.objs.size,upd H1 S.heap.objs.size$ .tup xs,O.laid (t':=S.toks) (λb u e=>qAL _ e) (qAF _) ?_,rF,q _ hf⟩;exact⟨z,us,r,⟨_,qAg _ rF,rF,_,rF⟩⟩
theorem zAw(h:PA X es t):PE X (.List es pos) (zC t):=by
 intro pins s σ H Q I V;refine wpAny_List_spliced$ thn (h pos pins s σ H _ I V) λus S ⟨xs,H1,O,r,z,q⟩=>⟨by rw[<-r.length];exact z,?_⟩;have W:H1 S.heap.objs.size=none:=O.hok.fresh$ qAF _;refine⟨.ref S.heap.objs.size,upd H1 S.heap.objs.size$ .lst xs,O.laid (t':=S.toks) (λb u e=>qAL _ e) (qAF _) ?_,rF,q _ W⟩;exact⟨z,us,0,r,qAg _ rF⟩
end
abbrev Sp:=List V->Hp->VK->XK->Prop
abbrev CXT:=List Env->Hp->Shared->XK->Value->Shared->Prop
structure mJ(P:Program)(w:World)(K:PySem.W.Frag)(mg:Str->Option Value)(base:Heap)(A:Around)(outer:List Env)(s:Shared)(H:Hp):Prop where
 frames:A.frames=some outer
 mod:Mod K mg base
 bs:∀b o,base.get? b=some o->s.heap.get? b=some o/\H b=none
 bsz:base.objs.size<=s.heap.objs.size
 funs:s.heap.FunFrames base outer
 frf:∀b∈frs outer,H b=none
 hok:HOk P w H s.heap
 bare:AllBare s.gens
def CE(O:List Env)(P:Program)(w:World)(H:Hp)(s:Shared)(Q:VK)(u:Value)(s':Shared):Prop :=
 ∃v H',s'.os=s.os/\AllBare s'.gens/\Un (frs O) [] H H' s.heap s'.heap/\HOk P w H' s'.heap/\eE v u/\Q v H'
def CR(CX:CXT)(O:List Env)(P:Program)(w:World)(H:Hp)(s:Shared)(Q:VK)(E:XK)(r:Result)(s':Shared):Prop :=
 match r with
 | .ok (.ret u)=>CE O P w H s Q u s'
 | .ok _=>False
 | .error e=>CX O H s E e s'
structure eC(P:Program)(w:World)(K:PySem.W.Frag)(mg:Str->Option Value)(base:Heap)(CX:CXT)(k:Nat)(f:Addr)(fd:FuncData)(ps:List Str)(sp:Sp):Prop where
 len:∀vs H Q E,sp vs H Q E->vs.length=ps.length
 run:∀(A:Around)(outer:List Env)(s:Shared)(H:Hp)(args:Args)(us:List Value)(vs:List V)(Q:VK)(E:XK),eR k A->mJ P w K mg base A outer s H->BindsTo s fd args (ps.zip us)->eB vs us->sp vs H Q E ->
  codeAny (model P w) A (.call (.ref f) args) (CR CX outer P w H s Q E) s
theorem mJ.make{mg:Str->Option Value}{O:List Env}(e:mJ P w K mg base A O s H)(C:Addr)(us:List Value)(kw:List (Str×Value)) :
  mJ P w K mg base (A.under$ .builtin "type.__call__" ⟨.ref C::us,kw⟩) O s H:=⟨by first|exact e.frames|(simpa[Around.under,Code.envs,Code.isFrame,pushEnvs]using e.frames),e.mod,e.bs,e.bsz,e.funs,e.frf,e.hok,e.bare⟩
section
variable{X:Cx}{pins:List (Addr×Obj)}{σ:St}{H:Hp}{s s':Shared}
theorem Inv.env0(I:Inv X pins σ H s):mJ X.prog X.w X.K X.mg X.base X.A X.stack s H :=
 ⟨I.ok.frames,I.ok.mod,I.bs,qAR I.ok.bsz I.sz,I.stack,I.stkFree,I.hok,I.bare⟩
theorem Inv.after{Q:VK}(I:Inv X pins σ H s)(h:CE X.stack X.prog X.w H s Q u s'):EP X pins σ Q u s':=by
 obtain⟨v,H',os,O,un,S,r,q⟩:=h;obtain⟨W,g,d,t,V⟩:=s';obtain rfl:V=s.os:=os;exact⟨v,H',I.call (h':=W) (g':=g) (d':=d) (t':=t) (ch:=[]) un S O λb z=>absurd z sS,r,q⟩
end
def rD(sp:Sp)(dvs:List V)(E:XK)(t:TA):TE:=λσ H Q=>t σ H λvs H1=>sp (vs++dvs) H1 Q E
inductive rC(C:Addr)(m:Str)(sp:Sp)(dvs:List V)(E:XK)(t:TA)(σ:St)(Q:VK)(x:V)(H1:Hp):Prop
 |mk:∀a dx fs,x= .ref a->H1 a=some (.ins C dx fs)->fs.lookup m=none->(t σ H1 λvs H2=>sp (x::(vs++dvs)) H2 Q E)->rC C m sp dvs E t σ Q x H1
def pG(C:Addr)(m:Str)(sp:Sp)(dvs:List V)(E:XK)(ta:TE)(t:TA):TE:=λσ H Q=>ta σ H λx H1=>rC C m sp dvs E t σ Q x H1
def oJ(C:Addr)(sp:Sp)(dvs:List V)(E:XK)(t:TA):TE:=λσ H Q=>t σ H λvs H1=>∀x dx,H1 x=none->H1 dx=none->dx≠x ->
 sp (.ref x::(vs++dvs)) (upd (upd H1 dx$ .own x) x$ .ins C dx []) (λv H2=>v= .non/\Q (.ref x) H2) E
def zDy(K:PySem.W.Frag)(fd:FuncData)(ps:List Str)(ds:List Value):Prop :=
 ∀(s:Shared)(us:List Value),K.In s.heap->(us++ds).length=ps.length->BindsTo s fd ⟨us,[]⟩ (ps.zip$ us++ds)
theorem zDy.all{fd:FuncData}{ps:List Str}(h:∀us:List Value,us.length=ps.length->bindArgs fd ⟨us,[]⟩=pure (ps.zip us)):zDy K fd ps []:=λs us _ O=>by
 rw[qA4]at O ⊢;exact .of_eq$ h us O
def zH7(CX:CXT)(X:Cx)(E:XK):Prop:=∀(pins:List (Addr×Obj)) (σ:St) (H:Hp) (s:Shared) (e:Value) (s':Shared),Inv X pins σ H s->CX X.stack H s E e s'->X.xe e s'
section
variable{X:Cx}{CX:CXT}{k:Nat}{f C:Addr}{fd:FuncData}{ps:List Str}{sp:Sp}{dvs:List V}{ds:List Value}{E:XK}{x m:Str}{p pos apos:Pos}{e o:Expr}{es:List Expr}{ta:TE}{t:TA}
theorem nT{Q:VK}{us:List Value}{vs:List V}(F:eC X.prog X.w X.K X.mg X.base CX k f fd ps sp)(W:eR k X.A)(hb:zDy X.K fd ps ds)(hd:eB dvs ds)(hx:zH7 CX X E)
  (I:Inv X pins σ H s) (r:eB vs us) (h:sp (vs++dvs) H Q E):wpAny (model X.prog X.w) X.A (call (.ref f) us) (EP X pins σ Q) X.xe s:=by
 have S:eB (vs++dvs) (us++ds):=r.append hd;have hl:(us++ds).length=ps.length:=by rw[<-S.length];exact F.len _ _ _ _ h
 refine qCY$ qBk (F.run X.A X.stack s H ⟨us,[]⟩ (us++ds) (vs++dvs) Q E W I.env0 (hb s us I.kIn hl) S h) λr s' O=>?_
 cases r with
 |error e=>exact hx pins σ H s e s' I O
 |ok fl=>
  cases fl with
  |ret u=>exact I.after O
  |next=>exact False.elim O
  |brk=>exact False.elim O
  |cont=>exact False.elim O
theorem pR(F:eC X.prog X.w X.K X.mg X.base CX k f fd ps sp)(W:eR k X.A)(hg:Gl X x)(hm:X.mg x=some (.ref f))(hk:PySem.W.keepIn X.K (.ref f)=true)(hb:zDy X.K fd ps ds)(hd:eB dvs ds)(hx:zH7 CX X E)
  (ha:PA X (e::es) t) (O:(x==("__debug__": Str))=false:=by decide) (he:starEach (e::es) X.env=(false,eval e X.env)::starEach es X.env:=by rfl) (S:(backTo pos$ starEach es X.env).any (·.1)=false:=by rfl) :
  PE X (.Call (.Name x p) (e::es) [] pos) (rD sp dvs E t):=by
 intro pins s σ H Q I h;refine qB9$ zLz I hg hm ?_ O;refine PySem.W.callWith_K (h₀:=X.base) I.ok.mod.kin hk (thn (ha pos pins s σ H _ I h) λus s1 ⟨vs,H1,V,r,q⟩=>⟨V.kIn,?_⟩) he S;exact nT F W hb hd hx V r q
theorem uO{pl:Sem Bool}(he:PE X o ta)(c:Cls X.K C)(V:uL X.K C m f)(F:eC X.prog X.w X.K X.mg X.base CX k f fd ps sp)(hr:eR k X.A)(hb:zDy X.K fd ps ds)(hd:eB dvs ds)(hx:zH7 CX X E)(ha:PA X (e::es) t)
  (O:starEach (e::es) X.env=(false,eval e X.env)::starEach es X.env:=by rfl) (S:(backTo pos$ starEach es X.env).any (·.1)=false:=by rfl)
  (ht:eval (.Call (.Attribute o m apos) (e::es) [] pos) X.env=(do
   let ov<-eval o X.env
   standAt apos.atName
   let(f,first)<-holding [ov] (getMethod ov m pl)
   callWith pos f first (backTo pos$ starEach (e::es) X.env) (backToKw pos$ keywordEach [] X.env)):=by rfl) :
  PE X (.Call (.Attribute o m apos) (e::es) [] pos) (pG C m sp dvs E ta t):=by
 intro pins s σ H Q I h;refine PySem.W.methodCall_KW (pl:=pl) (thn (he pins s σ H _ I h) λu s1 ⟨x,H1,W,rx,a,dx,fs,ex,ea,l,q⟩=>?_) ht;subst ex;obtain rfl:u=Value.ref a:=rx;refine zKn W ea c V l ?_;refine PySem.W.callWith_K (first:=[.ref a]) (h₀:=X.base) I.ok.mod.kin V.kp (thn (ha pos pins s1 σ H1 _ W q) λus s2 ⟨vs,H2,I2,r,q2⟩=>⟨I2.kIn,?_⟩) O S;exact nT (us:=.ref a::us) (vs:=.ref a::vs) F hr hb hd hx I2 (.cons rF r) q2
theorem tJ{pl:Sem Bool}(V:PE X o ta)(c:Cls X.K C)(S:uL X.K C m f)(F:eC X.prog X.w X.K X.mg X.base CX k f fd ps sp)(W:eR k X.A)(hb:zDy X.K fd ps ds)(hd:eB dvs ds)(hx:zH7 CX X E)
  (ht:eval (.Call (.Attribute o m apos) [] [] pos) X.env=(do
   let ov<-eval o X.env
   standAt apos.atName
   let(f,first)<-holding [ov] (getMethod ov m pl)
   callWith pos f first (backTo pos$ starEach [] X.env) (backToKw pos$ keywordEach [] X.env)):=by rfl) :
  PE X (.Call (.Attribute o m apos) [] [] pos) (pG C m sp dvs E ta pW):=by
 intro pins s σ H Q I h;refine PySem.W.methodCall_KW (pl:=pl) (thn (V pins s σ H _ I h) λu s1 ⟨x,H1,O,rx,a,dx,fs,ex,ea,l,q⟩=>?_) ht;subst ex;obtain rfl:u=Value.ref a:=rx;refine zKn O ea c S l ?_;exact PySem.W.callWith_K0 (first:=[.ref a]) O.kIn S.kp$ nT (us:=[.ref a]) (vs:=[.ref a]) F W hb hd hx O (.cons rF .nil) q
structure Mk(K:PySem.W.Frag)(C f:Addr):Prop where
 makes:PySem.W.makesIn K C=true
 init:PySem.W.findIn K (.ref C) "__init__"=some (some$ .ref f)
 fn:PySem.W.isFn K (.ref f)=true
 kp:PySem.W.keepIn K (.ref C)=true
theorem ly{Q:VK}{us:List Value}{vs:List V}(M:Mk X.K C f)(F:eC X.prog X.w X.K X.mg X.base CX k f fd ps sp)(hr:eR (k+1) X.A)(hb:zDy X.K fd ps ds)(hd:eB dvs ds)
  (hx:zH7 CX X E) (I:Inv X pins σ H s) (r:eB vs us)
  (h:∀x dx,H x=none->H dx=none->dx≠x->sp (.ref x::(vs++dvs)) (upd (upd H dx$ .own x) x$ .ins C dx []) (λv H2=>v= .non/\Q (.ref x) H2) E) :
  wpAny (model X.prog X.w) X.A (call (.ref C) us) (EP X pins σ Q) X.xe s:=by
 have W:=h (s.heap.objs.size+1) s.heap.objs.size (I.hok.fresh$ qBl _) (I.hok.fresh$ qAF _)$ qAe$ qCX _;have S:=Inv.made (C:=C) I;have r2:eB (V.ref (s.heap.objs.size+1)::(vs++dvs)) (Value.ref (s.heap.objs.size+1)::(us++ds)):=.cons rF$ r.append hd
 have hl:(Value.ref (s.heap.objs.size+1)::us++ds).length=ps.length:=by
  have e:=r2.length;rw[F.len _ _ _ _ W]at e;exact e.symm
 refine qCY$ tf (f:=f) I.kIn M.makes M.init (qCW.mp M.fn)$ qBk (F.run _ X.stack _ _ ⟨Value.ref (s.heap.objs.size+1)::us,[]⟩ (Value.ref (s.heap.objs.size+1)::(us++ds)) _ _ E (hr.make C us []) (S.env0.make C us []) (hb _ (Value.ref (s.heap.objs.size+1)::us) S.kIn hl) r2 W) λr s' O=>?_
 cases r with
 |error e=>exact hx pins σ _ _ e s' S O
 |ok fl=>
  cases fl with
  |ret u=>
   obtain⟨v,H',I3,rv,ev,q3⟩:=S.after O;subst ev;exact⟨rv,⟨V.ref$ s.heap.objs.size+1,H',I3,rF,q3⟩⟩
  |next=>exact False.elim O
  |brk=>exact False.elim O
  |cont=>exact False.elim O
theorem vQ(M:Mk X.K C f)(F:eC X.prog X.w X.K X.mg X.base CX k f fd ps sp)(W:eR (k+1) X.A)(hg:Gl X x)(hm:X.mg x=some (.ref C))(hb:zDy X.K fd ps ds)(hd:eB dvs ds)(hx:zH7 CX X E)
  (ha:PA X (e::es) t) (O:(x==("__debug__": Str))=false:=by decide) (he:starEach (e::es) X.env=(false,eval e X.env)::starEach es X.env:=by rfl) (S:(backTo pos$ starEach es X.env).any (·.1)=false:=by rfl) :
  PE X (.Call (.Name x p) (e::es) [] pos) (oJ C sp dvs E t):=by
 intro pins s σ H Q I h;refine qB9$ zLz I hg hm ?_ O;refine PySem.W.callWith_K (h₀:=X.base) I.ok.mod.kin M.kp (thn (ha pos pins s σ H _ I h) λus s1 ⟨vs,H1,V,r,q⟩=>⟨V.kIn,?_⟩) he S;exact ly M F W hb hd hx V r q
theorem t8(M:Mk X.K C f)(F:eC X.prog X.w X.K X.mg X.base CX k f fd ps sp)(S:eR (k+1) X.A)(V:Gl X x)(W:X.mg x=some (.ref C))(hb:zDy X.K fd ps ds)(hd:eB dvs ds)(hx:zH7 CX X E)
  (O:(x==("__debug__": Str))=false:=by decide):PE X (.Call (.Name x p) [] [] pos) (oJ C sp dvs E pW):=by
 intro pins s σ H Q I h;refine qB9$ zLz I V W ?_ O;exact PySem.W.callWith_K0 I.kIn M.kp$ ly (us:=[]) M F S hb hd hx I .nil h
end
def PK(X:Cx)(kws:List Keyword)(t:TA):Prop :=
 ∀(pos:Pos) (pins:List (Addr×Obj)) (s:Shared) (σ:St) (H:Hp) (Q:List V->Hp->Prop),Inv X pins σ H s->t σ H Q->wpAny (model X.prog X.w) X.A (evalAll$ (backToKw pos$ keywordEach kws X.env).map (·.2)) (AP X pins σ Q) X.xe s
section
variable{X:Cx}{CX:CXT}{k:Nat}{f C:Addr}{fd:FuncData}{ps ks:List Str}{sp:Sp}{E:XK}{x m:Str}{p pos apos kpos:Pos}{e o:Expr}{es:List Expr}{kws:List Keyword}{te ta:TE}{t tk:TA}{nm:Option Str}
theorem xh:PK X [] pW:=λ_ _ _ _ H Q I h=>wpAny_evalAll_nil ⟨[],H,I,.nil,h⟩
theorem uz(O:PE X e te)(S:PK X kws t):PK X (⟨nm,e,kpos⟩::kws) (v_ te t):=by
 intro pos pins s σ H Q I h;show wpAny _ _ (evalAll$ (do let v<-eval e X.env;standAt pos;pure v)::(backToKw pos$ keywordEach kws X.env).map (·.2)) _ _ s;refine wpAny_evalAll_cons$ qAA$ thn (O pins s σ H _ I h) λu V ⟨x,H1,W,r1,q1⟩=>qAA$ qCT$ qAE ?_;exact thn (S pos pins V σ H1 _ W q1) λus s2 ⟨xs,H2,I2,r2,q2⟩=>⟨x::xs,H2,I2,.cons r1 r2,q2⟩
variable{g:List Value->List Value->List Value}{gV:List V->List V->List V}
end
structure c_(N P:List Str)(sc:Scope):Prop where
 kind:sc.kind= .function
 co:sc.isCoroutine=false
 gen:sc.isGenerator=false
 nd:N.Nodup
 pre:N.take P.length=P
 par:∀x∈P,sc.names.lookup x=some .local\/sc.names.lookup x=some .cell
 nofree:∀y∈sc.names,y.2≠.free
theorem iZ{kindOf:Str->Option NameKind} :∀{binds:List (Str×Value)} {m:Str->Option Value},(∀v,(x,v)∉binds)->bindL kindOf binds m x=m x
 |[],_,_=>rfl
 |(n,v)::r,m,h=>by
  unfold bindL;rw[iZ λw hw=>h w$ qAS _ hw];split
  .have:x≠n:=by rintro rfl;exact h v qAO
   simp[this]
  .rfl
theorem iQ{kindOf:Str->Option NameKind} :∀{binds:List (Str×Value)} {m:Str->Option Value},(∀v,(x,v)∉binds)->bindC kindOf binds m x=m x
 |[],_,_=>rfl
 |(n,v)::r,m,h=>by
  unfold bindC;rw[iQ λw hw=>h w$ qAS _ hw];split
  .rfl
  .have:x≠n:=by rintro rfl;exact h v qAO
   simp[this]
theorem iM{kindOf:Str->Option NameKind}{v:Value}:∀{P:List Str}{vs:List Value}{i:Nat}{m:Str->Option Value},P.Nodup->P[i]?=some x->vs[i]?=some v->kindOf x=some .local ->
  bindL kindOf (P.zip vs) m x=some v
 |[],_,_,_,_,h,_,_=>by simp at h
 |_::_,[],_,_,_,_,h,_=>by simp at h
 |p::P,w::vs,0,m,O,h1,h2,S=>by
  simp at h1 h2;subst h1;subst h2;show bindL kindOf ((p,w)::P.zip vs) m p=_;unfold bindL;rw[iZ λv V=>(qA5.mp O).1 (List.of_mem_zip V).1,qAD S];simp
 |p::P,w::vs,i+1,m,O,h1,h2,S=>by
  show bindL kindOf ((p,w)::P.zip vs) m x=_;unfold bindL;exact iM (i:=i) (qA5.mp O).2 (by simpa using h1) (by simpa using h2) S
theorem iD{kindOf:Str->Option NameKind}{v:Value}:∀{P:List Str}{vs:List Value}{i:Nat}{m:Str->Option Value},P.Nodup->P[i]?=some x->vs[i]?=some v->kindOf x≠some .local ->
  bindC kindOf (P.zip vs) m x=some v
 |[],_,_,_,_,h,_,_=>by simp at h
 |_::_,[],_,_,_,_,h,_=>by simp at h
 |p::P,w::vs,0,m,O,h1,h2,S=>by
  simp at h1 h2;subst h1;subst h2;show bindC kindOf ((p,w)::P.zip vs) m p=_;unfold bindC;rw[iQ λv V=>(qA5.mp O).1 (List.of_mem_zip V).1,qAC S];simp
 |p::P,w::vs,i+1,m,O,h1,h2,S=>by
  show bindC kindOf ((p,w)::P.zip vs) m x=_;unfold bindC;exact iD (i:=i) (qA5.mp O).2 (by simpa using h1) (by simpa using h2) S
def start(N:List Str)(vs:List V):St:=vs.map some++List.replicate (N.length-vs.length) none
def n_(CX:CXT)(P:Program)(w:World)(K:PySem.W.Frag)(mg:Str->Option Value)(base:Heap)(N:List Str)(qual:Str)(scope:Scope)(f:Addr)(V:Value)(A:Around)(O:List Env)(s:Shared)(H:Hp)(E:XK):Cx where
 prog:=P
 w:=w
 K:=K
 mg:=mg
 base:=base
 A:=A.deeper (envOfC qual scope s.heap.objs.size f V)
 N:=N
 s₀:=s
 H₀:=H
 env:=envOfC qual scope s.heap.objs.size f V
 outer:=O
 stack:=envOfC qual scope s.heap.objs.size f V::O
 ex:=[]
 calm:=true
 fn:=λ_=>true
 pn:=[]
 xe:=λe s'=>wpAny (model P w) (A.deeper$ envOfC qual scope s.heap.objs.size f V) (leaving (envOfC qual scope s.heap.objs.size f V) e) (λ_ S=>CX O H s E e S) (λe' S=>CX O H s E e' S) s'
theorem lE{sc:Scope}{n:Nat}(h:sc.names.lookup x=some .cell):∃c,(cellsFrom n sc.names []).lookup x=some c:=by
 have q:=qDh sc.names n []$ .inl h;exact qDi.mp q
theorem qp{CX:CXT}{mg:Str->Option Value}{N ps:List Str}{qual:Str}{scope:Scope}{f:Addr}{cd:Value}{O:List Env}{s1:Shared}{E:XK}{vs:List V}
  (S:c_ N ps scope) (hd:A.handled=none) (W:mJ P w K mg base A O s H) (hl:vs.length=ps.length) (r:eB vs us)
  (x:InCallC s s.heap.objs.size (bindL (envOfC qual scope s.heap.objs.size f cd).kindOf (ps.zip us) λ_=>none) (cellsFrom (s.heap.objs.size+1) scope.names []) (bindC (envOfC qual scope s.heap.objs.size f cd).kindOf (ps.zip us) λ_=>none) s1) :
  Inv (n_ CX P w K mg base N qual scope f cd A O s H E) [] (start N vs) H s1:=by
 have ad:ps.length<=N.length:=by have:=qAf List.length S.pre;rw[qAX]at this;lia
 obtain⟨h1,tk,rfl,hk⟩:=x.done;have aa:∀b:Addr,b∉(n_ CX P w K mg base N qual scope f cd A O s H E).ex:=λb z=>absurd (show b∈([]:List Addr) from z) sS
 refine⟨⟨W.mod,S.kind,rF,rF,qAF _,λy z c h1 h2=>?_,λy hy=>?_,λy c _ h=>?_,λ_=>hd,Around.frames_deeper W.frames,.inr ⟨rF,rF⟩,λb z=>absurd z$ aa b,W.bs,W.bsz,λb _ _=>aa b,λb z=>absurd z$ aa b,W.funs,W.frf⟩,rF,W.bare,Un.kept hk,⟨_,x.toInCall.ns,λi y v h1 h2 h3=>?_⟩,λy c h=>⟨_,x.cell y c h⟩,W.hok.fresh$ qAF _,λy c h=>?_,λp hp=>absurd (show p∈([]:List (Addr×Obj)) from hp) sS,W.hok.kept hk,?_⟩
 .exact name_of_addr x.apart (qCA h1)$ qCA h2
 .have hy:scope.names.lookup y=some .cell\/scope.names.lookup y=some .free:=hy;rcases hy with hy|hy
  .exact lE hy
  .exact absurd rF$ S.nofree _$ qCA hy
 .exact qB8$ x.above y c$ qCA h
 .have hi:i<vs.length:=by
   unfold start at h2
   by_cases hi:i<vs.length
   .exact hi
   .rw [qCB$ by simpa using hi]at h2;rw[List.getElem?_replicate]at h2;split at h2<;>cases h2
  have ha:vs[i]?=some v:=by
   unfold start at h2;rw[qBf (by simpa using hi),qAU]at h2
   cases e:vs[i]? with
   |none=>rw[e]at h2;cases h2
   |some a=>rw[e]at h2;cases h2;rfl
  obtain⟨u,hu,rv⟩:=r.get ha
  have hp:ps[i]?=some y:=by
   rw[<-S.pre,qCZ lL];exact h1
  have ab:ps.Nodup:=by rw[<-S.pre];exact S.nd.sublist$ List.take_sublist _ _
  refine⟨u,rv,?_⟩;rcases S.par y (qAN hp) with k|k
  .exact .inl ⟨k,iM ab hp hu k⟩
  .obtain ⟨c,e⟩:=lE (n:=s.heap.objs.size+1) k;refine .inr ⟨.inl k,c,e,?_⟩;have q:=x.cell y c e;rw[iD ab hp hu$ by show scope.names.lookup y≠_;rw[k];decide]at q;exact q
 .exact W.hok.fresh$ qB8$ x.above y c$ qCA h
 .unfold start;show _=N.length;rw[qAV,qAB,List.length_replicate];lia
theorem wa{CX:CXT}{mg:Str->Option Value}{k:Nat}{f:Addr}{name qual:Str}{aa:Arguments}{body:List Stmt}{scope:Scope}{dV kV af pm W ct oc:Value}{an od:Option Addr}
  {ah:Array (Option Value)} {N ps:List Str} {sp:Sp} (lk:K.lookup f=some ⟨oc,od,.func$ PySem.W.fnOf name qual aa body scope dV kV af pm an W ct,ah⟩) (ai:PySem.W.codeIn K W qual=true) (S:c_ N ps scope)
  (len:∀vs H Q E,sp vs H Q E->vs.length=ps.length)
  (ad:∀(A:Around) (O:List Env) (s:Shared) (H:Hp) (vs:List V) (Q:VK) (E:XK),eR k (A.deeper$ envOfC qual scope s.heap.objs.size f W)->sp vs H Q E ->
   ∃t,PSs (n_ CX P w K mg base N qual scope f W A O s H E) body t/\t {nx:=λ_ H'=>Q .non H',rt:=Q} (start N vs) H) :
  eC P w K mg base CX (k+1) f (PySem.W.fnOf name qual aa body scope dV kV af pm an W ct) ps sp:=by
 refine⟨len,λA O s H ak us vs Q E hr e0 hb r ag=>?_⟩;have hl:=len _ _ _ _ ag;have KX:K.In s.heap:=e0.mod.kin.keeps λb o e=>(e0.bs b o e).1;have aj:s.heap.NoLimit:=e0.mod.nolimit.keeps λb o e=>(e0.bs b o e).1
 have ae:∀y∈ps.zip us,scope.names.lookup y.1=some .local\/(scope.names.lookup y.1=some .cell/\((cellsFrom (s.heap.objs.size+1) scope.names []).lookup y.1).isSome=true):=λ⟨n,v⟩ hy=>by
  rcases S.par n (List.of_mem_zip hy).1 with q|q
  .exact .inl q
  .exact .inr ⟨q,qDh _ _ _$ .inl q⟩
 refine codeAny_call_function hr.depth (KX _ _ lk) rF S.co S.gen rF (PySem.W.codeRec_of KX ai)$ hb _ _ _ _ ?_;refine wpAny_newFunctionEnv_cells S.kind ae λenv he s1 x=>?_;subst he;refine⟨aj.keeps x.toInCall.keep,codeAny_func ?_⟩;obtain⟨t,ht,hq⟩:=ad A O s H vs Q E (hr.deeper _) ag;have I:Inv (n_ CX P w K mg base N qual scope f W A O s H E) [] (start N vs) H s1:=qp S hr.hd e0 hl r x;refine qA3 (ht [] s1 (start N vs) H _ I hq) (λfl s' hs=>?_) λe s' hs=>hs
 have fin:∀{ab:St}{H':Hp}{v:V}{u:Value},Inv (n_ CX P w K mg base N qual scope f W A O s H E) [] ab H' s'->eE v u->Q v H'->CE O P w H s Q u s' :=
  λ{ab H' v u} J rv q=>⟨v,H',J.os,J.bare,J.base,J.hok,rv,q⟩
 cases fl with
 |ret u=>
  obtain⟨v,ab,H',J,rv,q⟩:=hs;exact fin J rv q
 |next=>
  obtain⟨ab,H',J,q⟩:=hs;exact fin (v:=V.non) (u:=Value.none) J rF q
 |brk=>
  obtain⟨_,_,_,q⟩:=hs;exact False.elim q
 |cont=>
  obtain⟨_,_,_,q⟩:=hs;exact False.elim q
section
variable{X:Cx}{x:Str}{p pos:Pos}{e:Expr}{es:List Expr}{t:TA}{id T:String}{r:List V->Hp->VK->Prop}
def tCB(r:List V->Hp->VK->Prop)(t:TA):TE:=λσ H Q=>t σ H λvs H1=>r vs H1 Q
theorem zAn(V:zC4 X (.builtin id) r)(W:Gl X x)(hm:X.mg x=none)(hv:bootBuiltins x=some (.builtin id))(ha:PA X (e::es) t)(hn:x≠ "__name__":= by decide)(O:(x==("__debug__": Str))=false:=by decide)
  (he:starEach (e::es) X.env=(false,eval e X.env)::starEach es X.env:=by rfl) (S:(backTo pos$ starEach es X.env).any (·.1)=false:=by rfl):PE X (.Call (.Name x p) (e::es) [] pos) (tCB r t):=by
 intro pins s σ H Q I h;refine qB9$ zJi I W hm hv ?_ hn O;exact PyProof.Rows.callWith_builtin1 (thn (ha pos pins s σ H _ I h) λus s1 ⟨vs,H1,I1,r1,q1⟩=>V pins s1 σ H1 vs us Q I1 r1 q1) he S
theorem zAz(V:zC4 X (.type T) r)(W:Gl X x)(hm:X.mg x=none)(hv:bootBuiltins x=some (.type T))(ha:PA X (e::es) t)(hn:x≠ "__name__":= by decide)(O:(x==("__debug__": Str))=false:=by decide)
  (he:starEach (e::es) X.env=(false,eval e X.env)::starEach es X.env:=by rfl) (S:(backTo pos$ starEach es X.env).any (·.1)=false:=by rfl):PE X (.Call (.Name x p) (e::es) [] pos) (tCB r t):=by
 intro pins s σ H Q I h;refine qB9$ zJi I W hm hv ?_ hn O;exact qC2 (thn (ha pos pins s σ H _ I h) λus s1 ⟨vs,H1,I1,r1,q1⟩=>V pins s1 σ H1 vs us Q I1 r1 q1) he S
end
end L2
namespace HT
open PySem PyProof.Rows
section
open PySem.SeqAt
open PySem.AutoSeq1 (wpAny_loadPart')
open PySem.MeetsSeq PySem.MeetsSeq2 PySem.MeetsSeq3
end
section
variable{prog:Program}{w:World}{A:Around}{E:Value->Shared->Prop}{s:Shared}
def sIx(n d:Nat):Option Int->Nat
 |none=>d
 |some v=>if v<0 then(v+(n:Int)).toNat else min v.toNat n
theorem sIx_none(n d:Nat):sIx n d none=d:=rfl
theorem sIx_nat(n d k:Nat):sIx n d (some (k:Int))=min k n:=by
 show(if(k:Int)<0 then((k:Int)+(n:Int)).toNat else min (k:Int).toNat n)=min k n;rw[qAC lL,qBQ]
end
end HT
namespace L2
open PySem PySem.Spec PyProof.Rows
variable{α:Type}{n:Nat}{x:V}
abbrev TO:=St->Hp->(Option Int->Hp->Prop)->Prop
def PO(X:Cx)(e:Option Expr)(t:TO):Prop :=
 ∀(pins:List (Addr×Obj)) (s:Shared) (σ:St) (H:Hp) (Q:Option Int->Hp->Prop),Inv X pins σ H s->t σ H Q ->
  wpAny (model X.prog X.w) X.A (evalPart e X.env) (λu s'=>∃o H',Inv X pins σ H' s'/\IsPart u o/\Q o H') X.xe s
def uE:TO:=λ_ H Q=>Q none H
inductive uv(Q:Option Int->Hp->Prop)(x:V)(H1:Hp):Prop
 |mk:∀i,x= .int i->Q (some i) H1->uv Q x H1
def yr(t:TE):TO:=λσ H Q=>t σ H λx H1=>uv Q x H1
section
variable{X:Cx}{e:Expr}{te:TE}{lo hi:Option Expr}{tl th:TO}{pos p2:Pos}
theorem zLc:PO X none uE:=by
 intro pins s σ H Q I h;rw[evalPart_none];exact qAE ⟨none,H,I,.none,h⟩
theorem zHn(h:PE X e te):PO X (some e) (yr te):=by
 intro pins s σ H Q I hw;rw[evalPart_some];refine thn (h pins s σ H _ I hw) λu W ⟨x,H1,O,S,V⟩=>?_;obtain⟨i,rfl,q⟩:=V;obtain⟨t,rfl⟩:=S;exact⟨some i,H1,O,.int i t,q⟩
def SlR(X:Cx)(r:V->Option Int->Option Int->Hp->VK->Prop):Prop :=
 ∀(pins:List (Addr×Obj)) (s:Shared) (σ:St) (H:Hp) (x:V) (v O S:Value) (lo hi:Option Int) (W:Addr) (Q:VK),Inv X pins σ H s->eE x v->s.heap.IsSliceOf W O S .none->IsPart O lo->IsPart S hi->r x lo hi H Q ->
  ∃T id,typeLookup (.type T) "__getitem__"=pure (some$ .builtin id)/\s.TypeIs v T/\wpAny (model X.prog X.w) X.A (getItem v$ .ref W) (EP X pins σ Q) X.xe s
def tSl(r:V->Option Int->Option Int->Hp->VK->Prop)(te:TE)(tl th:TO):TE:=λσ H Q=>te σ H λx H1=>tl σ H1 λl H2=>th σ H2 λu O=>r x l u O Q
theorem zIl{r:V->Option Int->Option Int->Hp->VK->Prop}(hr:SlR X r)(he:PE X e te)(hl:PO X lo tl)(hu:PO X hi th):PE X (.Subscript e (.Slice lo hi none p2) pos) (tSl r te tl th):=by
 intro pins s σ H Q I h;refine Subscript_$ thn (he pins s σ H _ I h) λv s1 ⟨x,H1,I1,r1,q1⟩=>?_;refine wpAny_Slice$ thn (hl pins s1 σ H1 _ I1 q1) λO s2 ⟨l,H2,I2,pl,q2⟩=>thn (hu pins s2 σ H2 _ I2 q2) λS s3 ⟨u,W,I3,pu,q3⟩=>?_;rw[evalPart_none];refine qAE ?_;have I4:Inv X pins σ W {s3 with heap:=s3.heap.push {cls:=.type "slice",data:=.fields #[O,S,.none]}}:=I3.kept (t':=s3.toks) λb ob q=>qAL _ q;obtain⟨T,id,hT,ht,hg⟩:=hr pins {s3 with heap:=s3.heap.push {cls:=.type "slice",data:=.fields #[O,S,.none]}} σ W x v O S l u s3.heap.objs.size Q I4 r1 (Heap.IsSliceOf.new ..) pl pu q3;show wpAny (model X.prog X.w) X.A (subscriptTail e (.Slice lo hi none p2) v$ .ref s3.heap.objs.size) (EP X pins σ Q) X.xe {s3 with heap:=s3.heap.push {cls:=.type "slice",data:=.fields #[O,S,.none]}};exact tail_any (ops:=[.ref s3.heap.objs.size,v]) ht hT hg (by with_unfolding_all rfl)
def ij(xs:List V)(lo hi:Option Int):List V:=(xs.drop$ HT.sIx xs.length 0 lo).take$ HT.sIx xs.length xs.length hi-HT.sIx xs.length 0 lo
theorem k_(xs:List V)(lo hi:Option Int):(ij xs lo hi).length<=xs.length:=by
 unfold ij;rw[qAX,qBm];lia
end
def ixN(n:Nat)(i:Int):Option Nat:=if 0<=i then(if i<n then some i.toNat else none) else if -(n:Int)<=i then some (i+n).toNat else none
def atI(xs:List α)(i:Int):Option α:=(ixN xs.length i).bind λj=>xs[j]?
theorem oR{i:Int}{j:Nat}(h:ixN n i=some j):seqIndex? i n=some j/\j<n/\-(n:Int)<=i/\i<n:=by
 unfold ixN at h
 by_cases h0:0<=i
 .rw [qAD h0]at h
  by_cases h1:i<n
  .rw [qAD h1]at h;have e:i.toNat=j:=qAh h;exact⟨by rw[seqIndex_of h0 h1,e],lL,lL,h1⟩
  .rw [qAC h1]at h;cases h
 .rw [qAC h0]at h
  by_cases h1:-(n:Int)<=i
  .rw [qAD h1]at h;have e:(i+n).toNat=j:=qAh h;exact⟨by rw[seqIndex_neg lL h1,e],lL,h1,lL⟩
  .rw [qAC h1]at h;cases h
theorem j_{xs:List α}{i:Int}{v:α}(h:atI xs i=some v):∃j,seqIndex? i xs.length=some j/\xs[j]?=some v/\j<xs.length/\-(xs.length:Int)<=i/\i<xs.length:=by
 unfold atI at h
 cases e:ixN xs.length i with
 |none=>rw[e]at h;cases h
 |some j=>
  rw[e]at h;obtain⟨h1,h2,h3,h4⟩:=oR e;exact⟨j,h1,h,h2,h3,h4⟩
theorem zMc(xs:List α)(v:α):atI (xs++[v]) (-1)=some v:=by
 have O:(xs++[v]).length=xs.length+1:=sS
 have e:ixN (xs++[v]).length (-1)=some xs.length:=by
  unfold ixN;rw[O,qAC dD,qAD lL];congr 1;lia
 unfold atI;rw[e];show(xs++[v])[xs.length]?=some v;simp
def vm(b:Expr):Prop:=∀o i,subscripted b false o i=operate [o,i] (getItem o i)
def IxR(X:Cx)(r:R2):Prop :=
 ∀(value S:Expr) (pins:List (Addr×Obj)) (s:Shared) (σ:St) (H:Hp) (x y:V) (v u:Value) (Q:VK),Inv X pins σ H s->eE x v->eE y u->r x y H Q ->
  subscripted S false v u=operate [v,u] (getItem v u)->wpAny (model X.prog X.w) X.A (subscriptTail value S v u) (EP X pins σ Q) X.xe s
def MtR(X:Cx)(id:String)(r:V->List V->Hp->VK->Prop):Prop :=
 ∀(pins:List (Addr×Obj)) (s:Shared) (σ:St) (H:Hp) (x:V) (xs:List V) (v:Value) (us:List Value) (Q:VK),Inv X pins σ H s->eE x v->eB xs us->r x xs H Q ->
  wpAny (model X.prog X.w) X.A (call (.builtin id)$ v::us) (EP X pins σ Q) X.xe s
section
variable{X:Cx}{a b:Expr}{ta tb:TE}{pos:Pos}
theorem zA9{r:R2}(O:IxR X r)(S:PE X a ta)(V:PE X b tb)(hs:vm b):PE X (.Subscript a b pos) (tOp r ta tb):=by
 intro pins s σ H Q I h;exact Subscript_$ w8 S V I h λv u s2 x y H2 W rx ry q=>O a b pins s2 σ H2 x y v u Q W rx ry q$ hs _ _
inductive xU(K:PySem.W.Frag)(x:V)(y:V)(H:Hp)(Q:VK):Prop
 |mk:∀p xs i v,x= .ref p->y= .int i->SqL K H p xs->atI xs i=some v->Q v H->xU K x y H Q
inductive yJ(K:PySem.W.Frag)(x:V)(y:V)(H:Hp)(Q:VK):Prop
 |mk:∀p xs i v,x= .ref p->y= .int i->SqT K H p xs->atI xs i=some v->Q v H->yJ K x y H Q
inductive yi(x:V)(y:V)(H:Hp)(Q:VK):Prop
 |mk:∀z i c,x= .str z->y= .int i->z.length<=sizeLine->atI z.cps.toList i=some c->Q (.str ⟨#[c]⟩) H->yi x y H Q
theorem zAt:IxR X (xU X.K):=by
 intro value S pins s σ H x y v u Q I rx ry h hs;obtain⟨p,xs,i,z,rfl,rfl,hq,he,q⟩:=h
 cases rx
 obtain⟨t,rfl⟩:=ry;obtain⟨its,r,pl,hz⟩:=I.list hq;obtain⟨j,h1,h2,h3,h4,h5⟩:=j_ he;obtain⟨w,W,O⟩:=r.get h2;have hl:=r.length;have hn:=zJg;have fin:EP X pins σ Q w s:=⟨z,H,I,O,q⟩
 by_cases h0:0<=i
 .have V:i.toNat=j:=by
   rw[seqIndex_of h0 h5]at h1;exact qAh h1
  exact item_listR pl.isList h0 lL (by rw[V];simpa using W) fin hs
 .have V:(i+(its.toArray.size:Int)).toNat=j:=by
   rw[seqIndex_neg lL h4]at h1;rw[qAT,<-hl];exact qAh h1
  exact subscriptTail_builtinR (x:=w) pl.isList.typeIs slot_list_getitem.lookup
   (wpAny_getItem_list_neg (Q:=λr s'=>r=w/\EP X pins σ Q r s') pl.isList lL (by rw[qAT]<;>lia) lL (by rw[V];simpa using W) ⟨rF,fin⟩) hs
theorem zH5:IxR X (yJ X.K):=by
 intro value S pins s σ H x y v u Q I V W h hs;obtain⟨p,xs,i,z,rfl,rfl,hq,he,q⟩:=h
 cases V
 obtain⟨t,rfl⟩:=W;obtain⟨its,r,pl,hz⟩:=I.tuple hq;obtain⟨j,h1,h2,h3,h4,h5⟩:=j_ he;obtain⟨w,ew,O⟩:=r.get h2;have hl:=r.length;have hn:=zJg;have fin:EP X pins σ Q w s:=⟨z,H,I,O,q⟩
 exact subscriptTail_builtinR (x:=w) pl.typeIs slot_tuple_getitem.lookup
  (getItem_tuple (j:=j) (Q:=λr s'=>r=w/\EP X pins σ Q r s') pl lL lL (by rw[qAT,<-hl];exact h1) (by simpa using ew) ⟨rF,fin⟩) hs
theorem xw:IxR X yi:=by
 intro value S pins s σ H x y v u Q I O V h hs;obtain⟨z,i,c,rfl,rfl,hz,W,q⟩:=h;obtain⟨t,rfl⟩:=O;obtain⟨t',rfl⟩:=V;obtain⟨j,h1,h2,h3,h4,h5⟩:=j_ W;have hl:z.cps.toList.length=z.length:=by simp[Str.length]
 rw[hl]at h1 h4 h5;have hn:=zJg
 exact tail_any (qBx s z t) slot_str_getitem.lookup (getItem_str (c:=c) (by
  have e1:decide (i< -(2^63:Int))=false:=qAP lL;have e2:decide (i>=2^63)=false:=qAP lL;rw[e1,e2,qC4]) (by rw[h1];simpa using h2) ⟨.str ⟨#[c]⟩,H,I.tok _,⟨_,rF⟩,q⟩) hs
theorem nu(its:List Value)(n j:Nat)(u:Value):Obj.mapSeq (·.setIfInBounds j u) {cls:=.type "list",data:=.seq its.toArray n}={cls:=.type "list",data:=.seq (its.set j u).toArray n}:=by
 simp[Obj.mapSeq]
theorem Inv.lst{pins:List (Addr×Obj)}{σ:St}{H:Hp}{s:Shared}{p:Addr}{xs:List V}(I:Inv X pins σ H s)(h:H p=some (.lst xs)) :
  ∃(its:List Value)(n:Nat),eB xs its/\s.heap.get? p=some {cls:=.type "list",data:=.seq its.toArray n}/\xs.length<=sizeLine:=by
 obtain⟨z,its,n,r,e⟩:=I.hok p _ h;exact⟨its,n,r,e,z⟩
theorem Inv.lstUpd{pins:List (Addr×Obj)}{σ:St}{H:Hp}{s:Shared}{p:Addr}{xs ys:List V}{its its':List Value}{O:Nat}{f:Obj->Obj}(I:Inv X pins σ H s)(h:H p=some (.lst xs))
  (W:s.heap.get? p=some {cls:=.type "list",data:=.seq its.toArray n}) (S:f {cls:=.type "list",data:=.seq its.toArray n}={cls:=.type "list",data:=.seq its'.toArray O}) (r:eB ys its') (hz:ys.length<=sizeLine) (t:Nat) :
  Inv X pins σ (upd H p$ .lst ys) {s with heap:=s.heap.update p f,toks:=t}:=by
 have e:(s.heap.update p f).get? p=some {cls:=.type "list",data:=.seq its'.toArray O}:=by
  rw[qBW f W (by rw[S]<;>rfl),S]
 refine I.write (x:=p) (e:=p) (by rw[h];trivial) (.inl rF) (λb u hb q=>(qCa _ _$ qAo hb).trans q) ⟨_,e⟩ ?_;exact⟨hz,its',O,r,e⟩
inductive wt(o:V)(i:V)(v:V)(H:Hp)(Q:Hp->Prop):Prop
 |mk:∀p xs k j,o= .ref p->i= .int k->H p=some (.lst xs)->ixN xs.length k=some j->Q (upd H p$ .lst$ xs.set j v)->wt o i v H Q
theorem zIe:yF X wt:=by
 intro pins s σ H o i v ov iv u Q I ro ri rv h;obtain⟨p,xs,k,j,rfl,rfl,W,hj,q⟩:=h
 cases ro
 obtain⟨t,rfl⟩:=ri;obtain⟨its,n,r,O,hz⟩:=I.lst W;obtain⟨h1,h2,h3,h4⟩:=oR hj;have S:=r.length;have hn:=zJg
 have I':Inv X pins σ (upd H p$ .lst$ xs.set j v) {s with heap:=s.heap.update p (Obj.mapSeq (·.setIfInBounds j u))} :=
  I.lstUpd W O (nu its n j u) (r.set rv j) (by rw[List.length_set];exact hz) s.toks
 by_cases h0:0<=k
 .have V:k.toNat=j:=by
   rw[seqIndex_of h0 h4]at h1;exact qAh h1
  exact PySem.W.ki_setAt O h0 lL (by rw[qAT,<-S];exact h4) (by rw[V];exact⟨_,I',q⟩)
 .have V:(k+(its.toArray.size:Int)).toNat=j:=by
   rw[seqIndex_neg lL h3]at h1;rw[qAT,<-S];exact qAh h1
  exact PySem.W.ki_setBack O lL (by rw[qAT,<-S];exact h3) lL (by rw[V];exact⟨_,I',q⟩)
theorem kD(lo hi:Option Int)(n:Nat):(sliceBounds lo hi none n).1=((HT.sIx n 0 lo:Nat):Int)/\(sliceBounds lo hi none n).2.1=((HT.sIx n n hi:Nat):Int)/\(sliceBounds lo hi none n).2.2=1:=by
 refine⟨?_,?_,rF⟩
 .cases lo with
  |none=>simp[sliceBounds,HT.sIx]
  |some i=>
   simp only[sliceBounds,HT.sIx,Option.getD_none,show(1:Int)>0 by decide,qBX]
   by_cases h:i<0
   .simp only[h,qBX]<;>lia
   .simp only[h,qCC]<;>lia
 .cases hi with
  |none=>simp[sliceBounds,HT.sIx]
  |some i=>
   simp only[sliceBounds,HT.sIx,Option.getD_none,show(1:Int)>0 by decide,qBX]
   by_cases h:i<0
   .simp only[h,qBX]<;>lia
   .simp only[h,qCC]<;>lia
theorem zK0(its:List Value)(lo hi:Option Int):slicePick its.toArray lo hi none=((its.drop$ HT.sIx its.length 0 lo).take$ HT.sIx its.length its.length hi-HT.sIx its.length 0 lo).toArray:=by
 obtain⟨h1,h2,h3⟩:=kD lo hi its.toArray.size;unfold slicePick;rw[h1,h2,h3];simp only[sliceRange_one,pick_run,qAT]<;>rfl
inductive yN(K:PySem.W.Frag)(x:V)(lo:Option Int)(hi:Option Int)(H:Hp)(Q:VK):Prop
 |mk:∀a xs,x= .ref a->SqL K H a xs->(∀p,H p=none->Q (.ref p) (upd H p$ .lst$ ij xs lo hi))->yN K x lo hi H Q
theorem jv:SlR X (yN X.K):=by
 intro pins s σ H x v vl vu lo hi sl Q I V hs pl W h;obtain⟨a,xs,rfl,hx,q⟩:=h
 cases V
 obtain⟨its,r,S,hz⟩:=I.list hx;have O:=r.length;refine⟨"list",_,slot_list_getitem.lookup,S.isList.typeIs,?_⟩;refine wpAny_getItem_list_slice S.isList hs pl W .none sS ?_ (by rw[qAT]<;>lia);rw[zK0,<-O];refine⟨.ref s.heap.objs.size,_,I.laid (t':=s.toks) (o:=.lst$ ij xs lo hi) (λb ob q=>qAL _ q) (qAF _) ?_,rF,q _$ I.hok.fresh$ qAF _⟩;exact⟨qAR (k_ xs lo hi) hz,_,0,(r.drop$ HT.sIx xs.length 0 lo).take$ HT.sIx xs.length xs.length hi-HT.sIx xs.length 0 lo,qAg _ rF⟩
def zGe:V->Bool
 | .non=>true
 | .bl _=>true
 | .int _=>true
 | .str _=>true
 |_=>false
def eqV:V->V->Bool
 | .non,.non=>true
 | .bl a,.bl b=>a==b
 | .bl a,.int b=>(if a then 1 else 0)==b
 | .int a,.bl b=>a==(if b then 1 else 0)
 | .int a,.int b=>a==b
 | .str a,.str b=>a==b
 |_,_=>false
theorem ue{A:Around}{s:Shared}{y:V}{u v:Value}(S:eE y u)(O:eE x v)(fy:zGe y=true)(W:zGe x=true):SeqAt.EqAt A s u v (eqV y x):=by
 cases y with
 |non=>
  cases S
  cases x with
  |non=>cases O;exact qC5 _
  |bl b=>cases O;exact SeqAt.EqAt.none_bool b
  |int b=>obtain⟨t,rfl⟩:=O;exact SeqAt.EqAt.none_int b t
  |str b=>obtain⟨t,rfl⟩:=O;exact SeqAt.EqAt.none_str b t
  |_=>exact absurd (show false=true from W) qAk
 |bl a=>
  cases S
  cases x with
  |non=>cases O;exact SeqAt.EqAt.bool_none a
  |bl b=>cases O;exact SeqAt.EqAt.bool_bool a b
  |int b=>obtain⟨t,rfl⟩:=O;exact SeqAt.EqAt.bool_int a b t
  |str b=>obtain⟨t,rfl⟩:=O;exact SeqAt.EqAt.bool_str a b t
  |_=>exact absurd (show false=true from W) qAk
 |int a=>
  obtain⟨t',rfl⟩:=S
  cases x with
  |non=>cases O;exact SeqAt.EqAt.int_none a t'
  |bl b=>cases O;exact SeqAt.EqAt.int_bool a t' b
  |int b=>obtain⟨t,rfl⟩:=O;exact SeqAt.EqAt.int_int a t' b t
  |str b=>obtain⟨t,rfl⟩:=O;exact SeqAt.EqAt.int_str a t' b t
  |_=>exact absurd (show false=true from W) qAk
 |str a=>
  obtain⟨t',rfl⟩:=S
  cases x with
  |non=>cases O;exact SeqAt.EqAt.str_none a t'
  |bl b=>cases O;exact SeqAt.EqAt.str_bool a t' b
  |int b=>obtain⟨t,rfl⟩:=O;exact SeqAt.EqAt.str_int a t' b t
  |str b=>obtain⟨t,rfl⟩:=O;exact SeqAt.EqAt.str_str a t' b t
  |_=>exact absurd (show false=true from W) qAk
 |_=>exact absurd (show false=true from fy) qAk
def eqU(x:V)(u:Value):Bool:=match u with
 | .none=>eqV .non x
 | .bool b=>eqV (.bl b) x
 | .int i _=>eqV (.int i) x
 | .str z _=>eqV (.str z) x
 |_=>false
theorem nW{y:V}{u:Value}(r:eE y u)(f:zGe y=true):eqU x u=eqV y x:=by
 cases y with
 |non=>cases r;rfl
 |bl b=>cases r;rfl
 |int i=>obtain⟨t,rfl⟩:=r;rfl
 |str z=>obtain⟨t,rfl⟩:=r;rfl
 |_=>exact absurd (show false=true from f) qAk
theorem zJv :∀{xs:List V}{us:List Value},eB xs us->xs.all zGe=true->us.any (eqU x)=xs.any λy=>eqV y x
 |_,_,.nil,_=>rfl
 |y::xs,u::us,.cons r t,f=>by
  rw[List.all_cons,qBn]at f;rw[qCD,qCD,nW r f.1,zJv t f.2]
theorem zFk{A:Around}{s:Shared}{v:Value}(S:eE x v)(W:zGe x=true):∀{xs:List V}{us:List Value},eB xs us->xs.all zGe=true->∀u∈us,SeqAt.EqAt A s u v (eqU x u)
 |_,_,.nil,_=>λu O=>by cases O
 |y::xs,u::us,.cons r t,f=>λu' O=>by
  rw[List.all_cons,qBn]at f;rcases qAQ.mp O with rfl|O
  .rw [nW r f.1];exact ue r S f.1 W
  .exact zFk S W t f.2 u' O
def inV(x:V)(xs:List V):Bool:=xs.any λy=>eqV y x
inductive rIn(K:PySem.W.Frag)(neg:Bool)(x:V)(y:V)(H:Hp)(Q:VK):Prop
 |mk:∀p xs,y= .ref p->(SqL K H p xs\/SqT K H p xs)->zGe x=true->xs.all zGe=true->Q (.bl$ if neg then !inV x xs else inV x xs) H->rIn K neg x y H Q
theorem zG0:OpR X (compareOp .In) (rIn X.K false):=by
 intro pins s σ H x y v u Q I S W h;obtain⟨p,xs,rfl,O,V,fs,q⟩:=h
 cases W
 rcases O with O|O
 .obtain ⟨its,r,pl,hz⟩:=I.list O;refine SeqAt.in_listAt (eqU x) pl.isList (λw hw=>zFk S V r fs w$ by simpa using hw) ⟨.bl _,H,I,rF,?_⟩;rw[show its.toArray.any (eqU x)=its.any (eqU x) by simp,zJv r fs];exact q
 .obtain ⟨its,r,pl,hz⟩:=I.tuple O;refine SeqAt.in_tupleAt (eqU x) pl (λw hw=>zFk S V r fs w$ by simpa using hw) ⟨.bl _,H,I,rF,?_⟩;rw[show its.toArray.any (eqU x)=its.any (eqU x) by simp,zJv r fs];exact q
theorem zE2:OpR X (compareOp .NotIn) (rIn X.K true):=by
 intro pins s σ H x y v u Q I S W h;obtain⟨p,xs,rfl,O,V,fs,q⟩:=h
 cases W
 rcases O with O|O
 .obtain ⟨its,r,pl,hz⟩:=I.list O;refine SeqAt.notIn_listAt (eqU x) pl.isList (λw hw=>zFk S V r fs w$ by simpa using hw) ⟨.bl _,H,I,rF,?_⟩;rw[show its.toArray.any (eqU x)=its.any (eqU x) by simp,zJv r fs];exact q
 .obtain ⟨its,r,pl,hz⟩:=I.tuple O;refine SeqAt.notIn_tupleAt (eqU x) pl (λw hw=>zFk S V r fs w$ by simpa using hw) ⟨.bl _,H,I,rF,?_⟩;rw[show its.toArray.any (eqU x)=its.any (eqU x) by simp,zJv r fs];exact q
theorem zAy:zC4 X (.builtin "len") (λxs H Q=>∃p ys,xs=[.ref p]/\(SqL X.K H p ys\/SqT X.K H p ys)/\Q (.int ys.length) H):=by
 intro pins s σ H xs us Q I r h;obtain⟨p,ys,rfl,S,q⟩:=h;obtain⟨u,rfl,W⟩:=zHg r
 cases W
 have hn:=zJg;rcases S with S|S
 .obtain ⟨its,V,pl,hz⟩:=I.list S;have O:=V.length;exact Calls.call_len_list pl.isList (by simp only[qAT]<;>lia) ⟨.int ys.length,H,I.tok _,⟨s.toks+1,by rw[qAT,O]⟩,q⟩
 .obtain ⟨its,V,pl,hz⟩:=I.tuple S;have O:=V.length;exact len_tuple pl (by simp only[qAT]<;>lia) ⟨.int ys.length,H,I.tok _,⟨s.toks+1,by rw[qAT,O]⟩,q⟩
theorem zH6:zC4 X (.builtin "len") (λxs H Q=>∃z,xs=[.str z]/\z.length<=sizeLine/\Q (.int z.length) H):=by
 intro pins s σ H xs us Q I r h;obtain⟨z,rfl,O,q⟩:=h;obtain⟨u,rfl,t,rfl⟩:=zHg r;have S:=zJg;exact len_str lL ⟨.int z.length,H,I.tok _,⟨_,rF⟩,q⟩
theorem zDr:zC4 X (.type "list") (λxs H Q=>∃p ys,xs=[.ref p]/\(SqL X.K H p ys\/SqT X.K H p ys)/\∀l,H l=none->Q (.ref l) (upd H l$ .lst ys)):=by
 intro pins s σ H xs us Q I r h;obtain⟨p,ys,rfl,V,q⟩:=h;obtain⟨u,rfl,rx⟩:=zHg r
 cases rx
 have fin:∀(its:List Value),eB ys its->ys.length<=sizeLine->∀(h':Heap)(O:Nat),(∀b o',s.heap.get? b=some o'->h'.get? b=some o') ->
   h'.get? s.heap.objs.size=some {cls:=.type "list",dict:=none,data:=.seq its.toArray O,slots:=#[]}->EP X pins σ Q (.ref s.heap.objs.size) {s with heap:=h'}:=λits S W h' O kp e=>
  ⟨.ref s.heap.objs.size,_,I.laid (t':=s.toks) kp (qAF _)$ show zBk X.prog X.w _ h' _ (.lst ys) from⟨W,its,O,S,e⟩,rF,q _$ I.hok.fresh$ qAF _⟩
 rcases V with V|V
 .obtain ⟨its,S,pl,W⟩:=I.list V;have aa:=S.length;obtain⟨o,ho,hc,n,hd⟩:=pl.isList;exact call_list_seq p (.inl rF) ho hc hd (λh' O kp e=>fin its S W h' O kp e) (by simp only[qAT]<;>lia)
 .obtain ⟨its,S,pl,W⟩:=I.tuple V;have aa:=S.length;obtain⟨o,ho,hc,n,hd⟩:=pl;exact call_list_seq p (.inr rF) ho hc hd (λh' O kp e=>fin its S W h' O kp e) (by simp only[qAT]<;>lia)
theorem zC3:zC4 X (.type "tuple") (λxs H Q=>∃p ys,xs=[.ref p]/\((SqL X.K H p ys/\∀l,H l=none->Q (.ref l) (upd H l$ .tup ys))\/(SqT X.K H p ys/\Q (.ref p) H))):=by
 intro pins s σ H xs us Q I r h;obtain⟨p,ys,rfl,h⟩:=h;obtain⟨u,rfl,rx⟩:=zHg r
 cases rx
 rcases h with⟨O,q⟩|⟨O,q⟩
 .obtain ⟨its,S,pl,V⟩:=I.list O;have W:=S.length;refine call_tuple_list pl.isList (λh' kp=>?_) (by simp only[qAT]<;>lia);have I1:Inv X pins σ H {s with heap:=h'}:=I.kept (t':=s.toks) kp
  have I2:Inv X pins σ (upd H h'.objs.size$ .tup ys) {s with heap:=h'.push {cls:=.type "tuple",data:=.seq its.toArray}} :=
   I1.laid (t':=s.toks) (λb o e=>qAL _ e) (qAF _)$ show zBk X.prog X.w _ _ _ (.tup ys) from⟨V,its,S,IsTup.new _ _⟩
  exact⟨.ref h'.objs.size,_,I2,rF,q _$ I1.hok.fresh$ qAF _⟩
 .obtain ⟨its,S,pl,V⟩:=I.tuple O;exact call_tuple_same pl ⟨.ref p,H,I,rF,q⟩
def tyV(K:PySem.W.Frag)(T:String)(x:V)(H:Hp):Prop:=match x with
 | .str _=>T="str"
 | .int _=>T="int"
 | .ref p=>(T="list"/\∃xs,SqL K H p xs)\/(T="tuple"/\∃o,K.lookup p=some o/\o.cls= .type "tuple"/\o.dict=none) \/
   (T="dict"/\((∃kvs,H p=some (.dK kvs))\/∃kvs,H p=some (.dT kvs)))\/(T="set"/\∃S n,H p=some (.set S n))
 |_=>False
theorem rL{pins:List (Addr×Obj)}{σ:St}{H:Hp}{s:Shared}{T:String}{v:Value}(I:Inv X pins σ H s)(r:eE x v)(ty:tyV X.K T x H) :
  s.TypeIs v T/\∀a,v= .ref a->∃ob,s.heap.get? a=some ob/\ob.dict=none:=by
 cases x with
 |str z=>
  obtain⟨t,rfl⟩:=r
  cases (show T="str" from ty)
  exact⟨qBx s z t,λ_ e=>nomatch e⟩
 |int i=>
  obtain⟨t,rfl⟩:=r
  cases (show T="int" from ty)
  exact⟨typeIs_int s i t,λ_ e=>nomatch e⟩
 |ref p=>
  cases r
  rcases ty with⟨rfl,xs,hq⟩|⟨rfl,o,O,hc,V⟩|⟨rfl,O⟩|⟨rfl,S,n,O⟩
  .obtain ⟨its,_,pl,_⟩:=I.list hq;refine⟨pl.isList.typeIs,λa e=>?_⟩
   cases e
   obtain⟨o,n,e,c,V,_⟩:=pl;exact⟨o,e,V⟩
  .refine ⟨⟨o,I.kIn p o O,hc⟩,λa e=>?_⟩
   cases e
   exact⟨o,I.kIn _ o O,V⟩
  .have z:∃o,s.heap.get? p=some o/\o.ExactDict:=by
    rcases O with⟨kvs,O⟩|⟨kvs,O⟩
    .obtain ⟨_,_,_,_,o,_,_,e,ex,_⟩:=I.hok p _ O;exact⟨o,e,ex⟩
    .obtain ⟨_,_,_,_,o,_,_,e,ex,_⟩:=I.hok p _ O;exact⟨o,e,ex⟩
   obtain⟨o,e,ex⟩:=z;refine⟨⟨o,e,ex.1⟩,λa W=>?_⟩
   cases W
   exact⟨o,e,ex.2.1⟩
  .obtain ⟨o,_,_,_,e,ex,_⟩:=I.hok p _ O;refine⟨⟨o,e,ex.1⟩,λa W=>?_⟩
   cases W
   exact⟨o,e,ex.2.1⟩
 |_=>exact False.elim ty
def zF(K:PySem.W.Frag)(T:String)(r:V->List V->Hp->VK->Prop)(to:TE):TE:=λσ H Q=>to σ H λx H1=>tyV K T x H1/\r x [] H1 Q
def tBM(K:PySem.W.Frag)(T:String)(r:V->List V->Hp->VK->Prop)(to:TE)(t:TA):TE:=λσ H Q=>to σ H λx H1=>tyV K T x H1/\t σ H1 λxs H2=>r x xs H2 Q
variable{o e:Expr}{es:List Expr}{to:TE}{t:TA}{name:Str}{apos cpos:Pos}{T id:String}{r:V->List V->Hp->VK->Prop}
theorem tY(pa:PlainAttrs T)(slot:Slot T name id)(V:typeOf (.builtin id)=pure (.type "method_descriptor"))(hm:MtR X id r)(ho:PE X o to)
  (O:attributeBase o name X.env (eval o X.env)=eval o X.env:=by rfl) (S:(apos.endLine==cpos.line)=true:=by rfl):PE X (.Call (.Attribute o name apos) [] [] cpos) (zF X.K T r to):=by
 intro pins s σ H Q I h;refine qDj O S$ thn (ho pins s σ H _ I h) λv s1 ⟨x,H1,W,r1,ty,q1⟩=>?_;obtain⟨h1,h2⟩:=rL W r1 ty;exact⟨T,id,pa,slot,V,h1,h2,qCb rF$ PySem.evalArgs_none$ hm pins s1 σ H1 x [] v [] Q W r1 .nil q1⟩
theorem zCj(pa:PlainAttrs T)(slot:Slot T name id)(aa:typeOf (.builtin id)=pure (.type "method_descriptor"))(hm:MtR X id r)(ho:PE X o to)(ha:PA X (e::es) t)
  (S:attributeBase o name X.env (eval o X.env)=eval o X.env:=by rfl)
  (W:((backTo cpos$ starEach (e::es) X.env).all (fun x=>!x.1)&&(backToKw cpos$ keywordEach [] X.env).all (fun x=>x.1.isSome)
   &&decide ((e::es).length+([]:List Keyword).length+(if([]:List Keyword).isEmpty then 0 else 1)<30))=true:=by rfl)
  (V:(apos.endLine==cpos.line)=true:=by rfl) (hs:starEach (e::es) X.env=(false,eval e X.env)::starEach es X.env:=by rfl) (O:(backTo cpos$ starEach es X.env).any (·.1)=false:=by rfl) :
  PE X (.Call (.Attribute o name apos) (e::es) [] cpos) (tBM X.K T r to t):=by
 intro pins s σ H Q I h;refine wpAny_Call_method_late S W V rF$ thn (ho pins s σ H _ I h) λv s1 ⟨x,H1,I1,r1,ty,q1⟩=>?_;obtain⟨h1,h2⟩:=rL I1 r1 ty;refine⟨T,id,pa,slot,aa,h1,h2,?_⟩;have hA:=ha cpos pins s1 σ H1 _ I1 q1;rw[hs]at hA ⊢;refine qCb (by show(false||(backTo cpos$ starEach es X.env).any (·.1))=false;rw[O]<;>rfl)$ Calls.evalArgs_plain ?_;exact thn hA λus s2 ⟨vs,H2,I2,r2,q2⟩=>hm pins s2 σ H2 x vs v us Q I2 r1 r2 q2
end
def MtM(X:Cx)(id:String)(r:V->List V->Hp->VK->Prop):Prop :=
 ∀(pins:List (Addr×Obj)) (s:Shared) (σ:St) (H:Hp) (x:V) (xs:List V) (v:Value) (us:List Value) (Q:VK),Inv X pins σ H s->eE x v->eB xs us->r x xs H Q ->
  wpAny (model X.prog X.w) X.A (call (.builtin id)$ v::us) (EP X pins σ Q) X.xe s
theorem eB.one:∀{x:V}{us:List Value},eB [x] us->∃u,us=[u]/\eE x u:=by
 intro x us h
 cases h with
 |cons r t=>cases t;exact⟨_,rF,r⟩
theorem eB.two:∀{x y:V}{us:List Value},eB [x,y] us->∃u v,us=[u,v]/\eE x u/\eE y v:=by
 intro x y us h
 cases h with
 |cons r t=>
  obtain⟨u,rfl,q⟩:=eB.one t;exact⟨_,_,rF,r,q⟩
theorem eB.zero:∀{us:List Value},eB [] us->us=[]
 |_,.nil=>rfl
theorem eB.dropLast{xs:List V}{us:List Value}(h:eB xs us):eB xs.dropLast us.dropLast:=by
 induction h with
 |nil=>exact .nil
 |cons r t O=>
  cases t with
  |nil=>exact .nil
  |cons q t'=>exact .cons r O
theorem eB.rep{xs:List V}{us:List Value}(h:eB xs us):∀k:Nat,eB (List.replicate k xs).flatten (List.replicate k us).flatten
 |0=>.nil
 |k+1=>by
  rw[qCc,qCc,qBg,qBg];exact eB.append h$ eB.rep h k
theorem mR(l:List α):l.eraseIdx (l.length-1)=l.dropLast:=by
 induction l with
 |nil=>rfl
 |cons a r O=>
  cases r with
  |nil=>rfl
  |cons b r=>
   have e:(a::b::r).length-1=((b::r).length-1)+1:=by
    have h1:(a::b::r).length=r.length+2:=rfl;have h2:(b::r).length=r.length+1:=rfl;lia
   rw[e,List.eraseIdx_cons_succ,O]
   all_goals rfl
theorem iO(its:List Value):∀(k:Nat)(acc:List Value),
  List.foldl (λO S=>O++S) acc.toArray (List.replicate k its.toArray)=(acc++(List.replicate k its).flatten).toArray
 |0,acc=>sS
 |k+1,acc=>by
  have e:acc.toArray++its.toArray=(acc++its).toArray:=sS
  have V:(acc++its)++(List.replicate k its).flatten=acc++(List.replicate (k+1) its).flatten:=by
   rw[qCc,qBg,qA0]
  rw[<-V,<-iO its k$ acc++its,<-e,qCc,qBh]
section
variable{X:Cx}{pins:List (Addr×Obj)}{σ:St}{H:Hp}{s:Shared}{l b:Addr}{xs ys zs:List V}
theorem Inv.lset{its its':List Value}{f:Array Value->Array Value}{t':Nat}(I:Inv X pins σ H s)(O:H l=some (.lst xs))
  (e:s.heap.get? l=some {cls:=.type "list",data:=.seq its.toArray n}) (S:f its.toArray=its'.toArray) (V:eB ys its') (W:ys.length<=sizeLine) :
  Inv X pins σ (upd H l$ .lst ys) {s with heap:=s.heap.update l (Obj.mapSeq f),toks:=t'}:=by
 have q:=PySem.IsL.update e f;rw[S]at q;refine I.write (x:=l) (e:=l) (by rw[O];exact trivial) (.inl rF) (λb' u hb hu=>(qCa s.heap (Obj.mapSeq f)$ qAo hb).trans hu) ⟨_,q⟩ ?_;exact⟨W,its',_,V,q⟩
theorem Inv.lnew{its:List Value}{t':Nat}(I:Inv X pins σ H s)(V:eB ys its)(O:ys.length<=sizeLine) :
  Inv X pins σ (upd H s.heap.objs.size$ .lst ys) {s with heap:=s.heap.push {cls:=.type "list",data:=.seq its.toArray},toks:=t'} :=
 I.laid (λ_ _ q=>qAL _ q) (qAF _) ⟨O,its,0,V,qAg _ rF⟩
theorem Inv.fresh(I:Inv X pins σ H s):H s.heap.objs.size=none:=I.hok.fresh$ qAF _
theorem Inv.lstM(I:Inv X pins σ H s)(O:H l=some (.lst xs)):xs.length<=sizeLine/\∃(its:List Value)(n:Nat),eB xs its/\xs.length=its.length/\s.heap.get? l=some {cls:=.type "list",data:=.seq its.toArray n}:=by
 obtain⟨z,its,n,r,e⟩:=I.hok l _ O;exact⟨z,its,n,r,r.length,e⟩
theorem mu(h:n<=sizeLine):Builtin.List.listTooLong n=false:=by
 unfold Builtin.List.listTooLong;exact qAP lL
end
section
variable{X:Cx}
inductive oz(x:V)(vs:List V)(H:Hp)(Q:VK):Prop
 |mk:∀l xs y,x= .ref l->vs=[y]->H l=some (.lst xs)->xs.length<sizeLine->Q .non (upd H l$ .lst$ xs++[y])->oz x vs H Q
theorem zDd:MtM X "list.append" oz:=by
 intro pins s σ H x vs v us Q I S V h;obtain⟨l,xs,y,rfl,rfl,O,hz,q⟩:=h
 cases S
 obtain⟨u,rfl,W⟩:=V.one;obtain⟨z,its,n,r,hl,e⟩:=I.lstM O;refine qBR F.slot_list_append ⟨_,e,rF⟩ F.entry_list_append (F.args_list_append_2 _ _) (PySem.list_append l its.toArray n u$ by rw[qAT];lia) ⟨e,?_⟩;refine⟨.non,_,I.lset (its':=its++[u]) O e sS (r.append$ .cons W .nil) ?_,rF,q⟩;rw[qAV,qAp];lia
inductive pN(x:V)(vs:List V)(H:Hp)(Q:VK):Prop
 |mk:∀l b xs zs,x= .ref l->vs=[.ref b]->H l=some (.lst xs)->H b=some (.lst zs)->xs.length+zs.length<=sizeLine->Q .non (upd H l$ .lst$ xs++zs)->pN x vs H Q
theorem zG3:MtM X "list.extend" pN:=by
 intro pins s σ H x vs v us Q I W rv h;obtain⟨l,b,xs,zs,rfl,rfl,V,hB,hz,q⟩:=h
 cases W
 obtain⟨u,rfl,ru⟩:=rv.one
 cases ru
 obtain⟨z,its,n,r,hl,e⟩:=I.lstM V;obtain⟨z2,O,n2,r2,aa,e2⟩:=I.lstM hB;have hsz:its.toArray.size+O.toArray.size<=sizeLine:=by rw[qAT,qAT];lia
 have S:¬(!its.toArray.isEmpty&&Builtin.List.listTooLong (its.toArray.size+O.toArray.size))=true:=by
  rw[mu hsz,Bool.and_false];exact qAk
 refine qBR F.slot_list_extend ⟨_,e,rF⟩ F.entry_list_extend (F.args_list_extend_2 _ _)
  (AutoSeq1.list_extend_list_list_0 l its.toArray n b O.toArray n2 S (by rw[qAT];lia) lL) ⟨e,e2,?_⟩
 refine⟨.non,_,I.lset (its':=its++O) V e sS (r.append r2) ?_,rF,q⟩;rw[qAV];lia
inductive yG(x:V)(vs:List V)(H:Hp)(Q:VK):Prop
 |mk:∀l xs y,x= .ref l->vs=[]->H l=some (.lst xs)->xs[xs.length-1]?=some y->Q y (upd H l$ .lst xs.dropLast)->yG x vs H Q
theorem rm:MtM X "list.pop" yG:=by
 intro pins s σ H x vs v us Q I W rv h;obtain⟨l,xs,y,rfl,rfl,V,hy,q⟩:=h
 cases W
 have S:=rv.zero;subst S;obtain⟨z,its,n,r,hl,e⟩:=I.lstM V;obtain⟨u,hu,ru⟩:=r.get hy
 have O:its.toArray[its.toArray.size-1]?=some u:=by
  show its.toArray[its.length-1]?=some u;rw[<-qAv,<-hl];exact hu
 refine qBR F.slot_list_pop ⟨_,e,rF⟩ F.entry_list_pop (F.args_list_pop_1 _) (MeetsSeq.list_pop_last l its.toArray n u O$ by rw[qAT];lia) ⟨e,?_⟩;refine⟨y,_,I.lset (its':=its.dropLast) V e ?_ r.dropLast ?_,ru,q⟩
 .show its.toArray.eraseIdxIfInBounds (its.toArray.size-1)=its.dropLast.toArray;rw[qAT,List.eraseIdxIfInBounds_toArray,mR]
 .rw [qC6];lia
inductive x_(x:V)(y:V)(H:Hp)(Q:VK):Prop
 |mk:∀l b xs zs,x= .ref l->y= .ref b->H l=some (.lst xs)->H b=some (.lst zs)->xs.length+zs.length<=sizeLine->(∀p,H p=none->Q (.ref p) (upd H p$ .lst$ xs++zs))->x_ x y H Q
theorem zFx:OpR X (binaryOp .Add) x_:=by
 intro pins s σ H x y v u Q I S V h;obtain⟨l,b,xs,zs,rfl,rfl,W,hB,hz,q⟩:=h
 cases S
 cases V
 obtain⟨z,its,n,r,hl,e⟩:=I.lstM W;obtain⟨z2,O,n2,r2,aa,e2⟩:=I.lstM hB;refine PySem.P.add_list e e2 ?_ (by rw[qAT,qAT];lia);have ea:its.toArray++O.toArray=(its++O).toArray:=sS
 rw[ea];exact⟨.ref _,_,I.lnew (t':=s.toks) (r.append r2) (by rw[qAV];lia),rF,q _ I.fresh⟩
inductive yP(x:V)(y:V)(H:Hp)(Q:VK):Prop
 |mk:∀l k xs,x= .ref l->y= .int k->H l=some (.lst xs)->-(2^63)<=k->k<2^63->xs.length*k.toNat<=sizeLine->(∀p,H p=none->Q (.ref p) (upd H p$ .lst (List.replicate k.toNat xs).flatten))->yP x y H Q
theorem ke(xs:List α)(k:Nat):(List.replicate k xs).flatten.length=k*xs.length:=by
 induction k with
 |zero=>simp
 |succ k O=>rw[qCc,qBg,qAV,O,Nat.succ_mul,Nat.add_comm]
theorem ti:OpR X (binaryOp .Mult) yP:=by
 intro pins s σ H x y v u Q I rx ry h;obtain⟨l,k,xs,rfl,rfl,hH,h1,h2,hz,q⟩:=h
 cases rx
 obtain⟨t,rfl⟩:=ry;obtain⟨z,its,n,r,hl,e⟩:=I.lstM hH;have S:its.toArray.size*k.toNat<=sizeLine:=by rw[qAT,<-hl];exact hz
 have V:¬its.toArray.size*k.toNat>(2^63-1) / 8:=by
  have:(sizeLine:Nat)<=(2^63-1) / 8:=dD
  lia
 have W:¬(!Builtin.List.listFitsIndex k)=true:=by
  rw[fitsIndex_both h1 h2];exact qAk
 have O:¬Builtin.List.listTooLong (its.toArray.size*k.toNat)=true:=by
  rw[mu S];exact qAk
 have aa:List.foldl (λx1 x2=>x1++x2) #[] (List.replicate (if its.toArray.isEmpty=true then 0 else k.toNat) its.toArray)=(List.replicate k.toNat its).flatten.toArray:=by
  have f0:∀m:Nat,List.foldl (λx1 x2=>x1++x2) #[] (List.replicate m its.toArray)=(List.replicate m its).flatten.toArray:=λm=>by
   have:=iO its m [];rw[qCd]at this;exact this
  rw[f0]
  cases its with
  |nil=>simp
  |cons a r'=>rw[qAC sS]
 refine wpAny_binaryOp_repeat_ref (T:="list") (U:="int") dD ⟨_,e,rF⟩ (λs'=>typeIs_int s' k t) noFill_list_mul F.fills_int_mul F.slot_int_rmul repeat_list F.slot_int_index.lookup
  (qBR F.slot_int_rmul (typeIs_int s k t) F.entry_int_rmul (F.args_int_rmul_2 _ _) (int___rmul___int_list k t l its.toArray n)
   ⟨e,rF,⟨_,e,rF⟩,qBR F.slot_list_mul ⟨_,e,rF⟩ F.entry_list_mul (F.args_list_mul_2 _ _) (AutoListH.list___mul___list_int_3 l its.toArray n k t W V O) ⟨e,?_⟩⟩)
 rw[aa];exact⟨.ref _,_,I.lnew (t':=s.toks) (r.rep k.toNat) (by rw[ke,Nat.mul_comm];exact hz),rF,q _ I.fresh⟩
end
section
variable{prog:Program}{w:World}{A:Around}{E:Value->Shared->Prop}{s:Shared}
set_option maxRecDepth 100000 in
end
end L2
namespace Att
open PySem PySem.W PySem.Calls PyProof.Rows
theorem zJp{P:Params}{h:Heap}:∀(ns:List Int)(vs:List Value),WellAll P h vs (ns.map WData.int)->IntsAre vs ns:=by
 intro ns
 induction ns with
 |nil=>
  intro vs w;rw[List.map_nil]at w
  cases w
  exact .nil
 |cons n ns O=>
  intro vs w;rw[qAi]at w
  cases w with
  |cons a b=>
   cases a
   exact .cons _ _$ O _ b
theorem pX{l:OpenLaw}{n:Nat}(hn:l.most=some n){P:Params}{h:Heap}{S:List WData}{V:List Value}
  (O:l.row.toRowW.claim.pre S=true) (ab:WellAll P h V S) :
  ∃a vs ns,V=[Value.ref a]/\S=[WData.list (ns.map WData.int)]/\h.get? a=some {cls:=.type "list",data:=.seq vs.toArray}/\IntsAre vs ns/\ns.length<=n:=by
 have ad:WShape.hasAll [] S [.list .int]=true:=(pre_splitW O).1;have hc:l.pre.holds [] {args:=S}=true:=(pre_splitW O).2;obtain⟨d,r,rfl,h1,h2⟩:=hasAllW_cons ad;obtain rfl:=hasAllW_nil h2;obtain⟨xs,rfl,h3⟩:=hasW_list h1;obtain⟨ns,rfl⟩:=items_int h3
 have W:ns.length<=n:=by
  unfold OpenLaw.pre at hc
  have h4:(WTm.not$ .lt (.lit$ .int (n:Int))$ .len$ .arg 0).holds [] {args:=[.list (ns.map .int)]}=true:=by
   have h4:=(holds_andW hc).1;rw[hn]at h4;exact h4
  have h5:=condW_of h4$ w_not$ w_lt w_lit$ w_len_list$ w_arg rF;rw[qAB]at h5;refine Nat.le_of_not_lt λq=>?_;have q':(n:Int)<((ns.length:Nat):Int):=lL
  first
   |(rw[qAJ q']at h5;exact absurd h5 dD)
   |(simp at h5;lia)
 cases ab with
 |cons w1 w2=>
  cases w2
  cases w1 with
  |list ho aa=>exact⟨_,_,ns,rF,rF,ho,zJp ns _ aa,W⟩
theorem qt(l:OpenLaw)(S:List WData):l.row.toRowW.claim.post S (.bool true) S=true :=
 postW_of (r:=l.row.toRowW) (X:=(true==true))
  (show WShape.has [] (.bool true) .bool=true by first|rfl|decide|simp[WShape.has,WShape.arms,WShape.armsAll])
  (show(WTm.eq .res$ .lit$ .bool true).value [] {args:=S,res:=some (.bool true),after:=S}=some (.bool$ true==true) from w_eq_bool (w_res rF) w_lit) rF
theorem attach_call{l:OpenLaw}{n:Nat}{q:Program}{O:List Str}{XP:(Str->Option Value)->Heap->Prop}{YP:World->Heap->Prop}{d:DefRec}
  (hn:l.most=some n) (ae:d.params.defaults=[])
  (call:∀(w:World) (s₀ S:Shared) (mg mb:Str->Option Value) (fa:Addr) (o:Obj) (pm cd V:Value) (a:Addr) (vs:List Value) (ns:List Int),
   Ground q O [] XP w s₀ mg mb S.heap->YP w S.heap ->
   S.heap.get? fa=some o->o.data= .func (docDef d.name d.params d.body d.scope pm cd V)->S.heap.CodeRec cd d.name->mg d.name=some (.ref fa) ->
   S.heap.get? a=some {cls:=.type "list",data:=.seq vs.toArray}->IntsAre vs ns->ns.length<=n->S.gens=#[] ->
   codeAny (model l.prog w) callerA (.call (.ref fa) ⟨[.ref a],[]⟩) (λr s'=>r= .ok (.ret$ .bool true)/\OldK S.heap s'.heap/\s'.os=S.os/\AllBare s'.gens) S) :
  WalkO q O XP YP l.row.toRowW d [] (λf vs=>PySem.call f vs):=by
 intro w s₀ S mg mb G Y fa o pm cd V dV kV ho hd af hD ag hg ai aj as aa ak al ah am;obtain rfl:dV= .none:=Dflts.none hD ae;obtain rfl:kV= .none:=Dflts.noKw hD;obtain⟨a,vs,ns,rfl,rfl,ab,W,ad⟩:=pX hn aa ah;refine enter_call$ qBk (call w s₀ S mg mb fa o pm cd V a vs ns G Y ho (fd_plain hd) af ag ab W ad hg) λr s' hq=>?_;obtain⟨rfl,h2,h3,h4⟩:=hq;exact⟨.inl ⟨.bool true,.bool true,[],rF,λ_=>rfl,.bool true,qt l _,λ_=>⟨List.Pairwise.nil,λ_ hm=>(nomatch hm)⟩⟩,h2,h3,h4⟩
end Att
namespace L2
open PySem PySem.Spec PyProof.Rows
variable{P:Program}{w:World}{a:Addr}{x qual:Str}{X:Cx}{kvs:List (List Key×V)}{u:Value}{y:V}{H H':Hp}
theorem iN:∀{vs:List Value}{ns:List Int},IntsAre vs ns->eB (ns.map V.int) vs
 |_,_,.nil=>.nil
 |_,_,.cons n t h=>.cons ⟨t,rF⟩ (iN h)
def wL(H:Hp):Prop:=∀b,H b=none\/∃o xs,H b=some (.frz o$ .lst xs)
theorem tz{P:Program}{w:World}{K:PySem.W.Frag}{mg mb:Str->Option Value}{CX:CXT}{k:Nat}{fa a:Addr}{fd:FuncData}{sp:Sp}{S:Shared}{vs:List Value}{ns:List Int}
  (KX:K.In S.heap) (ae:S.heap.Ns mainGlobals mg) (W:S.heap.Ns builtinsNs mb) (al:∀x:Str,x≠ "__name__"->mb x=bootBuiltins x) (af:S.heap.NoLimit) (hg:S.gens=#[])
  (ha:S.heap.get? a=some {cls:=.type "list",data:=.seq vs.toArray}) (hi:IntsAre vs ns) (hl:ns.length<=sizeLine) (hr:eR k callerA)
  (F:∀base:Heap,K.In base->base.Ns mainGlobals mg->eC P w K mg base CX k fa fd [x] sp) (ad:∀(s:Shared)(u:Value),BindsTo s fd ⟨[u],[]⟩ [(x,u)])
  (am:∀H:Hp,wL H->SqL K H a (ns.map V.int)->sp [.ref a] H (λv _=>v= .bl true) λ_ _ _=>False)
  (an:∀H e s',CX [] H S (λ_ _ _=>False) e s'->False) :
  codeAny (model P w) callerA (.call (.ref fa) ⟨[.ref a],[]⟩) (λr s'=>r= .ok (.ret$ .bool true)/\OldK S.heap s'.heap/\s'.os=S.os/\AllBare s'.gens) S:=by
 have rv:=iN hi;have ag:=hi.length
 have ab:∀H:Hp,wL H->SqL K H a (ns.map V.int)->HOk P w H S.heap->(∀b,H b≠none->b=a)->(H a≠none->K.lookup a=none) ->
   codeAny (model P w) callerA (.call (.ref fa) ⟨[.ref a],[]⟩) (λr s'=>r= .ok (.ret$ .bool true)/\OldK S.heap s'.heap/\s'.os=S.os/\AllBare s'.gens) S:=by
  intro H hO hS ah hA hK;have O:∀{b:Addr}{o:Obj},S.heap.get? b=some o->H b=none->(ki S.heap H).get? b=some o:=λe n=>sG e n
  have ao:∀{b:Addr}{o:Obj}{es:Array DictEntry}{ep:Nat},S.heap.get? b=some o->o.data= .dict es ep->H b=none:=λ{b o es ep} e d=>by
   cases q:H b with
   |none=>rfl
   |some u=>
    have e':b=a:=hA b (by rw[q];simp);subst e';rw[ha]at e;cases e;have d':Data.seq vs.toArray _=Data.dict es ep:=d
    cases d'
  have aa:∀{b:Addr}{m:Str->Option Value},S.heap.Ns b m->(ki S.heap H).Ns b m:=λ{b m} ⟨o,es,ep,e,d,r⟩=>⟨o,es,ep,O e$ ao e d,d,r⟩
  have ai:K.In (ki S.heap H):=λb o e=>O (KX b o e) (by
   cases q:H b with
   |none=>rfl
   |some u=>
    have e':b=a:=hA b (by rw[q];simp);subst e';rw[hK$ by rw[q];simp]at e;cases e)
  have hM:Mod K mg (ki S.heap H):=⟨ai,aa ae,⟨mb,aa W,al⟩,let⟨mc,h1,h2⟩:=af;⟨mc,aa h1,h2⟩⟩;have e0:mJ P w K mg (ki S.heap H) callerA [] S H:=⟨rF,hM,λb o e=>ve e,qC3$ qh _ _,trivial,λb W=>absurd (show b∈([]:List Addr) from W) sS,ah,.of_eq hg⟩;refine qBk ((F _ ai$ aa ae).run callerA [] S H ⟨[.ref a],[]⟩ [.ref a] [.ref a] _ _ hr e0 (ad S$ .ref a) (.cons rF .nil)$ am H hO hS) λr s' h=>?_
  cases r with
  |error e=>exact(an H e s' h).elim
  |ok fl=>
   cases fl with
   |next=>exact False.elim h
   |brk=>exact False.elim h
   |cont=>exact False.elim h
   |ret u=>
    obtain⟨v,H',os,aj,un,ak,r',q⟩:=h;have q':v= .bl true:=q;subst q';obtain rfl:u=Value.bool true:=r';refine⟨rF,OldK.of_keep λb o e=>?_,os,aj⟩
    cases q:H b with
    |none=>exact un.keep b o e q (by intro z;exact absurd (show b∈([]:List Addr) from z) sS) sS
    |some u=>
     rcases hO b with z|⟨ob,xs,z⟩
     .rw [q]at z;cases z
     .have z2:=un.frzs b ob _ z;obtain⟨e1,_⟩:=ah b _ z;obtain⟨e2,_⟩:=ak b _ z2;rw[e]at e1;cases e1;exact e2
 cases hk:K.lookup a with
 |some o=>
  have e:=KX a o hk;rw[ha]at e
  cases e
  refine ab (λ_=>none) (λ_=>.inl rF) (.inr ⟨_,vs.toArray,_,hk,rF,rF,rF,by rw[qAT,ag];exact hl,by simpa using rv⟩) (λb u z=>by have z':(none:Option HO)=some u:=z;cases z') (λb z=>absurd rF z) λz=>absurd rF z
 |none=>
  refine ab (λb=>if b=a then some (.frz {cls:=.type "list",data:=.seq vs.toArray}$ .lst$ ns.map V.int) else none) (λb=>?_) (.inl$ .inr ⟨{cls:=.type "list",data:=.seq vs.toArray},qAD rF⟩) (λb u z=>?_) (λb z=>?_) λ_=>hk
  .by_cases W:b=a
   .exact .inr ⟨_,_,qAD W⟩
   .exact .inl$ qAC W
  .by_cases W:b=a
   .have z':=(qAD W).symm.trans z
    cases z'
    subst W;exact⟨ha,by rw[qAB];exact hl,vs,_,rv,ha⟩
   .have z':=(qAC W).symm.trans z
    cases z'
  .by_cases W:b=a
   .exact W
   .exact absurd (qAC W) z
theorem vn{l:PySem.W.OpenLaw}{n k:Nat}{q:Program}{S:List Str}{XP:(Str->Option Value)->Heap->Prop}{YP:World->Heap->Prop}{d:DefRec}{K:Params->PySem.W.Frag}{CX:World->CXT}{sp:World->Sp}{x:Str}
  (hn:l.most=some n) (ad:n<=sizeLine) (ae:d.params.defaults=[]) (hr:eR k callerA)
  (hY:∀(w:World)(h:Heap),YP w h->(K w.params).In h)
  (F:∀(w:World) (mg:Str->Option Value) (fa:Addr) (h:Heap),(K w.params).In h->h.Ns mainGlobals mg->mg d.name=some (.ref fa) ->
   ∃fd:FuncData,(∀(s:Shared)(u:Value),BindsTo s fd ⟨[u],[]⟩ [(x,u)]) /\
    ∀base:Heap,(K w.params).In base->base.Ns mainGlobals mg->eC l.prog w (K w.params) mg base (CX w) k fa fd [x] (sp w))
  (af:∀(w:World)(H:Hp)(a:Addr)(ns:List Int),ns.length<=n->wL H->SqL (K w.params) H a (ns.map V.int)->sp w [.ref a] H (λv _=>v= .bl true) λ_ _ _=>False)
  (ag:∀(w:World)(H:Hp)(s:Shared)(e:Value)(s':Shared),CX w [] H s (λ_ _ _=>False) e s'->False) :
  PySem.W.WalkO q S XP YP l.row.toRowW d [] (λf vs=>PySem.call f vs):=by
 refine Att.attach_call hn ae λw s₀ aa mg mb fa o pm cd ai a vs ns G Y ho hd aj ah ab W O hg=>?_;have KX:=hY w _ Y;obtain⟨fd,hb,hF⟩:=F w mg fa _ KX G.T.g ah;exact tz KX G.T.g G.T.b G.T.builtins G.T.nolimit hg ab W (qAR O ad) hr hF hb (λH hO hS=>af w H a ns O hO hS) λH e s'=>ag w H aa e s'
def zDw(s:Stmt)(j:Nat):Stmt:=match s with
 | .ClassDef _ _ _ body _ _ _ _ _ _ _=>body.getD j (.Pass ⟨0,0,0,0⟩)
 |_=>.Pass ⟨0,0,0,0⟩
def zCq(s:Stmt):Arguments:=match s with
 | .FunctionDef _ a _ _ _ _ _ _ _ _=>a
 |_=>{posonlyargs:=[],args:=[],vararg:=none,kwonlyargs:=[],kw_defaults:=[],kwarg:=none,defaults:=[]}
def zB9(s:Stmt):List Stmt:=match s with
 | .FunctionDef _ _ b _ _ _ _ _ _ _=>b
 |_=>[]
def zAe(s:Stmt):Scope:=match s with
 | .FunctionDef _ _ _ _ _ _ sc _ _ _=>sc
 |_=>{kind:=.function,names:=[],isGenerator:=false,isCoroutine:=false}
abbrev CX0:CXT:=λ_ _ _ _ _ _=>False
abbrev E0:XK:=λ_ _ _=>False
theorem iq :zH7 CX0 X E0:=λ_ _ _ _ _ _ _ h=>h.elim
structure Fun(K:PySem.W.Frag)(x qual:Str)(st:Stmt)(f:Addr)(fd:FuncData):Prop where
 ex:∃(oc:Value)(od:Option Addr)(kV doc pm:Value)(an:Option Addr)(cdv ct:Value) (osl:Array (Option Value)),
  fd=PySem.W.fnOf x qual (zCq st) (zB9 st) (zAe st) .none kV doc pm an cdv ct/\K.lookup f=some ⟨oc,od,.func fd,osl⟩/\PySem.W.codeIn K cdv qual=true
 kp:PySem.W.keepIn K (.ref f)=true
section
variable{P:Program}{w:World}{K:PySem.W.Frag}{mg:Str->Option Value}{base:Heap}
theorem Fun.ok{st:Stmt}{f:Addr}{fd:FuncData}{N ps:List Str}{k:Nat}{sp:Sp}(F:Fun K x qual st f fd)(S:c_ N ps (zAe st))(len:∀vs H Q E,sp vs H Q E->vs.length=ps.length)
  (aa:∀(W:Value) (A:Around) (O:List Env) (s:Shared) (H:Hp) (vs:List V) (Q:VK) (E:XK),eR k (A.deeper$ envOfC qual (zAe st) s.heap.objs.size f W)->sp vs H Q E ->
   ∃t,PSs (n_ CX0 P w K mg base N qual (zAe st) f W A O s H E).nox (zB9 st) t/\t {nx:=λ_ H'=>Q .non H',rt:=Q} (start N vs) H):eC P w K mg base CX0 (k+1) f fd ps sp:=by
 obtain⟨oc,od,kV,ae,pm,an,W,ct,af,rfl,lk,ab⟩:=F.ex;refine wa lk ab S len λA O s H vs Q E hr ad=>?_;obtain⟨t,h,q⟩:=aa W A O s H vs Q E hr ad;exact⟨t,h.nox,q⟩
theorem Fun.binds{st:Stmt}{f:Addr}{fd:FuncData}{ps:List Str}(F:Fun K x qual st f fd)
  (h:∀(kV O S:Value)(W:Option Addr)(V ct:Value)(us:List Value),us.length=ps.length->bindArgs (PySem.W.fnOf x qual (zCq st) (zB9 st) (zAe st) .none kV O S W V ct) ⟨us,[]⟩=pure (ps.zip us)):zDy K fd ps []:=by
 obtain⟨oc,od,kV,O,S,W,V,ct,aa,rfl,lk,ab⟩:=F.ex;exact .all$ h kV O S W V ct
theorem rB{st:Stmt}{f:Addr}{oc:Value}{od W:Option Addr}{S:Array (Option Value)}{kV O pm V ct:Value}(l:K.lookup f=some ⟨oc,od,.func$ PySem.W.fnOf x qual (zCq st) (zB9 st) (zAe st) .none kV O pm W V ct,S⟩)
  (c:PySem.W.codeIn K V qual=true) (k:PySem.W.keepIn K (.ref f)=true):Fun K x qual st f (PySem.W.fnOf x qual (zCq st) (zB9 st) (zAe st) .none kV O pm W V ct):=⟨⟨oc,od,kV,O,pm,W,V,ct,S,rF,l,c⟩,k⟩
end
theorem zD3{A:Around}{k:Nat}(O:eR k A):A.units+1<cLine:=qBo (Nat.add_le_add_left (dD:1<=64) _) O.units
section
variable{X:Cx}
theorem pv(i:Nat){pos:Pos}(S:X.N[i]?=some x:=by rfl)(V:Vis X.env.scope x:=by first|exact Or.inl rF|exact Or.inr$ Or.inl rF|exact Or.inr$ Or.inr rF)(W:(x==("__debug__": Str))=false:=by decide)
  (O:(x==("__classdict__": Str))=false:=by decide):PE X (.Name x pos) (rY i):=wW S V W O
end
theorem eG{A B:Prop}(h:B):if false=true then A else B:=by
 rw[qAC qAk];exact h
theorem fE{A B:Prop}(h:A):if true=true then A else B:=by
 rw[qAD rF];exact h
theorem eU{c A B:Prop}[Decidable c](h1:c->A)(h2:¬c->B):if c then A else B:=by
 by_cases h:c
 .rw [qAD h];exact h1 h
 .rw [qAC h];exact h2 h
section
variable{κ:Type}[DecidableEq κ]
def eX(kvs:List (κ×V))(k:κ):Option V:=(kvs.find? λO=>decide$ O.1=k).map (·.2)
def eV(kvs:List (κ×V))(k:κ)(v:V):List (κ×V) :=
 if(kvs.any λO=>decide$ O.1=k)=true then kvs.map (λO=>if O.1=k then(O.1,v) else O) else kvs++[(k,v)]
theorem zBp{p:κ×V}{r:List (κ×V)}{k:κ}(e:p.1=k):eX (p::r) k=some p.2:=by simp[eX,qBi,e]
theorem zBl{p:κ×V}{r:List (κ×V)}{k:κ}(e:¬p.1=k):eX (p::r) k=eX r k:=by simp[eX,qBi,e]
theorem zE8(k:κ):∀kvs:List (κ×V),(kvs.any λO=>decide$ O.1=k)=(eX kvs k).isSome
 |[]=>rfl
 |p::r=>by
  rw[qCD]
  by_cases e:p.1=k
  .simp only[zBp e,qAJ e,Bool.true_or,Option.isSome_some]
  .rw [zBl e,qAP e,Bool.false_or];exact zE8 k r
theorem kP(k j:κ)(y:V):∀kvs:List (κ×V),eX (kvs.map λO=>if O.1=k then(O.1,y) else O) j=(eX kvs j).map λx=>if j=k then y else x
 |[]=>rfl
 |p::r=>by
  have S:=kP k j y r;rw[qAi]
  by_cases h:p.1=k
  .rw [qAD h]
   by_cases e:p.1=j
   .rw [zBp (p:=(p.1,y)) e,zBp e,qC7,qAD$ e.symm.trans h]
   .rw [zBl (p:=(p.1,y)) e,zBl e,S]
  .rw [qAC h]
   by_cases e:p.1=j
   .rw [zBp (p:=p) e,zBp e,qC7,qAC λz=>h$ e.trans z]
   .rw [zBl (p:=p) e,zBl e,S]
theorem ir(k j:κ)(y:V):∀kvs:List (κ×V),eX kvs k=none->eX (kvs++[(k,y)]) j=if j=k then some y else eX kvs j
 |[],_=>by
  by_cases e:k=j
  .rw [qAD e.symm];exact zBp (p:=(k,y)) e
  .rw [qAC λz=>e z.symm];exact zBl (p:=(k,y)) e
 |p::r,O=>by
  rw[List.cons_append];have S:¬p.1=k:=λz=>by rw[zBp z]at O;cases O
  rw[zBl S]at O;have W:=ir k j y r O
  by_cases e:p.1=j
  .rw [zBp e,zBp e,qAC λz=>S$ e.trans z]
  .rw [zBl e,zBl e,W]
theorem tR(kvs:List (κ×V))(k j:κ)(y:V):eX (eV kvs k y) j=if j=k then some y else eX kvs j:=by
 unfold eV
 by_cases a:(kvs.any λO=>decide$ O.1=k)=true
 .rw [qAD a,kP];rw[zE8]at a
  by_cases e:j=k
  .obtain ⟨x,S⟩:=qDi.mp a;rw[qAD e,e,S,qC7,qAD rF]
  .rw [qAC e]
   cases eX kvs j with
   |none=>rfl
   |some x=>rw[qC7,qAC e]
 .rw [qAC a];refine ir k j y kvs ?_;rw[zE8]at a
  cases q:eX kvs k with
  |none=>rfl
  |some x=>rw[q]at a;exact(a rF).elim
theorem zCp(kvs:List (κ×V))(k:κ)(v:V):(eV kvs k v).length<=kvs.length+1:=by
 unfold eV;split
 .rw [qAB];lia
 .rw [qAV,qAd,qBS];lia
theorem zFh{kvs:List (κ×V)}{k:κ}(v:V)(h:eX kvs k=none):eV kvs k v=kvs++[(k,v)]:=by
 unfold eV;rw[zE8,h];exact qAC dD
theorem fV.isSome_eq{o:Option V}{u:Option Value}(r:fV o u):o.isSome=u.isSome:=by
 cases o with
 |none=>cases u with
  |none=>rfl
  |some _=>exact(show False from r).elim
 |some _=>cases u with
  |none=>exact(show False from r).elim
  |some _=>rfl
theorem fV.getD{o:Option V}{u:Option Value}{d:V}{d':Value}(r:fV o u)(rd:eE d d'):eE (o.getD d) (u.getD d'):=by
 cases o with
 |none=>cases u with
  |none=>exact rd
  |some _=>exact(show False from r).elim
 |some _=>cases u with
  |none=>exact(show False from r).elim
  |some _=>exact r
theorem KV.val{kvs:List (κ×V)}{vs:List (κ×Value)}(r:KV kvs vs)(k:κ):fV (eX kvs k) (valueAt vs k):=by
 unfold KV at r
 induction r with
 |nil=>exact True.intro
 |@cons p q ps qs h t O=>
  obtain⟨h1,h2⟩:=h
  by_cases e:p.1=k
  .have e':q.1=k:=h1.symm.trans e;have b:valueAt (q::qs) k=some q.2:=by simp[valueAt,qBi,e']
   rw[zBp e,b];exact h2
  .have e':¬q.1=k:=λz=>e$ h1.trans z;have b:valueAt (q::qs) k=valueAt qs k:=by simp[valueAt,qBi,e']
   rw[zBl e,b];exact O
theorem KV.any{kvs:List (κ×V)}{vs:List (κ×Value)}(r:KV kvs vs)(k:κ):(kvs.any λO=>decide$ O.1=k)=vs.any λO=>decide$ O.1=k:=by
 unfold KV at r
 induction r with
 |nil=>rfl
 |cons h t S=>rw[qCD,qCD,S,h.1]
theorem KV.repl{kvs:List (κ×V)}{vs:List (κ×Value)}(r:KV kvs vs)(k:κ)(S:eE y u) :
  KV (kvs.map λO=>if O.1=k then(O.1,y) else O) (vs.map λO=>if O.1=k then(O.1,u) else O):=by
 unfold KV at r ⊢
 induction r with
 |nil=>exact .nil
 |@cons p q ps qs h t W=>
  rw[qAi,qAi];refine .cons ?_ W;obtain⟨h1,h2⟩:=h
  by_cases e:p.1=k
  .rw [qAD e,qAD$ h1.symm.trans e];exact⟨h1,S⟩
  .rw [qAC e,qAC λz=>e$ h1.trans z];exact⟨h1,h2⟩
theorem KV.put{kvs:List (κ×V)}{vs:List (κ×Value)}(r:KV kvs vs)(k:κ)(O:eE y u):KV (eV kvs k y) (stored vs k u):=by
 unfold eV stored;rw[r.any k]
 by_cases e:(vs.any λS=>decide$ S.1=k)=true
 .rw [qAD e,qAD e];exact r.repl k O
 .rw [qAC e,qAC e];exact Paired.snoc r ⟨rF,O⟩
theorem KV.length{kvs:List (κ×V)}{vs:List (κ×Value)}(r:KV kvs vs):kvs.length=vs.length:=qBt r
end
theorem g6{k:Key}(r:eE (kV k) u):(zBc P w).is k u=true:=by
 cases k with
 |inl i=>obtain⟨t,e⟩:=(show∃t,u=Value.int i t from r);subst e;exact kO P w i t
 |inr x=>obtain⟨t,e⟩:=(show∃t,u=Value.str x t from r);subst e;exact kN P w x t
theorem iC :∀{ks:List Key}{us:List Value},eB (ks.map kV) us->ItemsAre (zBc P w) ks us
 |[],_,r=>by rw[List.map_nil]at r;cases r;exact .nil
 |k::ks,_,r=>by
  rw[qAi]at r
  cases r with
  |cons h t=>exact .cons (g6 h)$ iC t
abbrev KT(H:Hp):List (List Key×V)->List (List Key×Addr×Value)->Prop:=Paired λp q=>p.1=q.1/\H q.2.1=some (.tup$ p.1.map kV)/\eE p.2 q.2.2
theorem KT.val{xs:List (List Key×Addr×Value)}(r:KT H kvs xs)(k:List Key):fV (eX kvs k) ((atKey xs k).map (·.2)):=by
 induction r with
 |nil=>exact True.intro
 |@cons p q ps qs h t O=>
  obtain⟨h1,_,h2⟩:=h
  by_cases e:p.1=k
  .have e':q.1=k:=h1.symm.trans e;have b:atKey (q::qs) k=some q.2:=by simp[atKey,qBi,e']
   rw[zBp e,b];exact h2
  .have e':¬q.1=k:=λz=>e$ h1.trans z;have b:atKey (q::qs) k=atKey qs k:=by simp[atKey,qBi,e']
   rw[zBl e,b];exact O
theorem KT.repl{xs:List (List Key×Addr×Value)}(r:KT H kvs xs)(k:List Key)(O:eE y u) :
  KT H (kvs.map λV=>if V.1=k then(V.1,y) else V) (xs.map$ putAt k u):=by
 induction r with
 |nil=>exact .nil
 |@cons p q ps qs h t S=>
  rw[qAi,qAi];refine .cons ?_ S;obtain⟨h1,h2,h3⟩:=h;unfold putAt
  by_cases e:p.1=k
  .rw [qAD e,qAD$ h1.symm.trans e];exact⟨h1,h2,O⟩
  .rw [qAC e,qAC λz=>e$ h1.trans z];exact⟨h1,h2,h3⟩
theorem KT.put{xs:List (List Key×Addr×Value)}(r:KT H kvs xs)(k:List Key){b:Addr}(S:H b=some (.tup$ k.map kV))(O:eE y u) :
  KT H (eV kvs k y) (storedH xs k b u):=by
 have e:(kvs.any λV=>decide$ V.1=k)=(atKey xs k).isSome:=by
  rw[zE8,(r.val k).isSome_eq,Option.isSome_map]
 unfold eV storedH;rw[e]
 by_cases q:(atKey xs k).isSome=true
 .rw [qAD q,qAD q];exact r.repl k O
 .rw [qAC q,qAC q];exact Paired.snoc r ⟨rF,S,O⟩
theorem KT.keeps{H H':Hp}{xs:List (List Key×Addr×Value)}(r:KT H kvs xs)(O:∀b ys,H b=some (.tup ys)->H' b=some (.tup ys)):KT H' kvs xs :=
 Paired.mapP r λ_ _ z=>⟨z.1,O _ _ z.2.1,z.2.2⟩
section
variable{P:Program}{w:World}{H:Hp}{h:Heap}{a:Addr}
theorem v8{u:HO}(ok:HOk P w H h)(e:Rd H a u):zBk P w H h a u:=e.ok ok
theorem zL7{kvs:List (Key×V)}(ok:HOk P w H h)(e:Rd H a (.dK kvs)):kvs.length<=sizeLine/\(a==sysModules)=false/\∃vs,KV kvs vs/\h.DictOf (zBc P w) a vs :=
 show zBk P w H h a (.dK kvs) from v8 ok e
theorem wq{kvs:List (Key×V)}(ok:HOk P w H h)(e:H a=some (.dK kvs)):kvs.length<=sizeLine/\(a==sysModules)=false/\∃vs,KV kvs vs/\h.DictOf (zBc P w) a vs:=zL7 ok$ .inl e
theorem zJm{ks:List Key}(ok:HOk P w H h)(e:H a=some (.tup$ ks.map kV)):(tupleKind$ zBc P w).is h ks a:=by
 obtain⟨_,its,r,o,h1,h2,n,h3⟩:=(show zBk P w H h a (.tup$ ks.map kV) from ok a _ e);exact⟨o,its.toArray,n,h1,h2,h3,by simpa using iC r⟩
theorem gR(ok:HOk P w H h)(e:Rd H a (.dT kvs)):kvs.length<=sizeLine/\(a==sysModules)=false /\
  ∃xs,KT H kvs xs/\h.DictOfH (tupleKind$ zBc P w) a xs:=by
 obtain⟨z,y,xs,r,o,es,ep,h1,h2,h3,h4,h5⟩:=(show zBk P w H h a (.dT kvs) from v8 ok e);refine⟨z,y,xs,r,o,es,ep,h1,h2,h3,h4,λx O=>?_,h5⟩
 have all:∀{l:List (List Key×V)} {m:List (List Key×Addr×Value)},KT H l m->∀x∈m,(tupleKind$ zBc P w).is h x.1 x.2.1:=by
  intro l m q
  induction q with
  |nil=>intro x O;exact nomatch O
  |@cons p q ps qs S t W=>
   intro x O;rcases qAQ.mp O with e|O
   .subst e;exact zJm ok (by rw[<-S.1];exact S.2.1)
   .exact W x O
 exact all r x O
theorem wc(ok:HOk P w H h)(e:H a=some (.dT kvs)):kvs.length<=sizeLine/\(a==sysModules)=false /\
  ∃xs,KT H kvs xs/\h.DictOfH (tupleKind$ zBc P w) a xs:=gR ok$ .inl e
end
def eO(H:Hp)(a:Addr)(y:V)(r:Option V):Prop :=
 (∃kvs k,Rd H a (.dK kvs)/\y=kV k/\r=eX kvs k)\/∃kvs k b,Rd H a (.dT kvs)/\y= .ref b/\H b=some (.tup$ k.map kV)/\r=eX kvs k
def fR(H:Hp)(a:Addr)(y v:V)(H':Hp):Prop :=
 (∃kvs k,H a=some (.dK kvs)/\y=kV k/\kvs.length<sizeLine/\H'=upd H a (.dK$ eV kvs k v)) \/
 ∃kvs k b,H a=some (.dT kvs)/\y= .ref b/\H b=some (.tup$ k.map kV)/\kvs.length<sizeLine/\H'=upd H a (.dT$ eV kvs k v)
theorem eO.k{kvs:List (Key×V)}{k:Key}(e:H a=some (.dK kvs)):eO H a (kV k) (eX kvs k):=.inl ⟨kvs,k,.inl e,rF,rF⟩
theorem eO.t{b:Addr}{k:List Key}(e:H a=some (.dT kvs))(O:H b=some (.tup$ k.map kV)):eO H a (.ref b) (eX kvs k):=.inr ⟨kvs,k,b,.inl e,rF,O,rF⟩
theorem fR.k{kvs:List (Key×V)}{k:Key}{v:V}(e:H a=some (.dK kvs))(O:kvs.length<sizeLine):fR H a (kV k) v (upd H a$ .dK$ eV kvs k v):=.inl ⟨kvs,k,e,rF,O,rF⟩
theorem fR.t{b:Addr}{k:List Key}{v:V}(e:H a=some (.dT kvs))(O:H b=some (.tup$ k.map kV))(S:kvs.length<sizeLine) :
  fR H a (.ref b) v (upd H a$ .dT$ eV kvs k v):=.inr ⟨kvs,k,b,e,rF,O,S,rF⟩
section
variable{X:Cx}{pins:List (Addr×Obj)}{σ:St}{H:Hp}{s:Shared}{a:Addr}{y v:V}{u r:Value}{o:Option V}{A:Around}{E:Value->Shared->Prop}
theorem Inv.big(I:Inv X pins σ H s):sysModules<s.heap.objs.size:=by
 have h:mainGlobals<s.heap.objs.size:=(I.mod.glob.keeps I.bk).lt;exact Nat.lt_trans dD h
theorem q_{Q:Value->Shared->Prop}(hu:A.units+1<cLine)(I:Inv X pins σ H s)(g:eO H a y (some v))(ry:eE y u)(h:∀W s',Inv X pins σ H s'->eE v W->Q W s') :
  wpAny (model X.prog X.w) A (getItem (.ref a) u) Q E s:=by
 rcases g with⟨kvs,k,e,V,l⟩|⟨kvs,k,b,e,V,eb,l⟩
 .subst V;obtain⟨z,hd,vs,O,dd⟩:=zL7 I.hok e;obtain⟨W,hw,S⟩:=fV.some_of (v:=v) (o:=valueAt vs k) (by rw[l];exact O.val k);exact wpAny_getItem_of (g6 ry) dd.mapOf hw$ h W _ (I.tok _) S
 .subst V
  cases (show u=Value.ref b from ry)
  obtain⟨z,hd,xs,O,dd⟩:=gR I.hok e;obtain⟨W,hw,S⟩:=fV.some_of (v:=v) (o:=(atKey xs k).map (·.2)) (by rw[l];exact O.val k);obtain⟨p,hp,aa⟩:=qAw.mp hw;refine wpAny_getItem_heap (qCe hu) (zJm I.hok eb) dd hp ?_;rw[aa];exact h W _ (I.tok _) S
theorem zm{Q:Value->Shared->Prop}(hu:A.units+1<cLine)(I:Inv X pins σ H s)(g:eO H a y o)(ry:eE y u)(h:∀s',Inv X pins σ H s'->Q (.bool o.isSome) s') :
  wpAny (model X.prog X.w) A (compareOp .In u$ .ref a) Q E s:=by
 rcases g with⟨kvs,k,e,S,l⟩|⟨kvs,k,b,e,S,eb,l⟩
 .subst S;obtain⟨z,V,vs,O,W⟩:=zL7 I.hok e;refine wpAny_in_of (g6 ry) V W.mapOf ?_;rw[<-(O.val k).isSome_eq,<-l];exact h _$ I.tok _
 .subst S
  cases (show u=Value.ref b from ry)
  obtain⟨z,V,xs,O,W⟩:=gR I.hok e;refine wpAny_in_heap (qCe hu) (zJm I.hok eb) V W ?_;have q:=(O.val k).isSome_eq;rw[Option.isSome_map]at q;rw[<-q,<-l];exact h _$ I.tok _
theorem vC{Q:Value->Shared->Prop}(hu:A.units+1<cLine)(I:Inv X pins σ H s)(g:eO H a y o)(ry:eE y u)(h:∀s',Inv X pins σ H s'->Q (.bool$ !o.isSome) s') :
  wpAny (model X.prog X.w) A (compareOp .NotIn u$ .ref a) Q E s:=by
 rcases g with⟨kvs,k,e,S,l⟩|⟨kvs,k,b,e,S,eb,l⟩
 .subst S;obtain⟨z,V,vs,O,W⟩:=zL7 I.hok e;refine wpAny_notIn_of (g6 ry) V W.mapOf ?_;rw[<-(O.val k).isSome_eq,<-l];exact h _$ I.tok _
 .subst S
  cases (show u=Value.ref b from ry)
  obtain⟨z,V,xs,O,W⟩:=gR I.hok e;refine wpAny_notIn_heap (qCe hu) (zJm I.hok eb) V W ?_;have q:=(O.val k).isSome_eq;rw[Option.isSome_map]at q;rw[<-q,<-l];exact h _$ I.tok _
theorem zL8{h':Heap}{t':Nat}{O:HO}(I:Inv X pins σ H s)(S:Mut (H a))(hs:Heap.SameBut a s.heap h')(V:∃q,h'.get? a=some q)(new:zBk X.prog X.w (upd H a O) h' a O) :
  Inv X pins σ (upd H a O) {s with heap:=h',toks:=t'} :=
 I.write (x:=a) (e:=a) S (.inl rF) (λb q W z=>(hs.2 b W).trans z) V new
theorem nZ{h':Heap}{kvs:List (Key×V)}{vs:List (Key×Value)}(z:kvs.length<=sizeLine)(S:(a==sysModules)=false)(O:KV kvs vs)(W:h'.DictOf (zBc P w) a vs) :
  zBk P w H' h' a (.dK kvs):=⟨z,S,vs,O,W⟩
theorem qw{Q:Unit->Shared->Prop}(hu:A.units+1<cLine)(I:Inv X pins σ H s)(g:fR H a y v H')(ry:eE y u)(rv:eE v r)(h:∀s',Inv X pins σ H' s'->Q () s') :
  wpAny (model X.prog X.w) A (setItem (.ref a) u r) Q E s:=by
 rcases g with⟨kvs,k,e,W,l,eH⟩|⟨kvs,k,b,e,W,eb,l,eH⟩
 .subst W eH;obtain⟨z,hd,vs,O,dd⟩:=wq I.hok e;have hz:vs.length<=sizeLine:=by rw[<-O.length];exact z
  have hl:(eV kvs k v).length<=sizeLine:=by have:=zCp kvs k v;lia
  refine wpAny_setItem_pairs (hsz:=hz) (g6 ry) dd λh' S hs=>h _ ?_;have he:∃q,h'.get? a=some q:=let⟨q,_,_,V,_⟩:=S;⟨q,V⟩;exact zL8 I (by rw[e];exact True.intro) hs he$ nZ hl hd (O.put k rv) S
 .subst W eH
  cases (show u=Value.ref b from ry)
  obtain⟨z,hd,xs,O,dd⟩:=wc I.hok e;have hz:xs.length<=sizeLine:=by rw[<-qBt O];exact z
  have hl:(eV kvs k v).length<=sizeLine:=by have:=zCp kvs k v;lia
  refine wpAny_setItem_heap (hsz:=hz) (qCe hu) (zJm I.hok eb) dd λh' S hs=>h _ ?_;obtain⟨q,es,ep,V,h2,h3,h4,_,h5⟩:=S;refine zL8 I (by rw[e];exact True.intro) hs ⟨q,V⟩ ⟨hl,hd,_,(O.put k eb rv).keeps λc ys ec=>?_,q,es,ep,V,h2,h3,h4,h5⟩;rw[a_$ zAu ec e λz=>nomatch z];exact ec
end
section
variable{X:Cx}{pins:List (Addr×Obj)}{σ:St}{H:Hp}{s:Shared}{a:Addr}{kvs:List (Key×V)}{k:Key}{u:Value}{A:Around}{E:Value->Shared->Prop}
theorem yR{Q:Value->Shared->Prop}(I:Inv X pins σ H s)(e:Rd H a (.dK kvs))(h:∀t s',Inv X pins σ H s'->Q (.int kvs.length t) s'):wpAny (model X.prog X.w) A (call (.builtin "len") [.ref a]) Q E s:=by
 obtain⟨z,S,vs,O,V⟩:=zL7 I.hok e;refine call_len_dict S V (by rw[<-O.length];rw[qAM]at z;lia) ?_;rw[<-O.length];exact h _ _$ I.tok _
end
def yx(i:Expr):Prop:=∀O V,subscripted i false O V=operate [O,V] (getItem O V)
theorem vp{prog:Program}{A:Around}{E:Value->Shared->Prop}{s:Shared}{env:Env}{value S:Expr}{pos:Pos}{T id:String}{Q:Value->Shared->Prop}
  (hl:typeLookup (.type T) "__getitem__"=pure (some$ .builtin id)) (hs:yx S)
  (h:wpAny (model prog w) A (eval value env) (λo W=>wpAny (model prog w) A (eval S env) (λi O=>O.TypeIs o T/\wpAny (model prog w) A (getItem o i) Q E O) E W) E s) :
  wpAny (model prog w) A (eval (.Subscript value S pos) env) Q E s:=by
 refine Subscript_$ qA3 h (λo W ab=>qA3 ab (λi O V=>?_) λ_ _ x=>x) λ_ _ x=>x;obtain⟨hT,V⟩:=V;unfold subscriptTail;refine qAA ?_;rw[getitemInPython_of_ne hT.not_modules];refine qAA$ wpAny_specialOf hT hl ?_
 have fin:wpAny (model prog w) A (subscripted S false o i) (λr aa=>wpAny (model prog w) A (letTemporaryGo value o r >>= λ_=>pure r) Q E aa) E O:=by
  rw[hs o i];exact wpAny_operating$ qA3 V (λr aa ad=>qAA$ wpAny_letTemporaryGo$ qAE ad) λ_ _ x=>x
 first
  |exact qAE$ qAA fin
  |exact qAA$ qAE$ qAA fin
  |exact qAA fin
theorem lT{pins:List (Addr×Obj)}{σ:St}{s:Shared}{o:Option V}(I:Inv X pins σ H s)(g:eO H a y o):s.TypeIs (.ref a) "dict":= by
 rcases g with⟨kvs,k,e,_,_⟩|⟨kvs,k,b,e,_,_,_⟩
 .obtain ⟨_,_,vs,_,O⟩:=zL7 I.hok e;exact O.typeIs
 .obtain ⟨_,_,xs,_,O⟩:=gR I.hok e;exact O.typeIs
inductive rp(Q:VK)(x:V)(y:V)(H2:Hp):Prop
 |mk:∀a v,x= .ref a->eO H2 a y (some v)->Q v H2->rp Q x y H2
def yz(td ty:TE):TE:=λσ H Q=>td σ H λx H1=>ty σ H1 λy H2=>rp Q x y H2
inductive wj(Q:VK)(y:V)(x:V)(H2:Hp):Prop
 |mk:∀a o,x= .ref a->eO H2 a y o->Q (.bl o.isSome) H2->wj Q y x H2
def zl(ty td:TE):TE:=λσ H Q=>ty σ H λy H1=>td σ H1 λx H2=>wj Q y x H2
inductive lX(Q:VK)(y:V)(x:V)(H2:Hp):Prop
 |mk:∀a o,x= .ref a->eO H2 a y o->Q (.bl$ !o.isSome) H2->lX Q y x H2
def vw(ty td:TE):TE:=λσ H Q=>ty σ H λy H1=>td σ H1 λx H2=>lX Q y x H2
inductive sr(D:fW)(σ:St)(v:V)(x:V)(y:V)(H3:Hp):Prop
 |mk:∀a H4,x= .ref a->fR H3 a y v H4->D.nx σ H4->sr D σ v x y H3
def yf(td ty tv:TE):TS:=λD σ H=>tv σ H λv H1=>td σ H1 λx H2=>ty σ H2 λy O=>sr D σ v x y O
section
variable{X:Cx}{o i e value:Expr}{pos pos' tpos:Pos}{td ty tv:TE}
theorem zBt(V:X.A.units+1<cLine)(W:PE X o td)(hi:PE X i ty)(hs:yx i):PE X (.Subscript o i pos) (yz td ty):=by
 intro pins s σ H Q I h;refine vp PySem.F.slot_dict_getitem.lookup hs$ thn (W pins s σ H _ I h) λu s1 ⟨x,H1,I1,rx,q1⟩=>thn (hi pins s1 σ H1 _ I1 q1) λiv s2 ⟨y,H2,S,ry,a,v,ex,g,q2⟩=>?_;subst ex;obtain rfl:u=Value.ref a:=rx;exact⟨lT S g,q_ V S g ry λw' s3 I3 O=>⟨v,H2,I3,O,q2⟩⟩
theorem zH2(O:X.A.units+1<cLine)(hi:PE X i ty)(S:PE X o td):PC X .In i o (zl ty td):=by
 intro pins s σ H Q I h;refine thn (hi pins s σ H _ I h) λiv V ⟨y,H1,W,ry,q1⟩=>thn (S pins V σ H1 _ W q1) λu s2 ⟨x,H2,I2,rx,a,ov,ex,g,q2⟩=>?_;subst ex;obtain rfl:u=Value.ref a:=rx;exact zm O I2 g ry λs3 I3=>⟨.bl ov.isSome,H2,I3,rF,q2⟩
theorem zE1(O:X.A.units+1<cLine)(hi:PE X i ty)(S:PE X o td):PC X .NotIn i o (vw ty td):=by
 intro pins s σ H Q I h;refine thn (hi pins s σ H _ I h) λiv V ⟨y,H1,W,ry,q1⟩=>thn (S pins V σ H1 _ W q1) λu s2 ⟨x,H2,I2,rx,a,ov,ex,g,q2⟩=>?_;subst ex;obtain rfl:u=Value.ref a:=rx;exact vC O I2 g ry λs3 I3=>⟨.bl$ !ov.isSome,H2,I3,rF,q2⟩
theorem zCi(O:X.A.units+1<cLine)(S:PE X o td)(hi:PE X i ty)(V:PE X value tv)(hs:swapsWith value (some$ .Subscript o i pos') pos.line X.env=pure false) :
  PS X (.Assign [.Subscript o i pos'] value pos) (yf td ty tv):=by
 intro pins s σ H D I h;refine wpAny_Assign_Subscript (thn (V pins s σ H _ I h) λr W ⟨v,H1,I1,rv,q1⟩=>thn (S pins W σ H1 _ I1 q1) λu s2 ⟨x,H2,I2,rx,q2⟩=>thn (hi pins s2 σ H2 _ I2 q2) λiv s3 ⟨y,H3,I3,ry,a,H4,ex,g,q3⟩=>?_) hs;subst ex;obtain rfl:u=Value.ref a:=rx;exact qw O I3 g ry rv λs4 I4=>⟨σ,H4,I4,q3⟩
end
theorem lH(h:Heap)(O:sysModules<h.objs.size):zBk P w H (h.push {cls:=.type "dict",data:=.dict #[]}) h.objs.size (.dK []) :=
 ⟨qAm _,qBA.mpr$ qAo$ qAe O,[],.nil,Heap.DictOf.new h⟩
theorem md(h:Heap)(O:sysModules<h.objs.size):zBk P w H (h.push {cls:=.type "dict",data:=.dict #[]}) h.objs.size (.dT []) :=
 ⟨qAm _,qBA.mpr$ qAo$ qAe O,[],.nil,_,#[],0,qAg _ rF,⟨rF,rF,rF⟩,rF,rF,qAt⟩
def wP:TE:=λ_ H Q=>∀p,H p=none->Q (.ref p) (upd H p$ .dK [])
def xl:TE:=λ_ H Q=>∀p,H p=none->Q (.ref p) (upd H p$ .dT [])
section
variable{X:Cx}{pos:Pos}
theorem zB1:PE X (.Dict [] [] pos) wP:=λpins s σ H Q I h=>
 wpAny_Dict_empty ⟨.ref s.heap.objs.size,_,I.laid (a:=s.heap.objs.size) (o:=.dK []) (t':=s.toks) (λ_ _ q=>qAL _ q) (qAF _)$ lH s.heap I.big,rF,h _$ I.hok.fresh$ qAF _⟩
theorem zLf:PE X (.Dict [] [] pos) xl:=λpins s σ H Q I h=>
 wpAny_Dict_empty ⟨.ref s.heap.objs.size,_,I.laid (a:=s.heap.objs.size) (o:=.dT []) (t':=s.toks) (λ_ _ q=>qAL _ q) (qAF _)$ md s.heap I.big,rF,h _$ I.hok.fresh$ qAF _⟩
end
def jT:List (TE×TE)->St->Hp->(List (V×V)->Hp->Prop)->Prop
 |[],_,H,Q=>Q [] H
 |(tk,tv)::r,σ,H,Q=>tk σ H λx H1=>tv σ H1 λy H2=>jT r σ H2 λps O=>Q ((x,y)::ps) O
abbrev VV:List (V×V)->List (Value×Value)->Prop:=Paired λp q=>eE p.1 q.1/\eE p.2 q.2
def PPs(X:Cx)(pos:Pos)(keys:List (Option Expr))(S:List Expr)(O:List (TE×TE)):Prop :=
 ∀(pins:List (Addr×Obj)) (s:Shared) (σ:St) (H:Hp) (Q:List (V×V)->Hp->Prop),Inv X pins σ H s->jT O σ H Q ->
  wpAny (model X.prog X.w) X.A (evalPairs$ pairTrees keys S X.env pos) (λvs s'=>∃ps H',Inv X pins σ H' s'/\VV ps vs/\Q ps H') X.xe s
theorem oP{pos:Pos}:PPs X pos [] [] []:=λpins s σ H Q I h=>pairTrees_nil_walk ⟨[],H,I,.nil,h⟩
theorem lP{pos:Pos}{k v:Expr}{ks:List (Option Expr)}{vs:List Expr}{tk tv:TE}{S:List (TE×TE)}(V:PE X k tk)(W:PE X v tv)(hr:PPs X pos ks vs S) :
  PPs X pos (some k::ks) (v::vs) ((tk,tv)::S):=λpins s σ H Q I h=>
 pairTrees_cons_walk$ thn (V pins s σ H _ I h) λu s1 ⟨x,H1,I1,rx,q1⟩=>thn (W pins s1 σ H1 _ I1 q1) λw2 s2 ⟨y,H2,I2,ry,q2⟩=>thn (hr pins s2 σ H2 _ I2 q2) λws s3 ⟨ps,H3,I3,O,q3⟩=>⟨(x,y)::ps,H3,I3,.cons ⟨rx,ry⟩ O,q3⟩
def gT(kvs more:List (Key×V)):List (Key×V):=more.foldl (λacc O=>eV acc O.1 O.2) kvs
theorem KV.merge:∀{more:List (Key×V)} {rs:List (Key×Value)} {kvs:List (Key×V)} {vs:List (Key×Value)},KV more rs->KV kvs vs->KV (gT kvs more) (merged vs rs):=by
 intro more rs kvs vs r;unfold KV at r
 induction r generalizing kvs vs with
 |nil=>intro q;exact q
 |@cons p q ps qs h t O=>
  intro S
  have e:KV (eV kvs p.1 p.2) (stored vs q.1 q.2):=by
   have:=S.put p.1 h.2;rw[<-h.1];exact this
  exact O e
theorem zG5:∀(more kvs:List (Key×V)),(gT kvs more).length<=kvs.length+more.length
 |[],kvs=>by show kvs.length<=kvs.length+0;lia
 |p::r,kvs=>by
  have h1:=zG5 r$ eV kvs p.1 p.2;have h2:=zCp kvs p.1 p.2;show(gT (eV kvs p.1 p.2) r).length<=_;rw[qAd];lia
theorem zKs{P:Program}{w:World}:∀{kvs:List (Key×V)} {W:List (Value×Value)},VV (kvs.map λO=>(kV O.1,O.2)) W->∃rs,Carries (zBc P w) W rs/\KV kvs rs
 |[],_,r=>by rw[List.map_nil]at r;cases r;exact⟨[],True.intro,.nil⟩
 |p::kvs,_,r=>by
  rw[qAi]at r
  cases r with
  |@cons a b S bs h t=>
   obtain⟨rs,c,q⟩:=zKs (P:=P) (w:=w) t;obtain⟨b1,b2⟩:=b;exact⟨(p.1,b2)::rs,⟨g6 h.1,rF,c⟩,.cons ⟨rF,h.2⟩ q⟩
def yc(S:List (TE×TE)):TE:=λσ H Q=>∀p,H p=none->jT S σ (upd H p$ .dK []) λps H2=>H2 p=some (.dK [])/\∃kvs:List (Key×V),ps=kvs.map (λO=>(kV O.1,O.2))/\kvs.length<=15/\Q (.ref p) (upd H2 p$ .dK$ gT [] kvs)
theorem vB{pos:Pos}{keys:List (Option Expr)}{V:List Expr}{S:List (TE×TE)}(h:PPs X pos keys V S)(O:keys.all (·.isSome)=true)(hl:keys.length=V.length)(h0:keys≠[])
  (h15:keys.length<=15):PE X (.Dict keys V pos) (yc S):=by
 intro pins s σ H Q I q;have hn:=I.hok.fresh$ qAF s.heap.objs.size;have I1:=I.laid (a:=s.heap.objs.size) (o:=.dK []) (h':=s.heap.push {cls:=.type "dict",data:=.dict #[]}) (t':=s.toks) (λ_ _ q=>qAL _ q) (qAF _)$ lH s.heap I.big;refine wpAny_Dict_walk (knd:=zBc X.prog X.w) O hl h0 h15$ thn (h pins _ σ _ _ I1$ q _ hn) λws s2 ⟨ps,H2,I2,aa,e,kvs,ep,lk,q2⟩=>?_;subst ep;obtain⟨rs,c,rk⟩:=zKs (P:=X.prog) (w:=X.w) aa;obtain⟨z,hd,ab,r0,dd⟩:=wq I2.hok e
 cases r0
 refine⟨rs,c,dd,λh' W hs=>⟨.ref s.heap.objs.size,_,?_,rF,q2⟩⟩
 have hz:(gT [] kvs).length<=sizeLine:=by
  have h1:=zG5 kvs [];rw[qBS]at h1;rw[qAM];lia
 have he:∃q,h'.get? s.heap.objs.size=some q:=let⟨q,_,_,hq,_⟩:=W;⟨q,hq⟩;exact zL8 I2 (by rw[e];exact True.intro) hs he$ nZ hz hd (rk.merge .nil) W
structure M2(X:Cx)(o:Expr)(m:Str)(apos:Pos)(e f:Expr)(cpos:Pos):Prop where
 base:attributeBase o m X.env (eval o X.env)=eval o X.env
 few:((backTo cpos$ starEach [e,f] X.env).all (λx=>!x.1)&&(backToKw cpos$ keywordEach [] X.env).all (λx=>x.1.isSome) &&decide (([e,f]:List Expr).length+([]:List Keyword).length+(if([]:List Keyword).isEmpty then 0 else 1)<30))=true
 line:(apos.endLine==cpos.line)=true
 trees:backTo cpos (starEach [e,f] X.env)=[(false,eval e X.env),(false,eval f X.env)]
def IsD(H:Hp)(a:Addr):Prop:=(∃kvs,Rd H a (.dK kvs))\/∃kvs,Rd H a (.dT kvs)
theorem xt{pins:List (Addr×Obj)}{σ:St}{s:Shared}(I:Inv X pins σ H s)(d:IsD H a) :
  s.TypeIs (.ref a) "dict"/\(∀b,Value.ref a= .ref b->∃O,s.heap.get? b=some O/\O.dict=none)/\(a==sysModules)=false:=by
 rcases d with⟨kvs,e⟩|⟨kvs,e⟩
 .obtain ⟨_,V,vs,_,S⟩:=zL7 I.hok e;refine⟨S.typeIs,λb q=>?_,V⟩
  cases q
  obtain⟨O,_,_,h1,h2,_⟩:=S;exact⟨O,h1,h2.2.1⟩
 .obtain ⟨_,V,xs,_,S⟩:=gR I.hok e;refine⟨S.typeIs,λb q=>?_,V⟩
  cases q
  obtain⟨O,_,_,h1,h2,_⟩:=S;exact⟨O,h1,h2.2.1⟩
section
variable{X:Cx}{pins:List (Addr×Obj)}{σ:St}{H:Hp}{s:Shared}{a:Addr}{y d:V}{u r:Value}{o:Option V}{A:Around}{E:Value->Shared->Prop}
theorem xj{Q:Value->Shared->Prop}(hu:A.units+1<cLine)(I:Inv X pins σ H s)(g:eO H a y o)(ry:eE y u)(rd:eE d r)(h:∀w' s',Inv X pins σ H s'->eE (o.getD d) w'->Q w' s') :
  wpAny (model X.prog X.w) A (call (.builtin "dict.get") [.ref a,u,r]) Q E s:=by
 rcases g with⟨kvs,k,e,V,l⟩|⟨kvs,k,b,e,V,eb,l⟩
 .subst V;obtain⟨z,W,vs,O,S⟩:=zL7 I.hok e;refine call_meetsIn qDk S.typeIs PySem.F.entry_dict_get (PySem.F.args_dict_get_3 _ _ _) (meets_dict_get_default (zBc X.prog X.w) a (g6 ry) W r) ⟨_,S.mapOf,h _ _ (I.tok _) ?_⟩;rw[l];exact(O.val k).getD rd
 .subst V
  cases (show u=Value.ref b from ry)
  obtain⟨z,W,xs,O,S⟩:=gR I.hok e;refine call_meetsIn qDk S.typeIs PySem.F.entry_dict_get (PySem.F.args_dict_get_3 _ _ _) (meetsH_dict_get_default (tupleKind$ zBc X.prog X.w) a b W r) ⟨qCe hu,k,xs,zJm I.hok eb,S,h _ _ (I.tok _) ?_⟩;rw[l];exact(O.val k).getD rd
end
inductive om(ty:TE)(tx:TE)(σ:St)(Q:VK)(x:V)(H1:Hp):Prop
 |mk:∀a,x= .ref a->IsD H1 a->(ty σ H1 λy H2=>tx σ H2 λz H3=>∃o,eO H3 a y o/\Q (o.getD z) H3)->om ty tx σ Q x H1
def xc(td ty tx:TE):TE:=λσ H Q=>td σ H λx H1=>om ty tx σ Q x H1
section
variable{X:Cx}{o e f:Expr}{apos cpos:Pos}{td ty tx:TE}
theorem zIm(V:X.A.units+1<cLine)(W:PE X o td)(he:PE X e ty)(hf:PE X f tx)(m:M2 X o "get" apos e f cpos):PE X (.Call (.Attribute o "get" apos) [e,f] [] cpos) (xc td ty tx):=by
 intro pins s σ H Q I h;refine wpAny_Call_method m.base m.few m.line qC8 qDk PySem.F.type_dict_get$ thn (W pins s σ H _ I h) λu s1 ⟨x,H1,S,rx,a,ex,d,q1⟩=>?_;subst ex;obtain rfl:u=Value.ref a:=rx;obtain⟨t1,t2,_⟩:=xt S d;refine⟨t1,t2,?_⟩;rw[m.trees]
 refine qCb rF$ Calls.evalArgs_plain$ Calls.spliced_cons$ thn (he pins s1 σ H1 _ S q1) λiv s2 ⟨y,H2,I2,ry,q2⟩=>Calls.spliced_cons$ thn (hf pins s2 σ H2 _ I2 q2) λfv s3 ⟨z,H3,I3,rz,ov,g,q3⟩=>Calls.spliced_nil ?_
 exact xj V I3 g ry rz λw' s4 I4 O=>⟨_,H3,I4,O,q3⟩
end
section
variable{X:Cx}{pins:List (Addr×Obj)}{σ:St}{H:Hp}{s:Shared}{a:Addr}{kvs:List (Key×V)}{A:Around}{E:Value->Shared->Prop}
theorem rO{Q:Value->Shared->Prop}(I:Inv X pins σ H s)(e:Rd H a (.dK kvs))(h:∀p s',H p=none->Inv X pins σ (upd H p$ .dK kvs) s'->Q (.ref p) s'):wpAny (model X.prog X.w) A (call (.type "dict") [.ref a]) Q E s:=by
 obtain⟨z,W,vs,O,dd⟩:=zL7 I.hok e;refine kt_call_dict W dd (by rw[<-O.length];exact z) λh' S hs=>?_;refine h _ _ (I.hok.fresh$ qAF _)$ I.laid (a:=s.heap.objs.size) (o:=.dK kvs) (t':=s.toks) (λb q V=>?_) (qAF _)$ nZ z (qBA.mpr$ qAo$ qAe I.big) O S;exact(hs.2 b$ qAe$ qAW V).trans$ qAL _ V
end
section
variable{X:Cx}
theorem qL:zC4 X (.builtin "len") (λxs H Q=>∃a kvs,xs=[V.ref a]/\H a=some (.dK kvs)/\Q (.int kvs.length) H):=by
 intro pins s σ H xs us Q I r h;obtain⟨a,kvs,rfl,O,q⟩:=h;obtain⟨u,rfl,S⟩:=zHg r
 cases S
 exact yR I (.inl O) λt s' W=>⟨.int kvs.length,H,W,⟨t,rF⟩,q⟩
end
end L2
set_option maxHeartbeats 4000000
namespace L2
open PySem PySem.Spec PyProof.Rows
variable{env:Env}{scope:Scope}{x:Str}{c:Addr}{X:Cx}{elt iter tg:Expr}{ifs:List Expr}{g:TG}{tt:TT}{te:TE}{wi:TI}{n:Nat}
def fK(env:Env):List (Str×NameKind)->List (Str×Addr)->List (Str×Addr)
 |[],S=>S
 |(n,k)::r,S=>if(k==NameKind.free)=true then(match env.cells.lookup n with|some c=>fK env r ((n,c)::S)|none=>fK env r S) else fK env r S
theorem zE7{env:Env}:∀(l:List (Str×NameKind)) (S:List (Str×Addr)),(∀x∈l,x.2= .free->∃c,env.cells.lookup x.1=some c) ->
  (forIn l S (fun (x:Str×NameKind) (S:List (Str×Addr))=>match x with
   |(name,V)=>if(V==NameKind.free)=true then(do let c<-cellOf env name;pure (ForInStep.yield$ (name,c)::S)) else pure (ForInStep.yield S)):Sem (List$ Str×Addr))=pure (fK env l S)
 |[],_,_=>rfl
 |(n,k)::r,S,h=>by
  rw[List.forIn_cons];have hr:∀x∈r,x.2= .free->∃c,env.cells.lookup x.1=some c:=λx hx=>h x$ qAS _ hx
  by_cases hk:(k==NameKind.free)=true
  .obtain ⟨c,O⟩:=h (n,k) qAO (by simpa using hk)
   have W:fK env ((n,k)::r) S=fK env r ((n,c)::S):=by
    show(if(k==NameKind.free)=true then _ else _)=_;rw[qAD hk];have O:env.cells.lookup n=some c:=O;rw[O]
   have e2:cellOf env n=pure c:=by
    have O:env.cells.lookup n=some c:=O;unfold cellOf;rw[O]
   rw[W,<-zE7 r ((n,c)::S) hr];show(if(k==NameKind.free)=true then(do let c<-cellOf env n;pure (ForInStep.yield$ (n,c)::S)) else pure (ForInStep.yield S)) >>= _=_;rw[qAD hk,e2,pure_bind,pure_bind]
  .have W:fK env ((n,k)::r) S=fK env r S:=by
    show(if(k==NameKind.free)=true then _ else _)=_;rw[qAC hk]
   rw[W,<-zE7 r S hr];show(if(k==NameKind.free)=true then(do let c<-cellOf env n;pure (ForInStep.yield$ (n,c)::S)) else pure (ForInStep.yield S)) >>= _=_;rw[qAC hk,pure_bind]
theorem zMa(h:∀x∈scope.names,x.2= .free->∃c,env.cells.lookup x.1=some c):closureFor scope env=pure (fK env scope.names []):=by
 unfold closureFor;have e:=zE7 (env:=env) scope.names [] h
 first
  |exact e
  |(refine Eq.trans ?_ e;rfl)
  |(rw[bind_pure];exact e)
  |simpa using e
theorem zFo :∀{l:List (Str×NameKind)} {V:List (Str×Addr)},(∀y d,V.lookup y=some d->env.cells.lookup y=some d)->(fK env l V).lookup x=some c->env.cells.lookup x=some c
 |[],V,h,e=>h x c e
 |(n,k)::r,V,h,e=>by
  unfold fK at e
  by_cases hk:(k==NameKind.free)=true
  .rw [qAD hk]at e
   cases q:env.cells.lookup n with
   |none=>rw[q]at e;exact zFo h e
   |some d=>
    rw[q]at e;refine zFo (λy z S=>?_) e;rw[qBT]at S
    cases O:y==n with
    |true=>
     rw[O]at S;have:y=n:=by simpa using O
     subst this;rw[q];exact S
    |false=>rw[O]at S;exact h y z S
  .rw [qAC hk]at e;exact zFo h e
theorem zFp(O:env.cells.lookup x=some c):∀{l:List (Str×NameKind)} {S:List (Str×Addr)},S.lookup x=some c->(fK env l S).lookup x=some c
 |[],_,h=>h
 |(n,k)::r,S,h=>by
  unfold fK
  by_cases hk:(k==NameKind.free)=true
  .rw [qAD hk]
   cases q:env.cells.lookup n with
   |none=>exact zFp O h
   |some d=>
    refine zFp O ?_;rw[qBT]
    cases V:x==n with
    |true=>
     have:x=n:=by simpa using V
     subst this;rw[<-q,O]
    |false=>exact h
  .rw [qAC hk];exact zFp O h
theorem zHb(O:env.cells.lookup x=some c):∀{l:List (Str×NameKind)} {S:List (Str×Addr)},(x,NameKind.free)∈l->(fK env l S).lookup x=some c
 |[],_,h=>nomatch h
 |(n,k)::r,S,h=>by
  unfold fK;rcases qAQ.mp h with e|h
  .cases e
   rw[qAD (show(NameKind.free==NameKind.free)=true by decide),O];exact zFp O (by rw[qBT];simp)
  .by_cases hk:(k==NameKind.free)=true
   .rw [qAD hk]
    cases q:env.cells.lookup n with
    |none=>exact zHb O h
    |some d=>exact zHb O h
   .rw [qAC hk];exact zHb O h
theorem zEk :∀{l:List (Str×NameKind)} {n:Nat} {acc:List (Str×Addr)},(∀y∈l,y.2= .cell->y.1≠x)->(cellsFrom n l acc).lookup x=acc.lookup x
 |[],_,_,_=>rfl
 |(y,k)::r,n,acc,h=>by
  have O:∀z∈r,z.2= .cell->z.1≠x:=λz S=>h z$ qAS _ S;unfold cellsFrom;split
  .rename_i V;rw[zEk O,qBT]
   have:(x==y)=false:=by
    have:=h (y,k) qAO (by simpa using V);exact qBA.mpr λz=>this z.symm
   rw[this]
  .exact zEk O
theorem zCv :∀{l:List (Str×NameKind)} {n:Nat} {acc:List (Str×Addr)},(cellsFrom n l acc).lookup x=some c->acc.lookup x=some c\/(n<=c/\(x,NameKind.cell)∈l)
 |[],_,_,h=>.inl h
 |(y,k)::r,n,acc,h=>by
  unfold cellsFrom at h;split at h
  .rename_i hk;have O:k= .cell:=by simpa using hk
   rcases zCv h with z|⟨S,V⟩
   .rw [qBT]at z
    cases W:x==y with
    |true=>
     rw[W]at z;have e:n=c:=qAh z;have e2:x=y:=by simpa using W
     subst e2;subst O;exact .inr ⟨qC3 e,qAO⟩
    |false=>rw[W]at z;exact .inl z
   .exact .inr ⟨qAR (qBl _) S,qAS _ V⟩
  .rcases zCv h with z|⟨S,V⟩
   .exact .inl z
   .exact .inr ⟨S,qAS _ V⟩
theorem zEl:∀{l:List (Str×NameKind)} {n:Nat} {acc:List (Str×Addr)},(∀x y c,acc.lookup x=some c->acc.lookup y=some c->x=y)->(∀z d,acc.lookup z=some d->d<n)->∀x y c,(cellsFrom n l acc).lookup x=some c->(cellsFrom n l acc).lookup y=some c->x=y
 |[],_,_,p,_=>p
 |(w,k)::r,n,acc,p,lt=>by
  unfold cellsFrom;split
  .refine zEl (l:=r) (n:=n+1) (acc:=(w,n)::acc) (λx y c h1 h2=>?_) λz d h=>?_
   .rw [qBT]at h1 h2
    cases S:x==w with
    |true=>
     rw[S]at h1;have W:n=c:=qAh h1
     cases O:y==w with
     |true=>exact(by simpa using S:x=w).trans (by simpa using O:y=w).symm
     |false=>
      rw[O]at h2;have:=lt y c h2;rw[<-W]at this;exact absurd this$ qBe _
    |false=>
     rw[S]at h1
     cases O:y==w with
     |true=>
      rw[O]at h2;have e2:n=c:=qAh h2;have:=lt x c h1;rw[<-e2]at this;exact absurd this$ qBe _
     |false=>rw[O]at h2;exact p x y c h1 h2
   .rw [qBT]at h
    cases V:z==w with
    |true=>
     rw[V]at h;have e:n=d:=qAh h;rw[<-e];exact qCX _
    |false=>
     rw[V]at h;exact qCE$ lt z d h
  .exact zEl p lt
theorem zDx :∀{l:List (Str×NameKind)} {h:Heap} {acc:List (Str×Addr)},(∀y d,acc.lookup y=some d->∃v,h.IsCell d v)->(cellsFrom h.objs.size l acc).lookup x=some c->∃v,(pushCells h l).IsCell c v
 |[],_,_,V,e=>V x c e
 |(y,k)::r,h,acc,V,e=>by
  unfold cellsFrom at e;unfold pushCells;split at e
  .rename_i W;rw[qAD W];have hs:(h.push {cls:=.type "cell",data:=.cell none}:Heap).objs.size=h.objs.size+1:=qBM ..;rw[<-hs]at e;refine zDx (λz d O=>?_) e;rw[qBT]at O
   cases S:z==y with
   |true=>
    rw[S]at O;have e:h.objs.size=d:=qAh O;subst e;exact⟨none,_,qAg _ rF,rF⟩
   |false=>
    rw[S]at O;obtain⟨v,o,ho,hd⟩:=V z d O;exact⟨v,o,qAL _ ho,hd⟩
  .rename_i W;rw[qAC W];exact zDx V e
theorem zGg{M:Model}{A:Around}{E:Value->Shared->Prop}{s:Shared}{globals:Addr}{cl:List (Str×Addr)}{qual:Str}{O:Env}{Q:Env->Shared->Prop}
  (h:Q (newEnv scope s.heap.objs.size globals (cellsFrom (s.heap.objs.size+1) scope.names cl) qual none .none (some O) builtinsNs) {s with heap:=pushCells (s.heap.push {cls:=.type "dict",data:=.dict #[]}) scope.names}) :
  wpAny M A (newFunctionEnv scope globals cl [] qual none .none$ some O) Q E s:=by
 simp only[newFunctionEnv,Option.isSome_some,qBX];refine qAA$ wpAny_alloc ?_;refine qAA$ wpAny_layCells _ (λname S V=>by cases W:S==NameKind.cell<;>simp[W]) _ _ _ _ ?_;rw[show({s with heap:=s.heap.push {cls:=.type "dict",data:=.dict #[]}}:Shared).heap.objs.size=s.heap.objs.size+1 from qBM ..];rw[List.forIn_nil];exact qAA$ qAE$ qAE h
theorem zHa :∀{l:List (Str×NameKind)} {S:List (Str×Addr)},(∀y∈l,y.2= .free->y.1≠x)->(fK env l S).lookup x=S.lookup x
 |[],_,_=>rfl
 |(n,k)::r,S,h=>by
  have O:∀z∈r,z.2= .free->z.1≠x:=λz V=>h z$ qAS _ V;unfold fK
  by_cases hk:(k==NameKind.free)=true
  .rw [qAD hk];have W:(x==n)=false:=qBA.mpr λz=>h (n,k) qAO (by simpa using hk) z.symm
   cases q:env.cells.lookup n with
   |none=>exact zHa O
   |some d=>
    rw[show(fK env r$ (n,d)::S).lookup x=((n,d)::S).lookup x from zHa O,qBT,W]
  .rw [qAC hk];exact zHa O
def Cx.block(X:Cx)(scope:Scope)(C:Addr)(s₀:Shared)(H₀:Hp)(ex:List Addr)(N:List Str):Cx where
 prog:=X.prog
 w:=X.w
 K:=X.K
 mg:=X.mg
 base:=X.base
 A:=X.A
 N:=N
 s₀:=s₀
 H₀:=H₀
 env:=compEnvC scope (cellsFrom (C+1) scope.names$ fK X.env scope.names []) C X.env
 outer:=X.stack
 stack:=X.stack
 ex:=ex
 fn:=λx=>scope.names.lookup x==some .cell
 calm:=X.calm
 pn:=[]
 xe:=λ_ _=>False
structure iR(X:Cx)(scope:Scope):Prop where
 kind:scope.kind= .function
 apart:∀y∈scope.names,∀z∈scope.names,y.2= .cell->z.2= .free->y.1≠z.1
 owns:∀y∈scope.names,y.2= .cell->scope.names.lookup y.1=some .cell
 free:∀y∈scope.names,y.2= .free->X.env.kindOf y.1=some .cell\/X.env.kindOf y.1=some .free
 locs:∀y∈scope.names,y.2= .local->scope.names.lookup y.1=some .local
theorem zDp{scope:Scope}{k:NameKind}:∀{l:List (Str×NameKind)}, 
  (l.map λ(n,k)=>if(k==NameKind.free&&env.scope.kind== .function&&env.kindOf n==some .cell) then(n,NameKind.cell) else(n,k)).lookup x=some k ->
  k= .cell\/k= .free->∃O,(x,O)∈l/\(O= .cell\/O= .free)
 |[],h,_=>by simp at h
 |(n,j)::r,h,V=>by
  have h:List.lookup x ((if(j==NameKind.free&&env.scope.kind== .function&&env.kindOf n==some .cell)=true then(n,NameKind.cell) else(n,j))::(r.map λ(n,k)=>if(k==NameKind.free&&env.scope.kind== .function&&env.kindOf n==some .cell) then(n,NameKind.cell) else(n,k)))=some k:=h
  by_cases hc:(j==NameKind.free&&env.scope.kind== .function&&env.kindOf n==some .cell)=true
  .rw [qAD hc,qBT]at h
   have W:j= .free:=by
    simp only[qBn]at hc;simpa using hc.1.1
   cases S:x==n with
   |true=>
    have:x=n:=by simpa using S
    subst this;exact⟨j,qAO,.inr W⟩
   |false=>
    rw[S]at h;obtain⟨O,m,q⟩:=zDp (scope:=scope) h V;exact⟨O,qAS _ m,q⟩
  .rw [qAC hc,qBT]at h
   cases S:x==n with
   |true=>
    rw[S]at h;have e:j=k:=qAh h;have:x=n:=by simpa using S
    subst this;exact⟨j,qAO,by rw[e];exact V⟩
   |false=>
    rw[S]at h;obtain⟨O,m,q⟩:=zDp (scope:=scope) h V;exact⟨O,qAS _ m,q⟩
inductive d_(X:Cx)(scope:Scope):List Str->List (Option Nat)->Prop
 |nil:d_ X scope [] []
 |own {x:Str} {N:List Str} {ix:List (Option Nat)}:d_ X scope N ix->d_ X scope (x::N) (Option.none::ix)
 |tk {x:Str} {N:List Str} {ix:List (Option Nat)} {i:Nat} (hN:X.N[i]?=some x) (hv:Vis X.env.scope x) (hk:(relabel scope X.env).names.lookup x=some .cell\/(relabel scope X.env).names.lookup x=some .free) (hf:(x,NameKind.free)∈scope.names) :
   d_ X scope N ix->d_ X scope (x::N) (some i::ix)
def zCr(σ:St)(ix:List (Option Nat)):St:=ix.map λo=>o.bind λi=>(σ[i]?).join
theorem d_.len{N:List Str}{ix:List (Option Nat)}(D:d_ X scope N ix):ix.length=N.length:=by
 induction D with
 |nil=>rfl
 |own _ O=>simp[O]
 |tk _ _ _ _ _ O=>simp[O]
theorem d_.get{N:List Str}{ix:List (Option Nat)}{σ:St}(D:d_ X scope N ix):∀(j:Nat)(x:Str)(v:V),N[j]?=some x->(zCr σ ix)[j]?=some (some v) ->
  ∃(i:Nat),X.N[i]?=some x/\σ[i]?=some (some v)/\Vis X.env.scope x/\((relabel scope X.env).names.lookup x=some .cell\/(relabel scope X.env).names.lookup x=some .free)/\(x,NameKind.free)∈scope.names:=by
 induction D with
 |nil=>intro j x v h;simp at h
 |own d O=>
  intro j x v h1 h2
  cases j with
  |zero=>simp[zCr]at h2
  |succ j=>exact O j x v (by simpa using h1) (by simpa[zCr]using h2)
 |@tk y N ix i S W hk hf d O=>
  intro j x v h1 h2
  cases j with
  |zero=>
   have e:y=x:=by simpa using h1
   subst e;refine⟨i,S,?_,W,hk,hf⟩;have h2:((σ[i]?).join)=some v:=by simpa[zCr]using h2
   cases q:σ[i]? with
   |none=>rw[q]at h2;cases h2
   |some o=>rw[q]at h2;exact qAf some h2
  |succ j=>exact O j x v (by simpa using h1) (by simpa[zCr]using h2)
section
variable{X:Cx}{pins:List (Addr×Obj)}{σ:St}{H:Hp}{s:Shared}{scope:Scope}{N:List Str}{ix:List (Option Nat)}{fp:List Addr}
theorem Inv.nostk(I:Inv X pins σ H s){b:Addr}(h1:b≠X.env.locals)(h2:b∉X.fs):b∉frs X.stack:=λz=>(qAQ.mp$ I.stkSub b z).elim h1 h2
theorem Inv.blockStart{h':Heap}{tk:Nat}{m:Str->Option Value}(I:Inv X pins σ H s)(B:iR X scope)(D:d_ X scope N ix)(O:∀b∈fp,ie X pins H b)(V:∀b∈fp,∃o,s.heap.get? b=some o)
  (aa:h'.Ns s.heap.objs.size m) (hk:∀b o,s.heap.get? b=some o->h'.get? b=some o) (ab:∀x c,(cellsFrom (s.heap.objs.size+1) scope.names$ fK X.env scope.names []).lookup x=some c->∃v,h'.IsCell c v) :
  Inv (X.block scope s.heap.objs.size s H fp N) (X.pn++pins) (zCr σ ix) H {s with heap:=h',toks:=tk}:=by
 have sub:∀{x:Str}{c:Addr},(fK X.env scope.names []).lookup x=some c->X.env.cells.lookup x=some c:=λ{x c} e=>zFo (λy d z=>by simp at z) e
 have old:∀{x:Str}{c:Addr},(fK X.env scope.names []).lookup x=some c->c<s.heap.objs.size:=λ{x c} e=>by
  obtain⟨v,o,ho,_⟩:=I.cell x c$ sub e;exact qAW ho
 have two:∀{x:Str}{c:Addr},(cellsFrom (s.heap.objs.size+1) scope.names$ fK X.env scope.names []).lookup x=some c->X.env.cells.lookup x=some c\/s.heap.objs.size<c:=λ{x c} e=>by
  rcases zCv e with z|⟨z,_⟩
  .exact .inl$ sub z
  .exact .inr z
 have W:∀{x:Str},(x,NameKind.free)∈scope.names->(cellsFrom (s.heap.objs.size+1) scope.names$ fK X.env scope.names []).lookup x=(fK X.env scope.names []).lookup x:=λ{x} hx=>zEk λy hy e=>B.apart y hy _ hx e rF
 have ad:(X.block scope s.heap.objs.size s H fp N).Ok:=by
  refine⟨I.ok.mod,B.kind,I.ok.glob,I.ok.blt,qAF _,zEl (λx y c h1 h2=>I.ok.inj x y c (sub h1)$ sub h2) λz d h=>qCE$ old h,λx hx=>?_,(λx c z e=>?_),I.ok.hd,I.ok.frames,.inl rF,λb S=>⟨?_,λx c e=>?_⟩,I.bs,qAR I.ok.bsz I.sz,λb o e S=>?_,λb S=>I.nostk (O b S).2.1 (O b S).2.2.1,I.stack,I.stkFree⟩
  .have ae:(relabel scope X.env).names.lookup x=some .cell\/(relabel scope X.env).names.lookup x=some .free:=hx
   have key:∃k',(x,k')∈scope.names/\(k'= .cell\/k'= .free):=by
    rcases ae with e|e
    .exact zDp (scope:=scope) e$ .inl rF
    .exact zDp (scope:=scope) e$ .inr rF
   obtain⟨k',m1,q⟩:=key;rcases q with q|q
   .subst q;exact qDi.mp$ qDh _ _ _$ .inl$ B.owns _ m1 rF
   .subst q;obtain⟨c,hc⟩:=I.ok.has x$ B.free _ m1 rF;exact⟨c,(W m1).trans$ zHb hc m1⟩
  .rcases zCv e with q|⟨q,_⟩
   .have z:scope.names.lookup x=some .cell:=by
     have z:(scope.names.lookup x==some NameKind.cell)=true:=z;simpa using z
    have hm:=qCA z;have:(x,NameKind.free)∈scope.names\/True:=.inr trivial
    exact absurd q (by
     rw[zHa λy hy e1 e2=>B.apart _ hm y hy rF e1 e2.symm];intro h;cases h)
   .exact qB8 q
  .obtain ⟨o,e⟩:=V b S;exact qAe$ qAW e
  .rcases two e with z|z
   .exact (O b S).2.2.2.2.1 x c z
   .obtain ⟨o,e⟩:=V b S;exact qBV$ Nat.lt_trans (qAW e) z
  .rcases (O b S).2.2.2.1 with z|z
   .exact I.ok.noex b o e z
   .exact absurd (qAs (qAW (I.ok.bs b o e).1) z)$ qBe _
 refine⟨ad,rF,I.bare,Un.kept hk,⟨m,aa,λj x v h1 h2 h3=>?_⟩,λx c e=>?_,I.hok.fresh$ qAF _,λx c e=>(two e).elim (λz=>I.freeC x c z) λz=>I.hok.fresh$ qB8 z,λp hp=>?_,I.hok.kept hk,?_⟩
 .obtain ⟨i,e1,e2,af,kd,fr⟩:=D.get j x v h1 h2;obtain⟨m0,ah,hl⟩:=I.loc;obtain⟨u,r,l⟩:=hl i x v e1 e2 af;refine⟨u,r,?_⟩;rcases l with⟨k,_⟩|⟨_,c,hc,o,ho,hd⟩
  .rcases B.free _ fr rF with z|z
   .have z:X.env.kindOf x=some .cell:=z;rw[k]at z;cases z
   .have z:X.env.kindOf x=some .free:=z;rw[k]at z;cases z
  .exact .inr ⟨kd,c,(W fr).trans$ zHb hc fr,o,hk c o ho,hd⟩
 .exact ab x c e
 .have ag:p∈X.pn++pins:=by simpa[Cx.block]using hp
  obtain⟨e,n,ne,nf,d⟩:=I.pin p ag;exact⟨hk _ _ e,n,qAe$ qAW e,I.nostk ne nf,d⟩
 .show (zCr σ ix).length=N.length;unfold zCr;rw[qAB];exact D.len
end
def PTs(X:Cx)(ifs:List Expr)(t:TT):Prop :=
 ∀(pins:List (Addr×Obj)) (s:Shared) (σ:St) (H:Hp) (Q:Bool->Hp->Prop),Inv X pins σ H s->t σ H Q ->
  wpAny (model X.prog X.w) X.A (forIn ifs true λc r=>if r=true then do let ok<-isTrue c X.env (eval c X.env);pure (ForInStep.yield ok) else pure (ForInStep.yield r)) (TP X pins σ Q) X.xe s
def hV:TT:=λ_ H Q=>Q true H
theorem zBq :PTs X [] hV:=λ_ _ _ H _ I h=>wpAny_tests_nil ⟨H,I,h⟩
theorem zB8{c:Expr}{t:TT}(h:PT X c t):PTs X [c] t:=λpins s σ H Q I hw=>wpAny_tests_one$ h pins s σ H Q I hw
theorem qa{prog:Program}{w:World}{A:Around}{R:Result->Shared->Prop}{s:Shared}{elt O iter:Expr}{ifs:List Expr}{scope:Scope}{pos:Pos}{it acc:Value}{env:Env}(I:Nat->Shared->Prop)
  (ah:∀n s,I n s->wpAny (model prog w) A (pyNext it) (fun r S=>match r with
   |none=>R (.ok .next) S
   |some v=>wpAny (model prog w) A (letOwnedTupleGo O it v) (λ_ V=>wpAny (model prog w) A (assign O env v) (λ_ aa =>
     wpAny (model prog w) A (forIn ifs true λc r=>if r=true then do let ok<-isTrue c env (eval c env);pure (ForInStep.yield ok) else pure (ForInStep.yield r)) (λok W =>
      if ok=true then wpAny (model prog w) A (eval elt env) (λx ab =>
       wpAny (model prog w) A (call (.builtin "list.append") [acc,x]) (λ_ ad=>∃m,m<n/\I m ad) (λ_ _=>False) ab) (λ_ _=>False) W
      else∃m,m<n/\I m W) (λ_ _=>False) aa) (λ_ _=>False) V) (λ_ _=>False) S) (λ_ _=>False) s)
  (n:Nat) (h:I n s) :
  codeAny (model prog w) A (.compLoop (.ListComp elt [⟨O,iter,ifs,0⟩] scope pos) 0 it acc env) R s:=by
 refine codeAny_loop rF I (λn s hI=>?_) n h;show wpAny _ A ((compTurn (.ListComp elt [⟨O,iter,ifs,0⟩] scope pos) 0 it acc env).onRaise λx=>do noteFrame x env;theTreesLotGoes x) _ _ s;refine wpAny_noted ?_;rw[compTurn_list];refine qAA$ qCT$ qAA$ qA3 (ah n s hI) (λr S ae=>?_) λ_ _ h'=>h'.elim
 cases r with
 |none=>exact qAE ae
 |some v=>
  refine qAA$ qA3 ae (λ_ V ag=>?_) λ_ _ h'=>h'.elim;refine qAA$ qA3 ag (λ_ aa ai=>qAA$ qA3 ai (λok W af=>?_) λ_ _ h'=>h'.elim) λ_ _ h'=>h'.elim
  cases ok with
  |false=>exact qAE ⟨rF,af⟩
  |true=>
   exact qAA$ qAA$ qA3 af (λx ab aj=>qAA$ qA3 aj (λ_ ad ak=>qAE$ qAE ⟨rF,ak⟩) λ_ _ h'=>h'.elim) λ_ _ h'=>h'.elim
def uc(wi:TI)(ix:List (Option Nat))(g:TG)(tt:TT)(te:TE):TE:=λσ H Q=>wi σ H λJ H1=>∀D,H1 D=none->∃W:Nat->Nat->List V->St->Hp->Prop,
 (∃m,W 0 m [] (zCr σ ix) (upd H1 D$ .lst []))/\∀i m ys τ H2,W i m ys τ H2 ->
  (J.stop i H2/\Q (.ref D) H2)\/(J.go i H2/\∃N:List V->St->Hp->Prop,(∀S O H',N S O H'->∃m',m'<m/\W (i+1) m' S O H')/\∀x H3,J.yld i H2 x H3->g x τ H3 λO H4=>tt O H4 λb H5=>if b=true then te O H5 λv H6=>H6 D=some (.lst ys)/\ys.length<sizeLine/\N (ys++[v]) O (upd H6 D$ .lst$ ys++[v]) else N ys O H5)
theorem nj{Y:Cx}{pos:Pos}{J:It}{fp:List Addr}{it D:Addr}{tn:Nat->Heap->Prop}{P:List (Addr×Obj)}{W:Nat->Nat->List V->St->Hp->Prop}{m0:Nat}
  {R:Result->Shared->Prop} {QD:Hp->Prop} {s4:Shared} {ae:St} {H4:Hp}
  (hc:Y.calm=true) (hx:∀e s,Y.xe e s->False) (hg:PG Y tg g) (ht:PTs Y ifs tt) (he:PE Y elt te) (T:ig Y.prog Y.w Y.K tg J fp it tn)
  (ad:∀{H':Hp},(∀b∈fp,H' b=none)->∀b∈fp,ie Y P H' b)
  (ag:∀i m ys O H2,W i m ys O H2->(J.stop i H2/\QD H2)\/(J.go i H2/\∃N:List V->St->Hp->Prop,(∀aa S H',N aa S H'->∃m',m'<m/\W (i+1) m' aa S H')/\∀x H3,J.yld i H2 x H3->g x O H3 fun S H4=>tt S H4 fun b H5 =>
   if b=true then te S H5 λv H6=>H6 D=some (.lst ys)/\ys.length<sizeLine/\N (ys++[v]) S (upd H6 D$ .lst$ ys++[v])
   else N ys S H5))
  (fin:∀O H' s',Inv Y P O H' s'->QD H'->R (.ok .next) s')
  (I0:Inv Y P ae H4 s4) (t0:tn 0 s4.heap) (n0:∀b∈fp,H4 b=none) (w0:W 0 m0 [] ae H4) :
  codeAny (model Y.prog Y.w) Y.A (.compLoop (.ListComp elt [⟨tg,iter,ifs,0⟩] scope pos) 0 (.ref it) (.ref D) Y.env) R s4:=by
 have nx:∀{α:Type}{t:Sem α}{Q:α->Shared->Prop}{s:Shared},wpAny (model Y.prog Y.w) Y.A t Q Y.xe s->wpAny (model Y.prog Y.w) Y.A t Q (λ_ _=>False) s:=λh=>qA3 h (λ_ _ q=>q) hx;refine qa (λn s'=>∃i ys O H',Inv Y P O H' s'/\tn i s'.heap/\(∀b∈fp,H' b=none)/\W i n ys O H') ?_ m0 ⟨0,[],ae,H4,I0,t0,n0,w0⟩;rintro n s5 ⟨i,ys,O,H5,I5,ah,ai,w5⟩;rcases ag i n ys O H5 w5 with⟨aj,q⟩|⟨go,N,hN,step⟩
 .refine thn (T.done Y rF rF rF hc i P s5 O H5 _ I5 (ad ai) ah aj) λr s6 ⟨hr,I6⟩=>?_;subst hr;exact fin O H5 s6 I6 q
 .refine thn (T.item Y rF rF rF hc i P s5 O H5 _ I5 (ad ai) ah go) λr s6 ⟨u,hr,h6⟩=>?_;subst hr;refine thn h6 λ_ s7 ⟨x,H7,I7,r7,y7,af,al⟩=>?_;have am:=I7.pinned (ad al)$ T.obj _ _ af;refine nx$ thn (hg _ s7 O H7 x u _ am r7$ step x H7 y7) λ_ s8 ⟨ab,H8,I8,q8⟩=>?_;refine nx$ thn (ht _ s8 ab H8 _ I8 q8) λok s9 ⟨H9,I9,q9⟩=>?_
  have again:∀{aa:List V}{H':Hp}{s':Shared},Inv Y (P++g8 fp s7.heap) ab H' s'->(∃m',m'<n/\W (i+1) m' aa ab H')->∃m,m<n/\∃i ys O H',Inv Y P O H' s'/\tn i s'.heap/\(∀b∈fp,H' b=none)/\W i m ys O H':=λ{aa H' s'} I' ⟨m',hm,w'⟩=>by
   refine⟨m',hm,i+1,aa,ab,H',I'.unpinned,T.keep _ _ _ af λb hb o e=>(I'.pin (b,o)$ qAr _$ qAr _$ zFj hb e).1,λb hb=>?_,w'⟩;obtain⟨o,e,d⟩:=T.obj _ _ af b hb;exact(I'.pin (b,o)$ qAr _$ qAr _$ zFj hb e).2.1
  cases ok with
  |false=>
   rw[qAC qAk]at q9 ⊢;exact again I9$ hN _ _ _ q9
  |true=>
   rw[qAD rF]at q9 ⊢;refine nx$ thn (he _ s9 ab H9 _ I9 q9) λy an ⟨v,ak,ao,ap,hD,hz,aq⟩=>?_;refine nx$ thn (zDd (X:=Y) _ an ab ak (.ref D) [v] (.ref D) [y] (λ_ H'=>H'=upd ak D (.lst$ ys++[v])) ao rF (.cons ap .nil) ⟨D,ys,v,rF,rF,hD,hz,rF⟩) λ_ au ⟨z,av,ar,_,as⟩=>?_;subst as;exact again ar$ hN _ _ _ aq
theorem kU{pos p1:Pos}{N:List Str}{ix:List (Option Nat)}{pins:List (Addr×Obj)}{s:Shared}{σ:St}{H:Hp}{Q:VK}{use:Option (Value->Sem Unit)}
  {Z:Value->Shared->Prop}
  (hc:X.calm=true) (B:iR X scope) (Dr:d_ X scope N ix) (hi:PI X tg iter wi)
  (hg:∀C s₀ H₀ ex,PG (X.block scope C s₀ H₀ ex N) tg g) (ht:∀C s₀ H₀ ex,PTs (X.block scope C s₀ H₀ ex N) ifs tt) (he:∀C s₀ H₀ ex,PE (X.block scope C s₀ H₀ ex N) elt te)
  (hs:∀x,foldedSetIterable iter X.env x=pure x)
  (I:Inv X pins σ H s) (h:uc wi ix g tt te σ H Q)
  (fin:∀(D C:Addr) (H':Hp) (s':Shared) (m:Str->Option Value),Inv X pins σ H' s'->Q (.ref D) H'->s'.heap.Ns C m->(∀h',Heap.SameBut C s'.heap h'->Inv X pins σ H' {s' with heap:=h'})->C≠X.env.locals->(∀x c,X.env.cells.lookup x=some c->c≠C)->H' C=none ->
   (∀p∈X.pn++pins,p.1≠C)->X.s₀.heap.objs.size<=C->compPost (model X.prog X.w) X.A X.xe use Z (.ref D) C (.ok .next) s') :
  wpAny (model X.prog X.w) X.A (comprehension (.ListComp elt [⟨tg,iter,ifs,0⟩] scope pos) scope X.env p1 (newList []) false (eval iter X.env) use) Z X.xe s:=by
 have ab:∀x∈scope.names,x.2= .free->∃c,X.env.cells.lookup x.1=some c:=λx hx e=>I.ok.has _$ B.free x hx e;refine wpAny_comprehension_free (use:=use) rF hs (zMa ab) B.kind B.locs ?_;refine thn (hi pins s σ H _ I h) λv s1 h1=>thn h1 λav s2 h2=>?_;obtain⟨it,fp,tn,J,H2,e,I2,T,ad,f2,R⟩:=h2;subst e;have ap:H2 s2.heap.objs.size=none:=I2.hok.fresh$ qAF _;obtain⟨W,⟨m0,w0⟩,ae⟩:=R _ ap;refine qBY ?_ (by show(0:Nat)<=sizeLine;exact qAm _);have V:Inv X pins σ (upd H2 s2.heap.objs.size$ .lst []) {s2 with heap:=s2.heap.push {cls:=.type "list",data:=.seq ([]:List Value).toArray}}:=I2.lnew (t':=s2.toks) (ys:=[]) (its:=[]) .nil$ qAm _;generalize hD:s2.heap.objs.size=D at *
 have af:∀b∈fp,∃o,s2.heap.get? b=some o:=λb O=>let⟨o,q,_⟩:=T.obj _ _ ad b O;⟨o,q⟩
 have aq:∀b∈fp,b≠D:=λb O=>by
  obtain⟨o,q⟩:=af b O;rw[<-hD];exact qAe$ qAW q
 have f3:∀b∈fp,ie X pins (upd H2 D$ .lst []) b:=λb O=>⟨by rw[a_$ aq b O];exact(f2 b O).1,(f2 b O).2⟩;generalize ar:({s2 with heap:=s2.heap.push {cls:=.type "list",data:=.seq ([]:List Value).toArray}}:Shared)=s3 at V ⊢;have ag:∀b o,s2.heap.get? b=some o->s3.heap.get? b=some o:=λb o q=>by rw[<-ar];exact qAL _ q
 have S:∀b∈fp,∃o,s3.heap.get? b=some o:=λb O=>let⟨o,q⟩:=af b O;⟨o,ag b o q⟩;have as:tn 0 s3.heap:=T.keep _ _ _ ad λb O o q=>ag b o q;refine zGg ?_;have ah:∀b o,s3.heap.get? b=some o->(pushCells (s3.heap.push {cls:=.type "dict",data:=.dict #[]}) scope.names).get? b=some o:=λb o q=>pushCells_keeps _ _ b o$ qAL _ q;have ai:(pushCells (s3.heap.push {cls:=.type "dict",data:=.dict #[]}) scope.names).Ns s3.heap.objs.size (λ_=>none):=(Heap.Ns.new s3.heap$ .type "dict").keeps$ pushCells_keeps _ _
 have aj:∀x c,(cellsFrom (s3.heap.objs.size+1) scope.names$ fK X.env scope.names []).lookup x=some c->∃v,(pushCells (s3.heap.push {cls:=.type "dict",data:=.dict #[]}) scope.names).IsCell c v:=λx c e=>by
  refine zDx (h:=s3.heap.push {cls:=.type "dict",data:=.dict #[]}) (acc:=fK X.env scope.names []) (λy d hy=>?_) (by rw[qBM];exact e);obtain⟨v,o,ho,hd⟩:=V.cell y d$ zFo (λy d z=>by simp at z) hy;exact⟨v,o,qAL _ ho,hd⟩
 have IB:=V.blockStart (tk:=s3.toks) B Dr f3 S ai ah aj;generalize aw:pushCells (s3.heap.push {cls:=.type "dict",data:=.dict #[]}) scope.names=h4 at *
 generalize hC:s3.heap.objs.size=C at *
 have ak:X.s₀.heap.objs.size<=C:=by rw[<-hC];exact V.sz
 have CL:C≠X.env.locals:=by rw[<-hC];exact qBV V.lt
 have Cc:∀x c,X.env.cells.lookup x=some c->c≠C:=λx c q=>by
  obtain⟨v,o,ho,_⟩:=V.cell x c q;rw[<-hC];exact qAe$ qAW ho
 have Cp:∀p∈X.pn++pins,p.1≠C:=λp hp=>by
  rw[<-hC];exact qAe$ qAW (V.pin p hp).1
 have au:∀b∈fp,b≠C:=λb O=>by
  obtain⟨o,q⟩:=S b O;rw[<-hC];exact qAe$ qAW q
 have al:∀{H':Hp},(∀b∈fp,H' b=none)->∀b∈fp,ie (X.block scope C s3 (upd H2 D$ .lst []) fp N) (X.pn++pins) H' b:=λ{H'} hn b O=>by
  obtain⟨_,q1,q2,q3,q4,q5⟩:=f2 b O;exact⟨hn b O,au b O,V.nostk q1 q2,.inl O,λx c e=>(zCv e).elim (λz=>q4 x c$ zFo (λy d z=>by simp at z) z) (λz=>by obtain⟨o,q⟩:=S b O;have:=qAW q;rw[hC]at this;exact qBV$ qAs (qCE this) z.1),λp hp=>q5 p$ by simpa[Cx.block]using hp⟩
 have am:tn 0 h4:=T.keep _ _ _ as λb O o q=>ah b o q;have n4:∀b∈fp,(upd H2 D$ .lst []) b=none:=λb O=>(f3 b O).1
 have aa:=nj (Y:=X.block scope C s3 (upd H2 D$ .lst []) fp N) (iter:=iter) (pos:=pos) (scope:=scope) (D:=D) (R:=compPost (model X.prog X.w) X.A X.xe use Z (.ref D) C) hc (λ_ _ z=>z) (hg C s3 _ fp) (ht C s3 _ fp) (he C s3 _ fp) T al ae
  (fun τ H' s' I' q=>by
   have I5:Inv X pins σ H' s':=V.call' (ch:=fp) I'.os I'.base I'.hok I'.bare λb O=>by
    obtain⟨_,q1,q2,q3,q4,q5⟩:=f2 b O;exact⟨q3,q1,q4,q5⟩
   obtain⟨m,hn,_⟩:=I'.loc;have an:H' C=none:=I'.free;exact fin D C H' s' m I5 q hn (λax ao=>I5.turned (t':=s'.toks) (λb o O e=>ao.extBut b o O e) an CL (.inr ak) Cc Cp) CL Cc an Cp ak) IB am n4 w0
 exact codeAny_compStart_list aa$ T.self _ 0 _ _ _ am aa
theorem zA6{pos:Pos}{N:List Str}{ix:List (Option Nat)}(S:X.calm=true)(B:iR X scope)(V:d_ X scope N ix)(hi:PI X tg iter wi)
  (W:∀C s₀ H₀ ex,PG (X.block scope C s₀ H₀ ex N) tg g) (ht:∀C s₀ H₀ ex,PTs (X.block scope C s₀ H₀ ex N) ifs tt) (he:∀C s₀ H₀ ex,PE (X.block scope C s₀ H₀ ex N) elt te)
  (hs:∀x,foldedSetIterable iter X.env x=pure x:=by intro _;rfl):PE X (.ListComp elt [⟨tg,iter,ifs,0⟩] scope pos) (uc wi ix g tt te):=by
 intro pins s σ H Q I h;rw[eval_ListComp];exact kU (use:=none) S B V hi W ht he hs I h λD C H' s' m I' q hn k _ _ _ _ _=>⟨m,hn,λh' O=>⟨.ref D,H',k h' O,rF,q⟩⟩
theorem zI9{pos S O:Pos}{N:List Str}{ix:List (Option Nat)}{i:Nat}{y:Str}(hc:X.calm=true)(B:iR X scope)(Dr:d_ X scope N ix)(hi:PI X tg iter wi)
  (hg:∀C s₀ H₀ ex,PG (X.block scope C s₀ H₀ ex N) tg g) (ht:∀C s₀ H₀ ex,PTs (X.block scope C s₀ H₀ ex N) ifs tt) (he:∀C s₀ H₀ ex,PE (X.block scope C s₀ H₀ ex N) elt te)
  (hN:X.N.Nodup) (hy:X.N[i]?=some y) (hl:X.env.scope.names.lookup y=some .local)
  (W:swapsWith (.ListComp elt [⟨tg,iter,ifs,0⟩] scope pos) (some$ .Name y O) S.line X.env=pure true:=by rfl)
  (hs:∀x,foldedSetIterable iter X.env x=pure x:=by intro _;rfl):PS X (.Assign [.Name y O] (.ListComp elt [⟨tg,iter,ifs,0⟩] scope pos) S) (uA (uc wi ix g tt te)$ gz i):=by
 intro pins s σ H Dn I h;rw[exec_Assign_Name_used _ _ _ _ W];refine qAA$ qCT$ qAA ?_;show wpAny _ X.A (do let _<-comprehension (.ListComp elt [⟨tg,iter,ifs,0⟩] scope pos) scope X.env _ (newList []) false (eval iter X.env) (some$ assign (.Name y O) X.env)) _ _ s;refine qAA$ thn (kU (use:=some$ assign (.Name y O) X.env) (Z:=λ_ s'=>SP X pins Dn .next s') hc B Dr hi hg ht he hs I h λD C H' s' m I' q hn k CL Cc C0 Cp CX=>?_) λ_ s' hq=>qAE$ qAE hq;show wpAny _ _ (assign (.Name y O) X.env$ .ref D) _ _ s';refine wpAny_assign_Name$ iu I' hN hy (.inl hl) (v:=.ref D) rF (λV aa ⟨a,sb,ha⟩=>?_)$ .inr hl
 have aC:C≠a:=by
  rcases ha with z|z
  .rw [z];exact CL
  .exact (Cc _ _ z).symm
 exact⟨m,hn.sameBut sb aC,λh' ab=>⟨_,H',aa.turned (t':=V.toks) (λb o hb e=>ab.extBut b o hb e) C0 CL (.inr CX) Cc Cp,q⟩⟩
theorem oh{J:It}{ix:List (Option Nat)}{Q:VK}{σ:St}{H1:Hp}{D:Addr}(xs:List V)(Pv:Nat->List V->St->Hp->Prop)(h0:Pv 0 [] (zCr σ ix) (upd H1 D$ .lst []))
  (hJ:∀i ys S H,Pv i ys S H->(∀x,xs[i]?=some x->J.go i H/\∀y H',J.yld i H y H'->H'=H/\y=x)/\(i=xs.length->J.stop i H))
  (hs:∀i x ys S H,xs[i]?=some x->Pv i ys S H->g x S H λO H4=>tt O H4 λb H5=>if b=true then te O H5 λv H6=>H6 D=some (.lst ys)/\ys.length<sizeLine/\Pv (i+1) (ys++[v]) O (upd H6 D$ .lst$ ys++[v]) else Pv (i+1) ys O H5)
  (hd:∀ys S H,Pv xs.length ys S H->Q (.ref D) H) :
  ∃W:Nat->Nat->List V->St->Hp->Prop,(∃m,W 0 m [] (zCr σ ix) (upd H1 D$ .lst []))/\∀i m ys S H2,W i m ys S H2 ->
   (J.stop i H2/\Q (.ref D) H2)\/(J.go i H2/\∃N:List V->St->Hp->Prop,(∀aa O H',N aa O H'->∃m',m'<m/\W (i+1) m' aa O H')/\∀x H3,J.yld i H2 x H3->g x S H3 λO H4=>tt O H4 λb H5=>if b=true then te O H5 λv H6=>H6 D=some (.lst ys)/\ys.length<sizeLine/\N (ys++[v]) O (upd H6 D$ .lst$ ys++[v]) else N ys O H5):=by
 refine⟨λi m ys S H=>m=xs.length-i/\i<=xs.length/\Pv i ys S H,⟨xs.length,sS,qAm _,h0⟩,?_⟩;rintro i m ys S H ⟨rfl,hi,p⟩;obtain⟨j1,j2⟩:=hJ i ys S H p
 by_cases hlt:i<xs.length
 .have hx:xs[i]?=some xs[i]:=by simp[hlt]
  obtain⟨go,yl⟩:=j1 _ hx;refine .inr ⟨go,Pv$ i+1,λaa O H' p'=>⟨xs.length-(i+1),lL,rF,hlt,p'⟩,λy H' yd=>?_⟩;obtain⟨e1,e2⟩:=yl y H' yd;subst e1 e2;exact hs i _ ys S _ hx p
 .have e:i=xs.length:=lL
  subst e;exact .inl ⟨j2 rF,hd ys S H p⟩
def tZ(scope sc:Scope):Bool:=(scope.kind== .function)&&(scope.names.all (λy=>scope.names.all λz=>y.2 != .cell||z.2 != .free||y.1 != z.1)&&scope.names.all (λy=>y.2 != .cell||scope.names.lookup y.1==some .cell))&&scope.names.all (λy=>y.2 != .free||sc.names.lookup y.1==some .cell||sc.names.lookup y.1==some .free)&&scope.names.all (λy=>y.2 != .local||scope.names.lookup y.1==some .local)
theorem zBe{scope sc:Scope}(S:X.env.scope=sc)(h:tZ scope sc=true):iR X scope:=by
 unfold tZ at h;simp only[qBn,qBB,qCf]at h;obtain⟨⟨⟨h1,h2,h5⟩,h3⟩,h4⟩:=h;refine⟨by simpa using h1,λy O z V W e2=>?_,λy O e=>?_,λy O e=>?_,λy O e=>?_⟩
 .rcases h2 y O z V with(q|q)|q
  .rw [W]at q;simp at q
  .rw [e2]at q;simp at q
  .simpa using q
 .rcases h5 y O with q|q
  .rw [e]at q;simp at q
  .simpa using q
 .have q:=h3 y O;show X.env.scope.names.lookup y.1=some .cell\/X.env.scope.names.lookup y.1=some .free;rw[S];rcases q with(q|q)|q
  .rw [e]at q;simp at q
  .exact .inl (by simpa using q)
  .exact .inr (by simpa using q)
 .have q:=h4 y O;rcases q with q|q
  .rw [e]at q;simp at q
  .simpa using q
def yI(scope sc:Scope):Scope:={scope with names:=scope.names.map λ(n,k)=>if(k== .free&&sc.kind== .function&&sc.names.lookup n==some .cell) then(n,.cell) else(n,k)}
theorem n6{S:Env}{O scope sc:Scope}(V:X.env.scope=relabel O S)(h0:S.scope=sc)(h:tZ scope (yI O sc)=true):iR X scope :=
 zBe (sc:=yI O sc) (by rw[V];subst h0;rfl) h
def Its(z:Str):It:=⟨λi _=>i<z.cps.size,λi H x H'=>H'=H/\∃c,z.cps[i]?=some c/\x= .str ⟨#[c]⟩,λi _=>z.cps.size<=i⟩
theorem sB{P:Program}{w:World}{K:PySem.W.Frag}(O:Addr)(z:Str)(t:Tok)(ty:String)(S:ty="str_ascii_iterator"\/ty="str_iterator"):ig P w K tg (Its z) [O] O (λi h=>h.IsStrIter O ty z t i) where
 mem:=sS
 obj:=λi h st b V=>by
  have e:b=O:=by simpa using V
  subst e;obtain⟨o,e,c,d⟩:=st;exact⟨o,e,λv z=>by rw[d]at z;cases z⟩
 keep:=λi h h' st k=>by
  obtain⟨o,e,c,d⟩:=st;exact⟨o,k O sS o e,c,d⟩
 item:=by
  intro X hP hw hK hc i pins s σ H E I hf st hg;subst hP hw hK;obtain⟨f0,f1,f2,f3,f4,f5⟩:=hf O sS;have ab:i<z.cps.size:=hg;have W:z.cps[i]?=some z.cps[i]:=by simp[ab]
  have fin:∀h':Heap,h'.IsStrIter O ty z t (i+1)->Heap.SameBut O s.heap h'->∃u,some (Value.str ⟨#[z.cps[i]]⟩ s.toks)=some u /\
    wpAny (model X.prog X.w) X.A (letOwnedTupleGo tg (.ref O) u) (λ_ s2=>∃x H',Inv X pins σ H' s2/\eE x u/\(Its z).yld i H x H'/\s2.heap.IsStrIter O ty z t (i+1)/\∀b∈[O],H' b=none) E {s with heap:=h',toks:=s.toks+1}:=λh' aa sb=>by
   have I1:Inv X pins σ H {s with heap:=h',toks:=s.toks+1}:=I.turned (t':=s.toks+1) (λb o V e=>(sb.2 b V).trans e) f0 f1 f3 f4 f5;obtain⟨o,e,c,d⟩:=id aa;exact⟨_,rF,mB (s:={s with heap:=h',toks:=s.toks+1}) e c d (by rcases S with rfl|rfl<;>decide) ⟨.str ⟨#[z.cps[i]]⟩,H,I1,⟨_,rF⟩,⟨rF,_,W,rF⟩,aa,λb V=>(hf b V).1⟩⟩
  rcases S with rfl|rfl
  .exact wpAny_pyNext_ascii_item st W fin
  .exact wpAny_pyNext_wide_item st W fin
 done:=by
  intro X hP hw hK hc i pins s σ H E I hf st hg;subst hP hw hK;obtain⟨f0,f1,f2,f3,f4,f5⟩:=hf O sS;have ad:z.cps.size<=i:=hg;have W:z.cps[i]?=none:=by simp[ad]
  have fin:∀h':Heap,Heap.ExtBut O s.heap h'->(none:Option Value)=none/\Inv X pins σ H {s with heap:=h'}:=λh' eb=>⟨rF,I.turned (t':=s.toks) (λb o V e=>eb b o V e) f0 f1 f3 f4 f5⟩;rcases S with rfl|rfl
  .exact wpAny_pyNext_ascii_end (I.ok.hd hc) st W fin
  .exact wpAny_pyNext_wide_end (I.ok.hd hc) st W fin
 self:=λ_ _ _ _ _ st h=>by
  rcases S with rfl|rfl
  .exact wpAny_pyIter_striter_ascii st h
  .exact wpAny_pyIter_striter_wide st h
inductive we(R:It->Hp->Prop)(x:V)(H1:Hp):Prop
 |mk:∀z,x= .str z->R (Its z) H1->we R x H1
def yW(tl:TE):TI:=λσ H R=>tl σ H λx H1=>we R x H1
theorem mQ{l:Expr}{tl:TE}(hl:PE X l tl):PI X tg l (yW tl):=by
 intro pins s σ H R I h;refine thn (hl pins s σ H _ I h) λv S ⟨x,H1,O,r1,q1⟩=>?_;obtain⟨z,e,q⟩:=q1;subst e;obtain⟨t,rfl⟩:=r1
 have fin:∀(ty:String),(ty="str_ascii_iterator"\/ty="str_iterator")->PIE X pins σ tg R (.ref S.heap.objs.size) {S with heap:=S.heap.push {cls:=.type ty,data:=.fields #[.str z t,.int 0 0]}}:=λty V=>
  ⟨S.heap.objs.size,[S.heap.objs.size],_,_,H1,rF,O.kept (t':=S.toks) λb o e=>qAL _ e,sB _ z t ty V,⟨_,qAg _ rF,rF,rF⟩,λb hb=>by
   have e:b=S.heap.objs.size:=by simpa using hb
   subst e;exact O.fpOk (qAF _)$ O.hok.fresh$ qAF _,q⟩
 cases W:z.cps.all (·<128)
 .exact wpAny_pyIter_wide W$ fin _$ .inr rF
 .exact wpAny_pyIter_ascii W$ fin _$ .inl rF
theorem vM{bs:List Bool}{its:List Value}(r:eB (bs.map V.bl) its){i:Nat}{v:Value}(h:its[i]?=some v):v= .bool (bs.getD i false)/\i<bs.length:=by
 have W:=r.length;rw[qAB]at W;have hi:i<its.length:=(qAa.mp h).1;have O:i<bs.length:=lL
 have e:(bs.map V.bl)[i]?=some (V.bl bs[i]):=by simp[O]
 obtain⟨u,S,ru⟩:=r.get e;rw[h]at S
 cases S
 refine⟨?_,O⟩;have:v= .bool bs[i]:=ru;rw[this,qBN];simp[O]
theorem qA(bs:List Bool):(List.range bs.length).all (λi=>bs.getD i false)=bs.all id:=by
 rw[qCV];simp only[qBB,qAz];constructor
 .intro h x O;obtain⟨i,hi,rfl⟩:=qBG.mp O;have:=h i hi;simpa[qBN,hi]using this
 .intro h i hi;have:=h bs[i]$ qC9 hi;simpa[qBN,hi]using this
theorem zHe(X:Cx)(W:X.calm=true):zC4 X (.builtin "all") (λxs H Q=>∃(p:Addr)(bs:List Bool),xs=[.ref p]/\SqL X.K H p (bs.map V.bl)/\Q (.bl$ bs.all id) H):=by
 intro pins s σ H xs us Q I rv h;obtain⟨p,bs,rfl,hq,q⟩:=h;obtain⟨u,rfl,ru⟩:=rv.one
 cases ru
 obtain⟨its,r,pl,hz⟩:=I.list hq;have S:=r.length;rw[qAB]at S;refine call_all_walk$ qC1 pl.isList ?_;have hp:p<s.heap.objs.size:=by obtain⟨o,n,e,_⟩:=pl;exact qAW e
 have I1:Inv X pins σ H {s with heap:=s.heap.push {cls:=.type "list_iterator",data:=.fields #[.ref p,.int 0 0]}}:=I.kept (t':=s.toks) λb o e=>qAL _ e;refine⟨s.heap.objs.size,_,_,_,_,_,λi=>bs.getD i false,rF,Walks.list (A:=X.A.in1) (show X.A.in1.handled=none from I.ok.hd W) s.heap.objs.size p (qAe hp) its.toArray,⟨⟨_,qAg _ rF,rF,rF⟩,pl.isList.at λo e=>qAL _ e⟩,?_,λh' tk hk=>?_⟩
 .intro i v s' E' Q' hv O;obtain⟨rfl,_⟩:=vM r (by simpa using hv);exact qBO O
 .have e:(List.range its.toArray.size).all (λi=>bs.getD i false)=bs.all id:=by
   rw[qAT,<-S];exact qA bs
  refine⟨.bl$ bs.all id,H,?_,by rw[e];rfl,q⟩;obtain⟨f0,f1,f2,f3,f4,f5⟩:=I.fpOk (b:=s.heap.objs.size) (qAF _)$ I.hok.fresh$ qAF _;exact I1.turned (t':=tk) (λb o hb e=>hk b o (by simpa using hb) e) f0 f1 f3 f4 f5
theorem zB2 :zC4 X (.builtin "isinstance") (λxs H Q=>∃x n t b,xs=[x,.ty n]/\fL X.K H x t/\PySem.W.kitOne X.K t (.type n)=some b/\Q (.bl b) H):=by
 intro pins s σ H xs us Q I V h;obtain⟨x,n,t,b,rfl,ty,e,q⟩:=h;obtain⟨u,c,rfl,O,S⟩:=V.two
 cases (show c=Value.type n from S)
 exact qv I O ty e λtk=>⟨.bl b,H,I.tok tk,rF,q⟩
theorem zGz :OpR X (compareOp .LtE) (λx y H Q=>∃i j,x= .str i/\y= .str j/\Q (.bl$ !(decide$ j.cps.toList<i.cps.toList)) H):=by
 intro pins s σ H x y v u Q I O S h;obtain⟨i,j,rfl,rfl,q⟩:=h;obtain⟨t,rfl⟩:=O;obtain⟨t',rfl⟩:=S;exact PySem.P.le_str ⟨.bl _,H,I,rF,q⟩
theorem zKb:∀{ts:List Str}{us:List Value},eB (ts.map V.str) us->StrsAre us ts
 |[],_,.nil=>.nil
 |t::ts,_,.cons r O=>by
  obtain⟨tk,rfl⟩:=r;exact .cons _ _$ zKb O
inductive rT(K:PySem.W.Frag)(x:V)(vs:List V)(H:Hp)(Q:VK):Prop
 |mk:∀sep p ts,x= .str sep->vs=[.ref p]->SqL K H p (ts.map V.str)->(ts.map (·.length)).sum+ts.length*sep.length<=16777216->Q (.str$ Txt.join sep ts) H->rT K x vs H Q
theorem zGc :MtR X "str.join" (rT X.K):=by
 intro pins s σ H x vs v us Q I O V h;obtain⟨sep,p,ts,rfl,rfl,S,W,q⟩:=h;obtain⟨t,rfl⟩:=O;obtain⟨u,rfl,ru⟩:=V.one
 cases ru
 obtain⟨its,r,pl,_⟩:=I.list S;exact PyProof.Rows.join_list pl.isList (by simpa using zKb r) W λt' k=>⟨.str _,H,I.tok k,⟨_,rF⟩,q⟩
theorem zGh:∀(k:Nat)(ts:List Str),eB (ts.map V.str) (strsFrom k ts)
 |_,[]=>.nil
 |k,t::ts=>.cons ⟨k,rF⟩ (zGh (k+1) ts)
inductive uq(x:V)(vs:List V)(H:Hp)(Q:VK):Prop
 |mk:∀z sep,x= .str z->vs=[.str sep]->1<=sep.length->z.length<=1000000->(∀l,H l=none->Q (.ref l) (upd H l$ .lst$ (Txt.split z sep).map V.str))->uq x vs H Q
theorem zG2 :MtR X "str.split" uq:=by
 intro pins s σ H x vs v us Q I rx rv h;obtain⟨z,sep,rfl,rfl,h1,hz,q⟩:=h;obtain⟨t,rfl⟩:=rx;obtain⟨u,rfl,ru⟩:=rv.one;obtain⟨t',rfl⟩:=ru;have hs:sizeLine=16777216:=qAM;have aa:=PyProof.Rows.split_le z sep;have W:(sep.length==0)=false:=by simp;lia
 have key:∀{its:List Value}{tk:Nat},eB ((Txt.split z sep).map V.str) its->EP X pins σ Q (.ref s.heap.objs.size) {s with heap:=s.heap.push {cls:=.type "list",data:=.seq its.toArray},toks:=tk}:=λ{its tk} r=>
  ⟨.ref s.heap.objs.size,_,I.lnew (t':=tk) r (by rw[qAB,hs];lia),rF,q _$ I.hok.fresh$ qAF _⟩
 cases O:(decide (z.length<sep.length)||decide (Builtin.Str.strKind z<Builtin.Str.strKind sep))
 .cases S:(Builtin.Str.occurrences z sep 0 z.length$ z.length+1).isEmpty
  .have e:Txt.split z sep=Builtin.Str.partsBetween z (Builtin.Str.occurrences z sep 0 z.length$ z.length+1) sep.length:=(qAC$ ne_true_of_eq_false O).trans$ qAC$ ne_true_of_eq_false S;refine qBR F.slot_str_split (qBx _ _ _) F.entry_str_split (F.args_str_split_2 _ _) (meets_str_split_sep z sep t t' O W S lL$ by rw[<-e,hs];lia) ?_;rw[<-e];exact key$ zGh _ _
  .have e:Txt.split z sep=[z]:=(qAC$ ne_true_of_eq_false O).trans$ qAD S;refine qBR F.slot_str_split (qBx _ _ _) F.entry_str_split (F.args_str_split_2 _ _) (meets_str_split_not_found z sep t t' O W S) ?_;rw[e]at key;exact key (its:=[.str z t]) (tk:=s.toks)$ .cons ⟨t,rF⟩ .nil
 .have e:Txt.split z sep=[z]:=qAD O;refine qBR F.slot_str_split (qBx _ _ _) F.entry_str_split (F.args_str_split_2 _ _) (meets_str_split_cannot_occur z sep t t' O) ?_;rw[e]at key;exact key (its:=[.str z t]) (tk:=s.toks)$ .cons ⟨t,rF⟩ .nil
inductive gk(K:PySem.W.Frag)(H:Hp):Nat->V->V->Prop
 |flat {n:Nat} {x:V} (fx:zGe x=true):gk K H n x x
 |same {n:Nat} {a:Addr}:gk K H n (.ref a) (.ref a)
 |lists {n:Nat} {a b:Addr} {xs ys:List V} (hx:SqL K H a xs) (hy:SqL K H b ys) (hl:xs.length=ys.length) (he:∀(i:Nat)(x y:V),xs[i]?=some x->ys[i]?=some y->gk K H n x y):gk K H (n+1) (.ref a) (.ref b)
 |tups {n:Nat} {a b:Addr} {xs ys:List V} (hx:SqT K H a xs) (hy:SqT K H b ys) (hl:xs.length=ys.length) (he:∀(i:Nat)(x y:V),xs[i]?=some x->ys[i]?=some y->gk K H n x y):gk K H (n+1) (.ref a) (.ref b)
theorem rZ{x:V}(h:zGe x=true):eqV x x=true:=by
 cases x<;>simp[eqV]<;>simp[zGe]at h
section
variable{X:Cx}{pins:List (Addr×Obj)}{σ:St}{H:Hp}{s:Shared}
theorem zIv(n:Nat):(List.range n).all (λ_=>true)=true:=by simp
theorem sh(I:Inv X pins σ H s){x y:V}(h:gk X.K H n x y):∀{u v:Value}{A:Around},eE x u->eE y v->A.units+n<cLine->SeqAt.EqAt A s u v true:=by
 induction h with
 |flat fx=>
  intro u v A ru rv _;have q:=ue (A:=A) (s:=s) ru rv fx fx
  rwa [rZ fx]at q
 |same=>
  intro u v A ru rv _
  cases ru
  cases rv
  exact qC5 _
 |@lists n a b xs ys hx hy hl he ih=>
  intro u v A ru rv hu
  cases ru
  cases rv
  by_cases ab:a=b
  .subst ab;exact qC5 _
  .obtain ⟨its,r,pl,hz⟩:=I.list hx;obtain⟨O,r2,aa,af⟩:=I.list hy;have e1:=r.length;have e2:=r2.length
   have q:=SeqAt.RcAt.lists (A:=A) (s:=s) (e:=λ_=>true) pl.isList aa.isList (by rw[qAT,qAT];lia) lL (λj h1 h2=>by
    rw[qAT]at h1 h2;have S:xs[j]?=some (xs[j]' lL):=sS
    have W:ys[j]?=some (ys[j]' lL):=sS
    obtain⟨u1,q1,ad⟩:=r.get S;obtain⟨v1,q2,ae⟩:=r2.get W
    have e3:its.toArray[j]=u1:=by
     have:its[j]?=some its[j]:=sS
     rw[this]at q1;simpa using q1
    have e4:O.toArray[j]=v1:=by
     have:O[j]?=some O[j]:=sS
     rw[this]at q2;simpa using q2
    rw[e3,e4];exact ih j _ _ S W ad ae$ by show A.units+1+n<cLine;lia)
   rw[zIv]at q;exact SeqAt.EqAt.of_refs ab q
 |@tups n a b xs ys hx hy hl he ih=>
  intro u v A ru rv hu
  cases ru
  cases rv
  by_cases ab:a=b
  .subst ab;exact qC5 _
  .obtain ⟨its,r,pl,hz⟩:=I.tuple hx;obtain⟨O,r2,aa,af⟩:=I.tuple hy;have e1:=r.length;have e2:=r2.length
   have q:=SeqAt.RcAt.tuples (A:=A) (s:=s) (e:=λ_=>true) (show s.heap.IsTuple a its.toArray from pl) (show s.heap.IsTuple b O.toArray from aa) lL (λj h1 h2=>by
    rw[qAT]at h1 h2;have S:xs[j]?=some (xs[j]' lL):=sS
    have W:ys[j]?=some (ys[j]' lL):=sS
    obtain⟨u1,q1,ad⟩:=r.get S;obtain⟨v1,q2,ae⟩:=r2.get W
    have e3:its.toArray[j]=u1:=by
     have:its[j]?=some its[j]:=sS
     rw[this]at q1;simpa using q1
    have e4:O.toArray[j]=v1:=by
     have:O[j]?=some O[j]:=sS
     rw[this]at q2;simpa using q2
    rw[e3,e4];exact ih j _ _ S W ad ae$ by show A.units+1+n<cLine;lia)
   rw[zIv,qBH,qAT,qAT,<-e1,<-e2,hl,beq_self_eq_true]at q;exact SeqAt.EqAt.of_refs ab q
theorem zJw(I:Inv X pins σ H s){xs ys:List V}{its O:List Value}{A:Around}(r:eB xs its)(r2:eB ys O)(he:∀(i:Nat)(x y:V),xs[i]?=some x->ys[i]?=some y->gk X.K H n x y)(hu:A.units+n<cLine) :
  ∀j (h1:j<its.toArray.size) (h2:j<O.toArray.size),SeqAt.EqAt A s its.toArray[j] O.toArray[j] true:=λj h1 h2=>by
 have e1:=r.length;have e2:=r2.length;rw[qAT]at h1 h2;have S:xs[j]?=some (xs[j]' lL):=sS
 have W:ys[j]?=some (ys[j]' lL):=sS
 obtain⟨u1,q1,aa⟩:=r.get S;obtain⟨v1,q2,ab⟩:=r2.get W
 have e3:its.toArray[j]=u1:=by
  have:its[j]?=some its[j]:=sS
  rw[this]at q1;simpa using q1
 have e4:O.toArray[j]=v1:=by
  have:O[j]?=some O[j]:=sS
  rw[this]at q2;simpa using q2
 rw[e3,e4];exact sh I (he j _ _ S W) aa ab hu
end
inductive fP(K:PySem.W.Frag)(n:Nat)(b:Bool)(x:V)(y:V)(H:Hp)(Q:VK):Prop
 |mk:∀a c xs ys,x= .ref a->y= .ref c->SqL K H a xs->SqL K H c ys->xs.length=ys.length->(∀(i:Nat)(x y:V),xs[i]?=some x->ys[i]?=some y->gk K H n x y)->Q (.bl b) H->fP K n b x y H Q
inductive fQ(K:PySem.W.Frag)(b:Bool)(x:V)(y:V)(H:Hp)(Q:VK):Prop
 |mk:∀a c xs ys,x= .ref a->y= .ref c->SqL K H a xs->SqL K H c ys->xs.length≠ys.length->Q (.bl b) H->fQ K b x y H Q
section
variable{X:Cx}
theorem xa(hu:X.A.units+1+n<cLine):OpR X (compareOp .Eq) (fP X.K n true):=by
 intro pins s σ H x y v u Q I W ry h;obtain⟨a,c,xs,ys,rfl,rfl,hx,hy,hl,he,q⟩:=h
 cases W
 cases ry
 obtain⟨its,r,pl,hz⟩:=I.list hx;obtain⟨S,V,O,aa⟩:=I.list hy;have e1:=r.length;have e2:=V.length;refine SeqAt.eq_listAt (e:=λ_=>true) pl.isList O.isList (by rw[qAT,qAT];lia) lL (zJw I r V he$ by show X.A.units+1+n<cLine;lia) ?_;rw[zIv];exact⟨.bl true,H,I,rF,q⟩
theorem wZ(hu:X.A.units+1+n<cLine):OpR X (compareOp .NotEq) (fP X.K n false):=by
 intro pins s σ H x y v u Q I W ry h;obtain⟨a,c,xs,ys,rfl,rfl,hx,hy,hl,he,q⟩:=h
 cases W
 cases ry
 obtain⟨its,r,pl,hz⟩:=I.list hx;obtain⟨S,V,O,aa⟩:=I.list hy;have e1:=r.length;have e2:=V.length;refine SeqAt.RcNeAt.lists (e:=λ_=>true) pl.isList O.isList (by rw[qAT,qAT];lia) lL (zJw I r V he$ by show X.A.units+1+n<cLine;lia) X.prog X.w X.xe _ ?_;rw[zIv];exact⟨.bl false,H,I,rF,q⟩
theorem x5(V:X.A.units<cLine):OpR X (compareOp .Eq) (fQ X.K false):=by
 intro pins s σ H x y v u Q I W ry h;obtain⟨a,c,xs,ys,rfl,rfl,hx,hy,hl,q⟩:=h
 cases W
 cases ry
 obtain⟨its,r,pl,hz⟩:=I.list hx;obtain⟨S,r2,O,aa⟩:=I.list hy;have e1:=r.length;have e2:=r2.length;exact SeqAt.eq_list_lengthsAt pl.isList O.isList (by rw[qAT,qAT];simp;lia) V ⟨.bl false,H,I,rF,q⟩
theorem OpR.either{f:Value->Value->Sem Value}{r O:R2}(h:OpR X f r)(h':OpR X f O):OpR X f (λx y H Q=>r x y H Q\/O x y H Q):=by
 intro pins s σ H x y v u Q I S V q;rcases q with q|q
 .exact h pins s σ H x y v u Q I S V q
 .exact h' pins s σ H x y v u Q I S V q
end
end L2
namespace SM
open PySem PySem.StrLaws PySem.Builtin PySem.Builtin.Str
variable{x sep:Str}{c d:Nat}
def glue(S:List Nat):List (List Nat)->List Nat
 |[]=>[]
 |[p]=>p
 |p::q::r=>p++S++glue S (q::r)
theorem glue_cons(S p:List Nat)(q:List Nat)(r:List (List Nat)):glue S (p::q::r)=p++S++glue S (q::r):=rfl
structure Own(S:List Nat)(c d:Nat):Prop where
 at_:S[d]?=some c
 one:∀j,S[j]?=some c->j=d
theorem rH{k:Nat}(O:Own sep.cps.toList c d)(h:x.cps.toList[k+d]?≠some c):¬At x sep x.length k:=by
 intro⟨h1,h2⟩;rw[subAt_eq]at h2;have h3:(x.cps.toList.drop k).take sep.length=sep.cps.toList:=by simpa using h2
 apply h;have S:d<sep.cps.toList.length:=(qAa.mp O.at_).1
 have e:(x.cps.toList.drop k)[d]?=some c:=by
  rw[<-qCZ (j:=sep.length) (by simpa[Str.length]using S),h3];exact O.at_
 rw[qCg]at e;exact e
theorem at_of{P R:List Nat}(h:x.cps.toList=P++(sep.cps.toList++R)):At x sep x.length P.length:=by
 have O:x.length=P.length+(sep.length+R.length):=by
  have:=qAf List.length h;simpa[Str.length]using this
 refine⟨lL,?_⟩;rw[subAt_eq,h,List.drop_left];have e:sep.length=sep.cps.toList.length:=by simp[Str.length]
 rw[e,List.take_left];simp
theorem zL4{A B:List Nat}{j:Nat}(h:(A++B)[j]?=some c):(A[j]?=some c)\/(A.length<=j/\B[j-A.length]?=some c):=by
 by_cases hj:j<A.length
 .rw [qBf hj]at h;exact .inl h
 .rw [qCB lL]at h;exact .inr ⟨lL,h⟩
theorem zKj{A:List Nat}{j:Nat}(h:A[j]?=some c):c∈A:=qAN h
theorem lh(O:Own sep.cps.toList c d):∀(parts:List (List Nat)) (P:List Nat),parts≠[]->(∀p∈parts,c∉p)->x.cps.toList=P++glue sep.cps.toList parts ->
  ∃S f,ChainG x sep x.length P.length S f/\(∀k,f<=k->¬At x sep x.length k)/\partsFrom x sep.length P.length S=parts.map λp=>(⟨p.toArray⟩:Str)
 |[],_,h,_,_=>absurd rF h
 |[p],P,_,W,e=>by
  have e:x.cps.toList=P++p:=e
  have hl:x.length=P.length+p.length:=by
   have:=qAf List.length e;simpa[Str.length]using this
  refine⟨[],P.length,rF,λk hk=>rH O λz=>?_,?_⟩
  .rw [e]at z;rcases zL4 z with z|⟨_,z⟩
   .have:=(qAa.mp z).1;lia
   .exact W p sS$ zKj z
  .show [strSub x P.length x.length]=[(⟨p.toArray⟩:Str)];congr 1;apply Str.ext';apply Array.toList_inj.mp;rw[strSub_toList,e,List.drop_left];show p.take _=p;exact qBC lL
 |p::q::r,P,_,W,e=>by
  have e:x.cps.toList=P++(p++sep.cps.toList++glue sep.cps.toList (q::r)):=e;have e2:x.cps.toList=(P++p)++(sep.cps.toList++glue sep.cps.toList (q::r)):=by rw[e];simp[qA0]
  have e3:x.cps.toList=(P++p++sep.cps.toList)++glue sep.cps.toList (q::r):=by rw[e];simp[qA0]
  obtain⟨S,f,h1,h2,h3⟩:=lh O (q::r) (P++p++sep.cps.toList) sS (λy hy=>W y$ qAS _ hy) e3;have hA:At x sep x.length (P++p).length:=at_of e2;have V:(P++p++sep.cps.toList).length=P.length+p.length+sep.length:=by simp[Str.length];lia
  have aa:(P++p).length=P.length+p.length:=sS
  rw[V]at h1 h3;rw[aa]at hA;refine⟨(P.length+p.length)::S,f,⟨lL,hA,λk hk ab=>rH O λz=>?_,h1⟩,h2,?_⟩
  .rw [e]at z;rcases zL4 z with z|⟨_,z⟩
   .have:=(qAa.mp z).1;lia
   .rw [qA0]at z;rcases zL4 z with z|⟨h5,z⟩
    .exact W p sS$ zKj z
    .have hd:d<sep.cps.toList.length:=(qAa.mp O.at_).1;rcases zL4 z with z|⟨h6,_⟩
     .have:=O.one _ z;lia
     .lia
  .show strSub x P.length (P.length+p.length)::partsFrom x sep.length (P.length+p.length+sep.length) S=_;rw[h3];show _=(⟨p.toArray⟩:Str)::_;congr 1;apply Str.ext';apply Array.toList_inj.mp;rw[strSub_toList,e,List.drop_left];have e4:P.length+p.length-P.length=p.length:=lL
   rw[e4,qA0,List.take_left]
theorem i9(hw:1<=sep.length):∀{a f W:Nat}{V O:List Nat},ChainG x sep x.length a V f->(∀k,f<=k->¬At x sep x.length k)->ChainG x sep x.length a O W->(∀k,W<=k->¬At x sep x.length k)->V=O
 |a,f,W,[],[],_,_,_,_=>rfl
 |a,f,W,[],d::r',h,hn,h',S=>by
  have e:f=a:=h;subst e;exact absurd h'.2.1$ hn d h'.1
 |a,f,W,c::r,[],h,hn,h',S=>by
  have e:W=a:=h';subst e;exact absurd h.2.1$ S c h.1
 |a,f,W,c::r,d::r',h,hn,h',S=>by
  have e:c=d:=by
   rcases Nat.lt_trichotomy c d with z|z|z
   .exact absurd h.2.1$ h'.2.2.1 c h.1 z
   .exact z
   .exact absurd h'.2.1$ h.2.2.1 d h'.1 z
  subst e;rw[i9 hw h.2.2.2 hn h'.2.2.2 S]
theorem m8{x sep:Str}(O:Own sep.cps.toList c d){parts:List (List Nat)}(h0:parts≠[])(hp:∀p∈parts,c∉p)(e:x.cps.toList=glue sep.cps.toList parts)(hk:strKind sep=1) :
  Txt.split x sep=parts.map λp=>(⟨p.toArray⟩:Str):=by
 have hd:d<sep.cps.toList.length:=(qAa.mp O.at_).1
 have hw:1<=sep.length:=by
  have:sep.length=sep.cps.toList.length:=by simp[Str.length]
  lia
 obtain⟨S,f,h1,h2,h3⟩:=lh O parts [] h0 hp (by simpa using e);obtain⟨f',g1,g2⟩:=occ_tight x sep hw;have W:occurrences x sep 0 x.length (x.length+1)=S:=i9 hw g1 g2 h1 h2
 have one:S=[]->[x]=parts.map λp=>(⟨p.toArray⟩:Str):=λz=>by
  subst z;rw[<-h3];show[x]=[strSub x 0 x.length];rw[sub_whole]
 unfold Txt.split;split
 .rename_i V;refine one ?_;rw[qCf,qA1,qA1]at V;rcases V with V|V
  .cases S with
   |nil=>rfl
   |cons a r=>have:=h1.2.1.1;lia
  .rw [hk]at V;unfold PySem.Builtin.Str.strKind at V;split at V
   .lia
   .split at V<;>lia
 .split
  .rename_i he;rw[W]at he;exact one$ List.isEmpty_iff.mp he
  .rw [W,partsBetween_eq];exact h3
theorem glued_toList(sep:Str):∀parts:List Str,(glued sep parts).cps.toList=glue sep.cps.toList (parts.map λp=>p.cps.toList)
 |[]=>rfl
 |[p]=>rfl
 |p::q::r=>by
  have O:=glued_toList sep$ q::r;rw[glued_eq_join]at O ⊢;show(p++sep++Str.join sep (q::r)).cps.toList=_;simp only[qCh,qCF];rw[O];rfl
theorem split_glued(O:Own sep.cps.toList c d){parts:List Str}(h0:parts≠[])(S:∀p∈parts,c∉p.cps.toList)(V:strKind sep=1):Txt.split (glued sep parts) sep=parts:=by
 have h:=m8 (x:=glued sep parts) O (parts:=parts.map λp=>p.cps.toList) (by simpa using h0) (by
  intro p W;obtain⟨q,hq,rfl⟩:=qAG.mp W;exact S q hq) (glued_toList sep parts) V
 rw[h,qAb]
 conv=>rhs;rw[<-List.map_id parts]
 exact qBU λp _=>by
  show(⟨p.cps.toList.toArray⟩:Str)=p;simp
end SM
namespace L2
open PySem PySem.Spec PyProof.Rows
variable{M:List Addr}{H H1 H':Hp}{a D:Addr}{σ:St}{ix:List (Option Nat)}{g:TG}{tt:TT}{te:TE}{QD:Hp->Prop}
structure Cal(P:Program)(w:World)(K:PySem.W.Frag)(mg:Str->Option Value)(base:Heap)(x:Str)(k:Nat)(ps:List Str)(sp:Sp):Prop where
 to:∃(f:Addr)(fd:FuncData),mg x=some (.ref f)/\PySem.W.keepIn K (.ref f)=true/\zDy K fd ps []/\eC P w K mg base CX0 k f fd ps sp
theorem zAf{X:Cx}{x:Str}{k:Nat}{ps:List Str}{sp:Sp}{e:Expr}{es:List Expr}{p pos:Pos}{t:TA}(C:Cal X.prog X.w X.K X.mg X.base x k ps sp)(V:eR k X.A)(W:Gl X x)(ha:PA X (e::es) t)
  (O:(x==("__debug__": Str))=false:=by decide) (he:starEach (e::es) X.env=(false,eval e X.env)::starEach es X.env:=by rfl) (S:(backTo pos$ starEach es X.env).any (·.1)=false:=by rfl) :
  PE X (.Call (.Name x p) (e::es) [] pos) (rD sp [] E0 t):=by
 obtain⟨f,fd,h1,h2,h3,h4⟩:=C.to;exact pR h4 V W h1 h2 h3 .nil iq ha O he S
theorem rK:bootBuiltins "max"=some (.builtin "max"):=by decide +kernel
theorem gK:bootBuiltins "all"=some (.builtin "all"):=by decide +kernel
theorem zA3:bootBuiltins "isinstance"=some (.builtin "isinstance"):=by decide +kernel
theorem qM:bootBuiltins "sorted"=some (.builtin "sorted"):=by decide +kernel
theorem sY:bootBuiltins "sum"=some (.builtin "sum"):=by decide +kernel
theorem zCc:bootBuiltins "len"=some (.builtin "len"):=by decide +kernel
theorem zKu:bootBuiltins "int"=some (.type "int"):=by decide +kernel
theorem zDg:bootBuiltins "str"=some (.type "str"):=by decide +kernel
theorem zHy:bootBuiltins "list"=some (.type "list"):=by decide +kernel
theorem zHf:bootBuiltins "tuple"=some (.type "tuple"):=by decide +kernel
theorem wG:bootBuiltins "set"=some (.type "set"):=by decide +kernel
theorem uY:bootBuiltins "bool"=some (.type "bool"):=by decide +kernel
def Fre(H:Hp)(l:Addr):Prop:=H l=none
def Kp(M:List Addr)(H H':Hp):Prop:=∀b o,H b=some o->b∉M->H' b=some o
theorem Kp.refl :Kp M H H:=λ_ _ h _=>h
theorem Kp.trans{H2:Hp}(a:Kp M H H1)(b:Kp M H1 H2):Kp M H H2:=λc o h n=>b c o (a c o h n) n
theorem Kp.weak{O:List Addr}(k:Kp M H H')(s:∀b,b∈M->b∈O):Kp O H H':=λb o h n=>k b o h λz=>n$ s b z
theorem Kp.of0(k:Kp [] H H'):Kp M H H':=λb o h _=>k b o h sS
theorem Kp.new{M:List Addr}{l:Addr}{o:HO}(k:Kp M H H')(f:Fre H l):Kp M H (upd H' l o):=λb u h n=>by
 rw[a_$ zAp h f];exact k b u h n
theorem Kp.put{l:Addr}{o:HO}(k:Kp M H H')(f:l∈M):Kp M H (upd H' l o):=λb u h n=>by
 rw[a_$ by intro e;subst e;exact n f];exact k b u h n
theorem Kp.fre{M:List Addr}{l:Addr}(k:Kp M H H')(f:Fre H' l)(n:l∉M):Fre H l:=by
 unfold Fre
 cases q:H l with
 |none=>rfl
 |some o=>
  have:=k l o q n;unfold Fre at f;rw[f]at this;cases this
theorem b_{b:Addr}{o:HO}(f:Fre H b)(h:H a=some o):a≠b:=zAp h f
theorem nm1{b:Addr}(h:a≠b):a∉[b]:=by simpa using h
theorem nm2{b c:Addr}(h:a≠b)(h':a≠c):a∉[b,c]:=by simp;exact⟨h,h'⟩
theorem zAx{α:Type}{xs:List α}{i:Int}{v:α}(h0:0<=i)(h:xs[i.toNat]?=some v):atI xs i=some v:=by
 have O:i.toNat<xs.length:=(qAa.mp h).1;unfold atI ixN;rw[qAD h0,qAD lL];exact h
theorem hu2{A:Around}{k n:Nat}(O:eR k A)(h:n<=60:=by decide):A.units+1+n<cLine:=by
 have:=O.units;lia
theorem hu0{A:Around}{k:Nat}(O:eR k A):A.units<cLine:=by
 have:=O.units;lia
theorem uo{X:Cx}{k:Nat}(O:eR k X.A):OpR X (compareOp .Eq) (λx y H Q=>fP X.K 8 true x y H Q\/fQ X.K false x y H Q):=(xa$ hu2 O).either$ x5$ hu0 O
theorem zC2{K:PySem.W.Frag}{t:Value}(h:(t==t)=true:=by rfl):PySem.W.kitOne K t t=some true:=by
 unfold PySem.W.kitOne;rw[qAD h]
theorem iK(x:Str):x++Str.empty=x:=Str.append_right_empty rR
theorem zJu(x y z:Str):x++y++z=x++(y++z):=by
 apply Str.ext';simp[qCh,Array.append_assoc]
theorem zIr(sep:Str)(xs:List Str):(Txt.join sep xs).length<=(xs.map (·.length)).sum+xs.length*sep.length:=by
 show(Builtin.Str.glued sep xs).length<=_;rw[qDl];exact StrLaws.join_length_le sep xs
theorem zFv{α:Type}(f:α->Nat)(m:Nat):∀{xs:List α},(∀x∈xs,f x<=m)->(xs.map f).sum<=xs.length*m
 |[],_=>sS
 |x::r,h=>by
  have h1:=h x qAO;have h2:=zFv f m (xs:=r) λy O=>h y$ qAS _ O;simp only[qAi,List.sum_cons,qAd];rw[Nat.succ_mul];lia
theorem vt{t u:TS}{D:fW}(O:St->Hp->Prop)(h1:∀N:St->Hp->Prop,(∀σ H,O σ H->N σ H)->t {D with nx:=N} σ H)(h2:∀σ H,O σ H->u D σ H):eK t u D σ H:=h1 (u D) h2
theorem nO{tb:TS}{D:fW}{b:Bool}(O:St->Hp->Prop)(h1:∀N:St->Hp->Prop,(∀σ H,O σ H->N σ H)->if b=true then tb {D with nx:=N} σ H else N σ H)(h2:∀σ H,O σ H->D.nx σ H) :
  if b=true then tb D σ H else wm D σ H:=h1 D.nx h2
theorem zBs{K:PySem.W.Frag}{tt:TT}(xs:List V)(Pv:Nat->List V->St->Hp->Prop)(h0:Pv 0 [] (zCr σ ix) (upd H1 D$ .lst []))
  (hl:∀i ys S H,Pv i ys S H->SqL K H a xs)
  (hs:∀i x ys S H,xs[i]?=some x->Pv i ys S H->g x S H λO H4=>tt O H4 λb H5=>if b=true then te O H5 λv H6=>H6 D=some (.lst ys)/\ys.length<sizeLine/\Pv (i+1) (ys++[v]) O (upd H6 D$ .lst$ ys++[v]) else Pv (i+1) ys O H5)
  (hd:∀ys S H,Pv xs.length ys S H->QD H) :
  ∃W:Nat->Nat->List V->St->Hp->Prop,(∃m,W 0 m [] (zCr σ ix) (upd H1 D$ .lst []))/\∀i m ys S H2,W i m ys S H2 ->
   ((Itl K a).stop i H2/\QD H2)\/((Itl K a).go i H2/\∃N:List V->St->Hp->Prop,(∀aa O H',N aa O H'->∃m',m'<m/\W (i+1) m' aa O H')/\∀x H3,(Itl K a).yld i H2 x H3->g x S H3 λO H4=>tt O H4 λb H5=>if b=true then te O H5 λv H6=>H6 D=some (.lst ys)/\ys.length<sizeLine/\N (ys++[v]) O (upd H6 D$ .lst$ ys++[v]) else N ys O H5):=by
 refine oh (Q:=λ_ H=>QD H) xs Pv h0 (λi ys S H p=>⟨λx hx=>⟨⟨xs,x,hl i ys S H p,hx⟩,λy H' yl=>?_⟩,λe=>⟨xs,hl i ys S H p,lL⟩⟩) hs hd;obtain⟨e,z⟩:=yl;subst e;have:=z xs$ hl i ys S _ p;rw[hx]at this;exact⟨rF,(qAh this).symm⟩
theorem ut{K:PySem.W.Frag}{tt:TT}(xs:List V)(Pv:Nat->List V->St->Hp->Prop)(h0:Pv 0 [] (zCr σ ix) (upd H1 D$ .lst []))
  (hl:∀i ys S H,Pv i ys S H->SqT K H a xs)
  (hs:∀i x ys S H,xs[i]?=some x->Pv i ys S H->g x S H λO H4=>tt O H4 λb H5=>if b=true then te O H5 λv H6=>H6 D=some (.lst ys)/\ys.length<sizeLine/\Pv (i+1) (ys++[v]) O (upd H6 D$ .lst$ ys++[v]) else Pv (i+1) ys O H5)
  (hd:∀ys S H,Pv xs.length ys S H->QD H) :
  ∃W:Nat->Nat->List V->St->Hp->Prop,(∃m,W 0 m [] (zCr σ ix) (upd H1 D$ .lst []))/\∀i m ys S H2,W i m ys S H2 ->
   ((Itt K a).stop i H2/\QD H2)\/((Itt K a).go i H2/\∃N:List V->St->Hp->Prop,(∀aa O H',N aa O H'->∃m',m'<m/\W (i+1) m' aa O H')/\∀x H3,(Itt K a).yld i H2 x H3->g x S H3 λO H4=>tt O H4 λb H5=>if b=true then te O H5 λv H6=>H6 D=some (.lst ys)/\ys.length<sizeLine/\N (ys++[v]) O (upd H6 D$ .lst$ ys++[v]) else N ys O H5):=by
 refine oh (Q:=λ_ H=>QD H) xs Pv h0 (λi ys S H p=>⟨λx hx=>⟨⟨xs,x,hl i ys S H p,hx⟩,λy H' yl=>?_⟩,λe=>⟨xs,hl i ys S H p,lL⟩⟩) hs hd;obtain⟨e,z⟩:=yl;subst e;have:=z xs$ hl i ys S _ p;rw[hx]at this;exact⟨rF,(qAh this).symm⟩
theorem zKr{lo:Int}{n:Nat}(Pv:Nat->List V->St->Hp->Prop)(h0:Pv 0 [] (zCr σ ix) (upd H1 D$ .lst []))
  (hs:∀i ys S H,i<n->Pv i ys S H->g (.int$ lo+i) S H λO H4=>tt O H4 λb H5=>if b=true then te O H5 λv H6=>H6 D=some (.lst ys)/\ys.length<sizeLine/\Pv (i+1) (ys++[v]) O (upd H6 D$ .lst$ ys++[v]) else Pv (i+1) ys O H5)
  (hd:∀ys S H,Pv n ys S H->QD H) :
  ∃W:Nat->Nat->List V->St->Hp->Prop,(∃m,W 0 m [] (zCr σ ix) (upd H1 D$ .lst []))/\∀i m ys S H2,W i m ys S H2 ->
   ((Itr lo n).stop i H2/\QD H2)\/((Itr lo n).go i H2/\∃N:List V->St->Hp->Prop,(∀aa O H',N aa O H'->∃m',m'<m/\W (i+1) m' aa O H')/\∀x H3,(Itr lo n).yld i H2 x H3->g x S H3 λO H4=>tt O H4 λb H5=>if b=true then te O H5 λv H6=>H6 D=some (.lst ys)/\ys.length<sizeLine/\N (ys++[v]) O (upd H6 D$ .lst$ ys++[v]) else N ys O H5):=by
 refine⟨λi m ys S H=>m=n-i/\i<=n/\Pv i ys S H,⟨n,sS,qAm _,h0⟩,?_⟩;rintro i m ys S H ⟨rfl,hi,p⟩
 by_cases hlt:i<n
 .refine .inr ⟨hlt,Pv$ i+1,λaa O H' p'=>⟨n-(i+1),lL,rF,hlt,p'⟩,λy H' yd=>?_⟩;obtain⟨e1,e2⟩:=yd;subst e1 e2;exact hs i ys S _ hlt p
 .have e:i=n:=lL
  subst e;exact .inl ⟨qAF _,hd ys S H p⟩
theorem lM{z:Str}{tt:TT}(Pv:Nat->List V->St->Hp->Prop)(h0:Pv 0 [] (zCr σ ix) (upd H1 D$ .lst []))
  (hs:∀i c ys S H,z.cps.toList[i]?=some c->Pv i ys S H->g (.str ⟨#[c]⟩) S H λO H4=>tt O H4 λb H5=>if b=true then te O H5 λv H6=>H6 D=some (.lst ys)/\ys.length<sizeLine/\Pv (i+1) (ys++[v]) O (upd H6 D$ .lst$ ys++[v]) else Pv (i+1) ys O H5)
  (hd:∀ys S H,Pv z.length ys S H->QD H) :
  ∃W:Nat->Nat->List V->St->Hp->Prop,(∃m,W 0 m [] (zCr σ ix) (upd H1 D$ .lst []))/\∀i m ys S H2,W i m ys S H2 ->
   ((Its z).stop i H2/\QD H2)\/((Its z).go i H2/\∃N:List V->St->Hp->Prop,(∀aa O H',N aa O H'->∃m',m'<m/\W (i+1) m' aa O H')/\∀x H3,(Its z).yld i H2 x H3->g x S H3 λO H4=>tt O H4 λb H5=>if b=true then te O H5 λv H6=>H6 D=some (.lst ys)/\ys.length<sizeLine/\N (ys++[v]) O (upd H6 D$ .lst$ ys++[v]) else N ys O H5):=by
 refine⟨λi m ys S H=>m=z.length-i/\i<=z.length/\Pv i ys S H,⟨z.length,sS,qAm _,h0⟩,?_⟩;rintro i m ys S H ⟨rfl,hi,p⟩
 by_cases hlt:i<z.length
 .refine .inr ⟨hlt,Pv$ i+1,λaa O H' p'=>⟨z.length-(i+1),lL,rF,hlt,p'⟩,λy H' yd=>?_⟩;obtain⟨e1,c,e2,e3⟩:=yd;subst e1 e3;exact hs i c ys S _ (by simpa using e2) p
 .have e:i=z.length:=lL
  subst e;exact .inl ⟨qAF _,hd ys S H p⟩
theorem zA8{K:PySem.W.Frag}(xs:List V)(Pv:Nat->List V->St->Hp->Prop)(h0:Pv 0 [] (zCr σ ix) (upd H1 D$ .lst []))
  (hl:∀i ys S H,Pv i ys S H->SqL K H a xs)
  (hs:∀i x ys S H,xs[i]?=some x->Pv i ys S H->g x S H λO H4=>te O H4 λv H6=>H6 D=some (.lst ys)/\ys.length<sizeLine/\Pv (i+1) (ys++[v]) O (upd H6 D$ .lst$ ys++[v]))
  (hd:∀ys S H,Pv xs.length ys S H->QD H) :
  ∃W:Nat->Nat->List V->St->Hp->Prop,(∃m,W 0 m [] (zCr σ ix) (upd H1 D$ .lst []))/\∀i m ys S H2,W i m ys S H2 ->
   ((Itl K a).stop i H2/\QD H2)\/((Itl K a).go i H2/\∃N:List V->St->Hp->Prop,(∀aa O H',N aa O H'->∃m',m'<m/\W (i+1) m' aa O H')/\∀x H3,(Itl K a).yld i H2 x H3->g x S H3 λO H4=>hV O H4 λb H5=>if b=true then te O H5 λv H6=>H6 D=some (.lst ys)/\ys.length<sizeLine/\N (ys++[v]) O (upd H6 D$ .lst$ ys++[v]) else N ys O H5):=zBs (tt:=hV) xs Pv h0 hl hs hd
theorem pY{K:PySem.W.Frag}(xs:List V)(Pv:Nat->List V->St->Hp->Prop)(h0:Pv 0 [] (zCr σ ix) (upd H1 D$ .lst []))
  (hl:∀i ys S H,Pv i ys S H->SqT K H a xs)
  (hs:∀i x ys S H,xs[i]?=some x->Pv i ys S H->g x S H λO H4=>te O H4 λv H6=>H6 D=some (.lst ys)/\ys.length<sizeLine/\Pv (i+1) (ys++[v]) O (upd H6 D$ .lst$ ys++[v]))
  (hd:∀ys S H,Pv xs.length ys S H->QD H) :
  ∃W:Nat->Nat->List V->St->Hp->Prop,(∃m,W 0 m [] (zCr σ ix) (upd H1 D$ .lst []))/\∀i m ys S H2,W i m ys S H2 ->
   ((Itt K a).stop i H2/\QD H2)\/((Itt K a).go i H2/\∃N:List V->St->Hp->Prop,(∀aa O H',N aa O H'->∃m',m'<m/\W (i+1) m' aa O H')/\∀x H3,(Itt K a).yld i H2 x H3->g x S H3 λO H4=>hV O H4 λb H5=>if b=true then te O H5 λv H6=>H6 D=some (.lst ys)/\ys.length<sizeLine/\N (ys++[v]) O (upd H6 D$ .lst$ ys++[v]) else N ys O H5):=ut (tt:=hV) xs Pv h0 hl hs hd
theorem iz{z:Str}(Pv:Nat->List V->St->Hp->Prop)(h0:Pv 0 [] (zCr σ ix) (upd H1 D$ .lst []))
  (hs:∀i c ys S H,z.cps.toList[i]?=some c->Pv i ys S H->g (.str ⟨#[c]⟩) S H λO H4=>te O H4 λv H6=>H6 D=some (.lst ys)/\ys.length<sizeLine/\Pv (i+1) (ys++[v]) O (upd H6 D$ .lst$ ys++[v]))
  (hd:∀ys S H,Pv z.length ys S H->QD H) :
  ∃W:Nat->Nat->List V->St->Hp->Prop,(∃m,W 0 m [] (zCr σ ix) (upd H1 D$ .lst []))/\∀i m ys S H2,W i m ys S H2 ->
   ((Its z).stop i H2/\QD H2)\/((Its z).go i H2/\∃N:List V->St->Hp->Prop,(∀aa O H',N aa O H'->∃m',m'<m/\W (i+1) m' aa O H')/\∀x H3,(Its z).yld i H2 x H3->g x S H3 λO H4=>hV O H4 λb H5=>if b=true then te O H5 λv H6=>H6 D=some (.lst ys)/\ys.length<sizeLine/\N (ys++[v]) O (upd H6 D$ .lst$ ys++[v]) else N ys O H5):=lM (tt:=hV) Pv h0 hs hd
section
variable{X:Cx}{K:PySem.W.Frag}
theorem zEi(O:X.K=K:=by rfl):IxR X (xU K):=by subst O;exact zAt
theorem zHc(O:X.K=K:=by rfl):zC4 X (.builtin "len") (λxs H Q=>∃p ys,xs=[.ref p]/\(SqL K H p ys\/SqT K H p ys)/\Q (.int ys.length) H):=by subst O;exact zAy
theorem zHo(O:X.K=K:=by rfl):OpR X (compareOp .In) (rIn K false):=by subst O;exact zG0
theorem zC1(O:X.K=K:=by rfl):OpR X (compareOp .NotIn) (rIn K true):=by subst O;exact zE2
end
theorem Kp.drop{H2:Hp}{p:Addr}(O:Kp [] H H1)(f:Fre H p)(S:Kp [p] H1 H2):Kp [] H H2:=λb o h _=>S b o (O b o h sS)$ nm1$ b_ f h
end L2
namespace Tim
open PySem PyProof.Rows
variable{i lo n nrem:Nat}{st:SortSt}
def kk(κ:KeyKind)(p:Keyed):κ.α:=(κ.keyOf p.1).getD κ.dflt
def Has(κ:KeyKind)(p:Keyed):Prop:=∃a,κ.keyOf p.1=some a
theorem Has.key{κ:KeyKind}{p:Keyed}(h:Has κ p):κ.keyOf p.1=some (kk κ p):=by
 obtain⟨a,e⟩:=h;unfold kk;rw[e];rfl
theorem sP{κ:KeyKind}{xs:Array Keyed}{p:Keyed}(h:xs[i]?=some p):KK κ xs i=kk κ p:=by
 unfold KK kk;rw[h]
def CmpOk(prog:Program)(w:World)(A:Around)(s:Shared)(kd:SortKind)(κ:KeyKind):Prop :=
 ∀(E:Value->Shared->Prop)(x y:Value)(a b:κ.α)(Q:Bool->Shared->Prop),κ.keyOf x=some a->κ.keyOf y=some b->Q (κ.blt a b) s->wpAny (model prog w) A (keyLt' kd x y) Q E s
section
variable{prog:Program}{w:World}{A:Around}{E:Value->Shared->Prop}{s:Shared}{kd:SortKind}{κ:KeyKind}
theorem w_lt{x y:Keyed}{Q:Option Bool->SortSt->Prop}(C:CmpOk prog w A s kd κ)(O:kindOf st=kd)(S:Has κ x)(V:Has κ y)(h:Q (some$ κ.blt (kk κ x)$ kk κ y) st):wpS (model prog w) A E s (lt' x y) Q st:=by
 rw[lt'_eq];refine qAl$ wpS_get ?_;rw[O];exact qAl$ wpS_lift$ qBy$ C _ x.1 y.1 _ _ _ S.key V.key ⟨rF,qAu h⟩
theorem rg{O:Array Keyed}{p:Keyed}{Q:Keyed->SortSt->Prop}(e:O[i]?=some p)(h:Q p st):wpS (model prog w) A E s (elem' O i) Q st:=by
 rw[elem'_eq,e];exact qAu h
theorem g_{j:Nat}{Q:Option Bool->SortSt->Prop}(C:CmpOk prog w A s kd κ)(V:kindOf st=kd)(hi:∃p,(arrOf st)[i]?=some p/\Has κ p)(W:∃p,(arrOf st)[j]?=some p/\Has κ p)
  (h:Q (some$ κ.blt (KK κ (arrOf st) i)$ KK κ (arrOf st) j) st):wpS (model prog w) A E s (ltAt' i j) Q st:=by
 obtain⟨p,O,h1⟩:=hi;obtain⟨q,S,h2⟩:=W;rw[sP O,sP S]at h;rw[ltAt'_eq];exact qAl$ wpS_get$ qAl$ rg O$ qAl$ rg S$ w_lt C V h1 h2 h
end
section
variable{κ:KeyKind}
def le(κ:KeyKind)(x y:Keyed):Prop:=κ.kle (kk κ x)$ kk κ y
abbrev Srt(κ:KeyKind)(l:List Keyed):Prop:=l.Pairwise$ le κ
end
section
variable{prog:Program}{w:World}{A:Around}{E:Value->Shared->Prop}{s:Shared}{kd:SortKind}{κ:KeyKind}{a b:Array Keyed}
theorem xy{a:Array Keyed}(O:∀x∈a.toList,Has κ x)(hi:i<a.size):∃p,a[i]?=some p/\Has κ p :=
 ⟨a[i],sS,O _ sS⟩
end
section
variable{prog:Program}{w:World}{A:Around}{E:Value->Shared->Prop}{s:Shared}{kd:SortKind}{κ:KeyKind}
structure Fr(lo:Nat)(st st':SortSt):Prop where
 kd:kindOf st'=kindOf st
 pn:pendingOf st'=pendingOf st
 fl:failedOf st'=failedOf st
 perm:(arrOf st').Perm (arrOf st)
 low:∀k,k<lo->(arrOf st')[k]?=(arrOf st)[k]?
theorem Fr.refl(lo:Nat)(st:SortSt):Fr lo st st:=⟨rF,rF,rF,Array.Perm.refl _,λ_ _=>rfl⟩
theorem Fr.trans{a b c:SortSt}(h:Fr lo a b)(k:Fr lo b c):Fr lo a c:=⟨k.kd.trans h.kd,k.pn.trans h.pn,k.fl.trans h.fl,k.perm.trans h.perm,λi hi=>(k.low i hi).trans$ h.low i hi⟩
theorem Fr.size{a b:SortSt}(h:Fr lo a b):(arrOf b).size=(arrOf a).size:=h.perm.size_eq
theorem Fr.rev{lo:Nat}(st:SortSt)(i j:Nat)(hi:lo<=i)(O:j<=(arrOf st).size):Fr lo st (setArr st$ mirror (arrOf st) i j$ (j-i) / 2) :=
 ⟨rF,rF,rF,mirror_perm _ _ _ _,λk S=>by
  show(mirror (arrOf st) i j$ (j-i) / 2)[k]?=_;rw[getElem?_mirror_all O,qAC lL]⟩
def All(κ:KeyKind)(st:SortSt):Prop:=∀x∈(arrOf st).toList,Has κ x
theorem All.fr{a b:SortSt}(h:All κ a)(f:Fr lo a b):All κ b:=λx O=>h x$ (qDA.mp f.perm).mem_iff.mp O
theorem All.at(h:All κ st)(hi:i<(arrOf st).size):∃p,(arrOf st)[i]?=some p/\Has κ p:=xy h hi
def Up(κ:KeyKind)(st:SortSt)(lo n:Nat):Prop:=∀i j,i<=j->j<n->κ.kle (KK κ (arrOf st)$ lo+i) (KK κ (arrOf st)$ lo+j)
def Dn(κ:KeyKind)(st:SortSt)(lo n:Nat):Prop:=∀i j,i<=j->j<n->κ.kle (KK κ (arrOf st)$ lo+j) (KK κ (arrOf st)$ lo+i)
theorem Up.one(st:SortSt)(lo:Nat):Up κ st lo 1:=λi j h1 h2=>by
 have e:i=j:=lL
 rw[e];exact qBz _
theorem Up.more(h:Up κ st lo n)(h1:1<=n)(e:κ.kle (KK κ (arrOf st)$ lo+n-1) (KK κ (arrOf st)$ lo+n)):Up κ st lo (n+1):=λi j O V=>by
 by_cases c:j<n
 .exact h i j O c
 .have S:j=n:=lL
  by_cases ci:i=n
  .rw [S,ci];exact qBz _
  .rw [S];have q:=h i (n-1) lL lL;rw[show lo+(n-1)=lo+n-1 by lia]at q;exact qDB q e
theorem Dn.more(h:Dn κ st lo n)(h1:1<=n)(e:κ.kle (KK κ (arrOf st)$ lo+n) (KK κ (arrOf st)$ lo+n-1)):Dn κ st lo (n+1):=λi j O V=>by
 by_cases c:j<n
 .exact h i j O c
 .have S:j=n:=lL
  by_cases ci:i=n
  .rw [S,ci];exact qBz _
  .rw [S];have q:=h i (n-1) lL lL;rw[show lo+(n-1)=lo+n-1 by lia]at q;exact qDB e q
theorem v0{O:Nat}{α:Type}{Q:α->SortSt->Prop}(C:CmpOk prog w A s kd κ)(hk:kindOf st=kd)(W:All κ st)(hn:lo+nrem<=(arrOf st).size)(h1:1<=O)(h2:O<=nrem)(up:Up κ st lo O)
  (F:Nat->Option (Option Nat)×Nat->StateT SortSt Sem (ForInStep$ Option (Option Nat)×Nat)) (hF:∀x n,F x (none,n)=(do
   let c<-ltAt' (lo+n) (lo+n-1)
   match c with
   |some c=>if c=true then pure (ForInStep.done (none,n)) else pure (ForInStep.yield (none,n+1))
   |_=>pure (ForInStep.done (some none,n)))) (G:Option (Option Nat)×Nat->StateT SortSt Sem α)
  (hG:∀n,O<=n->n<=nrem->Up κ st lo n->(n=nrem\/κ.klt (KK κ (arrOf st)$ lo+n) (KK κ (arrOf st)$ lo+n-1))->wpS (model prog w) A E s (G (none,n)) Q st) :
  wpS (model prog w) A E s (forIn [O:nrem] ((none,O):Option (Option Nat)×Nat) F >>= G) Q st:=by
 refine qAl$ qCG (I:=λx c S=>S=st/\c=(none,x)/\x<=nrem/\Up κ st lo x) ?step ?fin ⟨rF,rF,h2,up⟩
 case fin=>
  rintro c S ⟨rfl,rfl,h3,h4⟩;rw[show max O nrem=nrem by lia]at h4 ⊢;exact hG nrem h2 (qAF _) h4$ .inl rF
 case step=>
  rintro x c S V aa ⟨rfl,rfl,h3,h4⟩;rw[hF];refine qAl$ g_ C hk (W.at lL) (W.at lL) ?_
  cases e:κ.blt (KK κ (arrOf S)$ lo+x) (KK κ (arrOf S)$ lo+x-1) with
  |true=>
   show wpS _ _ _ _ (if true=true then _ else _) _ _;rw[qAD rF];exact qAu$ hG x V h3 h4$ .inr e
  |false=>
   show wpS _ _ _ _ (if false=true then _ else _) _ _;rw[qAC dD];exact qAu ⟨rF,rF,lL,h4.more lL e⟩
theorem xi(h:Dn κ st lo n)(O:lo+n<=(arrOf st).size):Up κ (setArr st$ mirror (arrOf st) lo (lo+n)$ (lo+n-lo) / 2) lo n:=λi j S V=>by
 show κ.kle (KK κ (mirror (arrOf st) lo (lo+n) _)$ lo+i) (KK κ (mirror (arrOf st) lo (lo+n) _)$ lo+j);rw[KK_mirror O,KK_mirror O,qAD lL,qAD lL];have q:=h (n-1-j) (n-1-i) lL lL;rw[show lo+(lo+n)-1-(lo+i)=lo+(n-1-i) by lia,show lo+(lo+n)-1-(lo+j)=lo+(n-1-j) by lia];exact q
theorem km{Q:Option Nat->SortSt->Prop}(C:CmpOk prog w A s kd κ)(O:kindOf st=kd)(V:All κ st)(W:lo+nrem<=(arrOf st).size)(h1:1<=n)(h2:n<=nrem)(dn:Dn κ st lo n)
  (F:Nat->Option (Option Nat)×Nat->StateT SortSt Sem (ForInStep$ Option (Option Nat)×Nat)) (hF:∀x n,F x (none,n)=(do
   let c<-ltAt' (lo+n) (lo+n-1)
   match c with
   |some c=>if c=true then pure (ForInStep.done (none,n)) else pure (ForInStep.yield (none,n+1))
   |_=>pure (ForInStep.done (some none,n)))) (G:Option (Option Nat)×Nat->StateT SortSt Sem (Option Nat)) (hG:∀n,G (none,n)=pure (some n))
  (h:∀m S,Fr lo st S->1<=m->m<=nrem->Up κ S lo m->Q (some m) S) :
  wpS (model prog w) A E s (reverseSlice' lo (lo+n) >>= λ_=>forIn [n:nrem] ((none,n):Option (Option Nat)×Nat) F >>= G) Q st:=by
 have f:=Fr.rev (lo:=lo) st lo (lo+n) (qAF _) lL;refine qAl$ qCi ?_;refine v0 C (f.kd.trans O) (V.fr f) (by rw[f.size];exact W) h1 h2 (xi dn lL) F hF G λm m1 m2 m3 _=>?_;rw[hG];exact qAu$ h m _ f lL m2 m3
theorem kC{j:Nat}(O:j<=(arrOf st).size)(S:∀k,i<=k->k<j->KK κ (arrOf st) k=KK κ (arrOf st) (j-1))(k:Nat) :
  KK κ (arrOf$ setArr st$ mirror (arrOf st) i j$ (j-i) / 2) k=KK κ (arrOf st) k:=KK_mirror_equal O S k
theorem Dn.same{S:SortSt}(h:Dn κ st lo n)(e:∀k,KK κ (arrOf S) k=KK κ (arrOf st) k):Dn κ S lo n:=λi j h1 h2=>by rw[e,e];exact h i j h1 h2
theorem sK{V:Nat}{α:Type}{Q:α->SortSt->Prop}(C:CmpOk prog w A s kd κ)(hk:kindOf st=kd)(al:All κ st)(hn:lo+nrem<=(arrOf st).size)(h1:1<=V)(h2:V<=nrem)(dn:Dn κ st lo V)
  (F:Nat->Option (Option Nat)×Nat×Nat->StateT SortSt Sem (ForInStep$ Option (Option Nat)×Nat×Nat)) (hF:∀x n q,F x (none,n,q)=(ltAt' (lo+n) (lo+n-1) >>= λc=>match c with
   |some c=>(if c=true then(if q>0 then(reverseSlice' (lo+n-(q+1)) (lo+n) >>= λ_=>pure$ ForInStep.yield (none,n+1,0)) else pure (ForInStep.yield (none,n+1,0)))
    else(ltAt' (lo+n-1) (lo+n) >>= λd=>match d with
     |some d=>(if d=true then pure (ForInStep.done (none,n,q)) else pure (ForInStep.yield (none,n+1,q+1)))
     |_=>pure (ForInStep.done (some none,n,q))))
   |_=>pure (ForInStep.done (some none,n,q)))) (G:Option (Option Nat)×Nat×Nat->StateT SortSt Sem α)
  (hG:∀n q S,Fr lo st S->V<=n->n<=nrem->Dn κ S lo n->q+1<=n->(∀k,lo+n-(q+1)<=k->k<lo+n->KK κ (arrOf S) k=KK κ (arrOf S) (lo+n-1))->wpS (model prog w) A E s (G (none,n,q)) Q S) :
  wpS (model prog w) A E s (forIn [V:nrem] ((none,V,0):Option (Option Nat)×Nat×Nat) F >>= G) Q st:=by
 refine qAl$ qCG (I:=λx c S=>Fr lo st S/\∃q,c=(none,x,q)/\x<=nrem/\Dn κ S lo x/\q+1<=x/\∀k,lo+x-(q+1)<=k->k<lo+x->KK κ (arrOf S) k=KK κ (arrOf S) (lo+x-1)) ?step ?fin ⟨Fr.refl _ _,0,rF,h2,dn,lL,λk k1 k2=>by rw[show k=lo+V-1 by lia]⟩
 case fin=>
  rintro c S ⟨f,q,rfl,h3,h4,h5,h6⟩;have e:max V nrem=nrem:=lL
  rw[e]at h4 h5 h6 ⊢;exact hG nrem q S f h2 (qAF _) h4 h5 h6
 case step=>
  rintro x c S aa ab ⟨f,q,rfl,h3,h4,h5,h6⟩;have hz:(arrOf S).size=(arrOf st).size:=f.size;have O:=al.fr f;have W:=f.kd.trans hk;rw[hF];refine qAl$ g_ C W (O.at lL) (O.at lL) ?_
  cases e:κ.blt (KK κ (arrOf S)$ lo+x) (KK κ (arrOf S)$ lo+x-1) with
  |true=>
   show wpS _ _ _ _ (if true=true then _ else _) _ _;rw[qAD rF];have d2:Dn κ S lo (x+1):=h4.more lL$ qDC e
   by_cases hq:q>0
   .rw [qAD hq];have f2:=Fr.rev (lo:=lo) S (lo+x-(q+1)) (lo+x) lL lL;exact qAl$ qCi$ qAu ⟨f.trans f2,0,rF,lL,d2.same$ kC lL h6,lL,λk k1 k2=>by rw[show k=lo+(x+1)-1 by lia]⟩
   .rw [qAC hq];exact qAu ⟨f,0,rF,lL,d2,lL,λk k1 k2=>by rw[show k=lo+(x+1)-1 by lia]⟩
  |false=>
   show wpS _ _ _ _ (if false=true then _ else _) _ _;rw[qAC dD];refine qAl$ g_ C W (O.at lL) (O.at lL) ?_
   cases e2:κ.blt (KK κ (arrOf S)$ lo+x-1) (KK κ (arrOf S)$ lo+x) with
   |true=>
    show wpS _ _ _ _ (if true=true then _ else _) _ _;rw[qAD rF];exact qAu$ hG x q S f aa h3 h4 h5 h6
   |false=>
    show wpS _ _ _ _ (if false=true then _ else _) _ _;rw[qAC dD];have eq:KK κ (arrOf S) (lo+x)=KK κ (arrOf S) (lo+x-1):=KeyOrd.kle_antisymm e2 e;refine qAu ⟨f,q+1,rF,lL,h4.more lL e2,lL,λk k1 k2=>?_⟩;rw[show lo+(x+1)-1=lo+x by lia]
    by_cases ck:k=lo+x
    .rw [ck]
    .rw [eq];exact h6 k lL lL
theorem u4{Q:Option Nat->SortSt->Prop}(C:CmpOk prog w A s kd κ)(hk:kindOf st=kd)(al:All κ st)(hn:lo+nrem<=(arrOf st).size)(h1:1<=nrem)
  (h:∀m S,Fr lo st S->1<=m->m<=nrem->Up κ S lo m->Q (some m) S):wpS (model prog w) A E s (countRun' lo nrem) Q st:=by
 refine v0 C hk al hn (qAF 1) h1 (Up.one _ _) _ (λx n=>rfl) _ λn n1 n2 up ho=>?_;show wpS _ _ _ _ (if(n==nrem)=true then _ else _) _ _
 by_cases c:(n==nrem)=true
 .rw [qAD c];exact qAu$ h n st (Fr.refl _ _) n1 n2 up
 rw[qAC c];have c':¬n=nrem:=by simpa using c
 have aa:=ho.resolve_left c';show wpS _ _ _ _ (if n>1 then _ else _) _ _
 by_cases g:n>1
 .rw [qAD g];refine qAl$ g_ C hk (al.at lL) (al.at lL) ?_
  cases e:κ.blt (KK κ (arrOf st) lo) (KK κ (arrOf st)$ lo+n-1) with
  |true=>
   show wpS _ _ _ _ (if true=true then _ else _) _ _;rw[qAD rF];exact qAu$ h n st (Fr.refl _ _) n1 n2 up
  |false=>
   show wpS _ _ _ _ (if false=true then _ else _) _ _;rw[qAC dD]
   have O:∀k,lo<=k->k<lo+n->KK κ (arrOf st) k=KK κ (arrOf st) (lo+n-1):=λk k1 k2=>by
    have a1:=up 0 (k-lo) lL lL;have a2:=up (k-lo) (n-1) lL lL;rw[show lo+(k-lo)=k by lia]at a1 a2;rw[show lo+(n-1)=lo+n-1 by lia]at a2;exact KeyOrd.kle_antisymm a2$ qDB e a1
   have W:=Fr.rev (lo:=lo) st lo (lo+n) (qAF _) lL;refine qAl$ qCi ?_;have same:=kC (κ:=κ) (st:=st) (i:=lo) (j:=lo+n) lL O
   have dn:Dn κ (setArr st$ mirror (arrOf st) lo (lo+n)$ (lo+n-lo) / 2) lo (n+1):=by
    have d0:Dn κ st lo n:=λi j i1 i2=>by
     rw[O (lo+i) lL lL,O (lo+j) lL lL];exact qBz _
    exact(d0.more n1$ qDC aa).same same
   refine qAl$ wpS_lift$ qCj ⟨rF,?_⟩;refine sK C (W.kd.trans hk) (al.fr W) (by rw[W.size];exact hn) lL lL dn _ (λx n q=>rfl) _ λm q V f2 m1 m2 dm q1 q2=>?_;have hz:(arrOf V).size=(arrOf st).size:=(W.trans f2).size;show wpS _ _ _ _ (if q>0 then _ else _) _ _
   by_cases hq:q>0
   .rw [qAD hq];have f3:=Fr.rev (lo:=lo) V (lo+m-(q+1)) (lo+m) lL lL;refine qAl$ qCi ?_;refine km C (f3.kd.trans$ (W.trans f2).kd.trans hk) ((al.fr$ W.trans f2).fr f3) (by rw[f3.size,hz];exact hn) lL m2 (dm.same$ kC lL q2) _ (λx n=>rfl) _ (λn=>rfl) λm' S f'=>h m' S$ ((W.trans f2).trans f3).trans f'
   .rw [qAC hq];refine km C ((W.trans f2).kd.trans hk) (al.fr$ W.trans f2) (by rw[hz];exact hn) lL m2 dm _ (λx n=>rfl) _ (λn=>rfl) λm' S f'=>h m' S$ (W.trans f2).trans f'
 .rw [qAC g];have en:n=1:=lL
  subst en
  have dn:Dn κ st lo (1+1):=Dn.more (λi j i1 i2=>by
   have e:i=j:=lL
   rw[e];exact qBz _) (qAF _)$ qDC aa
  refine qAl$ wpS_lift$ qCj ⟨rF,?_⟩;refine sK C hk al hn lL lL dn _ (λx n q=>rfl) _ λm q V f2 m1 m2 dm q1 q2=>?_;have hz:(arrOf V).size=(arrOf st).size:=f2.size;show wpS _ _ _ _ (if q>0 then _ else _) _ _
  by_cases hq:q>0
  .rw [qAD hq];have f3:=Fr.rev (lo:=lo) V (lo+m-(q+1)) (lo+m) lL lL;refine qAl$ qCi ?_;refine km C (f3.kd.trans$ f2.kd.trans hk) ((al.fr f2).fr f3) (by rw[f3.size,hz];exact hn) lL m2 (dm.same$ kC lL q2) _ (λx n=>rfl) _ (λn=>rfl) λm' S f'=>h m' S$ (f2.trans f3).trans f'
  .rw [qAC hq];refine km C (f2.kd.trans hk) (al.fr f2) (by rw[hz];exact hn) lL m2 dm _ (λx n=>rfl) _ (λn=>rfl) λm' S f'=>h m' S$ f2.trans f'
theorem yy{ok:Nat}{Q:Bool->SortSt->Prop}(C:CmpOk prog w A s kd κ)(hk:kindOf st=kd)(al:All κ st)(hn:lo+n<=(arrOf st).size)(ho:ok<=n)(h1:1<=ok)(up:Up κ st lo ok)
  (h:∀S,Fr lo st S->Up κ S lo n->Q true S):wpS (model prog w) A E s (binarySort' lo n ok) Q st:=by
 refine qAl$ wpS_mono (qCG (I:=λk c S=>c=(none,())/\Fr lo st S/\k<=n/\Up κ S lo k) (Q:=λc S=>c=(none,())/\Fr lo st S/\Up κ S lo n) ?step ?fin ⟨rF,Fr.refl _ _,lL,by rw[show max ok 1=ok by lia];exact up⟩) ?post
 case post=>
  rintro c S ⟨rfl,f,u⟩;exact qAu$ h S f u
 case fin=>
  rintro c S ⟨hc,f,_,u⟩;rw[show max (max ok 1) n=n by lia]at u;exact⟨hc,f,u⟩
 case step=>
  rintro k c S ab ad ⟨rfl,f,_,u⟩;have hz:(arrOf S).size=(arrOf st).size:=f.size;have V:=al.fr f;have aa:=f.kd.trans hk
  refine qAl$ wpS_mono (qCG (I:=λx c O=>O=S/\∃l r,c=(none,l,r)/\l<=r/\r<=k/\r-l<=k-x/\(∀i,i<l->κ.kle (KK κ (arrOf S)$ lo+i) (KK κ (arrOf S)$ lo+k))/\(∀i,r<=i->i<k->κ.klt (KK κ (arrOf S)$ lo+k) (KK κ (arrOf S)$ lo+i))) (Q:=λc O=>O=S/\∃l r,c=(none,l,r)/\l<=k/\(∀i,i<l->κ.kle (KK κ (arrOf S)$ lo+i) (KK κ (arrOf S)$ lo+k))/\(∀i,l<=i->i<k->κ.klt (KK κ (arrOf S)$ lo+k) (KK κ (arrOf S)$ lo+i))) ?s2 ?f2 ⟨rF,0,k,rF,lL,lL,lL,λi hi=>lL,λi W i2=>lL⟩) ?p2
  case f2=>
   rintro c O ⟨rfl,l,r,rfl,a1,a2,a3,a4,a5⟩;have e:l=r:=lL
   subst e;exact⟨rF,l,l,rF,a2,a4,a5⟩
  case s2=>
   rintro x c O _ hx ⟨rfl,l,r,rfl,a1,a2,a3,a4,a5⟩;dsimp only
   by_cases g:l>=r
   .rw [qAD g];have e:l=r:=lL
    subst e;exact qAu ⟨rF,l,l,rF,a2,a4,a5⟩
   .rw [qAC g];refine qAl$ g_ C aa (V.at lL) (V.at lL) ?_
    cases e:κ.blt (KK κ (arrOf O)$ lo+k) (KK κ (arrOf O)$ lo+(l+r) / 2) with
    |true=>
     show wpS _ _ _ _ (if true=true then _ else _) _ _;rw[qAD rF];exact qAu ⟨rF,l,(l+r) / 2,rF,lL,lL,lL,a4,λi W i2=>KeyOrd.klt_of_klt_of_kle e$ u _ _ W i2⟩
    |false=>
     show wpS _ _ _ _ (if false=true then _ else _) _ _;rw[qAC dD];exact qAu ⟨rF,(l+r) / 2+1,r,rF,lL,lL,lL,λi W=>qDB (u i ((l+r) / 2) lL lL)$ show κ.kle _ _ from e,a5⟩
  case p2=>
   rintro c O ⟨rfl,l,r,rfl,a1,a2,a3⟩;show wpS _ _ _ _ (moveDown' (lo+k) (lo+l) >>= λ_=>pure$ ForInStep.yield (none,())) _ _;rw[moveDown'_eq];have hs:lo+k<(arrOf O).size:=lL
   refine qAl$ wpS_modify$ qAu ⟨rF,f.trans ⟨rF,rF,rF,bubble_perm _ _ _,λi hi=>?_⟩,lL,λi j W i2=>?_⟩
   .show (bubble (arrOf O) (lo+k)$ lo+k-(lo+l))[i]?=_;rw[getElem?_bubble hs _ lL,qAC lL,qAC lL]
   .show κ.kle (KK κ (bubble (arrOf O) (lo+k)$ lo+k-(lo+l))$ lo+i) (KK κ (bubble (arrOf O) (lo+k)$ lo+k-(lo+l))$ lo+j);rw[KK_bubble hs lL,KK_bubble hs lL,show lo+k-(lo+k-(lo+l))=lo+l by lia]
    by_cases c1:lo+i=lo+l
    .rw [qAD c1]
     by_cases c2:lo+j=lo+l
     .rw [qAD c2];exact qBz _
     .rw [qAC c2,qAD lL];have q:=a3 (j-1) lL lL;rw[show lo+(j-1)=lo+j-1 by lia]at q;exact qDC q
    .rw [qAC c1]
     by_cases c2:lo+j=lo+l
     .rw [qAD c2,qAC lL];exact a2 i lL
     .rw [qAC c2]
      by_cases c3:lo+l<lo+i/\lo+i<=lo+k
      .rw [qAD c3,qAD lL];have q:=u (i-1) (j-1) lL lL;rw[show lo+(i-1)=lo+i-1 by lia,show lo+(j-1)=lo+j-1 by lia]at q;exact q
      .rw [qAC c3]
       by_cases c4:lo+l<lo+j/\lo+j<=lo+k
       .rw [qAD c4];have q:=u i (j-1) lL lL;rw[show lo+(j-1)=lo+j-1 by lia]at q;exact q
       .rw [qAC c4];exact u i j W lL
end
section
variable{prog:Program}{w:World}{A:Around}{E:Value->Shared->Prop}{s:Shared}{kd:SortKind}{κ:KeyKind}
def seg(O:Array Keyed)(lo n:Nat):List Keyed:=(O.toList.drop lo).take n
theorem w4{O:Array Keyed}(hi:i<n):(seg O lo n)[i]?=O[lo+i]?:=by
 unfold seg;rw[qCZ hi,qCg];simp
theorem uW{O:Array Keyed}(h:lo+n<=O.size):(seg O lo n).length=n:=by
 unfold seg;rw[qAX,qBm];simp;lia
theorem xZ(h:lo+n<=(arrOf st).size):Up κ st lo n↔Srt κ (seg (arrOf st) lo n):=by
 have W:=uW h
 have O:∀i (hi:i<(seg (arrOf st) lo n).length),KK κ (arrOf st) (lo+i)=kk κ (seg (arrOf st) lo n)[i]:=λi hi=>by
  have e:(seg (arrOf st) lo n)[i]?=some (seg (arrOf st) lo n)[i]:=sS
  rw[w4 lL]at e;exact sP e
 constructor
 .intro u;refine qDm.mpr λi j hi V S=>?_;show κ.kle _ _;rw[<-O i hi,<-O j V];exact u i j lL lL
 .intro p i j S V;rw[O i lL,O j lL]
  by_cases e:i=j
  .subst e;exact qBz _
  .exact qDm.mp p i j lL lL lL
end
end Tim
namespace ST
open PySem PySem.SetTable
variable{xs:Array Nat}{i j mask N:Nat}{α:Type}{hs:List Int}{b:Addr}
abbrev ik(l:List Nat):Prop:=l.Pairwise (·<·)
theorem zFg(V:ik xs.toList){k:Nat}{x y:Nat}(O:i<k)(ex:xs[i]?=some x)(S:xs[k]?=some y):x<y:=by
 rw[<-qAv]at ex S;obtain⟨hi,rfl⟩:=qAa.mp ex;obtain⟨W,rfl⟩:=qAa.mp S;exact qDm.mp V i k hi W O
structure Bel(xs:Array Nat)(j r:Nat):Prop where
 le:r<=xs.size
 lo:∀i x,i<r->xs[i]?=some x->x<j
 hi:∀i x,r<=i->xs[i]?=some x->j<=x
theorem zMb(S:ik xs.toList) :∀(O lo hi:Nat),hi-lo<=O->lo<=hi->hi<=xs.size->(∀i x,i<lo->xs[i]?=some x->x<j)->(∀i x,hi<=i->xs[i]?=some x->j<=x)->Bel xs j (below.go xs j O lo hi)
 |0,lo,hi,h1,h2,h3,h4,h5=>by
  have e:lo=hi:=lL
  subst e;exact⟨h3,h4,h5⟩
 |O+1,lo,hi,h1,h2,h3,h4,h5=>by
  unfold below.go
  by_cases c:lo<hi
  .rw [qAD c];have hm:(lo+hi) / 2<xs.size:=lL
   have V:xs[(lo+hi) / 2]?=some xs[(lo+hi) / 2]:=sS
   have eD:xs.getD ((lo+hi) / 2) j=xs[(lo+hi) / 2]:=by simp[Array.getD,hm]
   show Bel xs j (if xs.getD ((lo+hi) / 2) j<j then _ else _);rw[eD]
   by_cases d:xs[(lo+hi) / 2]<j
   .rw [qAD d];refine zMb S O _ hi lL lL h3 (λi x W ex=>?_) h5
    by_cases q:i=(lo+hi) / 2
    .subst q;rw[V]at ex;cases ex;exact d
    .have:=zFg S (show i<(lo+hi) / 2 by lia) ex V;lia
   .rw [qAC d];refine zMb S O lo _ lL lL lL h4 λi x W ex=>?_
    by_cases q:i=(lo+hi) / 2
    .subst q;rw[V]at ex;cases ex;lia
    .have:=zFg S (show(lo+hi) / 2<i by lia) V ex;lia
  .rw [qAC c];have e:lo=hi:=lL
   subst e;exact⟨h3,h4,h5⟩
theorem zFq(O:ik xs.toList)(j:Nat):Bel xs j (below xs j) :=
 zMb O xs.size 0 xs.size lL lL (qAF _) (λi x h=>lL) (λi x h e=>by
  have:=(qDD.mp e).1;lia)
theorem Bel.at(S:ik xs.toList){r:Nat}(B:Bel xs j r)(e:xs[i]?=some j):r=i:=by
 rcases Nat.lt_trichotomy r i with z|z|z
 .have hi:i<xs.size:=(qDD.mp e).1;have O:xs[r]?=some (xs[r]' lL):=sS
  have h1:=B.hi r _ (qAF _) O;have h2:=zFg S z O e;lia
 .exact z
 .have:=B.lo i j z e;lia
def Tb(mask:Nat):SetTable:={mask:=mask,place:=#[],dummies:=#[],finger:=0,led:=false,moves:=0,plain:=false}
def pr(mask:Nat)(h:Int):Nat->Probe
 |0=>(Tb mask).probeStart h
 |n+1=>(Tb mask).advance (pr mask h n)
def rs(mask:Nat)(h:Int):Nat->Nat×Nat
 |0=>(bits h % (mask+1),bits h)
 |r+1=>leap mask (rs mask h r).1 (rs mask h r).2
def stt(mask:Nat)(h:Int):Nat->Nat
 |0=>0
 |r+1=>stt mask h r+(runEnd mask (rs mask h r).1-(rs mask h r).1+1)
theorem ow(mask:Nat)(h:Int):∀r,(rs mask h r).1<=mask
 |0=>Nat.le_of_lt_succ (Nat.mod_lt _$ Nat.succ_pos _)
 |r+1=>Nat.le_of_lt_succ (Nat.mod_lt _$ Nat.succ_pos _)
theorem mE(mask i:Nat)(hi:i<=mask):i<=runEnd mask i/\runEnd mask i<=mask/\runEnd mask i-i<=9:=by
 unfold runEnd;split<;>lia
theorem tP(mask:Nat)(h:Int):∀r,stt mask h r<=10*r
 |0=>qAF _
 |r+1=>by
  have h1:=tP mask h r;have h2:=(mE mask _$ ow mask h r).2.2;show stt mask h r+(runEnd mask (rs mask h r).1-(rs mask h r).1+1)<=_;lia
theorem tV(mask:Nat)(p:Probe)(h:p.more>0):(Tb mask).advance p={p with j:=p.j+1,more:=p.more-1}:=by
 unfold advance;rw[qAD h]
theorem rX(mask:Nat)(p:Probe)(h:p.more=0):(Tb mask).advance p={p with j:=(leap mask p.i p.perturb).1,more:=runEnd mask (leap mask p.i p.perturb).1-(leap mask p.i p.perturb).1,i:=(leap mask p.i p.perturb).1,perturb:=(leap mask p.i p.perturb).2}:=by
 unfold advance;rw[qAC lL];rfl
theorem zGw(mask:Nat)(h:Int):∀(r k:Nat),k<=runEnd mask (rs mask h r).1-(rs mask h r).1 ->
  pr mask h (stt mask h r+k)={j:=(rs mask h r).1+k,more:=runEnd mask (rs mask h r).1-(rs mask h r).1-k,i:=(rs mask h r).1,perturb:=(rs mask h r).2,dummy:=none}
 |0,0,_=>rfl
 |r+1,0,_=>by
  have O:=zGw mask h r (runEnd mask (rs mask h r).1-(rs mask h r).1)$ qAF _;show pr mask h (stt mask h r+(runEnd mask (rs mask h r).1-(rs mask h r).1)+1)=_;show(Tb mask).advance (pr mask h$ stt mask h r+(runEnd mask (rs mask h r).1-(rs mask h r).1))=_;rw[O,rX _ _ sS];rfl
 |r,k+1,S=>by
  have O:=zGw mask h r k lL;show(Tb mask).advance (pr mask h$ stt mask h r+k)=_;rw[O,tV _ _$ by show _-k>0;lia];simp only[Probe.mk.injEq];exact⟨lL,lL,trivial,trivial,trivial⟩
theorem wn(mask:Nat)(h:Int)(n:Nat):∃r k,n=stt mask h r+k/\k<=runEnd mask (rs mask h r).1-(rs mask h r).1:=by
 induction n with
 |zero=>exact⟨0,0,rF,qAm _⟩
 |succ n O=>
  obtain⟨r,k,e,S⟩:=O
  by_cases c:k<runEnd mask (rs mask h r).1-(rs mask h r).1
  .exact ⟨r,k+1,lL,c⟩
  .refine ⟨r+1,0,?_,qAm _⟩;show n+1=stt mask h r+(runEnd mask (rs mask h r).1-(rs mask h r).1+1)+0;lia
theorem wp(mask:Nat)(h:Int)(n:Nat):(pr mask h n).j<=mask:=by
 obtain⟨r,k,e,O⟩:=wn mask h n;rw[e,zGw mask h r k O];have:=mE mask _$ ow mask h r;show(rs mask h r).1+k<=mask;lia
theorem ui(mask:Nat)(h:Int)(n:Nat):(pr mask h n).dummy=none:=by
 obtain⟨r,k,e,O⟩:=wn mask h n;rw[e,zGw mask h r k O]
theorem jM(h:Int):bits h<2^64:=by
 unfold bits;have h1:=qCH h (show(2^64:Int)≠0 by decide);have h2:=qCI h (show(0:Int)<2^64 by decide);lia
theorem pd(mask:Nat)(h:Int):∀r,(rs mask h r).2=bits h / 32^r
 |0=>by simp[rs]
 |r+1=>by
  show(rs mask h r).2 / 32=_;rw[pd mask h r,Nat.div_div_eq_div_mul,qDE]
theorem t9(mask:Nat)(h:Int)(r:Nat)(O:13<=r):(rs mask h r).2=0:=by
 rw[pd];have h1:=jM h;have h2:32^13<=32^r:=qBp dD O;have h3:(2:Nat)^64<32^13:=dD
 exact Nat.div_eq_of_lt lL
def f5(mask i:Nat):Nat:=(i*5+1) % (mask+1)
def it5(mask:Nat):Nat->Nat->Nat
 |0,i=>i
 |n+1,i=>it5 mask n (f5 mask i)
theorem zJo(mask:Nat):∀(a b i:Nat),it5 mask (a+b) i=it5 mask b (it5 mask a i)
 |0,b,i=>by rw[Nat.zero_add];rfl
 |a+1,b,i=>by
  rw[show a+1+b=(a+b)+1 by lia];show it5 mask (a+b) (f5 mask i)=it5 mask b (it5 mask a$ f5 mask i);exact zJo mask a b _
theorem wI(mask:Nat)(h:Int)(n:Nat):(rs mask h$ 13+n).1=it5 mask n (rs mask h 13).1:=by
 induction n with
 |zero=>rfl
 |succ n O=>
  show(leap mask (rs mask h$ 13+n).1 (rs mask h$ 13+n).2).1=_;rw[t9 mask h (13+n) lL,O,show n+1=n+1 from rfl,zJo mask n 1];show((it5 mask n _)*5+1+0 / 32) % (mask+1)=f5 mask (it5 mask n _);unfold f5;simp
def Msk(mask:Nat):Prop:=mask=7\/mask=31\/mask=127\/mask=511
def orb(mask:Nat):Nat->Nat->List Nat
 |0,_=>[]
 |n+1,i=>i::orb mask n (f5 mask i)
theorem oO(mask:Nat):∀(n i s:Nat),s∈orb mask n i->∃a,a<n/\it5 mask a i=s
 |0,i,s,h=>by simp[orb]at h
 |n+1,i,s,h=>by
  rcases qAQ.mp h with z|z
  .exact ⟨0,lL,z.symm⟩
  .obtain ⟨a,O,e⟩:=oO mask n (f5 mask i) s z;exact⟨a+1,lL,e⟩
theorem va(O:Msk mask):(List.range$ mask+1).all (λs=>(orb mask (mask+1) 0).contains s)=true/\it5 mask (mask+1) 0=0:=by
 rcases O with rfl|rfl|rfl|rfl
 .exact ⟨kK,kK⟩
 .exact ⟨kK,kK⟩
 .exact ⟨kK,kK⟩
 .exact ⟨kK,kK⟩
theorem cyc(V:Msk mask)(i s:Nat)(hi:i<=mask)(hs:s<=mask):∃r,r<=mask/\it5 mask r i=s:=by
 obtain⟨h1,h2⟩:=va V
 have get:∀x,x<=mask->∃a,a<mask+1/\it5 mask a 0=x:=λx W=>by
  have:=qBB.mp h1 x$ qAz.mpr lL;exact oO mask (mask+1) 0 x (by simpa using this)
 obtain⟨a,ha,O⟩:=get i hi;obtain⟨b,hb,S⟩:=get s hs
 by_cases c:a<=b
 .refine ⟨b-a,lL,?_⟩;rw[<-O,<-zJo,show a+(b-a)=b by lia,S]
 .refine ⟨mask+1-a+b,lL,?_⟩;rw[<-O,<-zJo,show a+(mask+1-a+b)=mask+1+b by lia,zJo,h2,S]
theorem rh(O:Msk mask)(h:Int)(s:Nat)(hs:s<=mask):∃r,r<=13+mask/\(rs mask h r).1=s:=by
 obtain⟨r,S,e⟩:=cyc O (rs mask h 13).1 s (ow mask h 13) hs;exact⟨13+r,lL,by rw[wI,e]⟩
theorem ja{L:List Nat}(O:L.length<=mask):∃s,s<=mask/\s∉L:=by
 apply qBI;intro h
 have sub:∀s,s∈List.range (mask+1)->s∈L:=λs hs=>by
  apply qBI;intro q;exact h ⟨s,by have:=qAz.mp hs;lia,q⟩
 have:=(List.nodup_range (n:=mask+1)).length_le_of_subset sub;rw[qBJ]at this;lia
theorem vc(O:Msk mask)(h:Int){L:List Nat}(S:L.length<=mask):∃n,n<10*turns mask/\(pr mask h n).j∉L:=by
 obtain⟨s,hs,q⟩:=ja S;obtain⟨r,V,e⟩:=rh O h s hs;refine⟨stt mask h r,?_,?_⟩
 .have:=tP mask h r;unfold turns;lia
 .have:=zGw mask h r 0$ qAm _;rw[Nat.add_zero]at this;rw[this];show(rs mask h r).1+0∉L;rw[Nat.add_zero,e];exact q
theorem zKq(V:Msk mask)(h:Int){L:List Nat}(W:L.length<=mask):∃n,n<10*turns mask/\(pr mask h n).j∉L/\∀m,m<n->(pr mask h m).j∈L:=by
 obtain⟨n,hn,q⟩:=vc V h W
 induction n using Nat.strongRecOn with
 |_ n ih=>
  by_cases c:∃m,m<n/\(pr mask h m).j∉L
  .obtain ⟨m,O,qm⟩:=c;exact ih m O lL qm
  .refine ⟨n,hn,q,λm S=>?_⟩;apply qBI;intro z;exact c ⟨m,S,z⟩
structure TOk(t:SetTable)(hs:List Int):Prop where
 m:Msk t.mask
 d:t.dummies=#[]
 r:ik t.place.toList
 l:∀j∈t.place.toList,j<=t.mask
 n:t.place.size=hs.length
 f:t.place.size<=t.mask
 reach:∀(i j:Nat)(h:Int),t.place[i]?=some j->hs[i]?=some h->∃n,(pr t.mask h n).j=j/\∀m,m<n->(pr t.mask h m).j∈t.place.toList
theorem sv(O S:Nat)(led:Bool):TOk (SetTable.fresh O S led) [] :=
 ⟨.inl rF,rF,List.Pairwise.nil,(λj h=>absurd (show j∈([]:List Nat) from h) sS),rF,qAm _,(λi j h _ e=>by simp at e)⟩
theorem oZ(j:Nat):has #[] j=false:=by
 unfold SetTable.has;simp
section
variable{t:SetTable}{hs:List Int}
theorem i5(T:TOk t hs)(e:t.place[i]?=some j):t.slot j= .live i:=by
 have b:=(zFq T.r j).at T.r e;unfold slot;rw[b];show(if(t.place[i]?==some j)=true then _ else _)=_;rw[e];simp
theorem nR(T:TOk t hs)(h:j∉t.place.toList):t.slot j= .empty:=by
 unfold slot
 have e:(t.place[below t.place j]?==some j)=false:=by
  rw[qBA];intro z;exact h (qAN (i:=below t.place j)$ by rw[qAv];exact z)
 simp only[e,T.d,oZ];simp
theorem xL(h:j∈xs.toList):∃i:Nat,xs[i]?=some j:=by
 obtain⟨i,hi,e⟩:=qBG.mp h;exact⟨i,by rw[<-qAv];exact qAa.mpr ⟨hi,e⟩⟩
def Oth(t:SetTable)(hashAt:Nat->Int)(h:Int)(m:Nat):Prop:=∃i:Nat,t.place[i]?=some (pr t.mask h m).j/\hashAt i≠h
theorem tm(t:SetTable)(h:Int)(n:Nat):t.advance (pr t.mask h n)=pr t.mask h (n+1):=rfl
theorem wx(T:TOk t hs)(hashAt:Nat->Int)(h:Int)(hN:(pr t.mask h N).j∉t.place.toList)(hb:∀m,m<N->(pr t.mask h m).j∈t.place.toList):∀(d n O:Nat),N=n+d->d<O ->
  (probe.go t hashAt h O (pr t.mask h n)=some (.empty (pr t.mask h N).j none)/\∀m,n<=m->m<N->Oth t hashAt h m) \/
  ∃m i,n<=m/\m<N/\t.place[i]?=some (pr t.mask h m).j/\hashAt i=h/\probe.go t hashAt h O (pr t.mask h n)=some (.candidate (pr t.mask h m).j i$ pr t.mask h$ m+1)/\∀S,n<=S->S<m->Oth t hashAt h S
 |0,n,O+1,e,_=>by
  have e:N=n:=lL
  subst e;left;refine⟨?_,λm h1 h2=>lL⟩;unfold probe.go;rw[nR T hN];show some (Met.empty _ (pr t.mask h N).dummy)=_;rw[ui]
 |d+1,n,O+1,e,hf=>by
  obtain⟨i,V⟩:=xL$ hb n lL;unfold probe.go;rw[i5 T V]
  by_cases c:hashAt i=h
  .right;refine⟨n,i,qAF _,lL,V,c,?_,λS h1 h2=>lL⟩;show(if(hashAt i==h)=true then _ else _)=_;rw[qAD (by simpa using c),tm]
  .have q:(if(hashAt i==h)=true then some (Met.candidate (pr t.mask h n).j i$ t.advance$ pr t.mask h n) else probe.go t hashAt h O (t.advance$ pr t.mask h n))=probe.go t hashAt h O (pr t.mask h$ n+1):=by
    rw[qAC (by simpa using c),tm]
   rcases wx T hashAt h hN hb d (n+1) O lL lL with⟨z1,W⟩|⟨m,i',z1,W,z3,z4,z5,z6⟩
   .left;refine⟨q.trans z1,λm h1 h2=>?_⟩
    by_cases cm:m=n
    .subst cm;exact⟨i,V,c⟩
    .exact W m lL h2
   .right;refine⟨m,i',lL,W,z3,z4,q.trans z5,λS h1 h2=>?_⟩
    by_cases cm:S=n
    .subst cm;exact⟨i,V,c⟩
    .exact z6 S lL h2
 |_,_,0,_,h=>lL
theorem zL1(xs:Array α)(p:Nat)(x:α)(O:p<=xs.size):(insertAt xs p x).toList=xs.toList.take p++x::xs.toList.drop p:=by
 unfold insertAt;rw[qCF,Array.toList_push,qCk,qCk,List.extract_eq_drop_take,List.extract_eq_drop_take];rw[qBC (l:=xs.toList.drop p) sS];simp
theorem uf(S:ik xs.toList)(W:j∉xs.toList):ik (insertAt xs (below xs j) j).toList:=by
 have B:=zFq S j;rw[zL1 _ _ _ B.le];refine List.pairwise_append.mpr ⟨S.sublist$ List.take_sublist _ _,List.pairwise_cons.mpr ⟨λy O=>?_,S.sublist$ List.drop_sublist _ _⟩,λx hx y O=>?_⟩
 .obtain ⟨i,hi,rfl⟩:=qBG.mp O;rw[qBm]at hi
  have e:xs[below xs j+i]?=some (xs.toList.drop$ below xs j)[i]:=by
   rw[<-qAv,<-qCg];simp
  have h1:=B.hi _ _ (qDF _ i) e;have h2:(xs.toList.drop$ below xs j)[i]≠j:=λz=>W$ z▸List.mem_of_mem_drop O;lia
 .have V:x<j:=by
   obtain⟨i,hi,rfl⟩:=qBG.mp hx;rw[qAX]at hi
   have e:xs[i]?=some (xs.toList.take$ below xs j)[i]:=by
    rw[<-qAv,<-qCZ$ show i<below xs j by lia];exact qAx _
   exact B.lo i _ lL e
  rcases qAQ.mp O with z|z
  .rw [z];exact V
  .obtain ⟨i,hi,rfl⟩:=qBG.mp z;rw[qBm]at hi
   have e:xs[below xs j+i]?=some (xs.toList.drop$ below xs j)[i]:=by
    rw[<-qAv,<-qCg];simp
   have h1:=B.hi _ _ (qDF _ i) e;lia
theorem zHr{O:Type}{L:List α}{M:List O}(hl:L.length=M.length){p:Nat}(hp:p<=L.length){x:α}{y:O}{u:α}{v:O}(h1:(L.take p++x::L.drop p)[i]?=some u)(h2:(M.take p++y::M.drop p)[i]?=some v) :
  (u=x/\v=y)\/∃S:Nat,L[S]?=some u/\M[S]?=some v:=by
 have V:(L.take p).length=p:=by rw[qAX];lia
 have W:(M.take p).length=p:=by rw[qAX];lia
 by_cases c:i<p
 .rw [qBf lL,qCZ c]at h1 h2;exact .inr ⟨i,h1,h2⟩
 .rw [qCB lL]at h1 h2;rw[V]at h1;rw[W]at h2
  cases e:i-p with
  |zero=>
   rw[e]at h1 h2;exact .inl ⟨(by simpa using h1.symm),(by simpa using h2.symm)⟩
  |succ k=>
   rw[e]at h1 h2;rw[qCl,qCg]at h1 h2;exact .inr ⟨p+k,h1,h2⟩
theorem wD(T:TOk t hs)(h:Int)(hN:(pr t.mask h N).j∉t.place.toList)(hb:∀m,m<N->(pr t.mask h m).j∈t.place.toList)(hf:t.place.size+1<=t.mask) :
  TOk (t.put (pr t.mask h N).j).1 (hs.take (t.put (pr t.mask h N).j).2++h::hs.drop (t.put (pr t.mask h N).j).2):=by
 have B:=zFq T.r (pr t.mask h N).j;have ep:(t.put (pr t.mask h N).j).2=below t.place (pr t.mask h N).j:=rfl;have O:(t.put (pr t.mask h N).j).1.place=insertAt t.place (below t.place (pr t.mask h N).j) (pr t.mask h N).j:=rfl;have em:(t.put (pr t.mask h N).j).1.mask=t.mask:=rfl;have tl:=zL1 t.place (below t.place (pr t.mask h N).j) (pr t.mask h N).j B.le
 have S:∀j,j∈t.place.toList->j∈(insertAt t.place (below t.place (pr t.mask h N).j) (pr t.mask h N).j).toList:=λj V=>by
  rw[tl];have:j∈t.place.toList.take (below t.place (pr t.mask h N).j)++t.place.toList.drop (below t.place (pr t.mask h N).j):=by rw[List.take_append_drop];exact V
  rcases qAK.mp this with z|z
  .exact qAj _ z
  .exact qAr _$ qAS _ z
 have sz:(insertAt t.place (below t.place (pr t.mask h N).j) (pr t.mask h N).j).size=t.place.size+1:=by
  have:=qAf List.length tl;simp only[qBv,qAV,qAd,qAX,qBm]at this;have:=B.le;lia
 refine⟨T.m,?_,uf T.r hN,λj V=>?_,?_,?_,λi j h' e1 e2=>?_⟩
 .show (if has t.dummies (pr t.mask h N).j then _ else t.dummies)=#[];rw[T.d,oZ];rfl
 .rw [em];rw[O,tl]at V;rcases qAK.mp V with z|z
  .exact T.l j$ qCm z
  .rcases qAQ.mp z with z|z
   .rw [z];exact wp _ _ _
   .exact T.l j$ List.mem_of_mem_drop z
 .rw [O,sz,ep,qAV,qAd,qAX,qBm];have:=B.le;have:=T.n;lia
 .rw [O,sz];exact hf
 .rw [em];rw[O,<-qAv,tl]at e1;rw[ep]at e2;rw[O];rcases zHr (L:=t.place.toList) (M:=hs) (by simpa using T.n) (by simpa using B.le) e1 e2 with⟨W,z2⟩|⟨i',W,z2⟩
  .subst W z2;exact⟨N,rF,λm hm=>S _$ hb m hm⟩
  .obtain ⟨n,q1,q2⟩:=T.reach i' j h' (by rw[<-qAv];exact W) z2;exact⟨n,q1,λm hm=>S _$ q2 m hm⟩
end
structure Ow(mask:Nat)(hs:List Int)(owner:Array (Option Nat))(sl:List Nat):Prop where
 z:owner.size=mask+1
 n:sl.length=hs.length
 nd:sl.Nodup
 l:∀j∈sl,j<=mask
 a:∀(k j:Nat),sl[k]?=some j->owner[j]?=some (some k)
 e:∀j,j<=mask->j∉sl->owner[j]?=some none
 reach:∀(k j:Nat)(h:Int),sl[k]?=some j->hs[k]?=some h->∃n,(pr mask h n).j=j/\∀m,m<n->(pr mask h m).j∈sl
theorem zLt{owner:Array (Option Nat)}{V:List Nat}(O:Ow mask hs owner V)(W:j<=mask):((owner.getD j$ some 0).isNone=true)↔j∉V:=by
 have S:j<owner.size:=by rw[O.z];lia
 have eD:owner.getD j (some 0)=owner[j]:=by simp[Array.getD,S]
 rw[eD];constructor
 .intro h q;obtain⟨k,hk,e⟩:=qBG.mp q;have:=O.a k j$ qAa.mpr ⟨hk,e⟩;rw[Array.getElem?_eq_getElem S]at this;rw[qAh this]at h;simp at h
 .intro q;have:=O.e j W q;rw[Array.getElem?_eq_getElem S]at this;rw[qAh this];rfl
theorem oQ{owner:Array (Option Nat)}{sl:List Nat}(hm:Msk mask)(O:Ow mask hs owner sl)(hl:sl.length<=mask)(h:Int)(hN:(pr mask h N).j∉sl)(hb:∀m,m<N->(pr mask h m).j∈sl){R:Nat}(hR:(rs mask h R).1∉sl) :
  ∀(S r:Nat),stt mask h r<=N->R<r+S->layClean.free mask owner S (rs mask h r).1 (rs mask h r).2=some (pr mask h N).j
 |0,r,h1,h2=>by
  exfalso
  have key:∀d,stt mask h R<=stt mask h (R+d)/\(0<d->stt mask h R<stt mask h (R+d)):=by
   intro d
   induction d with
   |zero=>exact⟨qAF _,λz=>lL⟩
   |succ d ih=>
    have e:stt mask h (R+(d+1))=stt mask h (R+d)+(runEnd mask (rs mask h$ R+d).1-(rs mask h$ R+d).1+1):=rfl;exact⟨lL,λ_=>lL⟩
  obtain⟨d,rfl⟩:∃d,r=R+d:=⟨r-R,lL⟩;have hd:0<d:=lL
  have:=(key d).2 hd;have q:=hb (stt mask h R) lL;have e:=zGw mask h R 0$ qAm _;rw[Nat.add_zero]at e;rw[e]at q;exact hR (by simpa using q)
 |S+1,r,h1,h2=>by
  have rl:=mE mask _$ ow mask h r;unfold layClean.free
  cases q:(List.range$ runEnd mask (rs mask h r).1+1-(rs mask h r).1).find? λk=>(owner.getD ((rs mask h r).1+k)$ some 0).isNone with
  |some k=>
   have W:=qCn q;have q2:=qCJ q;rw[qAz]at q2;have W:((owner.getD ((rs mask h r).1+k)$ some 0).isNone)=true:=W;rw[zLt O lL]at W;have e:=zGw mask h r k lL;have hk:(pr mask h$ stt mask h r+k).j=(rs mask h r).1+k:=by rw[e]
   have c1:¬stt mask h r+k<N:=λz=>W$ hk▸hb _ z
   have c2:¬N<stt mask h r+k:=λz=>by
    obtain⟨d,hd⟩:∃d,N=stt mask h r+d:=⟨N-stt mask h r,lL⟩;have ad:d<k:=lL
    rw[List.find?_eq_some_iff_append]at q;obtain⟨_,as,bs,e1,e2⟩:=q
    have la:as.length=k:=by
     have:=qAf (λl=>l[as.length]?) e1;simp at this
     by_cases cc:as.length<runEnd mask (rs mask h r).1+1-(rs mask h r).1
     .rw [qBq cc]at this;exact qAh this
     .rw [qDG$ by simp;lia]at this
      cases this
    have ab:d∈as:=by
     have aa:(List.range$ runEnd mask (rs mask h r).1+1-(rs mask h r).1)[d]?=some d:=qBq lL;rw[e1,qBf lL]at aa;exact qAN aa
    have z1:=e2 d ab;have ed:=zGw mask h r d lL;have V:(pr mask h N).j=(rs mask h r).1+d:=by rw[hd,ed]
    have z2:((owner.getD ((rs mask h r).1+d)$ some 0).isNone)=true:=(zLt O lL).mpr$ V▸hN;rw[z2]at z1;simp at z1
   have eN:N=stt mask h r+k:=lL
   show some ((rs mask h r).1+k)=_;rw[eN,hk]
  |none=>
   have W:=qBK.mp q;refine oQ hm O hl h hN hb hR S (r+1) ?_ lL;show stt mask h r+(runEnd mask (rs mask h r).1-(rs mask h r).1+1)<=N;apply qBI;intro c;obtain⟨d,hd⟩:∃d,N=stt mask h r+d:=⟨N-stt mask h r,lL⟩;have ed:=zGw mask h r d lL;have V:(pr mask h N).j=(rs mask h r).1+d:=by rw[hd,ed]
   have z1:=W d$ qAz.mpr lL;have z2:((owner.getD ((rs mask h r).1+d)$ some 0).isNone)=true:=(zLt O lL).mpr$ V▸hN;exact z1 z2
theorem vR{owner:Array (Option Nat)}{S:List Nat}(V:Msk mask)(O:Ow mask hs owner S)(W:S.length<=mask)(h:Int) :
  ∃N,(pr mask h N).j∉S/\(∀m,m<N->(pr mask h m).j∈S)/\layClean.free mask owner (turns mask) (bits h % (mask+1)) (bits h)=some (pr mask h N).j:=by
 obtain⟨N,_,hN,hb⟩:=zKq V h W;obtain⟨s,aa,q⟩:=ja W;obtain⟨R,hR,e⟩:=rh V h s aa;exact⟨N,hN,hb,oQ V O W h hN hb (R:=R) (by rw[e];exact q) (turns mask) 0 (qAm _)$ by unfold turns;lia⟩
theorem Ow.more{owner:Array (Option Nat)}{S:List Nat}(O:Ow mask hs owner S)(h:Int)(hN:(pr mask h N).j∉S)(hb:∀m,m<N->(pr mask h m).j∈S) :
  Ow mask (hs++[h]) (owner.setIfInBounds (pr mask h N).j$ some hs.length) (S++[(pr mask h N).j]):=by
 have hj:=wp mask h N;have hz:(pr mask h N).j<owner.size:=by rw[O.z];lia
 have one:∀{k j:Nat},(S++[(pr mask h N).j])[k]?=some j->(k<S.length/\S[k]?=some j)\/(k=S.length/\j=(pr mask h N).j):=λ{k j} e=>by
  by_cases c:k<S.length
  .rw [qBf c]at e;exact .inl ⟨c,e⟩
  .rw [qCB lL]at e
   have hk:k=S.length:=by
    have:=(qAa.mp e).1;simp at this;lia
   subst hk;exact .inr ⟨rF,by simpa using e.symm⟩
 refine⟨by rw[Array.size_setIfInBounds];exact O.z,by simp[O.n],?_,λj aa=>?_,λk j e=>?_,λj ab V=>?_,λk j h' e1 W=>?_⟩
 .refine qA6.mpr ⟨O.nd,qA5.mpr ⟨sS,qAt⟩,λa ha b ad=>?_⟩;have:b=(pr mask h N).j:=by simpa using ad
  subst this;intro z;subst z;exact hN ha
 .rcases qAK.mp aa with z|z
  .exact O.l j z
  .have:j=(pr mask h N).j:=by simpa using z
   rw[this];exact hj
 .rcases one e with⟨_,z⟩|⟨z1,z2⟩
  .have ae:j≠(pr mask h N).j:=λq=>hN$ q▸qAN z;rw[Array.getElem?_setIfInBounds_ne$ qAo ae];exact O.a k j z
  .subst z1 z2;rw[Array.getElem?_setIfInBounds_self_of_lt hz,O.n]
 .have h1:j∉S:=λq=>V$ qAj _ q;have h2:j≠(pr mask h N).j:=λq=>V (qAr _$ by simp[q]);rw[Array.getElem?_setIfInBounds_ne$ qAo h2];exact O.e j ab h1
 .rcases one e1 with⟨c,z⟩|⟨z1,z2⟩
  .rw [qBf$ by rw[<-O.n];exact c]at W;obtain⟨n,q1,q2⟩:=O.reach k j h' z W;exact⟨n,q1,λm hm=>qAj _$ q2 m hm⟩
  .subst z1 z2;rw[qCB (by rw[O.n];exact qAF _),O.n]at W;have:h'=h:=by simpa using W.symm
   subst this;exact⟨N,rF,λm hm=>qAj _$ hb m hm⟩
theorem xW(hm:Msk mask)(hs:List Int)(hl:hs.length<=mask):∃owner W,Ow mask hs owner W/\layClean mask hs.toArray=some owner:=by
 have key:∀(rest S:List Int) (owner:Array (Option Nat)) (W:List Nat),Ow mask S owner W->S.length+rest.length<=mask ->
   ∃V aa,Ow mask (S++rest) V aa/\rest.foldl (λ(acc:Option (Array (Option Nat)×Nat)) h=>do
    let(owner,k)<-acc
    let j<-layClean.free mask owner (turns mask) (bits h % (mask+1)) (bits h)
    pure (owner.setIfInBounds j (some k),k+1)) (some (owner,S.length))=some (V,(S++rest).length):=by
  intro rest
  induction rest with
  |nil=>intro S owner W O _;exact⟨owner,W,by rw[qA4];exact O,by rw[qA4];rfl⟩
  |cons h rest ih=>
   intro S owner W O hl;rw[qAd]at hl;obtain⟨N,hN,hb,ef⟩:=vR hm O (by rw[O.n];lia) h;have O2:=O.more h hN hb;obtain⟨o',s',O3,e3⟩:=ih (S++[h]) _ _ O2 (by rw[qAV];simp;lia);refine⟨o',s',by simpa using O3,?_⟩;rw[qBh]
   have e4:(do
    let(owner,k)<-(some (owner,S.length):Option (Array (Option Nat)×Nat))
    let j<-layClean.free mask owner (turns mask) (bits h % (mask+1)) (bits h)
    pure (owner.setIfInBounds j (some k),k+1))=some (owner.setIfInBounds (pr mask h N).j (some S.length),(S++[h]).length):=by
    show(do
     let j<-layClean.free mask owner (turns mask) (bits h % (mask+1)) (bits h)
     pure (owner.setIfInBounds j (some S.length),S.length+1))=_
    rw[ef];simp
   rw[e4,e3];simp
 have O0:Ow mask [] (Array.replicate (mask+1) none) []:=⟨Array.size_replicate,rF,qAt,(λj h=>absurd h qCo),(λk j e=>by rw[List.getElem?_nil]at e;cases e),(λj hj _=>by rw[Array.getElem?_replicate,qAD lL]),(λk j h e=>by rw[List.getElem?_nil]at e;cases e)⟩;obtain⟨o,W,O,e⟩:=key hs [] _ _ O0 (by simpa using hl);refine⟨o,W,by simpa using O,?_⟩;unfold layClean;rw[List.foldl_toArray];have e':=e;simp only[qCd,qBS]at e';show Option.map _ (hs.foldl _$ some (Array.replicate (mask+1) none,0))=_;rw[e'];rfl
theorem vU(hm:Msk mask)(hs:List Int)(hl:hs.length<=mask)(fi mo:Nat)(led plain:Bool):∃t V,laid mask fi mo led plain hs.toArray=some (t,V)/\t.mask=mask/\t.led=led/\t.plain=plain/\V.toList.Perm (List.range hs.length) /\
  TOk t (V.toList.map λk=>hs.getD k 0):=by
 obtain⟨owner,sl,O,e⟩:=xW hm hs hl
 have hg:∀j,j<=mask->owner.getD j none=(owner[j]?).getD none:=λj hj=>by
  have hz:j<owner.size:=by rw[O.z];lia
  simp[Array.getD,hz]
 have el:∀j,j<=mask->((owner.getD j none).map (j,·)=none↔j∉sl):=λj hj=>by
  rw[hg j hj];constructor
  .intro q z;obtain⟨k,hk,ek⟩:=qBG.mp z;rw[O.a k j$ qAa.mpr ⟨hk,ek⟩]at q
   cases q
  .intro q;rw[O.e j hj q];rfl
 have es:∀j k,j<=mask->((owner.getD j none).map (j,·)=some (j,k)↔sl[k]?=some j):=λj k hj=>by
  rw[hg j hj];constructor
  .intro q
   by_cases c:j∈sl
   .obtain ⟨k',hk,ek⟩:=qBG.mp c;have af:=qAa.mpr ⟨hk,ek⟩;rw[O.a k' j af]at q;have q:some (j,k')=some (j,k):=q;injection q with q;injection q with _ q;rw[<-q];exact af
   .rw [O.e j hj c]at q;cases q
  .intro q;rw[O.a k j q];rfl
 generalize W:(List.range$ mask+1).filterMap (λj=>(owner.getD j none).map (j,·))=S
 have aa:∀p,p∈S↔sl[p.2]?=some p.1:=λp=>by
  rw[<-W,List.mem_filterMap];constructor
  .rintro ⟨j,hj,q⟩;have ag:j<=mask:=by have:=qAz.mp hj;lia
   have:p.1=j:=by
    cases h:owner.getD j none with
    |none=>rw[h]at q;cases q
    |some k=>rw[h]at q;have q:some (j,k)=some p:=q;injection q with q;rw[<-q]
   subst this;exact(es p.1 p.2 ag).mp q
  .intro q;have hj:p.1<=mask:=O.l _$ qAN q;exact⟨p.1,qAz.mpr lL,(es p.1 p.2 hj).mpr q⟩
 have ab:ik (S.map (·.1)):=by
  have h1:(List.range$ mask+1).Pairwise (·<·):=List.pairwise_lt_range;rw[<-W,List.map_filterMap];refine List.Pairwise.filterMap _ (λa b ah x hx y hy=>?_) h1
  cases ha:owner.getD a none with
  |none=>rw[ha]at hx;cases hx
  |some k=>
   rw[ha]at hx;have hx:some a=some x:=hx
   cases hb:owner.getD b none with
   |none=>rw[hb]at hy;cases hy
   |some k'=>
    rw[hb]at hy;have hy:some b=some y:=hy;injection hx with hx;injection hy with hy;lia
 have ai:(S.map (·.2)).Nodup:=by
  have hr:S.Pairwise (λa b=>a.1<b.1):=qB0.mp ab;refine qB0.mpr$ hr.imp_of_mem λ{a b} ha hb ah q=>?_;have h1:=(aa a).mp ha;have h2:=(aa b).mp hb;rw[q]at h1;rw[h1]at h2;have:=qAh h2;lia
 have perm:(S.map (·.2)).Perm (List.range hs.length):=by
  refine(List.perm_ext_iff_of_nodup ai List.nodup_range).mpr λk=>?_;rw[qAz,qAG];constructor
  .rintro ⟨p,hp,rfl⟩;have:=(qAa.mp$ (aa p).mp hp).1;rw[O.n]at this;exact this
  .intro hk;have aj:k<sl.length:=by rw[O.n];exact hk
   exact⟨(sl[k],k),(aa _).mpr sS,rF⟩
 have ad:∀j,j∈S.map (·.1)↔j∈sl:=λj=>by
  rw[qAG];constructor
  .rintro ⟨p,hp,rfl⟩;exact qAN$ (aa p).mp hp
  .intro q;obtain⟨k,hk,ek⟩:=qBG.mp q;exact⟨(j,k),(aa _).mpr$ qAa.mpr ⟨hk,ek⟩,rF⟩
 have ae:S.length=hs.length:=by
  have:=perm.length_eq;simpa using this
 refine⟨{mask,place:=(S.map (·.1)).toArray,dummies:=#[],finger:=fi,led,moves:=mo,plain},(S.map (·.2)).toArray,?_,rF,rF,rF,by simpa using perm,?_⟩
 .unfold laid;rw[e];show some (_,_)=some (_,_);rw[W]
 .refine ⟨hm,rF,by simpa using ab,λj hj=>?_,by simp[ae],by simp[ae];exact hl,λi j h e1 e2=>?_⟩
  .exact O.l j ((ad j).mp$ by simpa using hj)
  .have e1:(S.map (·.1))[i]?=some j:=by simpa using e1
   have e2:((S.map (·.2)).map λk=>hs.getD k 0)[i]?=some h:=by simpa using e2
   cases q:S[i]? with
   |none=>rw[qAU,q]at e1;cases e1
   |some p=>
    rw[qAU,q]at e1;rw[qAU,qAU,q]at e2;have e1:p.1=j:=by simpa using e1
    have e2:hs.getD p.2 0=h:=by simpa using e2
    have hp:=(aa p).mp$ qAN q;rw[e1]at hp;have hk:p.2<hs.length:=by rw[<-O.n];exact(qAa.mp hp).1
    have hh:hs[p.2]?=some h:=by
     rw[<-e2,qBN];simp[hk]
    obtain⟨n,q1,q2⟩:=O.reach p.2 j h hp hh
    exact⟨n,q1,λm hm=>by
     have:=(ad _).mpr$ q2 m hm;simpa using this⟩
section
variable{prog:Program}{w:World}{K:Type}[DecidableEq K]{knd:KeyKind prog w K}{A:Around}{E:Value->Shared->Prop}{s:Shared}
theorem i7{v:Value}(h:carriedByValue v=true):∀a,v≠.ref a:=by
 intro a e;subst e;simp[carriedByValue]at h
theorem vX(n:Nat){v:Value}(h:carriedByValue v=true):ofAClassStatement n v=pure false:=by
 cases v with
 |ref a=>exact absurd rF$ i7 h a
 |_=>cases n<;>(unfold ofAClassStatement;rfl)
theorem wg{k:List K}{Q:Bool->Shared->Prop}(hk:IsTupleKey knd s.heap k b)(h:Q false s):wpAny (model prog w) A (ofAClassStatement 8$ .ref b) Q E s:=by
 have hT:=hk.typeIs;obtain⟨o,S,n,ho,_,hd,hi⟩:=hk;unfold ofAClassStatement;refine qAA$ wpAny_typeOf hT ?_;show wpAny _ _ (if("tuple"=="tuple")=true then _ else _) _ _ _;rw[qAD dD];refine qAA$ qAE ?_;show wpAny _ _ (if(!true)=true then _ else _) _ _ _;rw[qAC dD];show wpAny _ _ (seqItems? (.ref b) >>= _) _ _ _;refine qAA ?_;show wpAny _ _ (load b >>= _) _ _ _;refine qAA$ wpAny_load ho ?_;rw[hd];refine qAE ?_;dsimp only;refine qAA ?_;show wpAny _ _ (forIn S _ _) _ _ s;rw[<-Array.forIn_toList];refine wpAny_forIn_list _ (λrest r s'=>r.1=none/\s'=s/\∀v∈rest,carriedByValue v=true) _ ?_ ?_ _ _ ⟨rF,rF,hi.byValue⟩
 .rintro v rest r s' ⟨V,rfl,O⟩;refine qAA$ qCK (vX _$ O v qAO) ?_;rw[qAC dD];exact qAE ⟨rF,rF,λu W=>O u$ qAS _ W⟩
 .rintro ⟨r1,r2⟩ s' ⟨V,rfl,_⟩;have V:r1=none:=V;subst V;exact qAE h
theorem xV{k:List K}{stored:List Value}{Q:Bool->Shared->Prop}(hk:IsTupleKey knd s.heap k b)(hs:∀v∈stored,∃V b',v= .ref b'/\IsTupleKey knd s.heap V b')(h:Q false s):wpAny (model prog w) A (searchCouldBeSeen (.ref b) stored) Q E s:=by
 unfold searchCouldBeSeen;refine qAA ?_;refine wpAny_forIn_list _ (λrest r s'=>r.1=none/\s'=s/\∀v∈rest,∃V b',v= .ref b'/\IsTupleKey knd s.heap V b') _ ?_ ?_ _ _ ⟨rF,rF,hs⟩
 .rintro v rest r s' ⟨hr,rfl,S⟩;obtain⟨V,b',rfl,W⟩:=S v qAO;have O:∀u∈rest,∃V b',u= .ref b'/\IsTupleKey knd s'.heap V b':=λu aa=>S u$ qAS _ aa;dsimp only
  by_cases c:((b==b')||(carriedByValue (.ref b)&&carriedByValue (.ref b')))=true
  .rw [qAD c];exact qAE ⟨rF,rF,O⟩
  .rw [qAC c];refine qAA$ wpAny_eqIsQuiet_tuple hk ?_;rw[qAC dD];refine qAA$ wpAny_eqIsQuiet_tuple W ?_;rw[qAC dD];refine qAA$ wg hk ?_;rw[qAC dD];refine qAA$ wg W ?_;rw[qAC dD];exact qAE ⟨rF,rF,O⟩
 .rintro ⟨r1,r2⟩ s' ⟨hr,rfl,_⟩;have hr:r1=none:=hr;subst hr;exact qAE h
theorem vj(n:Nat){v:Value}(h:carriedByValue v=true):∃c,hashByValue n v=pure c:=by
 cases v with
 |ref a=>exact absurd rF$ i7 h a
 |_=>cases n<;>(unfold hashByValue;exact⟨_,rF⟩)
theorem yT{k:List K}{Q:Bool->Shared->Prop}(W:IsTupleKey knd s.heap k b)(h:∀c,Q c s):wpAny (model prog w) A (hashByValue 8$ .ref b) Q E s:=by
 have hT:=W.typeIs;obtain⟨o,S,n,ho,_,hd,hi⟩:=W;unfold hashByValue;refine qAA$ wpAny_specialOf hT F.slot_tuple_hash.lookup ?_;show wpAny _ _ (seqItems? (.ref b) >>= _) _ _ _;refine qAA ?_;show wpAny _ _ (load b >>= _) _ _ _;refine qAA$ wpAny_load ho ?_;rw[hd];refine qAE ?_;dsimp only;refine qAA ?_;show wpAny _ _ (forIn S _ _) _ _ s;rw[<-Array.forIn_toList];refine wpAny_forIn_list _ (λrest r s'=>s'=s/\∀v∈rest,carriedByValue v=true) _ ?_ ?_ _ _ ⟨rF,hi.byValue⟩
 .rintro v rest r s' ⟨rfl,O⟩;obtain⟨c,ec⟩:=vj 7$ O v qAO;rw[ec];refine qAA$ qAE ?_;split
  .exact qAE$ qAE$ h _
  .exact qAE ⟨rF,λu V=>O u$ qAS _ V⟩
 .rintro ⟨r1,r2⟩ s' ⟨rfl,_⟩
  cases r1 with
  |none=>exact qAE$ h _
  |some c=>exact qAE$ h _
end
section
variable{prog:Program}{w:World}{K:Type}[DecidableEq K]{knd:KeyKind prog w K}{A:Around}{E:Value->Shared->Prop}{s:Shared}
def en(knd:KeyKind prog w K)(p:List K×Addr):Int×Value:=(tupleKeyHash knd p.1,.ref p.2)
def byt(w:World):Bool:=w.params.followText "set-order"
structure SetX(knd:KeyKind prog w K)(h:Heap)(a:Addr)(xs:List (List K×Addr))(o:Obj)(es:Array (Int×Value))(ep:Nat)(t:SetTable):Prop where
 ho:h.get? a=some o
 ex:o.ExactSet
 hd:o.data= .set es ep t
 el:es.toList=xs.map (en knd)
 ok:TOk t (xs.map λp=>tupleKeyHash knd p.1)
 room:xs.length*5<t.mask*3
 nd:(xs.map (·.1)).Nodup
 ky:∀p∈xs,IsTupleKey knd h p.1 p.2
 ld:t.led= !byt w
section
variable{a:Addr}{xs:List (List K×Addr)}{o:Obj}{es:Array (Int×Value)}{ep:Nat}{t:SetTable}
theorem SetX.at(X:SetX knd s.heap a xs o es ep t)(i:Nat):es[i]?=(xs[i]?).map (en knd):=by
 rw[<-qAv,X.el,qAU]
theorem SetX.size(X:SetX knd s.heap a xs o es ep t):es.size=xs.length:=by
 have:=qAf List.length X.el;simpa using this
theorem SetX.fits(X:SetX knd s.heap a xs o es ep t):t.fits es.size=true:=by
 unfold SetTable.fits;have h1:t.place.size=es.size:=by rw[X.ok.n,X.size];simp
 have h2:t.fill<=t.mask:=by
  unfold fill;rw[X.ok.d];exact X.ok.f
 rw[h1];simp[h2]
theorem SetX.state(X:SetX knd s.heap a xs o es ep t){Q:(Array (Int×Value)×Nat×SetTable)->Shared->Prop}(h:Q (es,ep,t) s):wpAny (model prog w) A (setState a) Q E s:=wpAny_setState_of X.ho X.hd X.fits h
theorem vD{m:Nat}(h:Msk m):(m % 2==0)=false:=by
 rcases h with rfl|rfl|rfl|rfl<;>decide
theorem SetX.has(X:SetX knd s.heap a xs o es ep t)(e:t.place[i]?=some j):∃p,xs[i]?=some p:=by
 have h1:i<t.place.size:=(qDD.mp e).1;have h2:=X.ok.n;rw[qAB]at h2;exact⟨xs[i]' lL,sS⟩
theorem mU{c:Bool}{m:Sem Bool}{u:String}{O:Unit->Sem α}{Q:α->Shared->Prop}(S:∀f:Bool->Sem α,wpAny (model prog w) A (f false) Q E s->wpAny (model prog w) A (m >>= f) Q E s)(h:wpAny (model prog w) A (O ()) Q E s) :
  wpAny (model prog w) A (if c=true then(m >>= λl=>if l=true then(unsupported u >>= O) else O ()) else O ()) Q E s:=by
 by_cases z:c=true
 .rw [qAD z];exact S _ h
 .rw [qAC z];exact h
theorem sM(hu:A.units<cLine)(X:SetX knd s.heap a xs o es ep t){k:List K}(hk:IsTupleKey knd s.heap k b)(hN:(pr t.mask (tupleKeyHash knd k) N).j∉t.place.toList)(hb:∀m,m<N->(pr t.mask (tupleKeyHash knd k) m).j∈t.place.toList)(aj:N<10*turns t.mask)
  {Q:SetFound->Shared->Prop} (h1:k∈xs.map (·.1)->Q (.there none) s) (h2:k∉xs.map (·.1)->Q (.free (pr t.mask (tupleKeyHash knd k) N).j false) s) :
  ∀(d n O:Nat)(S:Option Probe),N=n+d->d<O->S.getD (t.probeStart$ tupleKeyHash knd k)=pr t.mask (tupleKeyHash knd k) n ->
   (∀m,m<n->∃(i:Nat)(p:List K×Addr),t.place[i]?=some (pr t.mask (tupleKeyHash knd k) m).j/\xs[i]?=some p/\p.1≠k)->wpAny (model prog w) A (setSearchFrom a (.ref b) (tupleKeyHash knd k) true O S) Q E s:=by
 intro d
 induction d using Nat.strongRecOn with
 |_ d ih=>
  intro n O S e hf af W;obtain⟨O,rfl⟩:∃f,O=f+1:=⟨O-1,lL⟩;unfold setSearchFrom;refine qAA$ X.state ?_;show wpAny _ _ (if(t.mask % 2==0)=true then _ else _) _ _ _;rw[vD X.ok.m,qAC dD]
  have ab:∀m,Oth t (λi=>(es[i]?.map (·.1)).getD 0) (tupleKeyHash knd k) m->∃(i:Nat)(p:List K×Addr),t.place[i]?=some (pr t.mask (tupleKeyHash knd k) m).j/\xs[i]?=some p/\p.1≠k:=λm ⟨i,ei,hi⟩=>by
   obtain⟨p,ad⟩:=X.has ei;refine⟨i,p,ei,ad,λz=>hi ?_⟩;show(es[i]?.map (·.1)).getD 0=_;rw[X.at i,ad,<-z];rfl
  rw[af];rcases wx X.ok (λi=>(es[i]?.map (·.1)).getD 0) (tupleKeyHash knd k) hN hb d n (10*turns t.mask) e lL with⟨z1,z2⟩|⟨m,i,z1,z2,z3,z4,z5,z6⟩
  .have z1:t.probe (λi=>(es[i]?.map (·.1)).getD 0) (tupleKeyHash knd k) (pr t.mask (tupleKeyHash knd k) n)=some (.empty (pr t.mask (tupleKeyHash knd k) N).j none):=z1
   erw [z1]
   refine qAE$ h2 λhm=>?_;obtain⟨p,hp,rfl⟩:=qAG.mp hm;obtain⟨i,hi,ei⟩:=qBG.mp hp;have V:xs[i]?=some p:=qAa.mpr ⟨hi,ei⟩;have ak:i<t.place.size:=by rw[X.ok.n,qAB];exact hi
   have aa:t.place[i]?=some t.place[i]:=sS
   obtain⟨q,q1,q2⟩:=X.ok.reach i t.place[i] (tupleKeyHash knd p.1) aa (by rw[qAU,V];rfl)
   have ag:q<N:=by
    apply qBI;intro c
    by_cases cq:q=N
    .subst cq;exact hN (by rw[q1];exact qAN (i:=i)$ by rw[qAv];exact aa)
    .exact hN$ q2 N lL
   have:∃(i':Nat)(p':List K×Addr),t.place[i']?=some (pr t.mask (tupleKeyHash knd p.1) q).j/\xs[i']?=some p'/\p'.1≠p.1:=by
    by_cases c:q<n
    .exact W q c
    .exact ab q$ z2 q lL ag
   obtain⟨i',p',w1,w2,w3⟩:=this;rw[q1]at w1
   have:i'=i:=by
    rcases Nat.lt_trichotomy i' i with z|z|z
    .have:=zFg X.ok.r z w1 aa;lia
    .exact z
    .have:=zFg X.ok.r z aa w1;lia
   subst this;rw[V]at w2
   cases w2
   exact w3 rF
  .have z5:t.probe (λi=>(es[i]?.map (·.1)).getD 0) (tupleKeyHash knd k) (pr t.mask (tupleKeyHash knd k) n)=some (.candidate (pr t.mask (tupleKeyHash knd k) m).j i$ pr t.mask (tupleKeyHash knd k)$ m+1):=z5
   erw [z5]
   obtain⟨p,V⟩:=X.has z3;have hp:=X.ky p$ qAN V;have ae:es[i]?=some (tupleKeyHash knd p.1,.ref p.2):=by rw[X.at i,V];rfl
   refine mU (λf hf=>qAA$ xV hk ?_ hf) ?_
   .intro v hv;obtain⟨q,hq,rfl⟩:=qAG.mp hv
    have hq:q∈es.toList:=by
     have:=(Array.mem_filter.mp$ qDg.mp hq).1;exact qDg.mpr this
    rw[X.el]at hq;obtain⟨p',ah,rfl⟩:=qAG.mp hq;exact⟨p'.1,p'.2,rF,X.ky p' ah⟩
   dsimp only;rw[ae];dsimp only;refine qAA$ qBF$ wpAny_eqBool_tuple hu hp hk ?_;refine qAA$ X.state ?_;dsimp only
   by_cases c:p.1=k
   .rw [qAD$ by simp[c]];exact qAE$ h1$ qAG.mpr ⟨p,qAN V,c⟩
   .rw [qAC$ by simp[c]];have ai:t.sameMemory t.moves t.mask=some true:=by unfold SetTable.sameMemory;simp
    rw[ai];dsimp only;rw[qAD rF,i5 X.ok z3];dsimp only;rw[ae];dsimp only;refine qAA$ wpAny_isSame_ref_self ?_;rw[qAD rF];refine qAA$ qAE ?_;dsimp only;rw[qAC$ by simp[c]];refine ih (N-(m+1)) lL (m+1) O (some _) lL lL rF ?_;intro q hq
    by_cases cq:q<n
    .exact W q cq
    by_cases cm:q=m
    .subst cm;exact⟨i,p,z3,V,c⟩
    .exact ab q$ z6 q lL lL
end
end
section
variable{prog:Program}{w:World}{K:Type}[DecidableEq K]{knd:KeyKind prog w K}{A:Around}{E:Value->Shared->Prop}{s:Shared}
variable{a:Addr}{xs:List (List K×Addr)}{o:Obj}{es:Array (Int×Value)}{ep:Nat}{t:SetTable}
theorem pO{h h':Heap}{k:List K}(x:IsTupleKey knd h k b)(S:h.get? a=some o)(V:o.data= .set es ep t)(hs:Heap.SameBut a h h'):IsTupleKey knd h' k b:=by
 obtain⟨W,its,n,O,p2,p3,p4⟩:=x;refine⟨W,its,n,(hs.2 b λz=>?_).trans O,p2,p3,p4⟩;subst z;have:=qAh$ O.symm.trans S;subst this;rw[V]at p3;exact nomatch p3
theorem ou{h:Heap}(V:h.get? a=some o)(S:o.data= .set es ep t)(O:Array (Int×Value))(t':SetTable):(h.update a$ Obj.putSet O t').get? a=some {o with data:=.set O (ep+1) t'}:=by
 have:=qBW (Obj.putSet O t') V (by rw[putSet_of O t' S];rfl)
 rwa [putSet_of O t' S]at this
theorem wy{h:Heap}(S:h.get? a=some o)(ex:o.ExactSet)(V:o.data= .set es ep t){O:Array (Int×Value)}{t':SetTable}{ys:List (List K×Addr)}(W:O.toList=ys.map (en knd))(e2:TOk t' (ys.map λp=>tupleKeyHash knd p.1))(e3:ys.length*5<t'.mask*3)(e4:(ys.map (·.1)).Nodup)(e5:∀p∈ys,IsTupleKey knd h p.1 p.2)(e6:t'.led= !byt w) :
  SetX knd (h.update a$ Obj.putSet O t') a ys {o with data:=.set O (ep+1) t'} O (ep+1) t' :=
 ⟨ou S V O t',ex,rF,W,e2,e3,e4,λp hp=>pO (e5 p hp) S V$ qAy h a _,e6⟩
theorem rS(b:Addr)(es:Array (Int×Value)):byScan (.ref b) es=false:=by
 unfold byScan;rfl
theorem qJ{m n:Nat}(O:Msk m)(h0:n*5<m*3)(h1:m*3<=(n+1)*5)(S:n+1<=306):Msk (sizeAbove (grown$ n+1)-1)/\n+1<=sizeAbove (grown$ n+1)-1/\(n+1)*5<(sizeAbove (grown$ n+1)-1)*3/\sizeAbove (grown$ n+1)<=512:=by
 rcases O with rfl|rfl|rfl|rfl
 .obtain rfl:n=4:=lL
  refine⟨by unfold Msk;decide +kernel,kK,kK,kK⟩
 .obtain rfl:n=18:=lL
  refine⟨by unfold Msk;decide +kernel,kK,kK,kK⟩
 .obtain rfl:n=76:=lL
  refine⟨by unfold Msk;decide +kernel,kK,kK,kK⟩
 .lia
theorem qr(ys:List (List K×Addr))(O:List Nat)(W:O.Perm (List.range ys.length)):(O.filterMap (ys[·]?)).map (λp=>tupleKeyHash knd p.1)=O.map (λk=>(ys.map λp=>tupleKeyHash knd p.1).getD k 0):=by
 have S:∀k∈O,k<ys.length:=λk V=>qAz.mp$ W.mem_iff.mp V;clear W
 induction O with
 |nil=>rfl
 |cons k ks ih=>
  have V:=S k qAO;have e:ys[k]?=some ys[k]:=by simp[V]
  rw[qBu,e];show tupleKeyHash knd ys[k].1::_=_::_;rw[ih λq hq=>S q$ qAS _ hq];congr 1;show _=(List.map (λp=>tupleKeyHash knd p.fst) ys).getD k 0;rw[qBN,qAU,e];rfl
theorem iS(ys:List α):(List.range ys.length).filterMap (ys[·]?)=ys:=by
 induction ys with
 |nil=>rfl
 |cons y ys O=>
  rw[qAd,List.range_succ_eq_map,qBu];show y::_=_;rw[List.filterMap_map];congr 1
theorem ul(ys:List α){O:List Nat}(S:O.Perm (List.range ys.length)):(O.filterMap (ys[·]?)).Perm ys:=by
 have:=S.filterMap (ys[·]?)
 rwa [iS]at this
theorem vb{s:Shared}{m n:Nat}(ho:s.heap.get? a=some o)(ex:o.ExactSet)(hd:o.data= .set es ep t)(e1:es.toList=xs.map (en knd))(e2:TOk t (xs.map λp=>tupleKeyHash knd p.1))(hn:xs.length=n+1)(h0:n*5<t.mask*3)(h1:t.mask*3<=(n+1)*5)(hc:n+1<=306)
  (e4:(xs.map (·.1)).Nodup) (e5:∀p∈xs,IsTupleKey knd s.heap p.1 p.2) (e6:t.led= !byt w) {Q:Unit->Shared->Prop} (h:∀h' ys o' ab ad t',Heap.SameBut a s.heap h'->ys.Perm xs->SetX knd h' a ys o' ab ad t'->Q () {s with heap:=h'}) :
  wpAny (model prog w) A (setRelay a$ grown$ n+1) Q E s:=by
 obtain⟨g1,g2,g3,g4⟩:=qJ e2.m h0 h1 hc;have ez:es.size=xs.length:=by have:=qAf List.length e1;simpa using this
 have S:t.fits es.size=true:=by
  unfold SetTable.fits;have z1:t.place.size=es.size:=by rw[e2.n,ez];simp
  have z2:t.fill<=t.mask:=by unfold fill;rw[e2.d];exact e2.f
  rw[z1];simp[z2]
 unfold setRelay;refine qAA$ wpAny_setState_of ho hd S ?_;dsimp only;have ae:sizeAbove (grown$ n+1)<=sizeLine:=qAR g4 kK;rw[qAC$ qCp.mpr ae];obtain⟨t',O,l1,l2,l3,l4,l5,l6⟩:=vU g1 (xs.map λp=>tupleKeyHash knd p.1) (by rw[qAB];lia) t.finger (t.movedTo$ sizeAbove (grown$ n+1)-1) t.led t.plain
 have lr:t.relaid (es.map (·.1)) (grown$ n+1)=some (t',O):=by
  unfold relaid
  have:es.map (·.1)=(xs.map λp=>tupleKeyHash knd p.1).toArray:=by
   apply Array.ext';rw[Array.toList_map,e1,qAb];rfl
  rw[this];exact l1
 rw[lr];rw[qAB]at l5;have V:=ul xs l5
 have W:(O.filterMap (es[·]?)).toList=(O.toList.filterMap (xs[·]?)).map (en knd):=by
  rw[Array.toList_filterMap,List.map_filterMap];congr 1;funext k;rw[<-qAv,e1,qAU]
 have aa:(O.filterMap (es[·]?)).size=es.size:=by
  rw[<-qBv,W,qAB,V.length_eq,ez]
 refine qAA ?_;show wpAny _ _ (if((O.filterMap (es[·]?)).size != es.size)=true then _ else _) _ _ _;rw[qAC$ by rw[aa];simp];refine qAE ?_;dsimp only;refine wpAny_storeSet_of ho hd ?_ (by rw[aa,ez,hn];exact qAR hc kK);refine h _ _ _ _ _ _ (qAy _ a _) V$ wy ho ex hd W ?_ ?_ ?_ (λp hp=>e5 p$ V.mem_iff.mp hp)$ l3.trans e6
 .rw [qr xs O.toList l5];exact l6
 .rw [V.length_eq,hn,l2];exact g3
 .exact (V.map (·.1)).nodup_iff.mpr e4
theorem ins_perm(L:List α)(p:Nat)(x:α):(L.take p++x::L.drop p).Perm (x::L):=by
 have h1:(L.take p++x::L.drop p).Perm (x::(L.take p++L.drop p)):=List.perm_middle
 rwa [List.take_append_drop]at h1
theorem qX{t:SetTable}(T:TOk t hs)(c:Bool):TOk (if c=true then t else {t with plain:=false}) hs/\(if c=true then t else {t with plain:=false}).mask=t.mask/\(if c=true then t else {t with plain:=false}).tooFull=t.tooFull/\(if c=true then t else {t with plain:=false}).led=t.led:=by
 cases c
 .exact ⟨⟨T.m,T.d,T.r,T.l,T.n,T.f,T.reach⟩,rF,rF,rF⟩
 .exact ⟨T,rF,rF,rF⟩
theorem yw(hu:A.units<cLine)(X:SetX knd s.heap a xs o es ep t){k:List K}(hk:IsTupleKey knd s.heap k b)(hc:xs.length+1<=306){Q:Bool->Shared->Prop}(h1:k∈xs.map (·.1)->Q false s)
  (h2:k∉xs.map (·.1)->∀h' ys o' O S t',Heap.SameBut a s.heap h'->ys.Perm ((k,b)::xs)->SetX knd h' a ys o' O S t'->Q true {s with heap:=h'}) :
  wpAny (model prog w) A (setAddHashed a (.ref b)$ tupleKeyHash knd k) Q E s:=by
 unfold setAddHashed setAddHashedIn;refine qBF$ qAA$ X.state ?_;dsimp only;rw[rS,qAC dD]
 have V:t.place.toList.length=xs.length:=by
  have:=X.ok.n;rw[qAB]at this;simpa using this
 have W:=X.room;obtain⟨N,ab,hN,hb⟩:=zKq X.ok.m (tupleKeyHash knd k) (L:=t.place.toList) (by rw[V];lia)
 have hT:10*turns t.mask<100000:=by
  rcases X.ok.m with z|z|z|z<;>rw[z]<;>decide +kernel
 unfold setSearch;refine qAA$ sM hu X hk hN hb ab ?_ ?_ N 0 100000 none lL lL rF λm hm=>absurd hm$ qDH m
 .intro z;exact qAE$ h1 z
 .intro z;dsimp only;refine qAA$ X.state ?_;dsimp only
  have ad:t.place.size+1<=t.mask:=by
   have:t.place.size=xs.length:=by simpa using V
   rcases X.ok.m with z|z|z|z<;>lia
  have T1:=wD X.ok (tupleKeyHash knd k) hN hb ad;have em:(t.put (pr t.mask (tupleKeyHash knd k) N).j).1.mask=t.mask:=rfl;have ed:(t.put (pr t.mask (tupleKeyHash knd k) N).j).1.led=t.led:=rfl;have B:=(zFq X.ok.r (pr t.mask (tupleKeyHash knd k) N).j).le;have ae:(t.put (pr t.mask (tupleKeyHash knd k) N).j).2=below t.place (pr t.mask (tupleKeyHash knd k) N).j:=rfl
  have fin:∀c:Bool,wpAny (model prog w) A (do
    storeSet a (SetTable.insertAt es (t.put (pr t.mask (tupleKeyHash knd k) N).j).2 (tupleKeyHash knd k,.ref b)) (if c=true then(t.put (pr t.mask (tupleKeyHash knd k) N).j).1 else {(t.put (pr t.mask (tupleKeyHash knd k) N).j).1 with plain:=false})
    if(!false&&(if c=true then(t.put (pr t.mask (tupleKeyHash knd k) N).j).1 else {(t.put (pr t.mask (tupleKeyHash knd k) N).j).1 with plain:=false}).tooFull)=true then do
     setRelay a (SetTable.grown$ es.size+1)
     pure true
    else pure true) Q E s:=by
   intro c;generalize hp:(t.put (pr t.mask (tupleKeyHash knd k) N).j).2=p at *
   generalize ht:(t.put (pr t.mask (tupleKeyHash knd k) N).j).1=t1 at *
   have aa:p<=es.size:=by
    rw[X.size,ae];have:t.place.size=xs.length:=by simpa using V
    lia
   obtain⟨T2,m2,f2,d2⟩:=qX T1 c;generalize af:(if c=true then t1 else {t1 with plain:=false})=t2 at *
   have el:(SetTable.insertAt es p (tupleKeyHash knd k,Value.ref b)).toList=(xs.take p++(k,b)::xs.drop p).map (en knd):=by
    rw[zL1 es p _ aa,X.el,qAI,qAi,List.map_take,List.map_drop];rfl
   have ip:=ins_perm xs p (k,b)
   have eT:(xs.map λp=>tupleKeyHash knd p.1).take p++tupleKeyHash knd k::(xs.map λp=>tupleKeyHash knd p.1).drop p=(xs.take p++(k,b)::xs.drop p).map λp=>tupleKeyHash knd p.1:=by
    rw[qAI,qAi,List.map_take,List.map_drop]
   rw[eT]at T2;have len:(xs.take p++(k,b)::xs.drop p).length=xs.length+1:=by rw[ip.length_eq];rfl
   have nd:((xs.take p++(k,b)::xs.drop p).map (·.1)).Nodup:=by
    refine(ip.map (·.1)).nodup_iff.mpr ?_;exact qA5.mpr ⟨z,X.nd⟩
   have ky:∀q∈xs.take p++(k,b)::xs.drop p,IsTupleKey knd s.heap q.1 q.2:=λq hq=>by
    rcases qAQ.mp (ip.mem_iff.mp hq) with y|y
    .subst y;exact hk
    .exact X.ky q y
   have sz:(SetTable.insertAt es p (tupleKeyHash knd k,Value.ref b)).size=xs.length+1:=by
    have:=qAf List.length el;rw[qAB,len]at this;simpa using this
   refine qAA (wpAny_storeSet_of X.ho X.hd ?_$ by rw[sz];exact qAR hc kK)
   have fl:t2.tooFull=decide (t.mask*3<=(xs.length+1)*5):=by
    unfold tooFull fill;rw[T2.d,T2.n,qAB,len,m2,em];rfl
   by_cases cf:t.mask*3<=(xs.length+1)*5
   .rw [qAD$ by rw[fl];simp[cf]];rw[X.size];refine qAA ?_;refine vb (m:=0) (o:={o with data:=.set (insertAt es p (tupleKeyHash knd k,Value.ref b)) (ep+1) t2}) (ou X.ho X.hd _ _) X.ex rF el T2 len ?_ ?_ hc nd ?_ (d2.trans$ ed.trans X.ld) ?_
    .rw [m2,em];exact W
    .rw [m2,em];exact cf
    .intro q hq;exact pO (ky q hq) X.ho X.hd$ qAy _ a _
    .intro h' ys o' O S t' q1 q2 q3;exact qAE$ h2 z h' ys o' O S t' ((qAy _ a _).trans q1) (q2.trans ip) q3
   .rw [qAC$ by rw[fl];simp[cf]];refine qAE$ h2 z _ _ _ _ _ _ (qAy _ a _) ip$ wy X.ho X.ex X.hd el T2 ?_ nd ky$ d2.trans$ ed.trans X.ld;rw[len,m2,em];lia
  by_cases cp:(t.put (pr t.mask (tupleKeyHash knd k) N).j).1.plain=true
  .rw [qAD cp];exact qAA$ yT hk fin
  .rw [qAC cp];exact qAA$ qAE$ fin true
end
end ST
namespace ST
open PySem PySem.SetTable PyProof.Rows
variable{h:Heap}{α:Type}
section
variable{prog:Program}{w:World}{K:Type}[DecidableEq K]{knd:KeyKind prog w K}{A:Around}{E:Value->Shared->Prop}{s:Shared}
variable{a:Addr}{xs:List (List K×Addr)}{o:Obj}{es:Array (Int×Value)}{ep:Nat}{t:SetTable}
theorem key_kept{h':Heap}{k:List K}{b:Addr}(x:IsTupleKey knd h k b)(e:∀o,h.get? b=some o->h'.get? b=some o):IsTupleKey knd h' k b :=
 let⟨o,its,n,O,r⟩:=x;⟨o,its,n,e o O,r⟩
theorem SetX.kept{h h':Heap}(X:SetX knd h a xs o es ep t)(e:∀b o,(b=a\/∃p∈xs,p.2=b)->h.get? b=some o->h'.get? b=some o):SetX knd h' a xs o es ep t :=
 ⟨e a o (.inl rF) X.ho,X.ex,X.hd,X.el,X.ok,X.room,X.nd,λp O=>key_kept (X.ky p O) λo q=>e _ o (.inr ⟨p,O,rF⟩) q,X.ld⟩
def Got(knd:KeyKind prog w K)(h:Heap)(a:Addr)(ks:List (List K×Addr)):Prop :=
 ∃xs o es ep t,SetX knd h a xs o es ep t/\(∀p∈xs,p∈ks)/\(∀p∈ks,p.1∈xs.map (·.1))/\xs.length<=ks.length
theorem Got.kept{h h':Heap}{ks:List (List K×Addr)}(g:Got knd h a ks)(e:∀b o,(b=a\/∃p∈ks,p.2=b)->h.get? b=some o->h'.get? b=some o):Got knd h' a ks:=by
 obtain⟨xs,o,es,ep,t,X,O,S,V⟩:=g;exact⟨xs,o,es,ep,t,X.kept λb o W=>e b o$ W.imp id λ⟨p,hp,q⟩=>⟨p,O p hp,q⟩,O,S,V⟩
theorem Got.fresh{a:Addr}(S:h.get? a=some {cls:=.type "set",dict:=none,data:=.set #[] 0 (.fresh 0 0$ !byt w)}):Got knd h a [] :=
 ⟨[],_,_,_,_,⟨S,⟨rF,rF,rF⟩,rF,rF,sv 0 0 _,(show 0*5<7*3 by decide),qAt,(λp O=>nomatch O),rF⟩,(λp O=>nomatch O),(λp O=>nomatch O),qAF _⟩
theorem wT{ks:List (List K×Addr)}{k:List K}{b:Addr}(hu:A.units<cLine)(g:Got knd s.heap a ks)(hk:IsTupleKey knd s.heap k b)(hc:ks.length+1<=306){Q:Bool->Shared->Prop}
  (h:∀c h',Heap.SameBut a s.heap h'->Got knd h' a (ks++[(k,b)])->Q c {s with heap:=h',toks:=s.toks+(k.length+1)}):wpAny (model prog w) A (setAdd a$ .ref b) Q E s:=by
 obtain⟨xs,o,es,ep,t,X,g1,g2,g3⟩:=g;unfold setAdd;refine qBF$ qAA$ wpAny_pyHash_tuple hu hk ?_;refine yw (s:={s with toks:=s.toks+(k.length+1)}) hu X hk lL (λz=>?_) λz h' ys o' S V t' q1 W q3=>?_
 .refine h false s.heap (Heap.SameBut.refl a s.heap) ⟨xs,o,es,ep,t,X,λp O=>qAj _$ g1 p O,λp O=>?_,by rw[qAV];exact Nat.le_succ_of_le g3⟩;rcases qAK.mp O with y|y
  .exact g2 p y
  .rw [qAH.mp y];exact z
 .refine h true h' q1 ⟨ys,o',S,V,t',q3,λp O=>?_,λp O=>?_,?_⟩
  .rcases qAQ.mp (W.mem_iff.mp O) with y|y
   .rw [y];exact qAr _$ qAH.mpr rF
   .exact qAj _$ g1 p y
  .have m:=(W.map (·.1)).mem_iff (a:=p.1);refine m.mpr ?_;rcases qAK.mp O with y|y
   .exact qAS _$ g2 p y
   .rw [qAH.mp y];exact qAO
  .rw [W.length_eq,qAV];exact Nat.succ_le_succ g3
end
section
variable{prog:Program}{w:World}{K:Type}[DecidableEq K]{knd:KeyKind prog w K}{A:Around}{R:Result->Shared->Prop}{I:Addr}{fp wr:List Addr}{G:Array GenState->Array GenState->Prop}{P:Nat->Value->Prop}{St:Nat->Shared->Prop}
theorem xD{ks:List (List K×Addr)}(hu:A.in1.units<cLine)(W:WalksS prog w A.in1 I fp wr G ks.length P St)(a:Addr)(aa:a∉fp)(hP:∀i v,P i v->∃p,ks[i]?=some p/\v= .ref p.2)(V:∀p∈ks,p.2≠a/\p.2∉wr)(hc:ks.length<=306) :
  ∀(k i:Nat)(s:Shared),ks.length=i+k->St i s->Got knd s.heap a (ks.take i)->(∀p∈ks,IsTupleKey knd s.heap p.1 p.2) ->
   (∀s',Moved (a::wr) G s s'->Got knd s'.heap a ks->R (.ok$ .ret .none) s')->codeAny (model prog w) A (.builtin "set.update.loop" ⟨[.ref a,.ref I],[]⟩) R s:=by
 have ab:a∉wr:=λz=>aa$ W.sub a z;intro k
 induction k with
 |zero=>
  intro i s e st g ky hR;have e:i=ks.length:=lL
  subst e;rw[qAY]at g;refine qB1 PyProof.Rows.F.entry_set_update_loop ?_;rw[qCq qDn _];change wpAny _ A.in1 (pyNext (Value.ref I) >>= _) _ _ s;refine qAA$ W.done s _ _ st λS mv=>?_;refine qAE$ hR S (mv.mono λb O=>qAS a O)$ g.kept λb o O q=>mv.heap b o ?_ q;rcases O with rfl|⟨p,hp,rfl⟩
  .exact ab
  .exact (V p hp).2
 |succ k ih=>
  intro i s e st g ky hR;have hi:i<ks.length:=lL
  refine qB1 PyProof.Rows.F.entry_set_update_loop ?_;rw[qCq qDn _];change wpAny _ A.in1 (pyNext (Value.ref I) >>= _) _ _ s;refine qAA$ W.item i s _ _ hi st λv S pv ae mv=>?_;obtain⟨p,ep,rfl⟩:=hP i v pv;have pm:p∈ks:=qAN ep
  have up:∀b o,(b=a\/∃q∈ks,q.2=b)->s.heap.get? b=some o->S.heap.get? b=some o:=λb o O q=>mv.heap b o (by
   rcases O with rfl|⟨p,hp,rfl⟩
   .exact ab
   .exact (V p hp).2) q
  have g1:=g.kept (h':=S.heap) λb o O=>up b o$ O.imp id λ⟨q,hq,z⟩=>⟨q,qCm hq,z⟩;have ad:∀q∈ks,IsTupleKey knd S.heap q.1 q.2:=λq hq=>key_kept (ky q hq) λo=>up _ o$ .inr ⟨q,hq,rF⟩;change wpAny _ A.in1 (holding [Value.ref p.2] (setAdd a$ .ref p.2) >>= _) _ _ S;refine qAA$ qBF$ wT (knd:=knd) hu g1 (ad p pm) (by rw[qAX];lia) λc h' sb g2=>?_
  have et:ks.take i++[(p.1,p.2)]=ks.take (i+1):=by
   rw[List.take_succ,ep];rfl
  rw[et]at g2
  have af:=W.frame (i+1) S h' (S.toks+(p.1.length+1)) ae (qDF _ _) λb O o q=>by
   rw[sb.2 b λz=>aa$ z▸O];exact q
  refine qAE ⟨qDI qDn _,ih (i+1) _ lL af g2 (λq hq=>key_kept (ad q hq) λo z=>(sb.2 _ (V q hq).1).trans z) λs2 ag g3=>hR s2 ?_ g3⟩;refine Moved.trans W.gtrans ((mv.mono λb O=>qAS a O).then_heap (qDF _ _) λb o O z=>?_) ag;exact(sb.2 b λy=>O$ y▸qAO).trans z
end
section
variable{prog:Program}{w:World}{K:Type}[DecidableEq K]{knd:KeyKind prog w K}{A:Around}{E:Value->Shared->Prop}{s:Shared}
def ii(w:World):Obj:={cls:=.type "set",dict:=none,data:=.set #[] 0 (.fresh 0 0$ !byt w)}
theorem yu(v:Value){Q:Value->Shared->Prop}(h:Q (.ref s.heap.objs.size) {s with heap:=s.heap.push (ii w)}):codeAny (model prog w) A (.call (.builtin "set.__new__") ⟨[.type "set",v],[]⟩) (wants Q E) s:=by
 refine codeAny_of_tree ?_;change wpAny _ A.in1 (checkBuiltinCall "set.__new__" ⟨[.type "set",v],[]⟩ >>= λ_=>again$ .builtin "set.__new__" ⟨[.type "set",v],[]⟩) _ _ s;refine qAA$ qCK (F.newCall_set_1 v)$ qAE ⟨qDI F.plain_set_new _,qB1 F.entry_set_new ?_⟩;rw[qCq F.plain_set_new _];unfold Builtin.«set.__new__» Builtin.Frozenset.newClass;have q:=sub_set_self;obtain⟨O,g,d,tk,os⟩:=s;dsimp only
 wp_walk
 refine qBZ$ qAE ?_;dsimp only;simp only[newObj];refine qAA$ wpAny_alloc$ qAE$ qAE ?_;exact h
theorem vg{l:Addr}{its:Array Value}{Z:Heap->Prop}{Q:Value->Shared->Prop}(hh:A.handled=none)(hl:s.heap.IsList l its)
  (fill:∀(A1:Around) (R:Result->Shared->Prop) (s3:Shared) (fp:List Addr) (G:Array GenState->Array GenState->Prop) (St:Nat->Shared->Prop),A1.in1.units<=A.units+3->WalksS prog w A1.in1 (s.heap.objs.size+1) fp [s.heap.objs.size+1] G its.size (fun i v=>its[i]?=some v) St->s.heap.objs.size∉fp ->
   s3.heap.get? s.heap.objs.size=some (ii w)->(∀b o,s.heap.get? b=some o->s3.heap.get? b=some o)->St 0 s3->(∀s',Moved [s.heap.objs.size,s.heap.objs.size+1] G s3 s'->Z s'.heap->R (.ok$ .ret .none) s') ->
   codeAny (model prog w) A1 (.builtin "set.update.loop" ⟨[.ref s.heap.objs.size,.ref (s.heap.objs.size+1)],[]⟩) R s3)
  (h:∀(h':Heap)(tk:Nat),s.toks<=tk->Z h'->(∀b o,s.heap.get? b=some o->h'.get? b=some o)->Q (.ref s.heap.objs.size) {s with heap:=h',toks:=tk}) :
  wpAny (model prog w) A (call (.type "set") [.ref l]) Q E s:=by
 obtain⟨c,tl,aj⟩:=qBr.mro;have k1:=qBr.made;have k2:=qBr.sub;refine qCY$ codeAny_of_tree ?_;change wpAny _ _ (callAny (.type "set") _) _ _ _;refine qAE ⟨Code.quiet_builtin _ kK,qB1 F.entry_type_call ?_⟩;rw[Around.under_plain (weight_type_call_type "set" [.ref l] []) rF];have k3:=qBr.notType;have k4:=qBr.canCreate;have k5:=F.typeCall_set_1$ .ref l
 repeat (any_goals (first|assumption|wp_step))
 have ak:∀b o,s.heap.get? b=some o->b≠s.heap.objs.size:=λb o q=>qAe$ qAW q;refine qBk (yu (w:=w) (.ref l) (E:=E) (Q:=λob s1=>ob= .ref s.heap.objs.size/\s1={s with heap:=s.heap.push (ii w)}) ⟨rF,rF⟩) λr s1 hr=>?_
 cases r with
 |error e=>exact hr
 |ok fl=>
  cases fl with
  |ret ob=>
   obtain⟨rfl,rfl⟩:=hr;have hS:(s.heap.push$ ii w).get? s.heap.objs.size=some (ii w):=qAg _ rF;have hT:Shared.TypeIs {s with heap:=s.heap.push (ii w)} (.ref s.heap.objs.size) "set":= ⟨_,hS,rF⟩;have k6:=qBr.init.lookup;have k7:=qBr.init.bind$ .ref s.heap.objs.size
   repeat (any_goals (first|assumption|wp_step))
   refine qBk (qDJ (R:=wants (λr s2=>r= .none/\∃h' tk,s2={s with heap:=h',toks:=tk}/\s.toks<=tk/\Z h'/\(∀b o,s.heap.get? b=some o->h'.get? b=some o)) E) qBr.init.plain F.entry_set_init$ check_set_init_1 hT ?_) λr2 s2 S=>?_
   .obtain ⟨ol,V,aa,nl,ab⟩:=hl;obtain⟨o1,o2,o3,o4⟩:=ol;simp only at aa ab;subst aa ab;have ad:(s.heap.push$ ii w).get? l=some {cls:=.type "list",dict:=o2,data:=.seq its nl,slots:=o4}:=qAL _ V;have k8:=F.sub_list_set;have k9:=F.sub_list_frozenset;have al:(Value.type "list"== Value.type "dict")=false:=dD
    have ae:(s.heap.push$ ii w).IsList l its:=⟨_,ad,rF,nl,rF⟩;unfold Builtin.«set.__init__» noKeywords Builtin.Frozenset.updateFrom;generalize ag:pyIter=PI
    wp_walk
    subst ag;refine qC1 ae ?_;refine qAA$ wpAny_runValue ?_;have O:(s.heap.push$ ii w).objs.size=s.heap.objs.size+1:=qBM _ _;have af:l<s.heap.objs.size:=qAW V;have W:=(Walks.list (prog:=prog) (w:=w) (A:=A.in1.in1.in1) (by simpa using hh) (s.heap.push$ ii w).objs.size l (by rw[O];exact qAe$ qCE af) its).toS;rw[O]at W;rw[O];refine fill A.in1.in1 _ _ _ _ _ (by show A.units+1+1+1<=A.units+3;lia) W ?_ (qAL _ hS) (λb o q=>qAL _$ qAL _ q) ⟨⟨_,by rw[<-O];exact qAg _ rF,rF,rF⟩,ae.push _⟩ ?_
    .simp only[qAQ,qCo,or_false,not_or];exact⟨qAe$ qCX _,qBV af⟩
    .intro s1 mv g;obtain⟨h1,g1,d1,ah,ai⟩:=s1;have e1:g1=s.gens:=mv.gens;have e2:d1=s.drawn:=mv.drawn;have e3:ai=s.os:=mv.os;subst e1 e2 e3;show wpAny _ _ _ _ _ _;refine qAE$ qAE ⟨rF,h1,ah,rF,mv.toks,g,λb o q=>?_⟩;have:=qAW q
     exact mv.heap b o (by
      simp only[qAQ,qCo,or_false,not_or];exact⟨qAe this,qAe$ qCE this⟩)$ qAL _$ qAL _ q
   .cases r2 with
    |error e=>exact S
    |ok f2=>
     cases f2 with
     |ret r=>
      obtain⟨rfl,h',tk,rfl,q1,q2,q3⟩:=S
      repeat (any_goals (first|assumption|wp_step))
      exact h _ _ q1 q2 q3
     |_=>exact S.elim
  |_=>exact hr.elim
theorem w_mkset{l:Addr}{its:Array Value}{ks:List (List K×Addr)}{Q:Value->Shared->Prop}(hh:A.handled=none)(hu:A.units+8<cLine)(hl:s.heap.IsList l its)(S:its.toList=ks.map λp=>.ref p.2)(V:∀p∈ks,IsTupleKey knd s.heap p.1 p.2)(hc:ks.length<=306)
  (h:∀(h':Heap)(tk:Nat),s.toks<=tk->Got knd h' s.heap.objs.size ks->(∀b o,s.heap.get? b=some o->h'.get? b=some o)->Q (.ref s.heap.objs.size) {s with heap:=h',toks:=tk}) :
  wpAny (model prog w) A (call (.type "set") [.ref l]) Q E s:=by
 refine vg hh hl (λA1 R s3 fp G St hv W hf hS kp st hR=>?_) h
 have ez:its.size=ks.length:=by
  have:=qAf List.length S;simpa using this
 rw[ez]at W;refine xD (knd:=knd) lL W s.heap.objs.size hf (λi v hv=>?_) (λp O=>?_) hc ks.length 0 _ lL st (Got.fresh hS) (λp O=>key_kept (V p O) λo q=>kp _ o q) hR
 .have:its.toList[i]?=some v:=by rw[qAv];exact hv
  rw[S,qAU]at this
  cases hk:ks[i]? with
  |none=>rw[hk]at this;exact nomatch this
  |some p=>rw[hk]at this;exact⟨p,rF,(qAh this).symm⟩
 .obtain ⟨o,_,_,ho,_⟩:=V p O;have:=qAW ho;simp only[qAQ,qCo,or_false];exact⟨qAe this,qAe$ qCE this⟩
end
theorem zFz:Slot "set_iterator" "__next__" "set_iterator.__next__":=
 .of (owner:="set_iterator") (n:="__next__") (by rw[typeLookup_type,qDo];kernel_rfl) kK kK kK (by first|exact .inl kK|exact .inr kK) (by rw[isSubtype_type];kernel_rfl)
theorem pb:Slot "set_iterator" "__iter__" "set_iterator.__iter__":=
 .of (owner:="set_iterator") (n:="__iter__") (by rw[typeLookup_type,qDo];kernel_rfl) kK kK kK (by first|exact .inl kK|exact .inr kK) (by rw[isSubtype_type];kernel_rfl)
theorem pw:entryFor table "set_iterator.__next__"=some Builtin.«set_iterator.__next__»:=entryFor_of_fast (by kernel_rfl)
theorem vA:entryFor table "set_iterator.__iter__"=some Builtin.«dict_keyiterator.__iter__»:=entryFor_alias (id':="dict_keyiterator.__iter__") (by kernel_rfl) rF kK (by kernel_rfl)
theorem vq:entryFor table "set.__iter__"=some Builtin.«frozenset.__iter__»:=entryFor_alias (id':="frozenset.__iter__") (by kernel_rfl) rF kK (by kernel_rfl)
theorem pK(a:Value):argsOk "set_iterator.__next__" ⟨[a],[]⟩:=by unfold argsOk;kernel_rfl
theorem vO(a:Value):argsOk "set_iterator.__iter__" ⟨[a],[]⟩:=by unfold argsOk;kernel_rfl
theorem zDq{M:Model}{A:Around}{E:Value->Shared->Prop}{s:Shared}{c:Prop}[Decidable c]{x y:Sem α}{Q:α->Shared->Prop}(O:¬c)(h:wpAny M A y Q E s):wpAny M A (if c then x else y) Q E s:=by rw[qAC O];exact h
theorem zGd{M:Model}{A:Around}{E:Value->Shared->Prop}{s:Shared}{c:Prop}[Decidable c]{x y:Sem α}{Q:α->Shared->Prop}(O:c)(h:wpAny M A x Q E s):wpAny M A (if c then x else y) Q E s:=by rw[qAD O];exact h
theorem zHx :∀{L:List α}{i:Nat}{x:α},L[i]?=some x->(x::L.eraseIdx i).Perm L
 |[],i,x,h=>by simp at h
 |y::r,0,x,h=>by
  have:y=x:=qAh h;subst this;exact List.Perm.refl _
 |y::r,i+1,x,h=>by
  rw[qCl]at h;exact(List.Perm.swap y x _).trans$ List.Perm.cons y$ zHx h
theorem pP(next:Nat->Nat):∀(S k:Nat)(O:List α)(out:Array α),O.length<=S->(pickOrder.go next S k O out).toList.Perm (out.toList++O)
 |0,k,O,out,h=>by
  have:O=[]:=qBa.mp$ Nat.le_zero.mp h;subst this;unfold pickOrder.go;rw[qA4]
 |S+1,k,O,out,h=>by
  unfold pickOrder.go
  cases e:O[next k % O.length]? with
  |none=>
   have:O=[]:=by
    cases O with
    |nil=>rfl
    |cons x r=>
     have:=qDp.mp e;have h2:=Nat.mod_lt (next k)$ show 0<(x::r).length from Nat.succ_pos _;exact absurd h2$ qCp.mpr this
   subst this;dsimp only;rw[qA4]
  |some x=>
   dsimp only;have p:=zHx e;have V:=p.length_eq;rw[qAd]at V;refine(pP next S (k+1) _ _ lL).trans ?_;rw[Array.toList_push,qA0];exact List.Perm.append_left _ p
theorem p8(next:Nat->Nat)(xs:Array α):(pickOrder next xs).toList.Perm xs.toList:=by
 have:=pP next xs.size 0 xs.toList #[] sS;show(pickOrder.go next xs.size 0 xs.toList #[]).toList.Perm _;simpa using this
section
variable{prog:Program}{w:World}{K:Type}[DecidableEq K]{knd:KeyKind prog w K}{A:Around}{E:Value->Shared->Prop}
theorem sW{s:Shared}{S:Source}{n:Nat}(O:n≠0){Q:Nat->Shared->Prop}(h:∀i d,i<n->Q i {s with drawn:=d}):wpAny (model prog w) A (choose S n) Q E s:=λ_ _ _=>⟨O,h _ _$ Nat.mod_lt _$ Nat.pos_of_ne_zero O⟩
theorem sH :∀(n:Nat)(L:List α)(s:Shared)(Q:List α->Shared->Prop),L.length=n->(∀M d,M.Perm L->Q M {s with drawn:=d})->wpAny (model prog w) A (drawOrder n L) Q E s
 |0,L,s,Q,O,h=>by
  have:L=[]:=qBa.mp O;subst this;unfold drawOrder;exact qAE$ h [] s.drawn$ List.Perm.refl _
 |n+1,[],s,Q,O,h=>nomatch O
 |n+1,x::r,s,Q,O,h=>by
  unfold drawOrder;refine qAA$ sW (by rw[O];exact Nat.succ_ne_zero n) λi d hi=>?_;obtain⟨y,V⟩:∃y,(x::r)[i]?=some y:=⟨(x::r)[i],qAx hi⟩;rw[V];dsimp only;have p:=zHx V;have S:=p.length_eq;rw[qAd]at S;refine qAA$ sH n _ _ _ lL λM d' W=>qAE ?_;exact h (y::M) d'$ (List.Perm.cons y W).trans p
end
def dr(es:Array (Int×Value))(t:SetTable):Bool:=!t.plain&&decide (es.size>1)
def ItM(w:World)(h:Heap)(a:Addr)(es:Array (Int×Value))(ep:Nat)(t:SetTable)(ord:List Value)(i:Nat)(first:Value):Prop :=
 (byt w=true/\(∃j:Nat,first= .int j 0)/\ord=(pickOrder (w.params.setOrder a ep) es).toList.map (·.2)) \/
 (byt w=false/\∃(T:Addr)(O:Obj)(c:Nat)(pl:List Nat),first= .ref T/\h.get? T=some O/\O.data= .seq (pl.map λ(p:Nat)=>Value.int p 0).toArray c/\pl.Perm (List.range es.size)/\ord=pl.filterMap λp=>(es[p]?).map (·.2)) \/
 (byt w=false/\dr es t=false/\∃slot:Nat,first= .int slot 0/\below t.place slot=i/\ord=es.toList.map (·.2))
structure ItS(w:World)(h:Heap)(I a:Addr)(es:Array (Int×Value))(ep:Nat)(t:SetTable)(ord:List Value)(i:Nat)(o:Obj)(first:Value):Prop where
 ho:h.get? I=some o
 hc:o.cls= .type "set_iterator"
 hd:o.data= .fields #[first,.int i 0,.ref a,.int es.size 0,.int ep 0]
 hm:ItM w h a es ep t ord i first
section
variable{prog:Program}{w:World}{K:Type}[DecidableEq K]{knd:KeyKind prog w K}{A:Around}{E:Value->Shared->Prop}{s:Shared}
variable{a I:Addr}{xs:List (List K×Addr)}{o oI:Obj}{es:Array (Int×Value)}{ep i:Nat}{t:SetTable}{ord:List Value}{first:Value}
theorem nF(O:ik t.place.toList):below t.place 0=0:=by
 have B:=zFq O 0;rcases Nat.eq_zero_or_pos (below t.place 0) with z|z
 .exact z
 .have hs:0<t.place.size:=qAs z B.le;have e:t.place[0]?=some t.place[0]:=by simp[hs]
  exact absurd (B.lo 0 _ z e)$ qDH _
theorem mI(O:ik t.place.toList){i j:Nat}(e:t.place[i]?=some j):below t.place (j+1)=i+1:=by
 have B:=zFq O$ j+1;have hi:i<t.place.size:=(qDD.mp e).1;have h1:i<below t.place (j+1):=Nat.lt_of_not_le λz=>by have:=B.hi i j z e;lia
 rcases Nat.lt_or_ge (i+1) (below t.place$ j+1) with z|z
 .have hs:i+1<t.place.size:=qAs z B.le;have S:t.place[i+1]?=some t.place[i+1]:=by simp[hs]
  have V:=B.lo (i+1) _ z S;have W:=zFg O (qCX i) e S;lia
 .lia
theorem ItM.perm(m:ItM w h a es ep t ord i first):ord.Perm (es.toList.map (·.2)):=by
 rcases m with⟨_,_,rfl⟩|⟨_,T,S,c,pl,_,_,_,O,rfl⟩|⟨_,_,slot,_,_,rfl⟩
 .exact (p8 _ es).map _
 .have:=O.filterMap λp=>(es[p]?).map (·.2);refine this.trans$ List.Perm.of_eq ?_;rw[<-List.map_filterMap];congr 1;have:=iS es.toList;rw[qBv]at this;simpa using this
 .exact List.Perm.refl _
theorem ItM.len(m:ItM w h a es ep t ord i first):ord.length=es.size:=by
 rw[m.perm.length_eq];simp
theorem ItS.typeIs(O:ItS w s.heap I a es ep t ord i oI first):s.TypeIs (.ref I) "set_iterator":= ⟨_,O.ho,O.hc⟩
theorem yg{pl:List Nat}(W:pl.Perm (List.range es.size))(i:Nat):(pl.filterMap λp=>(es[p]?).map (·.2))[i]?=(pl[i]?).bind λp=>(es[p]?).map (·.2):=by
 have O:∀k∈pl,k<es.size:=λk S=>qAz.mp$ W.mem_iff.mp S;clear W
 induction pl generalizing i with
 |nil=>simp
 |cons k ks ih=>
  have S:=O k qAO;have e:es[k]?=some es[k]:=by simp[S]
  have V:=λi=>ih i λq hq=>O q$ qAS _ hq;rw[qBu,e]
  cases i with
  |zero=>simp[e]
  |succ i=>
   show(_::_)[i+1]?=_;rw[qCl,V i,qCl]
theorem wX(X:SetX knd s.heap a xs o es ep t)(O:ItS w s.heap I a es ep t ord i oI first)(ad:I≠a){v:Value}(V:ord[i]?=some v){Q:Option Value->Shared->Prop}
  (h:∀h' o' f',Heap.SameBut I s.heap h'->ItS w h' I a es ep t ord (i+1) o' f'->(∀T,f'= .ref T->first= .ref T)->Q (some v) {s with heap:=h'}):wpAny (model prog w) A (pyNext$ .ref I) Q E s:=by
 unfold pyNext;refine qAA$ qBy$ qCL (name:=Str.ofString "__next__") O.typeIs zFz$ qBL zFz O.typeIs pw ?_$ pK _;unfold Builtin.«set_iterator.__next__»;refine qAA (m:=slotArgs "__next__" 0 _)$ qAE ?_;refine qAA$ qDK O.ho O.hd ?_;dsimp only;refine qAA$ wpAny_setEntries_of X.ho X.hd X.fits ?_;refine zDq sS ?_;rcases O.hm with⟨m1,⟨j,rfl⟩,S⟩|⟨m1,T,oT,c,pl,rfl,S,W,m5,m6⟩|⟨m1,m2,slot,rfl,W,m5⟩
 .dsimp only;refine qAA ?_;unfold setNext;refine qAA$ X.state ?_;dsimp only;refine qAA$ qAA$ qBZ$ qAE ?_;refine zGd m1 ?_;refine zDq sS ?_;refine qAA ?_;unfold setWalk;refine qAA$ X.state ?_;dsimp only;refine qAA$ qAA$ qBZ$ qAE ?_;refine zGd m1 ?_;refine qAA$ qBZ$ qAE$ qAE ?_
  have e1:(pickOrder (w.params.setOrder a ep) es)[i]?.map (·.2)=some v:=by
   rw[S,qAU]at V;rw[<-qAv];exact V
  obtain⟨q,q1,q2⟩:=qAw.mp e1;subst q2;have e2:(pickOrder ((model prog w).w.params.setOrder a ep) es)[(i:Int).toNat]?=some q:=q1
  erw [e2]
  show wpAny _ _ (setField (.ref I) 0 (rawInt _) >>= _) _ _ _;refine qAA$ qBb O.ho O.hd sS ?_;have g1:=qBW (Obj.mapFields (·.setIfInBounds 0$ rawInt (j:Int).toNat)) O.ho$ qCM$ qA2 O.hd _;refine qAA$ qBb g1 (qA2 O.hd _) sS ?_;refine qAE ⟨_,rF,qAE$ h _ _ _ ((qAy ..).trans$ qAy ..) ⟨qBW _ g1$ qCM$ qA2 (qA2 O.hd _) _,?_,?_,.inl ⟨m1,⟨j,rF⟩,S⟩⟩ λT z=>nomatch z⟩
  .rw [qCr,qCr];exact O.hc
  .rw [qA2$ qA2 O.hd _];simp[rawInt]
 .dsimp only
  have aa:T≠I:=λz=>by
   subst z;have:=qAh$ S.symm.trans O.ho;subst this;rw[O.hd]at W;exact nomatch W
  refine qAA (m:=seqItems?$ .ref T)$ wpAny_seqItems S W ?_;dsimp only;rw[m6,yg m5]at V;obtain⟨p,p1,p2⟩:=Option.bind_eq_some_iff.mp V;obtain⟨q,q1,q2⟩:=qAw.mp p2;subst q2
  have e1:(pl.map λ(p:Nat)=>Value.int p 0).toArray[(i:Int).toNat]?=some (.int p 0):=by
   simp[p1]
  rw[e1];dsimp only;refine qAA ?_;unfold setNextDrawn;refine qAA$ X.state ?_;dsimp only;refine zDq sS ?_;have e2:es[(p:Int).toNat]?=some q:=q1;rw[e2];refine qAE ?_;refine qAA$ qBb O.ho O.hd sS ?_;refine qAE ⟨_,rF,qAE$ h _ _ _ (qAy ..) ⟨qBW _ O.ho$ qCM$ qA2 O.hd _,(qCr ..).trans O.hc,?_,.inr$ .inl ⟨m1,T,oT,c,pl,rF,?_,W,m5,m6⟩⟩ λT z=>z⟩
  .rw [qA2 O.hd];simp[rawInt]
  .exact ((qAy s.heap I _).2 T aa).trans S
 .dsimp only;refine qAA ?_;unfold setNext;refine qAA$ X.state ?_;dsimp only;refine qAA$ qAA$ qBZ$ qAE ?_;refine zDq (by show¬(byt w=true);rw[m1];decide) ?_;refine zDq (show¬(dr es t=true) by rw[m2];decide) ?_;refine qAA$ zDq (show¬((!t.led&& !es.isEmpty)=true) by rw[X.ld,m1];simp)$ qAE ?_
  have hl:i<es.size:=by
   rw[<-O.hm.len];exact(qAa.mp V).1
  have ab:i<t.place.size:=by
   rw[X.ok.n,qAB,<-X.size];exact hl
  have e1:es[i]?=some es[i]:=by simp[hl]
  have e2:t.place[i]?=some t.place[i]:=by simp[ab]
  have e3:es[i].2=v:=by
   rw[m5,qAU,qAv,e1]at V;exact qAh V
  have e4:below t.place (slot:Int).toNat=i:=W;rw[e4,e1,e2];refine qAE ?_;show wpAny _ _ (setField (.ref I) 0 (rawInt _) >>= _) _ _ _;refine qAA$ qBb O.ho O.hd sS ?_;have g1:=qBW (Obj.mapFields (·.setIfInBounds 0$ rawInt ((t.place[i]+1:Nat):Int))) O.ho$ qCM$ qA2 O.hd _;refine qAA$ qBb g1 (qA2 O.hd _) sS ?_;subst e3;refine qAE ⟨_,rF,qAE$ h _ _ _ ((qAy ..).trans$ qAy ..) ⟨qBW _ g1$ qCM$ qA2 (qA2 O.hd _) _,?_,?_,.inr$ .inr ⟨m1,m2,t.place[i]+1,rF,mI X.ok.r e2,m5⟩⟩ λT z=>nomatch z⟩
  .rw [qCr,qCr];exact O.hc
  .rw [qA2$ qA2 O.hd _];simp[rawInt]
theorem mZ{s:Shared}{Q:Option Value->Shared->Prop}(O:A.handled=none)(h:∀h',(∀b o,s.heap.get? b=some o->h'.get? b=some o)->Q none {s with heap:=h'}) :
  wpAny (model prog w) A.in1 (newExc (.type "StopIteration") [] >>= λe=>(raiseNew e:Sem Fin)) (λfin s'=>∃r,fin= .done (.ret r)/\wpAny (model prog w) A (pure$ some r) Q E s')
   (λe s'=>wpAny (model prog w) A (isInstance e (.type "StopIteration") >>= λb=>if b=true then pure none else throw e) Q E s') s:=by
 refine qAA ?_;simp only[newExc,newTuple];refine qAA (qBY ?_$ by size_fits);refine qAA (m:=firstArgMember _ _)$ qCK (a:=Value.none) (by first|rfl|(simp only[firstArgMember];rfl)) ?_;refine qBY ?_ (by size_fits);simp only[raiseNew];refine qAA$ wpAny_handled ?_;rw[show A.in1.handled=none from O];refine qAA$ qAE$ wpAny_throw ?_;refine qAA$ qDL (T:="StopIteration") (b:=true) ⟨_,qAg _ rF,rF⟩ isSubtype_stop ?_;exact qAE$ h _ λb o q=>qAL _$ qAL _ q
theorem wQ(W:A.handled=none)(X:SetX knd s.heap a xs o es ep t)(O:ItS w s.heap I a es ep t ord i oI first)(V:ord[i]?=none){Q:Option Value->Shared->Prop}
  (h:∀h',(∀b o,b≠I->s.heap.get? b=some o->h'.get? b=some o)->Q none {s with heap:=h'}):wpAny (model prog w) A (pyNext$ .ref I) Q E s:=by
 unfold pyNext;refine qAA$ qBy$ qCL (name:=Str.ofString "__next__") O.typeIs zFz$ qBL zFz O.typeIs pw ?_$ pK _;unfold Builtin.«set_iterator.__next__»;refine qAA (m:=slotArgs "__next__" 0 _)$ qAE ?_;refine qAA$ qDK O.ho O.hd ?_;dsimp only;refine qAA$ wpAny_setEntries_of X.ho X.hd X.fits ?_;refine zDq sS ?_;have up:∀h1,Heap.SameBut I s.heap h1->∀h',(∀b o,h1.get? b=some o->h'.get? b=some o)->Q none {s with heap:=h'}:=λh1 sb h' q=>h h' λb o hb z=>q b o$ (sb.2 b hb).trans z;rcases O.hm with⟨m1,⟨j,rfl⟩,m3⟩|⟨m1,T,oT,c,pl,rfl,m3,m4,m5,m6⟩|⟨m1,m2,slot,rfl,m4,m5⟩
 .dsimp only;refine qAA ?_;unfold setNext;refine qAA$ X.state ?_;dsimp only;refine qAA$ qAA$ qBZ$ qAE ?_;refine zGd m1 ?_;refine zDq sS ?_;refine qAA ?_;unfold setWalk;refine qAA$ X.state ?_;dsimp only;refine qAA$ qAA$ qBZ$ qAE ?_;refine zGd m1 ?_;refine qAA$ qBZ$ qAE$ qAE ?_
  have S:(pickOrder (w.params.setOrder a ep) es)[i]?.map (·.2)=none:=by
   rw[m3,qAU]at V;rw[<-qAv];exact V
  have e2:(pickOrder ((model prog w).w.params.setOrder a ep) es)[(i:Int).toNat]?=none:=qDq.mp S
  erw [e2]
  show wpAny _ _ (setField (.ref I) 2 Value.none >>= _) _ _ _;refine qAA$ qBb O.ho O.hd sS ?_;refine mZ W ?_;exact up _$ qAy ..
 .dsimp only;refine qAA (m:=seqItems?$ .ref T)$ wpAny_seqItems m3 m4 ?_;dsimp only
  have S:(pl.map λ(p:Nat)=>Value.int p 0).toArray[(i:Int).toNat]?=none:=by
   have h1:ord.length<=i:=qDp.mp V;rw[O.hm.len]at h1;have h2:=m5.length_eq;rw[qBJ]at h2;simp only[qBQ,qDr,qAU,qDq,qDp];lia
  rw[S];dsimp only;refine qAA$ qBb O.ho O.hd sS ?_;have g1:=qBW (Obj.mapFields (·.setIfInBounds 0$ rawInt 0)) O.ho$ qCM$ qA2 O.hd _;refine qAA$ qBb g1 (qA2 O.hd _) sS ?_;refine mZ W ?_;exact up _$ (qAy ..).trans$ qAy ..
 .dsimp only;refine qAA ?_;unfold setNext;refine qAA$ X.state ?_;dsimp only;refine qAA$ qAA$ qBZ$ qAE ?_;refine zDq (by show¬(byt w=true);rw[m1];decide) ?_;refine zDq (show¬(dr es t=true) by rw[m2];decide) ?_;refine qAA$ zDq (show¬((!t.led&& !es.isEmpty)=true) by rw[X.ld,m1];simp)$ qAE ?_
  have S:es[i]?=none:=by
   rw[m5,qAU,qAv]at V;exact qDq.mp V
  have e4:below t.place (slot:Int).toNat=i:=m4;rw[e4,S];refine qAE ?_;show wpAny _ _ (setField (.ref I) 2 Value.none >>= _) _ _ _;refine qAA$ qBb O.ho O.hd sS ?_;refine mZ W ?_;exact up _$ qAy ..
theorem wB(O:ItS w s.heap I a es ep t ord i oI first){Q:Value->Shared->Prop}(h:Q (.ref I) s):wpAny (model prog w) A (pyIter$ .ref I) Q E s:=by
 refine qCs O.typeIs pb$ qBL pb O.typeIs vA ?_$ vO _;show wpAny _ _ (ret$ .ref I) _ _ s;exact qAE ⟨_,rF,"set_iterator",_,O.typeIs,zFz.lookup,h⟩
theorem SetX.typeIs(X:SetX knd s.heap a xs o es ep t):s.TypeIs (.ref a) "set":= ⟨_,X.ho,X.ex.1⟩
theorem w_(X:SetX knd s.heap a xs o es ep t)(V:xs.length<=306){Q:Value->Shared->Prop}
  (h:∀I h' d ord oI first,(∀b o,s.heap.get? b=some o->h'.get? b=some o)->s.heap.objs.size<=I->ItS w h' I a es ep t ord 0 oI first->(∀T,first= .ref T->s.heap.objs.size<=T)->Q (.ref I) {s with heap:=h',drawn:=d}):wpAny (model prog w) A (pyIter$ .ref a) Q E s:=by
 refine qCs X.typeIs F.slot_set_iter$ qBL F.slot_set_iter X.typeIs vq ?_$ F.args_set_iter_1 _;unfold Builtin.«frozenset.__iter__» Builtin.Frozenset.slot0;refine qAA$ qAA (m:=slotArgs "__iter__" 0 _)$ qAE$ qAE ?_;dsimp only;unfold Builtin.Frozenset.sizeOf;refine qAA$ qAA$ wpAny_setEntries_of X.ho X.hd X.fits$ qAE ?_;unfold setDrawn;refine qAA$ qAA$ X.state$ qAA$ qAA$ qBZ$ qAE$ qAE ?_;have hsz:es.size<=306:=by rw[X.size];exact V
 by_cases c:(!byt w&&dr es t)=true
 .refine zGd c ?_;have W:byt w=false:=by cases z:byt w<;>simp[z]at c ⊢
  refine qAA$ sH es.size (List.range es.size) s _ sS λpl d S=>?_;have O:pl.length=es.size:=by rw[S.length_eq];simp
  refine qAA (qDM ?_$ by rw[qAB,O];exact qAR hsz kK);refine qAA$ wpAny_setEpoch_of (qAL _ X.ho) X.hd X.fits ?_;refine qAA$ qBY$ qAE ⟨_,rF,"set_iterator",_,⟨_,qAg _ rF,rF⟩,zFz.lookup,?_⟩;refine h _ _ d (pl.filterMap λp=>(es[p]?).map (·.2)) _ (.ref s.heap.objs.size) (λb o q=>qAL _$ qAL _ q) ?_ ⟨qAg _ rF,rF,rF,.inr$ .inl ⟨W,_,_,_,pl,rF,qAL _$ qAg _ rF,rF,S,rF⟩⟩ (λT z=>by cases z;exact qAF _);show s.heap.objs.size<=(s.heap.push _).objs.size;rw[qBM];exact qBl _
 .refine zDq c ?_;refine qAA$ qAE ?_;refine qAA$ wpAny_setEpoch_of X.ho X.hd X.fits ?_;refine qAA$ qBY$ qAE ⟨_,rF,"set_iterator",_,⟨_,qAg _ rF,rF⟩,zFz.lookup,?_⟩
  cases z:byt w with
  |true=>
   exact h _ _ s.drawn ((pickOrder (w.params.setOrder a ep) es).toList.map (·.2)) _ (.int 0 0) (λb o q=>qAL _ q) (qAF _) ⟨qAg _ rF,rF,rF,.inl ⟨z,⟨0,rF⟩,rF⟩⟩ (λT z=>nomatch z)
  |false=>
   have c2:dr es t=false:=by rw[z]at c;simpa using c
   exact h _ _ s.drawn (es.toList.map (·.2)) _ (.int 0 0) (λb o q=>qAL _ q) (qAF _) ⟨qAg _ rF,rF,rF,.inr$ .inr ⟨z,c2,0,rF,nF X.ok.r,rF⟩⟩ (λT z=>nomatch z)
end
theorem vJ:typeLookup (.type "set") "__len__"=pure (some$ .builtin "set.__len__"):=by rw[typeLookup_type,qDo];kernel_rfl
section
variable{prog:Program}{w:World}{K:Type}[DecidableEq K]{knd:KeyKind prog w K}{A:Around}{E:Value->Shared->Prop}{s:Shared}
variable{a I:Addr}{xs:List (List K×Addr)}{o oI:Obj}{es:Array (Int×Value)}{ep i:Nat}{t:SetTable}{ord:List Value}{first:Value}
def WSt(knd:KeyKind prog w K)(a I:Addr)(xs:List (List K×Addr))(o:Obj)(es:Array (Int×Value))(ep:Nat)(t:SetTable)(ord:List Value)(S:List Addr)(i:Nat)(s:Shared):Prop :=
 ∃oI first,SetX knd s.heap a xs o es ep t/\ItS w s.heap I a es ep t ord i oI first/\∀T,first= .ref T->T∈S
theorem uH(hh:A.handled=none)(a I:Addr)(W:I≠a)(xs:List (List K×Addr))(hx:∀p∈xs,p.2≠I)(o:Obj)(es:Array (Int×Value))(ep:Nat)(t:SetTable)(ord:List Value)(Ts:List Addr)(hT:I∉Ts) :
  WalksS prog w A I (I::a::(xs.map (·.2)++Ts)) [I] (λa b=>b=a) ord.length (λi v=>ord[i]?=some v) (WSt knd a I xs o es ep t ord Ts) where
 sub:=λb S=>by rw[qAH.mp S];exact qAO
 grefl:=λ_=>rfl
 gtrans:=λ_ _ _ x y=>y.trans x
 frame:=λi s h' tk ⟨oI,first,X,O,V⟩ _ hk=>by
  refine⟨oI,first,X.kept λb o S q=>hk b ?_ o q,⟨hk I qAO _ O.ho,O.hc,O.hd,?_⟩,V⟩
  .rcases S with rfl|⟨p,hp,rfl⟩
   .exact qAS _ qAO
   .exact qAS _$ qAS _$ qAj _$ qAG.mpr ⟨p,hp,rF⟩
  .rcases O.hm with m|⟨m1,T,oT,c,pl,m2,m3,m4⟩|m
   .exact .inl m
   .exact .inr$ .inl ⟨m1,T,oT,c,pl,m2,hk T (qAS _$ qAS _$ qAr _$ V T m2) _ m3,m4⟩
   .exact .inr$ .inr m
 item:=λi s Q E hi ⟨oI,first,X,O,V⟩ hQ=>by
  refine wX X O W (v:=ord[i]) (by simp[hi]) λh' o' f' sb aa ab=>hQ _ _ (by simp[hi]) ⟨o',f',X.kept λb o S q=>?_,aa,λT z=>V T$ ab T z⟩ ⟨λb o S q=>(sb.2 b λz=>S$ z▸qAO).trans q,rF,rF,rF,qAF _⟩;rcases S with rfl|⟨p,hp,rfl⟩
  .exact (sb.2 _$ qAo W).trans q
  .exact (sb.2 _$ hx p hp).trans q
 done:=λs Q E ⟨oI,first,X,O,V⟩ hQ=>wQ hh X O sS λh' q=>hQ _ ⟨λb o S=>q b o λz=>S$ z▸qAO,rF,rF,rF,qAF _⟩
 self:=λi s Q E ⟨oI,first,X,O,V⟩ hQ=>wB O hQ
theorem qb{acc:Array Value}(h:ItemsOf (λi v=>ord[i]?=some v) acc ord.length):acc.toList=ord:=by
 refine List.ext_getElem? λi=>?_;rw[qAv]
 cases e:acc[i]? with
 |some v=>exact(h.2 i v e).symm
 |none=>
  have:=Array.getElem?_eq_none_iff.mp e;rw[h.1]at this;exact(qDG this).symm
theorem w_collect(hh:A.handled=none)(X:SetX knd s.heap a xs o es ep t)(hn:xs.length<=306){Q:List Value->Shared->Prop}
  (h:∀s' vs,vs.Perm (xs.map λp=>.ref p.2)->(∀b o,s.heap.get? b=some o->s'.heap.get? b=some o)->s'.gens=s.gens->s'.os=s.os->s.toks<=s'.toks->Q vs s'):wpAny (model prog w) A (collect$ .ref a) Q E s:=by
 unfold collect;refine qAA$ wpAny_runValue$ qB1 F.entry_proto_collect ?_;rw[qCq F.plain_proto_collect _];change wpAny _ A.in1 (newList [] >>= λl=>again$ .builtin "list.__iadd__" ⟨[l,Value.ref a],[]⟩) _ _ s;refine qAA$ qBY ?_;refine qAE ⟨qDI F.plain_list_iadd _,qB1 F.entry_list_iadd ?_⟩;rw[qCq F.plain_list_iadd _];generalize hL:s.heap.objs.size=L;have aa:(s.heap.push {cls:=.type "list",data:=.seq ([]:List Value).toArray}).get? L=some {cls:=.type "list",data:=.seq ([]:List Value).toArray}:=by rw[<-hL];exact qAg _ rF
 generalize ab:s.heap.push {cls:=.type "list",data:=.seq ([]:List Value).toArray}=H1 at aa ⊢;have up1:∀b o,s.heap.get? b=some o->H1.get? b=some o:=λb o q=>by rw[<-ab];exact qAL _ q
 have ad:H1.objs.size=L+1:=by rw[<-ab,qBM,hL]
 have below:∀b o,s.heap.get? b=some o->b<L:=λb o q=>by rw[<-hL];exact qAW q
 have X1:SetX knd H1 a xs o es ep t:=X.kept λb o _ q=>up1 b o q;have ae:a≠L:=qAe$ below a _ X.ho;change wpAny _ A.in1 (Builtin.List.listExtendWith (Value.ref L) (.ref a)$ .ref L) _ _ _;unfold Builtin.List.listExtendWith;refine qAA$ wpAny_typeOf (T:="set") ⟨_,X1.ho,X1.ex.1⟩ ?_;have n1:Builtin.List.listSameRef (.ref L) (.ref a)=false:=by simp[Builtin.List.listSameRef,qAo ae]
 refine zDq (by rw[n1];decide) ?_;refine qAA$ w_ (s:={s with heap:=H1}) X1 hn λI h2 d ord oI first V hI it hf=>?_;have hI:L+1<=I:=by rw[<-ad];exact hI
 have X2:SetX knd h2 a xs o es ep t:=X1.kept λb o _ q=>V b o q;refine qAA$ qBF ?_;unfold Builtin.List.listLengthHint;have T2:Shared.TypeIs {s with heap:=h2,drawn:=d} (.ref a) "set":= ⟨_,X2.ho,X2.ex.1⟩;refine qAA$ wpAny_specialOf T2 vJ ?_;generalize af:("set.__len__": String)=am;dsimp only;rw[show splitId am=some ("set","__len__") from by subst af;decide +kernel];subst af;dsimp only;refine qAA$ qDL (b:=true) T2 sub_set_self ?_;refine zDq dD ?_;refine zGd kK ?_;refine qAA$ wpAny_typeOf T2 ?_;refine qAE ?_;refine zGd kK ?_;refine qAA$ qCj ?_;have ag:=V L _ aa;refine qAA ?_;change wpAny _ A.in1 (updateSeq L (·.push Value.none) >>= λ_=>updateSeq L (·.pop)) _ _ _;refine qAA$ wpAny_updateSeq ag rF ?_;have ah:=qBW (Obj.mapSeq (·.push Value.none)) ag rF;refine wpAny_updateSeq ah rF ?_;have ai:=qBW (Obj.mapSeq (·.pop)) ah rF;dsimp only;have sb:Heap.SameBut L h2 ((h2.update L$ Obj.mapSeq (·.push Value.none)).update L$ Obj.mapSeq (·.pop)):=(qAy ..).trans$ qAy ..;generalize aw:(h2.update L$ Obj.mapSeq (·.push Value.none)).update L (Obj.mapSeq (·.pop))=H4 at ai sb ⊢
 have an:I≠a:=λz=>by
  have:=below a _ X.ho;rw[<-z]at this;exact absurd this$ qCp.mpr$ Nat.le_of_succ_le hI
 have ao:∀p∈xs,p.2≠I:=λp hp z=>by
  obtain⟨ob,_,_,q,_⟩:=X.ky p hp;have:=below _ _ q;rw[z]at this;exact absurd this$ qCp.mpr$ Nat.le_of_succ_le hI
 obtain⟨S,ap,O⟩:∃S:List Addr,(∀T,first= .ref T->T∈S)/\∀T∈S,first= .ref T:=by
  cases first with
  |ref T=>exact⟨[T],λT' z=>by cases z;exact qAH.mpr rF,λT' z=>by rw[qAH.mp z]⟩
  |_=>exact⟨[],(λT z=>nomatch z),(λT z=>nomatch z)⟩
 have aj:∀T∈S,L+1<=T:=λT hT=>by rw[<-ad];exact hf T$ O T hT
 have aq:I∉S:=λz=>by
  rcases it.hm with⟨_,⟨j,e⟩,_⟩|⟨_,T,oT,c,pl,e,m3,m4,_⟩|⟨_,_,j,e,_⟩
  .have:=(O _ z).symm.trans e;exact nomatch this
  .have:=(O _ z).symm.trans e
   cases this
   have:=qAh$ m3.symm.trans it.ho;subst this;rw[it.hd]at m4;exact nomatch m4
  .have:=(O _ z).symm.trans e;exact nomatch this
 have W:=uH (prog:=prog) (w:=w) (knd:=knd) (A:=A.in1) hh a I an xs ao o es ep t ord S aq
 have ak:L∉I::a::(xs.map (·.2)++S):=λz=>by
  rcases qAQ.mp z with z|z
  .rw [<-z]at hI;exact absurd hI$ Nat.not_succ_le_self L
  rcases qAQ.mp z with z|z
  .exact ae z.symm
  rcases qAK.mp z with z|z
  .obtain ⟨p,hp,e⟩:=qAG.mp z;obtain⟨ob,_,_,q,_⟩:=X.ky p hp;have:=below _ _ q;rw[e]at this;exact qBe _ this
  .exact absurd (aj _ z)$ Nat.not_succ_le_self L
 have ar:ord.length<=sizeLine:=by
  rw[it.hm.len,X.size];exact qAR hn kK
 have as:WSt knd a I xs o es ep t ord S 0 {s with heap:=h2,drawn:=d}:=⟨oI,first,X2,it,ap⟩;have au:=W.frame 0 _ H4 s.toks as (qAF _) λb hb ob q=>(sb.2 b λz=>ak$ z▸hb).trans q;refine qAE ⟨qDI F.plain_extend_loop _,codeAny_extend_loopS W ar L ak _ ord.length 0 _ _ _ rF (qAm _) au ai (ItemsOf.nil _) λs' acc c' mv av al=>?_⟩;change wpAny _ A (load L >>= _) _ _ s';refine qAA$ wpAny_load av ?_;refine qAE$ h s' acc.toList ?_ (λb ob q=>?_) mv.gens mv.os mv.toks
 .rw [qb al];refine it.hm.perm.trans$ List.Perm.of_eq ?_;rw[X.el,qAb];rfl
 .have hb:=below b ob q;refine mv.heap b ob ?_$ (sb.2 b$ qAe hb).trans$ V b ob$ up1 b ob q;intro z;rcases qAQ.mp z with z|z
  .exact qAe hb z
  .rw [qAH.mp z]at hb;exact absurd hb$ qCp.mpr$ Nat.le_of_succ_le hI
end
end ST
namespace ST
open PySem PyProof.Rows PySem.W
variable{vs:List Value}
abbrev sg(x:Str):List Nat:=x.cps.toList
theorem xm{x y:Str}(h:sg x=sg y):x=y:=by
 cases x;cases y
 exact qAf Str.mk$ Array.toList_inj.mp h
def tlt:List Str->List Str->Bool
 |[],[]=>false
 |[],_::_=>true
 |_::_,[]=>false
 |x::r,y::q=>if x=y then tlt r q else decide (sg x<sg y)
theorem xA(x y:Str):sg x<sg y\/x=y\/sg y<sg x:=by
 by_cases h1:sg x<sg y
 .exact .inl h1
 by_cases h2:sg y<sg x
 .exact .inr$ .inr h2
 .exact .inr$ .inl$ xm$ List.le_antisymm (List.not_lt.mp h2)$ List.not_lt.mp h1
theorem og:∀a,tlt a a=false
 |[]=>rfl
 |x::r=>by unfold tlt;rw[qAD rF];exact og r
theorem zIy:∀a b c,tlt a b=true->tlt b c=true->tlt a c=true
 |[],[],c,h1,h2=>h2
 |[],_::_,[],h1,h2=>by simp[tlt]at h2
 |[],_::_,_::_,h1,h2=>rfl
 |_::_,[],c,h1,h2=>by simp[tlt]at h1
 |x::r,y::q,[],h1,h2=>by simp[tlt]at h2
 |x::r,y::q,z::p,h1,h2=>by
  unfold tlt at h1 h2 ⊢
  by_cases e1:x=y
  .subst e1;rw[qAD rF]at h1
   by_cases e2:x=z
   .subst e2;rw[qAD rF]at h2 ⊢;exact zIy r q p h1 h2
   .rw [qAC e2]at h2 ⊢;exact h2
  .rw [qAC e1]at h1
   by_cases e2:y=z
   .subst e2;rw[qAC e1];exact h1
   .rw [qAC e2]at h2;have S:=qAn h1;have V:=qAn h2;have O:=List.lt_trans S V;rw[qAC λe=>by subst e;exact List.lt_irrefl _ O];exact qAJ O
theorem zKy:∀a b,tlt a b=false->tlt b a=false->a=b
 |[],[],_,_=>rfl
 |[],_::_,h,_=>by simp[tlt]at h
 |_::_,[],_,h=>by simp[tlt]at h
 |x::r,y::q,h1,h2=>by
  unfold tlt at h1 h2
  by_cases e:x=y
  .subst e;rw[qAD rF]at h1 h2;rw[zKy r q h1 h2]
  .rw [qAC e]at h1;rw[qAC$ qAo e]at h2;rcases xA x y with z|z|z
   .exact absurd z$ of_decide_eq_false h1
   .exact absurd z e
   .exact absurd z$ of_decide_eq_false h2
theorem vo(a b c:List Str)(h:tlt a c=true):tlt a b=true\/tlt b c=true:=by
 cases h1:tlt a b with
 |true=>exact .inl rF
 |false=>
  right
  cases h2:tlt b a with
  |true=>exact zIy b a c h2 h
  |false=>rw[<-zKy a b h1 h2];exact h
@[reducible] def tupK(f:Addr->Option (List Str)):PyProof.Rows.KeyKind where
 α:=List Str
 blt:=tlt
 irrefl:=og
 trans:=zIy
 negTrans:=vo
 total:=zKy
 keyOf v:=match v with| .ref b=>f b|_=>none
 dflt:=[]
section
variable{prog:Program}{w:World}{A:Around}{E:Value->Shared->Prop}{s:Shared}
theorem zHq{ks:List Str}(h:ItemsAre (PySem.strKind prog w) ks vs):StrsAre vs ks:=by
 induction h with
 |nil=>exact .nil
 |@cons k v ks vs h1 _ O=>
  obtain⟨t,rfl⟩:=Value.isStrOf_shape h1;exact .cons k t O
theorem mi{b fin:Bool}{Q:Bool->Shared->Prop}:∀{xs ys:List Value}{O S:List Str},StrsAre xs O->StrsAre ys S->∀i,fin=decide (xs.length<ys.length)->Q (tlt O S) s->KatLex prog w A b fin Q (xs.zip ys) i s
 |_,_,_,_,.nil,.nil,i,e,h=>by subst e;exact kat_nil h
 |_,_,_,_,.nil,.cons y t V,i,e,h=>by subst e;exact kat_nil h
 |_,_,_,_,.cons x t W,.nil,i,e,h=>by subst e;exact kat_nil h
 |_,_,_,_,.cons x t W,.cons y u V,i,e,h=>by
  rw[List.zip_cons_cons];refine kat_cons$ wpAny_eqBool_str ?_;unfold tlt at h
  by_cases c:x=y
  .rw [qAD c]at h;rw[qAJ c];refine kat_yes$ mi W V (i+1) ?_ h;rw[e];simp
  .rw [qAC c]at h;rw[qAP c];refine kat_no ?_
   cases z:(b&&i==0) with
   |true=>exact oneLt_str h
   |false=>exact kat_one _ _$ lt_str h
theorem vz(f:Addr->Option (List Str))(O:∀b k,f b=some k->IsTupleKey (PySem.strKind prog w) s.heap k b)(b:Bool):Tim.CmpOk prog w A s (tuples' b) (tupK f):=by
 intro E x y a c Q S V h
 cases x<;>simp only[reduceCtorEq]at S
 cases y<;>simp only[reduceCtorEq]at V
 obtain⟨ox,ix,nx,W,_,x2,x3⟩:=O _ _ S;obtain⟨oy,iy,ny,y1,_,y2,y3⟩:=O _ _ V;exact kat_lt W x2 y1 y2$ mi (zHq x3) (zHq y3) 0 sS h
end
theorem zId{xs:Array Keyed}(O:xs.Perm (pairsOf vs)):(xs.map (·.2)).toList.Perm vs:=by
 have S:xs.toList.Perm (vs.zip vs):=by rw[<-pairsOf_toList];exact qDA.mp O
 have:=S.map (·.2);rw[List.map_snd_zip$ qAF _]at this
 rwa [Array.toList_map]
theorem uy{κ:PyProof.Rows.KeyKind}{xs:Array Keyed}(O:xs.Perm (pairsOf vs))(hs:Tim.Srt κ xs.toList):(xs.map (·.2)).toList.Pairwise λx y=>κ.kle ((κ.keyOf x).getD κ.dflt)$ (κ.keyOf y).getD κ.dflt:=by
 have S:xs.toList.Perm (vs.zip vs):=by rw[<-pairsOf_toList];exact qDA.mp O
 have V:∀p∈xs.toList,p.1=p.2:=λp h=>(mem_zip_self$ S.mem_iff.mp h).1
 have e:(xs.map (·.2)).toList=xs.toList.map (·.1):=by
  rw[Array.toList_map];exact qBU λp h=>(V p h).symm
 rw[e,qB0];exact hs
theorem sJ{α:Type}{R:α->α->Prop}{l:List α}(h:l.length<2):l.Pairwise R:=by
 match l,h with
 |[],_=>exact List.Pairwise.nil
 |[x],_=>exact List.pairwise_singleton _ _
section
variable{prog:Program}{w:World}{A:Around}{E:Value->Shared->Prop}{s:Shared}
structure hZ(prog:Program)(w:World)(A:Around)(κ:PyProof.Rows.KeyKind)(kd:SortKind)(vs:List Value)(s:Shared):Prop where
 cmp:Tim.CmpOk prog w A s kd κ
 kind:2<=vs.length->∀(E:Value->Shared->Prop)(Q:SortKind->Shared->Prop),Q kd s->wpAny (model prog w) A (keyKind' vs.toArray) Q E s
 has:∀v∈vs,∃k,κ.keyOf v=some k
theorem rW{h:Heap}{a:Addr}{n:Nat}{out:Array Value}(O:h.get? a=some (seqObj "list" vs.toArray n)):(∃c,(sortedHeap h a vs out).get? a=some (seqObj "list" out c))/\∀b o,b≠a->h.get? b=some o->(sortedHeap h a vs out).get? b=some o:=by
 have V:a<h.objs.size:=qAW O;have h1:(h.update a$ Obj.mapSeq λ_=>#[]).get? a=some (seqObj "list" #[] _):=get?_update_seq O λ_=>#[];have h2:=qAL (seqObj "list" #[] 0)$ qAL (seqObj "tuple" vs.toArray 0) h1;refine⟨⟨_,get?_update_seq h2 λ_=>out⟩,λb o S q=>?_⟩;unfold sortedHeap;rw[qCa _ _$ qAo S];refine qAL _$ qAL _ ?_;rw[qCa _ _$ qAo S];exact q
end
section
variable{prog:Program}{w:World}{A:Around}{E:Value->Shared->Prop}{s:Shared}
abbrev Up(h h':Heap):Prop:=∀b o,h.get? b=some o->h'.get? b=some o
end
section
variable{prog:Program}{w:World}{A:Around}{E:Value->Shared->Prop}{s:Shared}
theorem tups_sortable{ks:List (List Str×Addr)}(hv:vs.Perm (ks.map λp=>.ref p.2))(ky:∀p∈ks,IsTupleKey (PySem.strKind prog w) s.heap p.1 p.2)(W:∀p∈ks,p.1≠[]) :
  hZ prog w A (tupK λb=>(ks.find? λp=>p.2==b).map (·.1)) (tuples' true) vs s:=by
 have look:∀p∈ks,∃q∈ks,(ks.find? λp'=>p'.2==p.2)=some q/\q.2=p.2:=λp O=>by
  cases e:ks.find? λp'=>p'.2==p.2 with
  |none=>exact absurd (qBK.mp e p O) sS
  |some q=>exact⟨q,qCJ e,rF,by simpa using qCn e⟩
 refine⟨vz _ (λb k e=>?_) true,λh2 E Q h=>?_,λv aa=>?_⟩
 .obtain ⟨p,p1,p2⟩:=qAw.mp e;have p3:p.2=b:=by simpa using qCn p1
  rw[<-p2,<-p3];exact ky p$ qCJ p1
 .have go:∀(us:List Value),(∀u∈us,∃p∈ks,u= .ref p.2)->∃fs:List Value,KatTups s.heap us fs/\fs.length=us.length/\∀f∈fs,∃x t,f= .str x t:=by
   intro us
   induction us with
   |nil=>intro _;exact⟨[],.nil,rF,(λf S=>nomatch S)⟩
   |cons u us ih=>
    intro V;obtain⟨fs,t1,t2,t3⟩:=ih λu ab=>V u$ qAS _ ab;obtain⟨p,O,rfl⟩:=V u qAO;obtain⟨ob,its,n,q1,q2,q3,q4⟩:=ky p O;have q5:=zHq q4;have q6:=W p O;generalize hk:p.1=k at q5 q6;generalize hl:its.toList=l at q5
    cases q5 with
    |nil=>exact absurd rF q6
    |cons x t r=>
     refine⟨.str x t::fs,.cons q1 q2 q3 ?_ t1,by simp[t2],λf S=>?_⟩
     .rw [<-qAv,hl];rfl
     .rcases qAQ.mp S with z|z
      .exact ⟨x,t,z⟩
      .exact t3 f z
  obtain⟨fs,t1,t2,t3⟩:=go vs λu V=>by
   obtain⟨p,O,e⟩:=qAG.mp$ hv.mem_iff.mp V;exact⟨p,O,e.symm⟩
  refine kat_kind (T:=.type "str") t1 lL (λf S=>?_) dD h;obtain⟨x,t,rfl⟩:=t3 f S;exact .now
 .obtain ⟨p,O,rfl⟩:=qAG.mp$ hv.mem_iff.mp aa;obtain⟨q,hq,e,_⟩:=look p O;exact⟨q.1,by show Option.map _ _=_;rw[e];rfl⟩
end
end ST
namespace L2
open PySem PySem.Spec PyProof.Rows
def TSt(P:Program)(w:World)(a:Addr)(xs:List (List Str×Addr)):HO :=
 .ext λh=>∃o es ep t,h.get? a=some o/\o.ExactSet/\o.data= .set es ep t/\es.toList=xs.map (ST.en$ PySem.strKind P w)/\ST.TOk t (xs.map λp=>tupleKeyHash (PySem.strKind P w) p.1)/\xs.length*5<t.mask*3/\(xs.map (·.1)).Nodup/\t.led= !ST.byt w
def r9(K:PySem.W.Frag)(H:Hp)(p:List Str×Addr):Prop:=SqT K H p.2$ p.1.map V.str
section
variable{X:Cx}{pins:List (Addr×Obj)}{σ:St}{H:Hp}{s:Shared}
theorem zJ9{prog:Program}{w:World}:∀{ks:List Str}{its:List Value},eB (ks.map V.str) its->ItemsAre (PySem.strKind prog w) ks its
 |[],_,.nil=>.nil
 |k::ks,_,.cons ⟨t,e⟩ r=>by
  subst e;exact .cons (by show Value.isStrOf k (.str k t)=true;simp[Value.isStrOf])$ zJ9 r
theorem Inv.rowT(I:Inv X pins σ H s){p:List Str×Addr}(h:r9 X.K H p):IsTupleKey (PySem.strKind X.prog X.w) s.heap p.1 p.2:=by
 obtain⟨its,r,⟨o,O,S,n,V⟩,_⟩:=I.tuple h;exact⟨o,its.toArray,n,O,S,V,by simpa using zJ9 r⟩
theorem iP:∀{ks:List (List Str×Addr)} {its:List Value},eB (ks.map λp=>V.ref p.2) its->its=ks.map λp=>Value.ref p.2
 |[],_,.nil=>rfl
 |k::ks,_,.cons e r=>by
  have e:_=Value.ref k.2:=e;subst e;rw[iP r];rfl
theorem i_:∀(ks:List (List Str×Addr)),eB (ks.map λp=>V.ref p.2) (ks.map λp=>Value.ref p.2)
 |[]=>.nil
 |k::ks=>.cons rF (i_ ks)
theorem xv{h:Heap}{H:Hp}{a:Addr}{xs:List (List Str×Addr)}{o:Obj}{es:Array (Int×Value)}{ep:Nat}{t:SetTable}(Z:ST.SetX (PySem.strKind X.prog X.w) h a xs o es ep t):zBk X.prog X.w H h a (TSt X.prog X.w a xs) :=
 ⟨⟨o,es,ep,t,Z.ho,Z.ex,Z.hd,Z.el,Z.ok,Z.room,Z.nd,Z.ld⟩,⟨o,Z.ho⟩,λh1 h2 ⟨o,es,ep,t,q,r⟩ k=>⟨o,es,ep,t,k o q,r⟩⟩
theorem qF{k:Nat}(O:eR k X.A):zC4 X (.type "set") (λxs H Q=>∃(l:Addr) (ks:List (List Str×Addr)),xs=[.ref l]/\SqL X.K H l (ks.map λp=>V.ref p.2)/\(∀p∈ks,r9 X.K H p)/\ks.length<=306 /\ ∀a ys,H a=none->(∀p∈ys,p∈ks)->(∀p∈ks,p.1∈ys.map (·.1))->(ys.map (·.1)).Nodup->ys.length<=ks.length->Q (.ref a) (upd H a$ TSt X.prog X.w a ys)):=by
 intro pins s σ H xs us Q I r h;obtain⟨l,ks,rfl,S,W,hc,q⟩:=h;obtain⟨u,rfl,rx⟩:=zHg r
 cases rx
 obtain⟨its,r',pl,hz⟩:=I.list S;have ei:=iP r';refine ST.w_mkset (knd:=PySem.strKind X.prog X.w) (ks:=ks) O.hd (by have:=O.un;lia) pl.isList (by rw[ei]) (λp hp=>I.rowT$ W p hp) hc λh' tk _ g kp=>?_;obtain⟨ys,o,es,ep,t,Z,g1,g2,g3⟩:=g;exact⟨.ref s.heap.objs.size,_,I.laid (t':=tk) kp (qAF _)$ xv Z,rF,q _ ys (I.hok.fresh$ qAF _) g1 g2 Z.nd g3⟩
theorem qS{α β:Type}(f:α->β):∀{vs:List β}{ks:List α},vs.Perm (ks.map f)->∃zs:List α,zs.Perm ks/\vs=zs.map f:=by
 intro vs ks h;generalize O:ks.map f=ms at h
 induction h generalizing ks with
 |nil=>exact⟨[],by rw[qCN.mp O],rF⟩
 |@cons x ad ae _ ih=>
  cases ks with
  |nil=>exact nomatch O
  |cons k ks=>
   rw[qAi]at O;obtain⟨S,V⟩:=List.cons.inj O;obtain⟨zs,p,e⟩:=ih V;exact⟨k::zs,.cons k p,by rw[qAi,<-e,S]⟩
 |swap x y l=>
  match ks,O with
  |a::b::ks,O=>
   simp only[qAi,List.cons.injEq]at O;obtain⟨S,V,e3⟩:=O;exact⟨b::a::ks,.swap a b ks,by simp[S,V,e3]⟩
 |trans _ _ W aa=>
  obtain⟨zs,p,e⟩:=aa O;obtain⟨ab,p',e'⟩:=W e.symm;exact⟨ab,p'.trans p,e'⟩
def sw(zs:List (List Str×Addr)):Prop:=zs.Pairwise λp q=>ST.tlt q.1 p.1=false
theorem uS{prog:Program}{w:World}{h:Heap}{ys zs:List (List Str×Addr)}(hp:zs.Perm ys)(ky:∀p∈ys,IsTupleKey (PySem.strKind prog w) h p.1 p.2)
  (hs:(zs.map λp=>Value.ref p.2).Pairwise λx y=>(ST.tupK λb=>(ys.find? λp=>p.2==b).map (·.1)).kle (((ST.tupK λb=>(ys.find? λp=>p.2==b).map (·.1)).keyOf x).getD [])$ ((ST.tupK λb=>(ys.find? λp=>p.2==b).map (·.1)).keyOf y).getD []):sw zs:=by
 rw[qB0]at hs
 have key:∀p∈zs,((ys.find? λq=>q.2==p.2).map (·.1)).getD []=p.1:=λp S=>by
  have O:=hp.mem_iff.mp S
  cases e:ys.find? λq=>q.2==p.2 with
  |none=>exact absurd (qBK.mp e p O) sS
  |some q=>
   have q1:q.2=p.2:=by simpa using qCn e
   have k1:=ky q$ qCJ e;rw[q1]at k1;exact k1.inj$ ky p O
 refine hs.imp_of_mem λ{p q} V W z=>?_;have z:ST.tlt (((ys.find? λr=>r.2==q.2).map (·.1)).getD []) (((ys.find? λr=>r.2==p.2).map (·.1)).getD [])=false:=z;rw[key p V,key q W]at z;exact z
end
end L2
namespace ST
theorem strict_of{xs:List (List PySem.Str)}(h:xs.Pairwise λp q=>tlt q p=false)(O:xs.Nodup):xs.Pairwise λa b=>tlt a b=true:=by
 refine(List.pairwise_and_iff.mpr ⟨h,O⟩).imp λ{a b} ⟨S,V⟩=>?_
 cases z:tlt a b with
 |true=>rfl
 |false=>exact absurd (zKy a b z S) V
section
open PySem PyProof.Rows
variable{prog:Program}{w:World}{A:Around}{s:Shared}
end
end ST
namespace L2
open PySem PySem.Spec PyProof.Rows
variable{i:Nat}{l a:Addr}{H:Hp}
section
variable{X:Cx}
inductive oW(x:V)(vs:List V)(H:Hp)(Q:VK):Prop
 |mk:∀l xs i y,x= .ref l->vs=[.int i,y]->H l=some (.lst xs)->xs.length<sizeLine->0<=i->i<=xs.length->Q .non (upd H l$ .lst$ xs.take i.toNat++y::xs.drop i.toNat)->oW x vs H Q
theorem iG:MtM X "list.insert" oW:=by
 intro pins s σ H x vs v us Q I V W h;obtain⟨l,xs,i,y,rfl,rfl,S,hz,h0,h1,q⟩:=h
 cases V
 obtain⟨u1,u,rfl,r1,ru⟩:=W.two;obtain⟨t,rfl⟩:=r1;obtain⟨z,its,n,r,hl,e⟩:=I.lstM S;have aa:sizeLine<2^62:=kK
 have O:¬(!Builtin.List.listFitsIndex i)=true:=by
  unfold Builtin.List.listFitsIndex;have a1:-(2^63:Int)<=i:=lL
  have a2:i<2^63:=lL
  rw[qAJ a1,qAJ a2];decide
 refine qBR F.slot_list_insert ⟨_,e,rF⟩ F.entry_list_insert (F.args_list_insert_3 _ _ _) (PySem.AutoListH.list_insert_list_int_val_1 l its.toArray n i t u O$ by rw[qAT];lia) ⟨e,?_⟩;refine⟨.non,_,I.lset (its':=its.take i.toNat++u::its.drop i.toNat) S e ?_ ((r.take _).append$ .cons ru$ r.drop _) ?_,rF,q⟩
 .have hk:(if i<0 then(i+((its.toArray.size:Nat):Int)).toNat else min i.toNat its.toArray.size)=i.toNat:=by
   rw[qAC lL,qAT];lia
  show(its.toArray.extract 0 _).push u++its.toArray.extract _=_;rw[hk];apply Array.ext';rw[qCF,Array.toList_push,qCk,qCk,qA0];simp[List.extract_eq_drop_take,qBC]
 .rw [qAV,qAd,qAX,qBm];lia
def mrg(kvs more:List (Key×V)):List (Key×V):=more.foldl (λacc p=>eV acc p.1 p.2) kvs
theorem KV.mrg{kvs:List (Key×V)}{vs:List (Key×Value)}(r:KV kvs vs):∀{more:List (Key×V)} {S:List (Key×Value)},KV more S->KV (mrg kvs more) (merged vs S):=by
 intro more S O;unfold L2.mrg merged;unfold KV at O
 induction O generalizing kvs vs with
 |nil=>exact r
 |@cons p q W aa h _ ih=>
  rw[qBh,qBh,h.1];exact ih$ r.put q.1 h.2
theorem uN(kvs more:List (Key×V)):(mrg kvs more).length<=kvs.length+more.length:=by
 unfold mrg
 induction more generalizing kvs with
 |nil=>exact qAF _
 |cons p r O=>
  rw[qBh,qAd];have h1:=O$ eV kvs p.1 p.2;have h2:=zCp kvs p.1 p.2;lia
inductive wf(x:V)(vs:List V)(H:Hp)(Q:VK):Prop
 |mk:∀a b kvs more,x= .ref a->vs=[.ref b]->H a=some (.dK kvs)->H b=some (.dK more)->a≠b->kvs.length+more.length<=sizeLine->Q .non (upd H a$ .dK$ mrg kvs more)->wf x vs H Q
theorem vy:MtR X "dict.update" wf:=by
 intro pins s σ H x vs v us Q I rx rv h;obtain⟨a,b,kvs,more,rfl,rfl,W,hB,S,hz,q⟩:=h
 cases rx
 obtain⟨u,rfl,ru⟩:=rv.one
 cases ru
 obtain⟨_,a2,V,a3,a4⟩:=I.hok a _ W;obtain⟨_,b2,O,b3,b4⟩:=I.hok b _ hB;have l1:kvs.length=V.length:=qBt a3;have l2:more.length=O.length:=qBt b3;refine call_meetsIn F.slot_dict_update a4.typeIs F.entry_dict_update (F.args_dict_update_2 _ _) (meets_dict_update (zBc X.prog X.w) a b S b2) ⟨V,O,a4,b4,lL,λh' d1 d2 sb=>?_⟩;have new:zBk X.prog X.w (upd H a$ .dK$ mrg kvs more) h' a (.dK$ mrg kvs more):=⟨qAR (uN kvs more) hz,a2,_,a3.mrg b3,d1⟩;refine⟨.non,_,I.write (x:=a) (e:=a) (t':=s.toks) (by rw[W];exact trivial) (.inl rF) (λc o hc z=>(sb.2 c hc).trans z) ?_ new,rF,q⟩;obtain⟨o,_,_,e,_⟩:=d1;exact⟨o,e⟩
end
section
variable{X:Cx}
theorem xM(V:X.A.units<cLine):OpR X (compareOp .NotEq) (fQ X.K true):=by
 intro pins s σ H x y v u Q I W ry h;obtain⟨a,c,xs,ys,rfl,rfl,hx,hy,hl,q⟩:=h
 cases W
 cases ry
 obtain⟨its,r,pl,hz⟩:=I.list hx;obtain⟨S,r2,O,aa⟩:=I.list hy;have e1:=r.length;have e2:=r2.length;exact SeqAt.RcNeAt.lists_lengths pl.isList O.isList (by rw[qAT,qAT];simp;lia) V X.prog X.w X.xe _ ⟨.bl true,H,I,rF,q⟩
end
theorem zJc{X:Cx}{k:Nat}(O:eR k X.A):OpR X (compareOp .NotEq) (λx y H Q=>fP X.K 8 false x y H Q\/fQ X.K true x y H Q):=(wZ$ hu2 O).either$ xM$ hu0 O
theorem pe{ns:List Int}:∀{its:List Value},eB (ns.map V.int) its->∃xs:List (Int×Tok),its=(xs.map λp=>Value.int p.1 p.2)/\xs.map (·.1)=ns:=by
 induction ns with
 |nil=>
  intro its r
  cases r
  exact⟨[],rF,rF⟩
 |cons n ns O=>
  intro its r
  cases r with
  |cons S W=>
   obtain⟨t,rfl⟩:=S;obtain⟨xs,rfl,e⟩:=O W;exact⟨(n,t)::xs,rF,by rw[qAi,e]⟩
theorem mh{xs:List (Int×Tok)}(h:i<xs.length):numAt xs.toArray i∈xs.map (·.1)/\(xs.map (·.1))[i]?=some (numAt xs.toArray i):=by
 have e:numAt xs.toArray i=(xs[i]).1:=by
  unfold numAt;rw[qDr,qAx h];rfl
 rw[e];exact⟨qAG.mpr ⟨xs[i],qC9 h,rF⟩,by rw[qAU,qAx h];rfl⟩
section
variable{X:Cx}
theorem qK(hc:X.calm=true):zC4 X (.builtin "max") (λxs H Q=>∃(p:Addr)(ns:List Int),xs=[.ref p]/\SqL X.K H p (ns.map V.int)/\ns≠[]/\∀M,M∈ns->(∀a∈ns,a<=M)->Q (.int M) H):=by
 intro pins s σ H xs us Q I rv h;obtain⟨p,ns,rfl,hq,O,q⟩:=h;obtain⟨u,rfl,ru⟩:=rv.one
 cases ru
 obtain⟨its,r,pl,hz⟩:=I.list hq;obtain⟨xs,rfl,e⟩:=pe r
 have S:0<xs.length:=by
  have:=List.length_pos_iff.mpr O;rw[<-e,qAB]at this;exact this
 have hI:s.heap.IsList p (intItems xs.toArray):=by
  have:=pl.isList
  rwa [show(xs.map λp=>Value.int p.1 p.2).toArray=intItems xs.toArray from by unfold intItems;simp]at this
 refine max_intList (I.ok.hd hc) hI (by simpa using S) λv h' tk hv hk=>?_;obtain⟨t,rfl⟩:=intItems_at hv;obtain⟨b1,b2⟩:=argBest_gt (numAt xs.toArray)$ xs.toArray.size-1;rw[qAT]at b1 b2;have hb:argBest (λi j=>decide$ numAt xs.toArray i>numAt xs.toArray j) (xs.length-1)<xs.length:=lL
 refine⟨.int _,H,I.kept (t':=tk) hk,⟨t,rF⟩,q _ ?_ λa W=>?_⟩
 .rw [<-e,qAT];exact(mh hb).1
 .rw [<-e]at W;obtain⟨i,hi,rfl⟩:=qBG.mp W;rw[qAB]at hi;have h1:=(mh hi).2;rw[qAx$ by rw[qAB];exact hi]at h1;rw[qAh h1,qAT];exact b2 i lL
end
section
variable{P:Program}{w:World}{A:Around}{E:Value->Shared->Prop}{s:Shared}
theorem qW{e O:Addr}{c:Int}{ys:Array Value}{x old:Value}{Q:Value->Shared->Prop}(he:IsEnum s.heap e O c old)(hi:s.heap.IsListIter O l i)(hl:s.heap.IsList l ys)(hx:ys[i]?=some x)(ne:e≠O)
  (q:∀k,IsEnumOut k e O (c+1) x s.heap.objs.size->k.IsListIter O l (i+1)->k.get? s.heap.objs.size=some {cls:=.type "tuple",data:=.seq #[.int c s.toks,x]}->k.objs.size=s.heap.objs.size+1 ->
   (∀b o,b≠e->b≠O->s.heap.get? b=some o->k.get? b=some o)->Q (.ref s.heap.objs.size) {s with heap:=k,toks:=s.toks+1}) :
  wpAny (model P w) A (Builtin.«enumerate.__next__» ⟨[.ref e],[]⟩) (λr s'=>∃v,r= .done (.ret v)/\Q v s') E s:=by
 obtain⟨h0,g,d,tk,os⟩:=s;have aa:e<h0.objs.size:=qAW he;show wpAny _ _ (field (Value.ref e) 2 >>= _) _ _ ⟨h0,g,d,tk,os⟩;refine qAA$ qBc he rF (x:=Value.ref O) rF ?_;refine qAA$ wpAny_nextOf_list_item hi hl hx λV i1 b1=>?_;have b1:Heap.SameBut O h0 V:=b1;have e1:IsEnum V e O c old:=(b1.2 e ne).trans he;show wpAny _ _ (field (Value.ref e) 3 >>= _) _ _ ⟨V,g,d,tk,os⟩;refine qAA$ qBc (s:=⟨V,g,d,tk,os⟩) e1 rF (x:=rawInt c) rF ?_;show wpAny _ _ (field (Value.ref e) 4 >>= _) _ _ ⟨V,g,d,tk,os⟩;refine qAA$ qBc (s:=⟨V,g,d,tk,os⟩) e1 rF (x:=Value.none) rF ?_;show wpAny _ _ (mkInt c >>= _) _ _ ⟨V,g,d,tk,os⟩;refine qAA$ wpAny_mkInt ?_;show wpAny _ _ (setField (Value.ref e) 3 (rawInt$ c+1) >>= _) _ _ ⟨V,g,d,tk+1,os⟩;refine qAA$ qBd (s:=⟨V,g,d,tk+1,os⟩) e1 sS λW e2 b2=>?_;have b2:Heap.SameBut e V W:=b2;have e2:IsEnum W e O (c+1) old:=e2;show wpAny _ _ (setField (Value.ref e) 4 Value.none >>= _) _ _ ⟨W,g,d,tk+1,os⟩;refine qAA$ qBd (s:=⟨W,g,d,tk+1,os⟩) e2 sS λS e3 b3=>?_;have b3:Heap.SameBut e W S:=b3;have e3:IsEnum S e O (c+1) old:=e3;show wpAny _ _ (newTuple [Value.int c tk,x] >>= _) _ _ ⟨S,g,d,tk+1,os⟩;refine qAA$ qDM ?_;have z3:S.objs.size=h0.objs.size:=b3.1.trans$ b2.1.trans b1.1;have i3:S.IsListIter O l (i+1):=(i1.extBut b2.extBut ne.symm).extBut b3.extBut ne.symm;have t4:(S.push {cls:=.type "tuple",data:=.seq #[Value.int c tk,x]}).get? h0.objs.size=some {cls:=.type "tuple",data:=.seq #[Value.int c tk,x]}:=by rw[<-z3];exact qAg _ rF
 have z4:(S.push {cls:=.type "tuple",data:=.seq #[Value.int c tk,x]}).objs.size=h0.objs.size+1:=by rw[qBM,z3]
 have o4:∀b o,b≠e->b≠O->h0.get? b=some o->(S.push {cls:=.type "tuple",data:=.seq #[Value.int c tk,x]}).get? b=some o:=λb o n1 n2 y=>qAL _$ b3.extBut b o n1$ b2.extBut b o n1$ b1.extBut b o n2 y;have i4:(S.push {cls:=.type "tuple",data:=.seq #[Value.int c tk,x]}).IsListIter O l (i+1):=i3.at λo y=>qAL _ y;have e4:IsEnum (S.push {cls:=.type "tuple",data:=.seq #[Value.int c tk,x]}) e O (c+1) old:=qAL _ e3;show wpAny _ _ (Builtin.SmallTypes.ownedTupleIsFree (.ref e) >>= _) _ _ ⟨S.push {cls:=.type "tuple",data:=.seq #[Value.int c tk,x]},g,d,tk+1,os⟩;have ab:(Shared.heap ⟨S,g,d,tk+1,os⟩).objs.size=h0.objs.size:=z3;rw[ab];generalize S.push {cls:=.type "tuple",data:=.seq #[Value.int c tk,x]}=k4 at t4 z4 o4 i4 e4 ⊢;refine qAA ?_;unfold Builtin.SmallTypes.ownedTupleIsFree;refine qAA$ qBc e4 rF (x:=Value.none) rF$ qAE ?_;simp only[qBX];refine qAA$ qCj ?_;refine qAA$ qBc (s:=⟨k4,g,d,tk+1,os⟩) e4 rF (x:=old) rF ?_;refine qAA$ qBd (s:=⟨k4,g,d,tk+1,os⟩) e4 sS λk5 e5 b5=>?_;have b5:Heap.SameBut e k4 k5:=b5;have e5:IsEnum k5 e O (c+1) x:=e5;refine qAA ?_;unfold Builtin.SmallTypes.ownedTupleHandOut;refine qAA$ qBd (s:=⟨k5,g,d,tk+1,os⟩) e5 sS λk6 e6 b6=>?_;have b6:Heap.SameBut e k5 k6:=b6;have e6:IsEnumOut k6 e O (c+1) x h0.objs.size:=e6;refine qBd (s:=⟨k6,g,d,tk+1,os⟩) e6 sS λk7 e7 b7=>?_;have b7:Heap.SameBut e k6 k7:=b7;have e7:IsEnumOut k7 e O (c+1) x h0.objs.size:=e7;have on:∀b o,b≠e->k4.get? b=some o->k7.get? b=some o:=λb o n y=>b7.extBut b o n$ b6.extBut b o n$ b5.extBut b o n y;refine qAA$ wpAny_letGo$ qAE ⟨_,rF,q k7 e7 (i4.at λo y=>on O o ne.symm y) (on _ _ (qBV aa) t4) (by rw[b7.1,b6.1,b5.1,z4]) λb o n1 n2 y=>on b o n1$ o4 b o n1 n2 y⟩
theorem pU{e O:Addr}{c:Int}{ys:Array Value}{x old:Value}{Q:Option Value->Shared->Prop}(S:IsEnum s.heap e O c old)(hi:s.heap.IsListIter O l i)(V:s.heap.IsList l ys)(W:ys[i]?=some x)(ne:e≠O)
  (q:∀k,IsEnumOut k e O (c+1) x s.heap.objs.size->k.IsListIter O l (i+1)->k.get? s.heap.objs.size=some {cls:=.type "tuple",data:=.seq #[.int c s.toks,x]}->k.objs.size=s.heap.objs.size+1 ->
   (∀b o,b≠e->b≠O->s.heap.get? b=some o->k.get? b=some o)->Q (some$ .ref s.heap.objs.size) {s with heap:=k,toks:=s.toks+1}):wpAny (model P w) A (pyNext$ .ref e) Q E s:=by
 have ty:s.TypeIs (.ref e) "enumerate":= ⟨_,S,rF⟩;unfold pyNext;refine qAA$ qBy$ qCL (name:=Str.ofString "__next__") ty qDN ?_;exact qBL qDN ty F.entry_enumerate_next (qW S hi V W ne λk a b c d y=>qAE$ q k a b c d y)$ F.args_enumerate_next_1 _
theorem tU{e O:Addr}{c:Int}{ys:Array Value}{old:Value}{Q:Option Value->Shared->Prop}(V:A.handled=none)(S:IsEnum s.heap e O c old)(hi:s.heap.IsListIter O l i)(W:s.heap.IsList l ys)(hx:ys[i]?=none)
  (q:∀k,Heap.ExtBut O s.heap k->Q none {s with heap:=k}):wpAny (model P w) A (pyNext$ .ref e) Q E s:=by
 have ty:s.TypeIs (.ref e) "enumerate":= ⟨_,S,rF⟩;unfold pyNext;refine qAA$ qBy$ qCL (name:=Str.ofString "__next__") ty qDN ?_;refine qBL qDN ty F.entry_enumerate_next ?_$ F.args_enumerate_next_1 _;show wpAny _ _ (field (Value.ref e) 2 >>= _) _ _ s;refine qAA$ qBc S rF (x:=Value.ref O) rF ?_;refine qAA$ wpAny_nextOf_list_end V hi W hx λk y b ⟨o,ho,hc⟩=>?_;exact qAA$ qDL (T:="StopIteration") (b:=true) ⟨o,ho,hc⟩ isSubtype_stop$ qAE$ q _ b
end
def Ite(K:PySem.W.Frag)(a:Addr)(lo:Int):It :=
 ⟨λi H=>∃xs x,SqL K H a xs/\xs[i]?=some x,λi H v H'=>∃t x,v= .ref t/\H t=none/\H'=upd H t (.tup [.int (lo+i),x])/\∀xs,SqL K H a xs->xs[i]?=some x,λi H=>∃xs,SqL K H a xs/\xs.length<=i⟩
theorem jt{fs ex:List Addr}{h h':Heap}{o:HO}(k:∀b u,b∉ex->h.get? b=some u->h'.get? b=some u)(V:h.objs.size<=a)(S:H a=none):Un fs ex H (upd H a o) h h' where
 keep:=λb u q _ _ O=>k b u O q
 slot:=λb u q _ _ O=>⟨u.slots,k b u O q⟩
 free:=λb u q n _=>by rw[a_$ qAe$ qAs (qAW q) V];exact n
 there:=λb u q O=>⟨u,k b u O q⟩
 tups:=λb xs q=>by rw[a_$ zAp q S];exact q
 frzs:=λb u xs q=>by rw[a_$ zAp q S];exact q
 tbls:=λb ps q=>⟨#[],by rw[a_$ zAp q S,q];simp⟩
theorem zL3{P:Program}{w:World}{h h':Heap}{ex:List Addr}{o:HO}(x:HOk P w H h)(k:∀b u,b∉ex->h.get? b=some u->h'.get? b=some u)(hex:∀b∈ex,H b=none)(V:h.objs.size<=a)(new:zBk P w (upd H a o) h' a o):HOk P w (upd H a o) h':=λb u e=>by
 have S:=x.fresh V
 by_cases hb:b=a
 .subst hb;rw[ac]at e;cases e;exact new
 .rw [a_ hb]at e;refine(x b u e).stay (λc v W q=>k c v (λz=>?_) q) (λc q=>by rw[a_$ zAp q S];exact q) λc xs q=>by rw[a_$ zAp q S];exact q
  have O:=hex c z;rcases W with y|y
  .rw [y,e]at O;cases O
  .rw [y]at O;cases O
theorem ql{P:Program}{w:World}{K:PySem.W.Frag}{elts:List Expr}{kk:Nat}{tp:Pos}(a e O:Addr)(lo:Int)(ne:e≠O):ig P w K (.Tuple elts kk tp) (Ite K a lo) [e,O] e (λi h=>∃old,IsEnum h e O (lo+(i:Nat)) old/\h.IsListIter O a i) where
 mem:=sS
 obj:=λi h st b S=>by
  obtain⟨old,V,o,s2,s3,s4⟩:=st;have cs:b=e\/b=O:=by simpa using S
  rcases cs with z|z
  .rw [z];exact⟨_,V,λv y=>by cases y⟩
  .rw [z];exact⟨o,s2,λv y=>by rw[s4]at y;cases y⟩
 keep:=λi h h' ⟨old,V,s2⟩ k=>⟨old,k e sS _ V,s2.at λo y=>k O sS o y⟩
 item:=by
  intro X hP hw hK hc i pins s σ H E I hf st hg;subst hP hw hK;obtain⟨xs,x,hq,hx⟩:=hg;obtain⟨old,V,s2⟩:=st;obtain⟨its,rv,p,hz⟩:=I.list hq;obtain⟨u,hu,ru⟩:=rv.get hx;refine pU V s2 p.isList (x:=u) (by simpa using hu) ne λk eo i1 t1 z1 o1=>?_;refine⟨_,rF,wpAny_letOwnedTupleGo_enum eo λW e2 b2=>?_⟩;have b2:Heap.SameBut e k W:=b2;have aa:e<s.heap.objs.size:=qAW V;have t2:W.get? s.heap.objs.size=some {cls:=.type "tuple",data:=.seq #[.int (lo+(i:Nat)) s.toks,u]}:=b2.extBut _ _ (qBV aa) t1;have on:∀b o,b∉[e,O]->s.heap.get? b=some o->W.get? b=some o:=λb o nb y=>b2.extBut b o (λz=>nb$ by simp[z])$ o1 b o (λz=>nb$ by simp[z]) (λz=>nb$ by simp[z]) y;have hn:∀b∈[e,O],H b=none:=λb S=>(hf b S).1;have new:zBk X.prog X.w (upd H s.heap.objs.size$ .tup [.int (lo+(i:Nat)),x]) W s.heap.objs.size (.tup [.int (lo+(i:Nat)),x]):=⟨by show(2:Nat)<=sizeLine;decide,[.int (lo+(i:Nat)) s.toks,u],.cons ⟨_,rF⟩$ .cons ru .nil,⟨_,t2,rF,_,rF⟩⟩
  have I2:Inv X pins σ (upd H s.heap.objs.size$ .tup [.int (lo+(i:Nat)),x]) {s with heap:=W,toks:=s.toks+1}:=I.call' (ch:=[e,O]) rF (jt on (qAF _)$ I.hok.fresh$ qAF _) (zL3 I.hok on hn (qAF _) new) I.bare λb S=>by
   obtain⟨_,f1,_,f3,f4,f5⟩:=hf b S;exact⟨f3,f1,f4,f5⟩
  refine⟨.ref s.heap.objs.size,_,I2,rF,⟨_,x,rF,I.hok.fresh$ qAF _,rF,λys hy=>by rw[I.list_inj hy hq];exact hx⟩,⟨u,?_,i1.extBut b2.extBut ne.symm⟩,λb S=>?_⟩
  .have e2:IsEnum W e O (lo+(i:Nat)+1) u:=e2;show IsEnum W e O (lo+((i+1:Nat):Int)) u;rw[show lo+((i+1:Nat):Int)=lo+(i:Nat)+1 by lia];exact e2
  .have ab:=hn b S
   have:b≠s.heap.objs.size:=by
    have cs:b=e\/b=O:=by simpa using S
    rcases cs with z|z
    .rw [z];exact qAe aa
    .obtain ⟨o,y,_⟩:=s2;rw[z];exact qAe$ qAW y
   rw[a_ this];exact ab
 done:=by
  intro X hP hw hK hc i pins s σ H E I hf st hg;subst hP hw hK;obtain⟨xs,hq,hx⟩:=hg;obtain⟨old,V,s2⟩:=st;obtain⟨its,rv,p,hz⟩:=I.list hq;obtain⟨f0,f1,f2,f3,f4,f5⟩:=hf O sS;have hl:=rv.length;exact tU (I.ok.hd hc) V s2 p.isList (by simp;lia) λh' eb=>⟨rF,I.turned (t':=s.toks) (λb o S y=>eb b o S y) f0 f1 f3 f4 f5⟩
 self:=λ_ _ _ _ _ ⟨_,st,_⟩ h=>wpAny_pyIter_enum st h
section
variable{X:Cx}{elts:List Expr}{kk:Nat}{tp:Pos}
theorem iW:bootBuiltins "enumerate"=some (.type "enumerate"):=by decide +kernel
theorem oU{pins:List (Addr×Obj)}{σ:St}{s:Shared}{R:It->Hp->Prop}{E:Value->Shared->Prop}{lo:Int}{h':Heap}{tk:Nat}(I:Inv X pins σ H s)(O:IsEnum h' (s.heap.objs.size+1) s.heap.objs.size lo .none)(hi:h'.IsListIter s.heap.objs.size a 0)
  (k:∀b o,s.heap.get? b=some o->h'.get? b=some o) (q:R (Ite X.K a lo) H) :
  wpAny (model X.prog X.w) X.A (pyIter$ .ref$ s.heap.objs.size+1) (PIE X pins σ (.Tuple elts kk tp) R) E {s with heap:=h',toks:=tk}:=by
 refine wpAny_pyIter_enum O ?_;refine⟨s.heap.objs.size+1,[s.heap.objs.size+1,s.heap.objs.size],_,_,H,rF,I.kept (t':=tk) k,ql a (s.heap.objs.size+1) s.heap.objs.size lo$ Nat.succ_ne_self _,⟨.none,by simpa using O,hi⟩,λb S=>?_,q⟩;have V:b=s.heap.objs.size+1\/b=s.heap.objs.size:=by simpa using S
 rcases V with e|e
 .subst e;exact I.fpOk lL$ I.hok.fresh lL
 .subst e;exact I.fpOk (qAF _)$ I.hok.fresh$ qAF _
inductive sZ(K:PySem.W.Frag)(R:It->Hp->Prop)(vs:List V)(H1:Hp):Prop
 |mk:∀a,vs=[.ref a]->(∃xs,SqL K H1 a xs)->R (Ite K a 0) H1->sZ K R vs H1
def x9(K:PySem.W.Frag)(ta:TA):TI:=λσ H R=>ta σ H λvs H1=>sZ K R vs H1
theorem pz{a:Expr}{ta:TA}{p pos:Pos}(S:Gl X "enumerate")(V:X.mg "enumerate"=none)(W:PA X [a] ta)(hs:starEach [a] X.env=[(false,eval a X.env)]:=by rfl):PI X (.Tuple elts kk tp) (.Call (.Name "enumerate" p) [a] [] pos) (x9 X.K ta):=by
 intro pins s σ H R I h;refine Call_$ zJi I S V iW$ qC2 (thn (W pos pins s σ H _ I h) λus s1 ⟨vs,H1,O,r1,q1⟩=>?_) hs rF;obtain⟨a,e,⟨xs,hq⟩,q⟩:=q1;subst e;obtain⟨u,rfl,ru⟩:=r1.one
 cases ru
 obtain⟨its,r,pl,hz⟩:=O.list hq;exact call_enumerate_list pl.isList λh' e1 e2 e3 e4=>oU (tk:=s1.toks) O e1 e2 e4 q
theorem pB{α:Type}{M:Model}{A:Around}{c:Prop}[Decidable c]{x y:Sem α}{Q:α->Shared->Prop}{E:Value->Shared->Prop}{s:Shared}(h1:wpAny M A x Q E s)(h2:wpAny M A y Q E s):wpAny M A (if c then x else y) Q E s:=by
 split
 .exact h1
 .exact h2
open AutoSeq1 (wpAny_loadPart') in
theorem zLy(l:Addr)(S:Array Value)(n:Nat)(O:Option Addr)(sl:Array (Option Value))(j:Int)(t:Tok)(hj:Builtin.SmallTypes.fitsIndex j=true) :
  Meets (Builtin.«enumerate.__new__» ⟨[.type "enumerate",.ref l],[(Str.ofString "start",.int j t)]⟩) (λ_ R s=>s.heap.get? l=some ⟨.type "list",O,.seq S n,sl⟩ /\ R (.ok$ .ret$ .ref (s.heap.push {cls:=.type "list_iterator",data:=.fields #[.ref l,.int 0 0]}).objs.size) {s with heap:=(s.heap.push {cls:=.type "list_iterator",data:=.fields #[.ref l,.int 0 0]}).push {cls:=.type "enumerate",data:=.fields #[.none,.bool false,.ref s.heap.objs.size,rawInt j,.none,.none]}}) :=
 .of_wp λprog w A R s h=>by
  obtain⟨h0,g,d,tk,os⟩:=s;obtain⟨V,h⟩:=h;have W:=sub_enumerate;have hL:Heap.IsList (Shared.heap ⟨h0,g,d,tk,os⟩) l S:=⟨_,V,rF,n,rF⟩
  wp_walk using wpAny_loadPart' V
  refine wpAny_stack_any λst=>qAE ?_;refine pB ?_ ?_
  all_goals
   refine qAA$ qCK (a:=(.ref l,some (.int j t))) (by with_unfolding_all rfl) ?_
   wp_walk using wpAny_loadPart' V,qC1 hL
   exact⟨_,rF,h⟩
theorem sR{T mk:String}{me:Value}{rest:List Value}{kw:List (Str×Value)}(look:typeLookup (.type T) "__init__"=pure (some$ .builtin "object.__init__"))(made:Bind.madeBy (.type T)=pure (some mk))(O:(some mk != some "object.__new__")=true) :
  Meets (Builtin.«object.__init__» ⟨me::rest,kw⟩) (λ_ R s=>s.TypeIs me T/\R (.ok$ .ret .none) s):=by
 refine Meets.of_wp λprog w A R s ⟨ty,q⟩=>?_;show wpAny _ _ (if(!rest.isEmpty|| !kw.isEmpty)=true then _ else _) _ _ s;refine pB ?_$ qAE ⟨_,rF,q⟩
 repeat (any_goals (first|assumption|wp_step))
 exact⟨_,rF,q⟩
section
variable{P:Program}{w:World}{A:Around}{E:Value->Shared->Prop}{s:Shared}
theorem rE{T mk:String}{B:Builtin}{xs:List Value}{kw:List (Str×Value)}{S:PySem.Spec}{Q:Value->Shared->Prop}(O:TypeCalled T mk "object.__init__")(W:(some mk != some "object.__new__")=true)
  (c1:checkTypeCall T ⟨xs,kw⟩=pure ()) (c2:checkBuiltinCall mk ⟨.type T::xs,kw⟩=pure ()) (c3:∀o,argsOk "object.__init__" ⟨o::xs,kw⟩) (en:entryFor table mk=some B) (g:Meets (B ⟨.type T::xs,kw⟩) S)
  (h:S A.in1 (wants (λo s1=>s1.TypeIs o T/\Q o s1) E) s):wpAny (model P w) A (call (.type T) xs kw) Q E s:=by
 obtain⟨c,tl,aa⟩:=O.mro;have m1:=O.made;have m2:=O.sub;have m3:=O.notType;have m4:=O.canCreate;refine qCY$ codeAny_of_tree ?_;show wpAny _ _ (callAny (.type T) _) _ _ _;refine qAE ⟨Code.quiet_builtin _ kK,qB1 F.entry_type_call ?_⟩;rw[Around.under_plain (weight_type_call_type T xs kw)$ units_type_call_type T xs kw]
 repeat (any_goals (first|assumption|wp_step))
 refine qBk (qDJ O.plain en$ qCK c2$ g P w A.in1 _ s h) λr s1 hr=>?_
 cases r with
 |error e=>exact hr
 |ok f1=>
  cases f1 with
  |next=>exact hr.elim
  |brk=>exact hr.elim
  |cont=>exact hr.elim
  |ret o=>
   obtain⟨ty,q⟩:=hr;have l1:=O.init.lookup;have l2:=O.init.bind o
   repeat (any_goals (first|assumption|wp_step))
   have io:=sR (me:=o) (rest:=xs) (kw:=kw) O.init.lookup O.made W P w A.in1 (wants (λr s2=>r= .none/\Q o s2) E) s1 ⟨ty,rF,q⟩;refine qBk (qDJ O.init.plain F.entry_object_init$ O.init.check _ _ _ _ _ _ _ _ ty (c3 o) io) λr2 s2 V=>?_
   cases r2 with
   |error e=>exact V
   |ok f2=>
    cases f2 with
    |next=>exact V.elim
    |brk=>exact V.elim
    |cont=>exact V.elim
    |ret v=>
     obtain⟨z,q2⟩:=V;subst z
     repeat (any_goals (first|assumption|wp_step))
theorem tw_kw{pos:Pos}{T:String}{first:List Value}{S:List (Bool×Sem Value)}{kws:List (Option Str×Sem Value)}{Q:Value->Shared->Prop}{M:Model}(h1:S.any (·.1)=false)(h2:kws.any (·.1.isNone)=false)
  (h:wpAny M A (evalArgs (.type T) true S kws) (λa V=>wpAny M A (call (.type T) (first++a.pos) a.kw) Q E V) E s):wpAny M A (callWith pos (.type T) first S kws) Q E s:=by
 unfold callWith;refine qAA$ qBF$ thn h λa V O=>qAA$ qCT ?_;simp only[h1,h2,qC4];exact qAA$ qAE$ qAA$ thn O λr s2 W=>qAA$ qBF$ wpAny_point$ qAE W
theorem jy{S:Array Value}{j:Int}{t:Tok}{Q:Value->Shared->Prop}(hj:Builtin.SmallTypes.fitsIndex j=true)(hL:s.heap.IsList l S)
  (h:∀h',IsEnum h' (s.heap.objs.size+1) s.heap.objs.size j .none->h'.IsListIter s.heap.objs.size l 0->(∀b o,s.heap.get? b=some o->h'.get? b=some o)->Q (.ref$ s.heap.objs.size+1) {s with heap:=h'}) :
  wpAny (model P w) A (call (.type "enumerate") [.ref l] [(Str.ofString "start",.int j t)]) Q E s:=by
 obtain⟨⟨c,O,dt,sl⟩,hl,V,n,W⟩:=hL;have V:c= .type "list":= V;have W:dt= .seq S n:=W;subst V W;refine rE F.called_enumerate dD (by kernel_rfl) (by kernel_rfl) (λo=>by kernel_rfl) F.entry_enumerate_new (zLy l S n O sl j t hj) ⟨hl,?_⟩;have z:(s.heap.push {cls:=.type "list_iterator",data:=.fields #[.ref l,.int 0 0]}).objs.size=s.heap.objs.size+1:=qBM ..;show _/\_;rw[z];generalize hk:(s.heap.push {cls:=.type "list_iterator",data:=.fields #[.ref l,.int 0 0]})=k at z;have k0:k.IsListIter s.heap.objs.size l 0:=by rw[<-hk];exact⟨_,qAg _ rF,rF,rF⟩
 have ko:∀b o,s.heap.get? b=some o->k.get? b=some o:=λb o x=>by rw[<-hk];exact qAL _ x
 have he:IsEnum (k.push {cls:=.type "enumerate",data:=.fields #[.none,.bool false,.ref s.heap.objs.size,rawInt j,.none,.none]}) (s.heap.objs.size+1) s.heap.objs.size j .none:=by
  rw[<-z];exact qAg _ rF
 exact⟨⟨_,he,rF⟩,h _ he (k0.at λo x=>qAL _ x) λb o x=>qAL _$ ko b o x⟩
end
inductive oB(K:PySem.W.Frag)(j:Int)(R:It->Hp->Prop)(vs:List V)(H1:Hp):Prop
 |mk:∀a,vs=[.ref a]->(∃xs,SqL K H1 a xs)->R (Ite K a j) H1->oB K j R vs H1
def xT(K:PySem.W.Frag)(j:Int)(ta:TA):TI:=λσ H R=>ta σ H λvs H1=>oB K j R vs H1
theorem sU{a:Expr}{ta:TA}{p pos kp W:Pos}{j:Int}{jj:Nat}(hg:Gl X "enumerate")(hm:X.mg "enumerate"=none)(ha:PA X [a] ta)(hj:Builtin.SmallTypes.fitsIndex j=true:=by rfl)(hs:starEach [a] X.env=[(false,eval a X.env)]:=by rfl) :
  PI X (.Tuple elts kk tp) (.Call (.Name "enumerate" p) [a] [⟨some$ Str.ofString "start",.Constant (.int j) jj W,kp⟩] pos) (xT X.K j ta):=by
 intro pins s σ H R I h;refine qB9$ zJi I hg hm iW ?_;refine tw_kw (by rw[hs];rfl) rF ?_;have O:=ha pos pins s σ H _ I h;have e0:backTo pos (starEach [a] X.env)=(false,eval a X.env)::[]:=by rw[hs];rfl
 rw[e0]at O ⊢;refine evalArgs_kwB rF$ thn O λus s1 ⟨vs,H1,I1,r1,q1⟩=>?_;refine thn (uz zAg xh pos pins s1 σ H1 (λzs H2=>zs=[.int j]/\H2=H1) I1 ⟨rF,rF⟩) λws s2 ⟨zs,H2,V,rz,ez,eh⟩=>?_;subst ez eh;obtain⟨a,e,⟨xs,hq⟩,q⟩:=q1;subst e;obtain⟨u,rfl,ru⟩:=r1.one
 cases ru
 obtain⟨w1,rfl,S⟩:=rz.one;obtain⟨t,rfl⟩:=S;obtain⟨its,r,pl,hz⟩:=V.list hq;exact jy hj pl.isList λh' e1 e2 e4=>oU (tk:=s2.toks) V e1 e2 e4 q
theorem zL5{K:PySem.W.Frag}{lo:Int}{xs:List V}{g:TG}{tb:TS}{D:fW}{σ:St}(O:Nat->St->Hp->Prop)(h0:O 0 σ H)(hl:∀i σ H,i<=xs.length->O i σ H->SqL K H a xs)
  (hs:∀i x σ H t,xs[i]?=some x->O i σ H->H t=none->g (.ref t) σ (upd H t$ .tup [.int (lo+i),x]) λS H2=>tb {D with nx:=O (i+1),ct:=O (i+1),bk:=D.nx} S H2) (hd:∀σ H,O xs.length σ H->D.nx σ H) :
  ∃W:Nat->Nat->St->Hp->Prop,(∃m,W 0 m σ H)/\∀i m σ H,W i m σ H ->
   ((Ite K a lo).stop i H/\D.nx σ H)\/((Ite K a lo).go i H/\∃N:St->Hp->Prop,(∀aa H',N aa H'->∃m',m'<m/\W (i+1) m' aa H')/\∀x H',(Ite K a lo).yld i H x H'->g x σ H' λS H2=>tb {D with nx:=N,ct:=N,bk:=D.nx} S H2):=by
 refine⟨λi m σ H=>m=xs.length-i/\i<=xs.length/\O i σ H,⟨xs.length,sS,qAm _,h0⟩,?_⟩;rintro i m σ H ⟨rfl,hi,p⟩;have q:=hl i σ H hi p
 by_cases hlt:i<xs.length
 .refine .inr ⟨⟨xs,xs[i],q,by simp[hlt]⟩,O$ i+1,λaa H' p'=>⟨xs.length-(i+1),lL,rF,hlt,p'⟩,λv H' y=>?_⟩;obtain⟨t,x,rfl,hn,rfl,y⟩:=y;exact hs i x σ H t (y xs q) p hn
 .have e:i=xs.length:=lL
  subst e;exact .inl ⟨⟨xs,q,qAF _⟩,hd σ H p⟩
end
open AutoSeq1 (wpAny_loadPart')
section
variable{X:Cx}
theorem nN:zC4 X (.type "dict") (λxs H Q=>∃a kvs,xs=[.ref a]/\Rd H a (.dK kvs)/\∀p,H p=none->Q (.ref p) (upd H p$ .dK kvs)):=by
 intro pins s σ H xs us Q I V h;obtain⟨a,kvs,rfl,e,q⟩:=h;obtain⟨u,rfl,O⟩:=V.one
 cases O
 exact rO I e λp s' S W=>⟨.ref p,_,W,rF,q p S⟩
end
end L2
namespace L2
open PySem PySem.Spec PyProof.Rows PySem.W PySem.Builtin PySem.Builtin.ObjectAttr PySem.Builtin.Getset_descriptor
end L2
namespace L2
open PySem PySem.Spec PyProof.Rows
section
variable{X:Cx}
theorem wS:SlR X (λx lo hi H Q=>∃z,x= .str z/\z.length<=sizeLine/\Q (.str$ Txt.slice z lo hi) H):=by
 intro pins s σ H x v vl vu lo hi sl Q I rx hs pl V h;obtain⟨z,rfl,O,q⟩:=h;obtain⟨t,rfl⟩:=rx;refine⟨"str",_,F.slot_str_getitem.lookup,qBx _ _ _,?_⟩
 cases pl with
 |none=>
  cases V with
  |none=>exact qDO (l:=none) (u:=none) (st:=none) hs rF$ qDP ⟨qAR (qDQ z _ _) O,λt' k=>⟨.str _,H,I.tok _,⟨t',rF⟩,q⟩⟩
  |int j S=>exact qDO (l:=none) (u:=some (j,S)) (st:=none) hs rF$ qDP ⟨qAR (qDQ z _ _) O,λt' k=>⟨.str _,H,I.tok _,⟨t',rF⟩,q⟩⟩
 |int i W=>
  cases V with
  |none=>exact qDO (l:=some (i,W)) (u:=none) (st:=none) hs rF$ qDP ⟨qAR (qDQ z _ _) O,λt' k=>⟨.str _,H,I.tok _,⟨t',rF⟩,q⟩⟩
  |int j S=>exact qDO (l:=some (i,W)) (u:=some (j,S)) (st:=none) hs rF$ qDP ⟨qAR (qDQ z _ _) O,λt' k=>⟨.str _,H,I.tok _,⟨t',rF⟩,q⟩⟩
end
theorem sL(xs:List V){b:Int}(h:0<=b):ij xs (some b) none=xs.drop b.toNat:=by
 obtain⟨k,rfl⟩:∃k:Nat,b=k:=⟨b.toNat,lL⟩;unfold ij;rw[HT.sIx_nat,HT.sIx_none];show(xs.drop$ min k xs.length).take (xs.length-min k xs.length)=xs.drop k;rw[qBC$ by rw[qBm];lia]
 by_cases z:k<=xs.length
 .rw [Nat.min_eq_left z]
 .rw [Nat.min_eq_right lL,qCt lL,qCt lL]
open AutoSeq1 (wpAny_loadPart')
section
variable{X:Cx}
theorem tQ:OpR X (binaryOp .FloorDiv) (rI (λ_ j=>0<j/\j<10^100) λi j=>.int$ i / j):=opI λi j _ _ _ _ _ O q=>by
 have h1:(0:Int)<j:=O.1;have h2:j<10^100:=O.2;refine floordiv_int lL (by rw[qDf i lL];exact q)$ .inl$ PyProof.noPylong_of_log2 ?_;have S:j.natAbs≠0:=lL
 rw[Nat.log2_lt S];have:j.natAbs<10^100:=lL
 exact qAs this kK
end
end L2
namespace RV
open PySem
end RV
namespace L2
open PySem PySem.Spec PyProof.Rows
section
variable{X:Cx}
theorem oE{P:Program}{w:World}{k:Key}{u:Value}(h:(zBc P w).is k u=true):eE (kV k) u:=by
 rcases zBj (show gX k u=true from h) with⟨i,t,rfl,rfl⟩|⟨x,t,rfl,rfl⟩
 .exact ⟨t,rF⟩
 .exact ⟨t,rF⟩
theorem r_:∀{kvs:List (Key×V)} {vs:List (Key×Value)} {j:Nat} {k:Key} {v:V},KV kvs vs->kvs[j]?=some (k,v)->∃u,vs[j]?=some (k,u)/\eE v u
 |_,_,j,_,_,.nil,h=>by simp at h
 |_,_,0,k,v,.cons (a:=a) (b:=b) r _,h=>by
  have e:a=(k,v):=by simpa using h
  subst e;exact⟨b.2,by simp;exact Prod.ext r.1.symm rF,r.2⟩
 |_,_,j+1,k,v,.cons r O,h=>by
  obtain⟨u,h1,h2⟩:=r_ O (show _=some (k,v) by simpa using h);exact⟨u,by simpa using h1,h2⟩
end
section
variable{X:Cx}{pins:List (Addr×Obj)}{σ:St}{H:Hp}{s:Shared}{a:Addr}{u o':HO}
theorem Inv.retell(I:Inv X pins σ H s)(e:H a=some u)(S:∀xs,u≠.tup xs)(no:∀x,u≠.own x)(V:∀ps,u≠.tbl ps)(W:∀o v,X.H₀ a≠some (.frz o v))(new:zBk X.prog X.w (upd H a o') s.heap a o'):Inv X pins σ (upd H a o') s:=by
 have O:∀b,H b=none->b≠a:=λb h z=>by rw[z,e]at h;cases h
 refine⟨I.ok,I.os,I.bare,⟨I.base.keep,I.base.slot,λb o q n x=>?_,I.base.there,λb xs q=>?_,λb o v q=>?_,λb ps q=>?_⟩,I.loc,I.cell,?_,λx c h=>?_,λp hp=>?_,λb o q=>?_,I.len⟩
 .have:=I.base.free b o q n x;rw[a_$ O b this];exact this
 .have:=I.base.tups b xs q;rw[a_ λz=>by rw[z,e]at this;exact S xs$ qAh this];exact this
 .have:=I.base.frzs b o v q;rw[a_ λz=>W o v$ by rw[<-z];exact q];exact this
 .obtain ⟨more,this⟩:=I.base.tbls b ps q;exact⟨more,by rw[a_ λz=>by rw[z,e]at this;exact V _$ qAh this];exact this⟩
 .rw [a_$ O _ I.free];exact I.free
 .rw [a_$ O _$ I.freeC x c h];exact I.freeC x c h
 .obtain ⟨h1,h2,h3⟩:=I.pin p hp;exact⟨h1,by rw[a_$ O _ h2];exact h2,h3⟩
 .by_cases z:b=a
  .subst z;rw[ac]at q;cases q;exact new
  .rw [a_ z]at q;refine(I.hok b o q).stay (λc v _ y=>y) (λc y=>?_) λc xs y=>?_
   .rw [a_ λz=>by rw[z,e]at y;exact no _$ qAh y];exact y
   .rw [a_ λz=>by rw[z,e]at y;exact S _$ qAh y];exact y
end
def v5(D:fW)(a:Addr)(o:Obj)(kvs:List (Key×V)):fW where
 nx:=λσ H=>H a=some (.frz o$ .dK kvs)/\D.nx σ (upd H a$ .dK kvs)
 rt:=λv H=>H a=some (.frz o$ .dK kvs)/\D.rt v (upd H a$ .dK kvs)
 bk:=λσ H=>H a=some (.frz o$ .dK kvs)/\D.bk σ (upd H a$ .dK kvs)
 ct:=λσ H=>H a=some (.frz o$ .dK kvs)/\D.ct σ (upd H a$ .dK kvs)
section
variable{X:Cx}
theorem Inv.thaw{pins:List (Addr×Obj)}{σ:St}{H:Hp}{s:Shared}{a:Addr}{o:Obj}{kvs:List (Key×V)}(I:Inv X pins σ H s)(e:H a=some (.frz o$ .dK kvs))(O:∀o v,X.H₀ a≠some (.frz o v)):Inv X pins σ (upd H a$ .dK kvs) s:=by
 obtain⟨_,z⟩:zBk X.prog X.w H s.heap a (.frz o$ .dK kvs):=I.hok a _ e;exact I.retell e (λ_ h=>nomatch h) (λ_ h=>nomatch h) (λ_ h=>nomatch h) O z
theorem xI{st:Stmt}{t:TS}(h:PS X st t):PS X st (λD σ H=>∃a kvs,H a=some (.dK kvs)/\∀o,t (v5 D a o kvs) σ (upd H a$ .frz o$ .dK kvs)):=by
 intro pins s σ H D I ⟨a,kvs,e,q⟩;have ok:zBk X.prog X.w H s.heap a (.dK kvs):=I.hok a _ e;obtain⟨_,_,_,_,o,_,_,W,_⟩:=id ok
 have V:∀o v,X.H₀ a≠some (.frz o v):=λo v z=>by
  have:=I.base.frzs a o v z;rw[e]at this;cases this
 have I1:Inv X pins σ (upd H a$ .frz o$ .dK kvs) s:=I.retell e (λ_ h=>nomatch h) (λ_ h=>nomatch h) (λ_ h=>nomatch h) V ⟨W,ok⟩;refine thn (h pins s σ _ _ I1$ q o) λf s' r=>?_
 cases f with
 |next=>obtain⟨O,H',S,e',d'⟩:=r;exact⟨O,_,S.thaw e' V,d'⟩
 |brk=>obtain⟨O,H',S,e',d'⟩:=r;exact⟨O,_,S.thaw e' V,d'⟩
 |cont=>obtain⟨O,H',S,e',d'⟩:=r;exact⟨O,_,S.thaw e' V,d'⟩
 |ret u=>obtain⟨v,O,H',S,rv,e',d'⟩:=r;exact⟨v,O,_,S.thaw e' V,rv,d'⟩
end
end L2
namespace RV
open PySem
theorem e_itemIter:entryFor table "dict_itemiterator.__iter__"=some Builtin.«dict_keyiterator.__iter__» :=
 entryFor_alias (id':="dict_keyiterator.__iter__") (by kernel_rfl) kK kK (by kernel_rfl)
end RV
namespace L2
open PySem PySem.Spec PyProof.Rows
def Itm(a:Addr)(o:Obj)(kvs:List (Key×V)):It :=
 ⟨λi H=>H a=some (.frz o$ .dK kvs)/\i<kvs.length,λi H v H'=>∃t k x,v= .ref t/\H t=none/\kvs[i]?=some (k,x)/\H'=upd H t (.tup [kV k,x]),λi H=>H a=some (.frz o$ .dK kvs)/\kvs.length<=i⟩
theorem zKo{X:Cx}{pins:List (Addr×Obj)}{σ:St}{H:Hp}{s:Shared}{a:Addr}{o:Obj}{kvs:List (Key×V)}(I:Inv X pins σ H s)(e:H a=some (.frz o$ .dK kvs)) :
  ∃vs es ep,KV kvs vs/\o.data= .dict es ep/\es.size=kvs.length/\s.heap.DictAt (zBc X.prog X.w) a vs ep/\(a==sysModules)=false/\kvs.length<=sizeLine/\s.heap.get? a=some o/\o.ExactDict:=by
 obtain⟨S,z,hd,vs,O,o1,es,ep,W,y2,y3,y4,y5,y6⟩:zBk X.prog X.w H s.heap a (.frz o$ .dK kvs):=I.hok a _ e;rw[S]at W
 cases W
 have l1:=y5.length;have l2:=O.length;exact⟨vs,es,ep,O,y3,by simp only[qBv]at l1;lia,⟨o,es,S,y2,y3,y4,y5,y6⟩,hd,z,S,y2⟩
theorem nQ{P:Program}{w:World}{K:PySem.W.Frag}{elts:List Expr}{kk:Nat}{tp:Pos}(a O:Addr)(o:Obj)(es:Array DictEntry)(ep:Nat)(kvs:List (Key×V))(hd:o.data= .dict es ep)(sz:es.size=kvs.length):ig P w K (.Tuple elts kk tp) (Itm a o kvs) [O] O (λi h=>∃ok ov,IsItemIter h O a i kvs.length ep ok ov) where
 mem:=sS
 obj:=λi h ⟨ok,ov,st⟩ b W=>by
  have:b=O:=by simpa using W
  subst this;exact⟨_,st,λv y=>by cases y⟩
 keep:=λi h h' ⟨ok,ov,st⟩ k=>⟨ok,ov,k O sS _ st⟩
 item:=by
  intro X hP hw hK hc i pins s σ H E I hf st hg;subst hP hw hK;obtain⟨e,hi⟩:=hg;obtain⟨ok,ov,st⟩:=st;obtain⟨vs,ae,ab,aa,S,_,da,_,_,ho,_⟩:=zKo I e;have ee:ab=ep:=by rw[hd]at S;cases S;rfl
  subst ee;have len:=aa.length;have ek:kvs[i]?=some (kvs[i].1,kvs[i].2):=qAx hi;obtain⟨v,ev,rv⟩:=r_ aa ek;rw[len]at st;refine wpAny_pyNext_items_item st da ev λkey h1 hk eo t1 z1 o1=>?_;refine⟨_,rF,wpAny_letOwnedTupleGo_items eo λh2 e2 b2=>?_⟩;have b2:Heap.SameBut O h1 h2:=b2;have ad:O<s.heap.objs.size:=qAW st;have t2:h2.get? s.heap.objs.size=some {cls:=.type "tuple",data:=.seq #[key,v]}:=b2.extBut _ _ (qBV ad) t1;have on:∀b u,b∉[O]->s.heap.get? b=some u->h2.get? b=some u:=λb u nb y=>b2.extBut b u (λz=>nb$ by simp[z])$ o1 b u (λz=>nb$ by simp[z]) y;have hn:∀b∈[O],H b=none:=λb W=>(hf b W).1;have new:zBk X.prog X.w (upd H s.heap.objs.size$ .tup [kV kvs[i].1,kvs[i].2]) h2 s.heap.objs.size (.tup [kV kvs[i].1,kvs[i].2]):=⟨by show(2:Nat)<=sizeLine;decide,[key,v],.cons (oE hk)$ .cons rv .nil,⟨_,t2,rF,_,rF⟩⟩
  have I2:Inv X pins σ (upd H s.heap.objs.size$ .tup [kV kvs[i].1,kvs[i].2]) {s with heap:=h2}:=I.call' (ch:=[O]) rF (jt on (qAF _)$ I.hok.fresh$ qAF _) (zL3 I.hok on hn (qAF _) new) I.bare λb W=>by
   obtain⟨_,f1,_,f3,f4,f5⟩:=hf b W;exact⟨f3,f1,f4,f5⟩
  rw[<-len]at e2;refine⟨.ref s.heap.objs.size,_,I2,rF,⟨_,_,_,rF,I.hok.fresh$ qAF _,ek,rF⟩,⟨_,_,e2⟩,λb W=>?_⟩;have af:=hn b W;have:b=O:=by simpa using W
  rw[a_$ by rw[this];exact qAe ad];exact af
 done:=by
  intro X hP hw hK hc i pins s σ H E I hf st hg;subst hP hw hK;obtain⟨e,hi⟩:=hg;obtain⟨ok,ov,st⟩:=st;obtain⟨vs,ae,ab,aa,S,_,da,_,_,ho,_⟩:=zKo I e;have ee:ab=ep:=by rw[hd]at S;cases S;rfl
  subst ee;have len:=aa.length;rw[len]at st;obtain⟨f0,f1,f2,f3,f4,f5⟩:=hf O sS;exact wpAny_pyNext_items_end (I.ok.hd hc) st da (by simp;lia) λh' eb=>⟨rF,I.turned (t':=s.toks) (λb o W y=>eb b o W y) f0 f1 f3 f4 f5⟩
 self:=λA i s Q E ⟨ok,ov,st⟩ h=>by
  have ty:s.TypeIs (.ref O) "dict_itemiterator":= ⟨_,st,rF⟩;refine qCs ty qDR$ qBL qDR ty RV.e_itemIter ?_$ PySem.F.args_dict_itemiterator_iter_1 _;exact qAA$ qAE$ qAE ⟨_,rF,"dict_itemiterator",_,ty,PySem.F.slot_dict_itemiterator_next.lookup,h⟩
section
variable{X:Cx}{elts:List Expr}{kk:Nat}{tp:Pos}
theorem sm{o:Expr}{to:TE}{apos cpos:Pos}(ho:PE X o to)(V:attributeBase o "items" X.env (eval o X.env)=eval o X.env:=by rfl)(W:(apos.endLine==cpos.line)=true:=by rfl) :
  PI X (.Tuple elts kk tp) (.Call (.Attribute o "items" apos) [] [] cpos) (λσ H R=>to σ H λx H1=>∃a ob kvs,x= .ref a/\H1 a=some (.frz ob$ .dK kvs)/\R (Itm a ob kvs) H1):=by
 intro pins s σ H R I h;refine qDj V W$ thn (ho pins s σ H _ I h) λv S ⟨x,H1,I1,r1,a,ob,kvs,ex,e,q⟩=>?_;subst ex
 cases r1
 obtain⟨vs,es,ep,ae,hd,sz,da,aa,z,O,ab⟩:=zKo I1 e;have ty:S.TypeIs (.ref a) "dict":= ⟨_,O,ab.1⟩;have len:=ae.length;refine⟨"dict","dict.items",qC8,qDS,PySem.F.type_dict_items,ty,(λb y=>by cases y;exact⟨ob,O,ab.2.1⟩),qCb rF$ PySem.evalArgs_none ?_⟩;obtain⟨o2,ad,y1,y2,y3,y4,y5,y6⟩:=id da;refine qCY$ qDJ qDS.plain PySem.F.entry_dict_items$ qDS.check _ _ _ _ _ _ _ _ ty (PySem.F.args_dict_items_1 _)$ meets_dict_items (zBc X.prog X.w) a aa X.A (wants (λv S=>wpAny (model X.prog X.w) X.A (pyIter v) (PIE X pins σ (.Tuple elts kk tp) R) X.xe S) X.xe) S ⟨⟨vs,o2,ad,ep,y1,y2,y3,y4,y5,y6⟩,?_⟩;show wpAny _ _ (pyIter _) _ _ _;have hv:(S.heap.push {cls:=.type "dict_items",data:=.fields #[.ref a]}).IsItemsView S.heap.objs.size a:=⟨_,qAg _ rF,rF,rF⟩;have af:(S.heap.push {cls:=.type "dict_items",data:=.fields #[.ref a]}).DictAt (zBc X.prog X.w) a vs ep:=⟨o2,ad,qAL _ y1,y2,y3,y4,y5,y6⟩;refine wpAny_pyIter_items (s:={S with heap:=S.heap.push {cls:=.type "dict_items",data:=.fields #[.ref a]}}) hv af ?_;have k1:∀b u,S.heap.get? b=some u->((S.heap.push {cls:=.type "dict_items",data:=.fields #[.ref a]}).push {cls:=.type "dict_itemiterator",data:=.fields #[.none,.bool false,.ref a,.int 0 0,.int vs.length 0,.int ep 0,.none,.none]}).get? b=some u:=λb u y=>qAL _$ qAL _ y;refine⟨_,[(S.heap.push {cls:=.type "dict_items",data:=.fields #[.ref a]}).objs.size],_,_,H1,rF,I1.kept (t':=S.toks) k1,nQ a _ ob es ep kvs hd sz,⟨_,_,by rw[len];exact qAg _ rF⟩,λb hb=>?_,q⟩;have:b=(S.heap.push {cls:=.type "dict_items",data:=.fields #[.ref a]}).objs.size:=by simpa using hb
 subst this;have ge:S.heap.objs.size<=(S.heap.push {cls:=.type "dict_items",data:=.fields #[.ref a]}).objs.size:=by rw[qBM];exact qBl _
 exact I1.fpOk ge$ I1.hok.fresh ge
end
theorem p7{a:Addr}{o:Obj}{kvs:List (Key×V)}{g:TG}{tb:TS}{D:fW}{σ:St}{H:Hp}(O:Nat->St->Hp->Prop)(h0:O 0 σ H)(hl:∀i σ H,i<=kvs.length->O i σ H->H a=some (.frz o$ .dK kvs))
  (hs:∀i k v σ H t,kvs[i]?=some (k,v)->O i σ H->H t=none->g (.ref t) σ (upd H t$ .tup [kV k,v]) λS H2=>tb {D with nx:=O (i+1),ct:=O (i+1),bk:=D.nx} S H2) (hd:∀σ H,O kvs.length σ H->D.nx σ H) :
  ∃W:Nat->Nat->St->Hp->Prop,(∃m,W 0 m σ H)/\∀i m σ H,W i m σ H ->
   ((Itm a o kvs).stop i H/\D.nx σ H)\/((Itm a o kvs).go i H/\∃N:St->Hp->Prop,(∀aa H',N aa H'->∃m',m'<m/\W (i+1) m' aa H')/\∀x H',(Itm a o kvs).yld i H x H'->g x σ H' λS H2=>tb {D with nx:=N,ct:=N,bk:=D.nx} S H2):=by
 refine⟨λi m σ H=>m=kvs.length-i/\i<=kvs.length/\O i σ H,⟨kvs.length,sS,qAm _,h0⟩,?_⟩;rintro i m σ H ⟨rfl,hi,p⟩
 by_cases hlt:i<kvs.length
 .refine .inr ⟨⟨hl i σ H hi p,hlt⟩,O$ i+1,λaa H' p'=>⟨_,?_,rF,hlt,p'⟩,λx H' y=>?_⟩
  .show kvs.length-(i+1)<kvs.length-i;lia
  .obtain ⟨t,k,v,rfl,ft,ek,rfl⟩:=y;exact hs i k v σ H t ek p ft
 .have e:i=kvs.length:=lL
  subst e;exact .inl ⟨⟨hl _ σ H hi p,qAF _⟩,hd σ H p⟩
end L2
namespace ST
open PySem PyProof.Rows PySem.W
end ST
namespace L2
open PySem PySem.Spec PyProof.Rows
def Itk(a:Addr)(o:Obj)(kvs:List (Key×V)):It :=
 ⟨λi H=>H a=some (.frz o$ .dK kvs)/\i<kvs.length,λi H v H'=>H'=H/\∃k x,kvs[i]?=some (k,x)/\v=kV k,λi H=>H a=some (.frz o$ .dK kvs)/\kvs.length<=i⟩
theorem qR{P:Program}{w:World}{K:PySem.W.Frag}{tg:Expr}(a W:Addr)(o:Obj)(es:Array DictEntry)(ep:Nat)(kvs:List (Key×V))(hd:o.data= .dict es ep):ig P w K tg (Itk a o kvs) [W] W (λi h=>h.IsKeyIter W a i kvs.length ep) where
 mem:=sS
 obj:=λi h ⟨o,st,c,dt⟩ b hb=>by
  have:b=W:=by simpa using hb
  subst this;exact⟨_,st,λv y=>by rw[dt]at y;cases y⟩
 keep:=λi h h' st k=>st.at λo e=>k W sS o e
 item:=by
  intro X hP hw hK hc i pins s σ H E I hf st hg;subst hP hw hK;obtain⟨e,hi⟩:=hg;obtain⟨vs,ad,aa,S,O,_,da,_,_,ho,_⟩:=zKo I e;have ee:aa=ep:=by rw[hd]at O;cases O;rfl
  subst ee;have len:=S.length;have ek:kvs[i]?=some (kvs[i].1,kvs[i].2):=qAx hi;obtain⟨v,ev,rv⟩:=r_ S ek;rw[len]at st;obtain⟨f0,f1,f2,f3,f4,f5⟩:=hf W sS;refine wpAny_pyNext_dict_item st da ev λkey h' hk ab sb=>?_;have I1:Inv X pins σ H {s with heap:=h',toks:=s.toks}:=I.turned (t':=s.toks) (λb o hb y=>sb.extBut b o hb y) f0 f1 f3 f4 f5;rw[<-len]at ab;obtain⟨o2,g1,g2,g3⟩:=id ab;exact⟨_,rF,mB (s:={s with heap:=h'}) (n:="dict_keyiterator") g1 g2 g3 dD ⟨kV kvs[i].1,H,I1,oE hk,⟨rF,_,_,ek,rF⟩,ab,λb hb=>(hf b hb).1⟩⟩
 done:=by
  intro X hP hw hK hc i pins s σ H E I hf st hg;subst hP hw hK;obtain⟨e,hi⟩:=hg;obtain⟨vs,ad,aa,S,O,_,da,_,_,ho,_⟩:=zKo I e;have ee:aa=ep:=by rw[hd]at O;cases O;rfl
  subst ee;have len:=S.length;rw[len]at st;obtain⟨f0,f1,f2,f3,f4,f5⟩:=hf W sS;exact wpAny_pyNext_dict_end (I.ok.hd hc) st da (by simp;lia) λh' eb=>⟨rF,I.turned (t':=s.toks) (λb o hb y=>eb b o hb y) f0 f1 f3 f4 f5⟩
 self:=λ_ _ _ _ _ st h=>wpAny_pyIter_keyiter st h
section
variable{X:Cx}
theorem vi{tg o:Expr}{to:TE}(ho:PE X o to):PI X tg o (λσ H R=>to σ H λx H1=>∃a O kvs,x= .ref a/\H1 a=some (.frz O$ .dK kvs)/\R (Itk a O kvs) H1):=by
 intro pins s σ H R I h;refine thn (ho pins s σ H _ I h) λv V ⟨x,H1,W,r1,a,O,kvs,ex,e,q⟩=>?_;subst ex
 cases r1
 obtain⟨vs,es,ep,aa,hd,sz,da,S,z,ab,ad⟩:=zKo W e;have len:=aa.length;refine wpAny_pyIter_dict S da ?_;refine⟨V.heap.objs.size,[V.heap.objs.size],_,_,H1,rF,W.kept (t':=V.toks) λb o e=>qAL _ e,qR a _ O es ep kvs hd,⟨_,qAg _ rF,rF,by rw[len];rfl⟩,λb hb=>?_,q⟩;have e:b=V.heap.objs.size:=by simpa using hb
 subst e;exact W.fpOk (qAF _)$ W.hok.fresh$ qAF _
theorem qz{a:Addr}{o:Obj}{kvs:List (Key×V)}{ix:List (Option Nat)}{g:TG}{tt:TT}{te:TE}{QD:Hp->Prop}{σ:St}{H1:Hp}{D:Addr}(Pv:Nat->List V->St->Hp->Prop)(h0:Pv 0 [] (zCr σ ix) (upd H1 D$ .lst []))
  (hl:∀i ys S H,Pv i ys S H->H a=some (.frz o$ .dK kvs))
  (hs:∀i k v ys S H,kvs[i]?=some (k,v)->Pv i ys S H->g (kV k) S H λO H4=>tt O H4 λb H5=>if b=true then te O H5 λv H6=>H6 D=some (.lst ys)/\ys.length<sizeLine/\Pv (i+1) (ys++[v]) O (upd H6 D$ .lst$ ys++[v]) else Pv (i+1) ys O H5)
  (hd:∀ys S H,Pv kvs.length ys S H->QD H) :
  ∃W:Nat->Nat->List V->St->Hp->Prop,(∃m,W 0 m [] (zCr σ ix) (upd H1 D$ .lst []))/\∀i m ys S H2,W i m ys S H2 ->
   ((Itk a o kvs).stop i H2/\QD H2)\/((Itk a o kvs).go i H2/\∃N:List V->St->Hp->Prop,(∀aa O H',N aa O H'->∃m',m'<m/\W (i+1) m' aa O H')/\∀x H3,(Itk a o kvs).yld i H2 x H3->g x S H3 λO H4=>tt O H4 λb H5=>if b=true then te O H5 λv H6=>H6 D=some (.lst ys)/\ys.length<sizeLine/\N (ys++[v]) O (upd H6 D$ .lst$ ys++[v]) else N ys O H5):=by
 refine⟨λi m ys S H=>m=kvs.length-i/\i<=kvs.length/\Pv i ys S H,⟨kvs.length,sS,qAm _,h0⟩,?_⟩;rintro i m ys S H ⟨rfl,hi,p⟩
 by_cases hlt:i<kvs.length
 .refine .inr ⟨⟨hl i ys S H p,hlt⟩,Pv$ i+1,λaa O H' p'=>⟨_,?_,rF,hlt,p'⟩,λx H' y=>?_⟩
  .show kvs.length-(i+1)<kvs.length-i;lia
  .obtain ⟨rfl,k,v,ek,rfl⟩:=y;exact hs i k v ys S H' ek p
 .have e:i=kvs.length:=lL
  subst e;exact .inl ⟨⟨hl _ ys S H p,qAF _⟩,hd ys S H p⟩
end
end L2
namespace RV
open PySem
end RV
namespace L2
open PySem PySem.Spec PyProof.Rows
end L2
namespace L2
variable{t1 t2 t3 t4 t5 t6:TS}
theorem qI{D σ H}(h:let d:=D;let O:=t2;eK t1 O d σ H):eK t1 t2 D σ H:=h
theorem im{D σ H}(h:let d:=D;let O:=t3;let S:=eK t2 O;eK t1 S d σ H):eK t1 (eK t2 t3) D σ H:=h
theorem lC{D σ H}(h:let d:=D;let O:=t4;let S:=eK t3 O;let V:=eK t2 S;eK t1 V d σ H):eK t1 (eK t2$ eK t3 t4) D σ H:=h
theorem wN{D σ H}(h:let d:=D;let O:=t5;let S:=eK t4 O;let V:=eK t3 S;let W:=eK t2 V;eK t1 W d σ H):eK t1 (eK t2$ eK t3$ eK t4 t5) D σ H:=h
theorem yS{D σ H}(h:let d:=D;let O:=t6;let S:=eK t5 O;let V:=eK t4 S;let W:=eK t3 V;let r2:=eK t2 W;eK t1 r2 d σ H):eK t1 (eK t2$ eK t3$ eK t4$ eK t5 t6) D σ H:=h
theorem zg{O:TS}{D σ H}(h:let d:=D;let S:=O;let V:=eK t6 S;let W:=eK t5 V;let r4:=eK t4 W;let r3:=eK t3 r4;let r2:=eK t2 r3;eK t1 r2 d σ H):eK t1 (eK t2$ eK t3$ eK t4$ eK t5$ eK t6 O) D σ H:=h
theorem za{O S V:TS}{D σ H}(h:let d:=D;let W:=V;let r8:=eK S W;let r7:=eK O r8;let r6:=eK t6 r7;let r5:=eK t5 r6;let r4:=eK t4 r5;let r3:=eK t3 r4;let r2:=eK t2 r3;eK t1 r2 d σ H):eK t1 (eK t2$ eK t3$ eK t4$ eK t5$ eK t6$ eK O$ eK S V) D σ H:=h
end L2
local macro_rules|`(tactic|walk_at"lc")=>`(tactic|first|exact Or.inl rF|exact Or.inr rF)
local macro_rules|`(tactic|walk_at"nm")=>`(tactic|first|assumption|exact qCo|(refine L2.nm1 ?_;walk_at"ne")|(refine L2.nm2 ?_ ?_<;>walk_at"ne")|(refine L2.nm3 ?_ ?_ ?_<;>walk_at"ne"))
local macro_rules|`(tactic|walk_at"lk")=>`(tactic|first|assumption|exact L2.ac|(refine(L2.a_ ?_).trans ?_;walk_at"ne";walk_at"lk")|(refine L2.Kp.look (by assumption) ?_ ?_;walk_at"lk";walk_at"nm"))
local macro_rules|`(tactic|walk_at"ne")=>`(tactic|first|assumption|(refine qAo ?_;assumption)|(refine L2.b_ (by assumption) ?_;walk_at"lk")|(refine qAo$ L2.b_ (by assumption) ?_;walk_at"lk"))
local macro_rules|`(tactic|walk_at"bd")=>`(tactic|first|decide|lia|(dsimp only;first|decide|lia))
local macro_rules|`(tactic|walk_at"ml")=>`(tactic|first|exact Or.inr ⟨dD,dD⟩|exact Or.inl ⟨lL,lL⟩|exact Or.inr ⟨lL,lL⟩)
local macro_rules|`(tactic|walk_at"ln")=>`(tactic|first|decide|(have hsz:=PySem.sizeLine_eq;simp only[qAd,qBS,qAB,qAV]at *;lia))
local macro_rules|`(tactic|walk_at"ix")=>`(tactic|first|rfl|assumption|(refine L2.atI_natc ?_;assumption))
local macro_rules|`(tactic|walk_at"vs")=>`(tactic|first|exact Or.inl rF|exact Or.inr$ Or.inl rF|exact Or.inr$ Or.inr rF)
local macro_rules|`(tactic|walk_at"vk")=>`(tactic|first|exact Or.inl rF|exact Or.inr rF)
local macro_rules|`(tactic|walk_at"vf")=>`(tactic|first|decide +kernel|(simp only[qAQ];decide))
namespace My
open PySem L2
variable{P:Program}{w:World}{K:PySem.W.Frag}{mg:Str->Option Value}{base:Heap}{C:Addr}
variable{H H':Hp}{f:Addr}{fd:FuncData}{ns:List Str}{α:Type}{i:Nat}{y:Str}
section
variable{X:Cx}{scope sc:Scope}{C:Addr}{s₀:Shared}{H₀:Hp}{ex:List Addr}{N P:List Str}{i:Nat}{x:Str}{e:Expr}{te:TE}{pos pos':Pos}{ix:List (Option Nat)}
theorem psS(O:X.N.Nodup)(S:PE X e te)(hi:X.N[i]?=some x:=by rfl)(V:Loc X.env.scope x:=by walk_at"lc")(hs:swapsWith e (some$ .Name x pos') pos.line X.env=pure false:=by rfl)(W:X.fn x=true\/X.env.scope.names.lookup x=some .local:=by first|exact .inl rF|exact .inr rF|assumption):PS X (.Assign [.Name x pos'] e pos) (uA te$ gz i):=xq O hi V S hs W
theorem pgN(O:X.N.Nodup)(hi:X.N[i]?=some x:=by rfl)(S:Loc X.env.scope x:=by walk_at"lc")(V:X.fn x=true\/X.env.scope.names.lookup x=some .local:=by first|exact .inl rF|exact .inr rF|assumption):PG X (.Name x pos) (gz i):=oM O hi S V
theorem pgB(hi:(X.block scope C s₀ H₀ ex N).N[i]?=some x:=by rfl)(O:N.Nodup:=by decide +kernel)(S:Loc (X.block scope C s₀ H₀ ex N).env.scope x:=by walk_at"lc")(V:(X.block scope C s₀ H₀ ex N).fn x=true\/(X.block scope C s₀ H₀ ex N).env.scope.names.lookup x=some .local:=by first|exact .inl rF|exact .inr rF|assumption):PG (X.block scope C s₀ H₀ ex N) (.Name x pos) (gz i):=oM O hi S V
theorem dtk(O:X.N[i]?=some x)(D:d_ X scope N ix)(V:Vis X.env.scope x:=by walk_at"vs")(S:(relabel scope X.env).names.lookup x=some .cell\/(relabel scope X.env).names.lookup x=some .free:=by walk_at"vk")(W:(x,NameKind.free)∈scope.names:=by walk_at"vf"):d_ X scope (x::N) (some i::ix):=.tk O V S W D
theorem fnS(a:sc.kind= .function:=by rfl)(b:sc.isCoroutine=false:=by rfl)(c:sc.isGenerator=false:=by rfl)(d:N.Nodup:=by decide +kernel)(e:N.take P.length=P:=by rfl)(f:∀x∈P,sc.names.lookup x=some .local\/sc.names.lookup x=some .cell:=by decide +kernel)(g:∀y∈sc.names,y.2≠.free:=by decide +kernel):c_ N P sc:=⟨a,b,c,d,e,f,g⟩
end
def top(i:Nat):Stmt:=PySem.Challenge.pw_levelbench_k96_whole_desk_of_few.main.body.getD i$ .Pass ⟨0,0,0,0⟩
structure Txt(K:PySem.W.Frag)(mg:Str->Option Value):Prop where
 z_len:mg "len"=none
 z_max:mg "max"=none
 z_range:mg "range"=none
 z_int:mg "int"=none
 z_str:mg "str"=none
 z_list:mg "list"=none
 z_all:mg "all"=none
 z_min:mg "min"=none
 z_dict:mg "dict"=none
 z_bool:mg "bool"=none
 z_abs:mg "abs"=none
 z_reversed:mg "reversed"=none
 z_enumerate:mg "enumerate"=none
 z_any:mg "any"=none
 z_sum:mg "sum"=none
 z_zip:mg "zip"=none
 z_isinstance:mg "isinstance"=none
 z_sorted:mg "sorted"=none
 z_set:mg "set"=none
 z_tuple:mg "tuple"=none
 c_MOST_JOBS:∃t,mg "MOST_JOBS"=some (.int 20 t)
 c_MOST_TURNS:∃t,mg "MOST_TURNS"=some (.int 40 t)
 c_MOST_FEW:∃t,mg "MOST_FEW"=some (.int 7 t)
 c_LONGEST_NAME:∃t,mg "LONGEST_NAME"=some (.int 8 t)
 c_MOST_FIGURES:∃t,mg "MOST_FIGURES"=some (.int 60 t)
 c_BETWEEN_TURNS:∃t,mg "BETWEEN_TURNS"=some (.str " / " t)
 c_EMPTY_TURN:∃t,mg "EMPTY_TURN"=some (.str "-" t)
 c_OK:∃t,mg "OK"=some (.str "ok" t)
section
def zCs(H:Hp)(p:Addr):Prop:=∃a b:Int,H p=some (.lst [.int a,.int b])/\0<=a/\0<=b/\b<2147483629
theorem zCs.kp{M:List Addr}{p:Addr}(h:zCs H p)(k:Kp M H H')(n:p∉M):zCs H' p:=by
 obtain⟨a,b,e,r⟩:=h;exact⟨a,b,k p _ e n,r⟩
inductive gq(vs:List V)(H:Hp)(Q:VK)(u_3:XK):Prop
 |mk:∀(p:Addr)(m:Int),vs=[.ref p,.int m]->zCs H p->1<=m->m<10^100->(∀(d:Int)(H':Hp),0<=d->d<m->zCs H' p->Kp [p] H H'->Q (.int d) H')->gq vs H Q u_3
abbrev nY:Stmt:=top 108
theorem oA:c_ ["_law_purse_here","_law_many","_law_digit"] ["_law_purse_here","_law_many"] (zAe nY):=fnS
theorem u_(F:Fun K "_law_take" "_law_take" nY f fd):eC P w K mg base CX0 1 f fd ["_law_purse_here","_law_many"] gq:=by
 refine F.ok oA (λvs H Q E h=>?_) λaa A O s H vs Q E hr h=>?_
 .obtain ⟨p,m,rfl,_⟩:=h;rfl
 .obtain ⟨p,m,rfl,⟨a,b,hp,W,hb,S⟩,hm,V,k⟩:=h
  refine⟨_,(zAb (zA1 (zAj zLi (zA9 zAt (pv 0) zAg λ_ _=>rfl) zAg$ zAo _) (zAb (psS (i:=2) oA.nd$ zAs zH3 (zA9 zAt (pv 0) zAg fun _ _=>rfl)$ pv 1)
    (zAb (zKg (zAs tQ (zA9 zAt (pv 0) zAg fun _ _=>rfl)$ pv 1)$ jP (pv 0) zAg zIe)$ zAd$ zAk$ pv 2)) zAi) (zAb (zKg (zAs zH3 (zAs zCz (zAs zGy (zA9 zAt (pv 0) zAg fun _ _=>rfl) zAg) zAg) zAg)$ jP (pv 0) zAg zIe)$ zAd$ zAk$ zAs zH3 (zAs jZ (zAs zH3 (zAs zGy (zA9 zAt (pv 0) zAg λ_ _=>rfl)$ zA9 zAt (pv 0) zAg λ_ _=>rfl) zAg) zAg)$ pv 1)),?_⟩
  refine im ?_;intro _ _ _;refine⟨_,rF,_,_,_,_,rF,rF,SqL.of (by walk_at"lk"),(by walk_at"ix"),_,_,rF,rF,_,rF,?_⟩;refine eU (λc=>?_) λc=>?_
  .have c':0<a:=by simpa using c
   refine⟨_,rF,_,_,_,_,rF,rF,SqL.of (by walk_at"lk"),(by walk_at"ix"),_,rF,_,_,rF,rF,(by walk_at"bd"),?_⟩;refine⟨_,rF,_,_,_,_,rF,rF,SqL.of (by walk_at"lk"),(by walk_at"ix"),_,rF,_,_,rF,rF,⟨by walk_at"bd",V⟩,_,rF,_,_,_,_,rF,rF,(by walk_at"lk"),(by walk_at"ix"),?_⟩;refine⟨_,rF,?_⟩;refine k _ _ (qCH _ lL) (qCI _ lL) ⟨a / m,b,ac,Int.ediv_nonneg W lL,hb,S⟩$ Kp.put Kp.refl sS
  .refine ⟨_,rF,_,_,_,_,rF,rF,SqL.of (by walk_at"lk"),(by walk_at"ix"),_,_,rF,rF,(by walk_at"ml"),_,_,rF,rF,_,_,rF,rF,(by walk_at"bd"),_,rF,_,_,_,_,rF,rF,(by walk_at"lk"),(by walk_at"ix"),?_⟩;have h1:=qCH (b*39373+7919) (show(2147483629:Int)≠0 by decide);have h2:=qCI (b*39373+7919) (show(0:Int)<2147483629 by decide);refine⟨_,rF,_,_,_,_,rF,rF,SqL.of (by walk_at"lk"),(by walk_at"ix"),_,rF,_,_,_,_,rF,rF,SqL.of (by walk_at"lk"),(by walk_at"ix"),_,_,rF,rF,(by walk_at"ml"),_,_,rF,rF,(by walk_at"bd"),_,_,rF,rF,⟨by walk_at"bd",by walk_at"bd"⟩,_,rF,_,_,rF,rF,(by walk_at"bd"),?_⟩;refine k _ _ (qCH _ lL) (qCI _ lL) ⟨a,_,ac,W,h1,h2⟩$ Kp.put Kp.refl sS
inductive jV(vs:List V)(H:Hp)(Q:VK)(u_3:XK):Prop
 |mk:∀(c k:Int),vs=[.int c,.int k]->-(2^31)<k->k<2^31->(∀(p:Addr)(H':Hp),Fre H p->zCs H' p->Kp [] H H'->Q (.ref p) H')->jV vs H Q u_3
abbrev jN:Stmt:=top 107
theorem kL:c_ ["_law_cell_here","_law_k","_law_number"] ["_law_cell_here","_law_k"] (zAe jN):=fnS
theorem ua(F:Fun K "_law_purse" "_law_purse" jN f fd)(T:Txt K mg):eC P w K mg base CX0 1 f fd ["_law_cell_here","_law_k"] jV:=by
 refine F.ok kL (λvs H Q E h=>?_) λV A O s H vs Q E hr h=>?_
 .obtain ⟨p,m,rfl,_⟩:=h;rfl
 .obtain ⟨c,n,rfl,hn,W,k⟩:=h
  refine⟨_,(zAb (psS (i:=2) kL.nd$ zAs zH3 (zAs zCz (zAs zCz (zAs zGy (zAs zH3 (pv 0) zAg) zAg)$ zAs zGy (zAs zGy (pv 1)$ pv 1) zAg) zAg) zAg)$ zAd$ zAk$ zAw$ zAa (zAn (qg rF) rR T.z_max rK$ zAa zAg$ zAa (zAs zJb (pv 0)$ zAs xF zAg zAg) zAc)$ zAa (zAs zH3 (zAs zGy (pv 2)$ pv 2) zAg) zAc),?_⟩
  refine qI ?_;intro _ _;refine⟨_,rF,_,_,rF,rF,(by walk_at"bd"),_,_,rF,rF,(by walk_at"ml"),_,rF,_,rF,_,_,rF,rF,(by walk_at"ml"),_,_,rF,rF,(by walk_at"ml"),_,_,rF,rF,_,_,rF,rF,_,_,rF,rF,(by walk_at"bd"),?_⟩;generalize c % 2147483629*48271+n*n*69623+11=y;have h1:=qCH y (show(2147483647:Int)≠0 by decide);have h2:=qCI y (show(0:Int)<2147483647 by decide);refine⟨_,rF,_,_,rF,rF,⟨dD,dD,dD⟩,_,_,rF,rF,_,_,rF,_,rF,_,rF,_,_,rF,rF,(by walk_at"ml"),_,_,rF,rF,(by walk_at"bd"),(by walk_at"ln"),λp S=>?_⟩;refine k p _ S ⟨_,_,ac,?_,qCH _ dD,qCI _ dD⟩$ Kp.new Kp.refl S;split<;>lia
inductive nc(K:PySem.W.Frag)(vs:List V)(H:Hp)(Q:VK)(u_3:XK):Prop
 |mk:∀(a:Addr)(ns:List Int)(k:Int),vs=[.ref a,.int k]->SqL K H a (ns.map V.int)->0<=k->(∀c:Int,Q (.int c) H)->nc K vs H Q u_3
abbrev nr:Stmt:=top 106
theorem u6:c_ ["_law_script","_law_k"] ["_law_script","_law_k"] (zAe nr):=fnS
theorem u5(F:Fun K "_law_cell" "_law_cell" nr f fd)(T:Txt K mg):eC P w K mg base CX0 1 f fd ["_law_script","_law_k"] (nc K):=by
 refine F.ok u6 (λvs H Q E h=>?_) λW A O s H vs Q E hr h=>?_
 .obtain ⟨p,m,n,rfl,_⟩:=h;rfl
 .obtain ⟨a,ns,n,rfl,S,hn,k⟩:=h;refine⟨_,(zAd$ zAk$ zLe (zAj sX (pv 1) (zAn zAy rR T.z_len zCc$ zAa (pv 0) zAc)$ zAo _) (zA9 zAt (pv 0) (pv 1) λ_ _=>rfl) zAg),?_⟩;refine⟨_,rF,_,rF,_,_,rF,.inl S,_,_,rF,rF,_,rF,?_⟩;refine eU (λc=>?_) λc=>?_
  .have c':n<ns.length:=by simpa using c
   have hx:(ns.map V.int)[n.toNat]?=some (V.int$ ns[n.toNat]' lL):=sS
   refine⟨_,rF,_,rF,_,_,_,_,rF,rF,S,zAx hn hx,k _⟩
  .exact k _
end
def zBg(s:Str):Prop:=1<=s.length/\s.length<=8/\∀c∈s.cps.toList,97<=c/\c<=122
def pC(n:Nat)(s:Str):Prop:=s.length=n/\∀c∈s.cps.toList,97<=c/\c<=122
theorem fj(a b:Str):(a++b).length=a.length+b.length:=by
 show(a++b).cps.size=_;rw[qCh,Array.size_append];rfl
theorem pC.more{n:Nat}{s:Str}(h:pC n s){c:Nat}(h1:97<=c)(h2:c<=122):pC (n+1) (s++⟨#[c]⟩):=by
 refine⟨by rw[fj,h.1];rfl,λx O=>?_⟩;rw[qCh,qCF]at O;rcases qAK.mp O with z|z
 .exact h.2 x z
 .have:x=c:=by simpa using z
  lia
def zE4:Str:="abcdefghijklmnopqrstuvwxyz"
theorem zE3:zE4.cps.toList=(List.range 26).map (97+·):=by decide +kernel
theorem nH{d:Int}(h0:0<=d)(h1:d<26):atI zE4.cps.toList d=some (97+d.toNat):=by
 refine zAx h0 ?_;have:d.toNat<26:=lL
 rw[zE3,qAU,qBq this];rfl
theorem zDc(a c:Nat):(!(decide$ ([c]:List Nat)<[a]))=decide (a<=c):=by
 have:(([c]:List Nat)<[a])↔c<a:=by
  constructor
  .intro h
   cases h with
   |rel h=>exact h
   |cons h=>cases h
  .intro h;exact List.Lex.rel h
 by_cases h:c<a
 .rw [qAJ$ this.mpr h,qAP lL];rfl
 .rw [qAP λz=>h$ this.mp z,qAJ lL];rfl
section
def zLv(s:Str):Bool:=decide (1<=s.length)&&decide (s.length<=8)&&s.cps.toList.all λc=>decide (97<=c)&&decide (c<=122)
theorem jd(s:Str):zLv s=true↔zBg s:=by
 unfold zLv zBg;simp only[qBn,qA1,qBB];exact⟨λ⟨⟨a,b⟩,c⟩=>⟨a,b,c⟩,λ⟨a,b,c⟩=>⟨⟨a,b⟩,c⟩⟩
inductive gl(vs:List V)(H:Hp)(Q:VK)(u_3:XK):Prop
 |mk:∀(x:Str),vs=[.str x]->x.length<=1000000->(∀H',Kp [] H H'->Q (.bl$ zLv x) H')->gl vs H Q u_3
abbrev zGq:Stmt:=top 23
theorem nh:c_ ["thing"] ["thing"] (zAe zGq):=fnS
theorem nI(F:Fun K "is_name" "is_name" zGq f fd)(T:Txt K mg):eC P w K mg base CX0 1 f fd ["thing"] gl:=by
 refine F.ok nh (λvs H Q E h=>?_) λab A aa s H vs Q E hr h=>?_
 .obtain ⟨x,rfl,_⟩:=h;rfl
 .obtain ⟨x,rfl,hx,k⟩:=h;obtain⟨tL,hL⟩:=T.c_LONGEST_NAME
  refine⟨_,(zAb (zA1 (PW.pt$ zI8 (zBy$ zBv$ zAn zB2 rR T.z_isinstance zA3$ zAa (pv 0)$ zAa (zCx rR T.z_str zDg (v:=.ty "str") rF) zAc)$ zEy$ zBy$ zLb zLh zLh zAg (zAn zH6 rR T.z_len zCc$ zAa (pv 0) zAc)$ zDb rF hL (v:=.int 8) ⟨_,rF⟩) (zAd$ zAk zJz) zAi)$ zAd$ zAk$ zAn (zHe _ rF) rR T.z_all gK$ zAa (zA6 rF (zBe (sc:=zAe zGq) rF kK) (d_.own (x:="sign") d_.nil) (mQ$ pv 0) (λ_ _ _ _=>(pgB (i:=0))) (λ_ _ _ _=>zBq) λ_ _ _ _=>(lI zGz zGz zAm (pv 0) zAm)) zAc),?_⟩
  refine qI ?_;intro _ _;refine⟨_,rF,_,_,_,_,rF,fL.str x,zC2,_,rF,eG ?_⟩;refine⟨_,rF,_,rF,?_,_,_,rF,rF,_,rF,?_⟩
  .rw [qAM];lia
  refine eU (λc=>?_) λc=>?_
  .have O:1<=x.length:=by
    have:=qAn c;lia
   refine⟨_,_,rF,rF,_,rF,?_⟩;refine eU (λc=>?_) λc=>?_
   .-- too long
    have c2:¬(x.length<=8):=λz=>by
     have:decide ((x.length:Int)<=8)=true:=qAJ lL;rw[this]at c;cases c
    have e:zLv x=false:=by
     unfold zLv;rw[qAP c2];simp
    rw[<-e];exact k H Kp.refl
   .have c2:x.length<=8:=by
     by_cases z:(x.length:Int)<=8
     .lia
     .rw [qAP z]at c;exact absurd rF c
    refine⟨_,rF,_,rF,λD hD=>iz (z:=x) (λi ys τ H'=>(∃W,τ=[W])/\ys=((x.cps.toList.take i).map λc=>V.bl$ decide (97<=c)&&decide (c<=122))/\H'=upd H D (.lst ys)) ⟨⟨_,rF⟩,rF,rF⟩ ?_ ?_⟩
    .rintro i c ys τ H' hc ⟨⟨W,rfl⟩,rfl,rfl⟩;have ei:x.cps.toList.take (i+1)=x.cps.toList.take i++[c]:=by rw[List.take_succ,hc];rfl
     have hi:i<x.cps.toList.length:=(qAa.mp hc).1;have S:x.cps.toList.length=x.length:=by simp[Str.length]
     have fin:∀b:Bool,b=(decide (97<=c)&&decide (c<=122))->(upd H D$ .lst$ (x.cps.toList.take i).map λc=>V.bl$ decide (97<=c)&&decide (c<=122)) D=some (.lst$ (x.cps.toList.take i).map λc=>V.bl$ decide (97<=c)&&decide (c<=122))/\((x.cps.toList.take i).map λc=>V.bl$ decide (97<=c)&&decide (c<=122)).length<sizeLine /\
       ((∃W,([some (V.str ⟨#[c]⟩)]:St)=[W])/\((x.cps.toList.take i).map fun c=>V.bl$ decide (97<=c)&&decide (c<=122))++[V.bl b]=((x.cps.toList.take$ i+1).map fun c=>V.bl$ decide (97<=c)&&decide (c<=122)) /\
       upd (upd H D$ .lst$ (x.cps.toList.take i).map λc=>V.bl$ decide (97<=c)&&decide (c<=122)) D (.lst$ ((x.cps.toList.take i).map λc=>V.bl$ decide (97<=c)&&decide (c<=122))++[V.bl b])=upd H D (.lst$ ((x.cps.toList.take i).map λc=>V.bl$ decide (97<=c)&&decide (c<=122))++[V.bl b])):=λb hb=>by
      refine⟨ac,?_,⟨_,rF⟩,?_,zBm⟩
      .rw [qAB,qAX,qAM];lia
      .rw [ei,qAI,hb];rfl
     refine⟨_,rF,_,_,rF,rF,_,rF,?_⟩;refine eU (λO=>?_) λO=>?_
     .refine ⟨_,_,rF,rF,fin _ ?_⟩;have O:(!(decide$ ([c]:List Nat)<[97]))=true:=O;rw[zDc]at O;show(!(decide$ ([122]:List Nat)<[c]))=_;rw[zDc,O];rfl
     .refine fin _ ?_;have O:¬(!(decide$ ([c]:List Nat)<[97]))=true:=O;rw[zDc]at O;rw[Bool.not_eq_true]at O;rw[O];rfl
    .rintro ys τ H' ⟨⟨W,rfl⟩,rfl,rfl⟩;have S:x.cps.toList.take x.length=x.cps.toList:=qBC (by simp[Str.length]);refine⟨D,x.cps.toList.map λc=>decide (97<=c)&&decide (c<=122),rF,SqL.of ?_,?_⟩
     .rw [ac,S,qAb];rfl
     .have e:((x.cps.toList.map λc=>decide (97<=c)&&decide (c<=122)).all id)=zLv x:=by
       unfold zLv;rw[qAJ O,qAJ c2,qDT];rfl
      rw[e];exact k _$ Kp.new Kp.refl hD
  .-- empty
   have O:¬(1<=x.length):=λz=>c$ qAJ lL;refine⟨_,rF,?_⟩;refine fE ?_
   have e:zLv x=false:=by
    unfold zLv;rw[qAP O];simp
   rw[<-e];exact k H Kp.refl
end
abbrev Txs(H:Hp)(l:Addr)(ns:List Str):Prop:=H l=some (.lst$ ns.map V.str)
structure gA(H:Hp)(l:Addr)(qs:List (List Str×Addr)):Prop where
 top:H l=some (.lst$ qs.map λq=>V.ref q.2)
 row:∀q∈qs,H q.2=some (.tup$ q.1.map V.str)
 two:∀q∈qs,∃a b,q.1=[a,b]
theorem zDe(x:Str)(ns:List Str):inV (.str x) (ns.map V.str)=decide (x∈ns):=by
 unfold inV
 induction ns with
 |nil=>rfl
 |cons n r O=>
  rw[qAi,qCD,O];show((n==x)||_)=_
  by_cases e:n=x
  .subst e;simp
  .have e':¬x=n:=λz=>e z.symm;rw[qBA.mpr e];simp[e']
theorem zBw(ns:List Str):(ns.map V.str).all zGe=true:=by simp[zGe]
section
inductive gw(vs:List V)(H:Hp)(Q:VK)(u_3:XK):Prop
 |mk:∀(x:Str)(l:Addr)(ns:List Str),vs=[.str x,.ref l]->Txs H l ns->Q (.bl$ decide$ x∈ns) H->gw vs H Q u_3
abbrev zEb:Stmt:=top 24
theorem zH1:c_ ["thing","names"] ["thing","names"] (zAe zEb):=fnS
theorem jA(F:Fun K "is_one_of" "is_one_of" zEb f fd)(T:Txt K mg):eC P w K mg base CX0 1 f fd ["thing","names"] gw:=by
 refine F.ok zH1 (λvs H Q E h=>?_) λV A O s H vs Q E W h=>?_
 .obtain ⟨x,l,ns,rfl,_⟩:=h;rfl
 .obtain ⟨x,l,ns,rfl,S,k⟩:=h;refine⟨_,(zAd$ zAk$ mP (zAn zB2 rR T.z_isinstance zA3$ zAa (pv 0)$ zAa (zCx rR T.z_str zDg (v:=.ty "str") rF) zAc)$ jE$ zCn zG0 (pv 0) (pv 1) rR),?_⟩;refine⟨_,rF,_,_,_,_,rF,fL.str x,zC2,_,rF,fE ?_⟩;refine⟨_,rF,_,rF,_,_,rF,.inl$ SqL.of S,rF,zBw ns,?_⟩;rw[zDe];exact k
inductive fS(vs:List V)(H:Hp)(Q:VK)(u_3:XK):Prop
 |mk:∀(x:Str)(l:Addr)(ns:List Str),vs=[.ref l,.str x]->Txs H l ns->x∈ns->Q .non H->fS vs H Q u_3
abbrev zF6:Stmt:=top 65
theorem kA:c_ ["names","thing"] ["names","thing"] (zAe zF6):=fnS
theorem jh(F:Fun K "check_job" "check_job" zF6 f fd)(T:Txt K mg)(S:Cal P w K mg base "is_one_of" 1 ["thing","names"] gw):eC P w K mg base CX0 2 f fd ["names","thing"] fS:=by
 refine F.ok kA (λvs H Q E h=>?_) λW A V s H vs Q E hr h=>?_
 .obtain ⟨x,l,ns,rfl,_⟩:=h;rfl
 .obtain ⟨x,l,ns,rfl,hl,hx,k⟩:=h;have O:=hr
  refine⟨_,(zAd$ zA1 (zBy$ zBv$ zAf S O rF$ zAa (pv 1)$ zAa (pv 0) zAc) (zAd zAq) zAi),?_⟩
  refine⟨_,rF,_,rF,x,l,ns,rF,hl,?_⟩;rw[qAJ hx];exact⟨_,rF,eG k⟩
end
abbrev dT1(ns:List Str)(g:Str->V):List (Key×V):=ns.map λn=>(Sum.inr n,g n)
theorem zB3(g:Str->V)(x:Str):∀ns:List Str,eX (dT1 ns g) (.inr x)=if x∈ns then some (g x) else none
 |[]=>rfl
 |n::r=>by
  by_cases e:n=x
  .subst e;have h1:eX (dT1 (n::r) g) (.inr n)=some (g n):=zBp rF;rw[h1];simp
  .have h1:eX (dT1 (n::r) g) (.inr x)=eX (dT1 r g) (.inr x):=zBl λz=>e$ Sum.inr.inj z;rw[h1,zB3 g x r];have e':¬x=n:=λz=>e z.symm;simp[e']
theorem zEz{g:Str->V}{x:Str}(v:V)(h:x∉ns):eV (dT1 ns g) (.inr x) v=dT1 ns g++[(.inr x,v)]:=zFh v (by rw[zB3];simp[h])
theorem zAh{xs:List α}{x:α}(h:xs[i]?=some x):xs.take (i+1)=xs.take i++[x]:=by rw[List.take_succ,h];rfl
theorem zBh{v:V}(h:(ns.map V.str)[i]?=some v):∃n,ns[i]?=some n/\v= .str n:=by
 rw[qAU]at h;obtain⟨n,e,r⟩:=qAw.mp h;exact⟨n,e,r.symm⟩
theorem zFi{xs:List α}(h:xs.Nodup){x:α}(e:xs[i]?=some x):x∉xs.take i:=λz=>by
 obtain⟨hi,rfl⟩:=qAa.mp e;obtain⟨j,S,O⟩:=qBG.mp z;rw[qAX]at S;rw[List.getElem_take]at O;have:=(List.getElem_inj h).mp O;lia
section
inductive fU(vs:List V)(H:Hp)(Q:VK)(u_3:XK):Prop
 |mk:∀(l:Addr)(ns:List Str),vs=[.ref l]->Txs H l ns->ns.length<=20->(∀n∈ns,zBg n)->ns.Nodup->(∀H',Kp [] H H'->Q .non H')->fU vs H Q u_3
abbrev zEe:Stmt:=top 63
theorem zCt:c_ ["names","thing","seen","name"] ["names"] (zAe zEe):=fnS
theorem zJ3(F:Fun K "check_names" "check_names" zEe f fd)(T:Txt K mg)(S:Cal P w K mg base "is_name" 1 ["thing"] gl):eC P w K mg base CX0 2 f fd ["names"] fU:=by
 refine F.ok zCt (λvs H Q E h=>?_) λae A ab s H vs Q E hr h=>?_
 .obtain ⟨l,ns,rfl,_⟩:=h;rfl
 .obtain ⟨l,ns,rfl,hl,hn,hN,hD,k⟩:=h;have O:=hr;have hu:=zD3 hr;obtain⟨tM,hM⟩:=T.c_MOST_JOBS
  refine⟨_,(zAb (zA1 (zAj zLi (zAn zAy rR T.z_len zCc$ zAa (pv 0) zAc) (zDb rF hM (v:=.int 20) ⟨_,rF⟩)$ zAo _) (zAd zAq) zAi) (zAb (zA4 qAZ rF (zAl$ pv 0) (pgN (i:=1) zCt.nd)
    (zAd (zA1 (zBy$ zBv$ zAf S O rF$ zAa (pv 1) zAc)
     (zAd zAq)
     zAi)))
   (zAb (psS (i:=2) zCt.nd zB1)
   (zAd (zA4 qAZ rF (zAl$ pv 0) (pgN (i:=3) zCt.nd)
    (zAb (zA1 (zE0$ zH2 hu (pv 3)$ pv 2)
     (zAd zAq)
     zAi)$ zAd$ zCi hu (pv 2) (pv 3) zJz rF)))))),?_⟩
  refine lC ?_;intro _ _ _ _;refine⟨_,rF,_,_,rF,.inl$ SqL.of hl,_,_,rF,rF,_,rF,?_⟩;rw[qAP$ by rw[qAB];lia];refine eG ?_;refine⟨_,rF,_,rF,⟨_,SqL.of hl⟩,zA0 (λi σ H2=>(∃W o2 o3:Option V,σ=[some (.ref l),W,o2,o3])/\Kp [] H H2) ⟨⟨_,_,_,rF⟩,Kp.refl⟩ (λi σ H2 _ ⟨_,k2⟩=>SqL.of$ k2 l _ hl sS) ?_ ?_⟩
  .rintro i v σ H2 hv ⟨⟨W,o2,o3,rfl⟩,k2⟩;obtain⟨n,en,rfl⟩:=zBh hv;have nn:=hN n$ qAN en;refine⟨_,rF,n,rF,by have:=nn.2.1;lia,λH3 k3=>?_⟩;rw[(jd n).mpr nn];exact⟨_,rF,eG ⟨⟨_,_,_,rF⟩,k2.trans k3⟩⟩
  .rintro σ H2 ⟨⟨W,o2,o3,rfl⟩,k2⟩;have ad:Txs H2 l ns:=k2 l _ hl sS;refine λd hd=>?_;have fd:Fre H2 d:=hd;have aa:Fre H d:=k2.fre fd sS;refine⟨_,rF,_,rF,⟨_,SqL.of$ (Kp.new (M:=[]) Kp.refl fd) l _ ad sS⟩,zA0 (λi σ H3=>(∃W o3:Option V,σ=[some (.ref l),W,some (.ref d),o3])/\Kp [] H H3/\H3 d=some (.dK$ dT1 (ns.take i) λ_=>.bl true)) ⟨⟨_,_,rF⟩,Kp.new k2 aa,ac⟩ (λi σ H3 _ ⟨_,k3,_⟩=>SqL.of$ k3 l _ hl sS) ?_ ?_⟩
   .rintro i v σ H3 hv ⟨⟨W,o3,rfl⟩,k3,h3⟩;refine qI ?_;intro _ _;obtain⟨n,en,rfl⟩:=zBh hv;have ni:=zFi hD en;refine⟨_,rF,_,rF,_,_,rF,eO.k (k:=Sum.inr n) h3,_,rF,?_⟩;rw[zB3,qAC ni];refine eG ?_;refine⟨_,rF,_,rF,_,_,rF,fR.k (k:=Sum.inr n) h3 ?_,?_⟩
    .rw [qAB,qAX,qAM];lia
    .refine ⟨⟨_,_,rF⟩,Kp.new k3 aa,?_⟩;rw[ac,zEz _ ni,zAh en];unfold dT1;rw[qAI];rfl
   .rintro σ H3 ⟨⟨W,o3,rfl⟩,k3,h3⟩;exact k H3 k3
end
theorem g9{qs:List (List Str×Addr)}{v:V}(h:(qs.map λq=>V.ref q.2)[i]?=some v):∃q,qs[i]?=some q/\v= .ref q.2:=by
 rw[qAU]at h;obtain⟨n,e,r⟩:=qAw.mp h;exact⟨n,e,r.symm⟩
theorem gA.kp{M:List Addr}{l:Addr}{qs:List (List Str×Addr)}(o:gA H l qs)(k:Kp M H H')(h1:l∉M)(h2:∀q∈qs,q.2∉M):gA H' l qs:=⟨k l _ o.top h1,λq O=>k _ _ (o.row q O)$ h2 q O,o.two⟩
section
inductive fT(vs:List V)(H:Hp)(Q:VK)(u_3:XK):Prop
 |mk:∀(l m:Addr)(ns:List Str) (qs:List (List Str×Addr)),vs=[.ref l,.ref m]->Txs H l ns->gA H m qs->(∀q∈qs,∀x∈q.1,x∈ns)->Q .non H->fT vs H Q u_3
abbrev zEd:Stmt:=top 64
theorem zDv:c_ ["names","orders","order","part"] ["names","orders"] (zAe zEd):=fnS
theorem zJ2(F:Fun K "check_parts" "check_parts" zEd f fd)(T:Txt K mg)(S:Cal P w K mg base "check_job" 2 ["names","thing"] fS):eC P w K mg base CX0 3 f fd ["names","orders"] fT:=by
 refine F.ok zDv (λvs H Q E h=>?_) λab A aa s H vs Q E hr h=>?_
 .obtain ⟨l,m,ns,qs,rfl,_⟩:=h;rfl
 .obtain ⟨l,m,ns,qs,rfl,hl,hm,hq,k⟩:=h;have O:=hr
  refine⟨_,(zAd (zA4 qAZ rF (zAl$ pv 1) (pgN (i:=2) zDv.nd) (zAd (zA4 qAZ rF (rj$ pv 2) (pgN (i:=3) zDv.nd)$ zAd$ zBb$ zAf S O rF$ zAa (pv 0)$ zAa (pv 3) zAc)))),?_⟩
  refine⟨_,rF,_,rF,⟨_,SqL.of hm.top⟩,zA0 (λi σ H2=>(∃o2 W:Option V,σ=[some (.ref l),some (.ref m),o2,W])/\H2=H) ⟨⟨_,_,rF⟩,rF⟩ (λi σ H2 _ ⟨_,e⟩=>by subst e;exact SqL.of hm.top) ?_ ?_⟩
  .rintro i v σ H2 hv ⟨⟨o2,W,rfl⟩,rfl⟩;obtain⟨q,eq,rfl⟩:=g9 hv;have mq:=qAN eq;refine⟨_,rF,_,rF,⟨_,.inl$ .inl$ hm.row q mq⟩,uG (λj σ H3=>(∃W:Option V,σ=[some (.ref l),some (.ref m),some (.ref q.2),W])/\H3=H2) ⟨⟨_,rF⟩,rF⟩ (λj σ H3 _ ⟨_,e⟩=>by subst e;exact .inl$ .inl$ hm.row q mq) ?_ ?_⟩
   .rintro j v σ H3 hv ⟨⟨W,rfl⟩,rfl⟩;obtain⟨x,ex,rfl⟩:=zBh hv;exact⟨_,rF,_,rF,x,l,ns,rF,hl,hq q mq x$ qAN ex,⟨_,rF⟩,rF⟩
   .rintro σ H3 ⟨⟨W,rfl⟩,rfl⟩;exact⟨⟨_,_,rF⟩,rF⟩
  .rintro σ H2 ⟨⟨o2,W,rfl⟩,rfl⟩;exact k
end
def fst(q:List Str×Addr):Str:=q.1.getD 0 Str.empty
def snd(q:List Str×Addr):Str:=q.1.getD 1 Str.empty
def told(qs:List (List Str×Addr))(n:Str):List Str:=(qs.filter λq=>decide$ snd q=n).map fst
theorem qO(qs:List (List Str×Addr))(q:List Str×Addr)(n:Str):told (qs++[q]) n=if snd q=n then told qs n++[fst q]else told qs n:=by
 unfold told;rw[qBD]
 by_cases e:snd q=n
 .rw [qAD e];simp[e]
 .rw [qAC e];simp[e]
theorem kT(qs:List (List Str×Addr))(n:Str):(told qs n).length<=qs.length:=by
 unfold told;rw[qAB];exact qAq _ _
structure DL(H0 H:Hp)(d:Addr)(ns:List Str)(la:Str->Addr)(f:Str->List Str):Prop where
 top:H d=some (.dK$ dT1 ns λn=>.ref$ la n)
 row:∀n∈ns,Txs H (la n) (f n)
 ne:∀n∈ns,la n≠d
 inj:∀n∈ns,∀m∈ns,la n=la m->n=m
 fr:Fre H0 d
 frs:∀n∈ns,Fre H0 (la n)
theorem zJt{g g':Str->V}(h:∀n∈ns,g n=g' n):dT1 ns g=dT1 ns g':=qBU λn O=>by rw[h n O]
section
inductive f_(vs:List V)(H:Hp)(Q:VK)(u_3:XK):Prop
 |mk:∀(l m:Addr)(ns:List Str) (qs:List (List Str×Addr)),vs=[.ref l,.ref m]->Txs H l ns->gA H m qs->ns.Nodup->ns.length<=20->qs.length<=4096->(∀q∈qs,∀x∈q.1,x∈ns)->(∀d la H',DL H H' d ns la (told qs)->Kp [] H H'->Q (.ref d) H')->f_ vs H Q u_3
abbrev zEt:Stmt:=top 66
theorem zCd:c_ ["names","orders","told","name","one","other"] ["names","orders"] (zAe zEt):=fnS
theorem zLk(F:Fun K "told_ahead" "told_ahead" zEt f fd):eC P w K mg base CX0 1 f fd ["names","orders"] f_:=by
 refine F.ok zCd (λvs H Q E h=>?_) λak A aj s H vs Q E hr h=>?_
 .obtain ⟨l,m,ns,qs,rfl,_⟩:=h;rfl
 .obtain ⟨l,m,ns,qs,rfl,hl,hm,hN,hn,hz,hq,k⟩:=h;have hu:=zD3 hr
  refine⟨_,(zAb (psS (i:=2) zCd.nd zB1) (zAb (zA4 qAZ rF (zAl$ pv 0) (pgN (i:=3) zCd.nd)$ zAd$ zCi hu (pv 2) (pv 3) (zAw zAc) rF)
   (zAb (zA4 qAZ rF (zAl$ pv 1) (zEm rF$ zAr (pgN (i:=4) zCd.nd)$ zAr (pgN (i:=5) zCd.nd) zBz)$ zAd$ zBb$ zCj qA7 qCO qCP zDd (zBt hu (pv 2) (pv 5) λ_ _=>rfl)$ zAa (pv 4) zAc)$ zAd$ zAk$ pv 2))),?_⟩
  refine lC ?_;intro _ _ _ _;refine λd hd=>?_;have fd:Fre H d:=hd
  refine⟨_,rF,_,rF,⟨_,SqL.of$ (Kp.new (M:=[]) Kp.refl fd) l _ hl sS⟩,zA0 (λi σ H2=>(∃o3 o4 o5:Option V,σ=[some (.ref l),some (.ref m),some (.ref d),o3,o4,o5])/\Kp [] H H2/\∃S,DL H H2 d (ns.take i) S λ_=>[]) ⟨⟨_,_,_,rF⟩,Kp.new Kp.refl fd,λ_=>0,ac,(λn h=>nomatch h),(λn h=>nomatch h),(λn h=>nomatch h),fd,(λn h=>nomatch h)⟩ (λi σ H2 _ ⟨_,k2,_⟩=>SqL.of$ k2 l _ hl sS) ?_ ?_⟩
  .rintro i v σ H2 hv ⟨⟨o3,o4,o5,rfl⟩,k2,S,D⟩;obtain⟨n,en,rfl⟩:=zBh hv;have ni:=zFi hN en;refine⟨(by walk_at"ln"),λb hb=>?_⟩;have fb:Fre H2 b:=hb;have ab:d≠b:=b_ fb D.top;have af:Fre H b:=k2.fre fb sS;refine⟨_,rF,_,rF,_,_,rF,fR.k (k:=Sum.inr n) ((a_ ab).trans D.top) ?_,?_⟩
   .rw [qAB,qAX,qAM];lia
   .have ad:∀x∈ns.take i,S x≠b:=λx O=>b_ fb$ D.row x O;refine⟨⟨_,_,_,rF⟩,Kp.new (Kp.new k2 af) fd,λx=>if x=n then b else S x,?_,λx O=>?_,λx O=>?_,λx O y hy e=>?_,fd,λx O=>?_⟩
    .rw [ac,zEz _ ni,zAh en];have:dT1 (ns.take i) (λn=>V.ref$ S n)=dT1 (ns.take i) (λx=>V.ref$ if x=n then b else S x):=zJt λx O=>by rw[qAC λ(z:x=n)=>ni$ z▸O]
     rw[this];unfold dT1;rw[qAI];simp
    .rw [zAh en]at O
     by_cases z:x=n
     .rw [qAD z];exact(a_ ab.symm).trans ac
     .rw [qAC z]
      have ae:x∈ns.take i:=by
       rcases qAK.mp O with y|y
       .exact y
       .exact absurd (qAH.mp y) z
      exact(a_$ D.ne x ae).trans$ (a_$ ad x ae).trans$ D.row x ae
    .rw [zAh en]at O
     by_cases z:x=n
     .rw [qAD z];exact ab.symm
     .rw [qAC z];rcases qAK.mp O with y|y
      .exact D.ne x y
      .exact absurd (qAH.mp y) z
    .rw [zAh en]at O hy
     have W:∀x,x∈ns.take i++[n]->x≠n->x∈ns.take i:=λx O z=>by
      rcases qAK.mp O with y|y
      .exact y
      .exact absurd (qAH.mp y) z
     by_cases z:x=n
     .by_cases z':y=n
      .rw [z,z']
      .rw [qAD z,qAC z']at e;exact absurd e.symm$ ad y$ W y hy z'
     .by_cases z':y=n
      .rw [qAC z,qAD z']at e;exact absurd e$ ad x$ W x O z
      .rw [qAC z,qAC z']at e;exact D.inj x (W x O z) y (W y hy z') e
    .rw [zAh en]at O
     by_cases z:x=n
     .rw [qAD z];exact af
     .rw [qAC z];rcases qAK.mp O with y|y
      .exact D.frs x y
      .exact absurd (qAH.mp y) z
  .rintro σ H2 ⟨⟨o3,o4,o5,rfl⟩,k2,S,D⟩;have eN:ns.take (ns.map V.str).length=ns:=by rw[qAB,qAY]
   rw[eN]at D
   refine⟨_,rF,_,rF,⟨_,SqL.of$ k2 m _ hm.top sS⟩,zA0 (λi σ H3=>(∃o3 o4 o5:Option V,σ=[some (.ref l),some (.ref m),some (.ref d),o3,o4,o5])/\Kp [] H H3/\DL H H3 d ns S (told$ qs.take i)) ⟨⟨_,_,_,rF⟩,k2,D⟩ (λi σ H3 _ ⟨_,k3,_⟩=>SqL.of$ k3 m _ hm.top sS) ?_ ?_⟩
   .rintro i v σ H3 hv ⟨⟨o3,o4,o5,rfl⟩,k3,D⟩;obtain⟨q,eq,rfl⟩:=g9 hv;have mq:=qAN eq;obtain⟨a,b,aa⟩:=hm.two q mq
    have ag:H3 q.2=some (.tup [.str a,.str b]):=by
     have:=k3 q.2 _ (hm.row q mq) sS;rw[aa]at this;exact this
    have hb:b∈ns:=hq q mq b (by rw[aa];simp);have ah:snd q=b:=by unfold snd;rw[aa];rfl
    have ai:fst q=a:=by unfold fst;rw[aa];rfl
    refine⟨_,_,rF,.inl$ .inl ag,rF,_,_,rF,_,_,rF,rF,?_⟩;refine⟨_,rF,_,rF,_,.ref$ S b,rF,?_,.inl ⟨rF,_,SqL.of$ D.row b hb⟩,_,rF,_,_,_,rF,rF,D.row b hb,?_,?_⟩
    .have:=eO.k (k:=Sum.inr b) D.top;rw[zB3,qAD hb]at this;exact this
    .have:=kT (qs.take i) b;rw[qAX]at this;rw[qAB,qAM];lia
    .refine ⟨⟨_,_,_,rF⟩,Kp.new k3$ D.frs b hb,?_⟩;rw[zAh eq];refine⟨(a_ (D.ne b hb).symm).trans D.top,λx O=>?_,D.ne,D.inj,D.fr,D.frs⟩;show upd H3 (S b) _ (S x)=some (.lst$ (told (qs.take i++[q]) x).map V.str);rw[qO,ah,ai]
     by_cases z:b=x
     .subst z;rw[qAD rF,ac,qAI];rfl
     .rw [qAC z,a_ λy=>z$ D.inj b hb x O y.symm];exact D.row x O
   .rintro σ H3 ⟨⟨o3,o4,o5,rfl⟩,k3,D⟩;have eQ:qs.take (qs.map λq=>V.ref q.2).length=qs:=by rw[qAB,qAY]
    rw[eQ]at D;exact⟨_,rF,k d S H3 D k3⟩
end
def eY(A:List Str)(x:Str):List Str:=if x∈A then A else A++[x]
theorem mz{A:List Str}{x:Str}:y∈eY A x↔y∈A\/y=x:=by
 unfold eY
 by_cases h:x∈A
 .rw [qAD h];exact⟨.inl,λz=>z.elim id λe=>e▸h⟩
 .rw [qAC h];simp
theorem zKh{A:List Str}{x:Str}(h:A.Nodup):(eY A x).Nodup:=by
 unfold eY
 by_cases hx:x∈A
 .rw [qAD hx];exact h
 .rw [qAC hx];refine qA6.mpr ⟨h,sS,λa O b S=>?_⟩;rw[qAH.mp S];rintro rfl;exact hx O
theorem zB0 :∀(B A:List Str),y∈B.foldl eY A↔y∈A\/y∈B
 |[],A=>sS
 |b::B,A=>by
  rw[qBh,zB0 B$ eY A b,mz,qAQ,or_assoc]
theorem zEg:∀(B A:List Str),A.Nodup->(B.foldl eY A).Nodup
 |[],A,h=>h
 |b::B,A,h=>zEg B _ (zKh h)
def zCk(S:Str->List Str)(O:List Str):List Str:=O.foldl (λA m=>(S m).foldl eY$ eY A m) []
theorem n9(S:Str->List Str)(O:List Str)(m:Str):zCk S (O++[m])=(S m).foldl eY (eY (zCk S O) m):=by unfold zCk;rw[qA8];rfl
theorem zKk{S:Str->List Str} :∀(O A:List Str),y∈O.foldl (λA m=>(S m).foldl eY$ eY A m) A↔y∈A\/y∈O\/∃m∈O,y∈S m
 |[],A=>sS
 |m::O,A=>by
  rw[qBh,zKk O,zB0,mz];constructor
  .rintro (((h|h)|h)|h|⟨q,h1,h2⟩)
   .exact .inl h
   .exact .inr$ .inl$ h▸qAO
   .exact .inr$ .inr ⟨m,qAO,h⟩
   .exact .inr$ .inl$ qAS _ h
   .exact .inr$ .inr ⟨q,qAS _ h1,h2⟩
  .rintro (h|h|⟨q,h1,h2⟩)
   .exact .inl$ .inl$ .inl h
   .rcases qAQ.mp h with e|e
    .exact .inl$ .inl$ .inr e
    .exact .inr$ .inl e
   .rcases qAQ.mp h1 with e|e
    .exact .inl$ .inr$ e▸h2
    .exact .inr$ .inr ⟨q,e,h2⟩
theorem zJf{S:Str->List Str}{O:List Str} :y∈zCk S O↔y∈O\/∃m∈O,y∈S m:=by
 unfold zCk;rw[zKk];simp
theorem zH4{S:Str->List Str}:∀(O A:List Str),A.Nodup->(O.foldl (λA m=>(S m).foldl eY$ eY A m) A).Nodup
 |[],A,h=>h
 |m::O,A,h=>zH4 O _ (zEg _ _$ zKh h)
theorem zJd(S:Str->List Str)(O:List Str):(zCk S O).Nodup:=zH4 O [] qAt
theorem zB4:∀{A B:List Str},A.Nodup->(∀x∈A,x∈B)->A.length<=B.length
 |[],B,_,_=>qAm _
 |a::A,B,h,hs=>by
  obtain⟨h1,h2⟩:=qA5.mp h;have O:=hs a qAO;have:=zB4 (B:=B.erase a) h2 λx S=>(List.mem_erase_of_ne λe=>h1$ by rw[<-e];exact S).mpr$ hs x$ qAS _ S;rw[List.length_erase_of_mem O]at this;have:=List.length_pos_of_mem O;rw[qAd];lia
abbrev fM(H:Hp)(e:Addr)(A:List Str):Prop:=H e=some (.dK$ dT1 A λ_=>.bl true)
theorem zLa(A:List Str)(x:Str):eV (dT1 A λ_=>.bl true) (.inr x) (.bl true)=dT1 (eY A x) λ_=>.bl true:=by
 unfold eY
 by_cases h:x∈A
 .rw [qAD h];unfold eV;rw[zE8,zB3,qAD h];refine(qAD rR).trans ?_;unfold dT1;rw[qAb];refine qBU λy _=>?_;show(if(Sum.inr y:Key)=Sum.inr x then((Sum.inr y:Key),V.bl true) else(Sum.inr y,V.bl true))=_;split<;>rfl
 .rw [qAC h,zEz _ h];unfold dT1;rw[qAI];rfl
theorem pF:∀(B A:List Str),mrg (dT1 A λ_=>.bl true) (dT1 B λ_=>.bl true)=dT1 (B.foldl eY A) λ_=>.bl true
 |[],A=>rfl
 |b::B,A=>by
  show mrg (eV (dT1 A λ_=>.bl true) (.inr b)$ .bl true) (dT1 B λ_=>.bl true)=_;rw[zLa,pF B];rfl
section
inductive ic(vs:List V)(H:Hp)(Q:VK)(u_3:XK):Prop
 |mk:∀(d l:Addr) (kvs:List (Key×V)) (ms:List Str),vs=[.ref d,.ref l]->H d=some (.dK kvs)->Txs H l ms->ms.length<=4096->(∀H',Kp [] H H'->Q (.bl$ ms.all λm=>(eX kvs$ .inr m).isSome) H')->ic vs H Q u_3
abbrev zGr:Stmt:=top 67
theorem mL:c_ ["done","names"] ["done","names"] (zAe zGr):=fnS
theorem oa(F:Fun K "has_all" "has_all" zGr f fd)(T:Txt K mg):eC P w K mg base CX0 1 f fd ["done","names"] ic:=by
 refine F.ok mL (λvs H Q E h=>?_) λaa A W s H vs Q E hr h=>?_
 .obtain ⟨d,l,kvs,S,rfl,_⟩:=h;rfl
 .obtain ⟨d,l,kvs,S,rfl,hd,hl,hz,k⟩:=h;have hu:=zD3 hr;refine⟨_,(zAd$ zAk$ zAn (zHe _ rF) rR T.z_all gK$ zAa (zA6 rF (zBe (sc:=zAe zGr) rF kK) (d_.own (x:="name")$ dtk (i:=0) rF d_.nil) (zAl$ pv 1) (λ_ _ _ _=>(pgB (i:=0))) (λ_ _ _ _=>zBq) λ_ _ _ _=>(so$ zH2 hu (pv 0)$ pv 1)) zAc),?_⟩;refine⟨_,rF,_,rF,⟨_,SqL.of hl⟩,λD hD=>zA8 (S.map V.str) (λi ys O H'=>(∃o0,O=[o0,some (.ref d)])/\ys=((S.take i).map λm=>V.bl (eX kvs$ .inr m).isSome)/\H'=upd H D (.lst ys)) ⟨⟨_,rF⟩,rF,rF⟩ (λi ys O H' ⟨_,_,e⟩=>by subst e;exact SqL.of$ (a_$ b_ (show Fre H D from hD) hl).trans hl) ?_ ?_⟩
  .rintro i v ys O H' hv ⟨⟨o0,rfl⟩,rfl,rfl⟩;obtain⟨m,em,rfl⟩:=zBh hv;refine⟨_,rF,_,rF,_,_,rF,eO.k (k:=Sum.inr m)$ (a_$ b_ (show Fre H D from hD) hd).trans hd,ac,?_,⟨_,rF⟩,?_,zBm⟩
   .rw [qAB,qAX,qAM];lia
   .rw [zAh em,qAI];rfl
  .rintro ys O H' ⟨_,rfl,rfl⟩;have eM:S.take (S.map V.str).length=S:=by rw[qAB,qAY]
   refine⟨D,S.map λm=>(eX kvs$ .inr m).isSome,rF,SqL.of ?_,?_⟩
   .rw [ac,eM,qAb];rfl
   .rw [qDT];exact k _$ Kp.new Kp.refl hD
inductive gM(vs:List V)(H:Hp)(Q:VK)(u_3:XK):Prop
 |mk:∀(l d:Addr)(ms D0 ns:List Str)(fa:Str->Addr)(S:Str->List Str),vs=[.ref l,.ref d]->Txs H l ms->H d=some (.dK$ dT1 D0 λn=>.ref$ fa n)->(∀m∈ms,m∈D0/\m∈ns/\fM H (fa m) (S m)/\∀x∈S m,x∈ns)->ns.length<=20->(∀m∈ms,(S m).length<=20)->(∀e H',Fre H e->fM H' e (zCk S ms)->Kp [] H H'->Q (.ref e) H')->gM vs H Q u_3
abbrev zK7:Stmt:=top 69
theorem zI2:c_ ["near","far","found","name"] ["near","far"] (zAe zK7):=fnS
theorem qi(F:Fun K "joined" "joined" zK7 f fd):eC P w K mg base CX0 1 f fd ["near","far"] gM:=by
 refine F.ok zI2 (λvs H Q E h=>?_) λaf A ad s H vs Q E hr h=>?_
 .obtain ⟨l,d,O,D0,ns,fa,S,rfl,_⟩:=h;rfl
 .obtain ⟨l,d,O,D0,ns,fa,S,rfl,hl,hd,hm,hn,hS,k⟩:=h;have hu:=zD3 hr
  refine⟨_,(zAb (psS (i:=2) zI2.nd zB1) (zAb (zA4 qAZ rF (zAl$ pv 0) (pgN (i:=3) zI2.nd)
    (zAb (zCi hu (pv 2) (pv 3) zJz rF)$ zAd$ zBb$ zCj qC8 PySem.F.slot_dict_update PySem.F.type_dict_update vy (pv 2)$ zAa (zBt hu (pv 1) (pv 3) λ_ _=>rfl) zAc))$ zAd$ zAk$ pv 2)),?_⟩
  refine im ?_;intro _ _ _;refine λe he=>?_;have W:Fre H e:=he
  have aa:∀i x,x∈zCk S (O.take i)->x∈ns:=λi x hx=>by
   rcases zJf.mp hx with z|⟨m,z,z'⟩
   .exact (hm x$ qCm z).2.1
   .exact (hm m$ qCm z).2.2.2 x z'
  have ab:∀i,(zCk S$ O.take i).length<=20:=λi=>qAR (zB4 (zJd S _)$ aa i) hn
  refine⟨_,rF,_,rF,⟨_,SqL.of$ (Kp.new (M:=[]) Kp.refl W) l _ hl sS⟩,zA0 (λi σ H2=>(∃o3:Option V,σ=[some (.ref l),some (.ref d),some (.ref e),o3])/\Kp [] H H2/\fM H2 e (zCk S$ O.take i)) ⟨⟨_,rF⟩,Kp.new Kp.refl W,ac⟩ (λi σ H2 _ ⟨_,k2,_⟩=>SqL.of$ k2 l _ hl sS) ?_ ?_⟩
  .rintro i v σ H2 hv ⟨⟨o3,rfl⟩,k2,h2⟩;refine qI ?_;intro _ _;obtain⟨m,em,rfl⟩:=zBh hv;obtain⟨m1,m2,m3,m4⟩:=hm m$ qAN em;have l2:=ab i;refine⟨_,rF,_,rF,_,_,rF,fR.k (k:=Sum.inr m) h2 (by rw[qAB,qAM];lia),?_⟩;rw[zLa];have k3:Kp [] H (upd H2 e$ .dK$ dT1 (eY (zCk S$ O.take i) m) λ_=>.bl true):=Kp.new k2 W;have ae:fa m≠e:=b_ W m3;refine⟨_,rF,.inr$ .inr$ .inl ⟨rF,.inl ⟨_,ac⟩⟩,_,rF,_,rF,_,.ref$ fa m,rF,?_,_,fa m,_,_,rF,rF,ac,k3 _ _ m3 sS,ae.symm,?_,?_⟩
   .have:=eO.k (k:=Sum.inr m)$ k3 d _ hd sS;rw[zB3,qAD m1]at this;exact this
   .have:=hS m$ qAN em;rw[qAB,qAB,qAM]
    have:(eY (zCk S$ O.take i) m).length<=(zCk S$ O.take i).length+1:=by
     unfold eY;split
     .lia
     .rw [qAV];exact qAF _
    lia
   .rw [pF];refine⟨⟨_,rF⟩,Kp.new k3 W,?_⟩;rw[zAh em,n9];exact ac
  .rintro σ H2 ⟨⟨o3,rfl⟩,k2,h2⟩;have eM:O.take (O.map V.str).length=O:=by rw[qAB,qAY]
   rw[eM]at h2;exact⟨_,rF,k e H2 W h2 k2⟩
end
structure Fp(H0 H:Hp)(e:Addr)(ns D:List Str)(fa:Str->Addr)(S f:Str->List Str):Prop where
 top:H e=some (.dK$ dT1 D λn=>.ref$ fa n)
 nd:D.Nodup
 sub:∀n∈D,n∈ns
 row:∀n∈D,fM H (fa n) (S n)
 snd:∀n∈D,(S n).Nodup
 sns:∀n∈D,∀x∈S n,x∈ns
 mem:∀n∈D,∀x,x∈S n↔x∈f n\/∃m∈f n,x∈S m
 cl:∀n∈D,∀x∈f n,x∈D
 ne:∀n∈D,fa n≠e
 fr:Fre H0 e
 frs:∀n∈D,Fre H0 (fa n)
theorem Fp.kp{H0:Hp}{e:Addr}{D:List Str}{O:Str->Addr}{S f:Str->List Str}(F:Fp H0 H e ns D O S f)(k:Kp [] H H'):Fp H0 H' e ns D O S f :=
 ⟨k e _ F.top sS,F.nd,F.sub,λn V=>k _ _ (F.row n V) sS,F.snd,F.sns,F.mem,F.cl,F.ne,F.fr,F.frs⟩
theorem Fp.more{H0:Hp}{e b:Addr}{D:List Str}{fa:Str->Addr}{S f:Str->List Str}{n:Str}(F:Fp H0 H e ns D fa S f)(hn:n∈ns)(hD:n∉D)(hf:∀x∈f n,x∈D)(hs:∀x∈f n,x∈ns)(hb:fM H b (zCk S$ f n))(nb:b≠e)(fb:Fre H0 b) :
  Fp H0 (upd H e$ .dK$ eV (dT1 D λn=>.ref$ fa n) (.inr n)$ .ref b) e ns (D++[n]) (λx=>if x=n then b else fa x) (λx=>if x=n then zCk S (f n) else S x) f:=by
 have hx:∀x∈D,¬x=n:=λx h z=>hD$ z▸h
 have cs:∀x,x∈D++[n]->x∈D\/x=n:=λx h=>by
  rcases qAK.mp h with z|z
  .exact .inl z
  .exact .inr$ qAH.mp z
 have O:∀{x},x∈D->(if x=n then zCk S (f n) else S x)=S x:=λ{x} h=>qAC$ hx x h;have aa:(if n=n then zCk S (f n) else S n)=zCk S (f n):=qAD rF;refine⟨?_,?_,λx h=>?_,λx h=>?_,λx h=>?_,λx h y hy=>?_,λx h y=>?_,λx h y hy=>?_,λx h=>?_,F.fr,λx h=>?_⟩
 .rw [ac,zEz _ hD];have:dT1 D (λn=>V.ref$ fa n)=dT1 D (λx=>V.ref$ if x=n then b else fa x):=zJt λx h=>by rw[qAC$ hx x h]
  rw[this];unfold dT1;rw[qAI];simp
 .refine qA6.mpr ⟨F.nd,sS,λa ha c hc=>?_⟩;rw[qAH.mp hc];exact hx a ha
 .rcases cs x h with z|z
  .exact F.sub x z
  .rw [z];exact hn
 .rcases cs x h with z|z
  .show upd H e _ (if x=n then b else fa x)=some (.dK$ dT1 (if x=n then zCk S (f n) else S x) λ_=>.bl true);rw[qAC$ hx x z,qAC$ hx x z,a_$ F.ne x z];exact F.row x z
  .subst z;show upd H e _ (if x=x then b else fa x)=some (.dK$ dT1 (if x=x then zCk S (f x) else S x) λ_=>.bl true);rw[qAD rF,qAD rF,a_ nb];exact hb
 .rcases cs x h with z|z
  .show (if x=n then zCk S (f n) else S x).Nodup;rw[O z];exact F.snd x z
  .subst z;show(if x=x then zCk S (f x) else S x).Nodup;rw[qAD rF];exact zJd _ _
 .rcases cs x h with z|z
  .have hy:y∈(if x=n then zCk S (f n) else S x):=hy;rw[O z]at hy;exact F.sns x z y hy
  .subst z;have hy:y∈(if x=x then zCk S (f x) else S x):=hy;rw[qAD rF]at hy;rcases zJf.mp hy with q|⟨m,W,q2⟩
   .exact hs y q
   .exact F.sns m (hf m W) y q2
 .rcases cs x h with z|z
  .show y∈(if x=n then zCk S (f n) else S x)↔y∈f x\/∃m∈f x,y∈(if m=n then zCk S (f n) else S m);rw[O z,F.mem x z y];constructor
   .rintro (q|⟨m,W,q2⟩)
    .exact .inl q
    .exact .inr ⟨m,W,by rw[O$ F.cl x z m W];exact q2⟩
   .rintro (q|⟨m,W,q2⟩)
    .exact .inl q
    .rw [O$ F.cl x z m W]at q2;exact .inr ⟨m,W,q2⟩
  .subst z;show y∈(if x=x then zCk S (f x) else S x)↔y∈f x\/∃m∈f x,y∈(if m=x then zCk S (f x) else S m);rw[qAD rF,zJf];constructor
   .rintro (q|⟨m,W,q2⟩)
    .exact .inl q
    .exact .inr ⟨m,W,by rw[O$ hf m W];exact q2⟩
   .rintro (q|⟨m,W,q2⟩)
    .exact .inl q
    .rw [O$ hf m W]at q2;exact .inr ⟨m,W,q2⟩
 .rcases cs x h with z|z
  .exact qAj _$ F.cl x z y hy
  .subst z;exact qAj _$ hf y hy
 .rcases cs x h with z|z
  .show (if x=n then b else fa x)≠e;rw[qAC$ hx x z];exact F.ne x z
  .subst z;show(if x=x then b else fa x)≠e;rw[qAD rF];exact nb
 .rcases cs x h with z|z
  .show Fre H0 (if x=n then b else fa x);rw[qAC$ hx x z];exact F.frs x z
  .subst z;show Fre H0 (if x=x then b else fa x);rw[qAD rF];exact fb
theorem iJ(r:Str->Nat):∀(L:List Str),L≠[]->∃n∈L,∀m∈L,r n<=r m
 |[],h=>absurd rF h
 |[x],_=>⟨x,sS,λm O=>by rw[qAH.mp O];exact qAF _⟩
 |x::y::L,_=>by
  obtain⟨n,S,h⟩:=iJ r (y::L) sS
  by_cases c:r x<=r n
  .refine ⟨x,qAO,λm O=>?_⟩;rcases qAQ.mp O with z|z
   .rw [z];exact qAF _
   .exact qAR c$ h m z
  .refine ⟨n,qAS _ S,λm O=>?_⟩;rcases qAQ.mp O with z|z
   .rw [z];lia
   .exact h m z
theorem iB{p:α->Bool}{x:α}:∀{L:List α},x∈L->p x=false->(L.filter p).length<L.length
 |a::L,h,O=>by
  rcases qAQ.mp h with z|z
  .subst z;rw[qA9,qAC (by rw[O];decide),qAd];exact Nat.lt_succ_of_le$ qAq _ _
  .have:=iB z O;rw[qA9,qAd];split
   .rw [qAd];lia
   .lia
theorem zE5(D:List Str)(g:Str->V)(x:Str):(eX (dT1 D g)$ .inr x).isSome=decide (x∈D):=by
 rw[zB3]
 by_cases h:x∈D
 .rw [qAD h,qAJ h];rfl
 .rw [qAC h,qAP h];rfl
section
inductive gc(vs:List V)(H:Hp)(Q:VK)(u_3:XK):Prop
 |mk:∀(l d:Addr)(ns:List Str)(la:Str->Addr)(f:Str->List Str)(r:Str->Nat),vs=[.ref l,.ref d]->Txs H l ns->ns.Nodup->ns.length<=20->H d=some (.dK$ dT1 ns λn=>.ref$ la n)->(∀n∈ns,Txs H (la n) (f n)/\(f n).length<=4096/\∀x∈f n,x∈ns/\r x<r n)->(∀e D fa S H',Fp H H' e ns D fa S f->(∀n∈ns,n∈D)->Kp [] H H'->Q (.ref e) H')->gc vs H Q u_3
abbrev zC8:Stmt:=top 68
theorem zCa:c_ ["names","told","far","left","free","name"] ["names","told"] (zAe zC8):=fnS
def tj(σ:St)(H:Hp):Nat:=match (σ[3]?:Option (Option V)) with
 |some (some$ .ref a)=>match H a with
  |some (.lst xs)=>xs.length
  |_=>0
 |_=>0
theorem jo(F:Fun K "all_ahead" "all_ahead" zC8 f fd)(T:Txt K mg)(ab:Cal P w K mg base "has_all" 1 ["done","names"] ic)(ae:Cal P w K mg base "joined" 1 ["near","far"] gM):eC P w K mg base CX0 2 f fd ["names","told"] gc:=by
 refine F.ok zCa (λvs H Q E h=>?_) λay A an s H vs Q E hr h=>?_
 .obtain ⟨l,d,ns,la,f,r,rfl,_⟩:=h;rfl
 .obtain ⟨l,d,ns,la,f,r,rfl,hl,hN,hn,hd,hf,k⟩:=h;have hu:=zD3 hr;have W:=hr;have ad:=hr
  refine⟨_,(zAb (psS (i:=2) zCa.nd zB1) (zAb (psS (i:=3) zCa.nd$ zAz zDr rR T.z_list zHy$ zAa (pv 0) zAc)
   (zAb (zGu qAZ (zIj (pv 3) fun _=>rfl)
    (zAb (zI9 (i:=4) rF (zBe (sc:=zAe zC8) rF kK) (d_.own (x:= "name")$ dtk (i:=2) rF$ dtk (i:=1) rF d_.nil) (zAl$ pv 3) (fun _ _ _ _=>(pgB (i:=0))) (fun _ _ _ _=>(zB8$ zBv$ zAf ab W rF$ zAa (pv 1)$ zAa (zBt hu (pv 2) (pv 0) fun _ _=>rfl) zAc)) (fun _ _ _ _=>(pv 0)) zCa.nd rF rF)
    (zAb (zA1 (zBy$ zIj (pv 4) fun _=>rfl)
     (zAd zAq)
     zAi)
    (zAb (zA4 qAZ rF (zAl$ pv 4) (pgN (i:=5) zCa.nd)$ zAd$ zCi hu (pv 2) (pv 5) (zAf ae ad rF$ zAa (zBt hu (pv 1) (pv 5) λ_ _=>rfl)$ zAa (pv 2) zAc) rF)$ zAd$ zI9 (i:=3) rF (zBe (sc:=zAe zC8) rF kK) (d_.own (x:="name")$ dtk (i:=2) rF d_.nil) (zAl$ pv 3) (λ_ _ _ _=>(pgB (i:=0))) (λ_ _ _ _=>(zB8$ zE0$ zE1 hu (pv 0)$ pv 1)) (λ_ _ _ _=>(pv 0)) zCa.nd rF rF))))$ zAd$ zAk$ pv 2))),?_⟩
  refine lC ?_;intro _ _ _ _;refine λe he=>?_;have fe:Fre H e:=he;refine⟨_,rF,_,_,rF,.inl$ SqL.of$ (Kp.new (M:=[]) Kp.refl fe) l _ hl sS,λlf aa=>?_⟩;have k0:Kp [] H (upd H e$ .dK []):=Kp.new Kp.refl fe;have ao:Fre H lf:=k0.fre aa sS;have ap:e≠lf:=b_ (show Fre (upd H e$ .dK []) lf from aa) ac;show gF (λσ H Q=>rY 3 σ H λx H'=>∃k,uF K x H' k/\Q k H') _ _ _ _
  refine zKx (λσ H2=>∃(lf:Addr)(D:List Str)(fa:Str->Addr)(S:Str->List Str)(o4 o5:Option V),σ=[some (.ref l),some (.ref d),some (.ref e),some (.ref lf),o4,o5]/\Kp [] H H2/\Fp H H2 e ns D fa S f/\Txs H2 lf (ns.filter λn=>decide$ n∉D)) tj
   ⟨lf,[],λ_=>0,λ_=>[],none,none,rF,Kp.new k0 ao,⟨(a_ ap).trans ac,qAt,(λn h=>nomatch h),(λn h=>nomatch h),(λn h=>nomatch h),(λn h=>nomatch h),(λn h=>nomatch h),(λn h=>nomatch h),(λn h=>nomatch h),fe,(λn h=>nomatch h)⟩,by
    have ef:(ns.filter λn=>decide$ n∉([]:List Str))=ns:=sS
    show upd _ lf _ lf=some (.lst$ (ns.filter λn=>decide$ n∉([]:List Str)).map V.str);rw[ef];exact ac⟩ ?_ (λσ H Q Q' hq hc=>by
    obtain⟨x,e,b,t,q⟩:=hc;exact⟨x,e,b,t,hq _ _ q⟩)
  rintro σ H2 ⟨lf,D,fa,S,o4,o5,rfl,k2,FP,aa⟩;refine⟨_,rF,_,.inl ⟨_,SqL.of aa,rF⟩,?_⟩;have af:∀n,n∈(ns.filter λn=>decide$ n∉D)↔n∈ns/\n∉D:=λn=>by simp[qAc]
  have aq:(ns.filter λn=>decide$ n∉D).length<=20:=qAR (qAq _ _) hn;generalize hL:(ns.filter λn=>decide$ n∉D)=L at *
  refine eU (λc=>?_) λc=>?_
  .have cL:L≠[]:=λz=>by rw[z]at c;simp at c
   refine⟨_,rF,_,rF,⟨_,SqL.of aa⟩,λB hB=>zBs (L.map V.str) (λi ys τ H3=>(∃o0,τ=[o0,some (.ref e),some (.ref d)])/\ys=((L.take i).filter λn=>(f n).all λm=>decide$ m∈D).map V.str/\Kp [] H2 H3/\H3 B=some (.lst ys)) ⟨⟨_,rF⟩,rF,Kp.new Kp.refl hB,ac⟩ (λi ys τ H3 ⟨_,_,k3,_⟩=>SqL.of$ k3 lf _ aa sS) ?_ ?_⟩
   .rintro i v ys τ H3 hv ⟨⟨o0,rfl⟩,rfl,k3,h3⟩;obtain⟨n,en,rfl⟩:=zBh hv;have mn:=(af n).mp$ qAN en;obtain⟨n1,n2,n3⟩:=hf n mn.1;have ag:=k2.trans k3;refine⟨_,rF,_,rF,_,rF,_,.ref$ la n,rF,?_,e,la n,_,f n,rF,k3 e _ FP.top sS,ag _ _ n1 sS,n2,λH4 k4=>?_⟩
    .have:=eO.k (k:=Sum.inr n)$ ag d _ hd sS;rw[zB3,qAD mn.1]at this;exact this
    have ak:((f n).all λm=>(eX (dT1 D λn=>V.ref$ fa n)$ .inr m).isSome)=(f n).all λm=>decide$ m∈D:=by
     congr 1;funext m;exact zE5 D _ m
    rw[ak];have h4:=k4 B _ h3 sS;have et:=zAh en;refine⟨_,rF,eU (λc=>?_) λc=>?_⟩
    .refine ⟨_,rF,h4,?_,⟨_,rF⟩,?_,Kp.new (k3.trans k4) hB,ac⟩
     .rw [qAB,qAM];have h1:=qAq (λn=>(f n).all λm=>decide$ m∈D)$ L.take i;rw[qAX]at h1;lia
     .rw [et,qBD,qAI];have:[n].filter (λn=>(f n).all λm=>decide$ m∈D)=[n]:=by rw[qA9,qAD c];rfl
      rw[this];rfl
    .refine ⟨⟨_,rF⟩,?_,k3.trans k4,?_⟩
     .rw [et,qBD];have:[n].filter (λn=>(f n).all λm=>decide$ m∈D)=[]:=by rw[qA9,qAC c];rfl
      rw[this,qA4]
     .exact h4
   .rintro ys τ H3 ⟨_,rfl,k3,h3⟩;have eT:L.take (L.map V.str).length=L:=by rw[qAB,qAY]
    rw[eT]at h3;have ah:∀n,n∈(L.filter λn=>(f n).all λm=>decide$ m∈D)↔n∈L/\∀m∈f n,m∈D:=λn=>by simp[qAc]
    have az:(L.filter λn=>(f n).all λm=>decide$ m∈D).length<=20:=qAR (qAq _ _) aq
    have ar:(L.filter λn=>(f n).all λm=>decide$ m∈D).Nodup:=by
     have:L.Nodup:=by rw[<-hL];exact hN.sublist qDU
     exact this.sublist qDU
    have al:(L.filter λn=>(f n).all λm=>decide$ m∈D)≠[]:=by
     obtain⟨n,n1,n2⟩:=iJ r L cL;refine List.ne_nil_of_mem$ (ah n).mpr ⟨n1,λm hm=>?_⟩;have mn:=(af n).mp n1;obtain⟨q1,q2⟩:=(hf n mn.1).2.2 m hm;apply qBI;intro z;have:=n2 m$ (af m).mpr ⟨q1,z⟩;lia
    generalize aA:(L.filter λn=>(f n).all λm=>decide$ m∈D)=FR at *
    have ag:=k2.trans k3;refine⟨_,rF,_,.inl ⟨_,SqL.of h3,rF⟩,?_⟩
    have e0:(!(FR.map V.str).isEmpty)=true:=by
     cases FR with
     |nil=>exact absurd rF al
     |cons _ _=>rfl
    rw[e0];refine eG ?_
    refine⟨_,rF,_,rF,⟨_,SqL.of h3⟩,zA0 (λi σ H4=>∃(fa:Str->Addr)(S:Str->List Str)(o5:Option V),σ=[some (.ref l),some (.ref d),some (.ref e),some (.ref lf),some (.ref B),o5]/\Kp [] H H4/\Fp H H4 e ns (D++FR.take i) fa S f/\Txs H4 lf L/\Txs H4 B FR) ⟨fa,S,_,rF,ag,by rw[List.take_zero,qA4];exact FP.kp k3,k3 lf _ aa sS,h3⟩ (λi σ H4 _ ⟨_,_,_,_,_,_,_,h⟩=>SqL.of h) ?_ ?_⟩
    .rintro i v σ H4 hv ⟨ai,S4,as,rfl,k4,F4,O,aj⟩;obtain⟨n,en,rfl⟩:=zBh hv;have mF:=(ah n).mp$ qAN en;have mn:=(af n).mp mF.1;obtain⟨n1,n2,n3⟩:=hf n mn.1
     have nD:n∉D++FR.take i:=λz=>by
      rcases qAK.mp z with y|y
      .exact mn.2 y
      .exact zFi ar en y
     have fD:∀x∈f n,x∈D++FR.take i:=λx hx=>qAj _$ mF.2 x hx;refine⟨_,rF,_,rF,_,.ref$ la n,rF,?_,_,rF,la n,e,f n,D++FR.take i,ns,ai,S4,rF,k4 _ _ n1 sS,F4.top,λm hm=>⟨fD m hm,(n3 m hm).1,F4.row m$ fD m hm,F4.sns m$ fD m hm⟩,hn,λm hm=>qAR (zB4 (F4.snd m$ fD m hm)$ F4.sns m$ fD m hm) hn,λb H5 fb hb k5=>?_⟩
     .have:=eO.k (k:=Sum.inr n)$ k4 d _ hd sS;rw[zB3,qAD mn.1]at this;exact this
     have F5:=F4.kp k5;have au:Fre H b:=k4.fre fb sS;refine⟨_,rF,_,rF,_,_,rF,fR.k (k:=Sum.inr n) F5.top ?_,?_⟩
     .have:=zB4 F5.nd F5.sub;rw[qAB,qAM];lia
     .have FM:=F5.more mn.1 nD fD (λx hx=>(n3 x hx).1) hb (qAo$ b_ fb F4.top) au;rw[qA0,<-zAh en]at FM;exact⟨_,_,_,rF,Kp.new (k4.trans k5) fe,FM,(a_$ zAu O F4.top λz=>nomatch z).trans$ k5 lf _ O sS,(a_$ zAu aj F4.top λz=>nomatch z).trans$ k5 B _ aj sS⟩
    .rintro σ H4 ⟨ai,S4,as,rfl,k4,F4,O,aj⟩;have eF:FR.take (FR.map V.str).length=FR:=by rw[qAB,qAY]
     rw[eF]at F4
     refine⟨_,rF,_,rF,⟨_,SqL.of O⟩,λG hG=>zBs (L.map V.str) (λi ys τ H5=>(∃o0,τ=[o0,some (.ref e)])/\ys=((L.take i).filter λn=>decide$ n∉D++FR).map V.str/\H5=upd H4 G (.lst ys)) ⟨⟨_,rF⟩,rF,rF⟩ (λi ys τ H5 ⟨_,_,z⟩=>by subst z;exact SqL.of$ (a_$ b_ (show Fre H4 G from hG) O).trans O) ?_ ?_⟩
     .rintro i v ys τ H5 hv ⟨⟨o0,rfl⟩,rfl,rfl⟩;obtain⟨n,en,rfl⟩:=zBh hv;refine⟨_,rF,_,rF,_,_,rF,eO.k (k:=Sum.inr n)$ (a_$ b_ (show Fre H4 G from hG) F4.top).trans F4.top,_,rF,?_⟩;rw[zE5];have et:=zAh en;refine eU (λc=>?_) λc=>?_
      .have c':n∉D++FR:=λz=>by rw[qAJ z]at c;exact nomatch c
       refine⟨_,rF,ac,?_,⟨_,rF⟩,?_,zBm⟩
       .rw [qAB,qAM];have h1:=qAq (λn=>decide$ n∉D++FR)$ L.take i;rw[qAX]at h1;lia
       .rw [et,qBD,qAI];have:[n].filter (λn=>decide$ n∉D++FR)=[n]:=by rw[qA9,qAD$ qAJ c'];rfl
        rw[this];rfl
      .have c':n∈D++FR:=by
        apply qBI;intro z;rw[qAP z]at c;exact c rF
       have e2:(L.take$ i+1).filter (λn=>decide$ n∉D++FR)=(L.take i).filter (λn=>decide$ n∉D++FR):=by
        rw[et,qBD];have:[n].filter (λn=>decide$ n∉D++FR)=[]:=by rw[qA9,qAC$ by rw[qAP λz=>z c'];decide];rfl
        rw[this,qA4]
       refine⟨⟨_,rF⟩,?_,?_⟩
       .rw [e2]
       .rfl
     .rintro ys τ H5 ⟨_,rfl,rfl⟩;have eT:L.take (L.map V.str).length=L:=by rw[qAB,qAY]
      rw[eT];have aB:e≠G:=b_ (show Fre H4 G from hG) F4.top
      have av:(L.filter λn=>decide$ n∉D++FR)=ns.filter λn=>decide$ n∉D++FR:=by
       rw[<-hL,List.filter_filter];refine qBj λn _=>?_
       by_cases z:n∈D
       .have:n∈D++FR:=qAj _ z;rw[qAP λy=>y this];rfl
       .rw [qAJ z,Bool.and_true]
      refine⟨⟨G,D++FR,ai,S4,_,_,rF,Kp.new k4$ k4.fre (show Fre H4 G from hG) sS,F4.kp$ Kp.new Kp.refl hG,?_⟩,?_⟩
      .rw [<-av];exact ac
      .have m1:tj [some (V.ref l),some (.ref d),some (.ref e),some (.ref lf),o4,o5] H2=L.length:=by
        show(match H2 lf with|some (.lst xs)=>xs.length|_=>0)=_;rw[aa];simp
       have m2:∀o4 o5,tj [some (V.ref l),some (.ref d),some (.ref e),some (.ref G),o4,o5] (upd H4 G$ .lst$ (L.filter λn=>decide$ n∉D++FR).map V.str)=(L.filter λn=>decide$ n∉D++FR).length:=λo4 o5=>by
        show(match upd H4 G (.lst$ (L.filter λn=>decide$ n∉D++FR).map V.str) G with|some (.lst xs)=>xs.length|_=>0)=_;rw[ac];simp
       rw[m1];refine qBo (qC3$ m2 _ _) ?_;obtain⟨n,am⟩:=List.exists_mem_of_ne_nil FR al;have aw:=((ah n).mp am).1;exact iB aw$ qAP λz=>z$ qAr _ am
  .have cL:L=[]:=by
    cases L with
    |nil=>rfl
    |cons _ _=>exact absurd rF c
   refine⟨_,rF,k e D fa S H2 FP (λn ax=>?_) k2⟩;apply qBI;intro z;have:=(af n).mpr ⟨ax,z⟩;rw[cL]at this;exact nomatch this
end
def jf(r p e:Addr):List (Str×V):=eJ "above" (.ref e)$ eJ "pairs" (.ref p)$ eJ "row" (.ref r) []
theorem n8(r p e:Addr):(jf r p e).lookup ("row": Str)=some (.ref r):=by
 unfold jf;rw[zAv,qAC kK,zAv,qAC kK,zAv,qAD rF]
theorem tS(r p e:Addr):(jf r p e).lookup ("above": Str)=some (.ref e):=by
 unfold jf;rw[zAv,qAD rF]
theorem zL0(r p e:Addr){m:Str}(h1:¬m="above")(h2:¬m="pairs")(h3:¬m="row"):(jf r p e).lookup m=none:=by
 unfold jf;rw[zAv,qAC h1,zAv,qAC h2,zAv,qAC h3];rfl
structure JC(K:PySem.W.Frag)(mg:Str->Option Value)(C:Addr):Prop where
 cl:Cls K C
 n_row:zEo K C "row"
 n_pairs:zEo K C "pairs"
 n_above:zEo K C "above"
 mgC:mg "Jobs"=some (.ref C)
structure JR where
 dx:Addr
 r:Addr
 p:Addr
 e:Addr
 ns:List Str
 zs:List (List Str×Addr)
 D:List Str
 fa:Str->Addr
 S:Str->List Str
structure eI(C:Addr)(H:Hp)(j:Addr)(J:JR):Prop where
 ob:H j=some (.ins C J.dx$ jf J.r J.p J.e)
 row:Txs H J.r J.ns
 prs:gA H J.p J.zs
 abv:H J.e=some (.dK$ dT1 J.D λn=>.ref$ J.fa n)
 all:∀n∈J.ns,n∈J.D
 sets:∀n∈J.D,fM H (J.fa n) (J.S n)
 few:J.ns.length<=20
 zfew:J.zs.length<=63
 nd:J.ns.Nodup
 rise:(J.zs.map (·.1)).Pairwise λa b=>ST.tlt a b=true
 zin:∀q∈J.zs,∀x∈q.1,x∈J.ns
 mem:∀n∈J.ns,∀x,x∈J.S n↔x∈told J.zs n\/∃m∈told J.zs n,x∈J.S m
theorem eI.kp{M:List Addr}{C:Addr}{j:Addr}{J:JR}(A:eI C H j J)(k:Kp M H H')(h:∀a o,H a=some o->a∈M->a≠j/\a≠J.r/\a≠J.p/\a≠J.e/\(∀q∈J.zs,a≠q.2)/\∀n∈J.D,a≠J.fa n):eI C H' j J where
 ob:=k _ _ A.ob λz=>(h _ _ A.ob z).1 rF
 row:=k _ _ A.row λz=>(h _ _ A.row z).2.1 rF
 prs:=⟨k _ _ A.prs.top λz=>(h _ _ A.prs.top z).2.2.1 rF,λq O=>k _ _ (A.prs.row q O) λz=>(h _ _ (A.prs.row q O) z).2.2.2.2.1 q O rF,A.prs.two⟩
 abv:=k _ _ A.abv λz=>(h _ _ A.abv z).2.2.2.1 rF
 all:=A.all
 sets:=λn S=>k _ _ (A.sets n S) λz=>(h _ _ (A.sets n S) z).2.2.2.2.2 n S rF
 few:=A.few
 zfew:=A.zfew
 nd:=A.nd
 rise:=A.rise
 zin:=A.zin
 mem:=A.mem
theorem eI.kp0{C:Addr}{j:Addr}{J:JR}(A:eI C H j J)(k:Kp [] H H'):eI C H' j J:=A.kp k λ_ _ _ z=>nomatch z
section
inductive fO(C:Addr)(vs:List V)(H:Hp)(Q:VK)(u_3:XK):Prop
 |mk:∀(j:Addr)(J:JR),vs=[.ref j]->eI C H j J->(∀l H',Fre H l->Txs H' l J.ns->Kp [] H H'->Q (.ref l) H')->fO C vs H Q u_3
abbrev zEx:Stmt:=zDw (top 71) 1
theorem zK3:c_ ["self"] ["self"] (zAe zEx):=fnS
theorem zLq(F:Fun K "names" "Jobs.names" zEx f fd)(T:Txt K mg)(U:JC K mg C):eC P w K mg base CX0 1 f fd ["self"] (fO C):=by
 refine F.ok zK3 (λvs H Q E h=>?_) λW A O s H vs Q E hr h=>?_
 .obtain ⟨j,J,rfl,_⟩:=h;rfl
 .obtain ⟨j,J,rfl,S,k⟩:=h;refine⟨_,(zAd$ zAk$ zAz zDr rR T.z_list zHy$ zAa (zD2 (pv 0) rF) zAc),?_⟩;refine⟨_,rF,_,_,_,_,_,rF,S.ob,U.cl,U.n_row,n8 _ _ _,_,_,rF,.inl$ SqL.of S.row,λl V=>?_⟩;exact k l _ V ac$ Kp.new Kp.refl V
theorem vY{j:Addr}{J:JR}(A:eI C H j J)(O:y∈J.ns):eO H J.e (.str y) (some$ .ref$ J.fa y):=by
 have:=eO.k (k:=Sum.inr y) A.abv;rw[zB3,qAD$ A.all y O]at this;exact this
theorem jm{e:Addr}{B:List Str}(h:fM H e B)(x:Str):∃o,eO H e (.str x) o/\o.isSome=decide (x∈B):=⟨_,eO.k (k:=Sum.inr x) h,zE5 B _ x⟩
end
section
theorem vP{X:Cx}{K:PySem.W.Frag}{e:Expr}{f:Str}{pos:Pos}{ta:TE}(O:PE X e ta)(S:attributeBase e f X.env (eval e X.env)=eval e X.env)(V:X.K=K:=by rfl):PE X (.Attribute e f pos) (ye K ta f):=by
 subst V;exact zD2 O S
theorem zFn{p:α->Bool}{xs:List α}{x:α}(e:xs[i]?=some x)(h:p x=true):(xs.take$ i+1).filter p=(xs.take i).filter p++[x]:=by
 rw[zAh e,qBD,qA9,qAD h];rfl
theorem zHw{p:α->Bool}{xs:List α}{x:α}(e:xs[i]?=some x)(h:¬p x=true):(xs.take$ i+1).filter p=(xs.take i).filter p:=by
 rw[zAh e,qBD,qA9,qAC h];simp
theorem zG9{p:α->Bool}{xs:List α}(h:xs.length<=4096):(((xs.take i).filter p)).length<sizeLine:=by
 have h1:=qAq p$ xs.take i;rw[qAX]at h1;rw[qAM];lia
abbrev ux:Stmt:=zDw (top 71) 4
inductive gD(C:Addr)(vs:List V)(H:Hp)(Q:VK)(u_3:XK):Prop
 |mk:∀(j:Addr)(J:JR)(x:Str),vs=[.ref j,.str x]->eI C H j J->x∈J.ns->(∀l H',Fre H l->Txs H' l (J.ns.filter λn=>decide$ n∈J.S x)->Kp [] H H'->Q (.ref l) H')->gD C vs H Q u_3
abbrev zDo:Stmt:=zDw (top 71) 5
theorem zK4:c_ ["self","name"] ["self","name"] (zAe zDo):=fnS
theorem zLr(F:Fun K "ahead" "Jobs.ahead" zDo f fd)(T:Txt K mg)(U:JC K mg C)(S:Cal P w K mg base "check_job" 2 ["names","thing"] fS):eC P w K mg base CX0 3 f fd ["self","name"] (gD C):=by
 refine F.ok zK4 (λvs H Q E h=>?_) λab A aa s H vs Q E hr h=>?_
 .obtain ⟨j,J,x,rfl,_⟩:=h;rfl
 .obtain ⟨j,J,x,rfl,W,hx,k⟩:=h;have O:=hr;have hu:=zD3 hr
  refine⟨_,(zAb (zBb$ zAf S O rF$ zAa (zD2 (pv 0) rF)$ zAa (pv 1) zAc)$ zAd$ zAk$ zA6 rF (zBe (sc:=zAe zDo) rF kK) (d_.own (x:="other")$ dtk (i:=1) rF$ dtk (i:=0) rF d_.nil) (zAl$ zD2 (pv 0) rF) (λ_ _ _ _=>(pgB (i:=0))) (λ_ _ _ _=>(zB8$ zE0$ zH2 hu (pv 0)$ zBt hu (vP (K:=K) (pv 2) rF) (pv 1) λ_ _=>rfl)) λ_ _ _ _=>(pv 0)),?_⟩
  refine qI ?_;intro _ _;refine⟨_,rF,_,_,_,_,_,rF,W.ob,U.cl,U.n_row,n8 _ _ _,_,rF,x,_,_,rF,W.row,hx,?_⟩
  refine⟨_,rF,_,_,_,_,_,rF,W.ob,U.cl,U.n_row,n8 _ _ _,_,rF,⟨_,SqL.of W.row⟩,λB hB=>zBs (J.ns.map V.str) (λi ys τ H3=>(∃o0,τ=[o0,some (.str x),some (.ref j)])/\ys=((J.ns.take i).filter λn=>decide$ n∈J.S x).map V.str/\H3=upd H B (.lst ys)) ⟨⟨_,rF⟩,rF,rF⟩ (λi ys τ H3 ⟨_,_,z⟩=>by subst z;exact SqL.of$ (Kp.new (M:=[]) Kp.refl hB) _ _ W.row sS) ?_ ?_⟩
  .rintro i v ys τ H3 hv ⟨⟨o0,rfl⟩,rfl,rfl⟩;obtain⟨n,en,rfl⟩:=zBh hv;have A3:=W.kp0$ Kp.new (l:=B) (o:=.lst$ ((J.ns.take i).filter λn=>decide$ n∈J.S x).map V.str) Kp.refl hB;obtain⟨o,g1,g2⟩:=jm (A3.sets x$ A3.all x hx) n;refine⟨_,rF,_,rF,_,_,_,_,_,rF,A3.ob,U.cl,U.n_above,tS _ _ _,_,rF,_,_,rF,vY A3 hx,_,o,rF,g1,_,rF,?_⟩;rw[g2];refine eU (λc=>?_) λc=>?_
   .refine ⟨_,rF,ac,?_,⟨_,rF⟩,?_,zBm⟩
    .rw [qAB];exact zG9 (by have:=W.few;lia)
    .rw [zFn en c,qAI];rfl
   .refine ⟨⟨_,rF⟩,?_,?_⟩
    .rw [zHw en c]
    .rfl
  .rintro ys τ H3 ⟨_,rfl,rfl⟩;have eT:J.ns.take (J.ns.map V.str).length=J.ns:=by rw[qAB,qAY]
   rw[eT];exact k B _ hB ac$ Kp.new Kp.refl hB
end
end My
namespace Tim
open PySem PyProof.Rows
section
variable{prog:Program}{w:World}{A:Around}{E:Value->Shared->Prop}{s:Shared}{kd:SortKind}{κ:KeyKind}{a₀:Array Keyed}
theorem w_sortS{st:SortSt}{Q:Unit->SortSt->Prop}(C:CmpOk prog w A s kd κ)(ha:∀x∈a₀.toList,Has κ x)(hk:kindOf st=kd)(hf:failedOf st=none)(hp:(arrOf st).Perm a₀)(aa:pendingOf st=#[])(h1:1<=a₀.size)(h64:a₀.size<64)
  (h:∀S,failedOf S=none->(arrOf S).Perm a₀->Srt κ (arrOf S).toList->Q () S):wpS (model prog w) A E s sortRuns' Q st:=by
 have hz:(arrOf st).size=a₀.size:=hp.size_eq;have mr:∀n,n<64->minRun' n n 0=n:=kK
 refine qAl$ wpS_get ?_
 refine qAl$ wpS_mono (qCG (I:=λx c S=>(c=((none,0):Option Unit×Nat)/\x=0/\S=st)\/(c=(none,a₀.size)/\(pendingOf S).size<=1/\failedOf S=none/\(arrOf S).Perm a₀/\Srt κ (arrOf S).toList)) (Q:=λc S=>c=((none,a₀.size):Option Unit×Nat)/\(pendingOf S).size<=1/\failedOf S=none/\(arrOf S).Perm a₀/\Srt κ (arrOf S).toList) ?step ?fin$ .inl ⟨rF,rF,rF⟩) ?post
 case fin=>
  rintro c S (⟨_,z,_⟩|z)
  .have:max 0 (arrOf st).size=0:=z;lia
  .exact z
 case step=>
  rintro x c O _ hx (⟨rfl,rfl,rfl⟩|⟨rfl,z⟩)
  .show wpS _ _ _ _ (if 0>=(arrOf O).size then _ else _) _ _;rw[qAC lL];have al:All κ O:=λx hx=>ha x$ (qDA.mp hp).mem_iff.mp hx
   have fin:∀(n:Nat)(V:SortSt),n=a₀.size->Fr 0 O V->Up κ V 0 n->(((none,0+n):Option Unit×Nat)=(none,0)/\0+1=0/\setPending V ((pendingOf V).push (0,n,0))=O)\/(((none,0+n):Option Unit×Nat)=(none,a₀.size)/\(pendingOf$ setPending V$ (pendingOf V).push (0,n,0)).size<=1/\failedOf (setPending V$ (pendingOf V).push (0,n,0))=none/\(arrOf$ setPending V$ (pendingOf V).push (0,n,0)).Perm a₀/\Srt κ (arrOf$ setPending V$ (pendingOf V).push (0,n,0)).toList):=by
    intro n V en f u;subst en;have ad:(arrOf V).size=a₀.size:=f.size.trans hz;refine .inr ⟨by rw[Nat.zero_add],?_,f.fl.trans hf,f.perm.trans hp,?_⟩
    .show ((pendingOf V).push (0,a₀.size,0)).size<=1;rw[f.pn,aa];simp
    .have q:=(xZ (κ:=κ) (st:=V) (lo:=0) (n:=a₀.size) lL).mp u;unfold seg at q;rw[List.drop_zero,qBC$ by simp;lia]at q;exact q
   refine qAl$ u4 C hk al (nrem:=(arrOf O).size-0) lL lL λm W f2 m1 m2 u2=>?_
   by_cases c1:m<minRun' (arrOf O).size (arrOf O).size 0
   .refine (show wpS _ _ _ _ (if m<minRun' (arrOf O).size (arrOf O).size 0 then _ else _) _ _ from ?_);rw[qAD c1];refine qAl$ wpS_lift$ qCj ⟨rF,?_⟩;have em:min ((arrOf O).size-0) (minRun' (arrOf O).size (arrOf O).size 0)=a₀.size:=by rw[mr _ lL];lia
    refine qAl$ yy (n:=min ((arrOf O).size-0)$ minRun' (arrOf O).size (arrOf O).size 0) C (f2.kd.trans hk) (al.fr f2) (by rw[f2.size];lia) lL m1 u2 λV f3 u3=>?_;show wpS _ _ _ _ (if false=true then _ else _) _ _;rw[qAC dD];refine qAl$ wpS_get ?_;have ab:=f2.trans f3;rcases hb:(pendingOf V).back? with _|⟨s1,q1,t1⟩
    case some=>rw[ab.pn,aa]at hb;exact nomatch hb
    exact qAl$ wpS_modify$ qAu$ fin _ V em ab u3
   .refine (show wpS _ _ _ _ (if m<minRun' (arrOf O).size (arrOf O).size 0 then _ else _) _ _ from ?_);rw[qAC c1];rw[mr _ lL]at c1;refine qAl$ wpS_get ?_;rcases hb:(pendingOf W).back? with _|⟨s1,q1,t1⟩
    case some=>rw[f2.pn,aa]at hb;exact nomatch hb
    exact qAl$ wpS_modify$ qAu$ fin _ W lL f2 u2
  .show wpS _ _ _ _ (if a₀.size>=(arrOf st).size then _ else _) _ _;rw[qAD lL];exact qAu ⟨rF,z⟩
 case post=>
  rintro c O ⟨rfl,z1,z2,z3,z4⟩;refine qAl$ wpS_mono (qCG (I:=λx c S=>c=(none,())/\S=O) (Q:=λc S=>c=((none,()):Option Unit×Unit)/\S=O) ?s3 ?f3 ⟨rF,rF⟩) ?p3
  case f3=>exact λc S h=>h
  case p3=>
   rintro c S ⟨rfl,rfl⟩;exact qAu$ h S z2 z3 z4
  case s3=>
   rintro y c W _ hy ⟨rfl,rfl⟩;refine qAl$ wpS_get ?_;show wpS _ _ _ _ (if(pendingOf W).size<=1 then _ else _) _ _;rw[qAD z1];exact qAu ⟨rF,rF⟩
end
end Tim
namespace ST
open PySem PyProof.Rows PySem.W
section
variable{prog:Program}{w:World}{A:Around}{E:Value->Shared->Prop}{s:Shared}
theorem rP{κ:PyProof.Rows.KeyKind}{kd:SortKind}{a:Addr}{vs:List Value}{n:Nat}{P:Fin->Shared->Prop}(V:s.heap.get? a=some (seqObj "list" vs.toArray n))(hz:vs.length<64)
  (hS:∀h',(∀b o,b≠a->s.heap.get? b=some o->h'.get? b=some o)->hZ prog w A κ kd vs {s with heap:=h'})
  (h:∀out:Array Value,out.toList.Perm vs->(out.toList.Pairwise λx y=>κ.kle ((κ.keyOf x).getD κ.dflt)$ (κ.keyOf y).getD κ.dflt)->P (.done$ .ret .none) {s with heap:=sortedHeap s.heap a vs out}) :
  wpAny (model prog w) A (Builtin.«list.sort» ⟨[.ref a],[]⟩) P E s:=by
 rw[list_sort_plain];have aa:(4096:Nat)<=sizeLine:=kK
 have ha:a<s.heap.objs.size:=qAW V;have hsz:vs.toArray.size=vs.length:=sS
 refine qAA$ listItems_at V rF ?_;refine qAA$ listUpdate_at V rF ?_ lL$ qAm _;have h1:(s.heap.update a$ Obj.mapSeq λ_=>#[]).get? a=some (seqObj "list" #[] _):=get?_update_seq V λ_=>#[];refine qAA$ seqEpoch_at h1 rF ?_;refine qAA (qDM ?_$ by show vs.toArray.toList.length<=_;simp;lia);refine qAA$ wpAny_newList ?_$ qAm _;refine qBF ?_;have h6:=qAL (seqObj "list" #[] 0)$ qAL (seqObj "tuple" vs.toArray 0) h1;change wpAny (model prog w) A _ P E {s with heap:=((s.heap.update a$ Obj.mapSeq λ_=>#[]).push$ seqObj "tuple" vs.toArray 0).push (seqObj "list" #[] 0)};dsimp only
 have S6:=hS (((s.heap.update a$ Obj.mapSeq λ_=>#[]).push$ seqObj "tuple" vs.toArray 0).push$ seqObj "list" #[] 0) λb o hb q=>by
  refine qAL _$ qAL _ ?_;rw[qCa _ _$ qAo hb];exact q
 by_cases c:vs.toArray.size<2
 .rw [qAD c,qAD c];refine qAA$ qAE ?_;rw[StateT.run_pure];refine qAA$ qAE ?_;dsimp only;refine qAA$ seqEpoch_at h6 rF ?_;refine qAA (listUpdate_at h6 rF ?_ (qAm _)$ by rw[Array.size_map];show(pairsOf vs).size<=_;rw[pairsOf_size];lia);simp only[bne_self_eq_false,Bool.false_eq_true,qCC];have e:(arrOf$ SortSt.mk' general' (vs.toArray.zip vs.toArray) #[] 7 none).Perm (pairsOf vs):=Array.Perm.refl _;refine qAE$ h _ (zId e) ?_;exact sJ (by rw[(zId e).length_eq];lia)
 .rw [qAC c,qAC c];refine qAA$ S6.kind lL _ _ ?_
  have W:=Tim.w_sortS (E:=E) (a₀:=pairsOf vs) (st:=SortSt.mk' kd (vs.toArray.zip vs.toArray) #[] 7 none) (Q:=λ_ S=>failedOf S=none/\(arrOf S).Perm (pairsOf vs)/\Tim.Srt κ (arrOf S).toList) S6.cmp (λp hp=>by
   rw[pairsOf_toList]at hp;exact S6.has _ (mem_zip_self hp).2) rF rF (Array.Perm.refl _) rF (by rw[pairsOf_size];lia) (by rw[pairsOf_size];lia) λS q1 O q3=>⟨q1,O,q3⟩
  refine qAA$ qA3 W ?_ λ_ _ e=>e;rintro⟨⟨⟩,S⟩ s' ⟨rfl,q1,O,q3⟩;dsimp only;refine qAA$ seqEpoch_at h6 rF ?_;have zz:=(zId O).length_eq;refine qAA (listUpdate_at h6 rF ?_ (qAm _)$ by simp at zz ⊢;lia);rw[q1];simp only[bne_self_eq_false,Bool.false_eq_true,qCC];exact qAE$ h _ (zId O)$ uy O q3
theorem w_sortedCS{κ:PyProof.Rows.KeyKind}{kd:SortKind}{v:Value}{Q:Value->Shared->Prop}{J:List Value->Shared->Prop}(W:wpAny (model prog w) A.in1 (collect v) J E s)
  (hJ:∀vs S,J vs S->vs.length<64/\(∀h',Up S.heap h'->hZ prog w A.in1.in1 κ kd vs {S with heap:=h'}) /\
   ∀(out:List Value) c h',out.Perm vs->(out.Pairwise λx y=>κ.kle ((κ.keyOf x).getD κ.dflt)$ (κ.keyOf y).getD κ.dflt)->h'.get? S.heap.objs.size=some (seqObj "list" out.toArray c)->Up S.heap h'->Q (.ref S.heap.objs.size) {S with heap:=h'}) :
  wpAny (model prog w) A (call (.builtin "sorted") [v]) Q E s:=by
 refine Calls.call_function_entry kind_sorted plain_sorted entry_sorted (args_sorted1 _) ?_;unfold Builtin.«sorted»;refine qAA (m:=checkCount "sorted" 1 1 _)$ qAE ?_;refine qAA$ qA3 W (λvs S j=>?_) λ_ _ x=>x;obtain⟨j1,j2,j3⟩:=hJ vs S j;have aa:(4096:Nat)<=sizeLine:=kK
 refine qAA$ wpAny_newList ?_ lL;have O:(S.heap.push$ seqObj "list" vs.toArray 0).get? S.heap.objs.size=some (seqObj "list" vs.toArray 0):=qAg _ rF;change wpAny _ _ _ _ _ {S with heap:=S.heap.push (seqObj "list" vs.toArray 0)};have V:∀b o,S.heap.get? b=some o->b≠S.heap.objs.size:=λb o q=>qAe$ qAW q;refine qAA$ qBF$ qBL slot_list_sort ⟨_,O,rF⟩ entry_list_sort ?body$ args_list_sort _
 case body=>
  refine rP (s:={S with heap:=S.heap.push (seqObj "list" vs.toArray 0)}) O j1 (λh' q=>j2 h' λb o e=>q b o (V b o e)$ qAL _ e) λout p1 p2=>?_;obtain⟨⟨c,g1⟩,g2⟩:=rW (out:=out) O;refine⟨_,rF,qAE ⟨_,rF,j3 out.toList c _ p1 p2 (by simpa using g1) λb o e=>g2 b o (V b o e)$ qAL _ e⟩⟩
end
end ST
namespace L2
open PySem PySem.Spec PyProof.Rows
section
variable{X:Cx}{pins:List (Addr×Obj)}{s:Shared}{σ:St}{H:Hp}
theorem zJ7{k:Nat}(hr:eR k X.A):zC4 X (.builtin "sorted") (λxs H Q=>∃(a:Addr) (ys:List (List Str×Addr)),xs=[.ref a]/\H a=some (TSt X.prog X.w a ys)/\(∀p∈ys,r9 X.K H p)/\(∀p∈ys,p.1≠[])/\ys.length<=63 /\ ∀b zs,H b=none->zs.Perm ys->sw zs->Q (.ref b) (upd H b$ .lst$ zs.map λp=>V.ref p.2)):=by
 intro pins s σ H xs us Q I r h;obtain⟨a,ys,rfl,ha,hk,aa,hc,q⟩:=h;obtain⟨u,rfl,rx⟩:=zHg r
 cases rx
 obtain⟨⟨o,es,ep,t,z1,z2,z3,z4,z5,z6,z7,z8⟩,_⟩:=I.hok a _ ha;have Z:ST.SetX (PySem.strKind X.prog X.w) s.heap a ys o es ep t:=⟨z1,z2,z3,z4,z5,z6,z7,λp O=>I.rowT$ hk p O,z8⟩
 refine ST.w_sortedCS (kd:=tuples' true) (κ:=ST.tupK λb=>(ys.find? λp=>p.2==b).map (·.1))
  (J:=λvs S=>vs.Perm (ys.map λp=>Value.ref p.2)/\(∀b o,s.heap.get? b=some o->S.heap.get? b=some o)/\S.gens=s.gens/\S.os=s.os)
  (ST.w_collect (A:=X.A.in1) hr.hd Z (qAR hc dD) λs' vs W v2 v3 v4 _=>⟨W,v2,v3,v4⟩) λvs S ⟨W,v2,v3,v4⟩=>?_
 have ab:vs.length=ys.length:=by rw[W.length_eq,qAB]
 refine⟨lL,λh' up=>ST.tups_sortable W (λp O=>ST.key_kept (I.rowT$ hk p O) λo e=>up _ o$ v2 _ o e) aa,λout c h' p1 p2 p3 up=>?_⟩;obtain⟨zs,e1,e2⟩:=qS _$ p1.trans W;subst e2;have I1:Inv X pins σ H S:=I.call' (ch:=[]) v4 (Un.kept v2) (I.hok.kept v2) (by rw[v3];exact I.bare) (λ_ z=>nomatch z)
 have hz:(zs.map λp=>V.ref p.2).length<=sizeLine:=by
  rw[qAB,e1.length_eq];exact qAR hc kK
 exact⟨.ref S.heap.objs.size,_,I1.laid (t':=S.toks) up (qAF _)$ show zBk X.prog X.w _ h' _ (.lst$ zs.map λp=>V.ref p.2) from⟨hz,_,c,i_ zs,p3⟩,rF,q _ zs (I1.hok.fresh$ qAF _) e1$ uS (h:=s.heap) e1 (λp O=>I.rowT$ hk p O) p2⟩
end
end L2
namespace My
open PySem L2
variable{P:Program}{w:World}{K:PySem.W.Frag}{mg:Str->Option Value}{base:Heap}{C:Addr}
variable{X:Cx}{n x:Str}{qs:List (List Str×Addr)}{f C d:Addr}{fd:FuncData}{H H' H0:Hp}{ns:List Str}{v:V}{sp:Sp}{J:JR}
theorem zIi(f:Str)(v:V):∀fs:List (Str×V),(eJ f v fs).length<=fs.length+1
 |[]=>qAF _
 |(g,x)::r=>by
  unfold eJ;split
  .exact qBl _
  .have:=zIi f v r;simp only[qAd];lia
theorem nJ{P:Program}{w:World}{K:PySem.W.Frag}{k:Nat}(O:eR k X.A)(S:X.prog=P:=by rfl)(hw:X.w=w:=by rfl)(W:X.K=K:=by rfl):zC4 X (.type "set") (λxs H Q=>∃(l:Addr) (ks:List (List Str×Addr)),xs=[.ref l]/\SqL K H l (ks.map λp=>V.ref p.2)/\(∀p∈ks,r9 K H p)/\ks.length<=306 /\ ∀a ys,H a=none->(∀p∈ys,p∈ks)->(∀p∈ks,p.1∈ys.map (·.1))->(ys.map (·.1)).Nodup->ys.length<=ks.length->Q (.ref a) (upd H a$ TSt P w a ys)):=by
 subst S hw W;exact qF O
theorem zJ8{P:Program}{w:World}{K:PySem.W.Frag}{k:Nat}(O:eR k X.A)(S:X.prog=P:=by rfl)(hw:X.w=w:=by rfl)(W:X.K=K:=by rfl):zC4 X (.builtin "sorted") (λxs H Q=>∃(a:Addr) (ys:List (List Str×Addr)),xs=[.ref a]/\H a=some (TSt P w a ys)/\(∀p∈ys,r9 K H p)/\(∀p∈ys,p.1≠[])/\ys.length<=63 /\ ∀b zs,H b=none->zs.Perm ys->sw zs->Q (.ref b) (upd H b$ .lst$ zs.map λp=>V.ref p.2)):=by
 subst S hw W;exact zJ7 O
theorem zJa{K:PySem.W.Frag}{es:List Expr}{k:Nat}{t:TGs}{n:Nat}{pos:Pos}(S:X.calm=true)(h:PGs X es t)
  (V:(assignEach es X.env).length=n:=by rfl) (O:(assignEach es X.env).findIdx? (·.1)=none:=by rfl) (W:X.K=K:=by rfl):PG X (.Tuple es k pos) (xC K n t):=by
 subst W;exact zEm S h V O
theorem zIo :x∈told qs n↔∃q∈qs,snd q=n/\fst q=x:=by
 unfold told;simp only[qAG,qAc,qA1];exact⟨λ⟨q,⟨a,b⟩,c⟩=>⟨q,a,b,c⟩,λ⟨q,a,b,c⟩=>⟨q,⟨a,b⟩,c⟩⟩
theorem hX{q O:List Str×Addr}(h:q.1=O.1):fst q=fst O/\snd q=snd O:=by unfold fst snd;rw[h];exact⟨rF,rF⟩
section
structure gn(ns:List Str)(qs:List (List Str×Addr))(r:Str->Nat):Prop where
 nm:∀n∈ns,zBg n
 nd:ns.Nodup
 few:ns.length<=20
 qfew:qs.length<=63
 qin:∀q∈qs,∀x∈q.1,x∈ns
 rk:∀q∈qs,r (fst q)<r (snd q)
structure zo(H:Hp)(J:JR):Prop where
 r:Fre H J.r
 p:Fre H J.p
 e:Fre H J.e
 z:∀q∈J.zs,Fre H q.2
 s:∀n∈J.D,Fre H (J.fa n)
inductive gY(C:Addr)(vs:List V)(H:Hp)(Q:VK)(u_3:XK):Prop
 |mk:∀(x dx l m:Addr)(ns:List Str) (qs:List (List Str×Addr)) (r:Str->Nat),vs=[.ref x,.ref l,.ref m]->H x=some (.ins C dx [])->Txs H l ns->gA H m qs->gn ns qs r->(∀J H',eI C H' x J->zo H J->J.ns=ns->(∀k,k∈J.zs.map (·.1)↔k∈qs.map (·.1))->Kp [x] H H'->Q .non H')->gY C vs H Q u_3
abbrev zCf:Stmt:=zDw (top 71) 0
theorem zH9:c_ ["self","names","orders"] ["self","names","orders"] (zAe zCf):=fnS
theorem kh(F:Fun K "__init__" "Jobs.__init__" zCf f fd)(T:Txt K mg)(U:JC K mg C)(ad:Cal P w K mg base "check_names" 2 ["names"] fU)(ae:Cal P w K mg base "check_parts" 3 ["names","orders"] fT)
  (aj:Cal P w K mg base "all_ahead" 2 ["names","told"] gc) (af:Cal P w K mg base "told_ahead" 1 ["names","orders"] f_):eC P w K mg base CX0 4 f fd ["self","names","orders"] (gY C):=by
 refine F.ok zH9 (λvs H Q E h=>?_) λaU A aL s H vs Q E hr h=>?_
 .obtain ⟨x,dx,l,m,ns,qs,r,rfl,_⟩:=h;rfl
 .obtain ⟨x,dx,l,m,ns,qs,r,rfl,hx,hl,hm,G,k⟩:=h;have aa:=hr;have ab:=hr.mono (j:=2) dD;have ag:=hr.mono (j:=2) dD;have O:=hr.mono (j:=1) dD
  refine⟨_,(zAb (zBb$ zAf ad ab rF$ zAa (pv 1) zAc) (zAb (zBb$ zAf ae aa rF$ zAa (pv 1)$ zAa (pv 2) zAc)
   (zAb (zGv (pv 0) (zAz zDr rR T.z_list zHy$ zAa (pv 1) zAc) rF)
   (zAb (zGv (pv 0) (zAn (zJ8 (P:=P) (w:=w) (K:=K) O) rR T.z_sorted qM$ zAa (zAz (nJ (P:=P) (w:=w) (K:=K) O) rR T.z_set wG$ zAa (zA6 rF (zBe (sc:=zAe zCf) rF kK) (d_.own (x:= "one")$ d_.own (x:= "other") d_.nil) (zAl$ pv 2) (fun _ _ _ _=>(zJa (K:=K) (n:=2) rF$ zAr (pgB (i:=0))$ zAr (pgB (i:=1)) zBz)) (fun _ _ _ _=>zBq) fun _ _ _ _=>(zCl$ zAa (pv 0)$ zAa (pv 1) zAc)) zAc) zAc) rF)$ zAd$ zGv (pv 0) (zAf aj ag rF$ zAa (zD2 (pv 0) rF)$ zAa (zAf af O rF$ zAa (zD2 (pv 0) rF)$ zAa (zD2 (pv 0) rF) zAc) zAc) rF)))),?_⟩
  refine wN ?_;intro _ _ _ _ _;refine⟨_,rF,l,ns,rF,hl,G.few,G.nm,G.nd,λH1 k1=>?_⟩;have am:=hm.kp k1 sS sS;refine⟨_,rF,_,rF,l,m,ns,qs,rF,k1 l _ hl sS,am,G.qin,?_⟩;have ax:=k1 x _ hx sS;refine⟨_,rF,_,_,rF,.inl$ SqL.of$ k1 l _ hl sS,λr1 ap=>?_⟩;have ay:x≠r1:=b_ ap ax;refine⟨_,rF,_,_,_,_,rF,(a_ ay).trans ax,U.cl,U.n_row,dD,?_⟩
  have an:∀o1 o2,gA (upd (upd H1 r1 o1) x o2) m qs:=λo1 o2=>
   ⟨(a_$ zAu am.top ax λz=>nomatch z).trans$ (a_$ b_ ap am.top).trans am.top,λq W=>(a_$ zAu (am.row q W) ax λz=>nomatch z).trans$ (a_$ b_ ap$ am.row q W).trans$ am.row q W,am.two⟩
  have ak:∀o2,Txs (upd (upd H1 r1$ .lst$ ns.map V.str) x o2) r1 ns:=λo2=>(a_ ay.symm).trans ac;have k2:∀o1 o2,Kp [x] H (upd (upd H1 r1 o1) x o2):=λo1 o2=>Kp.put (Kp.new (k1.weak sS)$ k1.fre ap sS) sS;have aq:∀o1 o2,(upd (upd H1 r1 o1) x o2) x=some o2:=λo1 o2=>ac;have an:=an (.lst$ ns.map V.str)$ .ins C dx$ eJ "row" (.ref r1) [];have ak:=ak$ .ins C dx$ eJ "row" (.ref r1) [];have k2:=k2 (.lst$ ns.map V.str)$ .ins C dx$ eJ "row" (.ref r1) [];have aq:=aq (.lst$ ns.map V.str)$ .ins C dx$ eJ "row" (.ref r1) [];generalize aV:upd (upd H1 r1$ .lst$ ns.map V.str) x (.ins C dx$ eJ "row" (.ref r1) [])=H2 at an ak k2 aq ⊢
  refine⟨_,rF,_,rF,⟨_,SqL.of an.top⟩,λB hB=>zA8 (qs.map λq=>V.ref q.2) (λi ys τ H3=>∃ks:List (List Str×Addr),(∃o0 o1,τ=[o0,o1])/\ys=(ks.map λq=>V.ref q.2)/\ks.map (·.1)=(qs.take i).map (·.1)/\(∀q∈ks,H3 q.2=some (.tup$ q.1.map V.str))/\(∀q∈ks,Fre H2 q.2)/\Kp [] H2 H3/\H3 B=some (.lst ys)) ⟨[],⟨_,_,rF⟩,rF,rF,(λq h=>nomatch h),(λq h=>nomatch h),Kp.new Kp.refl hB,ac⟩ (λi ys τ H3 ⟨_,_,_,_,_,_,k3,_⟩=>SqL.of$ k3 m _ an.top sS) ?_ ?_⟩
  .rintro i v ys τ H3 hv ⟨ks,⟨o0,o1,rfl⟩,rfl,ek,hk,fk,k3,h3⟩;obtain⟨q,eq,rfl⟩:=g9 hv;have mq:=qAN eq;obtain⟨a,b,az⟩:=an.two q mq
   have aG:H3 q.2=some (.tup [.str a,.str b]):=by
    have:=k3 q.2 _ (an.row q mq) sS;rw[az]at this;exact this
   refine⟨_,_,rF,.inl$ .inl aG,rF,_,_,rF,_,_,rF,rF,?_⟩;have ar:ks.length=(qs.take i).length:=by have:=qAf List.length ek;simpa using this
   refine⟨_,rF,_,rF,(by walk_at"ln"),λt ht=>?_⟩;have ft:Fre H3 t:=ht;have aH:B≠t:=b_ ft h3;refine⟨(a_ aH).trans h3,?_,ks++[([a,b],t)],⟨_,_,rF⟩,?_,?_,λq' as=>?_,λq' as=>?_,?_,?_⟩
   .rw [qAB,ar,qAX,qAM];have:=G.qfew;lia
   .rw [qAI];rfl
   .rw [qAI,ek,zAh eq,qAI,qAi,qAi,az]
   .rcases qAK.mp as with z|z
    .exact (a_$ zAu (hk q' z) h3 λy=>nomatch y).trans$ (a_$ b_ ft$ hk q' z).trans$ hk q' z
    .rw [qAH.mp z];exact(a_ aH.symm).trans ac
   .rcases qAK.mp as with z|z
    .exact fk q' z
    .rw [qAH.mp z];exact k3.fre ft sS
   .exact Kp.new (Kp.new k3$ k3.fre ft sS) hB
   .exact ac
  .rintro ys τ H3 ⟨ks,_,rfl,ek,hk,fk,k3,h3⟩;have eT:qs.take (qs.map λq=>V.ref q.2).length=qs:=by rw[qAB,qAY]
   rw[eT]at ek;have ar:ks.length=qs.length:=by have:=qAf List.length ek;simpa using this
   have aC:∀q∈ks,∃a b,q.1=[a,b]:=λq W=>by
    have:q.1∈ks.map (·.1):=qAG.mpr ⟨q,W,rF⟩;rw[ek]at this;obtain⟨q',as,e⟩:=qAG.mp this;rw[<-e];exact an.two q' as
   refine⟨B,ks,rF,SqL.of h3,λq W=>.inl$ .inl$ hk q W,by rw[ar];have:=G.qfew;lia,λsa yk aM y1 y2 y3 y4=>?_⟩;have aA:Fre H3 sa:=aM;refine⟨sa,yk,rF,ac,λq W=>.inl$ .inl$ (a_$ b_ aA$ hk q$ y1 q W).trans$ hk q$ y1 q W,λq W=>?_,by have:=G.qfew;lia,λp zs hp z1 z2=>?_⟩
   .obtain ⟨a,b,e⟩:=aC q$ y1 q W;rw[e];simp
   have fp:Fre (upd H3 sa$ TSt P w sa yk) p:=hp;have zk:∀q∈zs,q∈ks:=λq W=>y1 q$ z1.mem_iff.mp W
   have zq:∀q∈zs,∃q'∈qs,q'.1=q.1:=λq W=>by
    have:q.1∈ks.map (·.1):=qAG.mpr ⟨q,zk q W,rF⟩;rw[ek]at this;exact qAG.mp this
   have aD:∀q∈zs,∀x∈q.1,x∈ns:=λq W x hx=>by
    obtain⟨q',h1,h2⟩:=zq q W;exact G.qin q' h1 x (by rw[h2];exact hx)
   have aN:∀q∈zs,r (fst q)<r (snd q):=λq W=>by
    obtain⟨q',h1,h2⟩:=zq q W;obtain⟨e1,e2⟩:=hX h2;rw[<-e1,<-e2];exact G.rk q' h1
   have aI:zs.length<=63:=by rw[z1.length_eq];have:=G.qfew;lia
   have z3:(zs.map (·.1)).Pairwise λa b=>ST.tlt a b=true:=ST.strict_of (qB0.mpr z2)$ (z1.map (·.1)).nodup_iff.mpr y3
   have aJ:∀k,k∈zs.map (·.1)↔k∈qs.map (·.1):=λk=>by
    rw[<-ek,(z1.map (·.1)).mem_iff]
    exact⟨λh=>by
     obtain⟨q,h1,h2⟩:=qAG.mp h;exact qAG.mpr ⟨q,y1 q h1,h2⟩,λh=>by
     obtain⟨q,h1,h2⟩:=qAG.mp h;rw[<-h2];exact y2 q h1⟩
   have k4:Kp [] H2 (upd (upd H3 sa$ TSt P w sa yk) p$ .lst$ zs.map λq=>V.ref q.2):=by
    have h1:Kp [] H2 (upd H3 sa$ TSt P w sa yk):=Kp.new k3$ k3.fre aA sS;exact Kp.new h1$ h1.fre fp sS
   have ah:gA (upd (upd H3 sa$ TSt P w sa yk) p$ .lst$ zs.map λq=>V.ref q.2) p zs:=⟨ac,λq W=>by
    have h1:upd H3 sa (TSt P w sa yk) q.2=some (.tup$ q.1.map V.str):=(a_$ b_ aA$ hk q$ zk q W).trans$ hk q$ zk q W;exact(a_$ b_ fp h1).trans h1,λq W=>aC q$ zk q W⟩
   generalize aW:upd (upd H3 sa$ TSt P w sa yk) p (.lst$ zs.map λq=>V.ref q.2)=H4 at k4 ah ⊢;have aE:=k4 x _ aq sS;refine⟨_,rF,_,_,_,_,rF,aE,U.cl,U.n_pairs,(by have:=zIi "row" (V.ref r1) [];simp only[qBS]at this;lia),?_⟩;have ao:(upd H4 x$ .ins C dx$ eJ "pairs" (.ref p)$ eJ "row" (.ref r1) []) x=some (.ins C dx$ eJ "pairs" (.ref p)$ eJ "row" (.ref r1) []):=ac;have al:Txs (upd H4 x$ .ins C dx$ eJ "pairs" (.ref p)$ eJ "row" (.ref r1) []) r1 ns:=(a_ ay.symm).trans$ k4 r1 _ ak sS;have ai:gA (upd H4 x$ .ins C dx$ eJ "pairs" (.ref p)$ eJ "row" (.ref r1) []) p zs:=⟨(a_$ zAu ah.top aE λz=>nomatch z).trans ah.top,λq W=>(a_$ zAu (ah.row q W) aE λz=>nomatch z).trans$ ah.row q W,ah.two⟩;have k5:Kp [x] H (upd H4 x$ .ins C dx$ eJ "pairs" (.ref p)$ eJ "row" (.ref r1) []):=Kp.put (k2.trans$ k4.weak sS) sS;generalize aO:upd H4 x (.ins C dx$ eJ "pairs" (.ref p)$ eJ "row" (.ref r1) [])=H5 at ao al ai k5 ⊢
   have au:(eJ "pairs" (.ref p)$ eJ "row" (.ref r1) []).lookup ("row": Str)=some (.ref r1):=by
    rw[zAv,qAC kK,zAv,qAD rF]
   have aF:(eJ "pairs" (.ref p)$ eJ "row" (.ref r1) []).lookup ("pairs": Str)=some (.ref p):=by
    rw[zAv,qAD rF]
   refine⟨_,rF,_,_,_,_,_,rF,ao,U.cl,U.n_row,au,_,rF,_,_,_,_,_,rF,ao,U.cl,U.n_row,au,_,rF,_,_,_,_,_,rF,ao,U.cl,U.n_pairs,aF,r1,p,ns,zs,rF,al,ai,G.nd,G.few,lL,aD,λd la H6 DD k6=>?_⟩;refine⟨r1,d,ns,la,told zs,r,rF,k6 r1 _ al sS,G.nd,G.few,DD.top,λn hn=>⟨DD.row n hn,qAR (kT zs n) lL,λy hy=>?_⟩,λe D fa S H7 FF all k7=>?_⟩
   .obtain ⟨q,h1,h2,h3⟩:=zIo.mp hy;obtain⟨a,b,az⟩:=ai.two q h1;refine⟨?_,by rw[<-h2,<-h3];exact aN q h1⟩;rw[<-h3];refine aD q h1 _ ?_;unfold fst;rw[az];simp
   have av:Kp [] H5 H7:=k6.trans k7;have aw:=av x _ ao sS;refine⟨_,rF,_,_,_,_,rF,aw,U.cl,U.n_above,?_,?_⟩
   .have h1:=zIi "row" (V.ref r1) [];have h2:=zIi "pairs" (V.ref p)$ eJ "row" (V.ref r1) [];simp only[qBS]at h1;lia
   have aB:∀a,Fre H2 a->Fre H a:=λa ha=>k2.fre ha (nm1 λz=>by
    subst z;have:H2 a=some _:=aq;unfold Fre at ha;rw[ha]at this;exact nomatch this)
   have aP:Kp [] H2 (upd H3 sa$ TSt P w sa yk):=Kp.new k3$ k3.fre aA sS;have aQ:Fre H2 p:=aP.fre fp sS
   have aK:∀a,Fre H5 a->Fre H2 a:=λa ha=>by
    have h1:Fre H4 a:=by
     have aR:a≠x:=λz=>by
      subst z;unfold Fre at ha;rw[ha]at ao;exact nomatch ao
     have:H5 a=H4 a:=by rw[<-aO];exact a_ aR
     unfold Fre at ha ⊢;rw[<-this];exact ha
    exact k4.fre h1 sS
   have aS:Fre H2 e:=aK e$ k6.fre FF.fr sS;have aT:∀n∈D,Fre H2 (fa n):=λn hn=>aK _$ k6.fre (FF.frs n hn) sS;refine k ⟨dx,r1,p,e,ns,zs,D,fa,S⟩ _ ⟨ac,?_,⟨?_,λq W=>?_,ai.two⟩,?_,all,λn hn=>?_,G.few,aI,G.nd,z3,aD,λn hn y=>FF.mem n (all n hn) y⟩ ⟨k1.fre ap sS,aB p aQ,aB e aS,λq W=>aB q.2$ fk q$ zk q W,λn hn=>aB _$ aT n hn⟩ rF aJ$ Kp.put (k5.trans$ av.weak sS) sS
   .exact (a_ ay.symm).trans$ av r1 _ al sS
   .have h1:=av p _ ai.top sS;exact(a_$ zAu h1 aw λz=>nomatch z).trans h1
   .have h1:=av _ _ (ai.row q W) sS;exact(a_$ zAu h1 aw λz=>nomatch z).trans h1
   .exact (a_$ zAu FF.top aw λz=>nomatch z).trans FF.top
   .exact (a_$ zAu (FF.row n hn) aw λz=>nomatch z).trans$ FF.row n hn
end
def zB5:List Str:=zE4.cps.toList.map λc=>⟨#[c]⟩
theorem zF0:zB5.length=26:=by
 unfold zB5;rw[zE3];simp
theorem mV:zB5.Nodup:=by decide +kernel
theorem qx(h:x∈zB5):zBg x:=by
 unfold zB5 at h;rw[zE3]at h;obtain⟨c,O,rfl⟩:=qAG.mp h;obtain⟨i,hi,rfl⟩:=qAG.mp O;have:=qAz.mp hi;refine⟨qAF 1,by show 1<=8;decide,λd S=>?_⟩;have:d=97+i:=by simpa using S
 lia
theorem lZ{found:List Str}(h:found.length<=20):(zB5.filter λx=>decide$ x∉found)≠[]:=λz=>by
 have:zB5.length<=found.length:=zB4 mV λx O=>by
  apply qBI;intro y;have:x∈zB5.filter λx=>decide$ x∉found:=qAc.mpr ⟨O,qAJ y⟩;rw[z]at this;exact nomatch this
 rw[zF0]at this;lia
section
inductive gZ(vs:List V)(H:Hp)(Q:VK)(u_3:XK):Prop
 |mk:∀(p:Addr)(m:Int),vs=[.ref p,.int m]->zCs H p->0<=m->m<=20->(∀(l:Addr)(ns:List Str)(H':Hp),Fre H l->Txs H' l ns->ns.length=m.toNat->ns.Nodup->(∀n∈ns,zBg n)->zCs H' p->Kp [p] H H'->Q (.ref l) H')->gZ vs H Q u_3
abbrev zK6:Stmt:=top 109
theorem zDl:c_ ["_law_purse_here","_law_many","_law_letters","_law_found","_law_k","_law_word","_law_j"] ["_law_purse_here","_law_many"] (zAe zK6):=fnS
theorem re(F:Fun K "_law_names" "_law_names" zK6 f fd)(T:Txt K mg)(aa:Cal P w K mg base "_law_take" 1 ["_law_purse_here","_law_many"] gq):eC P w K mg base CX0 2 f fd ["_law_purse_here","_law_many"] gZ:=by
 refine F.ok zDl (λvs H Q E h=>?_) λai A af s H vs Q E hr h=>?_
 .obtain ⟨p,m,rfl,_⟩:=h;rfl
 .obtain ⟨p,m,rfl,hP,h0,h1,k⟩:=h;have O:=hr
  refine⟨_,(zAb (psS (i:=2) zDl.nd zAm) (zAb (psS (i:=3) zDl.nd$ zAw zAc)
   (zAb (zA4 qAZ rF (zCu rF T.z_range$ zAa (pv 1) zAc) (pgN (i:=4) zDl.nd)
    (zAb (psS (i:=5) zDl.nd zAm)
    (zAb (zA4 qAZ rF (zCu rF T.z_range$ zAa (zAs zCz zAg$ zAs zGy (zAf aa O rF$ zAa (pv 0)$ zAa zAg zAc)$ zAf aa O rF$ zAa (pv 0)$ zAa zAg zAc) zAc) (pgN (i:=6) zDl.nd)$ zAd$ psS (i:=5) zDl.nd$ zAs zA5 (pv 5)$ zA9 xw (pv 2) (zAf aa O rF$ zAa (pv 0)$ zAa zAg zAc) λ_ _=>rfl)
    (zAb (zA1 (zAj zG0 (pv 5) (pv 3) rR)
     (zAd$ psS (i:=5) zDl.nd$ zA9 zAt (zA6 rF (zBe (sc:=zAe zK6) rF kK) (d_.own (x:="_law_letter")$ dtk (i:=3) rF d_.nil) (mQ$ pv 2) (λ_ _ _ _=>(pgB (i:=0))) (λ_ _ _ _=>(zB8$ zAj (zC1 (K:=K)) (pv 0) (pv 1) rR)) λ_ _ _ _=>(pv 0)) zAg λ_ _=>rfl)
     zAi)$ zAd$ zBb$ zCj qA7 qCO qCP zDd (pv 3)$ zAa (pv 5) zAc))))$ zAd$ zAk$ pv 3))),?_⟩
  refine lC ?_;intro _ _ _ _;refine⟨(by walk_at"ln"),λl hl=>?_⟩;have fl:Fre H l:=hl;have ad:p≠l:=by obtain⟨a,b,e,_⟩:=hP;exact b_ fl e
  have ag:zCs (upd H l$ .lst []) p:=hP.kp (M:=[]) (Kp.new Kp.refl fl) sS
  refine⟨_,rF,_,rF,lL,lL,zDf (lo:=0) (n:=m.toNat) (λi σ H2=>∃(o4 o5 o6:Option V)(S:List Str),σ=[some (.ref p),some (.int m),some (.str zE4),some (.ref l),o4,o5,o6]/\zCs H2 p/\Kp [p] H H2/\Txs H2 l S/\S.length=i/\S.Nodup/\∀s∈S,zBg s)
   ⟨none,none,none,[],rF,ag,Kp.new Kp.refl fl,ac,rF,qAt,λs h=>nomatch h⟩ ?_ ?_⟩
  .rintro i σ H2 hi ⟨o4,o5,o6,S,rfl,P2,K2,R2,e2,n2,q2⟩;refine lC ?_;intro _ _ _ _;refine⟨_,rF,p,2,rF,P2,dD,dD,λd1 H3 a0 a1 P3 K3=>?_⟩;refine⟨_,rF,p,8,rF,P3,dD,dD,λd2 H4 b0 b1 P4 K4=>?_⟩;have aj:0<=d1*d2:=Int.mul_nonneg a0 b0
   have ak:d1*d2<=7:=by
    have:d1*d2<=1*7:=Int.mul_le_mul lL lL b0 dD;lia
   have ah:Kp [p] H2 H4:=K3.trans K4
   refine⟨_,_,rF,rF,(by walk_at"ml"),_,_,rF,rF,_,rF,lL,lL,zDf (lo:=0) (n:=(1+d1*d2).toNat) (λn σ H7=>∃(o4 o6:Option V)(x:Str),σ=[some (.ref p),some (.int m),some (.str zE4),some (.ref l),o4,some (.str x),o6]/\zCs H7 p/\Kp [p] H2 H7/\pC n x)
    ⟨_,_,_,rF,P4,ah,rF,(λc h=>absurd (show c∈([]:List Nat) from h) sS)⟩ ?_ ?_⟩
   .rintro n σ H7 hn ⟨o4,o6,x,rfl,P8,K7,W⟩;refine⟨_,rF,_,rF,_,rF,p,26,rF,P8,dD,dD,λd4 H8 e0 e1 P9 K8=>?_⟩;refine⟨_,_,_,rF,rF,dD,nH e0 e1,_,_,rF,rF,?_,?_⟩
    .rw [W.1];show n+1<=sizeLine;rw[qAM];lia
    .exact ⟨_,_,_,rF,P9,K7.trans K8,W.more lL lL⟩
   .rintro σ H7 ⟨o4,o6,x,rfl,P8,K7,W⟩;have h7:Txs H7 l S:=K7 l _ R2$ nm1 ad.symm;have NX:zBg x:=⟨by have:=W.1;lia,by have:=W.1;lia,W.2⟩;refine⟨_,rF,_,rF,_,_,rF,.inl$ SqL.of h7,rF,zBw S,_,rF,?_⟩;rw[qAC qAk,zDe];refine nO (λσ H8=>∃(y:Str),σ=[some (.ref p),some (.int m),some (.str zE4),some (.ref l),o4,some (.str y),o6]/\Kp [] H7 H8/\zBg y/\y∉S) (λN hN=>eU (λc=>?_) λc=>?_) ?_
    .-- _law_word=[..][0]
     refine⟨_,rF,_,rF,λB hB=>lM (z:=zE4) (λi ys τ H8=>(∃o0,τ=[o0,some (.ref l)])/\ys=((zB5.take i).filter λx=>decide$ x∉S).map V.str/\H8=upd H7 B (.lst ys)) ⟨⟨_,rF⟩,rF,rF⟩ ?_ ?_⟩
     .rintro i c ys τ H8 hc ⟨⟨o0,rfl⟩,rfl,rfl⟩;have en:zB5[i]?=some ⟨#[c]⟩:=by unfold zB5;rw[qAU,hc];rfl
      refine⟨_,rF,_,rF,_,_,rF,.inl$ SqL.of$ (a_$ b_ (show Fre H7 B from hB) h7).trans h7,rF,zBw S,_,rF,?_⟩;rw[qAD rF,zDe]
      have ed:(!decide ((⟨#[c]⟩:Str)∈S))=decide ((⟨#[c]⟩:Str)∉S):=by
       by_cases z:(⟨#[c]⟩:Str)∈S
       .simp [z]
       .simp [z]
      rw[ed];refine eU (λc=>?_) λc=>?_
      .refine ⟨_,rF,ac,?_,⟨_,rF⟩,?_,zBm⟩
       .rw [qAB];exact zG9 (by rw[zF0];decide)
       .rw [zFn (p:=λx=>decide$ x∉S) en c,qAI];rfl
      .refine ⟨⟨_,rF⟩,?_,?_⟩
       .rw [zHw (p:=λx=>decide$ x∉S) en c]
       .rfl
     .rintro ys τ H8 ⟨_,rfl,rfl⟩;have eT:zB5.take zE4.length=zB5:=qBC (by rw[zF0];decide);rw[eT];have ae:=lZ (found:=S) lL
      have ab:∀y,y∈(zB5.filter λx=>decide$ x∉S)->zBg y/\y∉S:=λy hy=>by
       have:=qAc.mp hy;exact⟨qx this.1,qAn this.2⟩
      generalize (zB5.filter λx=>decide$ x∉S)=L at ae ab
      obtain⟨y,r,rfl⟩:∃y r,L=y::r:=by
       cases L with
       |nil=>exact absurd rF ae
       |cons y r=>exact⟨y,r,rF⟩
      refine⟨_,_,_,.str y,rF,rF,SqL.of ac,zAx dD rF,?_⟩;exact hN _ _ ⟨y,rF,Kp.new Kp.refl hB,(ab y qAO).1,(ab y qAO).2⟩
    .exact hN _ _ ⟨x,rF,Kp.refl,NX,λz=>c$ qAJ z⟩
    .rintro σ H8 ⟨y,rfl,K8,NY,ny⟩;have h8:Txs H8 l S:=K8 l _ h7 sS;refine⟨_,rF,.inl ⟨rF,_,SqL.of h8⟩,_,rF,_,_,_,rF,rF,h8,?_,?_⟩
     .rw [qAM,qAB];lia
     .refine ⟨_,_,_,S++[y],rF,(P8.kp K8 sS).kp (M:=[l]) (Kp.put Kp.refl sS)$ nm1 ad,Kp.new (K2.trans$ K7.trans$ K8.weak sS) fl,?_,by simp[e2],?_,λs hs=>?_⟩
      .show upd H8 l _ l=some (.lst$ (S++[y]).map V.str);rw[ac,qAI];rfl
      .refine qA6.mpr ⟨n2,sS,λa ha b hb=>?_⟩;rw[qAH.mp hb];rintro rfl;exact ny ha
      .rcases qAK.mp hs with z|z
       .exact q2 s z
       .rw [qAH.mp z];exact NY
  .rintro σ H2 ⟨o4,o5,o6,S,rfl,P2,K2,R2,e2,n2,q2⟩;exact⟨_,rF,k l S H2 fl R2 e2 n2 q2 P2 K2⟩
end
structure ITs(H:Hp)(l:Addr)(ts:List ((Int×Int)×Addr)):Prop where
 top:H l=some (.lst$ ts.map λt=>V.ref t.2)
 row:∀t∈ts,H t.2=some (.tup [.int t.1.1,.int t.1.2])
theorem ITs.kp{M:List Addr}{l:Addr}{ts:List ((Int×Int)×Addr)}(I:ITs H l ts)(k:Kp M H H')(h1:l∉M)(h2:∀t∈ts,t.2∉M):ITs H' l ts:=⟨k l _ I.top h1,λt O=>k _ _ (I.row t O)$ h2 t O⟩
theorem sO(i:Nat):i*(i+1)+2*(i+1)=(i+1)*(i+2):=by
 rw[<-Nat.add_mul,Nat.mul_comm]
theorem ym(w:Int):inV (.int w) [.int 1,.int 2]=(decide (w=1)||decide (w=2)):=by
 show((1==w)||((2==w)||false))=_
 by_cases h1:w=1
 .subst h1;rfl
 .by_cases h2:w=2
  .subst h2;rfl
  .rw [qAP h1,qAP h2,qBA.mpr$ qAo h1,qBA.mpr$ qAo h2];rfl
def pS(m:Int)(ts:List ((Int×Int)×Addr)):Prop:=∀t∈ts,0<=t.1.1/\t.1.1<t.1.2/\t.1.2<m
theorem eL{a:Addr}{o:HO}(h:H a=none):∃H',upd H a o=H'/\Kp [] H H'/\H' a=some o:=⟨_,rF,Kp.new Kp.refl h,ac⟩
structure PB(H0:Hp)(p l:Addr)(m:Int)(H:Hp)(ts:List ((Int×Int)×Addr)):Prop where
 pu:zCs H p
 kp:Kp [p] H0 H
 it:ITs H l ts
 fr:∀t∈ts,Fre H0 t.2
 ok:pS m ts
 pl:p≠l
 fl:Fre H0 l
section
variable{H0 H H':Hp}{p l t:Addr}{m a b:Int}{ts:List ((Int×Int)×Addr)}(B:PB H0 p l m H ts)
include B
theorem PB.go(k:Kp [p] H H')(P:zCs H' p):PB H0 p l m H' ts:=⟨P,B.kp.trans k,B.it.kp k (nm1 B.pl.symm) λt O=>nm1 (by obtain⟨x,y,e,_⟩:=B.pu;exact zAu (B.it.row t O) e λz=>nomatch z),B.fr,B.ok,B.pl,B.fl⟩
theorem PB.go0(k:Kp [] H H'):PB H0 p l m H' ts:=B.go k.of0$ B.pu.kp k sS
theorem PB.fre(f:H t=none):Fre H0 t:=B.kp.fre f (nm1$ by obtain⟨x,y,e,_⟩:=B.pu;exact(b_ f e).symm)
theorem PB.add(S:H t=some (.tup [.int a,.int b]))(W:Fre H0 t)(h1:0<=a)(h2:a<b)(h3:b<m):PB H0 p l m (upd H l$ .lst$ ts.map (λt=>V.ref t.2)++[.ref t]) (ts++[((a,b),t)]):=by
 have g:∀q∈ts++[((a,b),t)],H q.2=some (.tup [.int q.1.1,.int q.1.2])/\Fre H0 q.2/\0<=q.1.1/\q.1.1<q.1.2/\q.1.2<m:=λq O=>by
  rcases qAK.mp O with z|z
  .exact ⟨B.it.row q z,B.fr q z,B.ok q z⟩
  .rw [qAH.mp z];exact⟨S,W,h1,h2,h3⟩
 exact⟨B.pu.kp (M:=[l]) (Kp.put Kp.refl sS)$ nm1 B.pl,Kp.new B.kp B.fl,⟨by rw[ac,qAI];rfl,λq O=>(a_$ zAu (g q O).1 B.it.top λy=>nomatch y).trans (g q O).1⟩,λq O=>(g q O).2.1,λq O=>(g q O).2.2,B.pl,B.fl⟩
theorem PB.ext(c:Bool)(W:H t=some (.tup [.int a,.int b]))(ft:Fre H0 t)(h:c=true->0<=a/\a<b/\b<m):∃O,PB H0 p l m (upd H l$ .lst$ ts.map (λt=>V.ref t.2)++(List.replicate (if c=true then(1:Int) else 0).toNat [V.ref t]).flatten) O/\O.length<=ts.length+1:=by
 cases c with
 |true=>exact⟨_,B.add W ft (h rF).1 (h rF).2.1 (h rF).2.2,by rw[qAV];exact qAF _⟩
 |false=>
  refine⟨ts,?_,qBl _⟩;show PB H0 p l m (upd H l$ .lst$ ts.map (λt=>V.ref t.2)++[]) ts;rw[qA4];exact⟨B.pu.kp (M:=[l]) (Kp.put Kp.refl sS)$ nm1 B.pl,Kp.new B.kp B.fl,⟨ac,λq S=>(a_$ zAu (B.it.row q S) B.it.top λy=>nomatch y).trans$ B.it.row q S⟩,B.fr,B.ok,B.pl,B.fl⟩
end
section
inductive h_(vs:List V)(H:Hp)(Q:VK)(u_3:XK):Prop
 |mk:∀(p:Addr)(m way thin:Int),vs=[.ref p,.int m,.int way,.int thin]->zCs H p->0<=m->m<=9->2<=thin->thin<=12->(∀(l:Addr) (ts:List ((Int×Int)×Addr)) (H':Hp),Fre H l->ITs H' l ts->(∀t∈ts,Fre H t.2)->ts.length<=36->pS m ts->zCs H' p->Kp [p] H H'->Q (.ref l) H')->h_ vs H Q u_3
abbrev jJ:Stmt:=top 110
theorem zDk:c_ ["_law_purse_here","_law_many","_law_way","_law_thin","_law_pairs_here","_law_j","_law_far","_law_i","_law_near"] ["_law_purse_here","_law_many","_law_way","_law_thin"] (zAe jJ):=fnS
theorem tD(F:Fun K "_law_pairs" "_law_pairs" jJ f fd)(T:Txt K mg)(ab:Cal P w K mg base "_law_take" 1 ["_law_purse_here","_law_many"] gq):eC P w K mg base CX0 2 f fd ["_law_purse_here","_law_many","_law_way","_law_thin"] h_:=by
 refine F.ok zDk (λvs H Q E h=>?_) λap A ah s H vs Q E hr h=>?_
 .obtain ⟨p,m,W,O,rfl,_⟩:=h;rfl
 .obtain ⟨p,m,W,O,rfl,hP,h0,h1,t0,t1,k⟩:=h;have S:=hr
  refine⟨_,(zAb (psS (i:=4) zDk.nd$ zAw zAc) (zAb (zA4 qAZ rF (qZ rF T.z_range$ zAa zAg$ zAa (pv 1) zAc) (pgN (i:=5) zDk.nd)
    (zAb (psS (i:=6) zDk.nd zAg)
    (zAb (zA1 (zAj zCo (pv 2) zAg$ zAo _)
     (zAb (psS (i:=6) zDk.nd$ zAf ab S rF$ zAa (pv 0)$ zAa (zAs zCz (zAs zJb (pv 1)$ pv 5) zAg) zAc)$ zAd$ zBb$ zCj qA7 qDV qDW zG3 (pv 4)$ zAa (zAs ti (zAw$ zAa (zCl$ zAa (zAs zJb (pv 5) zAg)$ zAa (zAs zCz (zAs zJb (pv 5) zAg)$ pv 6) zAc) zAc)$ zAz zHd rR T.z_int zKu$ zAa (zCn zLi (pv 6) zAg$ zAo _) zAc) zAc)
     zAi)
    (zAb (zA1 (zAj zCo (pv 2) zAg$ zAo _)
     (zAb (psS (i:=6) zDk.nd$ zAf ab S rF$ zAa (pv 0)$ zAa (zAs zCz (pv 5) zAg) zAc)$ zAd$ zBb$ zCj qA7 qDV qDW zG3 (pv 4)$ zAa (zAs ti (zAw$ zAa (zCl$ zAa (zAs zJb (pv 5)$ pv 6)$ zAa (pv 5) zAc) zAc)$ zAz zHd rR T.z_int zKu$ zAa (zCn zLi (pv 6) zAg$ zAo _) zAc) zAc)
     zAi)
    (zAd (zA4 qAZ rF (zCu rF T.z_range$ zAa (zAs zGy (pv 5)$ zAz zHd rR T.z_int zKu$ zAa (zCn zE2 (pv 2) (zAw$ zAa zAg$ zAa zAg zAc) rR) zAc) zAc) (pgN (i:=7) zDk.nd)
     (zAb (psS (i:=8) zDk.nd$ yh (zCn zGx (pv 2) zAg$ zAo _)$ jE$ zCn zCo (zAs zCz (zAs jZ (pv 7)$ pv 3) zAg) (zAs jZ (pv 5)$ pv 3)$ zAo _)
     (zAd (zA1 (PW.pt$ ku (zBv$ pv 8)$ zK9$ zAj zCo (zCn zCo (zAf ab S rF$ zAa (pv 0)$ zAa (pv 3) zAc) zAg$ zAo _) (zCn zGx (pv 2) zAg$ zAo _)$ zAo _)
      (zAd$ zBb$ zCj qA7 qCO qCP zDd (pv 4)$ zAa (zCl$ zAa (pv 7)$ zAa (pv 5) zAc) zAc)
      zAi)))))))))$ zAd$ zAk$ pv 4)),?_⟩
  refine im ?_;intro _ _ _;refine⟨(by walk_at"ln"),λl hl=>?_⟩;have ai:p≠l:=by obtain⟨a,b,e,_⟩:=hP;exact b_ hl e
  have Kl:∀{M},Kp M H (upd H l$ .lst []):=Kp.new Kp.refl hl
  refine⟨_,rF,_,_,rF,⟨dD,dD,lL,lL⟩,zDf (lo:=1) (n:=(m-1).toNat) (λi σ H2=>∃(o5 o6 o7 o8:Option V) (ts:List ((Int×Int)×Addr)),σ=[some (.ref p),some (.int m),some (.int W),some (.int O),some (.ref l),o5,o6,o7,o8]/\PB H p l m H2 ts/\ts.length*2<=i*(i+1)) ⟨none,none,none,none,[],rF,⟨hP.kp (Kl (M:=[])) sS,Kl,⟨ac,(λt h=>nomatch h)⟩,(λt h=>nomatch h),(λt h=>nomatch h),ai,hl⟩,qAm _⟩ ?_ ?_⟩
  .rintro i σ H2 hi ⟨o5,o6,o7,o8,ts,rfl,B,e2⟩;refine lC ?_;intro _ _ _ _;have ao:i<=18:=lL
   have aj:ts.length*2<=8*9:=qAR e2$ Nat.mul_le_mul lL lL;refine⟨_,rF,rF,_,rF,nO (λσ H3=>∃(v6:Int) (ae:List ((Int×Int)×Addr)),σ=[some (.ref p),some (.int m),some (.int W),some (.int O),some (.ref l),some (.int$ 1+(i:Int)),some (.int v6),o7,o8]/\PB H p l m H3 ae/\ae.length<=ts.length+1/\(W≠1->ae.length<=ts.length)) (λN hN=>eU (λc=>?_) λc=>hN _ _ ⟨0,ts,rF,B,qBl _,λ_=>qAF _⟩) ?_⟩
   .have cw:W=1:=by simpa using c
    refine⟨_,rF,_,rF,_,rF,_,_,rF,rF,_,_,rF,rF,p,m-(1+(i:Int))+1,rF,B.pu,lL,lL,λd H3 d0 d1 P3 K3=>?_⟩;have B:=B.go K3 P3;refine⟨_,rF,.inl ⟨rF,_,SqL.of B.it.top⟩,_,rF,_,_,rF,rF,_,rF,_,_,rF,rF,_,rF,_,_,rF,rF,(by walk_at"ln"),λt ht=>?_⟩;have ft:=B.fre ht;obtain⟨H4,e4,k4,h4⟩:=eL (o:=.tup [.int (1+(i:Int)-1),.int (1+(i:Int)-1+d)]) ht;rw[e4];refine⟨(by walk_at"ln"),λq hq=>?_⟩;obtain⟨H5,e5,k5,h5⟩:=eL (o:=.lst [.ref t]) hq;rw[e5];refine⟨_,rF,_,_,rF,rF,.inr ⟨_,rF,_,_,_,rF,rF,h5,by split<;>decide,by split<;>decide,by rw[qAM];show 1*_<=_;split<;>decide,λr af=>?_⟩⟩;obtain⟨H6,e6,k6,h6⟩:=eL (o:=.lst (List.replicate (if decide (0<d)=true then(1:Int) else 0).toNat [V.ref t]).flatten) af;rw[e6];have B:=(B.go0 k4).go0$ k5.trans k6;obtain⟨aa,B2,l2⟩:=B.ext (decide$ 0<d) ((k5.trans k6) _ _ h4 sS) ft λz=>by have:=qAn z;lia
    refine⟨_,_,_,_,rF,rF,B.it.top,h6,?_,hN _ _ ⟨d,aa,rF,B2,lL,λz=>absurd cw z⟩⟩;rw[qAB,ke,qAM];have:(if decide (0<d)=true then(1:Int) else 0).toNat<=1:=by split<;>decide
    simp only[qAd,qBS];lia
   .rintro σ H4 ⟨v6,ae,rfl,B,e3,e4⟩;refine⟨_,rF,rF,_,rF,nO (λσ H3=>∃(v6:Int) (aa:List ((Int×Int)×Addr)),σ=[some (.ref p),some (.int m),some (.int W),some (.int O),some (.ref l),some (.int$ 1+(i:Int)),some (.int v6),o7,o8]/\PB H p l m H3 aa/\aa.length<=ts.length+1/\(W≠1->W≠2->aa.length<=ts.length)) (λN hN=>eU (λc=>?_) λc=>hN _ _ ⟨v6,ae,rF,B,e3,λz _=>e4 z⟩) ?_⟩
    .have cw:W=2:=by simpa using c
     have e5:=e4 lL;refine⟨_,rF,_,rF,_,_,rF,rF,p,1+(i:Int)+1,rF,B.pu,lL,lL,λd H3 d0 d1 P3 K3=>?_⟩;have B:=B.go K3 P3;refine⟨_,rF,.inl ⟨rF,_,SqL.of B.it.top⟩,_,rF,_,rF,_,_,rF,rF,_,rF,(by walk_at"ln"),λt ht=>?_⟩;have ft:=B.fre ht;obtain⟨H4,e4,k4,h4⟩:=eL (o:=.tup [.int (1+(i:Int)-d),.int (1+(i:Int))]) ht;rw[e4];refine⟨(by walk_at"ln"),λq hq=>?_⟩;obtain⟨H5,e5,k5,h5⟩:=eL (o:=.lst [.ref t]) hq;rw[e5];refine⟨_,rF,_,_,rF,rF,.inr ⟨_,rF,_,_,_,rF,rF,h5,by split<;>decide,by split<;>decide,by rw[qAM];show 1*_<=_;split<;>decide,λr af=>?_⟩⟩;obtain⟨H6,e6,k6,h6⟩:=eL (o:=.lst (List.replicate (if decide (0<d)=true then(1:Int) else 0).toNat [V.ref t]).flatten) af;rw[e6];have B:=(B.go0 k4).go0$ k5.trans k6;obtain⟨aa,B2,l2⟩:=B.ext (decide$ 0<d) ((k5.trans k6) _ _ h4 sS) ft λz=>by have:=qAn z;lia
     refine⟨_,_,_,_,rF,rF,B.it.top,h6,?_,hN _ _ ⟨d,aa,rF,B2,lL,λ_ z=>absurd cw z⟩⟩;rw[qAB,ke,qAM];have:(if decide (0<d)=true then(1:Int) else 0).toNat<=1:=by split<;>decide
     simp only[qAd,qBS];lia
    .rintro σ H5 ⟨v6,aa,rfl,B,e5,e6⟩;refine⟨_,rF,_,rF,(by walk_at"ln"),λb hb=>?_⟩;obtain⟨H6,e7,k6,h6⟩:=eL (o:=.lst [.int 1,.int 2]) hb;rw[e7];refine⟨_,_,rF,.inl$ SqL.of h6,rF,rF,.inr ⟨_,rF,?_⟩⟩;rw[qAD rF,ym]
     have ag:(if(!(decide (W=1)||decide (W=2)))=true then(1:Int) else 0)=0\/((if(!(decide (W=1)||decide (W=2)))=true then(1:Int) else 0)=1/\W≠1/\W≠2):=by
      by_cases z:W=1
      .left;simp[z]
      .by_cases y:W=2
       .left;simp[y]
       .right;simp[z,y]
     generalize (if(!(decide (W=1)||decide (W=2)))=true then(1:Int) else 0)=nn at ag ⊢;have hm:(1+(i:Int))*nn=0\/((1+(i:Int))*nn=1+i/\aa.length<=ts.length):=ag.imp (λz=>by rw[z];lia) λ⟨z,y,x⟩=>⟨by rw[z];lia,e6 y x⟩;refine⟨_,_,rF,rF,.inl ⟨lL,lL⟩,_,rF,lL,lL,zDf (lo:=0) (n:=((1+(i:Int))*nn).toNat) (λa σ H6=>∃(o7 o8:Option V) (ad:List ((Int×Int)×Addr)),σ=[some (.ref p),some (.int m),some (.int W),some (.int O),some (.ref l),some (.int$ 1+(i:Int)),some (.int v6),o7,o8]/\PB H p l m H6 ad/\ad.length<=aa.length+a) ⟨_,_,aa,rF,B.go0 k6,qAF _⟩ ?_ ?_⟩
     .rintro a σ H7 ha ⟨ak,al,ad,rfl,B,e8⟩;refine qI ?_;intro _ _;have aq:(a:Int)<1+i:=lL
      refine vt (λσ H8=>∃bN:Bool,σ=[some (.ref p),some (.int m),some (.int W),some (.int O),some (.ref l),some (.int$ 1+(i:Int)),some (.int v6),some (.int$ 0+(a:Int)),some (.bl bN)]/\H8=H7) (λN hN=>⟨_,rF,rF,_,rF,eU (λc=>hN _ _ ⟨true,rF,rF⟩) λc=>⟨_,rF,_,rF,_,_,rF,rF,⟨lL,lL⟩,_,_,rF,rF,_,rF,_,rF,_,_,rF,rF,⟨lL,lL⟩,rF,hN _ _ ⟨_,rF,rF⟩⟩⟩) ?_;rintro σ H8 ⟨bN,rfl,rfl⟩;refine⟨_,rF,_,rF,eU (λc=>⟨_,rF,_,rF,p,O,rF,B.pu,lL,lL,λd H9 d0 d1 P9 K9=>?_⟩) λc=>⟨_,_,ad,rF,B,lL⟩⟩;have B:=B.go K9 P9;refine⟨rF,_,rF,rF,rF,_,rF,eU (λc=>⟨_,rF,.inl ⟨rF,_,SqL.of B.it.top⟩,_,rF,_,rF,(by walk_at"ln"),λt ht=>?_⟩) λc=>⟨_,_,ad,rF,B,lL⟩⟩;have ft:=B.fre ht;obtain⟨ar,am,an,h10⟩:=eL (o:=.tup [.int (0+(a:Int)),.int (1+(i:Int))]) ht;rw[am];have B:=B.go0 an;refine⟨_,_,_,rF,rF,B.it.top,by rw[qAB,qAM];lia,_,_,_,rF,B.add h10 ft lL lL lL,?_⟩;rw[qAV];simp only[qAd,qBS];lia
     .rintro σ H7 ⟨ak,al,ad,rfl,B,e8⟩;refine⟨_,_,_,_,ad,rF,B,?_⟩;have:=sO i;show _<=(i+1)*(i+2);rw[<-this];lia
  .rintro σ H2 ⟨o5,o6,o7,o8,ts,rfl,B,e2⟩;have aj:(m-1).toNat*((m-1).toNat+1)<=8*9:=Nat.mul_le_mul lL lL;exact⟨_,rF,k l ts H2 B.fl B.it B.fr lL B.ok B.pu B.kp⟩
end
theorem zJq{α:Type}[BEq α][LawfulBEq α]:∀{L:List α}{i:Nat}{x:α},L.Nodup->L[i]?=some x->L.idxOf x=i
 |[],i,x,_,h=>by simp at h
 |y::L,0,x,_,h=>by
  have:y=x:=qAh h;subst this;simp
 |y::L,i+1,x,S,h=>by
  rw[qCl]at h;obtain⟨h1,h2⟩:=qA5.mp S;have O:y≠x:=λz=>h1$ z▸qAN h;rw[List.idxOf_cons,qBA.mpr O];show L.idxOf x+1=i+1;rw[zJq h2 h]
theorem iU{α S:Type}{f:α->S}:∀{L:List α},L.Nodup->(∀a∈L,∀b∈L,f a=f b->a=b)->(L.map f).Nodup
 |[],_,_=>qAt
 |x::L,h,hi=>by
  obtain⟨h1,h2⟩:=qA5.mp h;rw[qAi];refine qA5.mpr ⟨λz=>?_,iU h2 λa V b W=>hi a (qAS _ V) b$ qAS _ W⟩;obtain⟨y,O,e⟩:=qAG.mp z;rw[hi y (qAS _ O) x qAO e]at O;exact h1 O
theorem lY{K:PySem.W.Frag}{c e:Addr}{xs:List V}{Q:VK}(h1:SqL K H c xs)(h2:SqL K H e [])(h:∀O:Bool,(O=true->xs≠[])->Q (.bl O) H):fP K 8 false (.ref c) (.ref e) H Q\/fQ K true (.ref c) (.ref e) H Q:=by
 by_cases z:xs=[]
 .subst z;exact .inl ⟨c,e,_,_,rF,rF,h1,h2,rF,(λi x y h=>by simp at h),h false λz=>nomatch z⟩
 .refine .inr ⟨c,e,_,_,rF,rF,h1,h2,λy=>z$ qBa.mp y,h true λ_=>z⟩
structure jc(Is:List Int)(m:Nat):Prop where
 len:Is.length=m
 nd:Is.Nodup
 lt:∀x∈Is,0<=x/\x<m
theorem jc.put{O:List Int}{m:Nat}(S:jc O m)(d:Nat):jc (O.take d++(m:Int)::O.drop d) (m+1):=by
 have V:=ST.ins_perm O d (m:Int);refine⟨by rw[V.length_eq,qAd,S.len],V.nodup_iff.mpr$ qA5.mpr ⟨λz=>?_,S.nd⟩,λx W=>?_⟩
 .have:=(S.lt _ z).2;lia
 .rcases qAQ.mp (V.mem_iff.mp W) with z|z
  .subst z;lia
  .have:=S.lt x z;lia
def gJ(ns:List Str)(S:List Int):List Str:=S.map λk=>ns.getD k.toNat Str.empty
theorem tK{O:List Int}(V:ns.Nodup)(S:jc O ns.length):(gJ ns O).Nodup:=by
 refine iU S.nd λa W b hb e=>?_;have h1:=S.lt a W;have h2:=S.lt b hb;have e1:ns.getD a.toNat Str.empty=ns[a.toNat]' lL:=by rw[qBN,qAx lL];rfl
 have e2:ns.getD b.toNat Str.empty=ns[b.toNat]' lL:=by rw[qBN,qAx lL];rfl
 rw[e1,e2]at e;have:=(List.getElem_inj V).mp e;lia
theorem lv{O:List Int}(S:jc O ns.length){i:Int}(h0:0<=i)(h1:i<ns.length):∃s n,O[i.toNat]?=some s/\0<=s/\ns[s.toNat]?=some n/\(gJ ns O)[i.toNat]?=some n:=by
 have hi:i.toNat<O.length:=by rw[S.len];lia
 have hs:=S.lt O[i.toNat]$ qC9 hi;have V:O[i.toNat].toNat<ns.length:=lL
 refine⟨O[i.toNat],ns[O[i.toNat].toNat],qAx hi,hs.1,qAx V,?_⟩;unfold gJ;rw[qAU,qAx hi];show some (ns.getD _ _)=_;rw[qBN,qAx V];rfl
theorem oG{α O:Type}(f:α->O)(L:List α)(d:Nat)(x:α):(L.map f).take d++f x::(L.map f).drop d=(L.take d++x::L.drop d).map f:=by
 rw[qAI,qAi,List.map_take,List.map_drop]
theorem yD{ts:List ((Int×Int)×Addr)}{i:Nat}(h:(ts.map λq=>V.ref q.2)[i]?=some v):∃q,ts[i]?=some q/\v= .ref q.2:=by
 rw[qAU]at h;obtain⟨n,e,r⟩:=qAw.mp h;exact⟨n,e,r.symm⟩
section
inductive jD(vs:List V)(H:Hp)(Q:VK)(u_3:XK):Prop
 |mk:∀(p:Addr)(mo:Int),vs=[.ref p,.int mo]->0<=mo->mo<=9->zCs H p->(∀(t l m:Addr)(ns:List Str) (qs:List (List Str×Addr)) (r:Str->Nat) (H':Hp),(ns.length:Int)<=mo->qs.length<=38->H' t=some (.tup [.ref l,.ref m])->Fre H t->Fre H l->Fre H m->(∀q∈qs,Fre H q.2)->Txs H' l ns->gA H' m qs->gn ns qs r->zCs H' p->Kp [p] H H'->Q (.ref t) H')->jD vs H Q u_3
abbrev kb:Stmt:=top 111
theorem zD7:c_ ["_law_purse_here","_law_most","_law_many","_law_names_here","_law_way","_law_thin","_law_pairs_here","_law_k","_law_spots"] ["_law_purse_here","_law_most"] (zAe kb):=fnS
theorem vE(F:Fun K "_law_jobs" "_law_jobs" kb f fd)(T:Txt K mg)(W:Cal P w K mg base "_law_take" 1 ["_law_purse_here","_law_many"] gq)(ah:Cal P w K mg base "_law_names" 2 ["_law_purse_here","_law_many"] gZ)
  (aj:Cal P w K mg base "_law_pairs" 2 ["_law_purse_here","_law_many","_law_way","_law_thin"] h_):eC P w K mg base CX0 3 f fd ["_law_purse_here","_law_most"] jD:=by
 refine F.ok zD7 (λvs H Q E h=>?_) λbe A aO s H vs Q E hr h=>?_
 .obtain ⟨p,mo,rfl,_⟩:=h;rfl
 .obtain ⟨p,mo,rfl,bf,bg,hP,k⟩:=h;have ad:=hr;have ae:=hr;have O:=hr.mono (j:=1) dD
  refine⟨_,(zAb (psS (i:=2) zD7.nd$ zAf W O rF$ zAa (pv 0)$ zAa (zAs zCz (pv 1) zAg) zAc) (zAb (psS (i:=3) zD7.nd$ zAf ah ad rF$ zAa (pv 0)$ zAa (pv 2) zAc)
   (zAb (psS (i:=4) zD7.nd$ zAf W O rF$ zAa (pv 0)$ zAa zAg zAc)
   (zAb (psS (i:=5) zD7.nd$ zA9 zAt (zAw$ zAa zAg$ zAa zAg$ zAa zAg$ zAa zAg$ zAa zAg zAc) (zAf W O rF$ zAa (pv 0)$ zAa zAg zAc) fun _ _=>rfl)
   (zAb (psS (i:=6) zD7.nd$ zAf aj ae rF$ zAa (pv 0)$ zAa (pv 2)$ zAa (pv 4)$ zAa (pv 5) zAc)
   (zAb (zA4 qAZ rF (zCu rF T.z_range$ zAa (zAs zGy (zAz zHd rR T.z_int zKu$ zAa (zCn (zJc O) (pv 6) (zAw zAc)$ zAo _) zAc)$ zAf W O rF$ zAa (pv 0)$ zAa zAg zAc) zAc) (pgN (i:=7) zD7.nd)$ zAd$ zBb$ zCj qA7 PySem.F.slot_list_insert PySem.F.type_list_insert iG (pv 6)$ zAa (zAf W O rF$ zAa (pv 0)$ zAa (zAs zCz (zAn zAy rR T.z_len zCc$ zAa (pv 6) zAc) zAg) zAc)$ zAa (zA9 zAt (pv 6) (zAf W O rF$ zAa (pv 0)$ zAa (zAn zAy rR T.z_len zCc$ zAa (pv 6) zAc) zAc) λ_ _=>rfl) zAc)
   (zAb (psS (i:=8) zD7.nd$ zAw zAc)
   (zAb (zA4 qAZ rF (zCu rF T.z_range$ zAa (pv 2) zAc) (pgN (i:=7) zD7.nd)$ zAd$ zBb$ zCj qA7 PySem.F.slot_list_insert PySem.F.type_list_insert iG (pv 8)$ zAa (zAf W O rF$ zAa (pv 0)$ zAa (zAs zCz (pv 7) zAg) zAc)$ zAa (pv 7) zAc)$ zAd$ zAk$ zCl$ zAa (pv 3)$ zAa (zA6 rF (zBe (sc:=zAe kb) rF kK) (d_.own (x:="_law_i")$ d_.own (x:="_law_j")$ dtk (i:=3) rF$ dtk (i:=8) rF d_.nil) (zAl$ pv 6) (λ_ _ _ _=>(zJa (K:=K) (n:=2) rF$ zAr (pgB (i:=0))$ zAr (pgB (i:=1)) zBz)) (λ_ _ _ _=>zBq) λ_ _ _ _=>(zCl$ zAa (zA9 (zEi (K:=K)) (pv 2) (zA9 (zEi (K:=K)) (pv 3) (pv 0) λ_ _=>rfl) λ_ _=>rfl)$ zAa (zA9 (zEi (K:=K)) (pv 2) (zA9 (zEi (K:=K)) (pv 3) (pv 1) λ_ _=>rfl) λ_ _=>rfl) zAc)) zAc)))))))),?_⟩
  refine za ?_;intro _ _ _ _ _ _ _ _ _;refine⟨_,rF,_,rF,_,_,rF,rF,p,mo+1,rF,hP,lL,lL,λm H1 m0 m1 P1 K1=>?_⟩;refine⟨_,rF,_,rF,p,m,rF,P1,m0,lL,λl ns H2 fl hl en nd nm P2 K2=>?_⟩;have af:p≠l:=by obtain⟨a,b,e,_⟩:=P1;exact b_ fl e
  refine⟨_,rF,p,6,rF,P2,dD,dD,λar H3 w0 w1 P3 K3=>?_⟩;refine⟨(by walk_at"ln"),λb hb=>?_⟩;have fb:Fre H3 b:=hb;have aP:p≠b:=by obtain⟨x,y,e,_⟩:=P3;exact b_ fb e
  refine⟨_,rF,p,5,rF,P3.kp (M:=[]) (Kp.new Kp.refl fb) sS,dD,dD,λd H4 d0 d1 P4 K4=>?_⟩
  obtain⟨th,aQ,aR,ax⟩:∃th:Int,([V.int 2,.int 3,.int 4,.int 6,.int 12])[d.toNat]?=some (.int th)/\2<=th/\th<=12:=by
   have:d=0\/d=1\/d=2\/d=3\/d=4:=lL
   rcases this with rfl|rfl|rfl|rfl|rfl
   .exact ⟨2,rF,dD,dD⟩
   .exact ⟨3,rF,dD,dD⟩
   .exact ⟨4,rF,dD,dD⟩
   .exact ⟨6,rF,dD,dD⟩
   .exact ⟨12,rF,dD,dD⟩
  refine⟨_,_,_,.int th,rF,rF,SqL.of$ K4 b _ ac$ nm1 aP.symm,zAx d0 aQ,?_⟩;have ay:Kp [p] H3 H4:=Kp.trans (Kp.new Kp.refl fb) K4;have az:Kp [p] H1 H4:=K2.trans$ K3.trans ay;have aA:Txs H4 l ns:=(K3.trans ay) l _ hl$ nm1 af.symm;refine⟨_,rF,_,rF,_,rF,_,rF,p,m,ar,th,rF,P4,m0,lL,aR,ax,λc ts H5 fc I5 aS bh aT P5 K5=>?_⟩;have ag:p≠c:=by obtain⟨x,y,e,_⟩:=P4;exact b_ fc e
  have aU:Txs H5 l ns:=K5 l _ aA$ nm1 af.symm;have aB:l≠c:=b_ fc aA;have aV:Kp [p] H H5:=K1.trans$ az.trans K5;have aW:Fre H c:=(K1.trans az).fre fc$ nm1 ag.symm;have aX:Fre H l:=K1.fre fl$ nm1 af.symm;refine⟨_,rF,(by walk_at"ln"),λe he=>?_⟩;have fe:Fre H5 e:=he;have bi:p≠e:=by obtain⟨x,y,q,_⟩:=P5;exact b_ fe q
  have as:Kp [] H5 (upd H5 e$ .lst []):=Kp.new Kp.refl fe;have aC:=I5.kp as sS sS;refine lY (xs:=ts.map λt=>V.ref t.2) (SqL.of aC.top) (SqL.of ac) λbb aY=>?_;refine .inr ⟨bb,rF,?_⟩;refine⟨_,rF,p,3,rF,P5.kp as sS,dD,dD,λdd H6 bj bk P6 K6=>?_⟩;have aD:Kp [p] H5 H6:=Kp.trans (as.weak sS) K6;have au:∀t∈ts,t.2∉[p]:=λt ht=>nm1 (by obtain⟨x,y,q,_⟩:=P4;exact(b_ (aS t ht) q).symm);have I6:ITs H6 c ts:=aC.kp K6 (nm1 ag.symm) au
  have aa:(if bb=true then(1:Int) else 0)*dd=0\/((if bb=true then(1:Int) else 0)*dd=dd/\ts≠[]):=by
   cases bb with
   |false=>left;rw[qAC dD];lia
   |true=>right;rw[qAD rF];exact⟨lL,λz=>aY rF$ by rw[z];rfl⟩
  have aE:(if bb=true then(1:Int) else 0)=0\/(if bb=true then(1:Int) else 0)=1:=by cases bb<;>simp
  generalize (if bb=true then(1:Int) else 0)=aZ at aa aE ⊢
  refine⟨_,_,rF,rF,?_,_,rF,by rcases aa with z|⟨z,_⟩<;>lia,by rcases aa with z|⟨z,_⟩<;>lia,zDf (lo:=0) (n:=(aZ*dd).toNat) (λi σ H7=>∃(o7 o8:Option V) (S:List ((Int×Int)×Addr)),σ=[some (.ref p),some (.int mo),some (.int m),some (.ref l),some (.int ar),some (.int th),some (.ref c),o7,o8]/\zCs H7 p/\Kp [p] H H7/\Txs H7 l ns/\ITs H7 c S/\(∀t∈S,t∈ts)/\S.length=ts.length+i)
   ⟨_,_,ts,rF,P6,aV.trans aD,aD l _ aU$ nm1 af.symm,I6,λt h=>h,rF⟩ ?_ ?_⟩
  .rcases aE with z|z
   .exact Or.inl ⟨lL,lL⟩
   .exact Or.inl ⟨lL,lL⟩
  .rintro i σ H7 hi ⟨o7,o8,S,rfl,P7,K7,am,I7,s7,e7⟩
   have ne:ts≠[]:=by
    rcases aa with z|⟨_,z⟩
    .rw [z]at hi;exact absurd hi$ qDH _
    .exact z
   have pos:0<S.length:=by
    have:=List.length_pos_iff.mpr ne;lia
   have ab:∀t∈S,t.2∉[p]:=λt ht=>au t$ s7 t ht;have bd:l≠c:=aB;refine⟨_,rF,.inl ⟨rF,_,SqL.of I7.top⟩,_,rF,_,rF,_,_,rF,.inl$ SqL.of I7.top,_,_,rF,rF,p,_,rF,P7,?_,?_,λd1 H8 x0 x1 P8 K8=>?_⟩
   .lia
   .rw [qAB];have:i<3:=by rcases aa with z|⟨z,_⟩<;>lia
    lia
   have I8:ITs H8 c S:=I7.kp K8 (nm1 ag.symm) ab;refine⟨_,rF,_,rF,_,rF,_,_,rF,.inl$ SqL.of I8.top,p,_,rF,P8,?_,?_,λd2 H9 y0 y1 P9 K9=>?_⟩
   .rw [qAB];lia
   .rw [qAB];have:i<3:=by rcases aa with z|⟨z,_⟩<;>lia
    lia
   have I9:ITs H9 c S:=I8.kp K9 (nm1 ag.symm) ab;rw[qAB]at x1 y1;obtain⟨t,et⟩:∃t,S[d2.toNat]?=some t:=⟨S[d2.toNat]' lL,qAx lL⟩;have a0:(S.map λt=>V.ref t.2)[d2.toNat]?=some (V.ref t.2):=by rw[qAU,et];rfl
   refine⟨_,_,_,.ref t.2,rF,rF,SqL.of I9.top,zAx y0 a0,_,_,_,_,rF,rF,I9.top,?_,x0,?_,?_⟩
   .rw [qAB,qAM];have:i<3:=by rcases aa with z|⟨z,_⟩<;>lia
    lia
   .rw [qAB];lia
   .have hp:=ST.ins_perm S d1.toNat t;refine⟨_,_,S.take d1.toNat++t::S.drop d1.toNat,rF,P9.kp (M:=[c]) (Kp.put Kp.refl sS)$ nm1 ag,Kp.new (K7.trans$ K8.trans K9) aW,(a_ aB).trans$ (K8.trans K9) l _ am$ nm1 af.symm,⟨?_,λu hu=>?_⟩,λu hu=>?_,?_⟩
    .rw [ac,oG λt:(Int×Int)×Addr=>V.ref t.2]
    .have aF:u∈S:=by
      rcases qAQ.mp (hp.mem_iff.mp hu) with z|z
      .rw [z];exact qAN et
      .exact z
     exact(a_$ zAu (I9.row u aF) I9.top λy=>nomatch y).trans$ I9.row u aF
    .rcases qAQ.mp (hp.mem_iff.mp hu) with z|z
     .rw [z];exact s7 t$ qAN et
     .exact s7 u z
    .rw [hp.length_eq,qAd,e7];lia
  .rintro σ H7 ⟨o7,o8,S,rfl,P7,K7,am,I7,s7,e7⟩;have bl:S.length<=38:=by rcases aa with z|⟨z,_⟩<;>lia
   refine⟨(by walk_at"ln"),λg hg=>?_⟩;have fg:Fre H7 g:=hg;have av:p≠g:=by obtain⟨x,y,q,_⟩:=P7;exact b_ fg q
   have a5:l≠g:=b_ fg am;have a6:c≠g:=b_ fg I7.top;have aG:Fre H g:=K7.fre fg$ nm1 av.symm;have aw:Kp [] H7 (upd H7 g$ .lst []):=Kp.new Kp.refl fg;have ab:∀t∈S,t.2∉[p]:=λt ht=>au t$ s7 t ht
   refine⟨_,rF,_,rF,lL,lL,zDf (lo:=0) (n:=m.toNat) (λi σ H8=>∃(o7:Option V)(Is:List Int),σ=[some (.ref p),some (.int mo),some (.int m),some (.ref l),some (.int ar),some (.int th),some (.ref c),o7,some (.ref g)]/\zCs H8 p/\Kp [p] H H8/\Txs H8 l ns/\ITs H8 c S/\H8 g=some (.lst$ Is.map V.int)/\jc Is i)
    ⟨_,[],rF,P7.kp aw sS,Kp.new K7 aG,aw l _ am sS,I7.kp aw sS sS,ac,rF,qAt,(λx h=>nomatch h)⟩ ?_ ?_⟩
   .rintro i σ H8 hi ⟨o7,Is,rfl,P8,K8,ao,I8,ap,S8⟩;refine⟨_,rF,.inl ⟨rF,_,SqL.of ap⟩,_,rF,_,rF,_,_,rF,rF,p,_,rF,P8,?_,?_,λd1 H9 x0 x1 P9 K9=>?_⟩
    .lia
    .lia
    have ak:=K9 g _ ap$ nm1 av.symm;refine⟨_,rF,_,_,_,_,rF,rF,ak,?_,x0,?_,?_⟩
    .rw [qAB,S8.len,qAM];lia
    .rw [qAB,S8.len];lia
    .have e1:(Is.map V.int).take d1.toNat++V.int (0+(i:Int))::(Is.map V.int).drop d1.toNat=(Is.take d1.toNat++(i:Int)::Is.drop d1.toNat).map V.int:=by
      rw[qDX];exact oG V.int Is d1.toNat (i:Int)
     rw[e1];have aq:=K9 l _ ao$ nm1 af.symm;have I9:=I8.kp K9 (nm1 ag.symm) ab;exact⟨_,_,rF,P9.kp (M:=[g]) (Kp.put Kp.refl sS)$ nm1 av,Kp.new (K8.trans K9) aG,(a_ a5).trans aq,⟨(a_ a6).trans I9.top,λu hu=>(a_$ zAu (I9.row u hu) ak λy=>nomatch y).trans$ I9.row u hu⟩,ac,S8.put _⟩
   .rintro σ H8 ⟨o7,Is,rfl,P8,K8,ao,I8,ap,S8⟩;rw[<-en]at S8;have bm:(ns.length:Int)=m:=by rw[en];lia
    refine⟨_,rF,_,rF,_,rF,⟨_,SqL.of I8.top⟩,λB hB=>zA8 (S.map λt=>V.ref t.2) (λi ys τ H9=>∃ks:List (List Str×Addr),(∃o0 o1,τ=[o0,o1,some (.ref l),some (.ref g)])/\ys=(ks.map λq=>V.ref q.2)/\ks.length=i/\(∀q∈ks,H9 q.2=some (.tup$ q.1.map V.str)/\Fre H q.2/\∃(a b:Str)(x y:Nat),q.1=[a,b]/\x<y/\(gJ ns Is)[x]?=some a/\(gJ ns Is)[y]?=some b)/\Kp [] H8 H9/\H9 B=some (.lst ys)) ⟨[],⟨_,_,rF⟩,rF,rF,(λq h=>nomatch h),Kp.new Kp.refl hB,ac⟩ (λi ys τ H9 ⟨_,_,_,_,_,k9,_⟩=>SqL.of$ k9 c _ I8.top sS) ?_ ?_⟩
    .rintro i v ys τ H9 hv ⟨ks,⟨o0,o1,rfl⟩,rfl,ek,hk,k9,h9⟩;obtain⟨t,eq,rfl⟩:=yD hv;have mt:=qAN eq;have aH:=aT t$ s7 t mt;have aI:H9 t.2=some (.tup [.int t.1.1,.int t.1.2]):=k9 t.2 _ (I8.row t mt) sS;refine⟨_,_,rF,.inl$ .inl aI,rF,_,_,rF,_,_,rF,rF,?_⟩;obtain⟨s1,n1,a1,a2,a3,a4⟩:=lv S8 aH.1 lL;obtain⟨s2,n2,b1,b2,b3,b4⟩:=lv S8 (i:=t.1.2) lL lL;have aq:=k9 l _ ao sS;have ak:=k9 g _ ap sS;have ai:∀{x:Int}{s:Int},0<=x->Is[x.toNat]?=some s->atI (Is.map V.int) x=some (.int s):=λh0 h=>zAx h0 (by rw[qAU,h];rfl);have an:∀{x:Int}{n:Str},0<=x->ns[x.toNat]?=some n->atI (ns.map V.str) x=some (.str n):=λh0 h=>zAx h0 (by rw[qAU,h];rfl);refine⟨_,rF,_,rF,_,rF,_,_,_,_,rF,rF,SqL.of ak,ai aH.1 a1,_,_,_,_,rF,rF,SqL.of aq,an a2 a3,_,rF,_,rF,_,rF,_,_,_,_,rF,rF,SqL.of ak,ai lL b1,_,_,_,_,rF,rF,SqL.of aq,an b2 b3,(by walk_at"ln"),λu hu=>?_⟩;have fu:Fre H9 u:=hu;have aJ:B≠u:=b_ fu h9;have aK:Fre H8 u:=k9.fre fu sS;have a7:p≠u:=by obtain⟨x,y,q,_⟩:=P8;exact b_ aK q
     have a8:Fre H u:=K8.fre aK$ nm1 a7.symm;refine⟨(a_ aJ).trans h9,?_,ks++[([n1,n2],u)],⟨_,_,rF⟩,?_,by rw[qAV,ek];rfl,λq hq=>?_,Kp.new (Kp.new k9$ k9.fre fu sS) hB,ac⟩
     .have:=(qAa.mp eq).1;rw[qAB,ek,qAM];lia
     .rw [qAI];rfl
     .rcases qAK.mp hq with z|z
      .obtain ⟨z1,z2⟩:=hk q z;exact⟨(a_$ zAu z1 h9 λy=>nomatch y).trans$ (a_$ b_ fu z1).trans z1,z2⟩
      .rw [qAH.mp z];exact⟨(a_ aJ.symm).trans ac,a8,n1,n2,t.1.1.toNat,t.1.2.toNat,rF,lL,a4,b4⟩
    .rintro ys τ H9 ⟨ks,_,rfl,ek,hk,k9,h9⟩;rw[qAB]at ek;refine⟨(by walk_at"ln"),λt ht=>?_⟩;have ft:Fre H9 t:=ht;have al:Kp [] H9 (upd H9 t$ .tup [.ref l,.ref B]):=Kp.new Kp.refl ft;have aL:Fre H8 t:=k9.fre ft sS;have a9:p≠t:=by obtain⟨x,y,q,_⟩:=P8;exact b_ aL q
     have ba:p≠B:=by obtain⟨x,y,q,_⟩:=P8;exact b_ (show Fre H8 B from hB) q
     have aM:=tK nd S8
     have aN:∀{x:Nat}{a:Str},(gJ ns Is)[x]?=some a->a∈ns:=λ{x a} h=>by
      obtain⟨s,hs,e⟩:=qAG.mp$ qAN h;have:=S8.lt s hs;rw[<-e,qBN,qAx lL];exact qC9 _
     refine k t l B ns ks (λn=>(gJ ns Is).idxOf n) _ (by rw[en];lia) lL ac (K8.fre aL$ nm1 a9.symm) aX (K8.fre (show Fre H8 B from hB)$ nm1 ba.symm) (λq hq=>(hk q hq).2.1) ((k9.trans al) l _ ao sS) ⟨al B _ h9 sS,λq hq=>al _ _ (hk q hq).1 sS,λq hq=>?_⟩ ⟨nm,nd,by rw[en];lia,lL,λq hq x hx=>?_,λq hq=>?_⟩ (P8.kp (k9.trans al) sS)$ K8.trans$ (k9.trans al).weak sS
     .obtain ⟨a,b,x,y,e,_⟩:=(hk q hq).2.2;exact⟨a,b,e⟩
     .obtain ⟨a,b,i,j,e,_,h1,h2⟩:=(hk q hq).2.2;rw[e]at hx;rcases qAQ.mp hx with z|z
      .rw [z];exact aN h1
      .rw [qAH.mp z];exact aN h2
     .obtain ⟨a,b,i,j,e,bc,h1,h2⟩:=(hk q hq).2.2;have e1:fst q=a:=by unfold fst;rw[e];rfl
      have e2:snd q=b:=by unfold snd;rw[e];rfl
      rw[e1,e2,zJq aM h1,zJq aM h2];exact bc
end
structure Mth(P:Program)(w:World)(K:PySem.W.Frag)(mg:Str->Option Value)(base:Heap)(C:Addr)(m:Str)(k:Nat)(ps:List Str)(sp:Sp):Prop where
 to:∃(f:Addr)(fd:FuncData),uL K C m f/\zDy K fd ps []/\eC P w K mg base CX0 k f fd ps sp
theorem zBf{m:Str}{k:Nat}{ps:List Str}{o e:Expr}{es:List Expr}{apos pos:Pos}{ta:TE}{t:TA}{pl:Sem Bool}(M:Mth X.prog X.w X.K X.mg X.base C m k ps sp)(c:Cls X.K C)(V:eR k X.A)(W:PE X o ta)(ha:PA X (e::es) t)
  (O:starEach (e::es) X.env=(false,eval e X.env)::starEach es X.env:=by rfl) (S:(backTo pos$ starEach es X.env).any (·.1)=false:=by rfl)
  (ht:eval (.Call (.Attribute o m apos) (e::es) [] pos) X.env=(do
   let ov<-eval o X.env
   standAt apos.atName
   let(f,first)<-holding [ov] (getMethod ov m pl)
   callWith pos f first (backTo pos$ starEach (e::es) X.env) (backToKw pos$ keywordEach [] X.env)):=by rfl):PE X (.Call (.Attribute o m apos) (e::es) [] pos) (pG C m sp [] E0 ta t):=by
 obtain⟨f,fd,h1,h2,h3⟩:=M.to;exact uO W c h1 h3 V h2 .nil iq ha O S ht
theorem zDa{m:Str}{k:Nat}{ps:List Str}{o:Expr}{apos pos:Pos}{ta:TE}{pl:Sem Bool}(M:Mth X.prog X.w X.K X.mg X.base C m k ps sp)(c:Cls X.K C)(O:eR k X.A)(S:PE X o ta)
  (V:eval (.Call (.Attribute o m apos) [] [] pos) X.env=(do
   let ov<-eval o X.env
   standAt apos.atName
   let(f,first)<-holding [ov] (getMethod ov m pl)
   callWith pos f first (backTo pos$ starEach [] X.env) (backToKw pos$ keywordEach [] X.env)):=by rfl):PE X (.Call (.Attribute o m apos) [] [] pos) (pG C m sp [] E0 ta pW):=by
 obtain⟨f,fd,h1,h2,h3⟩:=M.to;exact tJ S c h1 h3 O h2 .nil iq V
theorem xx{j:Addr}{r:Str->Nat}(A:eI C H j J)(G:gn J.ns qs r)(hz:∀k,k∈J.zs.map (·.1)↔k∈qs.map (·.1)):∀(b:Nat)(n x:Str),r n<=b->n∈J.ns->x∈J.S n->r x<r n:=by
 have tk:∀n x,x∈told J.zs n->x∈J.ns/\r x<r n:=λn x O=>by
  obtain⟨q,S,q2,q3⟩:=zIo.mp O;have:q.1∈qs.map (·.1):=(hz q.1).mp$ qAG.mpr ⟨q,S,rF⟩;obtain⟨q',h1,h2⟩:=qAG.mp this;obtain⟨e1,e2⟩:=hX h2;obtain⟨a,b,V⟩:=A.prs.two q S;refine⟨?_,by rw[<-q2,<-q3,<-e1,<-e2];exact G.rk q' h1⟩;rw[<-q3];refine A.zin q S _ ?_;unfold fst;rw[V];simp
 intro b
 induction b with
 |zero=>
  intro n x hb W O;rcases(A.mem n W x).mp O with z|⟨m,z,_⟩
  .exact (tk n x z).2
  .have:=(tk n m z).2;lia
 |succ b ih=>
  intro n x hb W O;rcases(A.mem n W x).mp O with z|⟨m,z,z'⟩
  .exact (tk n x z).2
  .have h1:=tk n m z;exact Nat.lt_trans (ih m x lL h1.1 z') h1.2
structure Mkr(P:Program)(w:World)(K:PySem.W.Frag)(mg:Str->Option Value)(base:Heap)(C:Addr)(x:Str)(k:Nat)(ps:List Str)(sp:Sp):Prop where
 to:∃(f:Addr)(fd:FuncData),Mk K C f/\mg x=some (.ref C)/\zDy K fd ps []/\eC P w K mg base CX0 k f fd ps sp
theorem zLd{k:Nat}{ps:List Str}{e:Expr}{es:List Expr}{p pos:Pos}{t:TA}(M:Mkr X.prog X.w X.K X.mg X.base C x k (("self": Str)::ps) sp)(V:eR (k+1) X.A)(W:Gl X x)(ha:PA X (e::es) t)
  (O:(x==("__debug__": Str))=false:=by decide) (he:starEach (e::es) X.env=(false,eval e X.env)::starEach es X.env:=by rfl) (S:(backTo pos$ starEach es X.env).any (·.1)=false:=by rfl):PE X (.Call (.Name x p) (e::es) [] pos) (oJ C sp [] E0 t):=by
 obtain⟨f,fd,h1,h2,h3,h4⟩:=M.to;exact vQ h1 h4 V W h2 h3 .nil iq ha O he S
def TA(qs:List (List Str×Addr))(a b:Str):Prop:=∃q∈qs,fst q=a/\snd q=b
inductive Way(qs:List (List Str×Addr)):Str->Str->Prop
 |one {a b:Str}:TA qs a b->Way qs a b
 |more {a b c:Str}:Way qs a b->TA qs b c->Way qs a c
theorem TA.to(two:∀q∈qs,∃a b,q.1=[a,b])(O:∀q∈qs,∀x∈q.1,x∈ns){a b:Str}(h:TA qs a b):a∈ns/\b∈ns:=by
 obtain⟨q,S,rfl,rfl⟩:=h;obtain⟨a,b,e⟩:=two q S;unfold fst snd;rw[e];exact⟨O q S a (by rw[e];simp),O q S b$ by rw[e];simp⟩
theorem Way.to(two:∀q∈qs,∃a b,q.1=[a,b])(O:∀q∈qs,∀x∈q.1,x∈ns){a b:Str}(h:Way qs a b):a∈ns/\b∈ns:=by
 induction h with
 |one h=>exact h.to two O
 |more _ h S=>exact⟨S.1,(h.to two O).2⟩
theorem yO{j:Addr}{r:Str->Nat}(A:eI C H j J)(G:gn J.ns qs r)(hz:∀k,k∈J.zs.map (·.1)↔k∈qs.map (·.1))(O:n∈J.ns):x∈J.S n↔Way qs x n:=by
 have tk:∀n x,x∈told J.zs n↔TA qs x n:=λn x=>by
  rw[zIo];constructor
  .rintro ⟨q,h1,h2,h3⟩;obtain⟨V,h4,h5⟩:=qAG.mp$ (hz q.1).mp$ qAG.mpr ⟨q,h1,rF⟩;obtain⟨W,e2⟩:=hX h5;exact⟨V,h4,W.trans h3,e2.trans h2⟩
  .rintro ⟨q,h1,h2,h3⟩;obtain⟨V,h4,h5⟩:=qAG.mp$ (hz q.1).mpr$ qAG.mpr ⟨q,h1,rF⟩;obtain⟨W,e2⟩:=hX h5;exact⟨V,h4,e2.trans h3,W.trans h2⟩
 have S:∀n x,TA qs x n->x∈J.ns/\r x<r n:=λn x h=>by
  have hT:=(tk n x).mpr h;obtain⟨q,q1,q2,q3⟩:=zIo.mp hT;obtain⟨a,b,e⟩:=A.prs.two q q1;refine⟨?_,?_⟩
  .rw [<-q3];refine A.zin q q1 _ ?_;unfold fst;rw[e];simp
  .obtain ⟨V,h1,h2,h3⟩:=h;rw[<-h2,<-h3];exact G.rk V h1
 constructor
 .have:∀(b:Nat)(n:Str),r n<=b->n∈J.ns->∀x,x∈J.S n->Way qs x n:=by
   intro b
   induction b with
   |zero=>
    intro n hb O x hx;rcases(A.mem n O x).mp hx with z|⟨m,z,_⟩
    .exact .one$ (tk n x).mp z
    .have:=(S n m$ (tk n m).mp z).2;lia
   |succ b ih=>
    intro n hb O x hx;rcases(A.mem n O x).mp hx with z|⟨m,z,z'⟩
    .exact .one$ (tk n x).mp z
    .have h1:=S n m$ (tk n m).mp z;exact .more (ih m lL h1.1 x z')$ (tk n m).mp z
  exact this (r n) n (qAF _) O x
 .intro w
  induction w with
  |one h=>exact(A.mem _ O _).mpr$ .inl$ (tk _ _).mpr h
  |more _ h ih=>exact(A.mem _ O _).mpr$ .inr ⟨_,(tk _ _).mpr h,ih (S _ _ h).1⟩
structure DS(H0 H:Hp)(d:Addr)(ns:List Str)(la:Str->Addr)(L:Str->List Str):Prop where
 top:H d=some (.dK$ dT1 ns λn=>.ref$ la n)
 row:∀n∈ns,fM H (la n) (L n)
 ne:∀n∈ns,la n≠d
 fr:Fre H0 d
 frs:∀n∈ns,Fre H0 (la n)
theorem qP{K:PySem.W.Frag}{c e:Addr}{xs:List V}{Q:VK}(h1:SqL K H c xs)(h2:SqL K H e [])(h:Q (.bl$ decide$ xs≠[]) H):fP K 8 false (.ref c) (.ref e) H Q\/fQ K true (.ref c) (.ref e) H Q:=by
 by_cases z:xs=[]
 .subst z;exact .inl ⟨c,e,_,_,rF,rF,h1,h2,rF,(λi x y h=>by simp at h),h⟩
 .rw [qAJ z]at h;exact .inr ⟨c,e,_,_,rF,rF,h1,h2,λy=>z$ qBa.mp y,h⟩
def fG(H:Hp)(a:Addr):Nat:=match H a with
 |some (.lst xs)=>xs.length
 |some (.dK kvs)=>kvs.length
 |_=>0
theorem zE9{a:Addr}{xs:List V}(h:H a=some (.lst xs)):fG H a=xs.length:=by unfold fG;rw[h]
theorem jR{a:Addr}{kvs:List (Key×V)}(h:H a=some (.dK kvs)):fG H a=kvs.length:=by unfold fG;rw[h]
theorem zL9(B:List Str)(x:Str)(g:Str->V):dT1 (B++[x]) g=dT1 B g++[(.inr x,g x)]:=by unfold dT1;rw[qAI];rfl
theorem zEj(B:List Str)(g:Str->V):(dT1 B g).length=B.length:=by unfold dT1;rw[qAB]
structure DR(H:Hp)(d:Addr)(ns:List Str)(la:Str->Addr)(L:Str->List Str):Prop where
 top:H d=some (.dK$ dT1 ns λn=>.ref$ la n)
 row:∀n∈ns,fM H (la n) (L n)
theorem DS.rd{O:Str->Addr}{L:Str->List Str}(D:DS H0 H d ns O L):DR H d ns O L:=⟨D.top,D.row⟩
theorem DR.kp0{O:Str->Addr}{L:Str->List Str}(D:DR H d ns O L)(k:Kp [] H H'):DR H' d ns O L:=⟨k d _ D.top sS,λn S=>k _ _ (D.row n S) sS⟩
theorem DR.get{O:Str->Addr}{L:Str->List Str}(D:DR H d ns O L){y:Str}(S:y∈ns):eO H d (.str y) (some$ .ref$ O y):=by
 have:=eO.k (k:=Sum.inr y) D.top;rw[zB3,qAD S]at this;exact this
def zBu(qs:List (List Str×Addr))(n:Str):List Str:=(qs.filter λq=>decide$ fst q=n).map snd
theorem zG4{y:Str}:y∈zBu qs n↔TA qs n y:=by
 unfold zBu TA;simp only[qAG,qAc,qA1];exact⟨λ⟨q,⟨a,b⟩,c⟩=>⟨q,a,b,c⟩,λ⟨q,a,b,c⟩=>⟨q,⟨a,b⟩,c⟩⟩
theorem zG1(qs:List (List Str×Addr))(n:Str):(zBu qs n).length<=qs.length:=by
 unfold zBu;rw[qAB];exact qAq _ _
structure NR(H:Hp)(d:Addr)(ns:List Str)(na:Str->Addr)(f:Str->List Str):Prop where
 top:H d=some (.dK$ dT1 ns λn=>.ref$ na n)
 row:∀n∈ns,Txs H (na n) (f n)
theorem NR.kp{M:List Addr}{O:Str->Addr}{f:Str->List Str}(D:NR H d ns O f)(k:Kp M H H')(h1:d∉M)(h2:∀n∈ns,O n∉M):NR H' d ns O f:=⟨k d _ D.top h1,λn S=>k _ _ (D.row n S)$ h2 n S⟩
theorem NR.get{O:Str->Addr}{f:Str->List Str}(D:NR H d ns O f){y:Str}(S:y∈ns):eO H d (.str y) (some$ .ref$ O y):=by
 have:=eO.k (k:=Sum.inr y) D.top;rw[zB3,qAD S]at this;exact this
structure BK(qs:List (List Str×Addr))(ns:List Str)(n:Str)(B W:List Str):Prop where
 nd:B.Nodup
 sub:∀x∈B,x∈ns
 way:∀x∈B,Way qs n x
 wl:∀x∈W,Way qs n x
 c0:∀y,TA qs n y->y∈B\/y∈W
 cl:∀x∈B,∀y,TA qs x y->y∈B\/y∈W
 cap:W.length+307*(20-B.length)<=6447
theorem BK.start(h:qs.length<=306):BK qs ns n [] (zBu qs n) :=
 ⟨qAt,(λx h=>nomatch h),(λx h=>nomatch h),λx h=>.one$ zG4.mp h,λy h=>.inr$ zG4.mpr h,(λx h=>nomatch h),by
  have:=zG1 qs n;simp only[qBS];lia⟩
theorem BK.old{S:Str}{B W:List Str}(b:BK qs ns n B (W++[S]))(h:S∈B):BK qs ns n B W:=by
 have mv:∀y,(y∈B\/y∈W++[S])->y∈B\/y∈W:=λy O=>by
  rcases O with z|z
  .exact .inl z
  .rcases qAK.mp z with z|z
   .exact .inr z
   .rw [qAH.mp z];exact .inl h
 refine⟨b.nd,b.sub,b.way,λx V=>b.wl x$ qAj _ V,λy O=>mv y$ b.c0 y O,λx V y O=>mv y$ b.cl x V y O,?_⟩;have:=b.cap;rw[qAV,qAp]at this;lia
theorem BK.new{O:Str}{B W:List Str}(b:BK qs ns n B (W++[O]))(h:O∉B)(S:O∈ns)(hn:ns.length<=20)(hq:qs.length<=306):BK qs ns n (B++[O]) (W++zBu qs O)/\(W++zBu qs O).length+307*(20-(B++[O]).length)<W.length+1+307*(20-B.length):=by
 have nd:(B++[O]).Nodup:=qA6.mpr ⟨b.nd,sS,λa ha d hd=>by
  rw[qAH.mp hd];exact λz=>h$ z▸ha⟩
 have sub:∀x∈B++[O],x∈ns:=λx h=>by
  rcases qAK.mp h with z|z
  .exact b.sub x z
  .rw [qAH.mp z];exact S
 have w0:Way qs n O:=b.wl O sS
 have mv:∀y,(y∈B\/y∈W++[O])->y∈B++[O]\/y∈W++zBu qs O:=λy V=>by
  rcases V with z|z
  .exact .inl$ qAj _ z
  .rcases qAK.mp z with z|z
   .exact .inr$ qAj _ z
   .exact .inl$ qAr _ z
 have less:(W++zBu qs O).length+307*(20-(B++[O]).length)<W.length+1+307*(20-B.length):=by
  have h1:=zB4 nd sub;have h2:=zG1 qs O;simp only[qAV,qAp]at *
  lia
 refine⟨⟨nd,sub,λx S=>?_,λx S=>?_,λy V=>mv y$ b.c0 y V,λx S y V=>?_,?_⟩,less⟩
 .rcases qAK.mp S with z|z
  .exact b.way x z
  .rw [qAH.mp z];exact w0
 .rcases qAK.mp S with z|z
  .exact b.wl x$ qAj _ z
  .exact .more w0$ zG4.mp z
 .rcases qAK.mp S with z|z
  .exact mv y$ b.cl x z y V
  .rw [qAH.mp z]at V;exact .inr$ qAr _$ zG4.mpr V
 .have:=b.cap;rw[qAV,qAp]at this;lia
theorem BK.all{B:List Str}(b:BK qs ns n B [])(x:Str):x∈B↔Way qs n x:=by
 refine⟨b.way x,λh=>?_⟩
 induction h with
 |one h=>exact(b.c0 _ h).elim id (λz=>nomatch z)
 |more _ h O=>exact(b.cl _ O _ h).elim id (λz=>nomatch z)
theorem lB{b:Addr}{O:Str->Addr}(h:n∉ns):dT1 ns (λn=>V.ref$ O n)++[(Sum.inr n,V.ref b)]=dT1 (ns++[n]) (λx=>V.ref$ if x=n then b else O x):=by
 rw[zL9,qAD rF];congr 1;exact zJt λx S=>by rw[qAC$ show¬x=n from λz=>h$ z▸S]
section
inductive gu(vs:List V)(H:Hp)(Q:VK)(u_3:XK):Prop
 |mk:∀(l m:Addr)(ns:List Str) (qs:List (List Str×Addr)),vs=[.ref l,.ref m]->Txs H l ns->gA H m qs->ns.Nodup->ns.length<=20->qs.length<=306->(∀q∈qs,∀x∈q.1,x∈ns)->(∀d la L H',DS H H' d ns la L->(∀n∈ns,(L n).Nodup/\∀x,x∈L n↔Way qs n x)->Kp [] H H'->Q (.ref d) H')->gu vs H Q u_3
abbrev zIh:Stmt:=top 112
theorem zC6:c_ ["_law_names_here","_law_orders","_law_near","_law_name","_law_found","_law_waiting","_law_here"] ["_law_names_here","_law_orders"] (zAe zIh):=fnS
theorem pV(F:Fun K "_law_behind" "_law_behind" zIh f fd)(T:Txt K mg):eC P w K mg base CX0 1 f fd ["_law_names_here","_law_orders"] gu:=by
 refine F.ok zC6 (λvs H Q E h=>?_) λaQ A aF s H vs Q E hr h=>?_
 .obtain ⟨l,m,ns,qs,rfl,_⟩:=h;rfl
 .obtain ⟨l,m,ns,qs,rfl,hl,hm,hN,hn,hz,hq,k⟩:=h;have hu:=zD3 hr
  refine⟨_,(zAb (psS (i:=2) zC6.nd zB1) (zAb (zA4 qAZ rF (zAl$ pv 0) (pgN (i:=3) zC6.nd)$ zAd$ zCi hu (pv 2) (pv 3) (zA6 rF (zBe (sc:=zAe zIh) rF kK) (d_.own (x:="_law_one")$ d_.own (x:="_law_other")$ dtk (i:=3) rF d_.nil) (zAl$ pv 1) (λ_ _ _ _=>(zJa (K:=K) (n:=2) rF$ zAr (pgB (i:=0))$ zAr (pgB (i:=1)) zBz)) (λ_ _ _ _=>(zB8$ zAj zCo (pv 0) (pv 2)$ zAo _)) λ_ _ _ _=>(pv 1)) rF)
   (zAb (psS (i:=4) zC6.nd zB1)
   (zAb (zA4 qAZ rF (zAl$ pv 0) (pgN (i:=3) zC6.nd)
    (zAb (zCi hu (pv 4) (pv 3) zB1 rF)
    (zAb (psS (i:=5) zC6.nd$ zAz zDr rR T.z_list zHy$ zAa (zBt hu (pv 2) (pv 3) fun _ _=>rfl) zAc)
    (zAd (zGu qAZ (zAj (zJc hr) (pv 5) (zAw zAc)$ zAo _)
     (zAb (psS (i:=6) zC6.nd$ tY qA7 PySem.F.slot_list_pop PySem.F.type_list_pop rm$ pv 5)
     (zAd (zA1 (zE0$ zE1 hu (pv 6)$ zBt hu (pv 4) (pv 3) fun _ _=>rfl)
      (zAb (zCi hu (zBt hu (pv 4) (pv 3) fun _ _=>rfl) (pv 6) zJz rF)$ zAd$ zBb$ zCj qA7 qDV qDW zG3 (pv 5)$ zAa (zBt hu (pv 2) (pv 6) λ_ _=>rfl) zAc)
      zAi))))))))$ zAd$ zAk$ pv 4)))),?_⟩
  refine wN ?_;intro _ _ _ _ _;refine λd0 aG=>?_;have am:Fre H d0:=aG
  refine⟨_,rF,_,rF,⟨_,SqL.of$ (Kp.new (M:=[]) Kp.refl am) l _ hl sS⟩,zA0 (λi σ H2=>(∃o3 o4 o5 o6:Option V,σ=[some (.ref l),some (.ref m),some (.ref d0),o3,o4,o5,o6])/\Kp [] H H2/\∃na,NR H2 d0 (ns.take i) na (zBu qs)) ⟨⟨_,_,_,_,rF⟩,Kp.new Kp.refl am,λ_=>0,ac,(λn h=>nomatch h)⟩ (λi σ H2 _ ⟨_,k2,_⟩=>SqL.of$ k2 l _ hl sS) ?_ ?_⟩
  .rintro i v σ H2 hv ⟨⟨o3,o4,o5,o6,rfl⟩,k2,na,N⟩;obtain⟨n,en,rfl⟩:=zBh hv;have ni:=zFi hN en;have an:=hm.kp k2 sS sS
   refine⟨_,rF,_,rF,⟨_,SqL.of an.top⟩,λB hB=>zBs (qs.map λq=>V.ref q.2) (λi ys τ H3=>(∃o0 o1,τ=[o0,o1,some (.str n)])/\ys=(zBu (qs.take i) n).map V.str/\H3=upd H2 B (.lst ys)) ⟨⟨_,_,rF⟩,rF,rF⟩ (λi ys τ H3 ⟨_,_,z⟩=>by subst z;exact SqL.of$ (Kp.new (M:=[]) Kp.refl hB) _ _ an.top sS) ?_ ?_⟩
   .rintro i v ys τ H3 hv ⟨⟨o0,o1,rfl⟩,rfl,rfl⟩;obtain⟨q,eq,rfl⟩:=g9 hv;have mq:=qAN eq;obtain⟨x,y,ao⟩:=hm.two q mq
    have av:(upd H2 B$ .lst$ (zBu (qs.take i) n).map V.str) q.2=some (.tup [.str x,.str y]):=by
     have:=(Kp.new (l:=B) (o:=.lst$ (zBu (qs.take i) n).map V.str) (M:=[]) Kp.refl hB) q.2 _ (an.row q mq) sS;rw[ao]at this;exact this
    have e1:fst q=x:=(by unfold fst;rw[ao];rfl);have e2:snd q=y:=(by unfold snd;rw[ao];rfl);refine⟨_,_,rF,.inl$ .inl av,rF,_,_,rF,_,_,rF,rF,?_⟩;refine⟨_,rF,_,rF,rF,_,rF,eU (λc=>?_) λc=>?_⟩
    .have c':x=n:=by simpa using c
     refine⟨_,rF,ac,?_,⟨_,_,rF⟩,?_,zBm⟩
     .have:=zG1 (qs.take i) n;rw[qAX]at this;rw[qAB,qAM];lia
     .have:zBu (qs.take$ i+1) n=zBu (qs.take i) n++[y]:=by
       unfold zBu;rw[zFn eq$ qAJ$ e1.trans c',qAI,qAi,e2];rfl
      rw[this,qAI];rfl
    .have c':¬x=n:=λz=>c (by simpa using z);refine⟨⟨_,_,rF⟩,?_,?_⟩
     .have:zBu (qs.take$ i+1) n=zBu (qs.take i) n:=by
       unfold zBu;rw[zHw eq$ by rw[e1];simpa using c']
      rw[this]
     .rfl
   .rintro ys τ H3 ⟨_,rfl,rfl⟩;have eT:qs.take (qs.map λq=>V.ref q.2).length=qs:=by rw[qAB,qAY]
    rw[eT];have fB:Fre H2 B:=hB;have nB:d0≠B:=b_ fB N.top;have k3:Kp [] H2 (upd H2 B$ .lst$ (zBu qs n).map V.str):=Kp.new Kp.refl fB;have aa:=k3 d0 _ N.top sS;refine⟨_,rF,_,rF,_,_,rF,fR.k (k:=Sum.inr n) aa ?_,?_⟩
    .rw [zEj,qAX,qAM];lia
    rw[zEz _ ni,lB ni,<-zAh en];refine⟨⟨_,_,_,_,rF⟩,Kp.new (k2.trans k3) am,λx=>if x=n then B else na x,ac,λx hx=>?_⟩;show Txs _ (if x=n then B else na x) (zBu qs x)
    by_cases z:x=n
    .rw [qAD z,z];exact(a_ nB.symm).trans ac
    .rw [qAC z];rw[zAh en]at hx;rcases qAK.mp hx with y|y
     .have h1:=k3 _ _ (N.row x y) sS;exact(a_$ zAu h1 aa λz=>nomatch z).trans h1
     .exact absurd (qAH.mp y) z
  .rintro σ H1 ⟨⟨o3,o4,o5,o6,rfl⟩,k1,na,N⟩;have eT:ns.take (ns.map V.str).length=ns:=by rw[qAB,qAY]
   rw[eT]at N;refine λd hd=>?_;have ag:Fre H1 d:=hd;have fd:Fre H d:=k1.fre ag sS;have aw:d0≠d:=b_ ag N.top;have N1:NR (upd H1 d$ .dK []) d0 ns na (zBu qs):=N.kp (M:=[]) (Kp.new Kp.refl ag) sS sS
   refine⟨_,rF,_,rF,⟨_,SqL.of$ (Kp.new (M:=[]) k1 fd) l _ hl sS⟩,zA0 (λi σ H2=>(∃o3 o5 o6:Option V,σ=[some (.ref l),some (.ref m),some (.ref d0),o3,some (.ref d),o5,o6])/\Kp [] H H2/\Kp [d] H1 H2/\∃la L,DS H H2 d (ns.take i) la L/\∀n∈ns.take i,(L n).Nodup/\∀x,x∈L n↔Way qs n x) ⟨⟨_,_,_,rF⟩,Kp.new k1 fd,Kp.put Kp.refl sS,λ_=>0,λ_=>[],⟨ac,(λn h=>nomatch h),(λn h=>nomatch h),fd,(λn h=>nomatch h)⟩,(λn h=>nomatch h)⟩ (λi σ H2 _ ⟨_,k2,_⟩=>SqL.of$ k2 l _ hl sS) ?_ ?_⟩
   .rintro i0 v σ H2 hv ⟨⟨o3,o5,o6,rfl⟩,k2,q2,la,L,D,hL⟩;refine im ?_;intro _ _ _;obtain⟨n,en,rfl⟩:=zBh hv;have mn:=qAN en;have ni:=zFi hN en;have ax:∀x∈ns,na x≠d:=λx hx=>b_ ag$ N.row x hx;have N2:NR H2 d0 ns na (zBu qs):=N.kp q2 (nm1 aw) λx hx=>nm1$ ax x hx;refine λb hb=>?_;have fb:Fre H2 b:=hb;have ae:d≠b:=b_ fb D.top;have ap:Fre H b:=k2.fre fb sS;refine⟨_,rF,_,rF,_,_,rF,fR.k (k:=Sum.inr n) ((a_ ae).trans D.top) ?_,?_⟩
    .rw [zEj,qAX,qAM];lia
    rw[zEz _ ni,lB ni,<-zAh en];have k3:Kp [] H (upd (upd H2 b$ .dK []) d$ .dK$ dT1 (ns.take$ i0+1) λx=>.ref$ if x=n then b else la x):=Kp.new (Kp.new k2 ap) fd;have q3:Kp [d] H2 (upd (upd H2 b$ .dK []) d$ .dK$ dT1 (ns.take$ i0+1) λx=>.ref$ if x=n then b else la x):=Kp.put (Kp.new Kp.refl fb) sS;have aa:(upd (upd H2 b$ .dK []) d$ .dK$ dT1 (ns.take$ i0+1) λx=>.ref$ if x=n then b else la x) d=some (.dK$ dT1 (ns.take$ i0+1) λx=>.ref$ if x=n then b else la x):=ac;have ah:(upd (upd H2 b$ .dK []) d$ .dK$ dT1 (ns.take$ i0+1) λx=>.ref$ if x=n then b else la x) b=some (.dK []):=(a_ ae.symm).trans ac;generalize upd (upd H2 b$ .dK []) d (.dK$ dT1 (ns.take$ i0+1) λx=>.ref$ if x=n then b else la x)=H3 at k3 q3 aa ah ⊢;have N3:NR H3 d0 ns na (zBu qs):=N2.kp q3 (nm1 aw) λx hx=>nm1$ ax x hx;have aH:∀x∈ns.take i0,fM H3 (la x) (L x):=λx hx=>q3 _ _ (D.row x hx)$ nm1$ D.ne x hx;have aI:∀x∈ns.take i0,la x≠b:=λx hx=>b_ fb$ D.row x hx;refine⟨_,rF,_,rF,_,_,rF,N3.get mn,_,_,rF,.inl$ SqL.of$ N3.row n mn,λO aJ=>?_⟩;have fw:Fre H3 O:=aJ;have k4:Kp [] H3 (upd H3 O$ .lst$ (zBu qs n).map V.str):=Kp.new Kp.refl fw;have ay:Txs (upd H3 O$ .lst$ (zBu qs n).map V.str) O (zBu qs n):=ac;have ai:b≠O:=b_ fw ah;have az:d≠O:=b_ fw aa;have aK:Fre H O:=k3.fre fw sS;generalize upd H3 O (.lst$ (zBu qs n).map V.str)=H4 at k4 ay ⊢;have aL:fM H4 b []:=k4 b _ ah sS;have aA:=k4 d _ aa sS;have N4:NR H4 d0 ns na (zBu qs):=N3.kp k4 sS sS;have aM:=k3.trans k4;have aN:∀x∈ns,na x∉[b,O]:=λx hx=>nm2 (zAu (N3.row x hx) ah λz=>nomatch z)$ b_ fw$ N3.row x hx;have aO:d0∉[b,O]:=nm2 (b_ fb N2.top)$ b_ fw N3.top
    have gd:∀{Hx:Hp},Hx d=some (.dK$ dT1 (ns.take$ i0+1) λx=>.ref$ if x=n then b else la x)->eO Hx d (.str n) (some$ .ref b):=λh=>by
     have h1:=eO.k (k:=Sum.inr n) h;rw[zB3,qAD (by rw[zAh en];simp),qAD rF]at h1;exact h1
    refine zKx (λσ H5=>(∃o6:Option V,σ=[some (.ref l),some (.ref m),some (.ref d0),some (.str n),some (.ref d),some (.ref O),o6])/\Kp [b,O] H4 H5/\∃B W,fM H5 b B/\Txs H5 O W/\BK qs ns n B W) (λ_ H5=>307*(20-fG H5 b)+fG H5 O)
     ⟨⟨_,rF⟩,Kp.refl,[],zBu qs n,aL,ay,BK.start hz⟩ ?_ λσ H Q Q' hq hc=>?_
    .rintro σ H5 ⟨⟨aR,rfl⟩,k5,B,W,hB,hW,I5⟩;refine⟨_,rF,(by walk_at"ln"),λe he=>?_⟩;have fe:Fre H5 e:=he;have aj:Kp [] H5 (upd H5 e$ .lst []):=Kp.new Kp.refl fe;have aq:fM (upd H5 e$ .lst []) b B:=aj b _ hB sS;have ab:Txs (upd H5 e$ .lst []) O W:=aj O _ hW sS;have aB:(upd H5 e$ .lst []) e=some (.lst []):=ac;have ad:Kp [b,O] H4 (upd H5 e$ .lst []):=λc o h z=>aj c o (k5 c o h z) sS;generalize upd H5 e (.lst [])=H6 at aj aq ab aB ad ⊢;refine qP (SqL.of ab) (SqL.of aB) ?_;refine⟨_,rF,eU (λc=>?_) λc=>?_⟩
     .obtain ⟨W0,S,rfl⟩:∃W0 S,W=W0++[S]:=by
       have:W≠[]:=λz=>by rw[z]at c;exact absurd c dD
       exact⟨W.dropLast,W.getLast this,(qCQ this).symm⟩
      have eW:(W0++[S]).map V.str=W0.map V.str++[.str S]:=by rw[qAI];rfl
      have ab:H6 O=some (.lst$ W0.map V.str++[.str S]):=by rw[<-eW];exact ab
      have aC:=I5.cap;rw[qAV,qAp]at aC;have ar:S∈ns:=((I5.wl S sS).to hm.two hq).2;refine⟨_,rF,.inl ⟨rF,_,SqL.of ab⟩,_,_,.str S,rF,rF,ab,sS,?_⟩;rw[List.dropLast_concat];have k7:Kp [b,O] H4 (upd H6 O$ .lst$ W0.map V.str):=Kp.put ad sS;have ak:Txs (upd H6 O$ .lst$ W0.map V.str) O W0:=ac;have af:fM (upd H6 O$ .lst$ W0.map V.str) b B:=(a_ ai).trans aq;generalize upd H6 O (.lst$ W0.map V.str)=H7 at k7 ak af ⊢;have s3:fG H5 b=B.length:=by rw[jR hB,zEj]
      have s4:fG H5 O=W0.length+1:=by rw[zE9 hW,qAB,qAV];rfl
      obtain⟨o,g1,g2⟩:=jm af S;have aD:=k7 d _ aA$ nm2 ae az;refine⟨_,rF,_,rF,_,rF,_,_,rF,gd aD,_,o,rF,g1,_,rF,?_⟩;rw[g2];refine eU (λc2=>?_) λc2=>?_
      .have al:S∉B:=by simpa using c2
       obtain⟨I7,less⟩:=I5.new al ar hn hz;refine⟨_,rF,_,rF,_,_,rF,gd aD,_,rF,_,_,rF,fR.k (k:=Sum.inr S) af ?_,?_⟩
       .have:=zB4 I5.nd I5.sub;rw[zEj,qAM];lia
       rw[zEz _ al,<-zL9 B S λ_=>.bl true];have as:Txs (upd H7 b$ .dK$ dT1 (B++[S]) λ_=>.bl true) O W0:=(a_ ai.symm).trans ak;have k8:Kp [b,O] H4 (upd H7 b$ .dK$ dT1 (B++[S]) λ_=>.bl true):=Kp.put k7 sS;have au:fM (upd H7 b$ .dK$ dT1 (B++[S]) λ_=>.bl true) b (B++[S]):=ac;generalize upd H7 b (.dK$ dT1 (B++[S]) λ_=>.bl true)=H8 at k8 as au ⊢;have N8:NR H8 d0 ns na (zBu qs):=N4.kp k8 aO aN;refine⟨_,rF,.inl ⟨rF,_,SqL.of as⟩,_,rF,_,rF,_,_,rF,N8.get ar,_,_,_,_,rF,rF,as,N8.row S ar,?_,?_⟩
       .have:=zG1 qs S;rw[qAB,qAB,qAM];lia
       have aE:∀Hx:Hp,Txs (upd Hx O$ .lst$ W0.map V.str++(zBu qs S).map V.str) O (W0++zBu qs S):=λHx=>by
        show upd _ O _ O=some (.lst$ (W0++zBu qs S).map V.str);rw[ac,qAI]
       refine⟨⟨⟨_,rF⟩,Kp.put k8 sS,B++[S],W0++zBu qs S,(a_ ai).trans au,aE _,I7⟩,?_⟩;have s1:∀o,fG (upd H8 O o) b=(B++[S]).length:=λo=>by rw[jR$ (a_ ai).trans au,zEj]
       have s2:fG (upd H8 O$ .lst$ W0.map V.str++(zBu qs S).map V.str) O=(W0++zBu qs S).length:=by rw[zE9$ aE H8,qAB]
       show 307*(20-fG _ b)+fG _ O<307*(20-fG H5 b)+fG H5 O;rw[s1,s2,s3,s4];lia
      .have al:S∈B:=by simpa using c2
       refine⟨⟨⟨_,rF⟩,k7,B,W0,af,ak,I5.old al⟩,?_⟩;have s1:fG H7 b=B.length:=by rw[jR af,zEj]
       have s2:fG H7 O=W0.length:=by rw[zE9 ak,qAB]
       show 307*(20-fG H7 b)+fG H7 O<307*(20-fG H5 b)+fG H5 O;rw[s1,s2,s3,s4];lia
     .have eW:W=[]:=by
       cases W with
       |nil=>rfl
       |cons _ _=>exact absurd (qAJ sS) c
      subst eW;have k6:Kp [] H H6:=λc o h _=>ad c o (aM c o h sS)$ nm2 (b_ ap h)$ b_ aK h
      have q6:Kp [d] H1 H6:=λc o h z=>by
       have h2:=q2 c o h z;have h3:=q3 c o h2 z;exact ad c o (k4 c o h3 sS)$ nm2 (b_ fb h2)$ b_ fw h3
      have aP:=ad d _ aA$ nm2 ae az
      have cs:∀x,x∈ns.take (i0+1)->(x∈ns.take i0/\x≠n)\/x=n:=λx h=>by
       rw[zAh en]at h;rcases qAK.mp h with z|z
       .exact .inl ⟨z,λy=>ni$ y▸z⟩
       .exact .inr$ qAH.mp z
      refine⟨⟨_,_,_,rF⟩,k6,q6,λx=>if x=n then b else la x,λx=>if x=n then B else L x,⟨aP,λx hx=>?_,λx hx=>?_,D.fr,λx hx=>?_⟩,λx hx=>?_⟩
      .show fM H6 (if x=n then b else la x) (if x=n then B else L x);rcases cs x hx with⟨z1,z2⟩|z
       .rw [qAC z2,qAC z2];have h3:=aH x z1;exact ad _ _ (k4 _ _ h3 sS)$ nm2 (aI x z1)$ b_ fw h3
       .rw [qAD z,qAD z];exact aq
      .show (if x=n then b else la x)≠d;rcases cs x hx with⟨z1,z2⟩|z
       .rw [qAC z2];exact D.ne x z1
       .rw [qAD z];exact ae.symm
      .show Fre H (if x=n then b else la x);rcases cs x hx with⟨z1,z2⟩|z
       .rw [qAC z2];exact D.frs x z1
       .rw [qAD z];exact ap
      .show (if x=n then B else L x).Nodup/\∀y,y∈(if x=n then B else L x)↔_;rcases cs x hx with⟨z1,z2⟩|z
       .rw [qAC z2];exact hL x z1
       .rw [qAD z,z];exact⟨I5.nd,I5.all⟩
    .obtain ⟨x,e,h1,h2⟩:=hc;refine⟨x,e,h1,λl hl=>?_⟩;rcases h2 l hl with⟨a,c,xs,ys,q1,q2,q3,q4,q5,q6,b,q7,q8⟩|⟨a,c,xs,ys,q1,q2,q3,q4,q5,b,q7,q8⟩
     .exact .inl ⟨a,c,xs,ys,q1,q2,q3,q4,q5,q6,b,q7,hq _ _ q8⟩
     .exact .inr ⟨a,c,xs,ys,q1,q2,q3,q4,q5,b,q7,hq _ _ q8⟩
   .rintro σ H2 ⟨⟨o3,o5,o6,rfl⟩,k2,q2,la,L,D,hL⟩;rw[eT]at D hL;exact⟨_,rF,k d la L H2 D hL k2⟩
end
theorem pD:bootBuiltins "dict"=some (.type "dict"):=by decide +kernel
theorem xP{K:PySem.W.Frag}:PySem.W.kitOne K (.type "int") (.type "bool")=some false:=by rfl
section
inductive jO(vs:List V)(H:Hp)(Q:VK)(u_3:XK):Prop
 |mk:∀(x:Str)(l:Addr)(ns:List Str),vs=[.str x,.ref l]->Txs H l ns->Q (.bl$ decide$ x∈ns) H->jO vs H Q u_3
theorem p6(F:Fun K "is_one_of" "is_one_of" zEb f fd)(T:Txt K mg):eC P w K mg base CX0 1 f fd ["thing","names"] jO:=by
 refine F.ok zH1 (λvs H Q E h=>?_) λV A O s H vs Q E W h=>?_
 .obtain ⟨v,l,ns,rfl,_⟩:=h;rfl
 .obtain ⟨x,l,ns,rfl,S,k⟩:=h;refine⟨_,(zAd$ zAk$ mP (zAn zB2 rR T.z_isinstance zA3$ zAa (pv 0)$ zAa (zCx rR T.z_str zDg (v:=.ty "str") rF) zAc)$ jE$ zCn zG0 (pv 0) (pv 1) rR),?_⟩;refine⟨_,rF,_,_,_,_,rF,fL.str x,zC2,_,rF,fE ?_⟩;refine⟨_,rF,_,rF,_,_,rF,.inl$ SqL.of S,rF,zBw ns,?_⟩;rw[qAC qAk,zDe];exact k
inductive gB(vs:List V)(H:Hp)(Q:VK)(u_3:XK):Prop
 |mk:∀(n:Int),vs=[.int n]->Q (.bl true) H->gB vs H Q u_3
abbrev zHk:Stmt:=top 22
theorem lm:c_ ["thing"] ["thing"] (zAe zHk):=fnS
theorem mD(F:Fun K "is_whole" "is_whole" zHk f fd)(T:Txt K mg):eC P w K mg base CX0 1 f fd ["thing"] gB:=by
 refine F.ok lm (λvs H Q E h=>?_) λV A O s H vs Q E S h=>?_
 .obtain ⟨n,rfl,_⟩:=h;rfl
 .obtain ⟨n,rfl,k⟩:=h;refine⟨_,(zAd$ zAk$ mP (zAn zB2 rR T.z_isinstance zA3$ zAa (pv 0)$ zAa (zCx rR T.z_int zKu (v:=.ty "int") rF) zAc)$ jE$ xr$ zAn zB2 rR T.z_isinstance zA3$ zAa (pv 0)$ zAa (zCx rR T.z_bool uY (v:=.ty "bool") rF) zAc),?_⟩;exact⟨_,rF,_,_,_,_,rF,fL.int n,zC2,_,rF,fE ⟨_,rF,_,_,_,_,rF,fL.int n,xP,_,rF,k⟩⟩
inductive gb(vs:List V)(H:Hp)(Q:VK)(u_3:XK):Prop
 |mk:∀(b:Int),vs=[.int b]->1<=b->Q .non H->gb vs H Q u_3
abbrev zC7:Stmt:=top 25
theorem zH8:c_ ["benches"] ["benches"] (zAe zC7):=fnS
theorem zIb(F:Fun K "check_benches" "check_benches" zC7 f fd)(O:Cal P w K mg base "is_whole" 1 ["thing"] gB):eC P w K mg base CX0 2 f fd ["benches"] gb:=by
 refine F.ok zH8 (λvs H Q E h=>?_) λV A S s H vs Q E W h=>?_
 .obtain ⟨n,rfl,_⟩:=h;rfl
 .obtain ⟨n,rfl,h1,k⟩:=h
  refine⟨_,(zAd$ zA1 (PW.pt$ zI8 (zBy$ zBv$ zAf O W rF$ zAa (pv 0) zAc)$ zEy$ zAj sX (pv 0) zAg$ zAo _) (zAd zAq) zAi),?_⟩
  refine⟨_,rF,n,rF,_,rF,eG ⟨_,rF,_,_,rF,rF,_,rF,?_⟩⟩;rw[qAP lL];exact eG k
def e_(J:JR)(A:List Str)(n:Str):Bool:=(J.ns.filter λm=>decide$ m∈J.S n).all λm=>decide$ m∈A
inductive kH(C:Addr)(vs:List V)(H:Hp)(Q:VK)(u_3:XK):Prop
 |mk:∀(j d:Addr)(J:JR)(A:List Str)(n:Str),vs=[.ref j,.ref d,.str n]->eI C H j J->fM H d A->n∈J.ns->(∀H',Kp [] H H'->Q (.bl$ e_ J A n) H')->kH C vs H Q u_3
abbrev zC5:Stmt:=top 30
theorem zI3:c_ ["jobs","earlier","name"] ["jobs","earlier","name"] (zAe zC5):=fnS
theorem lJ(F:Fun K "is_ready" "is_ready" zC5 f fd)(T:Txt K mg)(U:JC K mg C)(O:Mth P w K mg base C "ahead" 3 ["self","name"] (gD C)):eC P w K mg base CX0 4 f fd ["jobs","earlier","name"] (kH C):=by
 refine F.ok zI3 (λvs H Q E h=>?_) λad A aa s H vs Q E hr h=>?_
 .obtain ⟨j,d,J,A,n,rfl,_⟩:=h;rfl
 .obtain ⟨j,d,J,D0,n,rfl,A0,hd,hn,k⟩:=h;have hu:=zD3 hr;refine⟨_,(zAd$ zAk$ zAn (zHe _ rF) rR T.z_all gK$ zAa (zA6 rF (zBe (sc:=zAe zC5) rF kK) (d_.own (x:="one")$ dtk (i:=1) rF d_.nil) (zAl$ zBf O U.cl hr (pv 0)$ zAa (pv 2) zAc) (λ_ _ _ _=>(pgB (i:=0))) (λ_ _ _ _=>zBq) λ_ _ _ _=>(so$ zH2 hu (pv 0)$ pv 1)) zAc),?_⟩;refine⟨_,rF,j,J.dx,_,rF,A0.ob,zL0 _ _ _ kK kK kK,_,rF,j,J,n,rF,A0,hn,λa H1 fa h1 k1=>?_⟩;have W:=k1 d _ hd sS;have ab:(J.ns.filter λm=>decide$ m∈J.S n).length<=20:=qAR (qAq _ _) A0.few;have ek:e_ J D0 n=(J.ns.filter λm=>decide$ m∈J.S n).all λm=>decide$ m∈D0:=rfl;rw[ek]at k;generalize (J.ns.filter λm=>decide$ m∈J.S n)=S at h1 ab k;refine⟨_,rF,⟨_,SqL.of h1⟩,λB hB=>zA8 (S.map V.str) (λi ys τ H'=>(∃o0,τ=[o0,some (.ref d)])/\ys=((S.take i).map λm=>V.bl$ decide$ m∈D0)/\H'=upd H1 B (.lst ys)) ⟨⟨_,rF⟩,rF,rF⟩ (λi ys τ H' ⟨_,_,e⟩=>by subst e;exact SqL.of$ (a_$ b_ (show Fre H1 B from hB) h1).trans h1) ?_ ?_⟩
  .rintro i v ys τ H' hv ⟨⟨o0,rfl⟩,rfl,rfl⟩;obtain⟨m,em,rfl⟩:=zBh hv;refine⟨_,rF,_,rF,_,_,rF,eO.k (k:=Sum.inr m)$ (a_$ b_ (show Fre H1 B from hB) W).trans W,ac,?_,⟨_,rF⟩,?_,zBm⟩
   .rw [qAB,qAX,qAM];lia
   .rw [zAh em,qAI,zE5];rfl
  .rintro ys τ H' ⟨_,rfl,rfl⟩;have eM:S.take (S.map V.str).length=S:=by rw[qAB,qAY]
   refine⟨B,S.map λm=>decide$ m∈D0,rF,SqL.of ?_,?_⟩
   .rw [ac,eM,qAb];rfl
   .rw [qDT];exact k _$ Kp.new k1$ k1.fre hB sS
theorem zG6:∀(B A:List Str),(B.foldl eY A).length<=A.length+B.length
 |[],A=>sS
 |b::B,A=>by
  have h1:=zG6 B$ eY A b
  have h2:(eY A b).length<=A.length+1:=by
   unfold eY;split
   .lia
   .simp
  rw[qBh,qAd];lia
inductive kE(vs:List V)(H:Hp)(Q:VK)(u_3:XK):Prop
 |mk:∀(d l:Addr)(A ws:List Str),vs=[.ref d,.ref l]->fM H d A->Txs H l ws->A.length+ws.length<=4096->(∀H',fM H' d (ws.foldl eY A)->Kp [d] H H'->Q .non H')->kE vs H Q u_3
abbrev jx:Stmt:=top 31
theorem lR:c_ ["taken","row","name"] ["taken","row"] (zAe jx):=fnS
theorem t_(F:Fun K "take" "take" jx f fd):eC P w K mg base CX0 1 f fd ["taken","row"] kE:=by
 refine F.ok lR (λvs H Q E h=>?_) λad A S s H vs Q E hr h=>?_
 .obtain ⟨d,l,A,W,rfl,_⟩:=h;rfl
 .obtain ⟨d,l,D0,W,rfl,hd,hl,hz,k⟩:=h;have hu:=zD3 hr
  have aa:l≠d:=λz=>by
   have h2:H d=some (.lst$ W.map V.str):=by rw[<-z];exact hl
   rw[show H d=_ from hd]at h2
   cases h2
  refine⟨_,(zAd$ zA4 qAZ rF (zAl$ pv 1) (pgN (i:=2) lR.nd)$ zAd$ zCi hu (pv 0) (pv 2) zJz rF),?_⟩
  refine⟨_,rF,_,rF,⟨_,SqL.of hl⟩,zA0 (xs:=W.map V.str) (λi σ H2=>(∃o2,σ=[some (.ref d),some (.ref l),o2])/\fM H2 d ((W.take i).foldl eY D0)/\Kp [d] H H2) ⟨⟨_,rF⟩,hd,Kp.refl⟩ (λi σ H2 _ ⟨_,_,O⟩=>SqL.of$ O l _ hl$ nm1 aa) ?_ ?_⟩
  .rintro i v σ H2 hv ⟨⟨o2,rfl⟩,h2,O⟩;obtain⟨m,em,rfl⟩:=zBh hv;have ab:=zG6 (W.take i) D0;rw[qAX]at ab;refine⟨_,rF,_,rF,_,_,rF,fR.k (k:=Sum.inr m) h2 (by rw[qAB,qAM];lia),?_⟩;refine⟨⟨_,rF⟩,?_,Kp.put O sS⟩;rw[zLa,zAh em,qA8];exact ac
  .rintro σ H2 ⟨_,h2,O⟩;rw[qAB,qAY]at h2;exact k H2 h2 O
end
section
inductive gS(C:Addr)(vs:List V)(H:Hp)(Q:VK)(u_3:XK):Prop
 |mk:∀(j d:Addr)(J:JR)(A:List Str)(n:Str),vs=[.ref j,.ref d,.str n]->eI C H j J->H d=some (.tup$ A.map V.str)->n∈J.ns->(∀H',Kp [] H H'->Q (.bl$ e_ J A n) H')->gS C vs H Q u_3
theorem jq(F:Fun K "is_ready" "is_ready" zC5 f fd)(T:Txt K mg)(U:JC K mg C)(O:Mth P w K mg base C "ahead" 3 ["self","name"] (gD C)):eC P w K mg base CX0 4 f fd ["jobs","earlier","name"] (gS C):=by
 refine F.ok zI3 (λvs H Q E h=>?_) λad A aa s H vs Q E hr h=>?_
 .obtain ⟨j,d,J,A,n,rfl,_⟩:=h;rfl
 .obtain ⟨j,d,J,D0,n,rfl,A0,hd,hn,k⟩:=h;refine⟨_,(zAd$ zAk$ zAn (zHe _ rF) rR T.z_all gK$ zAa (zA6 rF (zBe (sc:=zAe zC5) rF kK) (d_.own (x:="one")$ dtk (i:=1) rF d_.nil) (zAl$ zBf O U.cl hr (pv 0)$ zAa (pv 2) zAc) (λ_ _ _ _=>(pgB (i:=0))) (λ_ _ _ _=>zBq) λ_ _ _ _=>(zCn (zHo (K:=K)) (pv 0) (pv 1) rR)) zAc),?_⟩;refine⟨_,rF,j,J.dx,_,rF,A0.ob,zL0 _ _ _ kK kK kK,_,rF,j,J,n,rF,A0,hn,λa H1 fa h1 k1=>?_⟩;have W:=k1 d _ hd sS;have ab:(J.ns.filter λm=>decide$ m∈J.S n).length<=20:=qAR (qAq _ _) A0.few;have ek:e_ J D0 n=(J.ns.filter λm=>decide$ m∈J.S n).all λm=>decide$ m∈D0:=rfl;rw[ek]at k;generalize (J.ns.filter λm=>decide$ m∈J.S n)=S at h1 ab k;refine⟨_,rF,⟨_,SqL.of h1⟩,λB hB=>zA8 (S.map V.str) (λi ys τ H'=>(∃o0,τ=[o0,some (.ref d)])/\ys=((S.take i).map λm=>V.bl$ decide$ m∈D0)/\H'=upd H1 B (.lst ys)) ⟨⟨_,rF⟩,rF,rF⟩ (λi ys τ H' ⟨_,_,e⟩=>by subst e;exact SqL.of$ (a_$ b_ (show Fre H1 B from hB) h1).trans h1) ?_ ?_⟩
  .rintro i v ys τ H' hv ⟨⟨o0,rfl⟩,rfl,rfl⟩;obtain⟨m,em,rfl⟩:=zBh hv;refine⟨_,rF,_,rF,_,_,rF,.inr$ SqT.of$ (a_$ b_ (show Fre H1 B from hB) W).trans W,rF,zBw _,?_⟩;rw[qAC qAk,zDe];refine⟨ac,?_,⟨_,rF⟩,?_,zBm⟩
   .rw [qAB,qAX,qAM];lia
   .rw [zAh em,qAI];rfl
  .rintro ys τ H' ⟨_,rfl,rfl⟩;have eM:S.take (S.map V.str).length=S:=by rw[qAB,qAY]
   refine⟨B,S.map λm=>decide$ m∈D0,rF,SqL.of ?_,?_⟩
   .rw [ac,eM,qAb];rfl
   .rw [qDT];exact k _$ Kp.new k1$ k1.fre hB sS
inductive oS(C:Addr)(vs:List V)(H:Hp)(Q:VK)(u_3:XK):Prop
 |mk:∀(j:Addr)(J:JR),vs=[.ref j]->eI C H j J->J.ns.length<=7->(∀H',Kp [] H H'->Q .non H')->oS C vs H Q u_3
abbrev zF7:Stmt:=top 52
theorem j9:c_ ["jobs"] ["jobs"] (zAe zF7):=fnS
theorem j4(F:Fun K "check_few" "check_few" zF7 f fd)(T:Txt K mg)(U:JC K mg C)(S:Mth P w K mg base C "names" 1 ["self"] (fO C)):eC P w K mg base CX0 2 f fd ["jobs"] (oS C):=by
 refine F.ok j9 (λvs H Q E h=>?_) λW A O s H vs Q E hr h=>?_
 .obtain ⟨j,J,rfl,_⟩:=h;rfl
 .obtain ⟨j,J,rfl,V,few,k⟩:=h;obtain⟨tM,hM⟩:=T.c_MOST_FEW
  refine⟨_,(zAd$ zA1 (zAj zLi (zAn zAy rR T.z_len zCc$ zAa (zDa S U.cl hr$ pv 0) zAc) (zDb rF hM (v:=.int 7) ⟨_,rF⟩)$ zAo _) (zAd zAq) zAi),?_⟩
  refine⟨_,rF,j,J.dx,_,rF,V.ob,zL0 _ _ _ kK kK kK,j,J,rF,V,λl H1 fl hl k1=>?_⟩;refine⟨_,_,rF,.inl$ SqL.of hl,_,_,rF,rF,_,rF,?_⟩;rw[qAP$ by rw[qAB];lia];exact eG$ k H1 k1
def zD1(b:Int)(ns:List Str):List (List Str):=ns.foldl (λrs n=>rs++(rs.filter λr=>decide$ (r.length:Int)<b).map λr=>r++[n]) [[]]
theorem zGs(b:Int):∀(ns:List Str) (rs:List (List Str)),(ns.foldl (λrs n=>rs++(rs.filter λr=>decide$ (r.length:Int)<b).map λr=>r++[n]) rs).length<=rs.length*2^ns.length
 |[],rs=>sS
 |n::ns,rs=>by
  have h:=zGs b ns$ rs++(rs.filter λr=>decide$ (r.length:Int)<b).map λr=>r++[n];have h1:=qAq (λr:List Str=>decide$ (r.length:Int)<b) rs;rw[qAV,qAB]at h;rw[qBh,qAd,qDE];refine qAR h ?_;rw[Nat.mul_comm (2^ns.length) 2,<-Nat.mul_assoc];exact Nat.mul_le_mul_right _ lL
theorem zKf(b:Int):∀(ns:List Str) (rs:List (List Str)) (m:Nat),(∀r∈rs,r.length<=m)->∀r∈ns.foldl (λrs n=>rs++(rs.filter λr=>decide$ (r.length:Int)<b).map λr=>r++[n]) rs,r.length<=m+ns.length
 |[],rs,m,h=>λr O=>h r O
 |n::ns,rs,m,h=>λr O=>by
  have:=zKf b ns _ (m+1) (λq S=>?_) r O
  .rw [qAd];lia
  .rcases qAK.mp S with z|z
   .exact Nat.le_succ_of_le$ h q z
   .obtain ⟨V,h1,rfl⟩:=qAG.mp z;rw[qAV];exact Nat.succ_le_succ$ h V (qAc.mp h1).1
structure Rws(H0 H:Hp)(l:Addr)(ps:List (Addr×List Str)):Prop where
 top:H l=some (.lst$ ps.map λp=>V.ref p.1)
 row:∀p∈ps,H p.1=some (.lst$ p.2.map V.str)
 fr:∀p∈ps,Fre H0 p.1
theorem iV{ps:List (Addr×List Str)}{i:Nat}(h:(ps.map λp=>V.ref p.1)[i]?=some v):∃p,ps[i]?=some p/\v= .ref p.1:=by
 rw[qAU]at h;obtain⟨p,e,r⟩:=qAw.mp h;exact⟨p,e,r.symm⟩
inductive oe(vs:List V)(H:Hp)(Q:VK)(u_3:XK):Prop
 |mk:∀(l:Addr)(b:Int)(ns:List Str),vs=[.ref l,.int b]->Txs H l ns->ns.length<=7->(∀(a:Addr) (ps:List (Addr×List Str)) (H':Hp),Rws H H' a ps->ps.map (·.2)=zD1 b ns->Kp [] H H'->Q (.ref a) H')->oe vs H Q u_3
abbrev zGp:Stmt:=top 60
theorem zFc:c_ ["names","most","rows","name"] ["names","most"] (zAe zGp):=fnS
theorem mW(F:Fun K "rows_of" "rows_of" zGp f fd)(T:Txt K mg):eC P w K mg base CX0 1 f fd ["names","most"] oe:=by
 refine F.ok zFc (λvs H Q E h=>?_) λam A ai s H vs Q E hr h=>?_
 .obtain ⟨l,b,ns,rfl,_⟩:=h;rfl
 .obtain ⟨l,b,ns,rfl,hl,hn,k⟩:=h
  refine⟨_,(zAb (psS (i:=2) zFc.nd$ zAw$ zAa (zAw zAc) zAc) (zAb (zA4 qAZ rF (zAl$ pv 0) (pgN (i:=3) zFc.nd)$ zAd$ psS (i:=2) zFc.nd$ zAs zFx (pv 2)$ zA6 rF (zBe (sc:=zAe zGp) rF kK) (d_.own (x:="row")$ dtk (i:=3) rF$ dtk (i:=1) rF d_.nil) (zAl$ pv 2) (λ_ _ _ _=>(pgB (i:=0))) (λ_ _ _ _=>(zB8$ zAj sX (zAn (zHc (K:=K)) rR T.z_len zCc$ zAa (pv 0) zAc) (pv 2)$ zAo _)) λ_ _ _ _=>(zAs zFx (pv 0)$ zAw$ zAa (pv 1) zAc))$ zAd$ zAk$ pv 2)),?_⟩
  refine im ?_;intro _ _ _;have hs:=qAM;refine⟨(by walk_at"ln"),λe he=>?_⟩;have k1:Kp [] H (upd H e$ .lst []):=Kp.new Kp.refl he;have e1:upd H e (.lst []) e=some (.lst []):=ac;generalize upd H e (.lst [])=H1 at k1 e1;refine⟨(by walk_at"ln"),λa ha=>?_⟩;have k2:Kp [] H1 (upd H1 a$ .lst [.ref e]):=Kp.new Kp.refl ha;have R0:Rws H (upd H1 a$ .lst [.ref e]) a [(e,[])]:=⟨ac,λp hp=>by rw[qAH.mp hp];exact k2 _ _ e1 sS,λp hp=>by rw[qAH.mp hp];exact he⟩;generalize upd H1 a (.lst [.ref e])=H2 at k2 R0;have af:=k1.trans k2;refine⟨_,rF,_,rF,⟨_,SqL.of$ af l _ hl sS⟩,zA0 (xs:=ns.map V.str) (λi σ H3=>∃(a:Addr) (ps:List (Addr×List Str)),(∃o3,σ=[some (.ref l),some (.int b),some (.ref a),o3])/\Rws H H3 a ps/\ps.map (·.2)=zD1 b (ns.take i)/\Kp [] H H3) ⟨a,[(e,[])],⟨_,rF⟩,R0,rF,af⟩ (λi σ H3 _ ⟨_,_,_,_,_,k3⟩=>SqL.of$ k3 l _ hl sS) ?_ ?_⟩
  .rintro i v σ H3 hv ⟨a,ps,⟨o3,rfl⟩,R3,ep,k3⟩;obtain⟨n,en,rfl⟩:=zBh hv;have hi:i<ns.length:=(qAa.mp en).1
   have aj:ps.length<=128:=by
    have h1:ps.length=(zD1 b$ ns.take i).length:=by rw[<-ep,qAB]
    have h2:=zGs b (ns.take i) [[]];have h3:2^(ns.take i).length<=2^7:=qBp dD (by rw[qAX];lia);rw[h1];exact qAR h2 (by rw[qAp,Nat.one_mul];exact h3)
   refine⟨_,rF,_,rF,_,rF,⟨_,SqL.of R3.top⟩,λB hB=>zBs (ps.map λp=>V.ref p.1) (λj ys τ S=>∃qs:List (Addr×List Str),(∃o0,τ=[o0,some (.str n),some (.int b)])/\ys=qs.map (λp=>V.ref p.1)/\S B=some (.lst ys)/\qs.map (·.2)=(((ps.take j).map (·.2)).filter λr=>decide$ (r.length:Int)<b).map (λr=>r++[n])/\(∀q∈qs,S q.1=some (.lst$ q.2.map V.str)/\q.1≠B/\Fre H3 q.1)/\Kp [] H3 S) ⟨[],⟨_,rF⟩,rF,ac,rF,(λq h=>nomatch h),Kp.new Kp.refl hB⟩ (λj ys τ S ⟨_,_,_,_,_,_,W⟩=>SqL.of$ W _ _ R3.top sS) ?_ ?_⟩
   .rintro j v ys τ S hv ⟨qs,⟨o0,rfl⟩,rfl,aa,eq,hq,W⟩;obtain⟨p,ab,rfl⟩:=iV hv;have mp:=qAN ab;have ad:=W _ _ (R3.row p mp) sS
    have ak:qs.length<=j:=by
     have:=qAf List.length eq;simp only[qAB]at this;rw[this];refine qAR (qAq _ _) ?_;rw[qAB,qAX];lia
    have hj:j<ps.length:=(qAa.mp ab).1
    have an:p.2.length<=7:=by
     have h1:p.2∈zD1 b (ns.take i):=by rw[<-ep];exact qAG.mpr ⟨p,mp,rF⟩
     have h2:=zKf b (ns.take i) [[]] 0 (λr hr=>by rw[qAH.mp hr];exact qAF _) p.2 h1;rw[qAX]at h2;lia
    refine⟨_,rF,_,_,rF,.inl$ SqL.of ad,_,rF,_,_,rF,rF,_,rF,?_⟩;refine eU (λc=>?_) λc=>?_
    .rw [qAB]at c;refine⟨_,rF,_,rF,(by walk_at"ln"),λz hz=>?_⟩;have kz:Kp [] S (upd S z$ .lst [.str n]):=Kp.new Kp.refl hz;have ag:upd S z (.lst [.str n]) z=some (.lst [.str n]):=ac;have ao:B≠z:=zAp aa hz;generalize upd S z (.lst [.str n])=H5 at kz ag;refine⟨_,_,_,_,rF,rF,kz _ _ ad sS,ag,by rw[qAB];show _+1<=_;lia,λr O=>?_⟩;have ah:=kz _ _ aa sS;have ae:B≠r:=zAp ah O;refine⟨(a_ ae).trans ah,by rw[qAB];lia,qs++[(r,p.2++[n])],⟨_,rF⟩,by rw[qAI];rfl,ac,?_,λq al=>?_,?_⟩
     .rw [qAI,eq,zAh ab,qAI,qBD,qAI];show _++[p.2++[n]]=_++(List.filter _ [p.2]).map _;rw[qA9,qAD c];rfl
     .rcases qAK.mp al with z'|z'
      .obtain ⟨h1,h2,h3⟩:=hq q z';have h5:=kz _ _ h1 sS;exact⟨by rw[a_ h2,a_$ zAp h5 O];exact h5,h2,h3⟩
      .rw [qAH.mp z'];refine⟨by rw[a_ ae.symm,ac,qAI];rfl,ae.symm,(W.trans kz).fre O sS⟩
     .exact Kp.new (Kp.new (W.trans kz)$ (W.trans kz).fre O sS) hB
    .rw [qAB]at c;refine⟨qs,⟨_,rF⟩,rF,aa,?_,hq,W⟩;rw[eq,zAh ab,qAI,qBD];show _=(_++List.filter _ [p.2]).map _;rw[qA9,qAC c];simp
   .rintro ys τ S ⟨qs,_,rfl,aa,eq,hq,W⟩;rw[qAB,qAY]at eq
    have ak:qs.length<=128:=by
     have:=qAf List.length eq;simp only[qAB]at this;rw[this];exact qAR (qAq _ _) (by rw[qAB];exact aj)
    refine⟨_,_,_,_,rF,rF,W _ _ R3.top sS,aa,by rw[qAB,qAB];lia,λr O=>?_⟩;have kr:Kp [] S (upd S r$ .lst$ ps.map (λp=>V.ref p.1)++qs.map λp=>V.ref p.1):=Kp.new Kp.refl O;refine⟨r,ps++qs,⟨_,rF⟩,⟨by rw[ac,qAI],λp hp=>?_,λp hp=>?_⟩,?_,k3.trans$ W.trans kr⟩
    .rcases qAK.mp hp with z|z
     .exact (W.trans kr) _ _ (R3.row p z) sS
     .exact kr _ _ (hq p z).1 sS
    .rcases qAK.mp hp with z|z
     .exact R3.fr p z
     .exact k3.fre (hq p z).2.2 sS
    .rw [qAI,eq,ep,zAh en];unfold zD1;rw[qA8];rfl
  .rintro σ H3 ⟨a,ps,⟨o3,rfl⟩,R3,ep,k3⟩;rw[qAB,qAY]at ep;exact⟨_,rF,k a ps H3 R3 ep k3⟩
end
theorem lG{K:PySem.W.Frag}{tg l:Expr}{tl:TE}(O:PE X l tl)(S:X.K=K:=by rfl):PI X tg l (v7 K tl):=by subst S;exact zAl O
theorem zJ6{K:PySem.W.Frag}(O:X.K=K:=by rfl):zC4 X (.type "tuple") (λxs H Q=>∃p ys,xs=[.ref p]/\((SqL K H p ys/\∀l,H l=none->Q (.ref l) (upd H l$ .tup ys))\/(SqT K H p ys/\Q (.ref p) H))):=by subst O;exact zC3
def zHt(J:JR)(D:List Str):List Str:=J.ns.filter λn=>decide (n∉D)&&e_ J D n
def fH(ns D r:List Str):List Str:=ns.filter λn=>decide (n∈D)||decide (n∈r)
def zA2(J:JR)(b:Int)(D:List Str):List (List Str×List Str):=(zD1 b$ zHt J D).map λr=>(r,fH J.ns D r)
structure SE where
 t:Addr
 ra:Addr
 r:List Str
 na:Addr
 d:List Str
structure StL(H0 H:Hp)(l:Addr)(es:List SE):Prop where
 top:H l=some (.lst$ es.map λe=>V.ref e.t)
 tup:∀e∈es,H e.t=some (.tup [.ref e.ra,.ref e.na])
 row:∀e∈es,H e.ra=some (.lst$ e.r.map V.str)
 now:∀e∈es,H e.na=some (.tup$ e.d.map V.str)
 fr:∀e∈es,Fre H0 e.ra
theorem StL.kp0{l:Addr}{es:List SE}(S:StL H0 H l es)(k:Kp [] H H'):StL H0 H' l es:=⟨k _ _ S.top sS,λe O=>k _ _ (S.tup e O) sS,λe O=>k _ _ (S.row e O) sS,λe O=>k _ _ (S.now e O) sS,S.fr⟩
section
inductive kB(C:Addr)(vs:List V)(H:Hp)(Q:VK)(u_3:XK):Prop
 |mk:∀(j dn:Addr)(b:Int)(J:JR)(D:List Str),vs=[.ref j,.int b,.ref dn]->eI C H j J->J.ns.length<=7->H dn=some (.tup$ D.map V.str)->(∀(a:Addr)(es:List SE)(H':Hp),Fre H a->StL H H' a es->es.map (λe=>(e.r,e.d))=zA2 J b D->Kp [] H H'->Q (.ref a) H')->kB C vs H Q u_3
abbrev zCb:Stmt:=top 59
theorem zD5:c_ ["jobs","benches","done","names","free"] ["jobs","benches","done"] (zAe zCb):=fnS
theorem zLl(F:Fun K "steps_from" "steps_from" zCb f fd)(T:Txt K mg)(U:JC K mg C)(aa:Mth P w K mg base C "names" 1 ["self"] (fO C))(O:Cal P w K mg base "is_ready" 4 ["jobs","earlier","name"] (gS C))(W:Cal P w K mg base "rows_of" 1 ["names","most"] oe):eC P w K mg base CX0 5 f fd ["jobs","benches","done"] (kB C):=by
 refine F.ok zD5 (λvs H Q E h=>?_) λaB A aw s H vs Q E hr h=>?_
 .obtain ⟨j,dn,b,J,D,rfl,_⟩:=h;rfl
 .obtain ⟨j,dn,b,J,D,rfl,A0,few,ah,k⟩:=h;have ai:=hr.mono (j:=1) dD;have ax:eR 4 _:=hr
  refine⟨_,(zAb (psS (i:=3) zD5.nd$ zDa aa U.cl ai$ pv 0) (zAb (zI9 (i:=4) rF (zBe (sc:=zAe zCb) rF kK) (d_.own (x:= "name")$ dtk (i:=2) rF$ dtk (i:=0) rF d_.nil) (zAl$ pv 3) (fun _ _ _ _=>(pgB (i:=0))) (fun _ _ _ _=>(zB8$ PW.pt$ ku (zAj (zC1 (K:=K)) (pv 0) (pv 1) rR)$ zK9$ zBv$ zAf O ax rF$ zAa (pv 2)$ zAa (pv 1)$ zAa (pv 0) zAc)) (fun _ _ _ _=>(pv 0)) zD5.nd rF rF)$ zAd$ zAk$ zA6 rF (zBe (sc:=zAe zCb) rF kK) (d_.own (x:="row")$ dtk (i:=3) rF$ dtk (i:=2) rF d_.nil) (zAl$ zAf W ai rF$ zAa (pv 4)$ zAa (pv 1) zAc) (λ_ _ _ _=>(pgB (i:=0))) (λ_ _ _ _=>zBq) λ_ _ _ _=>(zCl$ zAa (pv 0)$ zAa (zAz (zJ6 (K:=K)) rR T.z_tuple zHf$ zAa (zA6 rF (n6 (sc:=zAe zCb) rF rF kK) (d_.own (x:="name")$ dtk (i:=2) rF$ dtk (i:=0) rF d_.nil) (lG (K:=K)$ pv 1) (λ_ _ _ _=>(pgB (i:=0))) (λ_ _ _ _=>(zB8$ PW.pt$ zI8 (zAj (zHo (K:=K)) (pv 0) (pv 1) rR)$ zEy$ zAj (zHo (K:=K)) (pv 0) (pv 2) rR)) λ_ _ _ _=>(pv 0)) zAc) zAc))),?_⟩
  refine im ?_;intro _ _ _;have hs:=qAM;refine⟨_,rF,j,J.dx,_,rF,A0.ob,zL0 _ _ _ kK kK kK,j,J,rF,A0,λnl H1 fn h1 k1=>?_⟩;have aj:=k1 dn _ ah sS;refine⟨_,rF,_,rF,⟨_,SqL.of h1⟩,λB hB=>zBs (J.ns.map V.str) (λi ys τ H2=>(∃o0,τ=[o0,some (.ref dn),some (.ref j)])/\ys=((J.ns.take i).filter λn=>decide (n∉D)&&e_ J D n).map V.str/\Kp [] H1 H2/\H2 B=some (.lst ys)) ⟨⟨_,rF⟩,rF,Kp.new Kp.refl hB,ac⟩ (λi ys τ H2 ⟨_,_,k2,_⟩=>SqL.of$ k2 nl _ h1 sS) ?_ ?_⟩
  .rintro i v ys τ H2 hv ⟨⟨o0,rfl⟩,rfl,k2,h2⟩;obtain⟨n,en,rfl⟩:=zBh hv;refine⟨_,rF,_,rF,_,_,rF,.inr$ SqT.of$ k2 dn _ aj sS,rF,zBw _,_,rF,?_⟩;rw[qAD rF,zDe]
   by_cases c1:n∈D
   .rw [qAJ c1];refine eG$ eG ⟨⟨_,rF⟩,?_,k2,h2⟩;rw[zHw en$ by simp[c1]]
   .rw [qAP c1];refine fE ?_;refine⟨_,rF,_,rF,_,rF,j,dn,J,D,n,rF,A0.kp0$ k1.trans k2,k2 dn _ aj sS,qAN en,λH3 k3=>⟨_,rF,?_⟩⟩;have h3:=k3 _ _ h2 sS;refine eU (λc=>?_) λc=>?_
    .refine ⟨_,rF,h3,by rw[qAB];exact zG9 lL,⟨_,rF⟩,?_,Kp.new (k2.trans k3) hB,ac⟩;rw[zFn (p:=λn=>decide (n∉D)&&e_ J D n) en (by simp[c1,c]),qAI];rfl
    .refine ⟨⟨_,rF⟩,?_,k2.trans k3,h3⟩;rw[zHw en$ by simp[c]]
  rintro ys τ H2 ⟨_,rfl,k2,h2⟩;rw[qAB,qAY]at h2;have ak:(zHt J D).length<=7:=qAR (qAq _ _) few;refine⟨_,rF,_,rF,B,b,zHt J D,rF,h2,ak,λra ps H3 R3 ep k3=>?_⟩
  have aC:ps.length<=128:=by
   have h1:ps.length=(zD1 b$ zHt J D).length:=by rw[<-ep,qAB]
   have h2:=zGs b (zHt J D) [[]];have h3:2^(zHt J D).length<=2^7:=qBp dD ak;rw[h1];exact qAR h2 (by rw[qAp,Nat.one_mul];exact h3)
  have al:=k2.trans k3;have af:=k1.trans al;refine⟨_,rF,⟨_,SqL.of R3.top⟩,λL hL=>zA8 (ps.map λp=>V.ref p.1) (λi ys τ S=>∃es:List SE,(∃o0,τ=[o0,some (.ref nl),some (.ref dn)])/\ys=es.map (λe=>V.ref e.t)/\S L=some (.lst ys)/\es.map (λe=>(e.ra,e.r))=ps.take i/\(∀e∈es,e.t≠L/\e.na≠L/\S e.t=some (.tup [.ref e.ra,.ref e.na])/\S e.na=some (.tup$ e.d.map V.str)/\e.d=fH J.ns D e.r)/\Kp [] H3 S) ⟨[],⟨_,rF⟩,rF,ac,rF,(λq h=>nomatch h),Kp.new Kp.refl hL⟩ (λi ys τ S ⟨_,_,_,_,_,_,k4⟩=>SqL.of$ k4 _ _ R3.top sS) ?_ ?_⟩
  .rintro i v ys τ S hv ⟨es,⟨o0,rfl⟩,rfl,ab,eq,he,k4⟩;obtain⟨p,ag,rfl⟩:=iV hv;have mp:=qAN ag;have hi:i<ps.length:=(qAa.mp ag).1
   have el:es.length=i:=by
    have:=qAf List.length eq;rw[qAB,qAX]at this;lia
   have am:=k4 _ _ (R3.row p mp) sS;have an:=(al.trans k4) nl _ h1 sS;have ay:=(af.trans k4) dn _ ah sS;refine⟨_,rF,_,rF,_,rF,⟨_,SqL.of an⟩,λY hY=>zBs (J.ns.map V.str) (λq ys τ H5=>(∃o0,τ=[o0,some (.ref dn),some (.ref p.1)])/\ys=((J.ns.take q).filter λn=>decide (n∈D)||decide (n∈p.2)).map V.str/\H5=upd S Y (.lst ys)) ⟨⟨_,rF⟩,rF,rF⟩ (λq ys τ H5 ⟨_,_,z⟩=>by subst z;exact SqL.of$ (Kp.new (M:=[]) Kp.refl hY) _ _ an sS) ?_ ?_⟩
   .rintro q v ys τ H5 hv ⟨⟨o0,rfl⟩,rfl,rfl⟩;obtain⟨n,en,rfl⟩:=zBh hv;have kY:Kp [] S (upd S Y$ .lst$ ((J.ns.take q).filter λn=>decide (n∈D)||decide (n∈p.2)).map V.str):=Kp.new Kp.refl hY;refine⟨_,rF,_,rF,_,_,rF,.inr$ SqT.of$ kY _ _ ay sS,rF,zBw _,_,rF,?_⟩;rw[qAC qAk,zDe]
    by_cases c1:n∈D
    .rw [qAJ c1];refine fE$ fE ?_;refine⟨_,rF,ac,by rw[qAB];exact zG9 lL,⟨_,rF⟩,?_,zBm⟩;rw[zFn (p:=λn=>decide (n∈D)||decide (n∈p.2)) en (by simp[c1]),qAI];rfl
    .rw [qAP c1];refine eG ?_;refine⟨_,rF,_,rF,_,_,rF,.inl$ SqL.of$ kY _ _ am sS,rF,zBw _,_,rF,?_⟩;rw[qAC qAk,zDe];refine eU (λc=>?_) λc=>?_
     .refine ⟨_,rF,ac,by rw[qAB];exact zG9 lL,⟨_,rF⟩,?_,zBm⟩;rw[zFn (p:=λn=>decide (n∈D)||decide (n∈p.2)) en (by rw[c];simp),qAI];rfl
     .refine ⟨⟨_,rF⟩,?_,rF⟩;rw[zHw (p:=λn=>decide (n∈D)||decide (n∈p.2)) en$ by simpa[c1]using c]
   .rintro ys τ H5 ⟨_,rfl,rfl⟩;rw[qAB,qAY,show(J.ns.filter λn=>decide (n∈D)||decide (n∈p.2))=fH J.ns D p.2 from rfl];have kY:Kp [] S (upd S Y$ .lst$ (fH J.ns D p.2).map V.str):=Kp.new Kp.refl hY;have ao:upd S Y (.lst$ (fH J.ns D p.2).map V.str) Y=some (.lst$ (fH J.ns D p.2).map V.str):=ac;refine⟨Y,(fH J.ns D p.2).map V.str,rF,.inl ⟨SqL.of ao,λna ad=>?_⟩⟩;have ad:upd S Y (.lst$ (fH J.ns D p.2).map V.str) na=none:=ad;generalize upd S Y (.lst$ (fH J.ns D p.2).map V.str)=H5 at kY ao ad;have kn:Kp [] H5 (upd H5 na$ .tup$ (fH J.ns D p.2).map V.str):=Kp.new Kp.refl ad;have ap:upd H5 na (.tup$ (fH J.ns D p.2).map V.str) na=some (.tup$ (fH J.ns D p.2).map V.str):=ac;have aq:L≠na:=zAp (kY _ _ ab sS) ad;generalize upd H5 na (.tup$ (fH J.ns D p.2).map V.str)=H6 at kn ap;refine⟨(by walk_at"ln"),λt ht=>?_⟩;have kt:Kp [] H6 (upd H6 t$ .tup [.ref p.1,.ref na]):=Kp.new Kp.refl ht;have az:=(kY.trans kn) _ _ ab sS;have ar:L≠t:=zAp az ht;have ae:Kp [] S (upd H6 t$ .tup [.ref p.1,.ref na]):=(kY.trans kn).trans kt;have as:upd H6 t (.tup [.ref p.1,.ref na]) t=some (.tup [.ref p.1,.ref na]):=ac;have au:=kt _ _ ap sS;have av:=ae _ _ ab sS;generalize upd H6 t (.tup [.ref p.1,.ref na])=H7 at kt ae as au av;refine⟨av,by rw[qAB];lia,es++[⟨t,p.1,p.2,na,fH J.ns D p.2⟩],⟨_,rF⟩,by rw[qAI];rfl,ac,?_,λe aA=>?_,?_⟩
    .rw [qAI,eq,zAh ag];rfl
    .rcases qAK.mp aA with z|z
     .obtain ⟨h1,h2,h3,h4,h5⟩:=he e z;exact⟨h1,h2,by rw[a_ h1];exact ae _ _ h3 sS,by rw[a_ h2];exact ae _ _ h4 sS,h5⟩
     .rw [qAH.mp z];exact⟨ar.symm,aq.symm,by rw[a_ ar.symm];exact as,by rw[a_ aq.symm];exact au,rF⟩
    .exact Kp.new (k4.trans ae) hL
  .rintro ys τ S ⟨es,_,rfl,ab,eq,he,k4⟩;rw[qAB,qAY]at eq;have bk:∀e∈es,(e.ra,e.r)∈ps:=λe h=>by rw[<-eq];exact qAG.mpr ⟨e,h,rF⟩
   refine k L es S (af.fre hL sS) ⟨ab,λe h=>(he e h).2.2.1,λe h=>k4 _ _ (R3.row _$ bk e h) sS,λe h=>(he e h).2.2.2.1,λe h=>(k1.trans k2).fre (R3.fr _$ bk e h) sS⟩ ?_$ af.trans k4;unfold zA2;rw[<-ep,<-eq,qAb,qAb];exact qBU λe h=>by show(e.r,e.d)=(e.r,fH J.ns D e.r);rw[(he e h).2.2.2.2]
end
def kyS(D:List Str):List Key:=D.map Sum.inr
theorem zEh(D:List Str):(kyS D).map kV=D.map V.str:=by unfold kyS;rw[qAb];rfl
theorem zCy:∀{A B:List Str},kyS A=kyS B->A=B
 |[],[],_=>rfl
 |[],_::_,h=>nomatch h
 |_::_,[],h=>nomatch h
 |a::A,b::B,h=>by
  obtain⟨h1,h2⟩:=List.cons.inj h;rw[Sum.inr.inj h1,zCy h2]
def jU:List Str->List (List Str)
 |[]=>[[]]
 |n::ns=>jU ns++(jU ns).map (n::·)
theorem lU:∀ns:List Str,(jU ns).length=2^ns.length
 |[]=>rfl
 |n::ns=>by
  show(jU ns++(jU ns).map (n::·)).length=2^(ns.length+1);rw[qAV,qAB,lU ns,qDE];lia
theorem zHv(p:Str->Bool):∀ns:List Str,ns.filter p∈jU ns
 |[]=>qAH.mpr rF
 |n::ns=>by
  rw[qA9];show _∈jU ns++(jU ns).map (n::·);split
  .exact qAr _$ qAG.mpr ⟨_,zHv p ns,rF⟩
  .exact qAj _$ zHv p ns
theorem lK:∀{A B:List (List Key)},A.Nodup->(∀x∈A,x∈B)->A.length<=B.length
 |[],B,_,_=>qAm _
 |a::A,B,h,hs=>by
  obtain⟨h1,h2⟩:=qA5.mp h;have S:=hs a qAO;have:=lK (B:=B.filter λx=>decide$ x≠a) h2 λx O=>qAc.mpr ⟨hs x$ qAS _ O,qAJ λe=>h1$ e▸O⟩;have:(B.filter λx=>decide$ x≠a).length<B.length:=List.length_filter_lt_length_iff_exists.mpr ⟨a,S,sS⟩;rw[qAd];lia
theorem zIq{ns:List Str}{kvs:List (List Key×V)}(S:ns.length<=7)(W:(kvs.map (·.1)).Nodup)(h:∀O∈kvs,∃p,O.1=kyS (ns.filter p)):kvs.length<=128:=by
 have h1:=lK (B:=(jU ns).map kyS) W λx hx=>by
  obtain⟨O,m,rfl⟩:=qAG.mp hx;obtain⟨p,e⟩:=h O m;rw[e];exact qAG.mpr ⟨_,zHv p ns,rF⟩
 rw[qAB,qAB,lU]at h1;exact qAR h1 (qBp dD S:2^ns.length<=2^7)
section
variable{κ:Type}[DecidableEq κ]
theorem zGi:∀{kvs:List (κ×V)} {k:κ},k∈kvs.map (·.1)->∃v,eX kvs k=some v/\(k,v)∈kvs
 |[],k,h=>nomatch h
 |p::r,k,h=>by
  by_cases e:p.1=k
  .exact ⟨p.2,zBp e,by rw[<-e];exact qAO⟩
  .obtain ⟨v,h1,h2⟩:=zGi (kvs:=r) (k:=k)$ (qAQ.mp h).resolve_left λz=>e z.symm;exact⟨v,(zBl e).trans h1,qAS _ h2⟩
theorem zGj:∀{kvs:List (κ×V)} {k:κ},k∉kvs.map (·.1)->eX kvs k=none
 |[],k,h=>rfl
 |p::r,k,h=>by
  rw[qAi,qAQ,not_or]at h;rw[zBl λz=>h.1 z.symm];exact zGj h.2
theorem rq(kvs:List (κ×V))(k:κ):(eX kvs k).isSome=decide (k∈kvs.map (·.1)):=by
 by_cases h:k∈kvs.map (·.1)
 .obtain ⟨v,e,_⟩:=zGi h;rw[e,qAJ h];rfl
 .rw [zGj h,qAP h];rfl
theorem sk{kvs:List (κ×V)}{k:κ}{O:κ×V}(h:O∈eV kvs k v):O=(k,v)\/(O∈kvs/\O.1≠k):=by
 unfold eV at h;split at h
 .obtain ⟨q,h1,h2⟩:=qAG.mp h;split at h2
  .rename_i e;exact .inl (by rw[<-h2,e])
  .rename_i e;exact .inr (by rw[<-h2];exact⟨h1,e⟩)
 .rename_i n;rcases qAK.mp h with z|z
  .exact .inr ⟨z,λe=>n$ qDY.mpr ⟨O,z,qAJ e⟩⟩
  .exact .inl$ qAH.mp z
theorem iw(kvs:List (κ×V))(k:κ)(v:V):(eV kvs k v).map (·.1)=if k∈kvs.map (·.1) then kvs.map (·.1) else kvs.map (·.1)++[k]:=by
 by_cases h:k∈kvs.map (·.1)
 .rw [qAD h];unfold eV
  have:(kvs.any λO=>decide$ O.1=k)=true:=by
   obtain⟨q,h1,h2⟩:=qAG.mp h;exact qDY.mpr ⟨q,h1,qAJ h2⟩
  rw[qAD this,qAb]
  exact qBU λq _=>by
   show(if q.1=k then(q.1,v) else q).1=q.1;split<;>rfl
 .rw [qAC h,zFh v$ zGj h,qAI];rfl
theorem wH{kvs:List (κ×V)}{k:κ}(h:(kvs.map (·.1)).Nodup):((eV kvs k v).map (·.1)).Nodup:=by
 rw[iw];split
 .exact h
 .rename_i n;exact qA6.mpr ⟨h,sS,λa O d S=>by rw[qAH.mp S];exact λz=>n$ z▸O⟩
end
theorem StL.put{M:List Addr}{l:Addr}{es:List SE}(S:StL H0 H l es)(k:Kp M H H')(h:∀m∈M,∃o,H0 m=some o)(h2:∀m∈M,∀ys,H m≠some (.tup ys))(fl:Fre H0 l):StL H0 H' l es:=by
 have V:∀x,Fre H0 x->x∉M:=λx f z=>by
  obtain⟨o,e⟩:=h x z;rw[show H0 x=none from f]at e;cases e
 have W:∀x ys,H x=some (.tup ys)->x∉M:=λx ys e z=>h2 x z ys e;exact⟨k _ _ S.top$ V _ fl,λe O=>k _ _ (S.tup e O)$ W _ _$ S.tup e O,λe O=>k _ _ (S.row e O)$ V _$ S.fr e O,λe O=>k _ _ (S.now e O)$ W _ _$ S.now e O,S.fr⟩
structure StD(J:JR)(b:Int)(H0 H:Hp)(d:Addr)(kvs:List (List Key×V)):Prop where
 top:H d=some (.dT kvs)
 each:∀kv∈kvs,∃(D:List Str)(l:Addr)(es:List SE),kv=(kyS D,.ref l)/\StL H0 H l es/\es.map (λe=>(e.r,e.d))=zA2 J b D/\Fre H0 l/\∃p,D=J.ns.filter p
 nd:(kvs.map (·.1)).Nodup
theorem StD.kp0{b:Int}{kvs:List (List Key×V)}(S:StD J b H0 H d kvs)(k:Kp [] H H'):StD J b H0 H' d kvs:=⟨k _ _ S.top sS,λO h=>by
 obtain⟨D,l,es,W,e2,e3⟩:=S.each O h;exact⟨D,l,es,W,e2.kp0 k,e3⟩,S.nd⟩
theorem StD.few{b:Int}{kvs:List (List Key×V)}(S:StD J b H0 H d kvs)(O:J.ns.length<=7):kvs.length<=128:=zIq O S.nd λW h=>by
 obtain⟨D,l,es,rfl,_,_,_,p,rfl⟩:=S.each W h;exact⟨p,rF⟩
theorem zFb{J:JR}{b:Int}{D:List Str}(O:J.ns.length<=7):(zA2 J b D).length<=128:=by
 have h2:=zGs b (zHt J D) [[]];have h3:2^(zHt J D).length<=2^7:=qBp dD$ qAR (qAq _ _) O;unfold zA2;rw[qAB];exact qAR h2 (by rw[qAp,Nat.one_mul];exact h3)
theorem sI{es:List SE}{i:Nat}(h:(es.map λe=>V.ref e.t)[i]?=some v):∃e,es[i]?=some e/\v= .ref e.t:=by
 rw[qAU]at h;obtain⟨p,e,r⟩:=qAw.mp h;exact⟨p,e,r.symm⟩
def szT(H:Hp)(a:Addr):Nat:=match H a with
 |some (.dT kvs)=>kvs.length
 |_=>0
section
inductive oH(C:Addr)(vs:List V)(H:Hp)(Q:VK)(u_3:XK):Prop
 |mk:∀(j:Addr)(b:Int)(J:JR),vs=[.ref j,.int b]->eI C H j J->J.ns.length<=7->(∀(d:Addr) (kvs:List (List Key×V)) (H':Hp),StD J b H H' d kvs->kyS []∈kvs.map (·.1)->(∀D,kyS D∈kvs.map (·.1)->∀s∈zA2 J b D,kyS s.2∈kvs.map (·.1))->Kp [] H H'->Q (.ref d) H')->oH C vs H Q u_3
abbrev zEf:Stmt:=top 58
theorem zDm:c_ ["jobs","benches","steps","left","done"] ["jobs","benches"] (zAe zEf):=fnS
theorem jW(F:Fun K "all_steps" "all_steps" zEf f fd)(T:Txt K mg)(aa:Cal P w K mg base "steps_from" 5 ["jobs","benches","done"] (kB C)):eC P w K mg base CX0 6 f fd ["jobs","benches"] (oH C):=by
 refine F.ok zDm (λvs H Q E h=>?_) λa2 A aT s H vs Q E hr h=>?_
 .obtain ⟨j,b,J,rfl,_⟩:=h;rfl
 .obtain ⟨j,b,J,rfl,A0,few,k⟩:=h;have hu:=zD3 hr
  refine⟨_,(zAb (psS (i:=2) zDm.nd zLf) (zAb (psS (i:=3) zDm.nd$ zAw$ zAa (zCl zAc) zAc)
   (zAb (zGu qAZ (zIj (pv 3) fun _=>rfl)
    (zAb (psS (i:=4) zDm.nd$ tY qA7 PySem.F.slot_list_pop PySem.F.type_list_pop rm$ pv 3)
    (zAd (zA1 (zE0$ zE1 hu (pv 4)$ pv 2)
     (zAb (zCi hu (pv 2) (pv 4) (zAf aa hr rF$ zAa (pv 0)$ zAa (pv 1)$ zAa (pv 4) zAc) rF)$ zAd$ zBb$ zCj qA7 qDV qDW zG3 (pv 3)$ zAa (zA6 rF (zBe (sc:=zAe zEf) rF kK) (d_.own (x:="row")$ d_.own (x:="now") d_.nil) (zAl$ zBt hu (pv 2) (pv 4) λ_ _=>rfl) (λ_ _ _ _=>(zJa (K:=K) (n:=2) rF$ zAr (pgB (i:=0))$ zAr (pgB (i:=1)) zBz)) (λ_ _ _ _=>zBq) λ_ _ _ _=>(pv 1)) zAc)
     zAi))))$ zAd$ zAk$ pv 2))),?_⟩
  refine lC ?_;intro _ _ _ _;have hs:=qAM;refine λd hd=>?_;have k1:Kp [] H (upd H d$ .dT []):=Kp.new Kp.refl hd;have ax:upd H d (.dT []) d=some (.dT []):=ac;generalize upd H d (.dT [])=H1 at k1 ax;refine⟨(by walk_at"ln"),λt0 aU=>?_⟩;have k2:Kp [] H1 (upd H1 t0$ .tup []):=Kp.new Kp.refl aU;have ay:upd H1 t0 (.tup []) t0=some (.tup []):=ac;have az:=k2 _ _ ax sS;generalize upd H1 t0 (.tup [])=H2 at k2 ay az;refine⟨(by walk_at"ln"),λO aA=>?_⟩;have k3:Kp [] H2 (upd H2 O$ .lst [.ref t0]):=Kp.new Kp.refl aA;have ag:upd H2 O (.lst [.ref t0]) O=some (.lst [.ref t0]):=ac;have ah:=k3 _ _ az sS;have aB:=k3 _ _ ay sS;have aC:Fre H O:=(k1.trans k2).fre aA sS;have ad:=(k1.trans k2).trans k3;generalize upd H2 O (.lst [.ref t0])=Hs at k3 ag ah aB ad;have am:d≠O:=zAu ah ag (λz=>nomatch z)
  have ai:∀m∈[d,O],∃o,Hs m=some o:=λm hm=>by
   rcases qAQ.mp hm with z|z
   .rw [z];exact⟨_,ah⟩
   .rw [qAH.mp z];exact⟨_,ag⟩
  have A3:=A0.kp0 ad;show gF (λσ H Q=>rY 3 σ H λx H'=>∃k,uF K x H' k/\Q k H') _ _ _ _
  refine zKx (λσ H4=>∃(kvs:List (List Key×V)) (ws:List (Addr×List Str)) (o4:Option V),σ=[some (.ref j),some (.int b),some (.ref d),some (.ref O),o4]/\Kp [d,O] Hs H4/\StD J b Hs H4 d kvs/\H4 O=some (.lst$ ws.map λq=>V.ref q.1)/\(∀q∈ws,H4 q.1=some (.tup$ q.2.map V.str)/\∃p,q.2=J.ns.filter p)/\(kyS []∈kvs.map (·.1)\/[]∈ws.map (·.2))/\(∀D,kyS D∈kvs.map (·.1)->∀s∈zA2 J b D,kyS s.2∈kvs.map (·.1)\/s.2∈ws.map (·.2))/\ws.length+128*(128-kvs.length)<=16385) (λ_ H4=>129*(129-szT H4 d)+fG H4 O)
   ⟨[],[(t0,[])],none,rF,Kp.refl,⟨ah,(λ_ h=>nomatch h),qAt⟩,ag,λq hq=>by
    rw[qAH.mp hq];exact⟨aB,λ_=>false,sS⟩,.inr sS,(λ_ h=>nomatch h),sS⟩ ?_ (λσ H Q Q' hq hc=>by
    obtain⟨x,e,b,t,q⟩:=hc;exact⟨x,e,b,t,hq _ _ q⟩)
  rintro σ H4 ⟨kvs,ws,o4,rfl,k4,S4,ab,an,ao,ap,aV⟩;refine⟨_,rF,_,.inl ⟨_,SqL.of ab,rF⟩,?_⟩;refine eU (λc=>?_) λc=>?_
  .obtain ⟨W,S,rfl⟩:∃W S,ws=W++[S]:=by
    have:ws≠[]:=λz=>by rw[z]at c;simp at c
    exact⟨ws.dropLast,ws.getLast this,(qCQ this).symm⟩
   have eW:(W++[S]).map (λq=>V.ref q.1)=W.map (λq=>V.ref q.1)++[.ref S.1]:=by rw[qAI];rfl
   rw[qAV,qAp]at aV;have s1:szT H4 d=kvs.length:=by unfold szT;rw[S4.top]
   have s2:fG H4 O=W.length+1:=by rw[zE9 ab,qAB,qAV];rfl
   rw[eW]at ab;refine⟨_,rF,.inl ⟨rF,_,SqL.of ab⟩,_,_,.ref S.1,rF,rF,ab,sS,?_⟩;rw[List.dropLast_concat];obtain⟨aD,p0,aW⟩:=an S sS;have a3:S.1≠O:=zAu aD ab (λz=>nomatch z)
   have aE:∀m∈[d,O],∀ys,H4 m≠some (.tup ys):=λm hm ys=>by
    rcases qAQ.mp hm with z|z
    .rw [z,S4.top];exact λz=>nomatch z
    .rw [qAH.mp z,ab];exact λz=>nomatch z
   have k5:Kp [d,O] H4 (upd H4 O$ .lst$ W.map λq=>V.ref q.1):=Kp.put Kp.refl sS;have af:upd H4 O (.lst$ W.map λq=>V.ref q.1) O=some (.lst$ W.map λq=>V.ref q.1):=ac;have ae:upd H4 O (.lst$ W.map λq=>V.ref q.1) d=some (.dT kvs):=(a_ am).trans S4.top;generalize upd H4 O (.lst$ W.map λq=>V.ref q.1)=H5 at k5 af ae;have aq:∀x ys,H4 x=some (.tup ys)->H5 x=some (.tup ys):=λx ys e=>k5 _ _ e λz=>aE x z ys e;have ar:=aq _ _ aD
   have S5:StD J b Hs H5 d kvs:=⟨ae,λkv h=>by
    obtain⟨D,l,es,e1,e2,e3,e4,e5⟩:=S4.each kv h;exact⟨D,l,es,e1,e2.put k5 ai aE e4,e3,e4,e5⟩,S4.nd⟩
   have aj:=k4.trans k5;have a0:=S4.few few;refine⟨_,rF,_,rF,_,_,rF,eO.t (k:=kyS S.2) ae (by rw[zEh];exact ar),_,rF,?_⟩;rw[rq];refine eU (λc2=>?_) λc2=>?_
   .have c2:kyS S.2∉kvs.map (·.1):=by simpa using c2
    have a1:W.length<=16384:=lL
    have aX:Kp [] H H5:=λb o h _=>aj b o (ad b o h sS)$ nm2 (b_ hd h)$ b_ aC h;have aF:∀x,Fre H5 x->Fre Hs x:=λx f=>aj.fre f$ nm2 (b_ f ae).symm (b_ f af).symm;refine⟨_,rF,_,rF,_,rF,j,S.1,b,J,S.2,rF,A0.kp0 aX,few,ar,λl es H6 fl S6 ak k6=>?_⟩;have aG:=k6 _ _ ae sS;have aH:=k6 _ _ ar sS;have aI:=k6 _ _ af sS;refine⟨_,rF,_,rF,_,_,rF,fR.t (k:=kyS S.2) aG (by rw[zEh];exact aH) lL,?_⟩;have ev:eX (eV kvs (kyS S.2)$ .ref l) (kyS S.2)=some (.ref l):=by rw[tR,qAD rF]
    rw[zFh _$ zGj c2]at ev ⊢;have aY:StD J b Hs H6 d kvs:=S5.kp0 k6;have T6:StL Hs H6 l es:=⟨S6.top,S6.tup,S6.row,S6.now,λe he=>aF _$ S6.fr e he⟩;have k7:Kp [d,O] H6 (upd H6 d$ .dT$ kvs++[(kyS S.2,.ref l)]):=Kp.put Kp.refl sS;have al:upd H6 d (.dT$ kvs++[(kyS S.2,.ref l)]) d=some (.dT$ kvs++[(kyS S.2,.ref l)]):=ac;have as:=(a_ (o:=.dT$ kvs++[(kyS S.2,.ref l)]) am.symm).trans aI;generalize upd H6 d (.dT$ kvs++[(kyS S.2,.ref l)])=H7 at k7 al as
    have au:∀m∈[d,O],∀ys,H6 m≠some (.tup ys):=λm hm ys=>by
     rcases qAQ.mp hm with z|z
     .rw [z,aG];exact λz=>nomatch z
     .rw [qAH.mp z,aI];exact λz=>nomatch z
    have aJ:∀x ys,H6 x=some (.tup ys)->H7 x=some (.tup ys):=λx ys e=>k7 _ _ e λz=>au x z ys e;have aK:=aF l fl;have T7:=T6.put k7 ai au aK;have el:es.length=(zA2 J b S.2).length:=by rw[<-ak,qAB]
    have a4:es.length<=128:=by rw[el];exact zFb few
    have aL:((kvs++[(kyS S.2,V.ref l)]).map (·.1)).Nodup:=by rw[<-zFh (V.ref l)$ zGj c2];exact wH S4.nd
    have S7:StD J b Hs H7 d (kvs++[(kyS S.2,.ref l)]):=⟨al,λkv h=>by
     rcases qAK.mp h with z|z
     .obtain ⟨D,l,es,e1,e2,e3,e4,e5⟩:=aY.each kv z;exact⟨D,l,es,e1,e2.put k7 ai au e4,e3,e4,e5⟩
     .rw [qAH.mp z];exact⟨_,_,es,rF,T7,ak,aK,p0,aW⟩,aL⟩
    have aM:=S7.few few;rw[qAV,qAp]at aM;have g7:=eO.t (k:=kyS S.2) al (by rw[zEh];exact aJ _ _ aH);rw[ev]at g7;refine⟨_,rF,.inl ⟨rF,_,SqL.of as⟩,_,rF,_,rF,_,_,rF,g7,_,rF,⟨_,SqL.of T7.top⟩,λB hB=>zA8 (es.map λe=>V.ref e.t) (λi ys τ H8=>(∃o0 o1,τ=[o0,o1])/\ys=(es.take i).map (λe=>V.ref e.na)/\H8=upd H7 B (.lst ys)) ⟨⟨_,_,rF⟩,rF,rF⟩ (λi ys τ H8 ⟨_,_,z⟩=>by subst z;exact SqL.of$ (Kp.new (M:=[]) Kp.refl hB) _ _ T7.top sS) ?_ ?_⟩
    .rintro i v ys τ H8 hv ⟨⟨o0,o1,rfl⟩,rfl,rfl⟩;obtain⟨e,ee,rfl⟩:=sI hv;have aN:=(Kp.new (l:=B) (o:=.lst$ (es.take i).map λe=>V.ref e.na) (M:=[]) Kp.refl hB) _ _ (T7.tup e$ qAN ee) sS;have hi:i<es.length:=(qAa.mp ee).1;refine⟨_,_,rF,.inl$ .inl aN,rF,_,_,rF,_,_,rF,rF,?_⟩;refine⟨_,rF,ac,by rw[qAB,qAX];lia,⟨_,_,rF⟩,?_,zBm⟩;rw[zAh ee,qAI];rfl
    .rintro ys τ H8 ⟨_,rfl,rfl⟩;rw[qAB,qAY];have k8:Kp [] H7 (upd H7 B$ .lst$ es.map λe=>V.ref e.na):=Kp.new Kp.refl hB;have aO:upd H7 B (.lst$ es.map λe=>V.ref e.na) B=some (.lst$ es.map λe=>V.ref e.na):=ac;generalize upd H7 B (.lst$ es.map λe=>V.ref e.na)=H8 at k8 aO;have aP:=k8 _ _ as sS;have aQ:=k8 _ _ al sS;refine⟨_,_,_,_,rF,rF,aP,aO,by rw[qAB,qAB];lia,?_⟩;have ew:W.map (λq=>V.ref q.1)++es.map (λe=>V.ref e.na)=(W++es.map λe=>(e.na,e.d)).map λq=>V.ref q.1:=by rw[qAI,qAb];rfl
     rw[ew]
     have aR:∀m∈[d,O],∀ys,H8 m≠some (.tup ys):=λm hm ys=>by
      rcases qAQ.mp hm with z|z
      .rw [z,aQ];exact λz=>nomatch z
      .rw [qAH.mp z,aP];exact λz=>nomatch z
     have k9:Kp [d,O] H8 (upd H8 O$ .lst$ (W++es.map λe=>(e.na,e.d)).map λq=>V.ref q.1):=Kp.put Kp.refl sS;have av:upd H8 O (.lst$ (W++es.map λe=>(e.na,e.d)).map λq=>V.ref q.1) O=some (.lst$ (W++es.map λe=>(e.na,e.d)).map λq=>V.ref q.1):=ac;have aw:=(a_ (o:=.lst$ (W++es.map λe=>(e.na,e.d)).map λq=>V.ref q.1) am).trans aQ;generalize upd H8 O (.lst$ (W++es.map λe=>(e.na,e.d)).map λq=>V.ref q.1)=H9 at k9 av aw;have S8:=S7.kp0 k8;have aS:∀x ys,H7 x=some (.tup ys)->H9 x=some (.tup ys):=λx ys e=>k9 _ _ (k8 _ _ e sS) λz=>aR x z ys$ k8 _ _ e sS;have mk:∀x:List Key,x∈kvs.map (·.1)->x∈(kvs++[(kyS S.2,V.ref l)]).map (·.1):=λx h=>by rw[qAI];exact qAj _ h
     have mx:kyS S.2∈(kvs++[(kyS S.2,V.ref l)]).map (·.1):=by rw[qAI];exact qAr _$ qAH.mpr rF
     have mw:∀x:List Str,(kyS x∈kvs.map (·.1)\/x∈(W++[S]).map (·.2))->kyS x∈(kvs++[(kyS S.2,V.ref l)]).map (·.1)\/x∈(W++es.map λe=>(e.na,e.d)).map (·.2):=λx h=>by
      rcases h with z|z
      .exact .inl$ mk _ z
      .rw [qAI]at z;rcases qAK.mp z with y|y
       .exact .inr (by rw[qAI];exact qAj _ y)
       .have y:x=S.2:=qAH.mp y;rw[y];exact .inl mx
     refine⟨⟨_,W++es.map λe=>(e.na,e.d),_,rF,λb o h z=>k9 b o (k8 b o (k7 b o (k6 b o (aj b o h z) sS) z) sS) z,⟨aw,λkv h=>?_,aL⟩,av,λq hq=>?_,mw _ ao,λD hD s hs=>?_,?_⟩,?_⟩
     .obtain ⟨D,l,es,e1,e2,e3,e4,e5⟩:=S8.each kv h;exact⟨D,l,es,e1,e2.put k9 ai aR e4,e3,e4,e5⟩
     .rcases qAK.mp hq with z|z
      .obtain ⟨h1,h2⟩:=an q$ qAj _ z;exact⟨aS _ _$ aJ _ _$ k6 _ _ (aq _ _ h1) sS,h2⟩
      .obtain ⟨e,he,rfl⟩:=qAG.mp z;refine⟨aS _ _$ T7.now e he,?_⟩;have:(e.r,e.d)∈zA2 J b S.2:=by rw[<-ak];exact qAG.mpr ⟨e,he,rF⟩
       obtain⟨r,_,er⟩:=qAG.mp this;exact⟨_,(qAf (·.2) er).symm⟩
     .rw [qAI]at hD;rcases qAK.mp hD with z|z
      .exact mw _$ ap D z s hs
      .have:=zCy$ qAH.mp z;subst this;rw[<-ak]at hs;obtain⟨e,he,rfl⟩:=qAG.mp hs;exact .inr$ qAG.mpr ⟨(e.na,e.d),qAr _$ qAG.mpr ⟨e,he,rF⟩,rF⟩
     .rw [qAV,qAV,qAB,qAp];lia
     .have s3:szT H9 d=kvs.length+1:=by unfold szT;rw[aw];exact qAV
      have s4:fG H9 O=W.length+es.length:=by rw[zE9 av,qAB,qAV,qAB]
      show 129*(129-szT H9 d)+fG H9 O<129*(129-szT H4 d)+fG H4 O;rw[s1,s2,s3,s4];lia
   .have c2:kyS S.2∈kvs.map (·.1):=by simpa using c2
    refine⟨⟨kvs,W,_,rF,aj,S5,af,λq hq=>?_,?_,λD hD s hs=>?_,lL⟩,?_⟩
    .obtain ⟨h1,h2⟩:=an q$ qAj _ hq;exact⟨aq _ _ h1,h2⟩
    .rcases ao with z|z
     .exact .inl z
     .rw [qAI]at z;rcases qAK.mp z with y|y
      .exact .inr y
      .have y:[]=S.2:=qAH.mp y;rw[<-y]at c2;exact .inl c2
    .rcases ap D hD s hs with z|z
     .exact .inl z
     .rw [qAI]at z;rcases qAK.mp z with y|y
      .exact .inr y
      .have y:s.2=S.2:=qAH.mp y;rw[<-y]at c2;exact .inl c2
    .have s3:szT H5 d=kvs.length:=by unfold szT;rw[ae]
     have s4:fG H5 O=W.length:=by rw[zE9 af,qAB]
     show 129*(129-szT H5 d)+fG H5 O<129*(129-szT H4 d)+fG H4 O;rw[s1,s2,s3,s4];lia
  .have eW:ws=[]:=by
    cases ws with
    |nil=>rfl
    |cons _ _=>exact absurd rF c
   subst eW;refine⟨_,rF,?_⟩;have aZ:Kp [] H H4:=λb o h _=>k4 b o (ad b o h sS)$ nm2 (b_ hd h)$ b_ aC h;refine k d kvs H4 ⟨S4.top,λkv h=>?_,S4.nd⟩ (ao.resolve_right λz=>nomatch z) (λD hD s hs=>(ap D hD s hs).resolve_right λz=>nomatch z) aZ;obtain⟨D,l,es,e1,e2,e3,e4,e5⟩:=S4.each kv h;exact⟨D,l,es,e1,⟨e2.top,e2.tup,e2.row,e2.now,λe he=>ad.fre (e2.fr e he) sS⟩,e3,ad.fre e4 sS,e5⟩
end
end My
namespace L2
open PySem PySem.Spec PyProof.Rows
section
variable{X:Cx}
def xG(tk tv:TE):TE:=λσ H Q=>∀p,H p=none->jT [(tk,tv)] σ (upd H p$ .dT []) λps H2=>∃(ks:List Key)(b:Addr)(y:V),ps=[(.ref b,y)]/\H2 p=some (.dT [])/\H2 b=some (.tup$ ks.map kV)/\Q (.ref p) (upd H2 p$ .dT [(ks,y)])
theorem lF{pos:Pos}{k v:Expr}{tk tv:TE}(hu:X.A.units+1<cLine)(hk:PE X k tk)(hv:PE X v tv):PE X (.Dict [some k] [v] pos) (xG tk tv):=by
 intro pins s σ H Q I q;have hn:=I.hok.fresh$ qAF s.heap.objs.size;have I1:=I.laid (a:=s.heap.objs.size) (o:=.dT []) (h':=s.heap.push {cls:=.type "dict",data:=.dict #[]}) (t':=s.toks) (λ_ _ q=>qAL _ q) (qAF _)$ md s.heap I.big;have pp:PPs X pos [some k] [v] [(tk,tv)]:=lP hk hv oP;refine wpAny_Dict_any rF rF sS (show(1:Nat)<=15 by decide)$ thn (pp pins _ σ _ _ I1$ q _ hn) λws s2 ⟨ps,H2,O,S,ks,b,y,ep,e,V,q2⟩=>?_;subst ep
 cases S with
 |@cons p0 q0 aa ab r t=>
  cases t
  obtain⟨w2,u⟩:=q0;obtain⟨r1,r2⟩:=r
  cases (show w2=Value.ref b from r1)
  obtain⟨z,hd,xs,rl,dd⟩:=wc O.hok e
  cases rl
  unfold storeAll;rw[List.forIn_cons];refine qAA$ qAA$ wpAny_dictSet_heap (knd:=tupleKind$ zBc X.prog X.w) (show(tupleKind$ zBc X.prog X.w).room X.A from Nat.lt_of_succ_lt hu) (zJm O.hok V) dd λh' W hs=>qAE ?_;show wpAny _ _ (forIn [] PUnit.unit _) _ _ _;rw[List.forIn_nil];refine qAE ⟨.ref s.heap.objs.size,_,?_,rF,q2⟩;obtain⟨qo,es,ep,hq,h2,h3,h4,_,h5⟩:=W;refine zL8 O (by rw[e];exact True.intro) hs ⟨qo,hq⟩ ⟨by show(1:Nat)<=sizeLine;decide,hd,_,?_,qo,es,ep,hq,h2,h3,h4,h5⟩;have nb:b≠s.heap.objs.size:=zAu V e (λz=>nomatch z);exact .cons ⟨rF,(a_ nb).trans V,r2⟩ .nil
end
end L2
namespace RV3
open PySem
variable{d:Addr}{ep:Nat}{od:Obj}
section
variable{P:Program}{w:World}{A:Around}{E:Value->Shared->Prop}{s:Shared}
theorem u9{Q:Option Value->Shared->Prop}{Z:PySem.Fin->Shared->Prop}(O:A.handled=none)(q:∀h',(∀b o,s.heap.get? b=some o->h'.get? b=some o)->Q none {s with heap:=h'}) :
  wpAny (model P w) A.in1 (do let e<-newExc (.type "StopIteration") [];raiseNew e:Sem PySem.Fin) Z (λe s'=>wpAny (model P w) A (do if(<-isInstance e (.type "StopIteration")) then pure none else throw e) Q E s') s:=by
 refine qAA ?_;simp only[newExc,newTuple];refine qAA (qBY ?_$ by size_fits);refine qAA (m:=firstArgMember _ _)$ qCK (a:=Value.none) (by first|rfl|(simp only[firstArgMember];rfl)) ?_;refine qBY ?_ (by size_fits);simp only[raiseNew];refine qAA$ wpAny_handled ?_;rw[show A.in1.handled=none from O];refine qAA$ qAE$ wpAny_throw ?_;refine qAA$ qDL (T:="StopIteration") (b:=true) ⟨_,qAg _ rF,rF⟩ isSubtype_stop ?_;exact qAE$ q _ λb o y=>qAL _$ qAL _ y
theorem item_end{S:Addr}{i n:Nat}{ok ov:Value}{es:Array DictEntry}{Q:Option Value->Shared->Prop}(hh:A.handled=none)(O:IsItemIter s.heap S d i n ep ok ov)(W:s.heap.get? d=some od)(o2:od.data= .dict es ep)(hn:es.size=n)(he:n<=i)
  (q:∀h',Heap.ExtBut S s.heap h'->Q none {s with heap:=h'}):wpAny (model P w) A (pyNext$ .ref S) Q E s:=by
 have ty:s.TypeIs (.ref S) "dict_itemiterator":= ⟨_,O,rF⟩;have en:es[i]?=none:=Array.getElem?_eq_none lL;have ni:¬((i:Int)<0):=lL
 unfold pyNext;refine qAA$ qBy$ qCL (name:=Str.ofString "__next__") ty qCu$ qBL qCu ty F.entry_dict_itemiterator_next ?_$ F.args_dict_itemiterator_next_1 _;refine qAA$ qAE$ qAA$ qAA ?_
 first|refine qAA$ qDZ ty$ qAE ?_|refine qAA$ qDa ty$ qAE ?_
 refine qAA$ qDK O rF ?_;have V:Builtin.Dict_items.ownsTuple "dict_itemiterator"=true:=dD
 simp only[V,qBX];show wpAny _ _ (if(Value.ref d==Value.none)=true then _ else _) _ _ _;refine qCR (λz=>absurd z qAk) λ_=>qAA$ qAE$ qAA$ wpAny_dictEntries W o2 ?_;refine qCR (λz=>absurd z$ by rw[hn];simp) λ_=>qAA$ qAE$ qAA$ wpAny_dictEpoch W o2 ?_;refine qCR (λz=>absurd z sS) λ_=>qAE ?_;simp only[ni,qCC,qBQ,en];refine qAA ?_
 first|refine qAA$ qDZ ty$ qAE ?_|refine qAA$ qDa ty$ qAE ?_
 refine qAA$ show wpAny _ _ (setField (.ref S) 2 .none) _ _ s from qBb O rF sS ?_;exact u9 (s:={s with heap:=s.heap.update S (Obj.mapFields (·.setIfInBounds 2 .none))}) hh λh' k=>q h' λb o nb y=>k b o$ (qAy ..).extBut b o nb y
theorem item_next{O:Addr}{i n:Nat}{ok W:Value}{es:Array DictEntry}{en:DictEntry}{Q:Option Value->Shared->Prop}(S:IsItemIter s.heap O d i n ep ok W)(o1:s.heap.get? d=some od)(o2:od.data= .dict es ep)(hn:es.size=n)(he:es[i]?=some en)
  (q:∀h',IsItemIterOut h' O d (i+1) n ep en.key en.val s.heap.objs.size->h'.get? s.heap.objs.size=some {cls:=.type "tuple",data:=.seq #[en.key,en.val]} ->
   (∀b o,b≠O->s.heap.get? b=some o->h'.get? b=some o)->Q (some$ .ref s.heap.objs.size) {s with heap:=h'}):wpAny (model P w) A (pyNext$ .ref O) Q E s:=by
 obtain⟨h0,g,dr,tk,os⟩:=s;have S:IsItemIter h0 O d i n ep ok W:=S;have ty:Shared.TypeIs ⟨h0,g,dr,tk,os⟩ (.ref O) "dict_itemiterator":= ⟨_,S,rF⟩;have ni:¬((i:Int)<0):=lL
 unfold pyNext;refine qAA$ qBy$ qCL (name:=Str.ofString "__next__") ty qCu$ qBL qCu ty F.entry_dict_itemiterator_next ?_$ F.args_dict_itemiterator_next_1 _;refine qAA$ qAE$ qAA$ qAA ?_
 first|refine qAA$ qDZ ty$ qAE ?_|refine qAA$ qDa ty$ qAE ?_
 refine qAA$ qDK S rF ?_;have ab:Builtin.Dict_items.ownsTuple "dict_itemiterator"=true:=dD
 simp only[ab,qBX];show wpAny _ _ (if(Value.ref d==Value.none)=true then _ else _) _ _ _;refine qCR (λz=>absurd z qAk) λ_=>qAA$ qAE$ qAA$ wpAny_dictEntries o1 o2 ?_;refine qCR (λz=>absurd z$ by rw[hn];simp) λ_=>qAA$ qAE$ qAA$ wpAny_dictEpoch o1 o2 ?_;refine qCR (λz=>absurd z sS) λ_=>qAE ?_;simp only[ni,qCC,qBQ,he];refine qAA ?_
 first|refine qAA$ qDZ ty$ qAE ?_|refine qAA$ qDa ty$ qAE ?_
 refine qAA$ qDs ty ?_;refine qAA$ show wpAny _ _ (setField (.ref O) 3$ rawInt$ (i:Int)+1) _ _ _ from qBd S sS λh1 e1 s1=>?_;have s1:Heap.SameBut O h0 h1:=s1
 have e1:IsItemIter h1 O d (i+1) n ep ok W:=by
  have e:((i+1:Nat):Int)=(i:Int)+1:=lL
  unfold IsItemIter;rw[e];simpa[rawInt]using e1
 have aa:Shared.TypeIs ⟨h1,g,dr,tk,os⟩ (.ref O) "dict_itemiterator":= ⟨_,e1,rF⟩;refine qAA$ qBF$ qAA$ qDs aa$ qAA$ qDs aa ?_;show wpAny _ _ (Builtin.Dict_items.pairFromOwner (.ref O) 6 en.key en.val) _ _ _;unfold Builtin.Dict_items.pairFromOwner;refine qAA$ qDM ?_;have e2:IsItemIter (h1.push {cls:=.type "tuple",data:=.seq #[en.key,en.val]}) O d (i+1) n ep ok W:=qAL _ e1;have z1:h1.objs.size=h0.objs.size:=s1.1;have il:O<h0.objs.size:=qAW S;have t2:(h1.push {cls:=.type "tuple",data:=.seq #[en.key,en.val]}).get? h0.objs.size=some {cls:=.type "tuple",data:=.seq #[en.key,en.val]}:=by rw[<-z1];exact qAg _ rF
 have k2:∀b o,b≠O->h0.get? b=some o->(h1.push {cls:=.type "tuple",data:=.seq #[en.key,en.val]}).get? b=some o:=λb o V e=>qAL _$ s1.extBut b o V e;rw[z1];generalize h1.push {cls:=.type "tuple",data:=.seq #[en.key,en.val]}=h2 at e2 t2 k2;refine qAA ?_;unfold Builtin.Dict_items.ownedTupleIsFree;refine qAA$ qBc e2 rF (x:=.none) rF$ qAE ?_;simp only[qBX];refine qAA$ qBc e2 rF (x:=ok) rF$ qAA$ qBc e2 rF (x:=W) rF ?_;refine qAA$ qBd e2 sS λh3 e3 s3=>qAA$ qBd e3 sS λh4 e4 s4=>qAA$ qBd e4 sS λh5 e5 s5=>qAA$ qBd e5 sS λh6 e6 s6=>?_;have s3:Heap.SameBut O h2 h3:=s3;have s4:Heap.SameBut O h3 h4:=s4;have s5:Heap.SameBut O h4 h5:=s5;have s6:Heap.SameBut O h5 h6:=s6;have k6:∀b o,b≠O->h2.get? b=some o->h6.get? b=some o:=λb o V e=>s6.extBut b o V$ s5.extBut b o V$ s4.extBut b o V$ s3.extBut b o V e;exact qAA$ wpAny_letGo$ qAE$ qAE ⟨_,rF,qAE$ q h6 e6 (k6 _ _ (qBV il) t2) λb o V e=>k6 b o V$ k2 b o V e⟩
end
section
variable{P:Program}{w:World}{A:Around}{E:Value->Shared->Prop}{s:Shared}
theorem items_call{Q:Value->Shared->Prop}(O:(d==sysModules)=false)(S:s.heap.get? d=some od)(V:od.cls= .type "dict")
  (q:Q (.ref s.heap.objs.size) {s with heap:=s.heap.push {cls:=.type "dict_items",data:=.fields #[.ref d]}}):wpAny (model P w) A (call (.builtin "dict.items") [.ref d]) Q E s:=by
 have ty:s.TypeIs (.ref d) "dict":= ⟨_,S,V⟩;refine qBL F.slot_dict_items ty F.entry_dict_items ?_$ F.args_dict_items_1 _;unfold Builtin.«dict.items»;refine qAA ?_;unfold Builtin.Dict.noArgs;refine qAA$ wpAny_notOrdered_dict ty$ show wpAny _ _ (pure d) _ _ s from qAE ?_;show wpAny _ _ (Builtin.Dict.showsAll d >>= _) _ _ s;unfold Builtin.Dict.showsAll;rw[qAC$ by rw[O];exact qAk];exact qAA$ qAE$ qAA$ qBY$ qAE ⟨_,rF,q⟩
theorem items_iter{v:Addr}{es:Array DictEntry}{Q:Value->Shared->Prop}(V:s.heap.IsItemsView v d)(o1:s.heap.get? d=some od)(o2:od.data= .dict es ep)
  (q:Q (.ref s.heap.objs.size) {s with heap:=s.heap.push {cls:=.type "dict_itemiterator",data:=.fields #[.none,.bool false,.ref d,.int 0 0,.int es.size 0,.int ep 0,.none,.none]}}):wpAny (model P w) A (pyIter$ .ref v) Q E s:=by
 obtain⟨ov,O,aa,S⟩:=id V;refine qCs V.typeIs F.slot_dict_items_iter$ qBL F.slot_dict_items_iter V.typeIs F.entry_dict_items_iter ?_$ F.args_dict_items_iter_1 _;unfold Builtin.«dict_items.__iter__»;refine qAA$ qAE$ qAA ?_;unfold Builtin.Dict_items.dictOf;refine qAA$ qBc O S (x:=.ref d) rF$ qAE$ qAA ?_;unfold Builtin.Dict_items.newIterator;refine qAA$ wpAny_dictEntries o1 o2$ qAA$ wpAny_dictEpoch o1 o2 ?_;have W:Builtin.Dict_items.ownsTuple "dict_itemiterator"=true:=dD
 simp only[W,qBX]
 refine qBY (qAE ⟨_,rF,"dict_itemiterator",_,⟨_,qAg _ rF,rF⟩,qCu.lookup,?_⟩)
  (by simp only[sizeOk,Builtin.Dict_items.ownedTupleFields,qAT,qAV,qAd,qBS,qAM];lia)
 simpa[rawInt,Builtin.Dict_items.ownedTupleFields]using q
end
end RV3
namespace L2
open PySem PySem.Spec PyProof.Rows
def thawT(D:fW)(a:Addr)(o:Obj)(kvs:List (List Key×V)):fW where
 nx:=λσ H=>H a=some (.frz o$ .dT kvs)/\D.nx σ (upd H a$ .dT kvs)
 rt:=λv H=>H a=some (.frz o$ .dT kvs)/\D.rt v (upd H a$ .dT kvs)
 bk:=λσ H=>H a=some (.frz o$ .dT kvs)/\D.bk σ (upd H a$ .dT kvs)
 ct:=λσ H=>H a=some (.frz o$ .dT kvs)/\D.ct σ (upd H a$ .dT kvs)
def yv(t:TS):TS:=λD σ H=>∃a kvs,H a=some (.dT kvs)/\∀o,t (thawT D a o kvs) σ (upd H a$ .frz o$ .dT kvs)
section
variable{X:Cx}
theorem Inv.thawT{pins:List (Addr×Obj)}{σ:St}{H:Hp}{s:Shared}{a:Addr}{o:Obj}{kvs:List (List Key×V)}(I:Inv X pins σ H s)(e:H a=some (.frz o$ .dT kvs))(S:∀o v,X.H₀ a≠some (.frz o v)):Inv X pins σ (upd H a$ .dT kvs) s:=by
 obtain⟨_,z⟩:zBk X.prog X.w H s.heap a (.frz o$ .dT kvs):=I.hok a _ e;obtain⟨W,z2,xs,O,z3⟩:=z;refine I.retell e (λ_ h=>nomatch h) (λ_ h=>nomatch h) (λ_ h=>nomatch h) S ⟨W,z2,xs,?_,z3⟩;exact KT.keeps (H:=H) O λb ys y=>by rw[a_$ zAu y e λz=>nomatch z];exact y
theorem ph{st:Stmt}{t:TS}(h:PS X st t):PS X st (yv t):=by
 intro pins s σ H D I ⟨a,kvs,e,q⟩;have ok:zBk X.prog X.w H s.heap a (.dT kvs):=I.hok a _ e;obtain⟨y1,y2,xs,W,o,es,ep,ho,y3⟩:=id ok
 have V:∀o v,X.H₀ a≠some (.frz o v):=λo v z=>by
  have:=I.base.frzs a o v z;rw[e]at this;cases this
 have I1:Inv X pins σ (upd H a$ .frz o$ .dT kvs) s:=I.retell e (λ_ h=>nomatch h) (λ_ h=>nomatch h) (λ_ h=>nomatch h) V ⟨ho,y1,y2,xs,KT.keeps (H:=H) W (λb ys y=>by rw[a_$ zAu y e λz=>nomatch z];exact y),o,es,ep,ho,y3⟩;refine thn (h pins s σ _ _ I1$ q o) λf s' r=>?_
 cases f with
 |next=>obtain⟨O,H',S,e',d'⟩:=r;exact⟨O,_,S.thawT e' V,d'⟩
 |brk=>obtain⟨O,H',S,e',d'⟩:=r;exact⟨O,_,S.thawT e' V,d'⟩
 |cont=>obtain⟨O,H',S,e',d'⟩:=r;exact⟨O,_,S.thawT e' V,d'⟩
 |ret u=>obtain⟨v,O,H',S,rv,e',d'⟩:=r;exact⟨v,O,_,S.thawT e' V,rv,d'⟩
theorem kq{pins:List (Addr×Obj)}{σ:St}{H:Hp}{s:Shared}{a:Addr}{o:Obj}{kvs:List (List Key×V)}(I:Inv X pins σ H s)(e:H a=some (.frz o$ .dT kvs)) :
  ∃(es:Array DictEntry)(ep:Nat),o.data= .dict es ep/\es.size=kvs.length/\(a==sysModules)=false/\s.heap.get? a=some o/\o.cls= .type "dict"/\o.ExactDict/\∀(i:Nat)(k:List Key)(v:V),kvs[i]?=some (k,v)->∃(en:DictEntry)(b:Addr),es[i]?=some en/\en.key=Value.ref b/\H b=some (.tup$ k.map kV)/\eE v en.val:=by
 obtain⟨S,z,hd,xs,O,o1,es,ep,W,y2,y3,y4,y5⟩:zBk X.prog X.w H s.heap a (.frz o$ .dT kvs):=I.hok a _ e;rw[S]at W
 cases W
 have l1:kvs.length=xs.length:=qBt O;have l2:es.toList.length=xs.length:=by rw[y4,qAB]
 refine⟨es,ep,y3,by simp only[qBv]at l2;lia,hd,S,y2.1,y2,λi k v ek=>?_⟩;have hi:i<xs.length:=by have:=(qAa.mp ek).1;lia
 have key:∀{l:List (List Key×V)} {m:List (List Key×Addr×Value)},KT H l m->∀(i:Nat)(k:List Key)(v:V),l[i]?=some (k,v)->∃q,m[i]?=some q/\k=q.1/\H q.2.1=some (.tup$ k.map kV)/\eE v q.2.2:=by
  intro l m r
  induction r with
  |nil=>intro i k v h;simp at h
  |@cons p q ps qs h t ih=>
   intro i k v hk
   cases i with
   |zero=>
    have:p=(k,v):=by simpa using hk
    subst this;exact⟨q,rF,h⟩
   |succ i=>exact ih i k v (by simpa using hk)
 obtain⟨q,eq,h1,h2,h3⟩:=key O i k v ek;refine⟨entryOfKey (tupleKind$ zBc X.prog X.w) q,q.2.1,?_,rF,h2,h3⟩;rw[<-qAv,y4,qAU,eq];rfl
end
def rA(a:Addr)(o:Obj)(kvs:List (List Key×V)):It :=
 ⟨λi H=>H a=some (.frz o$ .dT kvs)/\i<kvs.length,λi H v H'=>∃t b k x,v= .ref t/\H t=none/\kvs[i]?=some (k,x)/\H b=some (.tup$ k.map kV)/\H'=upd H t (.tup [.ref b,x]),λi H=>H a=some (.frz o$ .dT kvs)/\kvs.length<=i⟩
theorem lw{P:Program}{w:World}{K:PySem.W.Frag}{elts:List Expr}{kk:Nat}{tp:Pos}(a O:Addr)(o:Obj)(es:Array DictEntry)(ep:Nat)(kvs:List (List Key×V))(hd:o.data= .dict es ep):ig P w K (.Tuple elts kk tp) (rA a o kvs) [O] O (λi h=>∃ok ov,IsItemIter h O a i kvs.length ep ok ov) where
 mem:=sS
 obj:=λi h ⟨ok,ov,st⟩ b W=>by
  have:b=O:=by simpa using W
  subst this;exact⟨_,st,λv y=>by cases y⟩
 keep:=λi h h' ⟨ok,ov,st⟩ k=>⟨ok,ov,k O sS _ st⟩
 item:=by
  intro X hP hw hK hc i pins s σ H E I hf st hg;subst hP hw hK;obtain⟨e,hi⟩:=hg;obtain⟨ok,ov,st⟩:=st;obtain⟨ab,ad,S,sz,_,ho,_,_,en⟩:=kq I e;rw[hd]at S
  cases S
  have ek:kvs[i]?=some (kvs[i].1,kvs[i].2):=qAx hi;obtain⟨d,b,e1,e2,eb,rv⟩:=en i _ _ ek;refine RV3.item_next st ho hd sz e1 λh1 eo t1 o1=>?_;refine⟨_,rF,wpAny_letOwnedTupleGo_items eo λh2 e3 b2=>?_⟩;have b2:Heap.SameBut O h1 h2:=b2;have aa:O<s.heap.objs.size:=qAW st;have t2:h2.get? s.heap.objs.size=some {cls:=.type "tuple",data:=.seq #[d.key,d.val]}:=b2.extBut _ _ (qBV aa) t1;have on:∀b u,b∉[O]->s.heap.get? b=some u->h2.get? b=some u:=λb u nb y=>b2.extBut b u (λz=>nb$ by simp[z])$ o1 b u (λz=>nb$ by simp[z]) y;have hn:∀b∈[O],H b=none:=λb W=>(hf b W).1;have new:zBk X.prog X.w (upd H s.heap.objs.size$ .tup [.ref b,kvs[i].2]) h2 s.heap.objs.size (.tup [.ref b,kvs[i].2]):=⟨by show(2:Nat)<=sizeLine;decide,[d.key,d.val],.cons e2$ .cons rv .nil,⟨_,t2,rF,_,rF⟩⟩
  have I2:Inv X pins σ (upd H s.heap.objs.size$ .tup [.ref b,kvs[i].2]) {s with heap:=h2}:=I.call' (ch:=[O]) rF (jt on (qAF _)$ I.hok.fresh$ qAF _) (zL3 I.hok on hn (qAF _) new) I.bare λb W=>by
   obtain⟨_,f1,_,f3,f4,f5⟩:=hf b W;exact⟨f3,f1,f4,f5⟩
  refine⟨.ref s.heap.objs.size,_,I2,rF,⟨_,_,_,_,rF,I.hok.fresh$ qAF _,ek,eb,rF⟩,⟨_,_,e3⟩,λb W=>?_⟩;have ae:=hn b W;have:b=O:=by simpa using W
  rw[a_$ by rw[this];exact qAe aa];exact ae
 done:=by
  intro X hP hw hK hc i pins s σ H E I hf st hg;subst hP hw hK;obtain⟨e,hi⟩:=hg;obtain⟨ok,ov,st⟩:=st;obtain⟨ab,ad,S,sz,_,ho,_,_,en⟩:=kq I e;rw[hd]at S
  cases S
  obtain⟨f0,f1,f2,f3,f4,f5⟩:=hf O sS;exact RV3.item_end (I.ok.hd hc) st ho hd sz hi λh' eb=>⟨rF,I.turned (t':=s.toks) (λb o W y=>eb b o W y) f0 f1 f3 f4 f5⟩
 self:=λA i s Q E ⟨ok,ov,st⟩ h=>by
  have ty:s.TypeIs (.ref O) "dict_itemiterator":= ⟨_,st,rF⟩;refine qCs ty qDR$ qBL qDR ty RV.e_itemIter ?_$ PySem.F.args_dict_itemiterator_iter_1 _;exact qAA$ qAE$ qAE ⟨_,rF,"dict_itemiterator",_,ty,PySem.F.slot_dict_itemiterator_next.lookup,h⟩
section
variable{X:Cx}{elts:List Expr}{kk:Nat}{tp:Pos}
theorem i6{o:Expr}{to:TE}{apos cpos:Pos}(ho:PE X o to)(V:attributeBase o "items" X.env (eval o X.env)=eval o X.env:=by rfl)(W:(apos.endLine==cpos.line)=true:=by rfl) :
  PI X (.Tuple elts kk tp) (.Call (.Attribute o "items" apos) [] [] cpos) (λσ H R=>to σ H λx H1=>∃a ob kvs,x= .ref a/\H1 a=some (.frz ob$ .dT kvs)/\R (rA a ob kvs) H1):=by
 intro pins s σ H R I h;refine qDj V W$ thn (ho pins s σ H _ I h) λv S ⟨x,H1,I1,r1,a,ob,kvs,ex,e,q⟩=>?_;subst ex
 cases r1
 obtain⟨es,ep,hd,sz,aa,O,hc,ab,_⟩:=kq I1 e;have ty:S.TypeIs (.ref a) "dict":= ⟨_,O,hc⟩;refine⟨"dict","dict.items",qC8,qDS,PySem.F.type_dict_items,ty,(λb y=>by cases y;exact⟨ob,O,ab.2.1⟩),qCb rF$ PySem.evalArgs_none ?_⟩;refine RV3.items_call aa O hc ?_;show wpAny _ _ (pyIter _) _ _ _;have hv:(S.heap.push {cls:=.type "dict_items",data:=.fields #[.ref a]}).IsItemsView S.heap.objs.size a:=⟨_,qAg _ rF,rF,rF⟩;refine RV3.items_iter (s:={S with heap:=S.heap.push {cls:=.type "dict_items",data:=.fields #[.ref a]}}) hv (qAL _ O) hd ?_;have k1:∀b u,S.heap.get? b=some u->((S.heap.push {cls:=.type "dict_items",data:=.fields #[.ref a]}).push {cls:=.type "dict_itemiterator",data:=.fields #[.none,.bool false,.ref a,.int 0 0,.int es.size 0,.int ep 0,.none,.none]}).get? b=some u:=λb u y=>qAL _$ qAL _ y;refine⟨_,[(S.heap.push {cls:=.type "dict_items",data:=.fields #[.ref a]}).objs.size],_,_,H1,rF,I1.kept (t':=S.toks) k1,lw a _ ob es ep kvs hd,⟨_,_,by rw[<-sz];exact qAg _ rF⟩,λb hb=>?_,q⟩;have:b=(S.heap.push {cls:=.type "dict_items",data:=.fields #[.ref a]}).objs.size:=by simpa using hb
 subst this;have ge:S.heap.objs.size<=(S.heap.push {cls:=.type "dict_items",data:=.fields #[.ref a]}).objs.size:=by rw[qBM];exact qBl _
 exact I1.fpOk ge$ I1.hok.fresh ge
end
theorem zKp{a:Addr}{o:Obj}{kvs:List (List Key×V)}{g:TG}{tb:TS}{D:fW}{σ:St}{H:Hp}(O:Nat->St->Hp->Prop)(h0:O 0 σ H)(hl:∀i σ H,i<=kvs.length->O i σ H->H a=some (.frz o$ .dT kvs))
  (hs:∀i k v σ H t b,kvs[i]?=some (k,v)->O i σ H->H t=none->H b=some (.tup$ k.map kV)->g (.ref t) σ (upd H t$ .tup [.ref b,v]) λS H2=>tb {D with nx:=O (i+1),ct:=O (i+1),bk:=D.nx} S H2) (hd:∀σ H,O kvs.length σ H->D.nx σ H) :
  ∃W:Nat->Nat->St->Hp->Prop,(∃m,W 0 m σ H)/\∀i m σ H,W i m σ H ->
   ((rA a o kvs).stop i H/\D.nx σ H)\/((rA a o kvs).go i H/\∃N:St->Hp->Prop,(∀aa H',N aa H'->∃m',m'<m/\W (i+1) m' aa H')/\∀x H',(rA a o kvs).yld i H x H'->g x σ H' λS H2=>tb {D with nx:=N,ct:=N,bk:=D.nx} S H2):=by
 refine⟨λi m σ H=>m=kvs.length-i/\i<=kvs.length/\O i σ H,⟨kvs.length,sS,qAm _,h0⟩,?_⟩;rintro i m σ H ⟨rfl,hi,p⟩
 by_cases hlt:i<kvs.length
 .refine .inr ⟨⟨hl i σ H hi p,hlt⟩,O$ i+1,λaa H' p'=>⟨_,?_,rF,hlt,p'⟩,λx H' y=>?_⟩
  .show kvs.length-(i+1)<kvs.length-i;lia
  .obtain ⟨t,b,k,v,rfl,ft,ek,eb,rfl⟩:=y;exact hs i k v σ H t b ek p ft eb
 .have e:i=kvs.length:=lL
  subst e;exact .inl ⟨⟨hl _ σ H hi p,qAF _⟩,hd σ H p⟩
end L2
namespace My
open PySem L2
variable{P:Program}{w:World}{K:PySem.W.Frag}{mg:Str->Option Value}{base:Heap}{C:Addr}
variable{J:JR}{b:Int}{D r ns:List Str}{H H':Hp}{f:Addr}{fd:FuncData}{c:Nat}{n a:Str}
inductive Pth(J:JR)(b:Int):List Str->List (List Str)->Prop
 |nil:Pth J b [] []
 |snoc {D D' r:List Str} {rs:List (List Str)}:Pth J b D rs->(r,D')∈zA2 J b D->Pth J b D' (rs++[r])
theorem Pth.key{ks:List (List Key)}(h0:kyS []∈ks)(O:∀D,kyS D∈ks->∀s∈zA2 J b D,kyS s.2∈ks){rs:List (List Str)}(h:Pth J b D rs):kyS D∈ks:=by
 induction h with
 |nil=>exact h0
 |snoc _ hs S=>exact O _ S _ hs
theorem Pth.last{rs:List (List Str)}(h:Pth J b D rs){t:Nat}(e:rs.length=t+1):∃S r O,rs=O++[r]/\Pth J b S O/\(r,D)∈zA2 J b S/\O.length=t:=by
 cases h with
 |nil=>exact nomatch e
 |snoc h hs=>exact⟨_,_,_,rF,h,hs,by rw[qAV]at e;exact Nat.succ.inj e⟩
theorem zEp{O:List Str}(h:(r,O)∈zA2 J b D):∃p,O=J.ns.filter p:=by
 obtain⟨r,_,S⟩:=qAG.mp h;exact⟨_,(qAf (·.2) S).symm⟩
abbrev PL:=List$ List Str×List (List Str)
variable{A:PL}
def ga(A:PL)(k:List Str)(v:List (List Str)):PL:=if k∈A.map (·.1) then A.map (λe=>if e.1=k then(k,v) else e) else A++[(k,v)]
def jb(J:JR)(b:Int)(A:PL)(e:List Str×List (List Str)):PL:=(zA2 J b e.1).foldl (λA s=>ga A s.2$ e.2++[s.1]) A
def fX(J:JR)(b:Int):Nat->PL
 |0=>[([],[])]
 |t+1=>(fX J b t).foldl (jb J b) []
theorem zJj(A:PL)(k:List Str)(v:List (List Str)):(ga A k v).map (·.1)=if k∈A.map (·.1) then A.map (·.1) else A.map (·.1)++[k]:=by
 unfold ga;split
 .rw [qAb]
  exact qBU λq _=>by
   show(if q.1=k then(k,v) else q).1=q.1;split
   .rename_i h;exact h.symm
   .rfl
 .rw [qAI];rfl
theorem sD{k:List Str}{v:List (List Str)}{e:List Str×List (List Str)}(h:e∈ga A k v):e=(k,v)\/e∈A:=by
 unfold ga at h;split at h
 .obtain ⟨q,h1,h2⟩:=qAG.mp h;split at h2
  .exact .inl h2.symm
  .exact .inr (by rw[<-h2];exact h1)
 .rcases qAK.mp h with z|z
  .exact .inr z
  .exact .inl$ qAH.mp z
theorem sx(A:PL)(k:List Str)(v:List (List Str)):(k,v)∈ga A k v:=by
 unfold ga;split
 .rename_i h;obtain⟨q,h1,h2⟩:=qAG.mp h;exact qAG.mpr ⟨q,h1,qAD h2⟩
 .exact qAr _$ qAH.mpr rF
theorem ug{k:List Str}{v:List (List Str)}{e:List Str×List (List Str)}(h:e∈A)(n:e.1≠k):e∈ga A k v:=by
 unfold ga;split
 .exact qAG.mpr ⟨e,h,qAC n⟩
 .exact qAj _ h
theorem oK{k x:List Str}{v:List (List Str)}:x∈(ga A k v).map (·.1)↔x∈A.map (·.1)\/x=k:=by
 rw[zJj];split
 .rename_i h;exact⟨.inl,λz=>z.elim id λe=>e▸h⟩
 .rw [qAK,qAH]
theorem vh{k:List Str}{v:List (List Str)}(h:(A.map (·.1)).Nodup):((ga A k v).map (·.1)).Nodup:=by
 rw[zJj];split
 .exact h
 .rename_i n;exact qA6.mpr ⟨h,sS,λa O d S=>by rw[qAH.mp S];exact λz=>n$ z▸O⟩
theorem iL{x:List (List Str)}{e:List Str×List (List Str)}:∀(S:List (List Str×List Str)) (A:PL),e∈S.foldl (λA s=>ga A s.2$ x++[s.1]) A->e∈A\/∃s∈S,e=(s.2,x++[s.1])
 |[],A,h=>.inl h
 |s::S,A,h=>by
  rcases iL S _ h with z|⟨q,h1,h2⟩
  .rcases sD z with y|y
   .exact .inr ⟨s,qAO,y⟩
   .exact .inl y
  .exact .inr ⟨q,qAS _ h1,h2⟩
theorem zL2{x:List (List Str)}{k:List Str}:∀(S:List (List Str×List Str)) (A:PL),(k∈A.map (·.1)\/∃s∈S,k=s.2)->k∈(S.foldl (λA s=>ga A s.2$ x++[s.1]) A).map (·.1)
 |[],A,h=>h.elim id λ⟨s,h,_⟩=>nomatch h
 |s::S,A,h=>by
  refine zL2 S _ ?_;rcases h with z|⟨q,h1,h2⟩
  .exact .inl$ oK.mpr$ .inl z
  .rcases qAQ.mp h1 with y|y
   .exact .inl$ oK.mpr$ .inr$ y▸h2
   .exact .inr ⟨q,y,h2⟩
theorem lu{x:List (List Str)}:∀(S:List (List Str×List Str)) (A:PL),(A.map (·.1)).Nodup->((S.foldl (λA s=>ga A s.2$ x++[s.1]) A).map (·.1)).Nodup
 |[],A,h=>h
 |s::S,A,h=>lu S _ (vh h)
theorem mj{e:List Str×List (List Str)}:∀(L A:PL),e∈L.foldl (jb J b) A->e∈A\/∃q∈L,∃s∈zA2 J b q.1,e=(s.2,q.2++[s.1])
 |[],A,h=>.inl h
 |q::L,A,h=>by
  rcases mj L _ h with z|⟨p,h1,h2⟩
  .rcases iL _ _ z with y|y
   .exact .inl y
   .exact .inr ⟨q,qAO,y⟩
  .exact .inr ⟨p,qAS _ h1,h2⟩
theorem px{k:List Str}:∀(L A:PL),(k∈A.map (·.1)\/∃q∈L,∃s∈zA2 J b q.1,k=s.2)->k∈(L.foldl (jb J b) A).map (·.1)
 |[],A,h=>h.elim id λ⟨s,h,_⟩=>nomatch h
 |q::L,A,h=>by
  refine px L _ ?_;rcases h with z|⟨p,h1,h2⟩
  .exact .inl$ zL2 _ _$ .inl z
  .rcases qAQ.mp h1 with y|y
   .exact .inl$ zL2 _ _$ .inr$ y▸h2
   .exact .inr ⟨p,y,h2⟩
theorem pI :∀(L A:PL),(A.map (·.1)).Nodup->((L.foldl (jb J b) A).map (·.1)).Nodup
 |[],A,h=>h
 |q::L,A,h=>pI L _ (lu _ _ h)
theorem oj(J:JR)(b:Int):∀t,((fX J b t).map (·.1)).Nodup
 |0=>by show([[]]:List (List Str)).Nodup;simp
 |t+1=>pI _ _ qAt
theorem zG7 :∀{t:Nat} {e:List Str×List (List Str)},e∈fX J b t->Pth J b e.1 e.2/\e.2.length=t/\∃p,e.1=J.ns.filter p
 |0,e,h=>by rw[qAH.mp h];exact⟨.nil,rF,λ_=>false,sS⟩
 |t+1,e,h=>by
  rcases mj _ _ h with z|⟨q,h1,s,h2,rfl⟩
  .exact nomatch z
  .obtain ⟨h3,h4,_⟩:=zG7 h1;exact⟨.snoc h3 h2,by rw[qAV,h4];rfl,zEp h2⟩
theorem Pth.lay{rs:List (List Str)}(h:Pth J b D rs):D∈(fX J b rs.length).map (·.1):=by
 induction h with
 |nil=>exact qAH.mpr rF
 |@snoc D S r rs _ hs O=>
  rw[qAV];obtain⟨q,h1,rfl⟩:=qAG.mp O;exact px (fX J b rs.length) []$ .inr ⟨q,h1,_,hs,rF⟩
theorem yB{x y:List (List Str)}(S:(A.map (·.1)).Nodup)(h1:(D,x)∈A)(h2:(D,y)∈A):x=y:=by
 induction A with
 |nil=>exact nomatch h1
 |cons q A V=>
  obtain⟨O,W⟩:=qA5.mp S;rcases qAQ.mp h1 with z|z<;>rcases qAQ.mp h2 with w|w
  .rw [<-z]at w;exact(qB2 w).2.symm
  .rw [<-z]at O;exact absurd (qAG.mpr ⟨_,w,rF⟩) O
  .rw [<-w]at O;exact absurd (qAG.mpr ⟨_,z,rF⟩) O
  .exact V W z w
theorem tW{t:Nat}(O:J.ns.length<=7):(fX J b t).length<=128:=by
 have:=zIq (kvs:=(fX J b t).map λe=>(kyS e.1,V.non)) O (by
  rw[qAb];have h:=oj J b t;show((fX J b t).map λe=>kyS e.1).Nodup;rw[show((fX J b t).map λe=>kyS e.1)=((fX J b t).map (·.1)).map kyS by rw[qAb];rfl];exact h.map kyS λx y n z=>n$ zCy z) λW h=>by
  obtain⟨e,S,rfl⟩:=qAG.mp h;obtain⟨_,_,p,ep⟩:=zG7 S;exact⟨p,by rw[<-ep]⟩
 rw[qAB]at this;exact this
def PlE(A:PL)(F H:Hp)(O:List Key×V):Prop:=∃(D:List Str)(a:Addr) (rs:List (Addr×List Str)),O=(kyS D,.ref a)/\H a=some (.lst$ rs.map λq=>V.ref q.1)/\(∀q∈rs,H q.1=some (.lst$ q.2.map V.str)/\Fre F q.1)/\Fre F a/\(D,rs.map (·.2))∈A
theorem PlE.put{F:Hp}{O:List Key×V}(h:PlE A F H O)(k:∀x xs,H x=some (.lst xs)->H' x=some (.lst xs)):PlE A F H' O:=by
 obtain⟨D,a,rs,e,h1,h2,h3⟩:=h;exact⟨D,a,rs,e,k _ _ h1,λq S=>⟨k _ _ (h2 q S).1,(h2 q S).2⟩,h3⟩
structure Lay(A:PL)(F H:Hp)(p:Addr)(kvs:List (List Key×V)):Prop where
 top:H p=some (.dT kvs)
 keys:kvs.map (·.1)=A.map λe=>kyS e.1
 each:∀kv∈kvs,PlE A F H kv
theorem Lay.kp0{F:Hp}{p:Addr}{kvs:List (List Key×V)}(L:Lay A F H p kvs)(k:Kp [] H H'):Lay A F H' p kvs:=⟨k _ _ L.top sS,L.keys,λO h=>(L.each O h).put λx xs e=>k _ _ e sS⟩
theorem Lay.len{F:Hp}{p:Addr}{kvs:List (List Key×V)}(L:Lay A F H p kvs):kvs.length=A.length:=by
 have:=qAf List.length L.keys;rw[qAB,qAB]at this;exact this
theorem jB :kyS D∈(A.map λe=>kyS e.1)↔D∈A.map (·.1):=by
 constructor
 .intro h;obtain⟨e,h1,h2⟩:=qAG.mp h;exact qAG.mpr ⟨e,h1,zCy h2⟩
 .intro h;obtain⟨e,h1,h2⟩:=qAG.mp h;exact qAG.mpr ⟨e,h1,by rw[h2]⟩
theorem se{kvs:List (List Key×V)}(h:kvs.map (·.1)=A.map λe=>kyS e.1)(k:List Str)(v:V)(x:List (List Str)):(eV kvs (kyS k) v).map (·.1)=(ga A k x).map λe=>kyS e.1:=by
 have e:∀B:PL,(B.map λe=>kyS e.1)=(B.map (·.1)).map kyS:=λB=>by rw[qAb];rfl
 rw[iw,h,e$ ga A k x,zJj]
 by_cases c:k∈A.map (·.1)
 .rw [qAD c,qAD$ jB.mpr c,e]
 .rw [qAC c,qAC λz=>c$ jB.mp z,qAI,e];rfl
section
inductive gL(vs:List V)(H:Hp)(Q:VK)(u_3:XK):Prop
 |mk:∀(s p:Addr)(J:JR)(b:Int)(t:Nat)(F:Hp) (ks kvs:List (List Key×V)),vs=[.ref s,.ref p]->StD J b F H s ks->kyS []∈ks.map (·.1)->(∀D,kyS D∈ks.map (·.1)->∀s∈zA2 J b D,kyS s.2∈ks.map (·.1))->Lay (fX J b t) F H p kvs->J.ns.length<=7->t<=20->Kp [] F H->s≠p->(∀(p':Addr) (kvs':List (List Key×V)) (H':Hp),Lay (fX J b$ t+1) F H' p' kvs'->Fre H p'->Kp [] H H'->Q (.ref p') H')->gL vs H Q u_3
abbrev zB6:Stmt:=top 55
theorem zA7:c_ ["steps","plans","later","done","plan","row","now"] ["steps","plans"] (zAe zB6):=fnS
theorem zFt(F:Fun K "plans_one_turn_on" "plans_one_turn_on" zB6 f fd):eC P w K mg base CX0 1 f fd ["steps","plans"] gL:=by
 refine F.ok zA7 (λvs H Q E h=>?_) λaF A as s H vs Q E hr h=>?_
 .obtain ⟨s,p,J,b,t,F,ks,kvs,rfl,_⟩:=h;rfl
 .obtain ⟨sa,p,J,b,t,Fh,ks,kvs,rfl,S,au,cl,L,few,ht,kF,av,k⟩:=h;have hu:=zD3 hr
  refine⟨_,(zAb (psS (i:=2) zA7.nd zLf) (zAb (ph (zA4 qAZ rF (i6$ pv 1) (zEm rF$ zAr (pgN (i:=3) zA7.nd)$ zAr (pgN (i:=4) zA7.nd) zBz)
    (zAd (zA4 qAZ rF (zAl$ zBt hu (pv 0) (pv 3) fun _ _=>rfl) (zEm rF$ zAr (pgN (i:=5) zA7.nd)$ zAr (pgN (i:=6) zA7.nd) zBz)$ zAd$ zCi hu (pv 2) (pv 6) (zAs zFx (pv 4)$ zAw$ zAa (pv 5) zAc) rF))))$ zAd$ zAk$ pv 2)),?_⟩
  refine im ?_;intro _ _ _;have hs:=qAM;have aG:kvs.length<=128:=by rw[L.len];exact tW few
  refine λl hl=>?_;have fl:Fre H l:=hl;have af:l≠p:=λe=>by rw[e]at fl;exact absurd L.top (by rw[show H p=none from fl];exact λz=>nomatch z)
  have k1:Kp [] H (upd H l$ .dT []):=Kp.new Kp.refl fl;have ah:upd H l (.dT []) l=some (.dT []):=ac;generalize upd H l (.dT [])=H1 at k1 ah;have aw:=k1 _ _ L.top sS;refine⟨p,kvs,aw,λo=>?_⟩;have kf:Kp [p] H1 (upd H1 p$ .frz o$ .dT kvs):=Kp.put Kp.refl sS;have ax:Kp [p] H (upd H1 p$ .frz o$ .dT kvs):=(k1.weak sS).trans kf;have O:∀{H2:Hp},Kp [p] H H2->∀x u,H x=some u->u≠.dT kvs->H2 x=some u:=λk x u e n=>k x u e$ nm1$ zAu e L.top n
  refine⟨_,rF,p,o,kvs,rF,ac,zKp (λi σ H2=>∃(W:List (List Key×V)) (o3 o4 o5 o6:Option V),σ=[some (.ref sa),some (.ref p),some (.ref l),o3,o4,o5,o6]/\Kp [p] H H2/\H2 p=some (.frz o$ .dT kvs)/\Lay (((fX J b t).take i).foldl (jb J b) []) Fh H2 l W/\W.length<=128*i) ⟨[],none,none,none,none,rF,ax,ac,⟨(a_ af).trans ah,rF,(λ_ h=>nomatch h)⟩,qAF _⟩ (λi σ H2 _ ⟨_,_,_,_,_,_,_,h,_⟩=>h) ?_ ?_⟩
  .rintro i kk v σ H2 tt bb hv ⟨W,o3,o4,o5,o6,rfl,k2,aa,L2,ad⟩ ay az;obtain⟨D,a,rs,aA,ha,ai,fa,aj⟩:=L.each _$ qAN hv;obtain⟨rfl,rfl⟩:=qB2 aA;obtain⟨aB,rl,_⟩:=zG7 aj;have rl:rs.length=t:=by rw[<-rl,qAB]
   have ei:(fX J b t)[i]?=some (D,rs.map (·.2)):=by
    have h1:(kvs.map (·.1))[i]?=some (kyS D):=by rw[qAU,hv];rfl
    rw[L.keys,qAU]at h1;obtain⟨⟨D1,x1⟩,e1,e2⟩:=qAw.mp h1;have e2:=zCy e2;have e2:D1=D:=e2;subst e2;rw[e1,yB (oj J b t) (qAN e1) aj]
   have kt:Kp [] H2 (upd H2 tt$ .tup [.ref bb,.ref a]):=Kp.new Kp.refl ay;refine⟨_,_,rF,.inl$ .inl ac,rF,_,_,rF,_,_,rF,rF,?_⟩;have k3:Kp [p] H (upd H2 tt$ .tup [.ref bb,.ref a]):=k2.trans$ kt.weak sS;have ak:=kt _ _ aa sS;have al:=kt _ _ az sS;have L3:=L2.kp0 kt;generalize upd H2 tt (.tup [.ref bb,.ref a])=H3 at k3 ak al L3;have hi:i<kvs.length:=(qAa.mp hv).1;obtain⟨v,g1,g2⟩:=zGi$ aB.key au cl;obtain⟨D',sl,es,am,S1,S2,S3,S4⟩:=S.each _ g2;obtain⟨e1,rfl⟩:=qB2 am;have e1:=zCy e1;subst e1;have aC:=k3 _ _ S.top$ nm1 av;have g3:=eO.t (k:=kyS D) aC al;rw[g1]at g3
   have aH:es.length<=128:=by
    have:es.length=(zA2 J b D).length:=by rw[<-S2,qAB]
    rw[this];exact zFb few
   refine⟨_,rF,_,rF,_,_,rF,g3,_,rF,⟨_,SqL.of$ O k3 _ _ S1.top λz=>nomatch z⟩,zA0 (xs:=es.map λe=>V.ref e.t) (λq σ H4=>∃(W:List (List Key×V)) (o5 o6:Option V),σ=[some (.ref sa),some (.ref p),some (.ref l),some (.ref bb),some (.ref a),o5,o6]/\Kp [p] H H4/\H4 p=some (.frz o$ .dT kvs)/\Lay (((zA2 J b D).take q).foldl (λA s=>ga A s.2$ rs.map (·.2)++[s.1])$ ((fX J b t).take i).foldl (jb J b) []) Fh H4 l W/\W.length<=128*i+q) ⟨W,o5,o6,rF,k3,ak,L3,ad⟩ (λq σ H4 _ ⟨_,_,_,_,k4,_⟩=>SqL.of$ O k4 _ _ S1.top λz=>nomatch z) ?_ ?_⟩
   .rintro q v σ H4 hv ⟨W,o5,o6,rfl,k4,ab,L4,ae⟩;obtain⟨e,ee,rfl⟩:=sI hv;have me:=qAN ee;have hq:q<es.length:=(qAa.mp ee).1;have eS:(zA2 J b D)[q]?=some (e.r,e.d):=by rw[<-S2,qAU,ee];rfl
    refine⟨_,_,rF,.inl (.inl$ O k4 _ _ (S1.tup e me) λz=>nomatch z),rF,_,_,rF,_,_,rF,rF,?_⟩;refine⟨_,rF,_,rF,(by walk_at"ln"),λz hz=>?_⟩;have kz:Kp [] H4 (upd H4 z$ .lst [.ref e.ra]):=Kp.new Kp.refl hz;have an:upd H4 z (.lst [.ref e.ra]) z=some (.lst [.ref e.ra]):=ac;generalize upd H4 z (.lst [.ref e.ra])=H5 at kz an;have k5:Kp [p] H H5:=k4.trans$ kz.weak sS;refine⟨_,_,_,_,rF,rF,O k5 _ _ ha (λz=>nomatch z),an,by rw[qAB];show _+1<=_;lia,λr ao=>?_⟩;have kr:Kp [] H5 (upd H5 r$ .lst$ rs.map (λq=>V.ref q.1)++[.ref e.ra]):=Kp.new Kp.refl ao;have ap:upd H5 r (.lst$ rs.map (λq=>V.ref q.1)++[.ref e.ra]) r=some (.lst$ rs.map (λq=>V.ref q.1)++[.ref e.ra]):=ac;generalize upd H5 r (.lst$ rs.map (λq=>V.ref q.1)++[.ref e.ra])=H6 at kr ap;have ag:=kz.trans kr;have k6:Kp [p] H H6:=k4.trans$ ag.weak sS;have L6:=L4.kp0 ag;have aq:=L6.top;have aD:=ag _ _ ab sS;refine⟨_,rF,_,rF,_,_,rF,fR.t (k:=kyS e.d) aq (by rw[zEh];exact O k6 _ _ (S1.now e me) λz=>nomatch z) lL,?_⟩;rw[zAh eS,qA8];show∃W:List (List Key×V),_;have k7:Kp [p] H (upd H6 l$ .dT$ eV W (kyS e.d)$ .ref r):=Kp.new k6 fl;have kl:∀x xs,H6 x=some (.lst xs)->upd H6 l (.dT$ eV W (kyS e.d)$ .ref r) x=some (.lst xs):=λx xs h=>by rw[a_$ zAu h aq λz=>nomatch z];exact h
    refine⟨eV W (kyS e.d)$ .ref r,_,_,rF,k7,(a_ af.symm).trans aD,⟨ac,se L4.keys _ _ _,λkv h=>?_⟩,qAR (zCp _ _ _) lL⟩
    .rcases sk h with z|⟨z,nz⟩
     .rw [z];refine⟨e.d,r,rs++[(e.ra,e.r)],rF,?_,λq hq=>?_,?_,?_⟩
      .rw [qAI];exact kl _ _ ap
      .rcases qAK.mp hq with y|y
       .exact ⟨kl _ _ (O k6 _ _ (ai q y).1 λz=>nomatch z),(ai q y).2⟩
       .rw [qAH.mp y];exact⟨kl _ _ (O k6 _ _ (S1.row e me) λz=>nomatch z),S1.fr e me⟩
      .have ar:Fre H4 r:=kz.fre ao sS;exact kF.fre (k4.fre ar$ nm1 (b_ ar ab).symm) sS
      .rw [qAI];exact sx _ _ _
     .obtain ⟨D1,a1,aE,e1,h1,h2,h3,h4⟩:=(L6.each kv z).put kl;exact⟨D1,a1,aE,e1,h1,h2,h3,ug h4 λy=>nz$ by rw[e1];show kyS D1=_;rw[show D1=e.d from y]⟩
   .rintro σ H4 ⟨W,o5,o6,rfl,k4,ab,L4,ae⟩;rw[qAB]at L4 ae;refine⟨W,_,_,_,_,rF,k4,ab,?_,lL⟩;rw[zAh ei,qA8];have:(zA2 J b D).take es.length=zA2 J b D:=qBC (by rw[<-S2,qAB];exact qAF _);rw[this]at L4;exact L4
  .rintro σ H2 ⟨W,o3,o4,o5,o6,rfl,k2,aa,L2,ad⟩;rw[L.len,qAY]at L2;refine⟨aa,?_⟩;refine⟨_,rF,k l W _ ⟨(a_ af).trans L2.top,L2.keys,λkv h=>(L2.each kv h).put λx xs e=>by rw[a_$ zAu e aa λz=>nomatch z];exact e⟩ fl λb o h _=>?_⟩
   by_cases e:b=p
   .rw [e]at h ⊢;rw[ac,<-L.top,h]
   .rw [a_ e];exact k2 b o h$ nm1 e
end
theorem si{c:TT}{tb:TS}{D:fW}{σ:St}(V:Nat->St->Hp->Prop)(m:Nat)(h0:V m σ H)
  (hs:∀m σ H,V m σ H->c σ H λb H1=>if b=true then tb {D with nx:=λO H'=>∃S,S<m/\V S O H',ct:=λO H'=>∃S,S<m/\V S O H',bk:=D.nx} σ H1 else D.nx σ H1)
  (mono:∀σ H Q W,(∀b H1,Q b H1->W b H1)->c σ H Q->c σ H W):gF c tb D σ H:=by
 refine⟨V,⟨m,h0⟩,λm σ H p=>mono σ H _ _ (λb H1 q=>?_)$ hs m σ H p⟩
 cases b with
 |true=>exact⟨_,λO H' h=>h,q⟩
 |false=>exact q
theorem qf{r:Str->Nat}(V:∀n∈J.ns,∀x∈J.S n,r x<r n):∀(k:Nat)(n:Str),r n<=k->n∈J.ns->n∉D->∃f,f∈zHt J D:=by
 intro k
 induction k with
 |zero=>
  intro n h1 h2 h3;refine⟨n,qAc.mpr ⟨h2,?_⟩⟩;rw[qAJ h3,qBH];refine qBB.mpr λm O=>?_;obtain⟨m1,S⟩:=qAc.mp O;have:=V n h2 m$ qAn S;lia
 |succ k W=>
  intro n h1 h2 h3
  by_cases c:e_ J D n=true
  .refine ⟨n,qAc.mpr ⟨h2,?_⟩⟩;rw[qAJ h3,qBH];exact c
  .have:∃m∈J.ns.filter (λm=>decide$ m∈J.S n),¬(decide$ m∈D)=true:=by
    refine qBI λz=>c$ qBB.mpr λm O=>?_;exact qBI λy=>z ⟨m,O,y⟩
   obtain⟨m,O,h4⟩:=this;obtain⟨m1,S⟩:=qAc.mp O;have:=V n h2 m$ qAn S;exact W m lL m1$ of_decide_eq_false$ Bool.eq_false_iff.mpr h4
theorem zHm(b:Int):∀(ns:List Str) (rs:List (List Str)),∀r∈rs,r∈ns.foldl (λrs n=>rs++(rs.filter λr=>decide$ (r.length:Int)<b).map λr=>r++[n]) rs
 |[],rs,r,h=>h
 |n::ns,rs,r,h=>zHm b ns _ r (qAj _ h)
theorem iI(O:1<=b){f:Str}:∀(ns:List Str) (rs:List (List Str)),[]∈rs->f∈ns->[f]∈ns.foldl (λrs n=>rs++(rs.filter λr=>decide$ (r.length:Int)<b).map λr=>r++[n]) rs
 |[],rs,_,h=>nomatch h
 |n::ns,rs,h0,h=>by
  rcases qAQ.mp h with e|e
  .refine zHm b ns _ [f]$ qAr _$ qAG.mpr ⟨[],qAc.mpr ⟨h0,qAJ ?_⟩,by rw[e];rfl⟩;show((0:Nat):Int)<b;lia
  .exact iI O ns _ (qAj _ h0) e
theorem uI{r:Str->Nat}(hb:1<=b)(nd:J.ns.Nodup)(rk:∀n∈J.ns,∀x∈J.S n,r x<r n):∀m:Nat,∃D rs,Pth J b D rs/\rs.length=m/\(∃p,D=J.ns.filter p)/\(m<=D.length\/∀n∈J.ns,n∈D):=by
 intro m
 induction m with
 |zero=>exact⟨[],[],.nil,rF,⟨λ_=>false,sS⟩,.inl$ qAF _⟩
 |succ m ih=>
  obtain⟨D,rs,S,V,⟨p,rfl⟩,h⟩:=ih
  by_cases c:∀n∈J.ns,n∈J.ns.filter p
  .have hs:([],fH J.ns (J.ns.filter p) [])∈zA2 J b (J.ns.filter p):=qAG.mpr ⟨[],zHm b _ _ []$ qAH.mpr rF,rF⟩;exact⟨_,_,.snoc S hs,by rw[qAV,V];rfl,zEp hs,.inr λn O=>qAc.mpr ⟨O,by rw[qAJ$ c n O];rfl⟩⟩
  .have:∃n,n∈J.ns/\n∉J.ns.filter p:=qBI λz=>c λn O=>qBI λy=>z ⟨n,O,y⟩;obtain⟨n,n1,n2⟩:=this;obtain⟨f,W⟩:=qf rk (r n) n (qAF _) n1 n2;obtain⟨f1,f2⟩:=qAc.mp W;have f3:f∉J.ns.filter p:=qAn (qCS.mp f2).1;have hs:([f],fH J.ns (J.ns.filter p) [f])∈zA2 J b (J.ns.filter p):=qAG.mpr ⟨[f],iI hb _ _ (qAH.mpr rF) W,rF⟩;refine⟨_,_,.snoc S hs,by rw[qAV,V];rfl,zEp hs,.inl ?_⟩;have hm:m<=(J.ns.filter p).length:=h.resolve_right c;have h1:(f::J.ns.filter p).Nodup:=qA5.mpr ⟨f3,nd.sublist qDU⟩
   have:=zB4 (B:=fH J.ns (J.ns.filter p) [f]) h1 λx hx=>by
    rcases qAQ.mp hx with e|e
    .rw [e];exact qAc.mpr ⟨f1,sS⟩
    .exact qAc.mpr ⟨(qAc.mp e).1,by rw[qAJ e];rfl⟩
   rw[qAd]at this;lia
theorem zLg{r:Str->Nat}(S:1<=b)(V:J.ns.Nodup)(W:∀n∈J.ns,∀x∈J.S n,r x<r n):∃rs,Pth J b J.ns rs/\rs.length=J.ns.length:=by
 obtain⟨D,rs,O,hl,⟨p,rfl⟩,h⟩:=uI S V W J.ns.length
 have:J.ns.filter p=J.ns:=by
  rcases h with z|z
  .exact List.filter_eq_self.mpr$ List.length_filter_eq_length_iff.mp$ Nat.le_antisymm (qAq _ _) z
  .exact List.filter_eq_self.mpr λa ha=>(qAc.mp$ z a ha).2
 rw[this]at O;exact⟨rs,O,hl⟩
section
inductive gP(C:Addr)(vs:List V)(H:Hp)(Q:VK)(u_3:XK):Prop
 |mk:∀(j:Addr)(b:Int)(J:JR)(r:Str->Nat),vs=[.ref j,.int b]->eI C H j J->(∀n∈J.ns,∀x∈J.S n,r x<r n)->1<=b->J.ns.length<=7->(∀(a:Addr) (rs:List (Addr×List Str)) (H':Hp),Rws H H' a rs->Fre H a->(J.ns,rs.map (·.2))∈fX J b rs.length->(∀rs',Pth J b J.ns rs'->rs.length<=rs'.length)->Kp [] H H'->Q (.ref a) H')->gP C vs H Q u_3
abbrev zK8:Stmt:=top 54
theorem zGo:c_ ["jobs","benches","steps","plans"] ["jobs","benches"] (zAe zK8):=fnS
theorem qT(F:Fun K "fewest" "fewest" zK8 f fd)(T:Txt K mg)(U:JC K mg C)(ab:Mth P w K mg base C "names" 1 ["self"] (fO C))(S:Cal P w K mg base "check_benches" 2 ["benches"] gb)(W:Cal P w K mg base "check_few" 2 ["jobs"] (oS C))
  (aa:Cal P w K mg base "all_steps" 6 ["jobs","benches"] (oH C)) (O:Cal P w K mg base "plans_one_turn_on" 1 ["steps","plans"] gL):eC P w K mg base CX0 7 f fd ["jobs","benches"] (gP C):=by
 refine F.ok zGo (λvs H Q E h=>?_) λaN A aB s H vs Q E hr h=>?_
 .obtain ⟨j,b,J,r,rfl,_⟩:=h;rfl
 .obtain ⟨j,b,J,r,rfl,A0,rk,hb,few,k⟩:=h;have hu:=zD3 hr;have ag:=hr.mono (j:=1) dD;have an:=hr.mono (j:=2) dD
  refine⟨_,(zAb (zBb$ zAf S an rF$ zAa (pv 1) zAc) (zAb (zBb$ zAf W an rF$ zAa (pv 0) zAc)
   (zAb (psS (i:=2) zGo.nd$ zAf aa hr rF$ zAa (pv 0)$ zAa (pv 1) zAc)
   (@zAb _ _ _ _ _ (@psS _ 3 _ _ _ _ _ zGo.nd (@lF _ _ _ _ _ _ hu (zCl zAc) (zAw zAc)) (by rfl) (by walk_at"lc") (by rfl) (.inl rF))
   (zAb (zGu qAZ (zE0$ zE1 hu (zAz zC3 rR T.z_tuple zHf$ zAa (zDa ab U.cl ag$ pv 0) zAc)$ pv 3)$ zAd$ psS (i:=3) zGo.nd$ zAf O ag rF$ zAa (pv 2)$ zAa (pv 3) zAc)$ zAd$ zAk$ zBt hu (pv 3) (zAz zC3 rR T.z_tuple zHf$ zAa (zDa ab U.cl ag$ pv 0) zAc) λ_ _=>rfl))))),?_⟩
  refine yS ?_;intro _ _ _ _ _ _;have hs:=qAM;refine⟨_,rF,b,rF,hb,?_⟩;refine⟨_,rF,j,J,rF,A0,few,λH1 k1=>?_⟩;refine⟨_,rF,_,rF,j,b,J,rF,A0.kp0 k1,few,λd ks H2 S2 aC cl k2=>?_⟩;have ao:=k1.trans k2
  have S2:StD J b H H2 d ks:=⟨S2.top,λkv h=>by
   obtain⟨D,l,es,e1,e2,e3,e4,e5⟩:=S2.each kv h;exact⟨D,l,es,e1,⟨e2.top,e2.tup,e2.row,e2.now,λe he=>k1.fre (e2.fr e he) sS⟩,e3,k1.fre e4 sS,e5⟩,S2.nd⟩
  refine λp hp=>?_;have kp:Kp [] H2 (upd H2 p$ .dT []):=Kp.new Kp.refl hp;have ap:upd H2 p (.dT []) p=some (.dT []):=ac;have ah:d≠p:=zAp S2.top hp;generalize upd H2 p (.dT [])=H3 at kp ap;refine⟨(by walk_at"ln"),λt0 aD=>?_⟩;have kt:Kp [] H3 (upd H3 t0$ .tup []):=Kp.new Kp.refl aD;have aq:upd H3 t0 (.tup []) t0=some (.tup []):=ac;generalize upd H3 t0 (.tup [])=H4 at kt aq;refine⟨(by walk_at"ln"),λl0 ar=>?_⟩;have kl:Kp [] H4 (upd H4 l0$ .lst []):=Kp.new Kp.refl ar;have ai:upd H4 l0 (.lst []) l0=some (.lst []):=ac;have as:=kl _ _ aq sS;have au:=(kp.trans kt).trans kl;have aj:=(kt.trans kl) _ _ ap sS;have aE:Fre H l0:=((ao.trans kp).trans kt).fre ar sS;generalize upd H4 l0 (.lst [])=H5 at kl ai as au aj;refine⟨[],t0,.ref l0,rF,aj,as,?_⟩;have aF:l0≠p:=zAu ai aj (λz=>nomatch z);have av:Kp [] H2 (upd H5 p$ .dT [([],.ref l0)]):=Kp.new au hp
  have L6:Lay (fX J b 0) H (upd H5 p$ .dT [([],.ref l0)]) p [(kyS [],.ref l0)]:=⟨ac,rF,λkv h=>by
   rw[qAH.mp h];exact⟨[],l0,[],rF,(a_ aF).trans ai,(λq h=>nomatch h),aE,qAH.mpr rF⟩⟩
  generalize upd H5 p (.dT [([],.ref l0)])=H6 at av L6;obtain⟨aG,pA,lA⟩:=zLg hb A0.nd rk;refine si (λm σ H7=>∃(t:Nat)(p:Addr) (kvs:List (List Key×V)),σ=[some (.ref j),some (.int b),some (.ref d),some (.ref p)]/\Kp [] H2 H7/\Lay (fX J b t) H H7 p kvs/\d≠p/\(∀ad,Pth J b J.ns ad->t<=ad.length)/\m=20-t) 20 ⟨0,p,_,rF,av,L6,ah,λ_ _=>qAm _,rF⟩ ?_ λσ H Q Q' hq hc=>?_
  .rintro m σ H7 ⟨t,p,kvs,rfl,k7,L7,ah,lst,rfl⟩;have ak:=ao.trans k7;have A7:=A0.kp0 ak;have tn:t<=7:=by have:=lst aG pA;lia
   refine⟨_,rF,j,J.dx,_,rF,A7.ob,zL0 _ _ _ kK kK kK,j,J,rF,A7,λnl H8 fn h8 k8=>?_⟩;refine⟨nl,_,rF,.inl ⟨SqL.of h8,λtp al=>?_⟩⟩;have k9:Kp [] H8 (upd H8 tp$ .tup$ J.ns.map V.str):=Kp.new Kp.refl al;have h9:upd H8 tp (.tup$ J.ns.map V.str) tp=some (.tup$ J.ns.map V.str):=ac;generalize upd H8 tp (.tup$ J.ns.map V.str)=H9 at k9 h9;have ae:=k8.trans k9;have L9:=L7.kp0 ae;refine⟨_,rF,_,_,rF,eO.t (k:=kyS J.ns) L9.top (by rw[zEh];exact h9),_,rF,?_⟩;rw[rq];refine eU (λc=>?_) λc=>?_
   .have c:kyS J.ns∉kvs.map (·.1):=by simpa using c
    refine⟨_,rF,_,rF,d,p,J,b,t,H,ks,kvs,rF,(S2.kp0 k7).kp0 ae,aC,cl,L9,few,lL,ak.trans ae,ah,λp' aw H' L' aH k'=>?_⟩;refine⟨20-(t+1),lL,t+1,p',aw,rF,(k7.trans ae).trans k',L',zAp ((k7.trans ae) _ _ S2.top sS) aH,λad h'=>?_,rF⟩;have h1:=lst ad h';have h2:ad.length≠t:=λe=>c (by rw[L7.keys,<-e];exact jB.mpr h'.lay);lia
   .have c:kyS J.ns∈kvs.map (·.1):=by simpa using c
    have A9:=A7.kp0 ae;refine⟨_,rF,_,rF,j,J.dx,_,rF,A9.ob,zL0 _ _ _ kK kK kK,j,J,rF,A9,λnl af fn h10 ax=>?_⟩;refine⟨nl,_,rF,.inl ⟨SqL.of h10,λtp al=>?_⟩⟩;have am:Kp [] af (upd af tp$ .tup$ J.ns.map V.str):=Kp.new Kp.refl al;have h11:upd af tp (.tup$ J.ns.map V.str) tp=some (.tup$ J.ns.map V.str):=ac;generalize upd af tp (.tup$ J.ns.map V.str)=aI at am h11;have ay:=(L9.kp0 ax).kp0 am;obtain⟨v,g1,g2⟩:=zGi c;obtain⟨D,a,rs,aJ,ha,az,fa,aA⟩:=ay.each _ g2;obtain⟨e1,rfl⟩:=qB2 aJ;have e1:=zCy e1;subst e1;have rl:rs.length=t:=by rw[<-(zG7 aA).2.1,qAB]
    have g3:=eO.t (k:=kyS J.ns) ay.top (by rw[zEh];exact h11);rw[g1]at g3;refine⟨_,_,rF,g3,?_⟩;exact k a rs aI ⟨ha,λq hq=>(az q hq).1,λq hq=>(az q hq).2⟩ fa (by rw[rl];exact aA) (λad h'=>by rw[rl];exact lst ad h')$ (ak.trans ae).trans$ ax.trans am
  .obtain ⟨x,ex,j',aK,fs',e1,aL,aM,j2,J2,e2,A2,h⟩:=hc;refine⟨x,ex,j',aK,fs',e1,aL,aM,j2,J2,e2,A2,λl H1 fl hl k1=>?_⟩;obtain⟨p,ys,e3,h3⟩:=h l H1 fl hl k1;refine⟨p,ys,e3,?_⟩;rcases h3 with⟨h4,h5⟩|⟨h4,h5⟩
   .refine .inl ⟨h4,λl hl=>?_⟩;obtain⟨x1,z1,x2,x3,z2,z3,x4,z4,q⟩:=h5 l hl;exact⟨x1,z1,x2,x3,z2,z3,x4,z4,hq _ _ q⟩
   .obtain ⟨x1,z1,x2,x3,z2,z3,x4,z4,q⟩:=h5;exact .inr ⟨h4,x1,z1,x2,x3,z2,z3,x4,z4,hq _ _ q⟩
end
structure pM(H:Hp)(l:Addr)(as:List Addr)(rs:List (List Str)):Prop where
 top:H l=some (.lst$ as.map V.ref)
 len:as.length=rs.length
 row:∀(i:Nat)(a:Addr)(r:List Str),as[i]?=some a->rs[i]?=some r->H a=some (.lst$ r.map V.str)
theorem pM.at{l:Addr}{S:List Addr}{rs:List (List Str)}(R:pM H l S rs){i:Nat}(h:i<rs.length):∃a r,S[i]?=some a/\rs[i]?=some r/\(S.map V.ref)[i]?=some (.ref a)/\H a=some (.lst$ r.map V.str):=by
 have hi:i<S.length:=by rw[R.len];exact h
 have O:S[i]?=some S[i]:=by simp[hi]
 have W:rs[i]?=some rs[i]:=by simp[h]
 exact⟨S[i],rs[i],O,W,by rw[qAU,O];rfl,R.row i _ _ O W⟩
structure fz(J:JR)(b:Int)(A r:List Str):Prop where
 ns:∀n∈r,n∈J.ns
 nd:r.Nodup
 nw:∀n∈r,n∉A
 rd:∀n∈r,e_ J A n=true
 fit:(r.length:Int)<=b
theorem zHu:∀(rs:List (List Str)) (A:List Str),A.Nodup->(rs.foldl (λA r=>r.foldl eY A) A).Nodup
 |[],_,h=>h
 |q::rs,A,h=>zHu rs _ (zEg _ _ h)
theorem zL6{J:JR}:∀(rs:List (List Str)) (A:List Str),(∀n∈A,n∈J.ns)->(∀r∈rs,∀n∈r,n∈J.ns)->∀n∈rs.foldl (λA r=>r.foldl eY A) A,n∈J.ns
 |[],_,h,_=>h
 |q::rs,A,h,O=>zL6 rs _ (λn S=>by
   rcases(zB0 _ _).mp S with z|z
   .exact h n z
   .exact O q qAO n z) λr h'=>O r$ qAS _ h'
theorem iH :∀(ns:List Str) (rs:List (List Str)),(∀r∈rs,(r.length:Int)<=b)->∀r∈ns.foldl (λrs n=>rs++(rs.filter λr=>decide$ (r.length:Int)<b).map λr=>r++[n]) rs,(r.length:Int)<=b/\∃S∈rs,∃s:List Str,s.Sublist ns/\r=S++s
 |[],rs,h,r,O=>⟨h r O,r,O,[],List.Sublist.refl _,sS⟩
 |n::ns,rs,h,r,O=>by
  obtain⟨h1,S,h2,s,h3,h4⟩:=iH ns _ (λq hq=>by
   rcases qAK.mp hq with z|z
   .exact h q z
   .obtain ⟨W,V,rfl⟩:=qAG.mp z;have:=qAn (qAc.mp V).2;rw[qAV,qAp];lia) r O
  refine⟨h1,?_⟩;rcases qAK.mp h2 with z|z
  .exact ⟨S,z,s,h3.cons n,h4⟩
  .obtain ⟨W,V,rfl⟩:=qAG.mp z;exact⟨W,(qAc.mp V).1,n::s,h3.cons_cons n,by rw[h4,qA0];rfl⟩
theorem zI7{A B:List Str}(h:∀n,n∈A↔n∈B)(n:Str):e_ J A n=e_ J B n:=by
 unfold e_;congr 1;funext m;exact decide_eq_decide.mpr$ h m
abbrev AF(rs:List (List Str))(A:List Str):List Str:=rs.foldl (λA r=>r.foldl eY A) A
structure fJ(J:JR)(b:Int)(rs:List (List Str)):Prop where
 atq:∀(i:Nat)(r:List Str),rs[i]?=some r->fz J b (AF (rs.take i) []) r
 all:∀n∈J.ns,n∈AF rs []
theorem vS{A V:List Str}(nd:J.ns.Nodup)(hb:1<=b)(W:∀n,n∈D↔n∈A)(h:(r,V)∈zA2 J b D):fz J b A r/\V=fH J.ns D r:=by
 obtain⟨S,h1,h2⟩:=qAG.mp h;obtain⟨e1,e2⟩:=qB2 h2;subst e1;obtain⟨h3,r0,h4,s,h5,h6⟩:=iH (zHt J D) [[]] (λr hr=>by rw[qAH.mp hr];show((0:Nat):Int)<=b;lia) S h1;rw[qAH.mp h4]at h6;have h6:S=s:=h6;subst h6
 have fr:∀n∈S,n∈J.ns/\n∉D/\e_ J D n=true:=λn O=>by
  obtain⟨y1,y2⟩:=qAc.mp$ h5.subset O;obtain⟨y3,y4⟩:=qCS.mp y2;exact⟨y1,qAn y3,y4⟩
 exact⟨⟨λn O=>(fr n O).1,(nd.sublist qDU).sublist h5,λn O z=>(fr n O).2.1$ (W n).mpr z,λn O=>by rw[<-zI7 W];exact(fr n O).2.2,h3⟩,e2.symm⟩
theorem Pth.right{rs:List (List Str)}(V:J.ns.Nodup)(W:1<=b)(h:Pth J b D rs):(∀n,n∈D↔n∈AF rs [])/\(∀n∈D,n∈J.ns)/\∀(i:Nat)(r:List Str),rs[i]?=some r->fz J b (AF (rs.take i) []) r:=by
 induction h with
 |nil=>exact⟨λn=>Iff.rfl,(λn h=>nomatch h),λi r h=>by simp at h⟩
 |@snoc D D' r rs _ hs ih=>
  obtain⟨h1,h2,h3⟩:=ih;obtain⟨ok,e⟩:=vS V W h1 hs;refine⟨λn=>?_,λn S=>?_,λi q O=>?_⟩
  .unfold AF;rw[qA8];show n∈D'↔n∈r.foldl eY (AF rs []);rw[zB0,<-h1,e];unfold fH;rw[qAc,Bool.or_eq_true_iff,qA1,qA1];exact⟨λz=>z.2,λz=>⟨z.elim (h2 n)$ ok.ns n,z⟩⟩
  .rw [e]at S;exact(qAc.mp S).1
  .by_cases c:i<rs.length
   .rw [qBf c]at O;rw[List.take_append_of_le_length$ qB8 c];exact h3 i q O
   .have hi:=(qAa.mp O).1;rw[qAV,qAp]at hi;have:i=rs.length:=lL
    subst this;rw[qCB$ qAF _,Nat.sub_self]at O;have:r=q:=by simpa using O
    subst this;rw[qDb]
    .exact ok
    .rfl
theorem Pth.ok{rs:List (List Str)}(O:J.ns.Nodup)(S:1<=b)(h:Pth J b J.ns rs):fJ J b rs:=⟨(h.right O S).2.2,λn V=>((h.right O S).1 n).mp V⟩
theorem uK{H2:Hp}{d:Addr}{kvs:List (Key×V)}(O:H d=some (.dK kvs))(k:Kp [d] H H2):Kp [] H (upd H2 d$ .dK kvs):=λc o h n=>by
 by_cases e:c=d
 .subst e;rw[O]at h;cases h;exact ac
 .rw [a_ e];exact k c o h$ nm1 e
def zn(t:TS):TS:=λD σ H=>∃a kvs,H a=some (.dK kvs)/\∀o,t (v5 D a o kvs) σ (upd H a$ .frz o$ .dK kvs)
theorem oN{X:Cx}{st:Stmt}{t:TS}(h:PS X st t):PS X st (zn t):=xI h
theorem xQ{B:List Str}{m:Nat}{kk:Key}{v:V}(h:(dT1 B λ_=>V.bl true)[m]?=some (kk,v)):∃y,B[m]?=some y/\kk=Sum.inr y:=by
 unfold dT1 at h;rw[qAU]at h;obtain⟨y,e,r⟩:=qAw.mp h
 cases r
 exact⟨y,e,rF⟩
theorem ib :∀(rs:List (List Str)) (A:List Str),n∈AF rs A↔n∈A\/∃r∈rs,n∈r
 |[],A=>sS
 |q::rs,A=>by
  show n∈AF rs (q.foldl eY A)↔_;rw[ib rs,zB0];constructor
  .rintro ((h|h)|⟨r,O,h⟩)
   .exact .inl h
   .exact .inr ⟨q,qAO,h⟩
   .exact .inr ⟨r,qAS _ O,h⟩
  .rintro (h|⟨r,O,h⟩)
   .exact .inl$ .inl h
   .rcases qAQ.mp O with z|z
    .subst z;exact .inl$ .inr h
    .exact .inr ⟨r,z,h⟩
def tI:List (List Str)->Str->Nat
 |[],_=>0
 |r::rs,n=>if n∈r then 0 else tI rs n+1
theorem wd :∀{rs:List (List Str)} {i:Nat} {r:List Str},rs[i]?=some r->n∈r->(∀q∈rs.take i,n∉q)->tI rs n=i
 |[],i,r,h,_,_=>by simp at h
 |q::rs,0,r,h,O,_=>by
  have e:q=r:=by simpa using h
  subst e;exact qAD O
 |q::rs,i+1,r,h,O,S=>by
  have:n∉q:=S q (by rw[qB3];exact qAO);show(if n∈q then 0 else tI rs n+1)=i+1;rw[qAC this,wd (by simpa using h) O λp V=>S p$ by rw[qB3];exact qAS _ V]
theorem wA :∀{rs:List (List Str)} {i:Nat} {q:List Str},q∈rs.take i->n∈q->tI rs n<i
 |[],i,q,h,_=>by simp at h
 |p::rs,0,q,h,_=>by simp at h
 |p::rs,i+1,q,h,O=>by
  show(if n∈p then 0 else tI rs n+1)<i+1;rw[qB3]at h
  by_cases c:n∈p
  .rw [qAD c];lia
  .rw [qAC c];rcases qAQ.mp h with z|z
   .subst z;exact absurd O c
   .have:=wA z O;lia
theorem wo :∀{rs:List (List Str)},(∃r∈rs,n∈r)->∃r,rs[tI rs n]?=some r/\n∈r
 |[],⟨r,h,_⟩=>nomatch h
 |p::rs,⟨r,h,O⟩=>by
  by_cases c:n∈p
  .have e:tI (p::rs) n=0:=qAD c;rw[e];exact⟨p,rF,c⟩
  .have e:tI (p::rs) n=tI rs n+1:=qAC c;rw[e];rcases qAQ.mp h with z|z
   .subst z;exact absurd O c
   .obtain ⟨S,h1,h2⟩:=wo ⟨r,z,O⟩;exact⟨S,by simpa using h1,h2⟩
theorem sV{rs:List (List Str)}(R:fJ J b rs){y:Str}(S:n∈J.ns)(V:y∈J.ns)(h:n∈J.S y):tI rs n<tI rs y:=by
 have h1:=(ib rs []).mp$ R.all y V;obtain⟨r,e,W⟩:=wo$ h1.resolve_left sS;have ok:=R.atq _ r e;have rd:=ok.rd y W;unfold e_ at rd;have:=qAn$ qBB.mp rd n$ qAc.mpr ⟨S,qAJ h⟩;obtain⟨q,hq,O⟩:=((ib _ []).mp this).resolve_left sS;exact wA hq O
theorem um{A:List Str}(h:n∉A):eY A n=A++[n]:=by unfold eY;rw[qAC h]
section
inductive gv(vs:List V)(H:Hp)(Q:VK)(u_3:XK):Prop
 |mk:∀(l d m:Addr)(b:Int)(J:JR)(as:List Addr) (rs:List (List Str)) (la:Str->Addr) (L:Str->List Str),vs=[.ref l,.ref d,.int b,.ref m]->Txs H l J.ns->DR H d J.ns la L->(∀n∈J.ns,la n≠d)->J.ns.Nodup->J.ns.length<=20->(∀n∈J.ns,∀y∈L n,y∈J.ns/\n∈J.S y)->pM H m as rs->rs.length<=1000->fJ J b rs->(∀H',Kp [] H H'->Q (.bl true) H')->gv vs H Q u_3
abbrev zFf:Stmt:=top 113
theorem zCm:c_ ["_law_names_here","_law_behind_here","_law_benches","_law_plan","_law_turns","_law_k","_law_turn","_law_name"] ["_law_names_here","_law_behind_here","_law_benches","_law_plan"] (zAe zFf):=fnS
theorem kW(F:Fun K "_law_is_right" "_law_is_right" zFf f fd)(T:Txt K mg):eC P w K mg base CX0 1 f fd ["_law_names_here","_law_behind_here","_law_benches","_law_plan"] gv:=by
 refine F.ok zCm (λvs H Q E h=>?_) λao A ai s H vs Q E hr h=>?_
 .obtain ⟨l,d,m,b,J,as,rs,la,L,rfl,_⟩:=h;rfl
 .obtain ⟨l,d,m,b,J,as,rs,la,L,rfl,hl,D0,aj,nd,len,sub,R,ap,rt,k⟩:=h;have hu:=zD3 hr
  refine⟨_,(zAb (psS (i:=4) zCm.nd zB1) (zAb (zA4 qAZ rF (pz rF T.z_enumerate$ zAa (pv 3) zAc) (zEm rF$ zAr (pgN (i:=5) zCm.nd)$ zAr (pgN (i:=6) zCm.nd) zBz)
    (zAb (zA1 (PW.pt$ zI8 (zBy$ zBv$ zAn zB2 rR T.z_isinstance zA3$ zAa (pv 6)$ zAa (zCx rR T.z_list zHy (v:=.ty "list") rF) zAc)$ zEy$ zAj zLi (zAn zAy rR T.z_len zCc$ zAa (pv 6) zAc) (pv 2)$ zAo _)
     (zAd zAq)
     zAi)
    (zAd (zA4 qAZ rF (zAl$ pv 6) (pgN (i:=7) zCm.nd)
     (zAb (zA1 (PW.pt$ zI8 (zE0$ zH2 hu (pv 7)$ pv 4)$ zEy$ zAj zE2 (pv 7) (pv 0) rR)
      (zAd zAq)
      zAi)$ zAd$ zCi hu (pv 4) (pv 7) (pv 5) rF)))))
   (zAb (zA1 (zAj zGx (zAn qL rR T.z_len zCc$ zAa (pv 4) zAc) (zAn zAy rR T.z_len zCc$ zAa (pv 0) zAc)$ zAo _)
    (zAd zAq)
    zAi)
   (zAb (zA4 qAZ rF (zAl$ pv 0) (pgN (i:=7) zCm.nd)
    (zAd (oN (zA1 (zAj (zJc hr) (zA6 rF (zBe (sc:=zAe zFf) rF kK) (d_.own (x:= "_law_other")$ dtk (i:=4) rF$ dtk (i:=7) rF d_.nil) (vi$ zBt hu (pv 1) (pv 7) fun _ _=>rfl) (fun _ _ _ _=>(pgB (i:=0))) (fun _ _ _ _=>(zB8$ zAj zLh (zBt hu (pv 1) (pv 0) fun _ _=>rfl) (zBt hu (pv 1) (pv 2) fun _ _=>rfl)$ zAo _)) fun _ _ _ _=>(pv 0)) (zAw zAc)$ zAo _)
     (zAd zAq)
     zAi))))$ zAd$ zAk zJz)))),?_⟩
  refine λe he=>?_;have fe:Fre H e:=he;have k1:Kp [] H (upd H e$ .dK []):=Kp.new Kp.refl fe;have e1:upd H e (.dK []) e=some (.dK$ dT1 (AF (rs.take 0) []) λn=>.int$ tI rs n):=ac;generalize upd H e (.dK [])=H1 at k1 e1;have ag:=rt.atq
  have aa:∀r∈rs,∀n∈r,n∈J.ns:=λr hr=>by
   obtain⟨i,hi,rfl⟩:=qBG.mp hr;exact(ag i rs[i] sS).ns
  refine⟨_,rF,_,rF,⟨_,SqL.of$ k1 m _ R.top sS⟩,zL5 (lo:=0) (xs:=as.map V.ref) (λi σ H2=>(∃o5 o6 o7,σ=[some (.ref l),some (.ref d),some (.int b),some (.ref m),some (.ref e),o5,o6,o7])/\Kp [] H H2/\H2 e=some (.dK$ dT1 (AF (rs.take i) []) λn=>.int$ tI rs n)) ⟨⟨_,_,_,rF⟩,k1,e1⟩ (λi σ H2 _ ⟨_,k2,_⟩=>SqL.of$ k2 m _ R.top sS) ?_ ?_⟩
  .rintro i v σ H2 t hv ⟨⟨o5,o6,o7,rfl⟩,k2,h2⟩ ht;have ft:Fre H2 t:=ht
   have hi:i<rs.length:=by
    have:=(qAa.mp hv).1;rw[qAB,R.len]at this;exact this
   obtain⟨a,r,ea,er,ev,ha⟩:=R.at hi;rw[ev]at hv
   cases hv
   have kt:Kp [] H2 (upd H2 t$ .tup [.int (0+(i:Int)),.ref a]):=Kp.new Kp.refl ft;refine⟨_,_,rF,.inl$ .inl ac,rF,_,_,rF,_,_,rF,rF,?_⟩;have h3:=kt e _ h2 sS;have ok:=ag i r er;generalize upd H2 t (.tup [.int (0+(i:Int)),.ref a])=S at kt h3 ⊢;have k3:=k2.trans kt;have ad:=k3 a _ ha sS;have aq:(AF (rs.take i) []).length<=20:=qAR (zB4 (zHu _ _ qAt)$ zL6 _ _ (λ_ h=>nomatch h) λr hr=>aa r$ qCm hr) len;have ar:r.length<=20:=qAR (zB4 ok.nd ok.ns) len;refine⟨_,rF,_,_,_,_,rF,fL.lst ad,zC2,_,rF,eG ?_⟩;refine⟨_,rF,_,_,rF,.inl$ SqL.of ad,_,rF,_,_,rF,rF,_,rF,?_⟩;rw[qAP$ by rw[qAB];have:=ok.fit;lia];refine eG ?_;refine⟨_,rF,_,rF,⟨_,SqL.of ad⟩,zA0 (xs:=r.map V.str) (λp σ O=>(∃o7,σ=[some (.ref l),some (.ref d),some (.int b),some (.ref m),some (.ref e),some (.int$ 0+(i:Int)),some (.ref a),o7])/\Kp [] H O/\O e=some (.dK$ dT1 ((r.take p).foldl eY$ AF (rs.take i) []) λn=>.int$ tI rs n)) ⟨⟨_,rF⟩,k3,h3⟩ (λp σ O _ ⟨_,k4,_⟩=>SqL.of$ k4 a _ ha sS) ?_ ?_⟩
   .rintro p v σ O hv ⟨⟨o7,rfl⟩,k4,h4⟩;obtain⟨n,en,rfl⟩:=zBh hv;have hn:=qAN en
    have ae:n∉(r.take p).foldl eY (AF (rs.take i) []):=λz=>by
     rcases(zB0 _ _).mp z with z|z
     .exact ok.nw n hn z
     .exact zFi ok.nd en z
    refine⟨_,rF,_,rF,_,_,rF,eO.k (k:=Sum.inr n) h4,_,rF,?_⟩;rw[zE5,qAP ae];refine eG ?_;refine⟨_,rF,_,rF,_,_,rF,.inl$ SqL.of$ k4 l _ hl sS,rF,zBw _,_,rF,?_⟩;rw[qAD rF,zDe,qAJ$ ok.ns n hn];refine eG ?_;have ak:=zG6 (r.take p)$ AF (rs.take i) [];rw[qAX]at ak;refine⟨_,rF,_,rF,_,rF,_,_,rF,fR.k (k:=Sum.inr n) h4 (by rw[zEj,qAM];lia),?_⟩;refine⟨⟨_,rF⟩,Kp.new k4 fe,?_⟩;have et:tI rs n=i:=wd er hn λq hq z=>ok.nw n hn$ (ib _ _).mpr$ .inr ⟨q,hq,z⟩;rw[ac,zEz _ ae,zAh en,qA8];show _=some (HO.dK$ dT1 (eY _ n) _);rw[um ae,zL9,et];simp
   .rintro σ O ⟨⟨o7,rfl⟩,k4,h4⟩;rw[qAB,qAY]at h4;refine⟨⟨_,_,_,rF⟩,k4,?_⟩;rw[zAh er];unfold AF;rw[qA8];exact h4
  rintro σ H2 ⟨⟨o5,o6,o7,rfl⟩,k2,h2⟩;have eT:rs.take (as.map V.ref).length=rs:=by rw[qAB,R.len,qAY]
  rw[eT]at h2;have all:=rt.all;have al:=zL6 (J:=J) rs [] (λ_ h=>nomatch h) aa;have el:(AF rs []).length=J.ns.length:=Nat.le_antisymm (zB4 (zHu _ _ qAt) al)$ zB4 nd all;refine⟨_,rF,_,_,rF,h2,_,rF,_,_,rF,.inl$ SqL.of$ k2 l _ hl sS,rF,_,rF,?_⟩;rw[zEj,qAB,el];have am:(!decide (V.int (J.ns.length:Int)=V.int (J.ns.length:Int)))=false:=sS
  rw[am];refine eG ?_;refine⟨_,rF,_,rF,⟨_,SqL.of$ k2 l _ hl sS⟩,zA0 (xs:=J.ns.map V.str) (λi σ S=>(∃o5 o6 o7,σ=[some (.ref l),some (.ref d),some (.int b),some (.ref m),some (.ref e),o5,o6,o7])/\Kp [] H S/\S e=some (.dK$ dT1 (AF rs []) λn=>.int$ tI rs n)) ⟨⟨_,_,_,rF⟩,k2,h2⟩ (λi σ S _ ⟨_,k3,_⟩=>SqL.of$ k3 l _ hl sS) ?_ ?_⟩
  .clear h2 k2;rintro i v σ S hv ⟨⟨o5,o6,o7,rfl⟩,k3,e3⟩;obtain⟨n,en,rfl⟩:=zBh hv;have mn:n∈J.ns:=qAN en;have D3:=D0.kp0 k3;have ab:S (la n)=some (.dK$ dT1 (L n) λ_=>.bl true):=D3.row n mn
   have ah:e≠la n:=λz=>by
    have h:=D0.row n mn;rw[<-z]at h;have h:H e=some _:=h;rw[show H e=none from fe]at h;cases h
   refine⟨la n,dT1 (L n) λ_=>.bl true,ab,λo=>?_⟩;have kf:Kp [la n] S (upd S (la n)$ .frz o$ .dK$ dT1 (L n) λ_=>.bl true):=Kp.put Kp.refl sS;have ff:upd S (la n) (.frz o$ .dK$ dT1 (L n) λ_=>.bl true) (la n)=some (.frz o$ .dK$ dT1 (L n) λ_=>.bl true):=ac;generalize upd S (la n) (.frz o$ .dK$ dT1 (L n) λ_=>.bl true)=O at kf ff;have e4:=kf _ _ e3$ nm1 ah
   have an:eO O d (.str n) (some$ .ref$ la n):=by
    have:=eO.k (k:=Sum.inr n)$ kf _ _ D3.top$ nm1 λz=>(aj n mn z.symm);rw[zB3,qAD mn]at this;exact this
   have tg:∀{W:Hp}(y:Str),y∈J.ns->W e=some (.dK$ dT1 (AF rs []) λn=>.int$ tI rs n)->eO W e (.str y) (some$ .int$ tI rs y):=λ{W} y hy h5=>by
    have:=eO.k (k:=Sum.inr y) h5;rw[zB3,qAD$ all y hy]at this;exact this
   refine⟨_,rF,_,rF,d,_,rF,an,la n,o,_,rF,ff,λB hB=>qz (λm ys τ W=>(∃o0,τ=[o0,some (.ref e),some (.str n)])/\ys=[]/\W=upd O B (.lst [])) ⟨⟨_,rF⟩,rF,rF⟩ (λm ys τ W ⟨_,_,z⟩=>by subst z;exact(Kp.new (M:=[]) Kp.refl hB) _ _ ff sS) ?_ ?_⟩
   .rintro m kk v ys τ W hv ⟨⟨o0,rfl⟩,rfl,rfl⟩;obtain⟨y,ey,rfl⟩:=xQ hv;obtain⟨yn,hS⟩:=sub n mn y$ qAN ey;have e5:=(Kp.new (M:=[]) (l:=B) (o:=.lst []) Kp.refl hB) _ _ e4 sS;have au:=sV rt mn yn hS;unfold gz;refine⟨_,rF,_,rF,e,_,rF,tg y yn e5,_,rF,_,rF,e,_,rF,tg n mn e5,_,_,rF,rF,_,rF,?_⟩;rw[qAP lL];exact eG ⟨⟨_,rF⟩,rF,rF⟩
   .rintro ys τ W ⟨_,rfl,rfl⟩;have fB:Fre O B:=hB;have k5:Kp [] O (upd O B$ .lst []):=Kp.new Kp.refl fB;have e5:upd O B (.lst []) B=some (.lst []):=ac;generalize upd O B (.lst [])=W at k5 e5;refine⟨(by walk_at"ln"),λq hq=>?_⟩;have fq:Fre W q:=hq;have k6:Kp [] W (upd W q$ .lst []):=Kp.new Kp.refl fq;refine .inl ⟨_,_,_,_,rF,rF,SqL.of$ k6 _ _ e5 sS,SqL.of ac,rF,(λi x y h=>by simp at h),_,rF,eG ?_⟩;have af:=k5.trans k6;refine⟨af _ _ ff sS,⟨_,_,_,rF⟩,k3.trans$ uK ab$ kf.trans$ af.weak sS,?_⟩;rw[a_ ah];exact af _ _ e4 sS
  .rintro σ S ⟨_,k3,_⟩;exact k S k3
end
abbrev WL:=List$ List Str×Int
def fC(A:WL)(k:List Str)(v:Int):WL:=if k∈A.map (·.1) then A.map (λe=>if e.1=k then(e.1,e.2+v) else e) else A++[(k,v)]
def fN:WL->List Str->Int
 |[],_=>0
 |e::A,k=>if e.1=k then e.2 else fN A k
theorem zIt{e:List Str×Int}{A:WL}{k:List Str}(h:e.1=k):fN (e::A) k=e.2:=qAD h
theorem zG8{e:List Str×Int}{A:WL}{k:List Str}(h:¬e.1=k):fN (e::A) k=fN A k:=qAC h
def zFr(J:JR)(b:Int)(A:WL)(e:List Str×Int):WL:=(zA2 J b e.1).foldl (λA s=>fC A s.2 e.2) A
def eP(J:JR)(b:Int):Nat->WL
 |0=>[([],1)]
 |t+1=>(eP J b t).foldl (zFr J b) []
def wV(A:WL):List (List Key×V):=A.map λe=>(kyS e.1,V.int e.2)
theorem zJl(A:WL)(k:List Str)(v:Int):(fC A k v).map (·.1)=if k∈A.map (·.1) then A.map (·.1) else A.map (·.1)++[k]:=by
 unfold fC;split
 .rw [qAb]
  exact qBU λq _=>by
   show(if q.1=k then(q.1,q.2+v) else q).1=q.1;split<;>rfl
 .rw [qAI];rfl
theorem uU{A:WL}{k x:List Str}{v:Int}(h:x∈(fC A k v).map (·.1)):x∈A.map (·.1)\/x=k:=by
 rw[zJl]at h;split at h
 .exact .inl h
 .rw [qAK,qAH]at h;exact h
theorem o_{A:WL}{k:List Str}{v:Int}(h:(A.map (·.1)).Nodup):((fC A k v).map (·.1)).Nodup:=by
 rw[zJl];split
 .exact h
 .rename_i n;exact qA6.mpr ⟨h,sS,λa O d S=>by rw[qAH.mp S];exact λz=>n$ z▸O⟩
theorem ma{J:JR}{b:Int}{x:List Str}{v:Int}:∀(S:List (List Str×List Str)) (A:WL),x∈(S.foldl (λA s=>fC A s.2 v) A).map (·.1)->x∈A.map (·.1)\/∃s∈S,x=s.2
 |[],A,h=>.inl h
 |s::S,A,h=>by
  rcases ma (J:=J) (b:=b) S _ h with z|⟨q,h1,h2⟩
  .rcases uU z with y|y
   .exact .inl y
   .exact .inr ⟨s,qAO,y⟩
  .exact .inr ⟨q,qAS _ h1,h2⟩
theorem zLu{v:Int}:∀(S:List (List Str×List Str)) (A:WL),(A.map (·.1)).Nodup->((S.foldl (λA s=>fC A s.2 v) A).map (·.1)).Nodup
 |[],A,h=>h
 |s::S,A,h=>zLu S _ (o_ h)
theorem zFl{x:List Str}:∀(L A:WL),x∈(L.foldl (zFr J b) A).map (·.1)->x∈A.map (·.1)\/∃q∈L,∃s∈zA2 J b q.1,x=s.2
 |[],A,h=>.inl h
 |q::L,A,h=>by
  rcases zFl L _ h with z|⟨p,h1,h2⟩
  .rcases ma (J:=J) (b:=b) _ _ z with y|y
   .exact .inl y
   .exact .inr ⟨q,qAO,y⟩
  .exact .inr ⟨p,qAS _ h1,h2⟩
theorem zIn :∀(L A:WL),(A.map (·.1)).Nodup->((L.foldl (zFr J b) A).map (·.1)).Nodup
 |[],A,h=>h
 |q::L,A,h=>zIn L _ (zLu _ _ h)
theorem ji(J:JR)(b:Int):∀t,((eP J b t).map (·.1)).Nodup
 |0=>by show([[]]:List (List Str)).Nodup;simp
 |t+1=>zIn _ _ qAt
theorem ud :∀{t:Nat}{D:List Str},D∈(eP J b t).map (·.1)->∃p,D=J.ns.filter p
 |0,D,h=>⟨λ_=>false,by rw[qAH.mp h];simp⟩
 |t+1,D,h=>by
  rcases zFl _ _ h with z|⟨q,h1,s,h2,rfl⟩
  .exact nomatch z
  .exact zEp h2
theorem oq{ks:List (List Key)}(h0:kyS []∈ks)(O:∀D,kyS D∈ks->∀s∈zA2 J b D,kyS s.2∈ks):∀{t:Nat}{D:List Str},D∈(eP J b t).map (·.1)->kyS D∈ks
 |0,D,h=>by rw[qAH.mp h];exact h0
 |t+1,D,h=>by
  rcases zFl _ _ h with z|⟨q,h1,s,h2,rfl⟩
  .exact nomatch z
  .exact O _ (oq h0 O$ qAG.mpr ⟨q,h1,rF⟩) s h2
theorem vF{t:Nat}(O:J.ns.length<=7):(eP J b t).length<=128:=by
 have:=zIq (kvs:=wV$ eP J b t) O (by
  unfold wV;rw[qAb];show((eP J b t).map λe=>kyS e.1).Nodup;rw[show((eP J b t).map λe=>kyS e.1)=((eP J b t).map (·.1)).map kyS by rw[qAb];rfl];exact(ji J b t).map kyS λx y n z=>n$ zCy z) λV h=>by
  obtain⟨e,S,rfl⟩:=qAG.mp h;obtain⟨p,ep⟩:=ud$ qAG.mpr ⟨e,S,rF⟩;exact⟨p,by rw[<-ep]⟩
 unfold wV at this;rw[qAB]at this;exact this
theorem mM(k:List Str):∀A:WL,eX (wV A) (kyS k)=if k∈A.map (·.1) then some (.int$ fN A k) else none
 |[]=>rfl
 |e::A=>by
  show eX ((kyS e.1,V.int e.2)::wV A) (kyS k)=_
  by_cases z:e.1=k
  .rw [zBp (by show kyS e.1=kyS k;rw[z]),qAD (by rw[<-z];exact qAO),zIt z]
  .rw [zBl λy=>z$ zCy y,mM k A]
   have:(k∈(e::A).map (·.1))↔k∈A.map (·.1):=by
    rw[qAi,qAQ];exact⟨λh=>h.resolve_left λy=>z y.symm,.inr⟩
   rw[zG8 z]
   by_cases c:k∈A.map (·.1)
   .rw [qAD c,qAD$ this.mpr c]
   .rw [qAC c,qAC λy=>c$ this.mp y]
theorem zHs{k:List Str}:∀{A:WL},k∉A.map (·.1)->fN A k=0
 |[],_=>rfl
 |e::A,h=>by
  rw[qAi,qAQ,not_or]at h;rw[zG8 λz=>h.1 z.symm];exact zHs h.2
theorem rN(A:WL)(k:List Str):(eX (wV A)$ kyS k).getD (.int 0)= .int (fN A k):=by
 rw[mM];split
 .rfl
 .rename_i h;rw[zHs h];rfl
theorem zIu:∀{A:WL}{e:List Str×Int},(A.map (·.1)).Nodup->e∈A->fN A e.1=e.2
 |q::A,e,O,h=>by
  obtain⟨S,V⟩:=qA5.mp O;rcases qAQ.mp h with z|z
  .rw [z,zIt rF]
  .rw [zG8 λy=>S$ qAG.mpr ⟨e,z,y.symm⟩];exact zIu V z
theorem rQ{A:WL}(O:(A.map (·.1)).Nodup)(k:List Str)(v:Int):eV (wV A) (kyS k) (.int$ fN A k+v)=wV (fC A k v):=by
 by_cases c:k∈A.map (·.1)
 .have:((wV A).any λS=>decide$ S.1=kyS k)=true:=by
   obtain⟨e,h1,h2⟩:=qAG.mp c;exact qDY.mpr ⟨(kyS e.1,V.int e.2),qAG.mpr ⟨e,h1,rF⟩,qAJ$ by rw[h2]⟩
  unfold eV fC;rw[qAD this,qAD c];unfold wV;rw[qAb,qAb];refine qBU λe W=>?_;show(if kyS e.1=kyS k then(kyS e.1,V.int (fN A k+v)) else(kyS e.1,V.int e.2))=(kyS (if e.1=k then(e.1,e.2+v) else e).1,V.int (if e.1=k then(e.1,e.2+v) else e).2)
  by_cases z:e.1=k
  .rw [qAD (by rw[z]),qAD z,<-z,zIu O W]
  .rw [qAC λy=>z$ zCy y,qAC z]
 .rw [zFh _ (by rw[mM,qAC c]),zHs c,qDX];unfold fC wV;rw[qAC c,qAI];rfl
theorem yQ{p x:Addr}{u v:HO}(e:H x=some u)(h:H p=some v)(n:u≠v):x∉[p]:=nm1$ zAu e h n
section
inductive jI(vs:List V)(H:Hp)(Q:VK)(u_3:XK):Prop
 |mk:∀(t:Int),vs=[.int t]->0<=t->t<=40->Q .non H->jI vs H Q u_3
abbrev zEc:Stmt:=top 53
theorem zJy:c_ ["turns"] ["turns"] (zAe zEc):=fnS
theorem zJ1(F:Fun K "check_turns" "check_turns" zEc f fd)(T:Txt K mg)(O:Cal P w K mg base "is_whole" 1 ["thing"] gB):eC P w K mg base CX0 2 f fd ["turns"] jI:=by
 refine F.ok zJy (λvs H Q E h=>?_) λV A S s H vs Q E W h=>?_
 .obtain ⟨t,rfl,_⟩:=h;rfl
 .obtain ⟨t,rfl,h0,h1,k⟩:=h;obtain⟨tM,hM⟩:=T.c_MOST_TURNS
  refine⟨_,(zAd$ zA1 (PW.pt$ zI8 (zBy$ zBv$ zAf O W rF$ zAa (pv 0) zAc)$ zEy$ zBy$ zLb zLh zLh zAg (pv 0)$ zDb rF hM (v:=.int 40) ⟨_,rF⟩) (zAd zAq) zAi),?_⟩
  refine⟨_,rF,t,rF,_,rF,eG ?_⟩;refine⟨_,rF,_,_,rF,rF,_,rF,?_⟩;rw[qAJ h0];refine fE ⟨_,_,rF,rF,_,rF,?_⟩;rw[qAJ h1];exact eG k
inductive gG(vs:List V)(H:Hp)(Q:VK)(u_3:XK):Prop
 |mk:∀(s p:Addr)(J:JR)(b:Int)(t:Nat)(F:Hp) (ks:List (List Key×V)),vs=[.ref s,.ref p]->StD J b F H s ks->kyS []∈ks.map (·.1)->(∀D,kyS D∈ks.map (·.1)->∀s∈zA2 J b D,kyS s.2∈ks.map (·.1))->H p=some (.dT$ wV$ eP J b t)->J.ns.length<=7->s≠p->(∀(p':Addr)(H':Hp),H' p'=some (.dT$ wV$ eP J b$ t+1)->Fre H p'->Kp [] H H'->Q (.ref p') H')->gG vs H Q u_3
abbrev zCe:Stmt:=top 57
theorem zBa:c_ ["steps","ways","later","done","many","row","now"] ["steps","ways"] (zAe zCe):=fnS
theorem zF9(F:Fun K "ways_one_turn_on" "ways_one_turn_on" zCe f fd):eC P w K mg base CX0 1 f fd ["steps","ways"] gG:=by
 refine F.ok zBa (λvs H Q E h=>?_) λaA A aq s H vs Q E hr h=>?_
 .obtain ⟨s,p,J,b,t,F,ks,rfl,_⟩:=h;rfl
 .obtain ⟨sa,p,J,b,t,Fh,ks,rfl,S,ar,cl,hp,few,as,k⟩:=h;have hu:=zD3 hr
  refine⟨_,(zAb (psS (i:=2) zBa.nd zLf) (zAb (ph (zA4 qAZ rF (i6$ pv 1) (zEm rF$ zAr (pgN (i:=3) zBa.nd)$ zAr (pgN (i:=4) zBa.nd) zBz)
    (zAd (zA4 qAZ rF (zAl$ zBt hu (pv 0) (pv 3) fun _ _=>rfl) (zEm rF$ zAr (pgN (i:=5) zBa.nd)$ zAr (pgN (i:=6) zBa.nd) zBz)$ zAd$ zCi hu (pv 2) (pv 6) (zAs zCz (zIm hu (pv 2) (pv 6) zAg ⟨rF,rF,rF,rF⟩)$ pv 4) rF))))$ zAd$ zAk$ pv 2)),?_⟩
  refine im ?_;intro _ _ _;have hs:=qAM;have wl:∀A:WL,(wV A).length=A.length:=λA=>qAB _;have aB:(eP J b t).length<=128:=vF few;refine λl hl=>?_;have fl:Fre H l:=hl;have ae:l≠p:=λe=>by rw[e]at fl;exact absurd hp (by rw[show H p=none from fl];exact λz=>nomatch z)
  have k1:Kp [] H (upd H l$ .dT []):=Kp.new Kp.refl fl;have aj:upd H l (.dT []) l=some (.dT []):=ac;generalize upd H l (.dT [])=H1 at k1 aj;have au:=k1 _ _ hp sS;refine⟨p,_,au,λo=>?_⟩;have av:Kp [p] H (upd H1 p$ .frz o$ .dT$ wV$ eP J b t):=(k1.weak sS).trans$ Kp.put Kp.refl sS;have O:∀{H2:Hp},Kp [p] H H2->∀x u,H x=some u->u≠.dT (wV$ eP J b t)->H2 x=some u:=λk x u e n=>k x u e$ yQ e hp n
  refine⟨_,rF,p,o,_,rF,ac,zKp (λi σ H2=>∃(A:WL)(o3 o4 o5 o6:Option V),σ=[some (.ref sa),some (.ref p),some (.ref l),o3,o4,o5,o6]/\Kp [p] H H2/\H2 p=some (.frz o$ .dT$ wV$ eP J b t)/\H2 l=some (.dT$ wV A)/\A=((eP J b t).take i).foldl (zFr J b) []/\A.length<=128*i) ⟨[],none,none,none,none,rF,av,ac,(a_ ae).trans aj,rF,qAF _⟩ (λi σ H2 _ ⟨_,_,_,_,_,_,_,h,_⟩=>h) ?_ ?_⟩
  .rintro i kk v σ H2 tt bb hv ⟨A0,o3,o4,o5,o6,rfl,k2,af,ag,eA,ab⟩ aw ax;unfold wV at hv;rw[qAU]at hv;obtain⟨e,ee,ay⟩:=qAw.mp hv
   cases ay
   have kt:Kp [] H2 (upd H2 tt$ .tup [.ref bb,.int e.2]):=Kp.new Kp.refl aw;refine⟨_,_,rF,.inl$ .inl ac,rF,_,_,rF,_,_,rF,rF,?_⟩;have k3:Kp [p] H (upd H2 tt$ .tup [.ref bb,.int e.2]):=k2.trans$ kt.weak sS;have ak:=kt _ _ af sS;have al:=kt _ _ ax sS;have am:=kt _ _ ag sS;generalize upd H2 tt (.tup [.ref bb,.int e.2])=H3 at k3 ak al am;have hi:i<(eP J b t).length:=(qAa.mp ee).1;obtain⟨v,g1,g2⟩:=zGi$ oq ar cl$ qAG.mpr ⟨e,qAN ee,rF⟩;obtain⟨D',sl,es,an,S1,S2,S3,S4⟩:=S.each _ g2;obtain⟨e1,rfl⟩:=qB2 an;have e1:=zCy e1;subst e1;have az:=k3 _ _ S.top$ nm1 as;have g3:=eO.t (k:=kyS e.1) az al;rw[g1]at g3
   have aC:es.length<=128:=by
    have:es.length=(zA2 J b e.1).length:=by rw[<-S2,qAB]
    rw[this];exact zFb few
   refine⟨_,rF,_,rF,_,_,rF,g3,_,rF,⟨_,SqL.of$ O k3 _ _ S1.top λz=>nomatch z⟩,zA0 (xs:=es.map λe=>V.ref e.t) (λq σ H4=>∃(A:WL)(o5 o6:Option V),σ=[some (.ref sa),some (.ref p),some (.ref l),some (.ref bb),some (.int e.2),o5,o6]/\Kp [p] H H4/\H4 p=some (.frz o$ .dT$ wV$ eP J b t)/\H4 l=some (.dT$ wV A)/\A=((zA2 J b e.1).take q).foldl (λA s=>fC A s.2 e.2) A0/\A.length<=128*i+q) ⟨A0,o5,o6,rF,k3,ak,am,rF,ab⟩ (λq σ H4 _ ⟨_,_,_,_,k4,_⟩=>SqL.of$ O k4 _ _ S1.top λz=>nomatch z) ?_ ?_⟩
   .rintro q v σ H4 hv ⟨A1,o5,o6,rfl,k4,ah,aa,W,ad⟩;obtain⟨s1,ai,rfl⟩:=sI hv;have me:=qAN ai;have hq:q<es.length:=(qAa.mp ai).1;have eS:(zA2 J b e.1)[q]?=some (s1.r,s1.d):=by rw[<-S2,qAU,ai];rfl
    have ao:=O k4 _ _ (S1.now s1 me) (λz=>nomatch z);have ap:(A1.map (·.1)).Nodup:=by rw[W,eA];exact zLu _ _$ zIn _ _ qAt
    refine⟨_,_,rF,.inl (.inl$ O k4 _ _ (S1.tup s1 me) λz=>nomatch z),rF,_,_,rF,_,_,rF,rF,?_⟩;refine⟨_,rF,l,rF,.inr ⟨_,.inl aa⟩,_,rF,_,eO.t (k:=kyS s1.d) aa (by rw[zEh];exact ao),_,rF,?_⟩;rw[rN];refine⟨_,_,rF,rF,_,rF,_,rF,_,_,rF,fR.t (k:=kyS s1.d) aa (by rw[zEh];exact ao) (by rw[wl];lia),?_⟩;rw[rQ ap];refine⟨fC A1 s1.d e.2,_,_,rF,Kp.new k4 fl,(a_ ae.symm).trans ah,ac,?_,?_⟩
    .rw [zAh eS,qA8,<-W];rfl
    .have h1:=zCp (wV A1) (kyS s1.d)$ .int$ fN A1 s1.d+e.2;rw[rQ ap,wl,wl]at h1;lia
   .rintro σ H4 ⟨A1,o5,o6,rfl,k4,ah,aa,W,ad⟩;rw[qAB]at W ad;refine⟨A1,_,_,_,_,rF,k4,ah,aa,?_,lL⟩;have:(zA2 J b e.1).take es.length=zA2 J b e.1:=qBC (by rw[<-S2,qAB];exact qAF _);rw[this]at W;rw[zAh ee,qA8,<-eA,W];rfl
  .rintro σ H2 ⟨A0,o3,o4,o5,o6,rfl,k2,af,ag,eA,ab⟩;rw[wl,qAY]at eA;subst eA;refine⟨af,?_⟩;refine⟨_,rF,k l _ ((a_ ae).trans ag) fl λb o h _=>?_⟩
   by_cases e:b=p
   .rw [e]at h ⊢;rw[ac,<-hp,h]
   .rw [a_ e];exact k2 b o h$ nm1 e
end
section
def eZ(J:JR)(b:Int)(t:Nat):Int:=fN (eP J b t) J.ns
inductive gr(C:Addr)(vs:List V)(H:Hp)(Q:VK)(u_3:XK):Prop
 |mk:∀(j:Addr)(b:Int)(t:Nat)(J:JR),vs=[.ref j,.int b,.int t]->eI C H j J->1<=b->t<=40->J.ns.length<=7->(∀H':Hp,Kp [] H H'->Q (.int$ eZ J b t) H')->gr C vs H Q u_3
abbrev zI6:Stmt:=top 56
theorem zD0:c_ ["jobs","benches","turns","steps","ways","number"] ["jobs","benches","turns"] (zAe zI6):=fnS
theorem nK(F:Fun K "counted" "counted" zI6 f fd)(T:Txt K mg)(U:JC K mg C)(ad:Mth P w K mg base C "names" 1 ["self"] (fO C))(S:Cal P w K mg base "check_benches" 2 ["benches"] gb)(W:Cal P w K mg base "check_turns" 2 ["turns"] jI)(aa:Cal P w K mg base "check_few" 2 ["jobs"] (oS C))
  (ab:Cal P w K mg base "all_steps" 6 ["jobs","benches"] (oH C)) (O:Cal P w K mg base "ways_one_turn_on" 1 ["steps","ways"] gG):eC P w K mg base CX0 7 f fd ["jobs","benches","turns"] (gr C):=by
 refine F.ok zD0 (λvs H Q E h=>?_) λax A ap s H vs Q E hr h=>?_
 .obtain ⟨j,b,t,J,rfl,_⟩:=h;rfl
 .obtain ⟨j,b,t,J,rfl,A0,hb,ht,few,k⟩:=h;have hu:=zD3 hr;have ah:=hr.mono (j:=1) dD;have ag:=hr.mono (j:=2) dD
  refine⟨_,(zAb (zBb$ zAf S ag rF$ zAa (pv 1) zAc) (zAb (zBb$ zAf W ag rF$ zAa (pv 2) zAc)
   (zAb (zBb$ zAf aa ag rF$ zAa (pv 0) zAc)
   (zAb (psS (i:=3) zD0.nd$ zAf ab hr rF$ zAa (pv 0)$ zAa (pv 1) zAc)
   (@zAb _ _ _ _ _ (@psS _ 4 _ _ _ _ _ zD0.nd (@lF _ _ _ _ _ _ hu (zCl zAc) zAg) (by rfl) (by walk_at"lc") (by rfl) (.inl rF))
   (zAb (zA4 qAZ rF (zCu rF T.z_range$ zAa (pv 2) zAc) (pgN (i:=5) zD0.nd)$ zAd$ psS (i:=4) zD0.nd$ zAf O ah rF$ zAa (pv 3)$ zAa (pv 4) zAc)$ zAd$ zAk$ zIm hu (pv 4) (zAz zC3 rR T.z_tuple zHf$ zAa (zDa ad U.cl ah$ pv 0) zAc) zAg ⟨rF,rF,rF,rF⟩)))))),?_⟩
  refine zg ?_;intro _ _ _ _ _ _ _;have hs:=qAM;refine⟨_,rF,b,rF,hb,?_⟩;refine⟨_,rF,(t:Int),rF,lL,lL,?_⟩;refine⟨_,rF,j,J,rF,A0,few,λH1 k1=>?_⟩;refine⟨_,rF,_,rF,j,b,J,rF,A0.kp0 k1,few,λd ks H2 S2 aq cl k2=>?_⟩;have ar:=k1.trans k2;refine λp hp=>?_;have fp:Fre H2 p:=hp;have kp:Kp [] H2 (upd H2 p$ .dT []):=Kp.new Kp.refl hp;have ai:upd H2 p (.dT []) p=some (.dT []):=ac;have ae:d≠p:=zAp S2.top hp;generalize upd H2 p (.dT [])=H3 at kp ai;refine⟨(by walk_at"ln"),λt0 as=>?_⟩;have kt:Kp [] H3 (upd H3 t0$ .tup []):=Kp.new Kp.refl as;have aj:upd H3 t0 (.tup []) t0=some (.tup []):=ac;have ak:=kt _ _ ai sS;generalize upd H3 t0 (.tup [])=H4 at kt aj ak;refine⟨[],t0,.int 1,rF,ak,aj,?_⟩;have al:Kp [] H2 (upd H4 p$ .dT [([],.int 1)]):=Kp.new (kp.trans kt) hp;have am:upd H4 p (.dT [([],.int 1)]) p=some (.dT$ wV$ eP J b 0):=ac;generalize upd H4 p (.dT [([],.int 1)])=H6 at al am;refine⟨_,rF,_,rF,lL,lL,zDf (lo:=0) (n:=t) (λi σ H7=>∃(p:Addr)(o5:Option V),σ=[some (.ref j),some (.int b),some (.int t),some (.ref d),some (.ref p),o5]/\Kp [] H2 H7/\H7 p=some (.dT$ wV$ eP J b i)/\d≠p) ⟨p,none,rF,al,am,ae⟩ ?_ ?_⟩
  .rintro i σ H7 hi ⟨p,o5,rfl,k7,af,ae⟩;refine⟨_,rF,_,rF,d,p,J,b,i,H1,ks,rF,S2.kp0 k7,aq,cl,af,few,ae,λp' H' au av k'=>?_⟩;exact⟨p',_,rF,k7.trans k',au,zAp (k7 _ _ S2.top sS) av⟩
  .rintro σ H7 ⟨p,o5,rfl,k7,af,ae⟩;have an:=ar.trans k7;have A7:=A0.kp0 an;refine⟨_,rF,p,rF,.inr ⟨_,.inl af⟩,_,rF,j,J.dx,_,rF,A7.ob,zL0 _ _ _ kK kK kK,j,J,rF,A7,λnl H8 fn h8 k8=>?_⟩;refine⟨nl,_,rF,.inl ⟨SqL.of h8,λtp aw=>?_⟩⟩;have k9:Kp [] H8 (upd H8 tp$ .tup$ J.ns.map V.str):=Kp.new Kp.refl aw;have h9:upd H8 tp (.tup$ J.ns.map V.str) tp=some (.tup$ J.ns.map V.str):=ac;generalize upd H8 tp (.tup$ J.ns.map V.str)=H9 at k9 h9;have ao:=k8.trans k9;refine⟨_,eO.t (k:=kyS J.ns) (ao _ _ af sS) (by rw[zEh];exact h9),?_⟩;rw[rN];exact k H9$ an.trans ao
end
def fA(k:List Str):Str:=k.getD 0 Str.empty++ " < "++k.getD 1 Str.empty
def gt(ns:List Str)(ks:List (List Str)):Str:=Txt.join "; "$ Txt.join " " ns::ks.map fA
theorem zJn(sep p q:Str)(r:List Str):Txt.join sep (p::q::r)=p++sep++Txt.join sep (q::r):=by
 show Builtin.Str.glued sep (p::q::r)=p++sep++Builtin.Str.glued sep (q::r);rw[qDl,qDl];rfl
theorem iA:∀(ts:List Str)(h:Str),Txt.join "; " (h::ts)=h++Txt.join "" (ts.map λt=>("; ": Str)++t)
 |[],h=>(iK h).symm
 |[t],h=>by
  rw[zJn];show h++ "; "++t=h++(("; ": Str)++t);exact zJu _ _ _
 |t::s::r,h=>by
  rw[zJn,iA (s::r) t,qAi,qAi,qAi,zJn,show(("; ": Str)++t++ "")=("; ": Str)++t from iK _,zJu,zJu]
theorem zBg.no{s:Str}(h:zBg s)(O:c<97):c∉s.cps.toList:=λz=>by have:=(h.2.2 c z).1;lia
theorem tH{b:Str}(h1:c∉a.cps.toList)(h2:c∉b.cps.toList):c∉(a++b).cps.toList:=by
 rw[qCh,qCF];exact λz=>(qAK.mp z).elim h1 h2
theorem lz{sep:Str}(hs:c∉sep.cps.toList):∀(xs:List Str),(∀x∈xs,c∉x.cps.toList)->c∉(Txt.join sep xs).cps.toList:=by
 intro xs h;show c∉(Builtin.Str.glued sep xs).cps.toList;rw[SM.glued_toList]
 induction xs with
 |nil=>simp[SM.glue]
 |cons x r O=>
  cases r with
  |nil=>simpa[SM.glue]using h x qAO
  |cons y r=>
   show c∉x.cps.toList++sep.cps.toList++SM.glue sep.cps.toList ((y::r).map λp=>p.cps.toList);intro z;rcases qAK.mp z with z|z
   .rcases qAK.mp z with z|z
    .exact h x qAO z
    .exact hs z
   .exact O (λq S=>h q$ qAS _ S) z
theorem w6:SM.Own ("; ": Str).cps.toList 59 0:=⟨kK,λj h=>by
 have e:("; ": Str).cps.toList=[59,32]:=kK
 rw[e]at h
 match j,h with
 |0,_=>rfl
 |1,h=>simp at h
 |n+2,h=>simp at h⟩
theorem xR:SM.Own (" ": Str).cps.toList 32 0:=⟨kK,λj h=>by
 have e:(" ": Str).cps.toList=[32]:=kK
 rw[e]at h
 match j,h with
 |0,_=>rfl
 |n+1,h=>simp at h⟩
theorem w9:SM.Own (" < ": Str).cps.toList 60 1:=⟨kK,λj h=>by
 have e:(" < ": Str).cps.toList=[32,60,32]:=kK
 rw[e]at h
 match j,h with
 |0,h=>simp at h
 |1,_=>rfl
 |2,h=>simp at h
 |n+3,h=>simp at h⟩
def sq(ks:List (List Str)):Prop:=∀k∈ks,∃a b,k=[a,b]/\zBg a/\zBg b
theorem qH{ks:List (List Str)}(h1:∀n∈ns,zBg n)(h2:sq ks):Txt.split (gt ns ks) "; "=Txt.join " " ns::ks.map fA :=
 SM.split_glued w6 sS (λp O=>by
  rcases qAQ.mp O with rfl|O
  .exact lz kK ns λx S=>(h1 x S).no dD
  .obtain ⟨k,V,rfl⟩:=qAG.mp O;obtain⟨a,b,rfl,W,hb⟩:=h2 k V;exact tH (tH (W.no dD) kK)$ hb.no dD) kK
theorem zI0(h0:ns≠[])(h:∀n∈ns,zBg n):Txt.split (Txt.join " " ns) " "=ns :=
 SM.split_glued xR h0 (λp O=>(h p O).no dD) kK
theorem qC{b:Str}(S:zBg a)(V:zBg b):Txt.split (fA [a,b]) " < "=[a,b] :=
 SM.split_glued (parts:=[a,b]) w9 sS (λp O=>by
  rcases qAQ.mp O with rfl|O
  .exact S.no dD
  .rw [qAH.mp O];exact V.no dD) kK
theorem pq{b:Str}(O:zBg a)(S:zBg b):(fA [a,b]).length<=19:=by
 show(a++ " < "++b).length<=19;rw[fj,fj,show((" < ": Str)).length=3 by decide];have:=O.2.1;have:=S.2.1;lia
theorem zJe(h:∀n∈ns,zBg n)(l:ns.length<=20):(Txt.join " " ns).length<=180/\(ns.map (·.length)).sum+ns.length*(" ": Str).length<=180:=by
 have h1:=zIr " " ns;have h2:=zFv (λs:Str=>s.length) 8 (xs:=ns) λs hs=>(h s hs).2.1;have h3:(" ": Str).length=1:=dD
 rw[h3]at h1 ⊢;constructor<;>lia
theorem jX{ks:List (List Str)}(h1:∀n∈ns,zBg n)(O:ns.length<=20)(h2:sq ks)(l2:ks.length<=400):(gt ns ks).length<=9000/\((Txt.join " " ns::ks.map fA).map (·.length)).sum+(Txt.join " " ns::ks.map fA).length*("; ": Str).length<=9000:=by
 have a:=(zJe h1 O).1
 have b:=zFv (λs:Str=>s.length) 19 (xs:=ks.map fA) λs hs=>by
  obtain⟨k,S,rfl⟩:=qAG.mp hs;obtain⟨a,b,rfl,V,W⟩:=h2 k S;exact pq V W
 rw[qAB]at b
 have c:((Txt.join " " ns::ks.map fA).map (·.length)).sum+(Txt.join " " ns::ks.map fA).length*("; ": Str).length<=9000:=by
  rw[qAi,List.sum_cons,qAd,qAB,show("; ": Str).length=2 by decide];have b:(List.map (λs:Str=>s.length)$ ks.map fA).sum<=ks.length*19:=b;lia
 exact⟨qAR (zIr "; " _) c,c⟩
theorem sE{ks:List (List Str)}(h1:∀n∈ns,zBg n):gt ns ks=Str.empty->ns=[]:=λz=>by
 cases ns with
 |nil=>rfl
 |cons n r=>
  exfalso;have e:(gt (n::r) ks).length=0:=by rw[z];rfl
  unfold gt at e;rw[iA,fj]at e;have V:(Txt.join " "$ n::r).length=0:=lL
  have h:=(h1 n qAO).1
  have W:(Txt.join " "$ n::r).cps.toList=[]:=by
   have:(Txt.join " "$ n::r).cps.toList.length=0:=by simpa[Str.length]using V
   exact qBa.mp this
  have O:(Builtin.Str.glued " "$ n::r).cps.toList=[]:=W;rw[SM.glued_toList]at O
  have S:n.cps.toList≠[]:=λy=>by
   have:n.length=0:=by
    have:=qAf List.length y;simpa[Str.length]using this
   lia
  cases r with
  |nil=>exact S (by simpa[SM.glue]using O)
  |cons m r=>
   rw[qAi,qAi,SM.glue_cons]at O;exact S (List.append_eq_nil_iff.mp (List.append_eq_nil_iff.mp O).1).1
section
theorem zd{q:List Str×Addr}{b:Str}(e:q.1=[a,b]):fA q.1=a++ " < "++b:=by rw[e];rfl
inductive fZ(vs:List V)(H:Hp)(Q:VK)(u_3:XK):Prop
 |mk:∀(x sep:Str)(ns:List Str),vs=[.str x,.str sep]->Txt.split x sep=ns->1<=sep.length->x.length<=1000000->(∀n∈ns,zBg n)->(∀l H',Fre H l->Txs H' l ns->Kp [] H H'->Q (.ref l) H')->fZ vs H Q u_3
abbrev zEv:Stmt:=top 74
theorem zD6:c_ ["part","between","words","word"] ["part","between"] (zAe zEv):=fnS
theorem zLn(F:Fun K "read_names" "read_names" zEv f fd)(O:Cal P w K mg base "is_name" 1 ["thing"] gl):eC P w K mg base CX0 2 f fd ["part","between"] fZ:=by
 refine F.ok zD6 (λvs H Q E h=>?_) λab A aa s H vs Q E hr h=>?_
 .obtain ⟨x,sep,ns,rfl,_⟩:=h;rfl
 .obtain ⟨x,sep,ns,rfl,es,h1,hx,nm,k⟩:=h
  refine⟨_,(zAb (psS (i:=2) zD6.nd$ zCj qBE qCv qCw zG2 (pv 0)$ zAa (pv 1) zAc) (zAb (zA4 qAZ rF (zAl$ pv 2) (pgN (i:=3) zD6.nd)
    (zAd (zA1 (zBy$ zBv$ zAf O hr rF$ zAa (pv 3) zAc)
     (zAd zAq)
     zAi)))$ zAd$ zAk$ pv 2)),?_⟩
  refine im ?_;intro _ _ _;refine⟨_,rF,rF,_,rF,_,_,rF,rF,h1,hx,λl hl=>?_⟩;rw[es];have k1:Kp [] H (upd H l$ .lst$ ns.map V.str):=Kp.new Kp.refl hl;have h2:upd H l (.lst$ ns.map V.str) l=some (.lst$ ns.map V.str):=ac;generalize upd H l (.lst$ ns.map V.str)=H1 at k1 h2;refine⟨_,rF,_,rF,⟨_,SqL.of h2⟩,zA0 (λi σ S=>(∃o3:Option V,σ=[some (.str x),some (.str sep),some (.ref l),o3])/\Kp [] H1 S) ⟨⟨_,rF⟩,Kp.refl⟩ (λi σ S _ ⟨_,e⟩=>SqL.of$ e _ _ h2 sS) ?_ ?_⟩
  .rintro i v σ S hv ⟨⟨o3,rfl⟩,W⟩;obtain⟨n,en,rfl⟩:=zBh hv;have hn:=nm n$ qAN en;refine⟨_,rF,n,rF,by have:=hn.2.1;lia,λH5 k5=>⟨_,rF,?_⟩⟩;rw[(jd n).mpr hn];exact eG ⟨⟨_,rF⟩,W.trans k5⟩
  .rintro σ S ⟨⟨o3,rfl⟩,W⟩;exact⟨_,rF,k l S hl (W _ _ h2 sS)$ k1.trans W⟩
inductive gW(vs:List V)(H:Hp)(Q:VK)(u_3:XK):Prop
 |mk:∀(a b:Str),vs=[.str (fA [a,b])]->zBg a->zBg b->(∀t H',Fre H t->H' t=some (.tup [.str a,.str b])->Kp [] H H'->Q (.ref t) H')->gW vs H Q u_3
abbrev zEu:Stmt:=top 75
theorem zGn:c_ ["part","words"] ["part"] (zAe zEu):=fnS
theorem zLm(F:Fun K "read_order" "read_order" zEu f fd)(T:Txt K mg)(S:Cal P w K mg base "read_names" 2 ["part","between"] fZ):eC P w K mg base CX0 3 f fd ["part"] gW:=by
 refine F.ok zGn (λvs H Q E h=>?_) λaa A O s H vs Q E hr h=>?_
 .obtain ⟨a,b,rfl,_⟩:=h;rfl
 .obtain ⟨a,b,rfl,V,W,k⟩:=h
  refine⟨_,(zAb (psS (i:=1) zGn.nd$ zAf S hr rF$ zAa (pv 0)$ zAa zAm zAc) (zAb (zA1 (zAj zGx (zAn zAy rR T.z_len zCc$ zAa (pv 1) zAc) zAg$ zAo _)
    (zAd zAq)
    zAi)$ zAd$ zAk$ zCl$ zAa (zA9 zAt (pv 1) zAg λ_ _=>rfl)$ zAa (zA9 zAt (pv 1) zAg λ_ _=>rfl) zAc)),?_⟩
  refine im ?_;intro _ _ _;refine⟨_,rF,_,_,[a,b],rF,qC V W,dD,by have:=pq V W;lia,λn hn=>?_,λl H1 fl hl k1=>?_⟩
  .rcases qAQ.mp hn with rfl|hn
   .exact V
   .rw [qAH.mp hn];exact W
  refine⟨_,rF,l,_,rF,.inl$ SqL.of hl,rF,_,rF,eG ?_⟩;refine⟨_,rF,_,_,_,_,rF,rF,SqL.of hl,rF,_,rF,_,_,_,_,rF,rF,SqL.of hl,rF,(by walk_at"ln"),λt ht=>?_⟩;exact k t _ (k1.fre ht sS) ac$ Kp.new k1$ k1.fre ht sS
end
theorem gn.keys{qs zs:List (List Str×Addr)}{r:Str->Nat}(G:gn ns qs r)(V:∀k,k∈zs.map (·.1)↔k∈qs.map (·.1))(W:zs.length<=63):gn ns zs r:=by
 have bk:∀q∈zs,∃O∈qs,O.1=q.1:=λq S=>qAG.mp$ (V q.1).mp$ qAG.mpr ⟨q,S,rF⟩;refine⟨G.nm,G.nd,G.few,W,λq S x hx=>?_,λq S=>?_⟩
 .obtain ⟨O,h1,h2⟩:=bk q S;exact G.qin O h1 x (by rw[h2];exact hx)
 .obtain ⟨O,h1,h2⟩:=bk q S;obtain⟨e1,e2⟩:=hX h2;rw[<-e1,<-e2];exact G.rk O h1
theorem gn.twos{qs:List (List Str×Addr)}{r:Str->Nat}(G:gn ns qs r)(h:∀q∈qs,∃a b,q.1=[a,b]):sq (qs.map (·.1)):=λk S=>by
 obtain⟨q,O,rfl⟩:=qAG.mp S;obtain⟨a,b,e⟩:=h q O;exact⟨a,b,e,G.nm a (G.qin q O a$ by rw[e];simp),G.nm b$ G.qin q O b$ by rw[e];simp⟩
section
inductive j5(C:Addr)(vs:List V)(H:Hp)(Q:VK)(u_3:XK):Prop
 |mk:∀(ns:List Str) (qs:List (List Str×Addr)) (r:Str->Nat),vs=[.str (gt ns$ qs.map (·.1))]->gn ns qs r->(∀q∈qs,∃a b,q.1=[a,b])->(∀x J H',eI C H' x J->J.ns=ns->(∀k,k∈J.zs.map (·.1)↔k∈qs.map (·.1))->Kp [] H H'->Q (.ref x) H')->j5 C vs H Q u_3
abbrev zD9:Stmt:=top 73
theorem zDj:c_ ["text","parts","names","orders"] ["text"] (zAe zD9):=fnS
theorem jK(F:Fun K "read_jobs" "read_jobs" zD9 f fd)(T:Txt K mg)(S:Cal P w K mg base "read_names" 2 ["part","between"] fZ)(O:Cal P w K mg base "read_order" 3 ["part"] gW)(W:Mkr P w K mg base C "Jobs" 4 ["self","names","orders"] (gY C)):eC P w K mg base CX0 6 f fd ["text"] (j5 C):=by
 refine F.ok zDj (λvs H Q E h=>?_) λal A af s H vs Q E hr h=>?_
 .obtain ⟨ns,qs,r,rfl,_⟩:=h;rfl
 .obtain ⟨ns,qs,r,rfl,G,two,k⟩:=h;have ag:=hr.mono (j:=2) dD;have ah:=hr.mono (j:=3) dD
  refine⟨_,(zAb (zA1 (zBy$ zBv$ zAn zB2 rR T.z_isinstance zA3$ zAa (pv 0)$ zAa (zCx rR T.z_str zDg (v:=.ty "str") rF) zAc) (zAd zAq) zAi) (zAb (zA1 (zAj zCo (pv 0) zAm$ zAo _)
    (zAd$ zAk$ zLd W hr rF$ zAa (zAw zAc)$ zAa (zAw zAc) zAc)
    zAi)
   (zAb (psS (i:=1) zDj.nd$ zCj qBE qCv qCw zG2 (pv 0)$ zAa zAm zAc)
   (zAb (psS (i:=2) zDj.nd$ zAf S ag rF$ zAa (zA9 zAt (pv 1) zAg fun _ _=>rfl)$ zAa zAm zAc)
   (zAb (zI9 (i:=3) rF (zBe (sc:=zAe zD9) rF kK) (d_.own (x:= "part") d_.nil) (zAl$ zIl jv (pv 1) (zHn zAg) zLc) (fun _ _ _ _=>(pgB (i:=0))) (fun _ _ _ _=>zBq) (fun _ _ _ _=>(zAf O ah rF$ zAa (pv 0) zAc)) zDj.nd rF rF)$ zAd$ zAk$ zLd W hr rF$ zAa (pv 2)$ zAa (pv 3) zAc))))),?_⟩
  refine yS ?_;intro _ _ _ _ _ _;have tw:=G.twos two;have tl:=jX G.nm G.few tw (by rw[qAB];have:=G.qfew;lia)
  have ab:ns=[]->qs=[]:=λz=>by
   cases qs with
   |nil=>rfl
   |cons q _=>
    obtain⟨a,b,e⟩:=two q qAO;have:=G.qin q qAO a (by rw[e];simp);rw[z]at this;cases this
  refine⟨_,rF,_,_,_,_,rF,fL.str _,zC2,_,rF,eG ?_⟩;refine⟨_,rF,rF,_,rF,eU (λc=>?_) λc=>?_⟩
  .have e:gt ns (qs.map (·.1))=Str.empty:=V.str.inj$ qAn c;have n0:=sE G.nm e;have q0:=ab n0;subst n0;subst q0;refine⟨(by walk_at"ln"),λl1 g1=>⟨(by walk_at"ln"),λl2 g2=>λx dx hx aa ne=>?_⟩⟩;have k1:Kp [] H (upd H l1$ .lst []):=Kp.new Kp.refl g1;have h1:upd H l1 (.lst []) l1=some (.lst []):=ac;generalize upd H l1 (.lst [])=H1 at *
   have k2:Kp [] H1 (upd H1 l2$ .lst []):=Kp.new Kp.refl g2;have h2:upd H1 l2 (.lst []) l2=some (.lst []):=ac;generalize upd H1 l2 (.lst [])=H2 at *
   have k3:Kp [] H2 (upd (upd H2 dx$ .own x) x$ .ins C dx []):=Kp.new (Kp.new Kp.refl aa) hx;have fx:Fre H x:=(k1.trans k2).fre hx sS;refine⟨x,dx,l1,l2,[],[],r,rF,ac,(k2.trans k3) _ _ h1 sS,⟨k3 _ _ h2 sS,(λq h=>nomatch h),(λq h=>nomatch h)⟩,G,λJ H9 A9 _ en hz K9=>⟨rF,k x J H9 A9 en hz λb o hb _=>K9 b o ((k1.trans$ k2.trans k3) b o hb sS)$ nm1$ zAp hb fx⟩⟩
  have n0:ns≠[]:=λz=>by
   subst z;have q0:=ab rF;subst q0;exact c$ qAJ rF
  refine⟨_,rF,rF,_,_,rF,rF,dD,lL,λl1 g1=>?_⟩;rw[qH G.nm tw];have k1:Kp [] H (upd H l1$ .lst$ (Txt.join " " ns::(qs.map (·.1)).map fA).map V.str):=Kp.new Kp.refl g1;have h1:upd H l1 (.lst$ (Txt.join " " ns::(qs.map (·.1)).map fA).map V.str) l1=some (.lst$ (Txt.join " " ns::(qs.map (·.1)).map fA).map V.str):=ac;generalize upd H l1 (.lst$ (Txt.join " " ns::(qs.map (·.1)).map fA).map V.str)=H1 at k1 h1;refine⟨_,rF,_,_,_,_,rF,rF,SqL.of h1,zAx dD rF,_,_,ns,rF,zI0 n0 G.nm,dD,by have:=(zJe G.nm G.few).1;lia,G.nm,λl2 H2 g2 h2 k2=>?_⟩;refine⟨_,rF,_,rF,_,_,rF,SqL.of$ k2 _ _ h1 sS,λl3 g3=>?_⟩;rw[sL _ dD];have k3:Kp [] H2 (upd H2 l3$ .lst$ (qs.map λq=>fA q.1).map V.str):=Kp.new Kp.refl g3;have h3:upd H2 l3 (.lst$ (qs.map λq=>fA q.1).map V.str) l3=some (.lst$ (qs.map λq=>fA q.1).map V.str):=ac
  have ed:List.drop (1:Int).toNat ((Txt.join " " ns::(qs.map (·.1)).map fA).map V.str)=(qs.map λq=>fA q.1).map V.str:=by
   show((qs.map (·.1)).map fA).map V.str=_;rw[qAb (l:=qs)];rfl
  rw[ed];generalize upd H2 l3 (.lst$ (qs.map λq=>fA q.1).map V.str)=H3 at k3 h3
  refine⟨_,rF,⟨_,SqL.of h3⟩,λD hD=>zA8 ((qs.map λq=>fA q.1).map V.str) (λi ys τ H4=>∃ks:List (List Str×Addr),(∃o0,τ=[o0])/\ys=(ks.map λq=>V.ref q.2)/\ks.map (·.1)=(qs.take i).map (·.1)/\(∀q∈ks,H4 q.2=some (.tup$ q.1.map V.str))/\Kp [] H3 H4/\H4 D=some (.lst ys)) ⟨[],⟨_,rF⟩,rF,rF,(λq h=>nomatch h),Kp.new Kp.refl hD,ac⟩ (λi ys τ H4 ⟨_,_,_,_,_,k4,_⟩=>SqL.of$ k4 _ _ h3 sS) ?_ ?_⟩
  .rintro i v ys τ H4 hv ⟨ks,⟨o0,rfl⟩,rfl,ek,hk,k4,h4⟩;obtain⟨n,en,rfl⟩:=zBh hv
   obtain⟨q,eq,rfl⟩:∃q,qs[i]?=some q/\fA q.1=n:=by
    rw[qAU]at en
    cases e:qs[i]? with
    |none=>rw[e]at en;cases en
    |some q=>rw[e]at en;exact⟨q,rF,by simpa using en⟩
   have mq:=qAN eq;obtain⟨a,b,ad,ha,hb⟩:=tw q.1$ qAG.mpr ⟨q,mq,rF⟩;have ae:ks.length=(qs.take i).length:=by have:=qAf List.length ek;simpa using this
   refine⟨_,rF,a,b,by rw[<-ad];rfl,ha,hb,λt H5 ft ht k5=>?_⟩;have h5:=k5 _ _ h4 sS;have ai:D≠t:=b_ ft h4;have nt:∀b o,H4 b=some o->b≠t:=λb o h=>b_ ft h;refine⟨h5,?_,ks++[([a,b],t)],⟨_,rF⟩,?_,?_,λq' aj=>?_,?_,ac⟩
   .rw [qAB,ae,qAX,qAM];have:=G.qfew;lia
   .rw [qAI];rfl
   .rw [qAI,ek,zAh eq,qAI];show _++[[a,b]]=_++[q.1];rw[ad]
   .rcases qAK.mp aj with z|z
    .exact (a_$ zAu (k5 _ _ (hk q' z) sS) h5 λy=>nomatch y).trans$ k5 _ _ (hk q' z) sS
    .rw [qAH.mp z];exact(a_ ai.symm).trans ht
   .exact λb o hb nm=>(a_$ zAp hb hD).trans$ (k4.trans k5) b o hb nm
  .rintro ys τ H4 ⟨ks,⟨o0,rfl⟩,rfl,ek,hk,k4,h4⟩;rw[qAB,qAB,qAY]at ek;have lk:ks.length<=63:=by have:=qAf List.length ek;have:=G.qfew;simp at *;lia
   have hz:∀k,k∈ks.map (·.1)↔k∈qs.map (·.1):=λk=>by rw[ek]
   refine⟨_,rF,_,rF,λx dx hx aa ne=>?_⟩;have k5:Kp [] H4 (upd (upd H4 dx$ .own x) x$ .ins C dx []):=Kp.new (Kp.new Kp.refl aa) hx;have kk:Kp [] H H4:=k1.trans$ k2.trans$ k3.trans k4;have fx:Fre H x:=kk.fre hx sS;refine⟨x,dx,l2,D,ns,ks,r,rF,ac,(k3.trans$ k4.trans k5) _ _ h2 sS,⟨k5 _ _ h4 sS,λq hq=>k5 _ _ (hk q hq) sS,λq hq=>?_⟩,G.keys hz lk,λJ H9 A9 _ en ak K9=>⟨rF,k x J H9 A9 en (λz=>by rw[ak z,hz z]) λb o hb _=>K9 b o ((kk.trans k5) b o hb sS)$ nm1$ zAp hb fx⟩⟩;obtain⟨q',h6,h7⟩:=qAG.mp$ (hz q.1).mp$ qAG.mpr ⟨q,hq,rF⟩;obtain⟨a,b,e⟩:=two q' h6;exact⟨a,b,by rw[<-h7];exact e⟩
end
def zDt(rs:List (List Str)):Prop:=rs.length<=40/\∀r∈rs,r.length<=7/\∀s∈r,zBg s
def zBi:List Str->Str
 |[]=> "-"
 |x::r=>Txt.join " " (x::r)
def zF8(rs:List (List Str)):Str:=Txt.join " / "$ rs.map zBi
theorem zGk(h:r.length<=7)(hs:∀s∈r,zBg s):(zBi r).length<=70:=by
 cases r with
 |nil=>decide
 |cons x r=>
  have h1:=zIr " "$ x::r;have h2:=zFv (λs:Str=>s.length) 8 (xs:=x::r) λs O=>(hs s O).2.1;have h3:(" ": Str).length=1:=dD
  rw[h3]at h1;show(Txt.join " "$ x::r).length<=70;lia
theorem zIk{rs:List (List Str)}(h:zDt rs):(zF8 rs).length<=3500:=by
 have h1:=zIr " / "$ rs.map zBi
 have h2:=zFv (λs:Str=>s.length) 70 (xs:=rs.map zBi) λs S=>by
  obtain⟨r,O,rfl⟩:=qAG.mp S;exact zGk (h.2 r O).1 (h.2 r O).2
 have h3:(" / ": Str).length=3:=dD
 rw[h3]at h1;have:=h.1;rw[qAB]at h1 h2;show(Txt.join " / "$ rs.map zBi).length<=3500;lia
theorem wJ:SM.Own (" / ": Str).cps.toList 47 1:=⟨kK,λj h=>by
 have e:(" / ": Str).cps.toList=[32,47,32]:=kK
 rw[e]at h
 match j,h with
 |0,h=>simp at h
 |1,_=>rfl
 |2,h=>simp at h
 |n+3,h=>simp at h⟩
theorem uZ:Builtin.Str.strKind (" / ": Str)=1:=by decide +kernel
theorem uP(h:∀s∈r,zBg s):47∉(zBi r).cps.toList:=by
 cases r with
 |nil=>decide +kernel
 |cons x r=>exact lz kK (x::r) λs hs=>(h s hs).no dD
theorem zKd{rs:List (List Str)}(h0:rs≠[])(h:∀r∈rs,∀s∈r,zBg s):Txt.split (zF8 rs) " / "=rs.map zBi :=
 SM.split_glued wJ (by simpa using h0) (λp O=>by
  obtain⟨r,S,rfl⟩:=qAG.mp O;exact uP$ h r S) uZ
theorem zKc{x:Str}(h:∀s∈x::r,zBg s):Txt.split (zBi$ x::r) " "=x::r:=zI0 sS h
theorem zBg.pos{s:Str}(h:zBg s):∃c t,s.cps.toList=c::t/\97<=c:=by
 have h1:=h.1
 cases e:s.cps.toList with
 |nil=>
  have:s.length=0:=by
   have:=qAf List.length e;simpa[Str.length]using this
  lia
 |cons c t=>exact⟨c,t,rF,(h.2.2 c$ by rw[e];exact qAO).1⟩
theorem je(S:List Nat)(p:List Nat)(r:List (List Nat)){t:List Nat}(e:p=c::t):∃t',SM.glue S (p::r)=c::t':=by
 subst e
 cases r with
 |nil=>exact⟨t,rF⟩
 |cons q r=>exact⟨_,rF⟩
theorem iX{x:Str}(h:∀s∈x::r,zBg s):∃c t,(zBi$ x::r).cps.toList=c::t/\97<=c:=by
 obtain⟨c,t,e,O⟩:=(h x qAO).pos;obtain⟨t',e'⟩:=je (" ": Str).cps.toList x.cps.toList (r.map λp=>p.cps.toList) e;refine⟨c,t',?_,O⟩;show(Builtin.Str.glued " "$ x::r).cps.toList=_;rw[SM.glued_toList];exact e'
theorem oF{x:Str}(h:∀s∈x::r,zBg s):zBi (x::r)≠ "-":= λz=>by
 obtain⟨c,t,e,S⟩:=iX h;rw[z]at e;have O:("-": Str).cps.toList=[45]:=kK
 rw[O]at e;injection e with e _;lia
theorem pH{rs:List (List Str)}(h:∀q∈r::rs,∀s∈q,zBg s):zF8 (r::rs)≠ "":= λz=>by
 have:∃c t,(zBi r).cps.toList=c::t:=by
  cases r with
  |nil=>exact⟨45,[],kK⟩
  |cons x r=>
   obtain⟨c,t,e,_⟩:=iX$ h (x::r) qAO;exact⟨c,t,e⟩
 obtain⟨c,t,e⟩:=this;obtain⟨t',e'⟩:=je (" / ": Str).cps.toList (zBi r).cps.toList ((rs.map zBi).map λp=>p.cps.toList) e
 have O:(zF8$ r::rs).cps.toList=c::t':=by
  show(Builtin.Str.glued " / "$ (r::rs).map zBi).cps.toList=_;rw[SM.glued_toList];exact e'
 rw[z]at O;have S:("": Str).cps.toList=[]:=kK
 rw[S]at O
 cases O
structure PlA(H:Hp)(l:Addr)(ps:List (Addr×List Str)):Prop where
 top:H l=some (.lst$ ps.map λp=>V.ref p.1)
 row:∀p∈ps,H p.1=some (.lst$ p.2.map V.str)
theorem PlA.kp0{l:Addr}{ps:List (Addr×List Str)}(R:PlA H l ps)(k:Kp [] H H'):PlA H' l ps:=⟨k _ _ R.top sS,λp O=>k _ _ (R.row p O) sS⟩
theorem Rws.pla{H0:Hp}{l:Addr}{ps:List (Addr×List Str)}(R:Rws H0 H l ps):PlA H l ps:=⟨R.top,R.row⟩
section
inductive gi(vs:List V)(H:Hp)(Q:VK)(u_3:XK):Prop
 |mk:∀(a:Addr)(r:List Str),vs=[.ref a]->H a=some (.lst$ r.map V.str)->r.length<=7->(∀s∈r,zBg s)->Q (.str$ zBi r) H->gi vs H Q u_3
abbrev zF3:Stmt:=top 83
theorem kx:c_ ["row"] ["row"] (zAe zF3):=fnS
theorem kg(F:Fun K "turn_text" "turn_text" zF3 f fd)(T:Txt K mg):eC P w K mg base CX0 1 f fd ["row"] gi:=by
 refine F.ok kx (λvs H Q E h=>?_) λV A O s H vs Q E hr h=>?_
 .obtain ⟨a,r,rfl,_⟩:=h;rfl
 .obtain ⟨a,r,rfl,S,hl,W,k⟩:=h;obtain⟨tE,hE⟩:=T.c_EMPTY_TURN
  refine⟨_,(zAb (zA1 (zBy$ zIj (pv 0) λ_=>rfl) (zAd$ zAk$ zDb rF hE (v:=.str "-") ⟨_,rF⟩) zAi)$ zAd$ zAk$ zCj qBE qB4 qB5 zGc zAm$ zAa (pv 0) zAc),?_⟩
  refine⟨_,rF,_,.inl ⟨_,SqL.of S,rF⟩,?_⟩
  cases r with
  |nil=>exact fE k
  |cons x r=>
   refine eG ?_;refine⟨rF,_,rF,_,_,x::r,rF,rF,SqL.of S,?_,k⟩;have h2:=zFv (λs:Str=>s.length) 8 (xs:=x::r) λs hx=>(W s hx).2.1;have h3:(" ": Str).length=1:=dD
   rw[h3];lia
inductive gm(vs:List V)(H:Hp)(Q:VK)(u_3:XK):Prop
 |mk:∀(l:Addr) (ps:List (Addr×List Str)),vs=[.ref l]->PlA H l ps->zDt (ps.map (·.2))->(∀H',Kp [] H H'->Q (.str$ zF8$ ps.map (·.2)) H')->gm vs H Q u_3
abbrev zEa:Stmt:=top 82
theorem jn:c_ ["plan"] ["plan"] (zAe zEa):=fnS
theorem j7(F:Fun K "plan_text" "plan_text" zEa f fd)(T:Txt K mg)(O:Cal P w K mg base "turn_text" 1 ["row"] gi):eC P w K mg base CX0 2 f fd ["plan"] gm:=by
 refine F.ok jn (λvs H Q E h=>?_) λab A aa s H vs Q E W h=>?_
 .obtain ⟨l,ps,rfl,_⟩:=h;rfl
 .obtain ⟨l,ps,rfl,R,ok,k⟩:=h;obtain⟨tB,hB⟩:=T.c_BETWEEN_TURNS;refine⟨_,(zAd$ zAk$ zCj qBE qB4 qB5 zGc (zDb rF hB (v:=.str " / ") ⟨_,rF⟩)$ zAa (zA6 rF (zBe (sc:=zAe zEa) rF kK) (d_.own (x:="row") d_.nil) (zAl$ pv 0) (λ_ _ _ _=>(pgB (i:=0))) (λ_ _ _ _=>zBq) λ_ _ _ _=>(zAf O W rF$ zAa (pv 0) zAc)) zAc),?_⟩;refine⟨rF,_,rF,_,rF,⟨_,SqL.of R.top⟩,λD hD=>zA8 (ps.map λp=>V.ref p.1) (λi ys τ H'=>(∃o0,τ=[o0])/\ys=(((ps.take i).map (·.2)).map zBi).map V.str/\H'=upd H D (.lst ys)) ⟨⟨_,rF⟩,rF,rF⟩ ?_ ?_ ?_⟩
  .rintro i ys τ H' ⟨_,rfl,rfl⟩;exact SqL.of (by rw[a_$ zAp R.top hD];exact R.top)
  .rintro i x ys τ H' hx ⟨⟨o0,rfl⟩,rfl,rfl⟩;obtain⟨q,eq,rfl⟩:=iV hx;have mq:=qAN eq;have S:=ok.2 q.2$ qAG.mpr ⟨q,mq,rF⟩;refine⟨_,rF,q.1,q.2,rF,by rw[a_$ zAp (R.row q mq) hD];exact R.row q mq,S.1,S.2,ac,?_,⟨_,rF⟩,?_,zBm⟩
   .have:=ok.1;rw[qAB]at this;rw[qAB,qAB,qAB,qAX,qAM];lia
   .rw [zAh eq];simp
  .rintro ys τ H' ⟨_,rfl,rfl⟩;rw[qAB,qAY];refine⟨_,_,(ps.map λp:Addr×List Str=>p.2).map zBi,rF,rF,SqL.of ac,?_,k _$ Kp.new Kp.refl hD⟩
   have h2:=zFv (λs:Str=>s.length) 70 (xs:=(ps.map λp:Addr×List Str=>p.2).map zBi) λs hx=>by
    obtain⟨r,W,rfl⟩:=qAG.mp hx;exact zGk (ok.2 r W).1 (ok.2 r W).2
   have h3:(" / ": Str).length=3:=dD
   rw[h3];rw[qAB]at h2 ⊢;have:=ok.1;lia
inductive gh(vs:List V)(H:Hp)(Q:VK)(u_3:XK):Prop
 |mk:∀(r:List Str),vs=[.str (zBi r)]->r.length<=7->(∀s∈r,zBg s)->(∀(a:Addr)(H':Hp),Fre H a->H' a=some (.lst$ r.map V.str)->Kp [] H H'->Q (.ref a) H')->gh vs H Q u_3
abbrev zF5:Stmt:=top 85
theorem ka:c_ ["part"] ["part"] (zAe zF5):=fnS
theorem jF(F:Fun K "read_turn" "read_turn" zF5 f fd)(T:Txt K mg)(S:Cal P w K mg base "read_names" 2 ["part","between"] fZ):eC P w K mg base CX0 3 f fd ["part"] gh:=by
 refine F.ok ka (λvs H Q E h=>?_) λaa A W s H vs Q E hr h=>?_
 .obtain ⟨r,rfl,_⟩:=h;rfl
 .obtain ⟨r,rfl,O,V,k⟩:=h;obtain⟨tE,hE⟩:=T.c_EMPTY_TURN
  refine⟨_,(zAb (zA1 (zAj zCo (pv 0) (zDb rF hE (v:=.str "-") ⟨_,rF⟩)$ zAo _) (zAd$ zAk$ zAw zAc) zAi)$ zAd$ zAk$ zAf S hr rF$ zAa (pv 0)$ zAa zAm zAc),?_⟩
  refine⟨_,rF,rF,_,rF,?_⟩
  cases r with
  |nil=>
   refine eU (λc=>?_) λc=>absurd (qAJ rF) c;refine⟨(by walk_at"ln"),λl O=>?_⟩;exact k l _ O ac$ Kp.new Kp.refl O
  |cons x r=>
   refine eU (λc=>?_) λc=>?_
   .have:=qAn c;injection this with this;exact absurd this$ oF V
   .have tl:=zGk O V;exact⟨_,rF,_,_,x::r,rF,zKc V,dD,lL,V,k⟩
inductive gf(vs:List V)(H:Hp)(Q:VK)(u_3:XK):Prop
 |mk:∀(rs:List (List Str)),vs=[.str (zF8 rs)]->zDt rs->(∀(l:Addr) (ps:List (Addr×List Str)) (H':Hp),PlA H' l ps->ps.map (·.2)=rs->Kp [] H H'->Q (.ref l) H')->gf vs H Q u_3
abbrev zD8:Stmt:=top 84
theorem jg:c_ ["text"] ["text"] (zAe zD8):=fnS
theorem jk(F:Fun K "read_plan" "read_plan" zD8 f fd)(T:Txt K mg)(O:Cal P w K mg base "read_turn" 3 ["part"] gh):eC P w K mg base CX0 4 f fd ["text"] gf:=by
 refine F.ok jg (λvs H Q E h=>?_) λag A af s H vs Q E hr h=>?_
 .obtain ⟨r,rfl,_⟩:=h;rfl
 .obtain ⟨rs,rfl,ok,k⟩:=h;obtain⟨tB,hB⟩:=T.c_BETWEEN_TURNS
  refine⟨_,(zAb (zA1 (zBy$ zBv$ zAn zB2 rR T.z_isinstance zA3$ zAa (pv 0)$ zAa (zCx rR T.z_str zDg (v:=.ty "str") rF) zAc) (zAd zAq) zAi) (zAb (zA1 (zAj zCo (pv 0) zAm$ zAo _)
    (zAd$ zAk$ zAw zAc)
    zAi)$ zAd$ zAk$ zA6 rF (zBe (sc:=zAe zD8) rF kK) (d_.own (x:="part") d_.nil) (zAl$ zCj qBE qCv qCw zG2 (pv 0)$ zAa (zDb rF hB (v:=.str " / ") ⟨_,rF⟩) zAc) (λ_ _ _ _=>(pgB (i:=0))) (λ_ _ _ _=>zBq) λ_ _ _ _=>(zAf O hr rF$ zAa (pv 0) zAc))),?_⟩
  have ah:=zIk ok;refine⟨_,rF,_,_,_,_,rF,fL.str _,zC2,_,rF,eG ?_⟩;refine⟨_,rF,rF,_,rF,?_⟩
  cases rs with
  |nil=>
   refine eU (λc=>?_) λc=>absurd (qAJ rF) c;refine⟨(by walk_at"ln"),λl hl=>?_⟩;exact k l [] _ ⟨ac,λ_ z=>nomatch z⟩ rF$ Kp.new Kp.refl hl
  |cons W rs=>
   have aa:∀r∈W::rs,∀s∈r,zBg s:=λr hr=>(ok.2 r hr).2;refine eU (λc=>?_) λc=>?_
   .have:=qAn c;injection this with this;exact absurd this$ pH aa
   .refine ⟨_,rF,rF,_,_,rF,rF,dD,lL,λp hp=>?_⟩;rw[zKd sS aa];have fp:Fre H p:=hp;refine⟨_,rF,⟨_,SqL.of ac⟩,λD hD=>?_⟩;have fD:Fre (upd H p$ .lst$ ((W::rs).map zBi).map V.str) D:=hD;have ab:p≠D:=b_ fD ac;refine zA8 (((W::rs).map zBi).map V.str) (λi ys τ H'=>(∃o0,τ=[o0])/\∃ps:List (Addr×List Str),ys=(ps.map λp=>V.ref p.1)/\ps.map (·.2)=(W::rs).take i/\PlA H' D ps/\(∀q∈ps,q.1≠D)/\H' p=some (.lst$ ((W::rs).map zBi).map V.str)/\Kp [] H H') ?_ ?_ ?_ ?_
    .have S:Fre H D:=Kp.fre (M:=[]) (Kp.new Kp.refl fp) fD sS;exact⟨⟨_,rF⟩,[],rF,rF,⟨ac,λ_ z=>nomatch z⟩,(λ_ z=>nomatch z),by rw[a_ ab];exact ac,Kp.new (Kp.new Kp.refl fp) S⟩
    .rintro i ys τ H' ⟨_,ps,rfl,_,R,_,h1,K1⟩;exact SqL.of h1
    .rintro i x ys τ H' hx ⟨⟨o0,rfl⟩,ps,rfl,ep,R,nD,h1,K1⟩;rw[qAb,qAU]at hx;obtain⟨r,e,rfl⟩:=qAw.mp hx;have ad:=ok.2 r$ qAN e;refine⟨_,rF,r,rF,ad.1,ad.2,λa ai fa ha K2=>?_⟩;have R2:=R.kp0 K2;have ae:a≠D:=(b_ fa R.top).symm;have lp:=qAf List.length ep;rw[qAB,qAX]at lp;have h4:=ok.1;have S:Fre H D:=Kp.fre (M:=[]) (Kp.new Kp.refl fp) fD sS;refine⟨R2.top,?_,⟨_,rF⟩,ps++[(a,r)],sS,by rw[qAI,ep,zAh e];rfl,⟨by rw[ac];simp,λq hq=>?_⟩,?_,?_,?_⟩
     .rw [qAB,qAM];lia
     .rcases qAK.mp hq with z|z
      .rw [a_$ nD q z];exact R2.row q z
      .rw [qAH.mp z];rw[a_ ae];exact ha
     .exact λq hq=>(qAK.mp hq).elim (nD q) λz=>qAH.mp z▸ae
     .rw [a_ ab];exact K2 p _ h1 sS
     .exact Kp.new (K1.trans K2) S
    .rintro ys τ H' ⟨_,ps,rfl,ep,R,_,h1,K1⟩;rw[qAB,qAB,qAY]at ep;exact k D ps H' R ep K1
end
end My
namespace L2
open PySem PySem.Spec PyProof.Rows PySem.W
end L2
namespace L2
open PySem PySem.Spec PyProof.Rows PySem.W PySem.Builtin PySem.Builtin.ObjectAttr
end L2
namespace L2
open PySem PySem.Spec PyProof.Rows
section
variable{P:Program}{w:World}{K:PySem.W.Frag}{mg:Str->Option Value}{base:Heap}
structure p5(K:PySem.W.Frag)(x qual:Str)(st:Stmt)(f:Addr)(fd:FuncData)(T:Addr)(its:Array Value):Prop where
 ex:∃(oc:Value)(od:Option Addr)(kV doc pm:Value)(an:Option Addr)(cdv ct:Value) (osl:Array (Option Value)),
  fd=PySem.W.fnOf x qual (zCq st) (zB9 st) (zAe st) (.ref T) kV doc pm an cdv ct/\K.lookup f=some ⟨oc,od,.func fd,osl⟩/\PySem.W.codeIn K cdv qual=true
 tp:∃(o:Obj)(n:Nat),K.lookup T=some o/\o.data= .seq its n
 kp:PySem.W.keepIn K (.ref f)=true
theorem p5.ok{x qual:Str}{st:Stmt}{f:Addr}{fd:FuncData}{T:Addr}{its:Array Value}{N ps:List Str}{k:Nat}{sp:Sp}(F:p5 K x qual st f fd T its)(S:c_ N ps (zAe st))(len:∀vs H Q E,sp vs H Q E->vs.length=ps.length)
  (aa:∀(W:Value) (A:Around) (O:List Env) (s:Shared) (H:Hp) (vs:List V) (Q:VK) (E:XK),eR k (A.deeper$ envOfC qual (zAe st) s.heap.objs.size f W)->sp vs H Q E ->
   ∃t,PSs (n_ CX0 P w K mg base N qual (zAe st) f W A O s H E).nox (zB9 st) t/\t {nx:=λ_ H'=>Q .non H',rt:=Q} (start N vs) H):eC P w K mg base CX0 (k+1) f fd ps sp:=by
 obtain⟨oc,od,kV,ae,pm,an,W,ct,af,rfl,lk,ab⟩:=F.ex;refine wa lk ab S len λA O s H vs Q E hr ad=>?_;obtain⟨t,h,q⟩:=aa W A O s H vs Q E hr ad;exact⟨t,h.nox,q⟩
theorem p5.binds{x qual:Str}{st:Stmt}{f:Addr}{fd:FuncData}{T:Addr}{its:Array Value}{ps:List Str}{ds:List Value}(F:p5 K x qual st f fd T its)
  (h:∀(kV O S:Value)(W:Option Addr)(V ct:Value)(us:List Value),(us++ds).length=ps.length->∃k:Option (Array Value)->Sem (List$ Str×Value),bindArgs (PySem.W.fnOf x qual (zCq st) (zB9 st) (zAe st) (.ref T) kV O S W V ct) ⟨us,[]⟩=(seqItems? (.ref T) >>= k)/\k (some its)=pure (ps.zip$ us++ds)):zDy K fd ps ds:=by
 obtain⟨oc,od,kV,O,S,W,V,ct,ab,rfl,lk,ad⟩:=F.ex;obtain⟨o,n,h1,h2⟩:=F.tp;intro s us aa hl;obtain⟨k,e1,e2⟩:=h kV O S W V ct us hl;exact BindsTo.of_defaults (T:=T) rF (aa _ _ h1) h2 e1 e2
structure xz(P:Program)(w:World)(K:PySem.W.Frag)(mg:Str->Option Value)(base:Heap)(x:Str)(k:Nat)(ps:List Str)(dvs:List V)(sp:Sp):Prop where
 to:∃(f:Addr)(fd:FuncData)(ds:List Value),mg x=some (.ref f)/\PySem.W.keepIn K (.ref f)=true/\zDy K fd ps ds/\eB dvs ds/\eC P w K mg base CX0 k f fd ps sp
end
theorem s_{X:Cx}{x:Str}{k:Nat}{ps:List Str}{dvs:List V}{sp:Sp}{e:Expr}{es:List Expr}{p pos:Pos}{t:TA}(C:xz X.prog X.w X.K X.mg X.base x k ps dvs sp)(W:eR k X.A)(hg:Gl X x)(ha:PA X (e::es) t)
  (O:(x==("__debug__": Str))=false:=by decide) (he:starEach (e::es) X.env=(false,eval e X.env)::starEach es X.env:=by rfl) (S:(backTo pos$ starEach es X.env).any (·.1)=false:=by rfl) :
  PE X (.Call (.Name x p) (e::es) [] pos) (rD sp dvs E0 t):=by
 obtain⟨f,fd,ds,h1,h2,h3,h5,h4⟩:=C.to;exact pR h4 W hg h1 h2 h3 h5 iq ha O he S
end L2
namespace My
open PySem L2
theorem zJr{α:Type}{p:α->Bool}{v:α}:∀{xs:List α}{i:Nat},xs[i]?=some v->p v=true->(∀u∈xs.take i,p u=false)->xs.find? p=some v
 |[],i,h,_,_=>by simp at h
 |x::xs,0,h,O,_=>by
  have e:x=v:=by simpa using h
  subst e;rw[qBi,O]
 |x::xs,i+1,h,O,S=>by
  rw[qBi,S x$ by rw[qB3];exact qAO];exact zJr (by simpa using h) O λu V=>S u (by rw[qB3];exact qAS _ V)
def zD4(D:List Str):List Str->List Str->Option Str
 |_,[]=>none
 |p,n::r=>if n∈D\/n∈p then some n else zD4 D (p++[n]) r
theorem kZ{D:List Str}{n:Str}:∀{r p:List Str}{i:Nat},r[i]?=some n->(n∈D\/n∈p++r.take i)->(∀j m,j<i->r[j]?=some m->¬(m∈D\/m∈p++r.take j))->zD4 D p r=some n
 |[],p,i,h,_,_=>by simp at h
 |x::r,p,0,h,O,_=>by
  have e:x=n:=by simpa using h
  subst e;have O:x∈D\/x∈p:=by simpa using O
  exact qAD O
 |x::r,p,i+1,h,O,S=>by
  have V:¬(x∈D\/x∈p):=by
   have:=S 0 x lL rF;simpa using this
  show(if x∈D\/x∈p then some x else zD4 D (p++[x]) r)=_;rw[qAC V];refine kZ (i:=i) (by simpa using h) (by simpa using O) λj m hj W=>?_;have:=S (j+1) m lL (by simpa using W);simpa using this
theorem zKw{D:List Str}:∀{r p:List Str},(∀j m,r[j]?=some m->¬(m∈D\/m∈p++r.take j))->zD4 D p r=none
 |[],_,_=>rfl
 |x::r,p,O=>by
  have S:¬(x∈D\/x∈p):=by
   have:=O 0 x rF;simpa using this
  show(if x∈D\/x∈p then some x else zD4 D (p++[x]) r)=_;rw[qAC S];refine zKw λj m V=>?_;have:=O (j+1) m (by simpa using V);simpa using this
theorem zJx{A D:List Str}(h:∀x,x∈A↔x∈D):∀(r p:List Str),zD4 A p r=zD4 D p r
 |[],_=>rfl
 |x::r,p=>by
  show(if x∈A\/x∈p then some x else zD4 A (p++[x]) r)=(if x∈D\/x∈p then some x else zD4 D (p++[x]) r);rw[zJx h r]
  by_cases c:x∈A\/x∈p
  .rw [qAD c,qAD$ by rw[<-h x];exact c]
  .rw [qAC c,qAC$ by rw[<-h x];exact c]
def tfS(J:JR)(b:Int)(D r:List Str):Option (Str×V) :=
 match r.find? λn=>!decide (n∈J.ns) with
 |some n=>some ("stranger",.str n)
 |none=>match zD4 D [] r with
  |some n=>some ("again",.str n)
  |none=>match r.find? λn=>not$ e_ J D n with
   |some n=>some ("early",.str n)
   |none=>if(r.length:Int)>b then some ("wide",.int r.length) else none
theorem qU{J:JR}{b:Int}{A D:List Str}(h:∀x,x∈A↔x∈D)(r:List Str):tfS J b A r=tfS J b D r:=by
 unfold tfS;rw[zJx h r [],show(λn=>not$ e_ J A n)=λn=>not$ e_ J D n from funext λn=>by rw[zI7 h n]]
theorem xN{J:JR}{b:Int}{D r:List Str}(h:tfS J b D r=none):∀n∈r,n∈J.ns:=λn O=>by
 unfold tfS at h
 cases e:r.find? λn=>!decide (n∈J.ns) with
 |some m=>rw[e]at h;cases h
 |none=>
  have:=qBK.mp e n O;simpa using this
inductive FR where
 |non
 |miss (n:Str)
 |three (k:Str) (i:Int) (v:V)
def zBn(J:JR)(b:Int):Int->List Str->List (List Str)->FR
 |_,D,[]=>match J.ns.find? λn=>decide$ n∉D with
  |some n=>.miss n
  |none=>.non
 |k,D,r::rs=>match tfS J b D r with
  |some p=>.three p.1 k p.2
  |none=>zBn J b (k+1) (D++r) rs
def FAt(H:Hp):FR->V->Prop
 | .non,w=>w= .non
 | .miss n,w=>∃t,w= .ref t/\H t=some (.tup [.str "missing",.str n])
 | .three k i v,w=>∃t,w= .ref t/\H t=some (.tup [.str k,.int i,v])
def TAt(H:Hp):Option (Str×V)->V->Prop
 |none,w=>w= .non
 |some p,w=>∃t,w= .ref t/\H t=some (.tup [.str p.1,p.2])
theorem oi{α:Type}{xs:List α}{i:Nat}{x:α}(h:xs[i]?=some x):xs.drop i=x::xs.drop (i+1):=by
 obtain⟨hi,rfl⟩:=qAa.mp h;exact List.drop_eq_getElem_cons hi
section
variable{P:Program}{w:World}{K:PySem.W.Frag}{mg:Str->Option Value}{base:Heap}{C:Addr}
inductive gC(vs:List V)(H:Hp)(Q:VK)(u_3:XK):Prop
 |mk:∀(x:Str),vs=[.str x,.int 12]->Q (.str x) H->gC vs H Q u_3
abbrev zFe:Stmt:=top 26
theorem lS:c_ ["thing","depth","pairs"] ["thing","depth"] (zAe zFe):=fnS
theorem kJ{f:Addr}{fd:FuncData}{D:Addr}{its:Array Value}(F:p5 K "own_copy" "own_copy" zFe f fd D its)(T:Txt K mg):eC P w K mg base CX0 1 f fd ["thing","depth"] gC:=by
 refine F.ok lS (λvs H Q E h=>?_) λV A O s H vs Q E S h=>?_
 .obtain ⟨x,rfl,_⟩:=h;rfl
 .obtain ⟨x,rfl,k⟩:=h
  refine⟨_,(zAb (zA1 (zAj zCo (pv 1) zAg$ zAo _) zGt zAi) (zAb (zA1 (zBv$ zAn zB2 rR T.z_isinstance zA3$ zAa (pv 0)$ zAa (zCx rR T.z_list zHy (v:=.ty "list") rF) zAc) zGt zAi)
   (zAb (zA1 (zBv$ zAn zB2 rR T.z_isinstance zA3$ zAa (pv 0)$ zAa (zCx rR T.z_tuple zHf (v:=.ty "tuple") rF) zAc) zGt zAi)
   (zAb (zA1 (zBv$ zAn zB2 rR T.z_isinstance zA3$ zAa (pv 0)$ zAa (zCx rR T.z_dict pD (v:=.ty "dict") rF) zAc) zGt zAi)$ zAd$ zAk$ pv 0)))),?_⟩
  refine⟨_,rF,rF,_,rF,?_⟩;rw[qAP λz=>by cases z];refine eG ?_;refine⟨_,rF,_,_,_,_,rF,fL.str x,rF,_,rF,eG ?_⟩;refine⟨_,rF,_,_,_,_,rF,fL.str x,rF,_,rF,eG ?_⟩;refine⟨_,rF,_,_,_,_,rF,fL.str x,rF,_,rF,eG ?_⟩;exact⟨_,rF,k⟩
inductive fY(C:Addr)(vs:List V)(H:Hp)(Q:VK)(u_3:XK):Prop
 |mk:∀(j d l:Addr)(J:JR)(b:Int)(A r:List Str),vs=[.ref j,.int b,.ref d,.ref l]->eI C H j J->fM H d A->A.length<=1000->Txs H l r->r.length<=1000->(∀w H',Kp [] H H'->TAt H' (tfS J b A r) w->Q w H')->fY C vs H Q u_3
abbrev zEs:Stmt:=top 29
theorem zBx:c_ ["jobs","benches","earlier","row","names","thing","stood","name"] ["jobs","benches","earlier","row"] (zAe zEs):=fnS
theorem zLj{f:Addr}{fd:FuncData}(F:Fun K "turn_fault" "turn_fault" zEs f fd)(T:Txt K mg)(U:JC K mg C)(aa:Mth P w K mg base C "names" 1 ["self"] (fO C))(af:Cal P w K mg base "is_one_of" 1 ["thing","names"] jO)(S:xz P w K mg base "own_copy" 2 ["thing","depth"] [.int 12] gC)(W:Cal P w K mg base "is_ready" 4 ["jobs","earlier","name"] (kH C)):eC P w K mg base CX0 5 f fd ["jobs","benches","earlier","row"] (fY C):=by
 refine F.ok zBx (λvs H Q E h=>?_) λan A aj s H vs Q E hr h=>?_
 .obtain ⟨j,d,l,J,b,A,r,rfl,_⟩:=h;rfl
 .obtain ⟨j,d,l,J,b,D0,r,rfl,A0,hd,hD,hl,ao,k⟩:=h;have hu:=zD3 hr;have ai:=hr.mono (j:=1) dD;have ak:=hr.mono (j:=2) dD;have O:eR 4 _:=hr
  refine⟨_,(zAb (psS (i:=4) zBx.nd$ zDa aa U.cl ai$ pv 0) (zAb (zA4 qAZ rF (zAl$ pv 3) (pgN (i:=5) zBx.nd)
    (zAd (zA1 (zBy$ zBv$ zAf af ai rF$ zAa (pv 5)$ zAa (pv 4) zAc)
     (zAd$ zAk$ zCl$ zAa zAm$ zAa (s_ S ak rF$ zAa (pv 5) zAc) zAc)
     zAi)))
   (zAb (psS (i:=6) zBx.nd$ zAz nN rR T.z_dict pD$ zAa (pv 2) zAc)
   (zAb (zA4 qAZ rF (zAl$ pv 3) (pgN (i:=7) zBx.nd)
    (zAb (zA1 (zE0$ zH2 hu (pv 7)$ pv 6)
     (zAd$ zAk$ zCl$ zAa zAm$ zAa (pv 7) zAc)
     zAi)$ zAd$ zCi hu (pv 6) (pv 7) zJz rF))
   (zAb (zA4 qAZ rF (zAl$ pv 3) (pgN (i:=7) zBx.nd)
    (zAd (zA1 (zBy$ zBv$ zAf W O rF$ zAa (pv 0)$ zAa (pv 2)$ zAa (pv 7) zAc)
     (zAd$ zAk$ zCl$ zAa zAm$ zAa (pv 7) zAc)
     zAi)))
   (zAb (zA1 (zAj zLi (zAn zAy rR T.z_len zCc$ zAa (pv 3) zAc) (pv 1)$ zAo _)
    (zAd$ zAk$ zCl$ zAa zAm$ zAa (zAn zAy rR T.z_len zCc$ zAa (pv 3) zAc) zAc)
    zAi)$ zAd$ zAk jS)))))),?_⟩
  refine⟨_,rF,j,J.dx,_,rF,A0.ob,zL0 _ _ _ kK kK kK,j,J,rF,A0,λnl H1 fn h1 k1=>?_⟩
  have fin:∀(H2:Hp)(a:Str)(v:V)(t:Addr),Kp [] H H2->H2 t=none->tfS J b D0 r=some (a,v)->Q (.ref t) (upd H2 t$ .tup [.str a,v]):=λH2 a v t k2 ft e=>by
   refine k _ _ (k2.trans$ Kp.new Kp.refl ft) ?_;rw[e];exact⟨t,rF,ac⟩
  refine⟨_,rF,_,rF,⟨_,SqL.of$ k1 l _ hl sS⟩,zA0 (xs:=r.map V.str) (λi σ H2=>(∃o5 o6 o7,σ=[some (.ref j),some (.int b),some (.ref d),some (.ref l),some (.ref nl),o5,o6,o7])/\H2=H1/\∀u∈r.take i,u∈J.ns) ⟨⟨_,_,_,rF⟩,rF,(λu h=>nomatch h)⟩ (λi σ H2 _ ⟨_,e,_⟩=>by subst e;exact SqL.of$ k1 l _ hl sS) ?_ ?_⟩
  .rintro i v σ H2 hv ⟨⟨o5,o6,o7,rfl⟩,rfl,hb⟩;obtain⟨n,en,rfl⟩:=zBh hv;refine⟨_,rF,_,rF,n,nl,J.ns,rF,h1,_,rF,?_⟩
   by_cases c:n∈J.ns
   .rw [qAJ c];refine eG ⟨⟨_,_,_,rF⟩,rF,λu hu=>?_⟩;rw[zAh en]at hu;rcases qAK.mp hu with z|z
    .exact hb u z
    .rw [qAH.mp z];exact c
   .rw [qAP c];refine fE ?_;refine⟨_,rF,n,rF,(by walk_at"ln"),λt ft=>?_⟩;exact fin H2 "stranger" _ t k1 ft (by unfold tfS;rw[zJr (p:=λn=>!decide (n∈J.ns)) en (by simpa using c) λu hu=>by simpa using hb u hu])
  rintro σ H2 ⟨⟨o5,o6,o7,rfl⟩,rfl,ag⟩;rw[qAB,qAY]at ag;have e0:(r.find? λn=>!decide (n∈J.ns))=none:=qBK.mpr λn hn=>by simpa using ag n hn
  refine⟨_,rF,d,_,rF,.inl$ k1 d _ hd sS,λst al=>?_⟩;have ae:Fre H2 st:=al;have ab:Fre H st:=k1.fre ae sS;have ap:l≠st:=b_ ab hl;have aq:d≠st:=b_ ab hd;have k2:Kp [] H (upd H2 st$ .dK$ dT1 D0 λ_=>.bl true):=Kp.trans k1$ Kp.new Kp.refl ae;refine⟨_,rF,_,rF,⟨_,SqL.of$ k2 l _ hl sS⟩,zA0 (xs:=r.map V.str) (λi σ H3=>(∃o5 o7,σ=[some (.ref j),some (.int b),some (.ref d),some (.ref l),some (.ref nl),o5,some (.ref st),o7])/\Kp [] H H3/\fM H3 st ((r.take i).foldl eY D0)/\∀j m,j<i->r[j]?=some m->¬(m∈D0\/m∈[]++r.take j)) ⟨⟨_,_,rF⟩,k2,ac,λj m h=>absurd h$ qDH _⟩ (λi σ H3 _ ⟨_,k3,_⟩=>SqL.of$ k3 l _ hl sS) ?_ ?_⟩
  .rintro i v σ H3 hv ⟨⟨o5,o7,rfl⟩,k3,h3,hb⟩;obtain⟨n,en,rfl⟩:=zBh hv;refine⟨_,rF,_,rF,_,_,rF,eO.k (k:=Sum.inr n) h3,_,rF,?_⟩;rw[zE5]
   by_cases c:n∈(r.take i).foldl eY D0
   .rw [qAJ c];refine fE ⟨_,rF,(by walk_at"ln"),λt ft=>?_⟩;have c':n∈D0\/n∈[]++r.take i:=by simpa using(zB0 _ _).mp c
    exact fin H3 "again" _ t k3 ft (by unfold tfS;rw[e0,kZ en c' hb])
   .rw [qAP c];refine eG ?_;have am:=zG6 (r.take i) D0;rw[qAX]at am;refine⟨_,rF,_,rF,_,_,rF,fR.k (k:=Sum.inr n) h3 (by rw[zEj,qAM];lia),?_⟩;refine⟨⟨_,_,rF⟩,Kp.new k3 ab,?_,λj m hj hm=>?_⟩
    .rw [zLa,zAh en,qA8];exact ac
    .rcases Nat.lt_succ_iff_lt_or_eq.mp hj with q|q
     .exact hb j m q hm
     .subst q;rw[en]at hm
      cases hm
      intro z;exact c ((zB0 _ _).mpr$ by simpa using z)
  rintro σ H3 ⟨⟨o5,o7,rfl⟩,k3,h3,hb⟩;have ah:zD4 D0 [] r=none:=zKw λj m hm=>hb j m (by rw[qAB];exact(qAa.mp hm).1) hm;refine⟨_,rF,_,rF,⟨_,SqL.of$ k3 l _ hl sS⟩,zA0 (xs:=r.map V.str) (λi σ H4=>(∃o5 o7,σ=[some (.ref j),some (.int b),some (.ref d),some (.ref l),some (.ref nl),o5,some (.ref st),o7])/\Kp [] H H4/\∀m∈r.take i,e_ J D0 m=true) ⟨⟨_,_,rF⟩,k3,(λm h=>nomatch h)⟩ (λi σ H4 _ ⟨_,k4,_⟩=>SqL.of$ k4 l _ hl sS) ?_ ?_⟩
  .rintro i v σ H4 hv ⟨⟨o5,o7,rfl⟩,k4,ad⟩;obtain⟨n,en,rfl⟩:=zBh hv;have hn:=qAN en;refine⟨_,rF,_,rF,_,rF,j,d,J,D0,n,rF,A0.kp0 k4,k4 d _ hd sS,ag n hn,λH5 k5=>⟨_,rF,?_⟩⟩
   cases e:e_ J D0 n with
   |true=>
    refine eG ⟨⟨_,_,rF⟩,k4.trans k5,λm hm=>?_⟩;rw[zAh en]at hm;rcases qAK.mp hm with z|z
    .exact ad m z
    .rw [qAH.mp z];exact e
   |false=>
    refine fE ⟨_,rF,(by walk_at"ln"),λt ft=>?_⟩;exact fin H5 "early" _ t (k4.trans k5) ft (by unfold tfS;rw[e0,ah,zJr (p:=λn=>not$ e_ J D0 n) en (by rw[e];rfl) λm hm=>by rw[ad m hm];rfl])
  rintro σ H4 ⟨⟨o5,o7,rfl⟩,k4,ad⟩;rw[qAB,qAY]at ad;have e2:(r.find? λn=>not$ e_ J D0 n)=none:=qBK.mpr λm hm=>by rw[ad m hm];simp
  refine⟨_,rF,_,_,rF,.inl$ SqL.of$ k4 l _ hl sS,_,rF,_,_,rF,rF,_,rF,?_⟩;refine eU (λc=>?_) λc=>?_
  .refine ⟨_,rF,_,_,rF,.inl$ SqL.of$ k4 l _ hl sS,(by walk_at"ln"),λt ft=>?_⟩;rw[qAB];refine fin H4 "wide" _ t k4 ft ?_;unfold tfS;rw[e0,ah,e2];have c:(r.length:Int)>b:=by have:=qAn c;rw[qAB]at this;exact this
   exact qAD c
  .refine k _ H4 k4 ?_;have c:¬(r.length:Int)>b:=λz=>c (qAJ$ by rw[qAB];exact z);unfold tfS;rw[e0,ah,e2];show TAt _ (if _ then _ else _) _;rw[qAC c];rfl
inductive js(C:Addr)(vs:List V)(H:Hp)(Q:VK)(u_3:XK):Prop
 |mk:∀(j m:Addr)(b:Int)(J:JR) (ps:List (Addr×List Str)),vs=[.ref j,.int b,.ref m]->eI C H j J->1<=b->PlA H m ps->ps.length<=100->(∀p∈ps,p.2.length<=100)->(∀w H',Kp [] H H'->FAt H' (zBn J b 1 []$ ps.map (·.2)) w->Q w H')->js C vs H Q u_3
abbrev jz:Stmt:=top 28
theorem zFd:c_ ["jobs","benches","plan","earlier","number","row","found","name"] ["jobs","benches","plan"] (zAe jz):=fnS
theorem sn{f:Addr}{fd:FuncData}(F:Fun K "fault" "fault" jz f fd)(T:Txt K mg)(U:JC K mg C)(ab:Mth P w K mg base C "names" 1 ["self"] (fO C))(S:Cal P w K mg base "check_benches" 2 ["benches"] gb)(W:Cal P w K mg base "turn_fault" 5 ["jobs","benches","earlier","row"] (fY C))(af:Cal P w K mg base "take" 1 ["taken","row"] kE):eC P w K mg base CX0 6 f fd ["jobs","benches","plan"] (js C):=by
 refine F.ok zFd (λvs H Q E h=>?_) λar A am s H vs Q E hr h=>?_
 .obtain ⟨j,m,b,J,ps,rfl,_⟩:=h;rfl
 .obtain ⟨j,m,b,J,ps,rfl,A0,hb,R,few,ah,k⟩:=h;have hu:=zD3 hr;have ai:=hr.mono (j:=1) dD;have an:=hr.mono (j:=2) dD;have O:eR 5 _:=hr
  refine⟨_,(zAb (zBb$ zAf S an rF$ zAa (pv 1) zAc) (zAb (psS (i:=3) zFd.nd zB1)
   (zAb (zA4 qAZ rF (sU rF T.z_enumerate$ zAa (pv 2) zAc) (zEm rF$ zAr (pgN (i:=4) zFd.nd)$ zAr (pgN (i:=5) zFd.nd) zBz)
    (zAb (psS (i:=6) zFd.nd$ zAf W O rF$ zAa (pv 0)$ zAa (pv 1)$ zAa (pv 3)$ zAa (pv 5) zAc)
    (zAb (zA1 (zAj vV (pv 6) jS$ zAo _)
     (zAd$ zAk$ zCl$ zAa (zA9 zH5 (pv 6) zAg λ_ _=>rfl)$ zAa (pv 4)$ zAa (zA9 zH5 (pv 6) zAg λ_ _=>rfl) zAc)
     zAi)$ zAd$ zBb$ zAf af ai rF$ zAa (pv 3)$ zAa (pv 5) zAc)))
   (zAb (zA4 qAZ rF (zAl$ zDa ab U.cl ai$ pv 0) (pgN (i:=7) zFd.nd)
    (zAd (zA1 (zE0$ zE1 hu (pv 7)$ pv 3)
     (zAd$ zAk$ zCl$ zAa zAm$ zAa (pv 7) zAc)
     zAi)))$ zAd$ zAk jS)))),?_⟩
  refine⟨_,rF,b,rF,hb,?_⟩;refine λe he=>?_;have fe:Fre H e:=he;have k1:Kp [] H (upd H e$ .dK []):=Kp.new Kp.refl fe;refine⟨_,rF,_,rF,⟨_,SqL.of$ k1 m _ R.top sS⟩,zL5 (lo:=1) (xs:=ps.map λp=>V.ref p.1) (λi σ H2=>∃(D A:List Str),(∃o4 o5 o6 o7,σ=[some (.ref j),some (.int b),some (.ref m),some (.ref e),o4,o5,o6,o7])/\Kp [] H H2/\fM H2 e A/\A.Nodup/\(∀x∈A,x∈J.ns)/\(∀x,x∈A↔x∈D)/\zBn J b 1 [] (ps.map (·.2))=zBn J b (1+(i:Int)) D ((ps.map (·.2)).drop i)) ⟨[],[],⟨_,_,_,_,rF⟩,k1,ac,qAt,(λx h=>nomatch h),λx=>Iff.rfl,rF⟩ (λi σ H2 _ ⟨_,_,_,k2,_⟩=>SqL.of$ k2 m _ R.top sS) ?_ ?_⟩
  .rintro i v σ H2 t hv ⟨D,A1,⟨o4,o5,o6,o7,rfl⟩,k2,h2,nd,sub,ad,ef⟩ ht;have ft:Fre H2 t:=ht;obtain⟨p,ep,rfl⟩:=iV hv;have mp:=qAN ep;have kt:Kp [] H2 (upd H2 t$ .tup [.int (1+(i:Int)),.ref p.1]):=Kp.new Kp.refl ft;refine⟨_,_,rF,.inl$ .inl ac,rF,_,_,rF,_,_,rF,rF,?_⟩;have h3:=kt e _ h2 sS;generalize upd H2 t (.tup [.int (1+(i:Int)),.ref p.1])=H3 at kt h3 ⊢;have k3:=k2.trans kt;have R3:=R.kp0 k3;have as:A1.length<=20:=qAR (zB4 nd sub) A0.few;have au:=ah p mp;refine⟨_,rF,_,rF,_,rF,_,rF,j,e,p.1,J,b,A1,p.2,rF,A0.kp0 k3,h3,lL,R3.row p mp,lL,λu H4 k4 aa=>?_⟩;rw[qU ad]at aa;have ag:=k3.trans k4;have e2:(ps.map (·.2))[i]?=some p.2:=by rw[qAU,ep];rfl
   rw[oi e2]at ef
   cases c:tfS J b D p.2 with
   |none=>
    rw[c]at aa;have aa:u= .non:=aa;subst aa;refine⟨_,rF,rF,_,rF,eG ?_⟩;have ao:=xN c;have aj:=ag p.1 _ (R.row p mp) sS;refine⟨_,rF,_,rF,e,p.1,A1,p.2,rF,k4 e _ h3 sS,aj,lL,λH5 h5 k5=>?_⟩;refine⟨D++p.2,p.2.foldl eY A1,⟨_,_,_,_,rF⟩,Kp.drop ag fe k5,h5,zEg _ _ nd,λx hx=>?_,λx=>?_,?_⟩
    .rcases (zB0 _ _).mp hx with z|z
     .exact sub x z
     .exact ao x z
    .rw [zB0,qAK,ad x]
    .rw [ef];show(match tfS J b D p.2 with|some q=>FR.three q.1 (1+(i:Int)) q.2|none=>zBn J b (1+(i:Int)+1) (D++p.2) _)=_;rw[c,show(1+(i:Int)+1)=1+((i+1:Nat):Int) by lia]
   |some q=>
    rw[c]at aa;obtain⟨t2,rfl,ak⟩:=aa;refine⟨_,rF,rF,_,rF,fE ?_⟩;refine⟨_,rF,_,_,_,_,rF,rF,SqT.of ak,rF,_,rF,_,rF,_,_,_,_,rF,rF,SqT.of ak,rF,(by walk_at"ln"),λt3 ap=>?_⟩;have k5:Kp [] H4 (upd H4 t3$ .tup [.str q.1,.int (1+(i:Int)),q.2]):=Kp.new Kp.refl ap;refine k _ _ (ag.trans k5) ?_;rw[ef];show FAt _ (match tfS J b D p.2 with|some q=>FR.three q.1 (1+(i:Int)) q.2|none=>zBn J b (1+(i:Int)+1) (D++p.2) _) _;rw[c];exact⟨t3,rF,ac⟩
  rintro σ H2 ⟨D,A1,⟨o4,o5,o6,o7,rfl⟩,k2,h2,nd,sub,ad,ef⟩;rw[qAB,qCt$ by rw[qAB];exact qAF _]at ef;refine⟨_,rF,j,J.dx,_,rF,(A0.kp0 k2).ob,zL0 _ _ _ kK kK kK,j,J,rF,A0.kp0 k2,λnl H3 fn h3 k3=>?_⟩;have al:=k2.trans k3;have aq:=k3 e _ h2 sS;refine⟨_,rF,⟨_,SqL.of h3⟩,zA0 (xs:=J.ns.map V.str) (λi σ H4=>(∃o4 o5 o6 o7,σ=[some (.ref j),some (.int b),some (.ref m),some (.ref e),o4,o5,o6,o7])/\H4=H3/\∀x∈J.ns.take i,x∈D) ⟨⟨_,_,_,_,rF⟩,rF,(λx h=>nomatch h)⟩ (λi σ H4 _ ⟨_,e,_⟩=>by subst e;exact SqL.of h3) ?_ ?_⟩
  .rintro i v σ H4 hv ⟨⟨o4,o5,o6,o7,rfl⟩,rfl,ae⟩;obtain⟨n,en,rfl⟩:=zBh hv;refine⟨_,rF,_,rF,_,_,rF,eO.k (k:=Sum.inr n) aq,_,rF,?_⟩;rw[zE5]
   by_cases c:n∈A1
   .rw [qAJ c];refine eG ⟨⟨_,_,_,_,rF⟩,rF,λx hx=>?_⟩;rw[zAh en]at hx;rcases qAK.mp hx with z|z
    .exact ae x z
    .rw [qAH.mp z];exact(ad n).mp c
   .rw [qAP c];refine fE ⟨_,rF,(by walk_at"ln"),λt ft=>?_⟩;refine k _ _ (al.trans$ Kp.new Kp.refl ft) ?_;rw[ef];show FAt _ (match J.ns.find? λn=>decide$ n∉D with|some n=>FR.miss n|none=>FR.non) _;rw[zJr (p:=λn=>decide$ n∉D) en (qAJ λz=>c$ (ad n).mpr z) λx hx=>qAP λz=>z$ ae x hx];exact⟨t,rF,ac⟩
  .rintro σ H4 ⟨⟨o4,o5,o6,o7,rfl⟩,rfl,ae⟩;rw[qAB,qAY]at ae;refine k _ _ al ?_;rw[ef];show FAt _ (match J.ns.find? λn=>decide$ n∉D with|some n=>FR.miss n|none=>FR.non) _;rw[qBK.mpr λx hx=>by simp[ae x hx]];rfl
end
end My
namespace L2
open PySem PySem.Spec PyProof.Rows
variable{X:Cx}
theorem yH{pins:List (Addr×Obj)}{σ:St}{H:Hp}{s:Shared}{k:Nat}(a b c:Str)(ta tb tc:Tok)(I:Inv X pins σ H s):Inv X pins σ (upd H s.heap.objs.size$ .tup [.str a,.str b,.str c]) {s with toks:=k,heap:=s.heap.push {cls:=.type "tuple",data:=.seq [Value.str a ta,.str b tb,.str c tc].toArray}} :=
 I.laid (λ_ _ q=>qAL _ q) (qAF _) ⟨by rw[qAM];show(3:Nat)<=_;decide,[Value.str a ta,.str b tb,.str c tc],Paired.cons (show eE (.str a) (.str a ta) from⟨ta,rF⟩)$ Paired.cons (show eE (.str b) (.str b tb) from⟨tb,rF⟩)$ Paired.cons (show eE (.str c) (.str c tc) from⟨tc,rF⟩) .nil,_,qAg _ rF,rF,0,rF⟩
inductive wz(x:V)(vs:List V)(H:Hp)(Q:VK):Prop
 |mk:∀z sep,x= .str z->vs=[.str sep]->1<=sep.length->z.length<=1000000->(∀l,H l=none->Q (.ref l) (upd H l$ .tup [.str (Txt.partition z sep).1,.str (Txt.partition z sep).2.1,.str (Txt.partition z sep).2.2]))->wz x vs H Q
theorem j6 :MtR X "str.partition" wz:=by
 intro pins s σ H x vs v us Q I O V h;obtain⟨z,sep,rfl,rfl,h1,hz,q⟩:=h;obtain⟨t,rfl⟩:=O;obtain⟨u,rfl,S⟩:=V.one;obtain⟨t',rfl⟩:=S;have hs:sizeLine=16777216:=qAM;have W:(sep.length==0)=false:=by simp;lia
 have q:=q _ I.fresh;refine qBR F.slot_str_partition (qBx _ _ _) F.entry_str_partition (F.args_str_partition_2 _ _) (meets_str_partition z sep t t' W lL) ?_;unfold Txt.partition at q
 revert q
 cases Builtin.Str.occurrences z sep 0 z.length 1 with
 |nil=>exact λq=>⟨.ref s.heap.objs.size,_,yH _ _ _ _ _ _ I,rF,q⟩
 |cons i r=>exact λq=>⟨.ref s.heap.objs.size,_,yH _ _ _ _ _ _ I,rF,q⟩
inductive pj(x:V)(vs:List V)(H:Hp)(Q:VK):Prop
 |mk:∀z y,x= .str z->vs=[.str y]->Q (.bl$ Txt.startswith z y) H->pj x vs H Q
theorem zLw :MtR X "str.startswith" pj:=by
 intro pins s σ H x vs v us Q I O V h;obtain⟨z,y,rfl,rfl,q⟩:=h;obtain⟨t,rfl⟩:=O;obtain⟨u,rfl,S⟩:=V.one;obtain⟨t',rfl⟩:=S;exact PySem.SC.startswith ⟨.bl _,H,I,rF,q⟩
theorem qy :zC4 X (.type "int") (λxs H Q=>∃x n,xs=[.str x]/\PySem.intText? x=some n/\x.length<=640/\Q (.int n) H):=by
 intro pins s σ H xs us Q I r h;obtain⟨x,n,rfl,e,O,q⟩:=h;obtain⟨u,rfl,t,rfl⟩:=zHg r;exact PySem.W.KIN.call_text e O ⟨.int n,H,I.tok _,⟨_,rF⟩,q⟩
theorem qj :zC4 X (.type "str") (λxs H Q=>(∃i,xs=[.int i]/\i.natAbs.log2<1920/\Q (.str$ toString i) H)\/∃x,xs=[.str x]/\Q (.str x) H):=by
 intro pins s σ H xs us Q I r h;rcases h with⟨i,rfl,O,q⟩|⟨x,rfl,q⟩
 .obtain ⟨u,rfl,t,rfl⟩:=zHg r;exact PySem.P.str_of_int O ⟨.str _,H,I.tok _,⟨_,rF⟩,q⟩
 .obtain ⟨u,rfl,t,rfl⟩:=zHg r;exact PySem.P.str_of_str ⟨.str x,H,I,⟨_,rF⟩,q⟩
end L2
namespace My
open PySem L2
variable{f:Addr}{fd:FuncData}{i:Nat}{ns:List Str}
theorem zKz{a b:Str}(h:a.cps.toList=b.cps.toList):a=b:=by
 cases a;cases b
 congr 1;exact Array.ext' h
theorem lq(x:Str)(i j:Nat):(Builtin.Str.strSub x i j).cps.toList=(x.cps.toList.take j).drop i:=by
 unfold Builtin.Str.strSub;show(x.cps.extract i j).toList=_;rw[qCk];simp[List.extract,List.drop_take]
theorem zDs(a b:Str):(a++b).cps.toList=a.cps.toList++b.cps.toList:=by
 show(a.cps++b.cps).toList=_;rw[qCF]
theorem gO:(" ": Str)=⟨#[32]⟩:=by decide +kernel
theorem nC{w rest:Str}(h:32∉w.cps.toList):PySem.Txt.partition (w++ " "++rest) " "=(w,(" ": Str),rest):=by
 have e:(w++ " "++rest).cps.toList=w.cps.toList++(([32]:List Nat)++rest.cps.toList):=by
  rw[zDs,zDs,gO,qA0]
 have W:PySem.StrLaws.At (w++ " "++rest) " " (w++ " "++rest).length w.cps.toList.length:=SM.at_of (R:=rest.cps.toList) (by rw[e,gO])
 have S:(w++ " "++rest).length=w.cps.toList.length+1+rest.cps.toList.length:=by
  have:=qAf List.length e;simp at this;show(w++ " "++rest).cps.size=_;simp;lia
 rcases PyProof.Rows.partition_whole (w++ " "++rest) " " with⟨_,no⟩|⟨i,V,O,fst⟩
 .exact absurd W$ no _
 .have i1:i<=w.cps.toList.length:=Nat.le_of_not_lt λz=>fst _ z W
  have i2:¬i<w.cps.toList.length:=λz=>by
   rw[gO]at O;have:=(PySem.StrLaws.subAt_one _ 32 i).mp O;rw[<-gO,e,qBf z]at this;exact h$ qAN this
  have i3:i=w.cps.toList.length:=lL
  subst i3;rw[V];have h1:Builtin.Str.strSub (w++ " "++rest) 0 w.cps.toList.length=w:=zKz (by rw[lq,e,qDb rF,List.drop_zero])
  have h2:Builtin.Str.strSub (w++ " "++rest) (w.cps.toList.length+(" ": Str).length) (w++ " "++rest).length=rest:=zKz (by
   rw[lq,e,S,qBC (by simp;lia),show(" ": Str).length=1 by decide +kernel,List.drop_append,qCt lL];simp)
  rw[h1,h2]
theorem lO:PySem.Txt.partition ("fewest": Str) " "=(("fewest": Str),("": Str),("": Str)):=by
 rcases PyProof.Rows.partition_whole ("fewest": Str) " " with⟨e,_⟩|⟨i,_,O,_⟩
 .rw [e];rfl
 .rw [gO]at O;have:=qAN$ (PySem.StrLaws.subAt_one _ 32 i).mp O;exact absurd this kK
abbrev nS(n:Nat):Str:=Str.ofString$ toString (n:Int)
structure yA(n:Nat):Prop where
 no:PySem.Txt.startswith (nS n) "-"=false
 rd:PySem.intText? (nS n)=some (n:Int)
 l1:1<=(nS n).length
 l2:(nS n).length<=2
 fig:(nS n).cps.toList.all (λc=>decide (48<=c)&&decide (c<=57))=true
theorem xo:∀n:Fin 64,PySem.Txt.startswith (nS n) "-"=false/\PySem.intText? (nS n)=some ((n:Nat):Int)/\1<=(nS n).length/\(nS n).length<=2/\(nS n).cps.toList.all (λc=>decide (48<=c)&&decide (c<=57))=true:=by decide +kernel
theorem iT{n:Nat}(h:n<64):yA n:=by
 obtain⟨a,b,c,d,e⟩:=xo ⟨n,h⟩;exact⟨a,b,c,d,e⟩
section
variable{P:Program}{w:World}{K:PySem.W.Frag}{mg:Str->Option Value}{base:Heap}{C:Addr}
inductive nG(vs:List V)(H:Hp)(Q:VK)(u_3:XK):Prop
 |mk:∀(n:Nat),vs=[.str (nS n)]->n<64->(∀H',Kp [] H H'->Q (.int n) H')->nG vs H Q u_3
abbrev zC0:Stmt:=top 97
theorem zDu:c_ ["word","figures","number"] ["word"] (zAe zC0):=fnS
theorem zJ0(F:Fun K "read_number" "read_number" zC0 f fd)(T:Txt K mg):eC P w K mg base CX0 1 f fd ["word"] nG:=by
 refine F.ok zDu (λvs H Q E h=>?_) λab A S s H vs Q E hr h=>?_
 .obtain ⟨n,rfl,_⟩:=h;rfl
 .obtain ⟨n,rfl,hn,k⟩:=h;obtain⟨tF,hF⟩:=T.c_MOST_FIGURES;have O:=iT hn
  refine⟨_,(zAb (psS (i:=1) zDu.nd$ zLe (zBv$ zCj qBE PySem.F.slot_str_startswith PySem.F.type_str_startswith zLw (pv 0)$ zAa zAm zAc) (zIl wS (pv 0) (zHn zAg) zLc)$ pv 0) (zAb (zA1 (PW.pt$ zI8 (zBy$ zLb zLh zLh zAg (zAn zH6 rR T.z_len zCc$ zAa (pv 1) zAc)$ zDb rF hF (v:=.int 60) ⟨_,rF⟩)$ zEy$ zBy$ zBv$ zAn (zHe _ rF) rR T.z_all gK$ zAa (zA6 rF (zBe (sc:=zAe zC0) rF kK) (d_.own (x:= "sign") d_.nil) (mQ$ pv 1) (fun _ _ _ _=>(pgB (i:=0))) (fun _ _ _ _=>zBq) fun _ _ _ _=>(lI zGz zGz zAm (pv 0) zAm)) zAc)
    (zAd zAq)
    zAi)
   (zAb (psS (i:=2) zDu.nd$ zAz qy rR T.z_int zKu$ zAa (pv 0) zAc)
   (zAb (zA1 (zAj zGx (zAz zBo rR T.z_str zDg$ zAa (pv 2) zAc) (pv 0)$ zAo _)
    (zAd zAq)
    zAi)$ zAd$ zAk$ pv 2)))),?_⟩
  refine wN ?_;intro _ _ _ _ _;have l1:=O.l1;have l2:=O.l2;refine⟨_,rF,rF,_,_,rF,rF,_,rF,?_⟩;rw[O.no];refine eG ⟨_,rF,?_⟩;refine⟨_,rF,_,rF,(by rw[qAM];lia),_,_,rF,rF,_,rF,?_⟩;rw[qAJ$ show(1:Int)<=((nS n).length:Int) by lia];refine fE ⟨_,_,rF,rF,_,rF,?_⟩;rw[qAJ$ show((nS n).length:Int)<=60 by lia];refine eG ?_;refine⟨_,rF,_,rF,λD hD=>iz (z:=nS n) (λi ys W H'=>(∃o0,W=[o0])/\ys=(((nS n).cps.toList.take i).map λ_=>V.bl true)/\H'=upd H D (.lst ys)) ⟨⟨_,rF⟩,rF,rF⟩ ?_ ?_⟩
  .rintro i c ys W H' hc ⟨⟨o0,rfl⟩,rfl,rfl⟩;have hm:=qBB.mp O.fig c$ qAN hc;rw[qBn]at hm;have aa:(nS n).cps.toList.length=(nS n).length:=by simp[Str.length]
   refine⟨_,rF,_,_,rF,rF,_,rF,?_⟩;have c1:(!(decide$ ([c]:List Nat)<[48]))=true:=by rw[zDc];exact hm.1
   have c2:(!(decide$ ([57]:List Nat)<[c]))=true:=by rw[zDc];exact hm.2
   refine eU (λ_=>?_) λz=>absurd c1 z;refine⟨_,_,rF,rF,ac,?_,⟨_,rF⟩,?_,zBm⟩
   .rw [qAB,qAX,qAM];lia
   .rw [zAh hc,qAI];show _++[V.bl (!(decide$ ([57]:List Nat)<[c]))]=_;rw[c2];rfl
  .rintro ys W H' ⟨⟨o0,rfl⟩,rfl,rfl⟩;refine⟨D,((nS n).cps.toList.take (nS n).length).map λ_=>true,rF,SqL.of (by rw[ac,qAb];rfl),?_⟩;rw[show(((nS n).cps.toList.take (nS n).length).map λ_=>true).all id=true from qBB.mpr λb hb=>by obtain⟨_,_,rfl⟩:=qAG.mp hb;rfl];refine⟨_,rF,eG ?_⟩;refine⟨_,rF,_,_,rF,O.rd,lL,?_⟩;refine⟨_,rF,_,rF,?_,_,rF,rF,_,rF,?_⟩
   .rw [Int.natAbs_natCast];exact qBo (qCx n) lL
   rw[qAJ$ show V.str (Str.ofString$ toString (n:Int))=V.str (nS n) from rfl];exact eG ⟨_,rF,k _$ Kp.new Kp.refl hD⟩
def vT:V->Str
 | .int i=>Str.ofString (toString i)
 | .str x=>x
 |_=> ""
def py(v:V):Prop:=(∃x:Str,v= .str x/\x.length<=100)\/∃n:Nat,v= .int n/\n<64
theorem py.len{v:V}(h:py v):(vT v).length<=100:=by
 rcases h with⟨x,rfl,h⟩|⟨n,rfl,h⟩
 .exact h
 .exact qAR (iT h).l2 dD
inductive jr(K:PySem.W.Frag)(vs:List V)(H:Hp)(Q:VK)(u_3:XK):Prop
 |mk:∀(t:Addr)(xs:List V),vs=[.ref t]->SqT K H t xs->xs.length<=10->(∀v∈xs,py v)->(∀H',Kp [] H H'->Q (.str$ PySem.Txt.join " "$ xs.map vT) H')->jr K vs H Q u_3
abbrev zDn:Stmt:=top 103
theorem zK1:c_ ["parts"] ["parts"] (zAe zDn):=fnS
theorem zLo(F:Fun K "parts_text" "parts_text" zDn f fd)(T:Txt K mg):eC P w K mg base CX0 1 f fd ["parts"] (jr K):=by
 refine F.ok zK1 (λvs H Q E h=>?_) λaa A W s H vs Q E hr h=>?_
 .obtain ⟨t,xs,rfl,_⟩:=h;rfl
 .obtain ⟨t,xs,rfl,ht,hl,hp,k⟩:=h;refine⟨_,(zAd$ zAk$ zCj qBE qB4 qB5 zGc zAm$ zAa (zA6 rF (zBe (sc:=zAe zDn) rF kK) (d_.own (x:="part") d_.nil) (rj$ pv 0) (λ_ _ _ _=>(pgB (i:=0))) (λ_ _ _ _=>zBq) λ_ _ _ _=>(zAz qj rR T.z_str zDg$ zAa (pv 0) zAc)) zAc),?_⟩
  have kt:∀{H':Hp},Kp [] H H'->SqT K H' t xs:=λ{H'} k'=>by
   rcases ht with(h|⟨o,h⟩)|h
   .exact .inl$ .inl$ k' _ _ h sS
   .exact .inl$ .inr ⟨o,k' _ _ h sS⟩
   .exact .inr h
  refine⟨rF,_,rF,_,rF,⟨_,ht⟩,λD hD=>pY xs (λi ys O H'=>(∃S,O=[S])/\ys=((xs.take i).map vT).map V.str/\H'=upd H D (.lst ys)) ⟨⟨_,rF⟩,rF,rF⟩ ?_ ?_ ?_⟩
  .rintro i ys O H' ⟨_,rfl,rfl⟩;exact kt$ Kp.new Kp.refl hD
  .rintro i x ys O H' hx ⟨⟨S,rfl⟩,rfl,rfl⟩
   have fin:(upd H D$ .lst$ ((xs.take i).map vT).map V.str) D=some (.lst$ ((xs.take i).map vT).map V.str)/\(((xs.take i).map vT).map V.str).length<sizeLine/\((∃S,([some x]:St)=[S])/\((xs.take i).map vT).map V.str++[V.str (vT x)]=((xs.take$ i+1).map vT).map V.str/\upd (upd H D$ .lst$ ((xs.take i).map vT).map V.str) D (.lst$ ((xs.take i).map vT).map V.str++[V.str (vT x)])=upd H D (.lst$ ((xs.take i).map vT).map V.str++[V.str (vT x)])):=by
    refine⟨ac,?_,⟨_,rF⟩,?_,zBm⟩
    .rw [qAB,qAB,qAX,qAM];lia
    .rw [zAh hx,qAI,qAI];rfl
   rcases hp x (qAN hx) with⟨y,rfl,_⟩|⟨n,rfl,hn⟩
   .exact ⟨_,rF,.inr ⟨y,rF,fin⟩⟩
   .refine ⟨_,rF,.inl ⟨n,rF,?_,fin⟩⟩;rw[Int.natAbs_natCast];exact qBo (qCx n) lL
  .rintro ys O H' ⟨_,rfl,rfl⟩;rw[qAY];refine⟨_,_,xs.map vT,rF,rF,SqL.of ac,?_,k _$ Kp.new Kp.refl hD⟩
   have h2:=zFv (λs:Str=>s.length) 100 (xs:=xs.map vT) λs hs=>by
    obtain⟨v,hv,rfl⟩:=qAG.mp hs;exact(hp v hv).len
   rw[qAB]at h2 ⊢;rw[show(" ": Str).length=1 by decide];lia
def frT:FR->Str
 | .non=> "right"
 | .miss n=>PySem.Txt.join " " ["missing",n]
 | .three k i v=>PySem.Txt.join " " [k,Str.ofString (toString i),vT v]
def qe:FR->Prop
 | .non=>True
 | .miss n=>n.length<=100
 | .three k i v=>k.length<=100/\(∃n:Nat,i=n/\n<64)/\py v
inductive jQ(vs:List V)(H:Hp)(Q:VK)(u_3:XK):Prop
 |mk:∀(x:V)(r:FR),vs=[x]->FAt H r x->qe r->(∀H',Kp [] H H'->Q (.str$ frT r) H')->jQ vs H Q u_3
abbrev zEw:Stmt:=top 102
theorem zK2:c_ ["found"] ["found"] (zAe zEw):=fnS
theorem zLp(F:Fun K "fault_text" "fault_text" zEw f fd)(O:Cal P w K mg base "parts_text" 1 ["parts"] (jr K)):eC P w K mg base CX0 2 f fd ["found"] jQ:=by
 refine F.ok zK2 (λvs H Q E h=>?_) λaa A S s H vs Q E hr h=>?_
 .obtain ⟨x,r,rfl,_⟩:=h;rfl
 .obtain ⟨x,r,rfl,W,ok,k⟩:=h
  refine⟨_,(zAb (zA1 (zAj wK (pv 0) jS$ zAo _) (zAd$ zAk zAm) zAi)$ zAd$ zAk$ zAf O hr rF$ zAa (pv 0) zAc),?_⟩
  refine⟨_,rF,rF,_,rF,?_⟩
  cases r with
  |non=>
   cases (show x= .non from W)
   rw[qAJ$ show(V.non=V.non) from rfl];exact fE$ k H Kp.refl
  |miss n=>
   obtain⟨t,rfl,ht⟩:=W;rw[qAP$ show¬(V.ref t=V.non) from λz=>nomatch z];refine eG ⟨_,rF,t,_,rF,SqT.of ht,sS,λv hv=>?_,k⟩;simp at hv;rcases hv with rfl|rfl
   .exact .inl ⟨_,rF,dD⟩
   .exact .inl ⟨_,rF,ok⟩
  |three a i v=>
   obtain⟨t,rfl,ht⟩:=W;obtain⟨o1,⟨n,rfl,hn⟩,o3⟩:=ok;rw[qAP$ show¬(V.ref t=V.non) from λz=>nomatch z];refine eG ⟨_,rF,t,_,rF,SqT.of ht,sS,λu hu=>?_,k⟩;simp at hu;rcases hu with rfl|rfl|rfl
   .exact .inl ⟨_,rF,o1⟩
   .exact .inr ⟨n,rF,hn⟩
   .exact o3
end
def df(j:Addr)(b:Int)(e:Addr):List (Str×V):=eJ "ends" (.ref e)$ eJ "benches" (.int b)$ eJ "jobs" (.ref j) []
section
variable{j j' e e':Addr}{b b':Int}
theorem zGf:df j b e=[(("jobs": Str),V.ref j),(("benches": Str),.int b),(("ends": Str),.ref e)]:=by
 unfold df;rw[eJ,eJ,qAC kK,eJ,eJ,qAC kK,eJ,qAC kK,eJ]
theorem vI:eJ "jobs" (.ref j') (df j b e)=df j' b e:=by rw[zGf,zGf,eJ,qAD rF]
theorem xB:eJ "benches" (.int b') (df j b e)=df j b' e:=by rw[zGf,zGf,eJ,qAC kK,eJ,qAD rF]
theorem u8:eJ "ends" (.ref e') (df j b e)=df j b e':=by rw[zGf,zGf,eJ,qAC kK,eJ,qAC kK,eJ,qAD rF]
theorem nA:(df j b e).length<1000:=by rw[zGf];show(3:Nat)<1000;decide
theorem ju:(df j b e).lookup ("jobs": Str)=some (.ref j):=by
 unfold df;rw[zAv,qAC kK,zAv,qAC kK,zAv,qAD rF]
theorem m9:(df j b e).lookup ("benches": Str)=some (.int b):=by
 unfold df;rw[zAv,qAC kK,zAv,qAD rF]
theorem zJ5{m:Str}(h1:¬m="ends")(h2:¬m="benches")(h3:¬m="jobs"):(df j b e).lookup m=none:=by
 unfold df;rw[zAv,qAC h1,zAv,qAC h2,zAv,qAC h3];rfl
end
structure DC(K:PySem.W.Frag)(mg:Str->Option Value)(C D:Addr):Prop where
 cl:Cls K D
 n_jobs:zEo K D "jobs"
 n_benches:zEo K D "benches"
 n_ends:zEo K D "ends"
 ne:C≠D
section
variable{P:Program}{w:World}{K:PySem.W.Frag}{mg:Str->Option Value}{base:Heap}{C CD:Addr}
theorem eI.desk{H:Hp}{j k dx:Addr}{J:JR}{fs:List (Str×V)}{o:HO}(A:eI C H j J)(h:H k=some (.ins CD dx fs))(O:C≠CD):eI C (upd H k o) j J:=by
 refine A.kp (M:=[k]) (Kp.put Kp.refl sS) λa o' _ S=>?_;rw[qAH.mp S];exact⟨(zAu A.ob h λz=>O$ by injection z).symm,(zAu A.row h λz=>nomatch z).symm,(zAu A.prs.top h λz=>nomatch z).symm,(zAu A.abv h λz=>nomatch z).symm,(λq W=>(zAu (A.prs.row q W) h λz=>nomatch z).symm),(λn hn=>(zAu (A.sets n hn) h λz=>nomatch z).symm)⟩
inductive gE(C CD:Addr)(vs:List V)(H:Hp)(Q:VK)(u_3:XK):Prop
 |mk:∀(x dx:Addr),vs=[.ref x]->H x=some (.ins CD dx [])->(∀(j e:Addr)(J:JR)(H':Hp),H' x=some (.ins CD dx$ df j 2 e)->eI C H' j J->J.ns=[]->Kp [x] H H'->Q .non H')->gE C CD vs H Q u_3
abbrev zC9:Stmt:=zDw (top 104) 0
theorem zIa:c_ ["self"] ["self"] (zAe zC9):=fnS
theorem jY(F:Fun K "__init__" "Desk.__init__" zC9 f fd)(U:DC K mg C CD)(S:Mkr P w K mg base C "Jobs" 4 ["self","names","orders"] (gY C)):eC P w K mg base CX0 6 f fd ["self"] (gE C CD):=by
 refine F.ok zIa (λvs H Q E h=>?_) λaf A aa s H vs Q E hr h=>?_
 .obtain ⟨x,dx,rfl,_⟩:=h;rfl
 .obtain ⟨x,dx,rfl,hx,k⟩:=h;have ab:=hr.mono (j:=5) dD
  refine⟨_,(zAb (zGv (pv 0) (zLd S ab rF$ zAa (zAw zAc)$ zAa (zAw zAc) zAc) rF) (zAb (zGv (pv 0) zAg rF)$ zAd$ zGv (pv 0) zB1 rF)),?_⟩
  refine⟨(by walk_at"ln"),λa1 h1=>?_⟩;obtain⟨H1,e1,k1,t1⟩:=eL (o:=.lst []) h1;rw[e1];refine⟨(by walk_at"ln"),λa2 h2=>?_⟩;obtain⟨H2,e2,k2,t2⟩:=eL (o:=.lst []) h2;rw[e2];have ad:=k1.trans k2;refine λy dy hy ae _=>?_;have k3:Kp [] H2 (upd (upd H2 dy$ .own y) y$ .ins C dy []):=Kp.new (Kp.new Kp.refl ae) hy;refine⟨y,dy,a1,a2,[],[],λ_=>0,rF,ac,k3 _ _ (k2 _ _ t1 sS) sS,⟨k3 _ _ t2 sS,(λ_ z=>nomatch z),(λ_ z=>nomatch z)⟩,⟨(λ_ z=>nomatch z),qAt,sS,sS,(λ_ z=>nomatch z),(λ_ z=>nomatch z)⟩,λJ H4 A4 _ en _ k4=>⟨rF,?_⟩⟩;have O:Kp [] H H4:=ad.trans$ Kp.drop k3 hy k4;have V:=O _ _ hx sS;refine⟨_,rF,x,CD,dx,_,rF,V,U.cl,U.n_jobs,dD,?_⟩;refine⟨_,rF,x,CD,dx,_,rF,ac,U.cl,U.n_benches,(by rw[eJ];show(1:Nat)<1000;decide),?_⟩;refine λe W=>?_;refine⟨_,rF,x,CD,dx,_,rF,(Kp.new (M:=[]) Kp.refl W) _ _ ac sS,U.cl,U.n_ends,?_,?_⟩
  .rw [eJ,eJ,qAC kK,eJ];show(2:Nat)<1000;decide
  have A5:=A4.desk (o:=.ins CD dx$ eJ "jobs" (.ref y) []) V U.ne;have A6:=A5.desk (o:=.ins CD dx$ eJ "benches" (.int 2)$ eJ "jobs" (.ref y) []) ac U.ne;have A7:=A6.kp0$ Kp.new (M:=[]) (l:=e) (o:=.dK []) Kp.refl W;have A8:=A7.desk (o:=.ins CD dx$ df y 2 e) ((Kp.new (M:=[]) Kp.refl W) _ _ ac sS) U.ne;refine k y e J _ ac A8 en ?_;exact Kp.put ((Kp.put (Kp.put (O.weak sS) sS) sS).trans$ (Kp.new (M:=[]) Kp.refl W).weak sS) sS
inductive xf(C CD:Addr)(vs:List V)(H:Hp)(Q:VK)(u_3:XK):Prop
 |mk:∀(k dx j e:Addr)(b:Int)(ns:List Str) (qs:List (List Str×Addr)) (r:Str->Nat),vs=[.ref k,.str (gt ns$ qs.map (·.1))]->H k=some (.ins CD dx$ df j b e)->gn ns qs r->(∀q∈qs,∃a b,q.1=[a,b])->(∀(j' e':Addr)(J:JR)(H':Hp),H' k=some (.ins CD dx$ df j' b e')->eI C H' j' J->J.ns=ns->(∀k,k∈J.zs.map (·.1)↔k∈qs.map (·.1))->Kp [k] H H'->Q (.str "ok") H')->xf C CD vs H Q u_3
abbrev zCw:Stmt:=zDw (top 104) 5
theorem zHj:c_ ["self","text"] ["self","text"] (zAe zCw):=fnS
theorem zHp(F:Fun K "take_jobs" "Desk.take_jobs" zCw f fd)(T:Txt K mg)(U:DC K mg C CD)(S:Cal P w K mg base "read_jobs" 6 ["text"] (j5 C)):eC P w K mg base CX0 7 f fd ["self","text"] (xf C CD):=by
 refine F.ok zHj (λvs H Q E h=>?_) λaa A V s H vs Q E hr h=>?_
 .obtain ⟨k,dx,j,e,b,ns,qs,r,rfl,_⟩:=h;rfl
 .obtain ⟨k,dx,j,e,b,ns,qs,r,rfl,hk,G,two,q⟩:=h;obtain⟨tO,hO⟩:=T.c_OK
  refine⟨_,(zAb (zGv (pv 0) (zAf S hr rF$ zAa (pv 1) zAc) rF) (zAb (zGv (pv 0) zB1 rF)$ zAd$ zAk$ zDb rF hO (v:=.str "ok") ⟨_,rF⟩)),?_⟩
  refine⟨_,rF,ns,qs,r,rF,G,two,λj' J H1 A1 en hz W=>?_⟩;have O:=W _ _ hk sS;refine⟨_,rF,k,CD,dx,_,rF,O,U.cl,U.n_jobs,nA,?_⟩;rw[vI];refine λe' he=>?_;have kk:=Kp.new (M:=[]) (l:=e') (o:=.dK []) Kp.refl he;refine⟨_,rF,k,CD,dx,_,rF,kk _ _ ac sS,U.cl,U.n_ends,nA,?_⟩;rw[u8];have A2:=A1.desk (o:=.ins CD dx$ df j' b e) O U.ne;have A3:=(A2.kp0 kk).desk (o:=.ins CD dx$ df j' b e') (kk _ _ ac sS) U.ne;exact q j' e' J _ ac A3 en hz$ Kp.put ((Kp.put (W.weak sS) sS).trans$ kk.weak sS) sS
inductive xg(CD:Addr)(vs:List V)(H:Hp)(Q:VK)(u_3:XK):Prop
 |mk:∀(k dx j e:Addr)(b b':Int),vs=[.ref k,.int b']->1<=b'->H k=some (.ins CD dx$ df j b e)->Q (.str "ok") (upd H k$ .ins CD dx$ df j b' e)->xg CD vs H Q u_3
abbrev zB7:Stmt:=zDw (top 104) 6
theorem zFs:c_ ["self","number"] ["self","number"] (zAe zB7):=fnS
theorem zFu(F:Fun K "take_benches" "Desk.take_benches" zB7 f fd)(T:Txt K mg)(U:DC K mg C CD)(S:Cal P w K mg base "check_benches" 2 ["benches"] gb):eC P w K mg base CX0 3 f fd ["self","number"] (xg CD):=by
 refine F.ok zFs (λvs H Q E h=>?_) λV A O s H vs Q E W h=>?_
 .obtain ⟨k,dx,j,e,b,b',rfl,_⟩:=h;rfl
 .obtain ⟨k,dx,j,e,b,b',rfl,hb,hk,q⟩:=h;obtain⟨tO,hO⟩:=T.c_OK
  refine⟨_,(zAb (zBb$ zAf S W rF$ zAa (pv 1) zAc) (zAb (zGv (pv 0) (pv 1) rF)$ zAd$ zAk$ zDb rF hO (v:=.str "ok") ⟨_,rF⟩)),?_⟩
  refine⟨_,rF,b',rF,hb,?_⟩;refine⟨_,rF,_,rF,k,CD,dx,_,rF,hk,U.cl,U.n_benches,nA,?_⟩;rw[xB];exact q
end
section
variable{P:Program}{w:World}{K:PySem.W.Frag}{mg:Str->Option Value}{base:Heap}{C CD:Addr}
structure fF(C CD:Addr)(H:Hp)(k dx j e:Addr)(b:Int)(J:JR):Prop where
 ob:H k=some (.ins CD dx$ df j b e)
 a:eI C H j J
theorem fF.kp0{H H':Hp}{k dx j e:Addr}{b:Int}{J:JR}(D:fF C CD H k dx j e b J)(q:Kp [] H H'):fF C CD H' k dx j e b J:=⟨q _ _ D.ob sS,D.a.kp0 q⟩
theorem jw{J:JR}{b:Int}{rs:List (List Str)}(nm:∀n∈J.ns,zBg n)(few:J.ns.length<=7)(R:fJ J b rs)(l:rs.length<=40):zDt rs:=⟨l,λr O=>by
 obtain⟨i,hi⟩:=qDc.mp O;have T:=R.atq i r hi;exact⟨qAR (zB4 T.nd T.ns) few,λs hs=>nm s$ T.ns s hs⟩⟩
inductive kj(C CD:Addr)(vs:List V)(H:Hp)(Q:VK)(u_3:XK):Prop
 |mk:∀(k dx j e:Addr)(b:Int)(J:JR)(r:Str->Nat),vs=[.ref k,.str "fewest"]->fF C CD H k dx j e b J->(∀n∈J.ns,∀x∈J.S n,r x<r n)->(∀n∈J.ns,zBg n)->1<=b->J.ns.length<=7->(∀(rs:List (List Str)) (H':Hp),fJ J b rs->rs.length<=7->(∀rs',Pth J b J.ns rs'->rs.length<=rs'.length)->Pth J b J.ns rs->Kp [] H H'->Q (.str$ zF8 rs) H')->kj C CD vs H Q u_3
abbrev zCg:Stmt:=zDw (top 104) 2
theorem zF1:c_ ["self","word"] ["self","word"] (zAe zCg):=fnS
theorem zGa(F:Fun K "answer_word" "Desk.answer_word" zCg f fd)(U:DC K mg C CD)(S:Cal P w K mg base "fewest" 7 ["jobs","benches"] (gP C))(O:Cal P w K mg base "plan_text" 2 ["plan"] gm):eC P w K mg base CX0 8 f fd ["self","word"] (kj C CD):=by
 refine F.ok zF1 (λvs H Q E h=>?_) λad A aa s H vs Q E hr h=>?_
 .obtain ⟨k,dx,j,e,b,J,r,rfl,_⟩:=h;rfl
 .obtain ⟨k,dx,j,e,b,J,r,rfl,D,rk,nm,hb,few,q⟩:=h;have ab:=hr.mono (j:=2) dD
  refine⟨_,(zAb (zA1 (zAj zCo (pv 1) zAm$ zAo _) (zAd zAq) zAi) (zAb (zA1 (zAj zCo (pv 1) zAm$ zAo _) (zAd zAq) zAi)
   (zAb (zA1 (zAj zCo (pv 1) zAm$ zAo _) (zAd zAq) zAi)
   (zAb (zA1 (zAj zCo (pv 1) zAm$ zAo _) (zAd zAq) zAi)
   (zAb (zA1 (zAj zCo (pv 1) zAm$ zAo _)
    (zAd$ zAk$ zAf O ab rF$ zAa (zAf S hr rF$ zAa (zD2 (pv 0) rF)$ zAa (zD2 (pv 0) rF) zAc) zAc)
    zAi)$ zAd zAq))))),?_⟩
  have no:∀{x y:Str},x≠y->decide (V.str x=V.str y)=false:=λ{x y} h=>qAP λz=>h (by injection z);refine⟨_,rF,rF,_,rF,?_⟩;rw[no kK];refine eG ⟨_,rF,rF,_,rF,?_⟩;rw[no kK];refine eG ⟨_,rF,rF,_,rF,?_⟩;rw[no kK];refine eG ⟨_,rF,rF,_,rF,?_⟩;rw[no kK];refine eG ⟨_,rF,rF,_,rF,?_⟩;rw[qAJ rF];refine fE ?_;refine⟨_,rF,k,CD,dx,_,_,rF,D.ob,U.cl,U.n_jobs,ju,_,rF,k,CD,dx,_,_,rF,D.ob,U.cl,U.n_benches,m9,j,b,J,r,rF,D.a,rk,hb,few,λa rs H1 R1 _ lay mn k1=>?_⟩;have p1:=(zG7 lay).1;have R:=p1.ok D.a.nd hb;obtain⟨W,p2,l2⟩:=zLg hb D.a.nd rk;have l1:=mn W p2;rw[l2]at l1;refine⟨a,rs,rF,R1.pla,jw nm few R (by rw[qAB];lia),λH2 k2=>?_⟩;exact q _ H2 R (by rw[qAB];lia) (λW h=>by rw[qAB];exact mn W h) p1$ k1.trans k2
inductive gg(C CD:Addr)(vs:List V)(H:Hp)(Q:VK)(u_3:XK):Prop
 |jobs:∀(k dx j e:Addr)(b:Int)(ns:List Str) (qs:List (List Str×Addr)) (r:Str->Nat),vs=[.ref k,.str "jobs",.str (gt ns$ qs.map (·.1))]->H k=some (.ins CD dx$ df j b e)->gn ns qs r->(∀q∈qs,∃a b,q.1=[a,b])->(∀(j' e':Addr)(J:JR)(H':Hp),fF C CD H' k dx j' e' b J->J.ns=ns->(∀k,k∈J.zs.map (·.1)↔k∈qs.map (·.1))->Kp [k] H H'->Q (.str "ok") H')->gg C CD vs H Q u_3
 |ben:∀(k dx j e:Addr)(b:Int)(J:JR)(n:Nat),vs=[.ref k,.str "benches",.str (nS n)]->1<=n->n<64->fF C CD H k dx j e b J->(∀H',fF C CD H' k dx j e n J->Kp [k] H H'->Q (.str "ok") H')->gg C CD vs H Q u_3
 |cnt:∀(k dx j e:Addr)(b:Int)(J:JR)(n:Nat),vs=[.ref k,.str "count",.str (nS n)]->n<=40->fF C CD H k dx j e b J->1<=b->J.ns.length<=7->(eZ J b n).natAbs.log2<1920->(∀H',Kp [] H H'->Q (.str$ toString$ eZ J b n) H')->gg C CD vs H Q u_3
 |look:∀(k dx j e:Addr)(b:Int)(J:JR) (rs:List (List Str)),vs=[.ref k,.str "look",.str (zF8 rs)]->zDt rs->fF C CD H k dx j e b J->1<=b->qe (zBn J b 1 [] rs)->(∀H',Kp [] H H'->Q (.str$ frT$ zBn J b 1 [] rs) H')->gg C CD vs H Q u_3
abbrev zCh:Stmt:=zDw (top 104) 3
theorem zF2:c_ ["self","word","rest"] ["self","word","rest"] (zAe zCh):=fnS
theorem zGb(F:Fun K "answer_more" "Desk.answer_more" zCh f fd)(T:Txt K mg)(U:DC K mg C CD)(aa:Mth P w K mg base CD "take_jobs" 7 ["self","text"] (xf C CD))(S:Mth P w K mg base CD "take_benches" 3 ["self","number"] (xg CD))(O:Cal P w K mg base "read_number" 1 ["word"] nG)(ad:Cal P w K mg base "counted" 7 ["jobs","benches","turns"] (gr C))(ab:Cal P w K mg base "read_plan" 4 ["text"] gf)(ae:Cal P w K mg base "fault" 6 ["jobs","benches","plan"] (js C))(W:Cal P w K mg base "fault_text" 2 ["found"] jQ):eC P w K mg base CX0 8 f fd ["self","word","rest"] (gg C CD):=by
 refine F.ok zF2 (λvs H Q E h=>?_) λan A ag s H vs Q E hr h=>?_
 .cases h with
  |jobs k dx j e b ns qs r ev=>rw[ev];rfl
  |ben k dx j e b J n ev=>rw[ev];rfl
  |cnt k dx j e b J n ev=>rw[ev];rfl
  |look k dx j e b J rs ev=>rw[ev];rfl
 .have af:=hr.mono (j:=1) dD;have ah:=hr.mono (j:=2) dD;have ai:=hr.mono (j:=3) dD;have aj:=hr.mono (j:=4) dD;have ak:=hr.mono (j:=6) dD
  refine⟨_,(zAb (zA1 (zAj zCo (pv 1) zAm$ zAo _) (zAd$ zAk$ zBf aa U.cl hr (pv 0)$ zAa (pv 2) zAc) zAi) (zAb (zA1 (zAj zCo (pv 1) zAm$ zAo _)
    (zAd$ zAk$ zBf S U.cl ai (pv 0)$ zAa (zAf O af rF$ zAa (pv 2) zAc) zAc)
    zAi)
   (zAb (zA1 (zAj zCo (pv 1) zAm$ zAo _) (zAd zAq) zAi)
   (zAb (zA1 (zAj zCo (pv 1) zAm$ zAo _)
    (zAd$ zAk$ zAz zBo rR T.z_str zDg$ zAa (zAf ad hr rF$ zAa (zD2 (pv 0) rF)$ zAa (zD2 (pv 0) rF)$ zAa (zAf O af rF$ zAa (pv 2) zAc) zAc) zAc)
    zAi)
   (zAb (zA1 (zAj zCo (pv 1) zAm$ zAo _)
    (zAd$ zAk$ zAf W ah rF$ zAa (zAf ae ak rF$ zAa (zD2 (pv 0) rF)$ zAa (zD2 (pv 0) rF)$ zAa (zAf ab aj rF$ zAa (pv 2) zAc) zAc) zAc)
    zAi)$ zAd zAq))))),?_⟩
  have no:∀{x y:Str},x≠y->decide (V.str x=V.str y)=false:=λ{x y} h=>qAP λz=>h (by injection z)
  cases h with
  |jobs k dx j e b ns qs r ev hk G two q=>
   subst ev;refine⟨_,rF,rF,_,rF,?_⟩;rw[qAJ rF];refine fE ⟨_,rF,k,dx,_,rF,hk,zJ5 kK kK kK,_,rF,k,dx,j,e,b,ns,qs,r,rF,hk,G,two,λj' e' J H' h1 h2 h3 h4 h5=>q j' e' J H' ⟨h1,h2⟩ h3 h4 h5⟩
  |ben k dx j e b J n ev n1 al D q=>
   subst ev;refine⟨_,rF,rF,_,rF,?_⟩;rw[no kK];refine eG ⟨_,rF,rF,_,rF,?_⟩;rw[qAJ rF];refine fE ⟨_,rF,k,dx,_,rF,D.ob,zJ5 kK kK kK,_,rF,n,rF,al,λH1 k1=>?_⟩;have D1:=D.kp0 k1;exact⟨k,dx,j,e,b,n,rF,lL,D1.ob,q _ ⟨ac,D1.a.desk D1.ob U.ne⟩$ Kp.put (k1.weak sS) sS⟩
  |cnt k dx j e b J n ev am D hb few lg q=>
   subst ev;refine⟨_,rF,rF,_,rF,?_⟩;rw[no kK];refine eG ⟨_,rF,rF,_,rF,?_⟩;rw[no kK];refine eG ⟨_,rF,rF,_,rF,?_⟩;rw[no kK];refine eG ⟨_,rF,rF,_,rF,?_⟩;rw[qAJ rF];refine fE ⟨_,rF,k,CD,dx,_,_,rF,D.ob,U.cl,U.n_jobs,ju,_,rF,k,CD,dx,_,_,rF,D.ob,U.cl,U.n_benches,m9,_,rF,n,rF,lL,λH1 k1=>?_⟩;refine⟨j,b,n,J,rF,D.a.kp0 k1,hb,am,few,λH2 k2=>⟨_,rF,lg,q H2$ k1.trans k2⟩⟩
  |look k dx j e b J rs ev ok D hb fo q=>
   subst ev;refine⟨_,rF,rF,_,rF,?_⟩;rw[no kK];refine eG ⟨_,rF,rF,_,rF,?_⟩;rw[no kK];refine eG ⟨_,rF,rF,_,rF,?_⟩;rw[no kK];refine eG ⟨_,rF,rF,_,rF,?_⟩;rw[no kK];refine eG ⟨_,rF,rF,_,rF,?_⟩;rw[qAJ rF];refine fE ⟨_,rF,k,CD,dx,_,_,rF,D.ob,U.cl,U.n_jobs,ju,_,rF,k,CD,dx,_,_,rF,D.ob,U.cl,U.n_benches,m9,_,rF,rs,rF,ok,λl ps H1 R1 ep k1=>?_⟩;have lp:=qAf List.length ep;rw[qAB]at lp;have o1:=ok.1;refine⟨j,l,b,J,ps,rF,D.a.kp0 k1,hb,R1,lL,λp hp=>?_,λx H2 k2 fx=>?_⟩
   .have:=(ok.2 p.2$ by rw[<-ep];exact qAG.mpr ⟨p,hp,rF⟩).1;lia
   .rw [ep]at fx;exact⟨x,_,rF,fx,fo,λH3 k3=>q H3$ (k1.trans k2).trans k3⟩
inductive gj(C CD:Addr)(vs:List V)(H:Hp)(Q:VK)(u_3:XK):Prop
 |word:∀(k dx:Addr) (fs:List (Str×V)),vs=[.ref k,.str "fewest"]->H k=some (.ins CD dx fs)->fs.lookup ("answer_word": Str)=none->(∀H',Kp [] H H'->kj C CD [.ref k,.str "fewest"] H' Q E0)->gj C CD vs H Q u_3
 |more:∀(k dx:Addr) (fs:List (Str×V)) (x y row:Str),vs=[.ref k,.str row]->row=x++ " "++y->32∉x.cps.toList->row.length<=1000000->H k=some (.ins CD dx fs)->fs.lookup ("answer_more": Str)=none->(∀H',Kp [] H H'->gg C CD [.ref k,.str x,.str y] H' Q E0)->gj C CD vs H Q u_3
abbrev zHl:Stmt:=zDw (top 104) 1
theorem zI4:c_ ["self","row","parts"] ["self","row"] (zAe zHl):=fnS
theorem kX(F:Fun K "say" "Desk.say" zHl f fd)(T:Txt K mg)(U:DC K mg C CD)(O:Mth P w K mg base CD "answer_word" 8 ["self","word"] (kj C CD))(S:Mth P w K mg base CD "answer_more" 8 ["self","word","rest"] (gg C CD)):eC P w K mg base CX0 9 f fd ["self","row"] (gj C CD):=by
 refine F.ok zI4 (λvs H Q E h=>?_) λad A aa s H vs Q E hr h=>?_
 .cases h with
  |word k dx fs W=>rw[W];rfl
  |more k dx fs x y ab W=>rw[W];rfl
 .refine ⟨_,(zAb (zA1 (zBy$ zBv$ zAn zB2 rR T.z_isinstance zA3$ zAa (pv 1)$ zAa (zCx rR T.z_str zDg (v:=.ty "str") rF) zAc) (zAd zAq) zAi) (zAb (psS (i:=2) zI4.nd$ zCj qBE PySem.F.slot_str_partition PySem.F.type_str_partition j6 (pv 1)$ zAa zAm zAc)
   (zAb (zA1 (zAj zCo (zA9 zH5 (pv 2) zAg fun _ _=>rfl) zAm$ zAo _)
    (zAd$ zAk$ zBf O U.cl hr (pv 0)$ zAa (pv 1) zAc)
    zAi)$ zAd$ zAk$ zBf S U.cl hr (pv 0)$ zAa (zA9 zH5 (pv 2) zAg λ_ _=>rfl)$ zAa (zA9 zH5 (pv 2) zAg λ_ _=>rfl) zAc))),?_⟩
  cases h with
  |word k dx fs W hk no q=>
   subst W;refine⟨_,rF,_,_,_,_,rF,fL.str _,zC2,_,rF,eG ?_⟩;refine⟨_,rF,rF,_,_,rF,rF,dD,kK,λt ht=>?_⟩;rw[lO];have kt:Kp [] H (upd H t$ .tup [.str "fewest",.str "",.str ""]):=Kp.new Kp.refl ht;refine⟨_,rF,_,_,_,_,rF,rF,SqT.of ac,rF,rF,_,rF,?_⟩;rw[qAJ rF];exact fE ⟨_,rF,k,dx,fs,rF,kt _ _ hk sS,no,_,rF,q _ kt⟩
  |more k dx fs x y ab W er h32 hl hk no q=>
   subst W;refine⟨_,rF,_,_,_,_,rF,fL.str _,zC2,_,rF,eG ?_⟩;refine⟨_,rF,rF,_,_,rF,rF,dD,hl,λt ht=>?_⟩;rw[er,nC h32];have kt:Kp [] H (upd H t$ .tup [.str x,.str " ",.str y]):=Kp.new Kp.refl ht;refine⟨_,rF,_,_,_,_,rF,rF,SqT.of ac,rF,rF,_,rF,?_⟩;rw[qAP$ show¬(V.str (" ": Str)=V.str ("": Str)) from λz=>by injection z with z;exact absurd z kK];exact eG ⟨_,rF,k,dx,fs,rF,kt _ _ hk sS,no,_,rF,_,_,_,_,rF,rF,SqT.of ac,rF,_,rF,_,_,_,_,rF,rF,SqT.of ac,rF,q _ kt⟩
end
theorem j8(a b:Nat):Builtin.bitAnd (a:Int) (b:Int)=((a &&& b:Nat):Int):=by
 unfold Builtin.bitAnd;rw[qAJ$ qCU a,qAJ$ qCU b];rfl
theorem rG(a b:Nat):Builtin.bitOr (a:Int) (b:Int)=((a ||| b:Nat):Int):=by
 have e:∀x:Int,Builtin.bitNot (Builtin.bitNot x)=x:=λx=>by unfold Builtin.bitNot;lia
 have n:∀a:Nat,¬(0:Int)<=Builtin.bitNot (a:Int):=λa=>by unfold Builtin.bitNot;lia
 unfold Builtin.bitOr Builtin.bitAnd;rw[qAP$ n a,qAP$ n b];simp only[e,qBQ]
theorem nE(D i:Nat):Builtin.bitAnd ((D:Int) / 2^i) 1=if D.testBit i=true then 1 else 0:=by
 have e:(D:Int) / 2^i=((D / 2^i:Nat):Int):=sS
 rw[e,show(1:Int)=((1:Nat):Int) from rfl,j8,Nat.and_one_is_mod,Nat.testBit_eq_decide_div_mod_eq];rcases Nat.mod_two_eq_zero_or_one (D / 2^i) with z|z<;>simp[z]
theorem xK(M k:Nat):Builtin.bitOr (M:Int) (1*2^k)=((M ||| 2^k:Nat):Int):=by
 rw[show(1*2^k:Int)=((2^k:Nat):Int) by simp,rG]
def zDh(fs:List Nat):List Nat:=fs.foldl (λL k=>L++L.map λM=>M ||| 2^k) [0]
theorem zFa(fs:List Nat)(k:Nat):zDh (fs++[k])=zDh fs++(zDh fs).map λM=>M ||| 2^k:=by unfold zDh;rw[qA8];rfl
theorem zH0{k:Nat}:(2^k).testBit i=decide (k=i):=Nat.testBit_two_pow
theorem iF(n:Nat):∀fs:List Nat,fs.length=n->(zDh fs).length=2^n:=by
 induction n with
 |zero=>intro fs h;rw[qBa.mp h];rfl
 |succ n O=>
  intro fs h;have S:fs≠[]:=λz=>by rw[z]at h;cases h
  rw[<-qCQ S,zFa,qAV,qAB,O _ (by rw[qC6,h];rfl),qDE];lia
theorem qE(n:Nat):∀fs:List Nat,fs.length=n->∀M:Nat,M∈zDh fs↔∀k,M.testBit k=true->k∈fs:=by
 induction n with
 |zero=>
  intro fs h M;rw[qBa.mp h];constructor
  .intro z k O;rw[show M=0 from qAH.mp z,qDd]at O
   cases O
  .intro z;refine qAH.mpr$ qBs λi=>?_;rw[qDd]
   cases e:M.testBit i with
   |false=>rfl
   |true=>exact absurd (z i e) sS
 |succ n S=>
  intro fs h M;have V:fs≠[]:=λz=>by rw[z]at h;cases h
  have S:=S fs.dropLast (by rw[qC6,h];rfl);rw[<-qCQ V];generalize fs.dropLast=gs at S;generalize fs.getLast V=q;rw[zFa,qAK,S];constructor
  .rintro (z|z) k O
   .exact qAK.mpr$ .inl$ z k O
   .obtain ⟨W,h1,rfl⟩:=qAG.mp z;rw[qB6,zH0,qCf]at O;rcases O with y|y
    .exact qAK.mpr$ .inl$ (S W).mp h1 k y
    .exact qAK.mpr (.inr$ by rw[qAn y];simp)
  .intro z
   cases e:M.testBit q with
   |false=>
    refine .inl λk O=>(qAK.mp$ z k O).resolve_right λy=>?_;rw[qAH.mp y,e]at O;cases O
   |true=>
    refine .inr$ qAG.mpr ⟨M ^^^2^q,(S _).mpr λk O=>?_,qBs λi=>?_⟩
    .rw [Nat.testBit_xor,zH0]at O
     by_cases y:q=k
     .rw [<-y,e]at O;simp at O
     .rw [qAP y,Bool.xor_false]at O;exact(qAK.mp$ z k O).resolve_right λu=>y (qAH.mp u).symm
    .rw [qB6,Nat.testBit_xor,zH0]
     by_cases y:q=i
     .rw [<-y,e];simp
     .rw [qAP y];simp
def zFy(p:Nat->Bool):Nat->Nat
 |0=>0
 |n+1=>zFy p n ||| (if p n=true then 2^n else 0)
theorem zIz(p:Nat->Bool)(k:Nat):∀n,(zFy p n).testBit k=(decide (k<n)&&p k)
 |0=>by simp[zFy]
 |n+1=>by
  rw[zFy,qB6,zIz p k n]
  by_cases z:k=n
  .subst z
   cases y:p k<;>simp[zH0]
  .have e:decide (k<n+1)=decide (k<n):=by rw[decide_eq_decide];lia
   rw[e]
   have:(if p n=true then 2^n else 0).testBit k=false:=by
    split
    .rw [zH0];exact qAP λy=>z y.symm
    .exact qDd k
   rw[this,qC4]
def zDi(A:List Nat)(D k:Nat):Bool:=!D.testBit k&&decide (A.getD k 0 &&& D=A.getD k 0)
abbrev vN(x:Nat):V:=.int (x:Int)
theorem g5{S:List Nat}{v:V}(h:(S.map vN)[i]?=some v):∃n,S[i]?=some n/\v=vN n:=by
 rw[qAU]at h;obtain⟨n,e,r⟩:=qAw.mp h;exact⟨n,e,r.symm⟩
theorem zBr{α:Type}{L:List α}{x:α}(p:α->Bool)(e:L[i]?=some x):(L.take$ i+1).filter p=(L.take i).filter p++if p x=true then[x]else[]:=by
 rw[zAh e,qBD,qA9];split<;>rfl
theorem rM{n:Nat}(h:i<n):(List.range n)[i]?=some i:=qBq h
theorem lD(M:Nat):∀fs:List Nat,(fs.map λk=>if M.testBit k=true then(1:Int) else 0).sum=(fs.filter λk=>M.testBit k).length
 |[]=>rfl
 |k::fs=>by
  rw[qAi,List.sum_cons,lD M fs,qA9]
  cases M.testBit k<;>simp
  lia
theorem jM(p:Nat->Bool):∀n,zFy p n<2^n
 |0=>by simp[zFy]
 |n+1=>Nat.lt_pow_two_of_testBit _ λk O=>by rw[zIz,qAP lL,qC0]
theorem zKa(p:Nat->Bool):∀n,(((List.range n).filter p).map λj=>(1*2^j:Int)).sum=(zFy p n:Int)
 |0=>rfl
 |n+1=>by
  rw[List.range_succ,qBD,qAI,List.sum_append,zKa p n,zFy,qA9]
  cases e:p n with
  |false=>simp
  |true=>
   have h:=Nat.two_pow_add_eq_or_of_lt (jM p n) 1;rw[Nat.mul_one]at h;rw[qAD rF,qAD rF,Nat.or_comm,<-h];simp;lia
abbrev kM(x:Nat):Key:=Sum.inl (x:Int)
def mkB(ns D:List Str):Nat:=zFy (λj=>decide$ ns.getD j "" ∈D) ns.length
def stM(A:List Nat)(n D:Nat)(b:Int):List Nat:=(zDh$ (List.range n).filter$ zDi A D).filter λM=>decide$ (((List.range n).filter$ zDi A D).filter λk=>M.testBit k).length<=b
section
variable{ns:List Str}{D r:List Str}{j k:Nat}
theorem zGl:(mkB ns D).testBit k=(decide (k<ns.length)&&decide (ns.getD k "" ∈D)):=zIz _ k _
theorem zE6(h:k<ns.length):ns[k]?=some (ns.getD k ""):=by rw[qBN,qAx h];rfl
theorem zFm(h:k<ns.length):ns.getD k "" ∈ns:=qAN$ zE6 h
theorem mf(S:ns.Nodup)(O:j<ns.length)(V:k<ns.length)(e:ns.getD j ""=ns.getD k ""):j=k:=by
 have h1:=zE6 O;rw[e,<-zE6 V]at h1;exact(List.getElem?_inj O S).mp h1
theorem xp(ns:List Str):(List.range ns.length).map (λk=>ns.getD k "")=ns:=by
 apply List.ext_getElem?;intro i
 by_cases h:i<ns.length
 .rw [qAU,qBq h,zE6 h];rfl
 .rw [qDG (by rw[qAB,qBJ];lia),qDG lL]
theorem uV(p:Str->Bool):ns.filter p=((List.range ns.length).filter λk=>p$ ns.getD k "").map λk=>ns.getD k "":= by
 have:(λk=>p$ ns.getD k "")=p∘λk=>ns.getD k "":= rfl;rw[this,<-List.filter_map,xp]
theorem yK{D r:List Str}:mkB ns (fH ns D r)=mkB ns D ||| mkB ns r:=qBs λk=>by
 rw[qB6,zGl,zGl,zGl,<-Bool.and_or_distrib_left]
 by_cases h:k<ns.length
 .rw [qAJ h,qBH,qBH];unfold fH;rw[<-qDe,qA1,qAc,qCf];exact⟨λz=>z.2,λz=>⟨zFm h,z⟩⟩
 .rw [qAP h];rfl
theorem pL(O:ns.Nodup)(S:k<ns.length):mkB ns (r++[ns.getD k ""])=mkB ns r ||| 2^k:=qBs λj=>by
 rw[qB6,zGl,zGl,zH0]
 by_cases h:j<ns.length
 .rw [qAJ h,qBH,qBH,<-qDe,qA1,qCf,qA1,qA1,qAK,qAH];exact⟨λz=>z.imp id λy=>(mf O h S y).symm,λz=>z.imp id λy=>by rw[y]⟩
 .rw [qAP h,qC0,qC0,Bool.false_or,qAP lL]
theorem sF:mkB ns []=0:=qBs λj=>by rw[zGl,qDd];simp
theorem xE:mkB ns ns=2^ns.length-1:=qBs λj=>by
 rw[zGl,Nat.testBit_two_pow_sub_one]
 by_cases h:j<ns.length
 .rw [qAJ h,qAJ$ zFm h];rfl
 .rw [qAP h];rfl
theorem x6{p q:Str->Bool}(e:mkB ns (ns.filter p)=mkB ns (ns.filter q)):ns.filter p=ns.filter q:=by
 refine qBj λx O=>?_;obtain⟨i,hi⟩:=qDc.mp O;have S:i<ns.length:=(qAa.mp hi).1;have V:ns.getD i ""=x:=qAh$ (zE6 S).symm.trans hi;have h:=qAf (λM=>M.testBit i) e;simp only[zGl,qAJ S,qBH,V,qAc,O,true_and]at h
 cases h1:p x<;>cases h2:q x<;>simp[h1,h2]at h ⊢
theorem qN(nd:ns.Nodup)(b:Int)(b0:0<=b):∀(n:Nat)(fs:List Nat),fs.length=n->fs.Nodup->(∀k∈fs,k<ns.length) ->
  (zD1 b$ fs.map λk=>ns.getD k "").map (mkB ns)=((zDh fs).filter λM=>decide$ ((fs.filter λk=>M.testBit k).length:Int)<=b)/\∀r∈zD1 b (fs.map λk=>ns.getD k ""),(fs.filter λk=>(mkB ns r).testBit k).length=r.length/\∀x∈r,∃k∈fs,x=ns.getD k "":= by
 intro n
 induction n with
 |zero=>
  intro fs h _ _;rw[qBa.mp h];refine⟨?_,λr O=>?_⟩
  .show [mkB ns []]=[0].filter _;rw[sF];simp[b0]
  .rw [qAH.mp O];exact⟨rF,(λx hx=>nomatch hx)⟩
 |succ n ih=>
  intro fs h W lt;have ne:fs≠[]:=λz=>by rw[z]at h;cases h
  have e:=qCQ ne;have ih:=ih fs.dropLast (by rw[qC6,h];rfl) (W.sublist$ qDt fs) λk V=>lt k$ (qDt fs).subset V
  have nk:fs.getLast ne∉fs.dropLast:=λz=>by
   rw[<-e]at W;exact(qA6.mp W).2.2 _ z _ sS rF
  have lk:=lt _$ List.getLast_mem ne;have aa:∀k∈fs.dropLast,k<ns.length:=λk V=>lt k$ (qDt fs).subset V;rw[<-e];generalize fs.dropLast=S at ih nk aa;generalize fs.getLast ne=q at nk lk;obtain⟨i1,i2⟩:=ih
  have er:zD1 b ((S++[q]).map λk=>ns.getD k "")=zD1 b (S.map λk=>ns.getD k "")++((zD1 b$ S.map λk=>ns.getD k "").filter λr=>decide$ (r.length:Int)<b).map λr=>r++[ns.getD q ""]:=by
   unfold zD1;rw[qAI,qA8];rfl
  have nb:∀M∈zDh S,M.testBit q=false:=λM hM=>by
   cases y:M.testBit q with
   |false=>rfl
   |true=>exact absurd ((qE _ S rF M).mp hM q y) nk
  have c1:∀M:Nat,M.testBit q=false->((S++[q]).filter λk=>M.testBit k).length=(S.filter λk=>M.testBit k).length:=λM hM=>by
   rw[qBD,qA9,hM];simp
  have c2:∀M:Nat,((S++[q]).filter λk=>(M ||| 2^q).testBit k).length=(S.filter λk=>M.testBit k).length+1:=λM=>by
   rw[qBD,qAV,qBj (q:=λk=>M.testBit k) λk V=>by
    rw[qB6,zH0,qAP (λz:q=k=>nk$ by rw[z];exact V),qC4]]
   simp[qB6,zH0]
  have tq:∀r∈zD1 b (S.map λk=>ns.getD k ""),(mkB ns r).testBit q=false:=λr O=>by
   rw[zGl,Bool.and_eq_false_iff];refine .inr$ qAP λz=>?_;obtain⟨k,V,ek⟩:=(i2 r O).2 _ z;exact nk$ mf nd lk (aa k V) ek▸V
  refine⟨?_,λr O=>?_⟩
  .rw [er,zFa,qAI,qBD,i1];congr 1
   .exact qBj λM hM=>by rw[c1 M$ nb M hM]
   .have f1:((zD1 b$ S.map λk=>ns.getD k "").filter λr=>decide$ (r.length:Int)<b).map (mkB ns)=(zDh S).filter λM=>decide$ (((S.filter λk=>M.testBit k).length+1:Nat):Int)<=b:=by
     have g1:((zD1 b$ S.map λk=>ns.getD k "").map$ mkB ns).filter (λM=>decide$ ((S.filter λk=>M.testBit k).length:Int)<b)=((zD1 b$ S.map λk=>ns.getD k "").filter λr=>decide$ (r.length:Int)<b).map (mkB ns):=by
      rw[List.filter_map];congr 1;exact qBj λr O=>by show decide _=_;rw[(i2 r O).1]
     rw[<-g1,i1,List.filter_filter];refine qBj λM _=>?_;rw[<-qDe,qBn,qA1,qA1,qA1];lia
    have f2:((zD1 b$ S.map λk=>ns.getD k "").filter λr=>decide$ (r.length:Int)<b).map (λr=>mkB ns$ r++[ns.getD q ""])=(((zD1 b$ S.map λk=>ns.getD k "").filter λr=>decide$ (r.length:Int)<b).map$ mkB ns).map λM=>M ||| 2^q:=by
     rw[qAb];exact qBU λr _=>pL nd lk
    rw[qAb];refine Eq.trans f2 ?_;rw[f1,List.filter_map];congr 1;exact qBj λM _=>by show _=decide _;rw[c2]
  .rw [er]at O;rcases qAK.mp O with z|z
   .exact ⟨by rw[c1 _$ tq r z];exact(i2 r z).1,λx hx=>by obtain⟨k,h1,h2⟩:=(i2 r z).2 x hx;exact⟨k,qAj _ h1,h2⟩⟩
   .obtain ⟨r0,h1,rfl⟩:=qAG.mp z;have m0:=(qAc.mp h1).1;refine⟨by rw[pL nd lk,c2,(i2 r0 m0).1,qAV];rfl,λx hx=>?_⟩;rcases qAK.mp hx with y|y
    .obtain ⟨k,h1,h2⟩:=(i2 r0 m0).2 x y;exact⟨k,qAj _ h1,h2⟩
    .exact ⟨q,sS,qAH.mp y⟩
end
def AhB(J:JR)(A:List Nat):Prop:=A.length=J.ns.length/\∀k,k<J.ns.length->A.getD k 0=mkB J.ns (J.S$ J.ns.getD k "")
theorem vd{a d:Nat}:a &&& d=a↔∀j,a.testBit j=true->d.testBit j=true:=by
 constructor
 .intro h j O;have:=qAf (λx=>x.testBit j) h;simp only[Nat.testBit_and,O,qBH]at this;exact this
 .intro h;refine qBs λj=>?_;rw[Nat.testBit_and]
  cases e:a.testBit j with
  |false=>rfl
  |true=>rw[h j e];rfl
section
variable{J:JR}{A:List Nat}{b:Int}{D:List Str}
theorem qk(hA:AhB J A){k:Nat}(V:k<J.ns.length):zDi A (mkB J.ns D) k=(decide (J.ns.getD k "" ∉D)&&e_ J D (J.ns.getD k "")):=by
 unfold zDi;rw[zGl,qAJ V,qBH,decide_not,hA.2 k V];congr 1;rw[<-qDe,qA1,vd];unfold e_;rw[qBB];constructor
 .intro h m hm;obtain⟨m1,m2⟩:=qAc.mp hm;obtain⟨j,O⟩:=qDc.mp m1;have S:j<J.ns.length:=(qAa.mp O).1;have W:J.ns.getD j ""=m:=qAh$ (zE6 S).symm.trans O;have:=h j (by rw[zGl,qAJ S,W];exact m2);rw[zGl,qAJ S,W,qBH]at this;exact this
 .intro h j O;rw[zGl,qBn,qA1,qA1]at O;rw[zGl,qAJ O.1,qBH];exact h _$ qAc.mpr ⟨zFm O.1,qAJ O.2⟩
theorem xX(S:J.ns.Nodup)(V:AhB J A)(W:0<=b):stM A J.ns.length (mkB J.ns D) b=(zD1 b$ zHt J D).map (mkB J.ns):=by
 have ef:zHt J D=((List.range J.ns.length).filter$ zDi A$ mkB J.ns D).map λk=>J.ns.getD k "":= by
  unfold zHt;rw[uV];congr 1;exact qBj λk O=>(qk V$ qAz.mp O).symm
 rw[ef];exact(qN S b W _ _ rF (List.nodup_range.filter _) λk O=>qAz.mp (qAc.mp O).1).1.symm
def wM(ns:List Str)(A:WL):List (Key×V):=A.map λe=>(kM (mkB ns e.1),V.int e.2)
def Can(ns:List Str)(A:WL):Prop:=∀e∈A,∃p,e.1=ns.filter p
theorem nV{x y:List Str}(O:∃p,x=ns.filter p)(S:∃p,y=ns.filter p):kM (mkB ns x)=kM (mkB ns y)↔x=y:=by
 constructor
 .intro h;obtain⟨p,rfl⟩:=O;obtain⟨q,rfl⟩:=S;exact x6 (by have:=Sum.inl.inj h;lia)
 .intro h;rw[h]
theorem m_{k:List Str}(O:∃p,k=ns.filter p):∀A:WL,Can ns A->eX (wM ns A) (kM$ mkB ns k)=if k∈A.map (·.1) then some (.int$ fN A k) else none
 |[],_=>rfl
 |e::A,S=>by
  have W:=S e qAO;show eX ((kM (mkB ns e.1),V.int e.2)::wM ns A) (kM$ mkB ns k)=_
  by_cases z:e.1=k
  .rw [zBp$ (nV W O).mpr z,qAD (by rw[<-z];exact qAO),zIt z]
  .rw [zBl λy=>z$ (nV W O).mp y,m_ O A λe he=>S e$ qAS _ he]
   have:(k∈(e::A).map (·.1))↔k∈A.map (·.1):=by
    rw[qAi,qAQ];exact⟨λh=>h.resolve_left λy=>z y.symm,.inr⟩
   rw[zG8 z]
   by_cases c:k∈A.map (·.1)
   .rw [qAD c,qAD$ this.mpr c]
   .rw [qAC c,qAC λy=>c$ this.mp y]
theorem sj{k:List Str}{A:WL}(O:∃p,k=ns.filter p)(S:Can ns A):(eX (wM ns A)$ kM$ mkB ns k).getD (.int 0)= .int (fN A k):=by
 rw[m_ O A S];split
 .rfl
 .rename_i h;rw[zHs h];rfl
theorem xJ{k:List Str}{A:WL}(O:∃p,k=ns.filter p)(S:Can ns A)(nd:(A.map (·.1)).Nodup)(v:Int):eV (wM ns A) (kM$ mkB ns k) (.int$ fN A k+v)=wM ns (fC A k v):=by
 by_cases c:k∈A.map (·.1)
 .have:((wM ns A).any λkv=>decide$ kv.1=kM (mkB ns k))=true:=by
   obtain⟨e,h1,h2⟩:=qAG.mp c;exact qDY.mpr ⟨(kM (mkB ns e.1),V.int e.2),qAG.mpr ⟨e,h1,rF⟩,qAJ$ by rw[h2]⟩
  unfold eV fC;rw[qAD this,qAD c];unfold wM;rw[qAb,qAb];refine qBU λe W=>?_;show(if kM (mkB ns e.1)=kM (mkB ns k) then(kM (mkB ns e.1),V.int (fN A k+v)) else(kM (mkB ns e.1),V.int e.2))=(kM (mkB ns (if e.1=k then(e.1,e.2+v) else e).1),V.int (if e.1=k then(e.1,e.2+v) else e).2)
  by_cases z:e.1=k
  .rw [qAD (by rw[z]),qAD z,<-z,zIu nd W]
  .rw [qAC λy=>z$ (nV (S e W) O).mp y,qAC z]
 .rw [zFh _ (by rw[m_ O A S,qAC c]),zHs c,qDX];unfold fC wM;rw[qAC c,qAI];rfl
theorem vx{k:List Str}{A:WL}{v:Int}(V:∃p,k=ns.filter p)(S:Can ns A):Can ns (fC A k v):=λe O=>by
 unfold fC at O;split at O
 .obtain ⟨e',h1,rfl⟩:=qAG.mp O
  by_cases z:e'.1=k
  .rw [qAD z];exact S e' h1
  .rw [qAC z];exact S e' h1
 .rcases qAK.mp O with z|z
  .exact S e z
  .rw [qAH.mp z];exact V
end
end My
namespace L2
open PySem PySem.Spec PyProof.Rows
section
variable{X:Cx}
theorem qB(O:X.calm=true):zC4 X (.builtin "sum") (λxs H Q=>∃(p:Addr)(ns:List Int),xs=[.ref p]/\SqL X.K H p (ns.map V.int)/\Q (.int ns.sum) H):=by
 intro pins s σ H xs us Q I S h;obtain⟨p,ns,rfl,W,q⟩:=h;obtain⟨u,rfl,ru⟩:=S.one
 cases ru
 obtain⟨its,r,pl,hz⟩:=I.list W;obtain⟨xs,rfl,e⟩:=pe r
 have hI:s.heap.IsList p (intItems xs.toArray):=by
  have:=pl.isList
  rwa [show(xs.map λp=>Value.int p.1 p.2).toArray=intItems xs.toArray from by unfold intItems;simp]at this
 refine sum_intListG (I.ok.hd O) hI λh' tk aa hk=>?_
 have es:preSum (numAt xs.toArray) xs.toArray.size=ns.sum:=by
  rw[PySem.preSum_eq,<-e,qAT,qBC sS]
 exact⟨.int ns.sum,H,I.kept (t':=tk) hk,⟨_,by rw[es]⟩,q⟩
end
end L2
namespace My
open PySem L2
theorem zKt{X:Cx}{K:PySem.W.Frag}(O:X.calm=true)(S:X.K=K:=by rfl):zC4 X (.builtin "sum") (λxs H Q=>∃(p:Addr)(ns:List Int),xs=[.ref p]/\SqL K H p (ns.map V.int)/\Q (.int ns.sum) H):=by subst S;exact qB O
section
variable{P:Program}{w:World}{K:PySem.W.Frag}{mg:Str->Option Value}{base:Heap}
inductive gH(vs:List V)(H:Hp)(Q:VK)(u_3:XK):Prop
 |mk:∀(l m:Addr)(D:Nat)(b:Int)(ns:List Str)(A:List Nat),vs=[.ref l,.ref m,vN D,.int b]->Txs H l ns->H m=some (.lst$ A.map vN)->A.length=ns.length->ns.length<=7->(∀p H',Fre H p->H' p=some (.lst$ (stM A ns.length D b).map vN)->Kp [] H H'->Q (.ref p) H')->gH vs H Q u_3
abbrev zF4:Stmt:=top 116
theorem zGm:c_ ["_law_names_here","_law_ahead","_law_done","_law_benches","_law_free","_law_found","_law_k"] ["_law_names_here","_law_ahead","_law_done","_law_benches"] (zAe zF4):=fnS
theorem sA{f:Addr}{fd:FuncData}(F:Fun K "_law_steps" "_law_steps" zF4 f fd)(T:Txt K mg):eC P w K mg base CX0 1 f fd ["_law_names_here","_law_ahead","_law_done","_law_benches"] gH:=by
 refine F.ok zGm (λvs H Q E h=>?_) λag A ae s H vs Q E hr h=>?_
 .obtain ⟨l,m,D,b,ns,A,rfl,_⟩:=h;rfl
 .obtain ⟨l,m,D,b,ns,O,rfl,hl,hm,la,few,k⟩:=h
  refine⟨_,(zAb (psS (i:=4) zGm.nd$ zA6 rF (zBe (sc:=zAe zF4) rF kK) (d_.own (x:="_law_k")$ dtk (i:=2) rF$ dtk (i:=1) rF d_.nil) (zCu rF T.z_range$ zAa (zAn zAy rR T.z_len zCc$ zAa (pv 0) zAc) zAc) (λ_ _ _ _=>(pgB (i:=0))) (λ_ _ _ _=>(zB8$ PW.pt$ ku (zAj zCo (zAs ng (zAs ss (pv 1)$ pv 0) zAg) zAg$ zAo _)$ zK9$ zAj zCo (zAs ng (zA9 (zEi (K:=K)) (pv 2) (pv 0) λ_ _=>rfl)$ pv 1) (zA9 (zEi (K:=K)) (pv 2) (pv 0) λ_ _=>rfl)$ zAo _)) λ_ _ _ _=>(pv 0)) (zAb (psS (i:=5) zGm.nd$ zAw$ zAa zAg zAc)
   (zAb (zA4 qAZ rF (zAl$ pv 4) (pgN (i:=6) zGm.nd)$ zAd$ psS (i:=5) zGm.nd$ zAs zFx (pv 5)$ zA6 rF (zBe (sc:=zAe zF4) rF kK) (d_.own (x:="_law_one")$ dtk (i:=6) rF d_.nil) (zAl$ pv 5) (λ_ _ _ _=>(pgB (i:=0))) (λ_ _ _ _=>zBq) λ_ _ _ _=>(zAs uw (pv 0)$ zAs mH zAg$ pv 1))$ zAd$ zAk$ zA6 rF (zBe (sc:=zAe zF4) rF kK) (d_.own (x:="_law_one")$ dtk (i:=3) rF$ dtk (i:=4) rF d_.nil) (zAl$ pv 5) (λ_ _ _ _=>(pgB (i:=0))) (λ_ _ _ _=>(zB8$ zAj zLh (zAn (zKt (K:=K) rF) rR T.z_sum sY$ zAa (zA6 rF (n6 (sc:=zAe zF4) rF rF kK) (d_.own (x:="_law_k")$ dtk (i:=0) rF d_.nil) (lG (K:=K)$ pv 2) (λ_ _ _ _=>(pgB (i:=0))) (λ_ _ _ _=>zBq) λ_ _ _ _=>(zAs ng (zAs ss (pv 1)$ pv 0) zAg)) zAc) (pv 1)$ zAo _)) λ_ _ _ _=>(pv 0)))),?_⟩
  have hs:=qAM;have en:((ns.map V.str).length:Int).toNat=ns.length:=by rw[qAB,qBQ]
  refine⟨_,rF,_,_,rF,.inl$ SqL.of hl,_,rF,lL,lL,λB hB=>zKr (lo:=0) (n:=((ns.map V.str).length:Int).toNat) (λi ys S H'=>(∃o0,S=[o0,some (vN D),some (.ref m)])/\ys=(((List.range ns.length).take i).filter$ zDi O D).map vN/\H'=upd H B (.lst ys)) ⟨⟨_,rF⟩,rF,rF⟩ ?_ ?_⟩
  .rintro i ys S H' hi ⟨⟨o0,rfl⟩,rfl,rfl⟩;rw[en]at hi;have aa:=(Kp.new (M:=[]) (l:=B) (o:=.lst$ (((List.range ns.length).take i).filter$ zDi O D).map vN) Kp.refl hB) _ _ hm sS;have ei:(0+(i:Int)).toNat=i:=lL
   have er:=rM hi;have ai:∃x,O[i]?=some x:=⟨O[i]' lL,qAx _⟩;obtain⟨x,hx⟩:=ai;have gx:O.getD i 0=x:=by rw[qBN,hx];rfl
   have av:atI (O.map vN) (0+(i:Int))=some (vN x):=zAx lL (by rw[ei,qAU,hx];rfl);have fm:zDi O D i=(!D.testBit i&&decide (x &&& D=x)):=by unfold zDi;rw[gx]
   have lf:(((List.range ns.length).take i).filter$ zDi O D).length<=7:=qAR (qAq _ _) (by rw[qAX,qBJ];lia);have no:zDi O D i=false->(((List.range ns.length).take i).filter$ zDi O D).map vN=(((List.range ns.length).take$ i+1).filter$ zDi O D).map vN:=λz=>by rw[zBr _ er,z,qAC dD,qA4]
   refine⟨_,rF,_,rF,_,_,rF,rF,lL,_,_,rF,rF,rF,_,rF,eU (λc=>?_) λc=>⟨⟨_,rF⟩,no ?_,rF⟩⟩
   .have c:D.testBit i=false:=by simpa[ei,nE]using c
    refine⟨_,rF,_,rF,_,_,_,_,rF,rF,SqL.of aa,av,_,rF,_,_,rF,rF,_,rF,_,rF,_,_,_,_,rF,rF,SqL.of aa,av,rF,_,rF,eU (λc2=>⟨_,rF,ac,by rw[qAB,hs];lia,⟨_,rF⟩,?_,zBm⟩) λc2=>⟨⟨_,rF⟩,no ?_,rF⟩⟩
    .have c2:x &&& D=x:=Int.ofNat_inj.mp (by simpa[j8]using c2);rw[zBr _ er,fm,c,qAJ c2,qAI,qDX];rfl
    .have c2:¬x &&& D=x:=λz=>absurd (show((x &&& D:Nat):Int)=x by rw[z]) (by simpa[j8]using c2);rw[fm,qAP c2,Bool.and_false]
   .have c:D.testBit i=true:=by simpa[ei,nE]using c
    rw[fm,c];rfl
  .rw [en];rintro ys S H' ⟨_,rfl,rfl⟩;rw[qBC$ by rw[qBJ];exact qAF _];have k1:Kp [] H (upd H B$ .lst$ ((List.range ns.length).filter$ zDi O D).map vN):=Kp.new Kp.refl hB;have h1:upd H B (.lst$ ((List.range ns.length).filter$ zDi O D).map vN) B=some (.lst$ ((List.range ns.length).filter$ zDi O D).map vN):=ac;have fB:Fre H B:=hB;generalize upd H B (.lst$ ((List.range ns.length).filter$ zDi O D).map vN)=H1 at k1 h1 ⊢;have fl:((List.range ns.length).filter$ zDi O D).length<=7:=qAR (qAq _ _) (by rw[qBJ];exact few);have ei:stM O ns.length D b=(zDh$ (List.range ns.length).filter$ zDi O D).filter λM=>decide$ (((List.range ns.length).filter$ zDi O D).filter λk=>M.testBit k).length<=b:=rfl;rw[ei]at k;have ab:∀q∈(List.range ns.length).filter (zDi O D),q<7:=λq hq=>qAs (qAz.mp (qAc.mp hq).1) few;generalize (List.range ns.length).filter (zDi O D)=fs at h1 fl k ab;refine⟨(by walk_at"ln"),λc hc=>?_⟩;have k2:Kp [] H1 (upd H1 c$ .lst [.int 0]):=Kp.new Kp.refl hc;refine⟨_,rF,_,rF,⟨_,SqL.of$ k2 _ _ h1 sS⟩,zA0 (xs:=fs.map vN) (λi σ H3=>∃(p:Addr)(o6:Option V),σ=[some (.ref l),some (.ref m),some (vN D),some (.int b),some (.ref B),some (.ref p),o6]/\Kp [] H1 H3/\H3 p=some (.lst$ (zDh$ fs.take i).map vN)) ⟨c,_,rF,k2,ac⟩ (λi σ H3 _ ⟨_,_,_,k3,_⟩=>SqL.of$ k3 _ _ h1 sS) ?_ ?_⟩
   .rintro i v σ H3 hv ⟨p,o6,rfl,k3,h3⟩;obtain⟨q,eq,rfl⟩:=g5 hv
    have li:(zDh$ fs.take i).length<=128:=by
     rw[iF _ _ rF];exact qAR (qBp dD$ show(fs.take i).length<=7 by rw[qAX];lia) dD
    refine⟨_,rF,_,rF,_,rF,⟨_,SqL.of h3⟩,λG hG=>zA8 ((zDh$ fs.take i).map vN) (λj ys S W=>(∃o0,S=[o0,some (vN q)])/\ys=(((zDh$ fs.take i).take j).map λM=>vN$ M ||| 2^q)/\W=upd H3 G (.lst ys)) ⟨⟨_,rF⟩,rF,rF⟩ (λj ys S W ⟨_,_,z⟩=>by subst z;exact SqL.of$ (Kp.new (M:=[]) Kp.refl hG) _ _ h3 sS) ?_ ?_⟩
    .rintro j v ys S W hv ⟨⟨o0,rfl⟩,rfl,rfl⟩;obtain⟨M,eM,rfl⟩:=g5 hv;have hq:=ab q$ qAN eq;refine⟨_,rF,_,rF,_,_,rF,rF,⟨lL,lL,dD⟩,_,_,rF,rF,ac,by rw[qAB,qAX,hs];lia,⟨_,rF⟩,?_,zBm⟩;rw[zAh eM,qAI];show _++[V.int (Builtin.bitOr (M:Int)$ 1*2^(q:Int).toNat)]=_;rw[qBQ,xK];rfl
    .rintro ys S W ⟨_,rfl,rfl⟩;rw[qAB,qAY];have kG:Kp [] H3 (upd H3 G$ .lst$ (zDh$ fs.take i).map λM=>vN$ M ||| 2^q):=Kp.new Kp.refl hG;refine⟨_,_,_,_,rF,rF,kG _ _ h3 sS,ac,by rw[qAB,qAB,hs];lia,λR hR=>⟨R,_,rF,(k3.trans kG).trans$ Kp.new Kp.refl hR,?_⟩⟩;rw[ac,zAh eq,zFa,qAI,qAb];rfl
   .rintro σ H3 ⟨p,o6,rfl,k3,h3⟩;rw[qAB,qAY]at h3
    have l3:(zDh fs).length<=128:=by
     rw[iF _ _ rF];exact qAR (qBp dD fl) dD
    have af:=k3 _ _ h1 sS;refine⟨_,rF,_,rF,⟨_,SqL.of h3⟩,λG hG=>zBs ((zDh fs).map vN) (λj ys S W=>(∃o0,S=[o0,some (.int b),some (.ref B)])/\ys=(((zDh fs).take j).filter λM=>decide$ (fs.filter λk=>M.testBit k).length<=b).map vN/\Kp [] H3 W/\W G=some (.lst ys)) ⟨⟨_,rF⟩,rF,Kp.new Kp.refl hG,ac⟩ (λj ys S W ⟨_,_,k4,_⟩=>SqL.of$ k4 _ _ h3 sS) ?_ ?_⟩
    .rintro j v ys S W hv ⟨⟨o0,rfl⟩,rfl,k4,h4⟩;obtain⟨M,eM,rfl⟩:=g5 hv;have no:decide (((fs.filter λk=>M.testBit k).length:Int)<=b)=false->(((zDh fs).take j).filter λM=>decide$ ((fs.filter λk=>M.testBit k).length:Int)<=b).map vN=(((zDh fs).take$ j+1).filter λM=>decide$ ((fs.filter λk=>M.testBit k).length:Int)<=b).map vN:=λz=>by rw[zBr _ eM,z,qAC dD,qA4]
     have lj:(((zDh fs).take j).filter λM=>decide$ ((fs.filter λk=>M.testBit k).length:Int)<=b).length<=128:=qAR (qAq _ _) (by rw[qAX];lia);have ad:=k4 _ _ af sS;refine⟨_,rF,_,rF,⟨_,SqL.of ad⟩,λR hR=>zA8 (fs.map vN) (λi ys S H5=>(∃o0,S=[o0,some (vN M)])/\ys=((fs.take i).map λk=>V.int$ if M.testBit k=true then 1 else 0)/\H5=upd W R (.lst ys)) ⟨⟨_,rF⟩,rF,rF⟩ (λi ys S H5 ⟨_,_,z⟩=>by subst z;exact SqL.of$ (Kp.new (M:=[]) Kp.refl hR) _ _ ad sS) ?_ ?_⟩
     .rintro i v ys S H5 hv ⟨⟨o0,rfl⟩,rfl,rfl⟩;obtain⟨q,eq,rfl⟩:=g5 hv;refine⟨_,rF,_,rF,_,_,rF,rF,lL,_,_,rF,rF,ac,by rw[qAB,qAX,hs];lia,⟨_,rF⟩,?_,zBm⟩;rw[zAh eq,qAI];show _++[V.int (Builtin.bitAnd ((M:Int) / 2^(q:Int).toNat) 1)]=_;rw[qBQ,nE];rfl
     .rintro ys S H5 ⟨_,rfl,rfl⟩;rw[qAB,qAY];have kR:Kp [] W (upd W R$ .lst$ fs.map λk=>V.int$ if M.testBit k=true then 1 else 0):=Kp.new Kp.refl hR;refine⟨R,fs.map λk=>if M.testBit k=true then 1 else 0,rF,SqL.of (by rw[ac,qAb];rfl),?_⟩;rw[lD];refine⟨_,rF,_,_,rF,rF,_,rF,eU (λc2=>⟨_,rF,kR _ _ h4 sS,by rw[qAB,hs];lia,⟨_,rF⟩,?_,Kp.new (k4.trans kR) hG,ac⟩) λc2=>⟨⟨_,rF⟩,no ?_,k4.trans kR,kR _ _ h4 sS⟩⟩
      .rw [zBr _ eM,qAD c2,qAI];rfl
      .exact Bool.eq_false_iff.mpr c2
    .rintro ys S W ⟨_,rfl,k4,h4⟩;rw[qAB,qAY]at h4;exact k G W ((k1.trans k3).fre hG sS) h4$ (k1.trans k3).trans k4
end
section
variable{J:JR}{b v:Int}{A:WL}{k x:List Str}
theorem uj(h:∀e∈A,1<=e.2)(V:1<=v):∀e∈fC A k v,1<=e.2:=by
 unfold fC;split
 .intro e O;obtain⟨q,S,rfl⟩:=qAG.mp O;have:=h q S;split
  .show 1<=q.2+v;lia
  .exact this
 .intro e O;rcases qAK.mp O with z|z
  .exact h e z
  .rw [qAH.mp z];exact V
theorem i8(h:x∈A.map (·.1)\/x=k):x∈(fC A k v).map (·.1):=by
 rw[zJl];split
 .rename_i c;rcases h with z|z
  .exact z
  .rw [z];exact c
 .rw [qAK,qAH];exact h
theorem pQ(V:1<=v):∀(S:List (List Str×List Str)) (A:WL),(∀e∈A,1<=e.2)->(∀e∈S.foldl (λA s=>fC A s.2 v) A,1<=e.2)/\∀x,(x∈A.map (·.1)\/∃s∈S,x=s.2)->x∈(S.foldl (λA s=>fC A s.2 v) A).map (·.1)
 |[],A,h=>⟨h,λx z=>z.resolve_right sS⟩
 |s::S,A,h=>by
  obtain⟨h1,h2⟩:=pQ V S (fC A s.2 v)$ uj h V;refine⟨h1,λx z=>h2 x ?_⟩;rcases z with z|⟨q,O,e⟩
  .exact .inl$ i8$ .inl z
  .rcases qAQ.mp O with y|y
   .exact .inl$ i8$ .inr$ y▸e
   .exact .inr ⟨q,y,e⟩
theorem jL:∀(L A:WL),(∀e∈L,1<=e.2)->(∀e∈A,1<=e.2)->(∀e∈L.foldl (zFr J b) A,1<=e.2)/\∀x,(x∈A.map (·.1)\/∃q∈L,∃s∈zA2 J b q.1,x=s.2)->x∈(L.foldl (zFr J b) A).map (·.1)
 |[],A,_,h=>⟨h,λx z=>z.resolve_right sS⟩
 |q::L,A,O,h=>by
  obtain⟨S,s2⟩:=pQ (O q qAO) (zA2 J b q.1) A h;obtain⟨h1,h2⟩:=jL L (zFr J b A q) (λe V=>O e$ qAS _ V) S;refine⟨h1,λx z=>h2 x ?_⟩;rcases z with z|⟨p,W,e⟩
  .exact .inl$ s2 x$ .inl z
  .rcases qAQ.mp W with y|y
   .exact .inl$ s2 x$ .inr$ y▸e
   .exact .inr ⟨p,y,e⟩
theorem zIw(J:JR)(b:Int):∀t,∀e∈eP J b t,1<=e.2
 |0,e,h=>by rw[qAH.mp h];exact Int.le_refl _
 |t+1,e,h=>(jL _ [] (zIw J b t) λ_ z=>nomatch z).1 e h
theorem uB{D:List Str}{rs:List (List Str)}(h:Pth J b D rs):D∈(eP J b rs.length).map (·.1):=by
 induction h with
 |nil=>exact qAH.mpr rF
 |snoc p h O=>
  rw[qAV];obtain⟨q,S,e⟩:=qAG.mp O;exact(jL _ [] (zIw J b _) λ_ z=>nomatch z).2 _$ .inr ⟨q,S,_,e▸h,rF⟩
theorem oX:∀{t:Nat}{D:List Str},D∈(eP J b t).map (·.1)->∃rs,Pth J b D rs/\rs.length=t
 |0,D,h=>⟨[],by rw[qAH.mp h];exact .nil,rF⟩
 |t+1,D,h=>by
  rcases zFl _ _ h with z|⟨q,O,s,hs,rfl⟩
  .cases z
  .obtain ⟨rs,p,l⟩:=oX$ qAG.mpr ⟨q,O,rF⟩;exact⟨rs++[s.1],p.snoc hs,by rw[qAV,l];rfl⟩
theorem oV{rs:List (List Str)}(p:Pth J b J.ns rs):1<=eZ J b rs.length:=by
 obtain⟨e,O,S⟩:=qAG.mp$ uB p;unfold eZ;rw[<-S,zIu (ji J b _) O];exact zIw J b _ e O
theorem rJ{t:Nat}(h:∀O,Pth J b J.ns O->t<O.length):eZ J b t=0:=zHs λz=>by
 obtain⟨rs,p,l⟩:=oX z;have:=h rs p;lia
end
def tD1(v:V):TE:=λ_ H Q=>∀p,H p=none->Q (.ref p) (upd H p$ .dK [(kM 0,v)])
theorem yq{X:Cx}{k v:Expr}{pos:Pos}{x:V}(O:PE X k (tC$ .int 0))(S:PE X v (tC x)):PE X (.Dict [some k] [v] pos) (tD1 x):=λpins s σ H Q I h=>vB (lP O S oP) rF rF sS (show(1:Nat)<=15 by decide) pins s σ H Q I λp W=>⟨ac,[(kM 0,x)],rF,(show(1:Nat)<=15 by decide),by rw[zBm];exact h p W⟩
theorem zJs{K:PySem.W.Frag}{H:Hp}{c e:Addr}{xs:List V}{Q:VK}(h1:SqL K H c xs)(h2:SqL K H e [])(h:∀O:Bool,(O=true↔xs=[])->Q (.bl O) H):fP K 8 true (.ref c) (.ref e) H Q\/fQ K false (.ref c) (.ref e) H Q:=by
 by_cases z:xs=[]
 .subst z;exact .inl ⟨c,e,_,_,rF,rF,h1,h2,rF,(λi x y h=>by simp at h),h true ⟨λ_=>rfl,λ_=>rfl⟩⟩
 .exact .inr ⟨c,e,_,_,rF,rF,h1,h2,λy=>z$ qBa.mp y,h false ⟨λw=>(nomatch w),λw=>absurd w z⟩⟩
theorem jC(J:JR)(b:Int):∀t,Can J.ns (eP J b t)
 |0=>λe h=>by
  rw[qAH.mp h];exact⟨λ_=>false,sS⟩
 |t+1=>λe O=>by
  rcases zFl _ _ (qAG.mpr ⟨e,O,rF⟩) with z|⟨q,S,s,hs,es⟩
  .cases z
  .obtain ⟨r,V,rfl⟩:=qAG.mp hs;exact⟨_,es⟩
theorem pc{ns:List Str}{A:WL}(few:ns.length<=7)(O:(A.map (·.1)).Nodup)(S:Can ns A):A.length<=128:=by
 have:=zIq (kvs:=wV A) (ns:=ns) few (by
  unfold wV;rw[qAb];exact qB0.mpr$ (qB0.mp O).imp λh z=>h$ zCy z) (by
  intro kv V;obtain⟨e,W,rfl⟩:=qAG.mp V;obtain⟨p,ep⟩:=S e W;exact⟨p,by show kyS e.1=_;rw[ep]⟩)
 unfold wV at this;rw[qAB]at this;exact this
theorem ya{c:TT}{σ:St}{H:Hp}{Q:Bool->Hp->Prop}(S V:Hp->Prop)(h:∀O:Bool->Hp->Prop,(∀H',S H'->O true H')->(∀H',V H'->O false H')->c σ H O)(W:∀H',S H'->Q true H')(hf:∀H',V H'->Q false H'):c σ H Q:=h Q W hf
section
variable{P:Program}{w:World}{K:PySem.W.Frag}{mg:Str->Option Value}{base:Heap}
inductive nX(vs:List V)(H:Hp)(Q:VK)(u_3:XK):Prop
 |mk:∀(l m:Addr)(b:Int)(n0:Nat)(J:JR)(A:List Nat)(r:Str->Nat),vs=[.ref l,.ref m,.int b,.int n0]->Txs H l J.ns->H m=some (.lst$ A.map vN)->AhB J A->J.ns.Nodup->J.ns.length<=7->1<=b->n0<=10->(∀n∈J.ns,∀x∈J.S n,r x<r n)->(∀(p:Addr)(T:Nat)(H':Hp),n0<T->(∃t,t<T/\0<eZ J b t)->T<=20->H' p=some (.lst$ (List.range T).map λt=>V.int$ eZ J b t)->Kp [] H H'->Q (.ref p) H')->nX vs H Q u_3
abbrev jp:Stmt:=top 117
theorem zEq:c_ ["_law_names_here","_law_ahead","_law_benches","_law_least","_law_here","_law_found","_law_later","_law_done","_law_many","_law_more"] ["_law_names_here","_law_ahead","_law_benches","_law_least"] (zAe jp):=fnS
theorem vG{f:Addr}{fd:FuncData}(F:Fun K "_law_ways" "_law_ways" jp f fd)(T:Txt K mg)(ae:Cal P w K mg base "_law_steps" 1 ["_law_names_here","_law_ahead","_law_done","_law_benches"] gH):eC P w K mg base CX0 2 f fd ["_law_names_here","_law_ahead","_law_benches","_law_least"] nX:=by
 refine F.ok zEq (λvs H Q E h=>?_) λaN A aC s H vs Q E hr h=>?_
 .obtain ⟨l,m,b,n0,J,A,r,rfl,_⟩:=h;rfl
 .obtain ⟨l,m,b,n0,J,A',r,rfl,hl,hm,hA,nd,few,hb,aO,rk,k⟩:=h;have hu:=zD3 hr
  refine⟨_,(zAb (psS (i:=4) zEq.nd$ yq zAg zAg) (zAb (psS (i:=5) zEq.nd$ zAw zAc)
   (zAb (zGu qAZ (PW.pt$ zI8 (zAj zLh (zAn zAy rR T.z_len zCc$ zAa (pv 5) zAc) (pv 3)$ zAo _)$ zEy$ zAj (uo hr) (zA6 rF (zBe (sc:=zAe jp) rF kK) (d_.own (x:= "_law_many") d_.nil) (zAl$ pv 5) (fun _ _ _ _=>(pgB (i:=0))) (fun _ _ _ _=>(zB8$ zAj zLi (pv 0) zAg$ zAo _)) fun _ _ _ _=>(pv 0)) (zAw zAc)$ zAo _)
    (zAb (zBb$ zCj qA7 qCO qCP zDd (pv 5)$ zAa (zIm hu (pv 4) (zAs zJb (zAs mH zAg$ zAn zAy rR T.z_len zCc$ zAa (pv 0) zAc) zAg) zAg ⟨rF,rF,rF,rF⟩) zAc)
    (zAb (psS (i:=6) zEq.nd zB1)
    (zAb (oN (zA4 qAZ rF (sm$ pv 4) (zEm rF$ zAr (pgN (i:=7) zEq.nd)$ zAr (pgN (i:=8) zEq.nd) zBz)
     (zAd (zA4 qAZ rF (zAl$ zAf ae hr rF$ zAa (pv 0)$ zAa (pv 1)$ zAa (pv 7)$ zAa (pv 2) zAc) (pgN (i:=9) zEq.nd)$ zAd$ zCi hu (pv 6) (zAs uw (pv 7)$ pv 9) (zAs zCz (zIm hu (pv 6) (zAs uw (pv 7)$ pv 9) zAg ⟨rF,rF,rF,rF⟩)$ pv 8) rF))))$ zAd$ psS (i:=4) zEq.nd$ pv 6))))$ zAd$ zAk$ pv 5))),?_⟩
  have hs:=qAM
  have aD:0<eZ J b J.ns.length:=by
   obtain⟨rs,p,l⟩:=zLg hb nd rk;have:=oV p;rw[l]at this;lia
  intro h0 as;obtain⟨H1,e1,k1,t1⟩:=eL (o:=.dK [(kM 0,.int 1)]) as;rw[e1];refine⟨(by walk_at"ln"),λO au=>?_⟩;obtain⟨H2,e2,k2,t2⟩:=eL (o:=.lst []) au;rw[e2];have aE:Fre H O:=k1.fre au sS;have aF:=k1.trans k2;refine⟨λmm σ H3=>∃(t:Nat)(W:Addr)(o6 o7 o8 o9:Option V),σ=[some (.ref l),some (.ref m),some (.int b),some (.int n0),some (.ref W),some (.ref O),o6,o7,o8,o9]/\Kp [] H H3/\Fre H W/\H3 W=some (.dK$ wM J.ns$ eP J b t)/\H3 O=some (.lst$ (List.range t).map λt=>V.int$ eZ J b t)/\t<=20/\mm=20-t,⟨20,0,h0,_,_,_,_,rF,aF,as,by rw[k2 _ _ t1 sS];show _=some (HO.dK [(kM (mkB J.ns []),.int 1)]);rw[sF],t2,lL,rF⟩,?_⟩;rintro mm σ H3 ⟨t,W,o6,o7,o8,o9,rfl,k3,fh,h3,f3,aG,rfl⟩;have ll:((List.range t).map λt=>V.int$ eZ J b t).length=t:=by rw[qAB,qBJ]
  refine ya (λH4=>Kp [] H3 H4/\t<=10) (λH4=>Kp [] H3 H4/\n0<t/\∃i,i<t/\0<eZ J b i) (λQ1 q1 q2=>?_) (λH4 ⟨ad,aP⟩=>?_) λH4 ⟨ad,tn,tp⟩=>?_
  .refine ⟨_,rF,_,_,rF,.inl$ SqL.of f3,_,rF,_,_,rF,rF,_,rF,?_⟩;rw[ll];refine eU (λc=>q1 H3 ⟨Kp.refl,by have c:(t:Int)<=n0:=(by simpa using c);lia⟩) λc=>?_;have c:¬(t:Int)<=n0:=by simpa using c
   refine⟨_,rF,_,rF,⟨_,SqL.of f3⟩,λR hR=>zBs ((List.range t).map λt=>V.int$ eZ J b t) (λi ys τ H'=>(∃o0,τ=[o0])/\ys=(((List.range t).take i).filter λu=>decide$ 0<eZ J b u).map (λu=>V.int$ eZ J b u)/\H'=upd H3 R (.lst ys)) ⟨⟨_,rF⟩,rF,rF⟩ (λi ys τ H' ⟨_,_,z⟩=>by subst z;exact SqL.of$ (Kp.new (M:=[]) Kp.refl hR) _ _ f3 sS) ?_ ?_⟩
   .rintro i v ys τ H' hv ⟨⟨o0,rfl⟩,rfl,rfl⟩;rw[qAU]at hv;obtain⟨u,eu,rfl⟩:=qAw.mp hv;have lf:(((List.range t).take i).filter λu=>decide$ 0<eZ J b u).length<=20:=qAR (qAq _ _) (by rw[qAX,qBJ];lia);refine⟨_,rF,_,_,rF,rF,_,rF,eU (λc=>⟨_,rF,ac,by rw[qAB,hs];lia,⟨_,rF⟩,?_,zBm⟩) λc=>⟨⟨_,rF⟩,?_,rF⟩⟩
    .rw [zBr _ eu,qAD c,qAI];rfl
    .rw [zBr _ eu,qAC c,qA4]
   .rintro ys τ H' ⟨_,rfl,rfl⟩;rw[ll,qBC$ by rw[qBJ];exact qAF _];obtain⟨H4,e4,k4,h4⟩:=eL (o:=.lst$ ((List.range t).filter λu=>decide$ 0<eZ J b u).map λu=>V.int$ eZ J b u) hR;rw[e4];refine⟨(by walk_at"ln"),λe he=>?_⟩;obtain⟨H5,e5,k5,h5⟩:=eL (o:=.lst []) he;rw[e5];refine zJs (SqL.of$ k5 _ _ h4 sS) (SqL.of h5) λbb av=>⟨bb,rF,?_⟩
    cases bb with
    |true=>
     refine q1 H5 ⟨k4.trans k5,?_⟩;have z:=qCN.mp$ av.mp rF
     by_cases c2:t<=J.ns.length
     .lia
     .exact absurd (qAJ aD)$ qDu.mp z _$ qAz.mpr lL
    |false=>
     refine q2 H5 ⟨k4.trans k5,lL,?_⟩;have z:((List.range t).filter λu=>decide$ 0<eZ J b u)≠[]:=λz=>nomatch av.mpr (by rw[z];rfl);obtain⟨u,ai⟩:=List.exists_mem_of_ne_nil _ z;obtain⟨u1,u2⟩:=qAc.mp ai;exact⟨u,qAz.mp u1,qAn u2⟩
  rotate_left
  .refine eG ⟨_,rF,k O t H4 tn tp aG (ad _ _ f3 sS)$ k3.trans ad⟩
  have k4:=k3.trans ad;have h4:=ad _ _ h3 sS;have f4:=ad _ _ f3 sS;refine fE ⟨λaH H'=>∃m',m'<20-t/\∃(t:Nat)(W:Addr)(o6 o7 o8 o9:Option V),aH=[some (.ref l),some (.ref m),some (.int b),some (.int n0),some (.ref W),some (.ref O),o6,o7,o8,o9]/\Kp [] H H'/\Fre H W/\H' W=some (.dK$ wM J.ns$ eP J b t)/\H' O=some (.lst$ (List.range t).map λt=>V.int$ eZ J b t)/\t<=20/\m'=20-t,λ_ _ h=>h,?_⟩;refine lC ?_;intro _ _ _ _;have en:((J.ns.map V.str).length:Int).toNat=J.ns.length:=by rw[qAB,qBQ]
  have ef:(1*2^((J.ns.map V.str).length:Int).toNat-1:Int)=((2^J.ns.length-1:Nat):Int):=by
   rw[en];have h1:1<=2^J.ns.length:=Nat.one_le_two_pow;have h2:((2^J.ns.length:Nat):Int)=2^J.ns.length:=sS
   lia
  have cA:∃p,J.ns=J.ns.filter p:=⟨λ_=>true,(List.filter_eq_self.mpr λ_ _=>rfl).symm⟩;refine⟨_,rF,.inl ⟨rF,_,SqL.of f4⟩,_,rF,W,rF,.inl ⟨_,.inl h4⟩,_,rF,_,_,rF,.inl$ SqL.of$ k4 _ _ hl sS,_,_,rF,rF,⟨lL,by rw[qAB];lia,dD⟩,_,_,rF,rF,?_⟩;dsimp only;rw[ef,<-xE];refine⟨_,eO.k (k:=kM$ mkB J.ns J.ns) h4,?_⟩;rw[sj cA$ jC J b t];refine⟨_,_,_,rF,rF,f4,by rw[ll,hs];lia,?_⟩
  have f5:upd H4 O (.lst$ ((List.range t).map λt=>V.int$ eZ J b t)++[V.int (fN (eP J b t) J.ns)]) O=some (.lst$ (List.range$ t+1).map λt=>V.int$ eZ J b t):=by
   rw[ac,List.range_succ,qAI];rfl
  have am:W≠O:=λz=>by rw[z,f4]at h4;cases h4
  have h5:upd H4 O (.lst$ ((List.range t).map λt=>V.int$ eZ J b t)++[V.int (fN (eP J b t) J.ns)]) W=some (.dK$ wM J.ns$ eP J b t):=(a_ am).trans h4;have k5:Kp [] H (upd H4 O$ .lst$ ((List.range t).map λt=>V.int$ eZ J b t)++[V.int (fN (eP J b t) J.ns)]):=Kp.new k4 aE;generalize upd H4 O (.lst$ ((List.range t).map λt=>V.int$ eZ J b t)++[V.int (fN (eP J b t) J.ns)])=H5 at f5 h5 k5 ⊢;intro lt aj;have kl:Kp [] H5 (upd H5 lt$ .dK []):=Kp.new Kp.refl aj;have e6:upd H5 lt (.dK []) lt=some (.dK []):=ac;have fl:Fre H lt:=k5.fre aj sS;have an:lt≠W:=(b_ aj h5).symm;have aI:lt≠O:=(b_ aj f5).symm;have k6:=k5.trans kl;have h6:=kl _ _ h5 sS;have f6:=kl _ _ f5 sS;generalize upd H5 lt (.dK [])=H6 at kl e6 k6 h6 f6 ⊢;refine⟨W,_,h6,λo=>?_⟩
  refine⟨_,rF,W,o,_,rF,ac,p7 (λi σ H7=>∃(o7 o8 o9:Option V),σ=[some (.ref l),some (.ref m),some (.int b),some (.int n0),some (.ref W),some (.ref O),some (.ref lt),o7,o8,o9]/\Kp [] H H7/\H7 W=some (.frz o$ .dK$ wM J.ns$ eP J b t)/\H7 O=some (.lst$ (List.range$ t+1).map λt=>V.int$ eZ J b t)/\H7 lt=some (.dK$ wM J.ns$ ((eP J b t).take i).foldl (zFr J b) [])) ⟨_,_,_,rF,Kp.new k6 fh,ac,(a_$ qAo am).trans f6,(a_ an).trans e6⟩ (λi σ H7 _ ⟨_,_,_,_,_,h,_⟩=>h) ?_ ?_⟩
  .rintro i kk v σ H7 tt hv ⟨o7,o8,o9,rfl,k7,ao,ap,ak⟩ aJ;unfold wM at hv;rw[qAU]at hv;obtain⟨e,ee,ev⟩:=qAw.mp hv
   cases ev
   have me:=qAN ee;obtain⟨aQ,ce⟩:=jC J b t e me;refine⟨_,_,rF,.inl$ .inl ac,rF,_,_,rF,_,_,rF,rF,?_⟩;have kt:Kp [] H7 (upd H7 tt$ .tup [kV (kM$ mkB J.ns e.1),.int e.2]):=Kp.new Kp.refl aJ;have k8:=k7.trans kt;have aw:=kt _ _ ao sS;have ax:=kt _ _ ap sS;have aq:=kt _ _ ak sS;generalize upd H7 tt (.tup [kV (kM$ mkB J.ns e.1),.int e.2])=H8 at kt k8 aw ax aq ⊢;have ay:(((eP J b t).take i).foldl (zFr J b) []).map (·.1) |>.Nodup:=zIn _ _ qAt
   have az:Can J.ns (((eP J b t).take i).foldl (zFr J b) []):=λx hx=>by
    rcases zFl _ _ (qAG.mpr ⟨x,hx,rF⟩) with z|⟨q,hq,s,aK,es⟩
    .cases z
    .obtain ⟨r',aL,rfl⟩:=qAG.mp aK;exact⟨_,es⟩
   have es:zAh ee=zAh ee:=rfl;rw[show((eP J b t).take$ i+1).foldl (zFr J b) []=zFr J b (((eP J b t).take i).foldl (zFr J b) []) e by rw[zAh ee,qA8];rfl];generalize ((eP J b t).take i).foldl (zFr J b) []=A0 at aq ay az ⊢;refine⟨_,rF,_,rF,_,rF,_,rF,l,m,mkB J.ns e.1,b,J.ns,A',rF,k8 _ _ hl sS,k8 _ _ hm sS,hA.1,few,λp H9 fp hp k9=>?_⟩;rw[xX nd hA lL]at hp
   have aA:H9 p=some (.lst$ (zA2 J b e.1).map λs=>vN$ mkB J.ns s.1):=by
    rw[hp];unfold zA2;rw[qAb,qAb];rfl
   refine⟨_,rF,⟨_,SqL.of aA⟩,zA0 (xs:=(zA2 J b e.1).map λs=>vN$ mkB J.ns s.1) (λq σ aa=>∃(o9:Option V)(A1:WL),σ=[some (.ref l),some (.ref m),some (.int b),some (.int n0),some (.ref W),some (.ref O),some (.ref lt),some (vN$ mkB J.ns e.1),some (.int e.2),o9]/\Kp [] H aa/\aa W=some (.frz o$ .dK$ wM J.ns$ eP J b t)/\aa O=some (.lst$ (List.range$ t+1).map λt=>V.int$ eZ J b t)/\aa p=some (.lst$ (zA2 J b e.1).map λs=>vN$ mkB J.ns s.1)/\aa lt=some (.dK$ wM J.ns A1)/\A1=((zA2 J b e.1).take q).foldl (λA s=>fC A s.2 e.2) A0/\(A1.map (·.1)).Nodup/\Can J.ns A1) ⟨_,A0,rF,k8.trans k9,k9 _ _ aw sS,k9 _ _ ax sS,aA,k9 _ _ aq sS,rF,ay,az⟩ (λq σ aa _ ⟨_,_,_,_,_,_,h,_⟩=>SqL.of h) ?_ ?_⟩
   .rintro q u σ aa ai ⟨o9,A1,rfl,ar,af,ag,ab,S,eA,al,ah⟩;rw[qAU]at ai;obtain⟨s,aB,rfl⟩:=qAw.mp ai;obtain⟨r',aL,rfl⟩:=qAG.mp$ qAN aB;have ck:∃p,fH J.ns e.1 r'=J.ns.filter p:=⟨_,rF⟩;have eo:Builtin.bitOr ((mkB J.ns e.1:Nat):Int) ((mkB J.ns r':Nat):Int)=((mkB J.ns (fH J.ns e.1 r'):Nat):Int):=by rw[rG,yK]
    have aM:=pc few al ah;refine⟨_,rF,lt,rF,.inl ⟨_,.inl S⟩,_,rF,_,rF,_,_,rF,rF,?_⟩;dsimp only;rw[eo];refine⟨_,eO.k (k:=kM$ mkB J.ns$ fH J.ns e.1 r') S,?_⟩;rw[sj ck ah];refine⟨_,rF,_,_,rF,rF,_,rF,_,rF,_,rF,_,_,rF,rF,?_⟩;rw[eo];refine⟨_,_,rF,fR.k (k:=kM$ mkB J.ns$ fH J.ns e.1 r') S (by unfold wM;rw[qAB,hs];lia),?_⟩;rw[xJ ck ah al];have np:p≠lt:=λz=>by rw[z,S]at ab;cases ab
    refine⟨_,fC A1 (fH J.ns e.1 r') e.2,rF,Kp.new ar fl,(a_ an.symm).trans af,(a_ aI.symm).trans ag,(a_ np).trans ab,ac,?_,o_ al,vx ck ah⟩;rw[zAh aB,qA8,<-eA];rfl
   .rintro σ aa ⟨o9,A1,rfl,ar,af,ag,ab,S,eA,al,ah⟩;rw[qAB,qAY]at eA;exact⟨_,_,_,rF,ar,af,ag,by rw[S,eA];rfl⟩
  .rintro σ H7 ⟨o7,o8,o9,rfl,k7,ao,ap,ak⟩;rw[show(wM J.ns$ eP J b t).length=(eP J b t).length by unfold wM;rw[qAB],qAY]at ak;refine⟨ao,?_⟩;exact⟨_,rF,20-(t+1),lL,t+1,lt,_,_,_,_,rF,Kp.new k7 fh,fl,(a_ an).trans ak,(a_$ qAo am).trans ap,lL,rF⟩
end
end My
namespace L2
open PySem PySem.Spec PyProof.Rows
section
variable{X:Cx}
theorem lx:∀{xs ys:List V}{us W:List Value},eB xs us->eB ys W->eB (xs++ys) (us++W)
 |_,_,_,_,.nil,h=>h
 |_,_,_,_,.cons r h',h=>.cons r (lx h' h)
theorem lW:∀{xs:List V}{us:List Value},eB xs us->eB xs.reverse us.reverse
 |_,_,.nil=>.nil
 |_,_,.cons r h=>by
  rw[List.reverse_cons,List.reverse_cons];exact lx (lW h)$ .cons r .nil
end
section
variable{X:Cx}
theorem qD(its:List Value)(h:its.length<=40):slicePick its.toArray none none (some$ -1)=its.reverse.toArray:=by
 have e:∀n,n<=40->sliceRange (sliceBounds none none (some$ -1) n).fst (sliceBounds none none (some$ -1) n).snd.fst (sliceBounds none none (some$ -1) n).snd.snd=(List.range n).reverse:=kK
 unfold slicePick;rw[e _$ by rw[qAT];exact h]
 have r:∀k,k<=its.length->(List.range k).filterMap (λx=>its.toArray[x]?)=its.take k:=by
  intro k
  induction k with
  |zero=>intro _;rfl
  |succ k O=>
   intro S;rw[List.range_succ,List.filterMap_append,O lL,List.take_add_one];congr 1;rw[qBu,qDr,qAx lL];rfl
 rw[List.filterMap_reverse,qAT,r _$ qAF _,qAY]
def yV(te:TE)(tk:TO):TE:=λσ H Q=>te σ H λx H1=>tk σ H1 λk H2=>k=some (-1)/\∃a xs,x= .ref a/\SqL X.K H2 a xs/\xs.length<=40/\∀p,H2 p=none->Q (.ref p) (upd H2 p$ .lst xs.reverse)
theorem pJ{e O:Expr}{te:TE}{tk:TO}{p2 pos:Pos}(he:PE X e te)(hk:PO X (some O) tk){ops:Value->Value->List Value}(S:∀v w,subscripted (.Slice none none (some O) p2) false v w=operate (ops v w) (getItem v w):=by intros;with_unfolding_all rfl):PE X (.Subscript e (.Slice none none (some O) p2) pos) (yV (X:=X) te tk):=by
 intro pins s σ H Q I h;refine Subscript_$ thn (he pins s σ H _ I h) λv s1 ⟨x,H1,I1,r1,q1⟩=>?_;refine wpAny_Slice ?_;rw[evalPart_none];refine qAE$ qAE ?_;refine thn (hk pins s1 σ H1 _ I1 q1) λW s3 ⟨k,H3,I3,pk,q3⟩=>?_;obtain⟨rfl,a,xs,rfl,hx,h3,q⟩:=q3;have V:Inv X pins σ H3 {s3 with heap:=s3.heap.push {cls:=.type "slice",data:=.fields #[.none,.none,W]}}:=I3.kept (t':=s3.toks) λb ob q=>qAL _ q
 cases r1
 obtain⟨its,r,ht,hz⟩:=V.list hx;have aa:=r.length;show wpAny (model X.prog X.w) X.A (subscriptTail e (.Slice none none (some O) p2) (.ref a)$ .ref s3.heap.objs.size) (EP X pins σ Q) X.xe {s3 with heap:=s3.heap.push {cls:=.type "slice",data:=.fields #[.none,.none,W]}};refine tail_any (ops:=ops _ _) ht.isList.typeIs slot_list_getitem.lookup ?_$ S _ _;refine wpAny_getItem_list_slice ht.isList (Heap.IsSliceOf.new ..) .none .none pk sS ?_ (by rw[qAT]<;>lia);rw[qD its lL];refine⟨.ref _,_,V.laid (t':=s3.toks) (o:=.lst xs.reverse) (λb ob q=>qAL _ q) (qAF _) ?_,rF,q _$ V.hok.fresh$ qAF _⟩;exact⟨by rw[List.length_reverse];exact hz,_,0,lW r,qAg _ rF⟩
end
section
variable{X:Cx}
inductive pi(x:V)(vs:List V)(H:Hp)(Q:VK):Prop
 |mk:∀(l:Addr)(bs:List Bool)(j:Nat),x= .ref l->vs=[.bl true]->H l=some (.lst$ bs.map V.bl)->bs[j]?=some true->(∀m,m<j->bs[m]?=some false)->bs.length<=4096->Q (.int j) H->pi x vs H Q
theorem pZ:MtM X "list.index" pi:=by
 intro pins s σ H x vs v us Q I rx rv h;obtain⟨l,bs,j,rfl,rfl,hH,hj,W,hk,q⟩:=h
 cases rx
 obtain⟨u,rfl,ru⟩:=rv.one;obtain⟨z,its,n,r,hl,e⟩:=I.lstM hH;have fs:(bs.map V.bl).all zGe=true:=by simp[zGe]
 rw[qAB]at hl;have jl:j<bs.length:=(qAa.mp hj).1
 have O:∀m (S:m<its.toArray.size) b,bs[m]?=some b->eqU (.bl true) its.toArray[m]=b:=λm S b W=>by
  rw[qAT]at S;obtain⟨w0,hu,r0⟩:=r.get (i:=m) (x:=V.bl b) (by rw[qAU,W];rfl);rw[qAx S]at hu
  cases hu
  rw[show its.toArray[m]=its[m] by simp,nW r0 rF]
  cases b<;>rfl
 refine qBR F.slot_list_index ⟨_,e,rF⟩ F.entry_list_index (F.args_list_index_2 _ _)
  (SeqAt.list_indexAt l its.toArray n none #[] u (eqU$ .bl true) j (by rw[qAT];lia) lL (O j _ true hj) λm S aa=>O m S false$ W m aa) ⟨e,λw0 hw=>zFk ru rF r fs w0 (by simpa using hw),⟨.int _,H,I.tok _,⟨_,rF⟩,q⟩⟩
end
end L2
namespace My
open PySem L2
variable{P:Program}{w:World}{K:PySem.W.Frag}{mg:Str->Option Value}{base:Heap}{C:Addr}
variable{X:Cx}{K:PySem.W.Frag}{e f dx j C:Addr}{H:Hp}{Q:VK}{fd:FuncData}{x:Str}{J:JR}{b:Int}
theorem ub{K:PySem.W.Frag}{k:Nat}(O:eR k X.A)(S:X.K=K:=by rfl):OpR X (compareOp .NotEq) (λx y H Q=>fP K 8 false x y H Q\/fQ K true x y H Q):=by subst S;exact zJc O
theorem sN{K:PySem.W.Frag}(O:X.K=K:=by rfl):MtR X "str.join" (rT K):=by subst O;exact zGc
theorem wC{K:PySem.W.Frag}{o e:Expr}{es:List Expr}{name:Str}{T id:String}{apos cpos:Pos}{to:TE}{t:L2.TA}{r:V->List V->Hp->VK->Prop}(pa:PlainAttrs T)(slot:Slot T name id)(ab:typeOf (.builtin id)=pure (.type "method_descriptor"))(hm:MtR X id r)(ho:PE X o to)(ha:PA X (e::es) t)(hK:X.K=K:=by rfl)
  (S:attributeBase o name X.env (eval o X.env)=eval o X.env:=by rfl)
  (aa:((backTo cpos$ starEach (e::es) X.env).all (fun x=>!x.1)&&(backToKw cpos$ keywordEach [] X.env).all (fun x=>x.1.isSome)
   &&decide ((e::es).length+([]:List Keyword).length+(if([]:List Keyword).isEmpty then 0 else 1)<30))=true:=by rfl)
  (W:(apos.endLine==cpos.line)=true:=by rfl) (hs:starEach (e::es) X.env=(false,eval e X.env)::starEach es X.env:=by rfl) (O:(backTo cpos$ starEach es X.env).any (·.1)=false:=by rfl) :
  PE X (.Call (.Attribute o name apos) (e::es) [] cpos) (tBM K T r to t):=by
 subst hK;exact zCj pa slot ab hm ho ha S aa W hs O
theorem zKi{c:Addr}{xs:List V}(h1:SqL K H c xs)(h2:SqL K H e [])(h:∀O:Bool,(O=true↔xs≠[])->Q (.bl O) H):fP K 8 false (.ref c) (.ref e) H Q\/fQ K true (.ref c) (.ref e) H Q:=by
 by_cases z:xs=[]
 .subst z;exact .inl ⟨c,e,_,_,rF,rF,h1,h2,rF,(λi x y h=>by simp at h),h false ⟨λz=>(nomatch z),λz=>absurd rF z⟩⟩
 .exact .inr ⟨c,e,_,_,rF,rF,h1,h2,λy=>z$ qBa.mp y,h true ⟨λ_=>z,λ_=>rfl⟩⟩
section
inductive hU(vs:List V)(H:Hp)(Q:VK)(u_3:XK):Prop
 |mk:∀(rs:List (List Str)),vs=[.str (zF8 rs)]->zDt rs->(∀(l:Addr) (ps:List (Addr×List Str)) (H':Hp),PlA H' l ps->ps.map (·.2)=rs->Kp [] H H'->Q (.ref l) H')->hU vs H Q u_3
abbrev zI5:Stmt:=top 114
theorem zHh:c_ ["_law_text","_law_plan","_law_part"] ["_law_text"] (zAe zI5):=fnS
theorem mX(F:Fun K "_law_plan_of" "_law_plan_of" zI5 f fd):eC P w K mg base CX0 1 f fd ["_law_text"] hU:=by
 refine F.ok zHh (λvs H Q E h=>?_) λai A af s H vs Q E hr h=>?_
 .obtain ⟨rs,rfl,_⟩:=h;rfl
 .obtain ⟨rs,rfl,ok,k⟩:=h
  refine⟨_,(zAb (zA1 (zAj zCo (pv 0) zAm$ zAo _) (zAd$ zAk$ zAw zAc) zAi) (zAb (psS (i:=1) zHh.nd$ zAw zAc)
   (zAb (zA4 qAZ rF (zAl$ zCj qBE qCv qCw zG2 (pv 0)$ zAa zAm zAc) (pgN (i:=2) zHh.nd)
    (zAd (zA1 (zAj zCo (pv 2) zAm$ zAo _)
     (zAd$ zBb$ zCj qA7 qCO qCP zDd (pv 1)$ zAa (zAw zAc) zAc)$ zAd$ zBb$ zCj qA7 qCO qCP zDd (pv 1)$ zAa (zCj qBE qCv qCw zG2 (pv 2)$ zAa zAm zAc) zAc)))$ zAd$ zAk$ pv 1))),?_⟩
  have aj:=zIk ok;have hs:=qAM;refine⟨_,rF,rF,_,rF,?_⟩
  cases rs with
  |nil=>
   refine eU (λc=>?_) λc=>absurd (qAJ rF) c;refine⟨(by walk_at"ln"),λl hl=>?_⟩;exact k l [] _ ⟨ac,λ_ z=>nomatch z⟩ rF$ Kp.new Kp.refl hl
  |cons S rs=>
   have ab:∀r∈S::rs,∀s∈r,zBg s:=λr hr=>(ok.2 r hr).2;refine eU (λc=>?_) λc=>?_
   .have:=qAn c;injection this with this;exact absurd this$ pH ab
   refine⟨(by walk_at"ln"),λD hD=>?_⟩;obtain⟨H1,e1,k1,h1⟩:=eL (o:=.lst []) hD;rw[e1];refine⟨_,rF,rF,_,_,rF,rF,dD,lL,λp hp=>?_⟩;rw[zKd sS ab];obtain⟨H2,e2,k2,h2⟩:=eL (o:=.lst$ ((S::rs).map zBi).map V.str) hp;rw[e2];have ag:p≠D:=(b_ hp h1).symm;have ah:=k1.trans k2
   refine⟨_,rF,⟨_,SqL.of h2⟩,zA0 (xs:=((S::rs).map zBi).map V.str) (λi σ H'=>∃(o2:Option V) (ps:List (Addr×List Str)),σ=[some (.str$ zF8$ S::rs),some (.ref D),o2]/\ps.map (·.2)=(S::rs).take i/\PlA H' D ps/\(∀q∈ps,q.1≠D)/\H' p=some (.lst$ ((S::rs).map zBi).map V.str)/\Kp [] H H') ⟨_,[],rF,rF,⟨k2 _ _ h1 sS,λ_ z=>nomatch z⟩,(λ_ z=>nomatch z),h2,ah⟩ (λi σ H' _ ⟨_,_,_,_,_,_,h,_⟩=>SqL.of h) ?_ ?_⟩
   .rintro i x σ H' hx ⟨o2,ps,rfl,ep,R,nD,ad,K1⟩;rw[qAb,qAU]at hx;obtain⟨r,er,rfl⟩:=qAw.mp hx;have W:=ok.2 r$ qAN er;have lp:=qAf List.length ep;rw[qAB,qAX]at lp;have h4:=ok.1
    have add:∀{a:Addr}{O:Hp},Fre H' a->O a=some (.lst$ r.map V.str)->Kp [] H' O->∃(o2:Option V) (aa:List (Addr×List Str)),([some (.str$ zF8$ S::rs),some (.ref D),some (.str$ zBi r)]:St)=[some (.str$ zF8$ S::rs),some (.ref D),o2]/\aa.map (·.2)=(S::rs).take (i+1)/\PlA (upd O D$ .lst$ (ps.map λp=>V.ref p.1)++[.ref a]) D aa/\(∀q∈aa,q.1≠D)/\(upd O D$ .lst$ (ps.map λp=>V.ref p.1)++[.ref a]) p=some (.lst$ ((S::rs).map zBi).map V.str)/\Kp [] H (upd O D$ .lst$ (ps.map λp=>V.ref p.1)++[.ref a]):=λ{a O} fa ha K2=>by
     have R2:=R.kp0 K2;have ae:a≠D:=(b_ fa R.top).symm;refine⟨_,ps++[(a,r)],rF,by rw[qAI,ep,zAh er];rfl,⟨by rw[ac];simp,λq hq=>?_⟩,λq hq=>(qAK.mp hq).elim (nD q) λz=>qAH.mp z▸ae,by rw[a_ ag];exact K2 p _ ad sS,Kp.new (K1.trans K2) hD⟩;rcases qAK.mp hq with z|z
     .rw [a_$ nD q z];exact R2.row q z
     .rw [qAH.mp z,a_ ae];exact ha
    refine⟨_,rF,rF,_,rF,?_⟩
    cases r with
    |nil=>
     refine eU (λc=>?_) λc=>absurd (qAJ rF) c;refine⟨_,rF,.inl ⟨rF,_,SqL.of R.top⟩,(by walk_at"ln"),λa ha=>?_⟩;obtain⟨H3,e3,k3,h3⟩:=eL (o:=.lst []) ha;rw[e3];exact⟨_,_,_,rF,rF,k3 _ _ R.top sS,by rw[qAB,hs];lia,add ha h3 k3⟩
    |cons y r=>
     refine eU (λc=>?_) λc=>?_
     .have:=qAn c;injection this with this;exact absurd this$ oF W.2
     have tl:=zGk W.1 W.2;refine⟨_,rF,.inl ⟨rF,_,SqL.of R.top⟩,_,rF,rF,_,_,rF,rF,dD,lL,λa ha=>?_⟩;rw[zKc W.2];obtain⟨H3,e3,k3,h3⟩:=eL (o:=.lst$ (y::r).map V.str) ha;rw[e3];exact⟨_,_,_,rF,rF,k3 _ _ R.top sS,by rw[qAB,hs];lia,add ha h3 k3⟩
   .rintro σ H' ⟨o2,ps,rfl,ep,R,nD,ad,K1⟩;rw[qAB,qAB,qAY]at ep;exact⟨_,rF,k D ps H' R ep K1⟩
abbrev zK5:Stmt:=top 115
theorem uu:c_ ["_law_plan"] ["_law_plan"] (zAe zK5):=fnS
theorem tX(F:Fun K "_law_shown" "_law_shown" zK5 f fd):eC P w K mg base CX0 1 f fd ["_law_plan"] gm:=by
 refine F.ok uu (λvs H Q E h=>?_) λae A ad s H vs Q E hr h=>?_
 .obtain ⟨l,ps,rfl,_⟩:=h;rfl
 .obtain ⟨l,ps,rfl,R,ok,k⟩:=h;refine⟨_,(zAd$ zAk$ zCj qBE qB4 qB5 zGc zAm$ zAa (zA6 rF (zBe (sc:=zAe zK5) rF kK) (d_.own (x:="_law_turn") d_.nil) (zAl$ pv 0) (λ_ _ _ _=>(pgB (i:=0))) (λ_ _ _ _=>zBq) λ_ _ _ _=>(zLe (zAj (ub (K:=K) hr) (pv 0) (zAw zAc)$ zAo _) (wC (K:=K) qBE qB4 qB5 (sN (K:=K)) zAm$ zAa (pv 0) zAc) zAm)) zAc),?_⟩;have hs:=qAM;have o1:=ok.1;rw[qAB]at o1;refine⟨rF,_,rF,_,rF,⟨_,SqL.of R.top⟩,λD hD=>zA8 (ps.map λp=>V.ref p.1) (λi ys τ H'=>(∃o0,τ=[o0])/\ys=(((ps.take i).map (·.2)).map zBi).map V.str/\Kp [] H H'/\H' D=some (.lst ys)) ⟨⟨_,rF⟩,rF,Kp.new Kp.refl hD,ac⟩ ?_ ?_ ?_⟩
  .rintro i ys τ H' ⟨_,rfl,O,_⟩;exact SqL.of$ O _ _ R.top sS
  .rintro i x ys τ H' S ⟨⟨o0,rfl⟩,rfl,O,h'⟩;obtain⟨q,eq,rfl⟩:=iV S;have mq:=qAN eq;have W:=ok.2 q.2$ qAG.mpr ⟨q,mq,rF⟩;refine⟨_,rF,(by walk_at"ln"),λe he=>?_⟩;obtain⟨H3,e3,k3,h3⟩:=eL (o:=.lst []) he;rw[e3];have aa:=(O.trans k3) _ _ (R.row q mq) sS
   have fin:H3 D=some (.lst$ (((ps.take i).map (·.2)).map zBi).map V.str)/\((((ps.take i).map (·.2)).map zBi).map V.str).length<sizeLine/\((∃o0,([some (.ref q.1)]:St)=[o0])/\(((ps.take i).map (·.2)).map zBi).map V.str++[V.str (zBi q.2)]=(((ps.take$ i+1).map (·.2)).map zBi).map V.str/\Kp [] H (upd H3 D$ .lst$ (((ps.take i).map (·.2)).map zBi).map V.str++[V.str (zBi q.2)])/\(upd H3 D$ .lst$ (((ps.take i).map (·.2)).map zBi).map V.str++[V.str (zBi q.2)]) D=some (.lst$ (((ps.take i).map (·.2)).map zBi).map V.str++[V.str (zBi q.2)])):=by
    refine⟨k3 _ _ h' sS,?_,⟨_,rF⟩,?_,Kp.new (O.trans k3) hD,ac⟩
    .rw [qAB,qAB,qAB,qAX,hs];lia
    .rw [zAh eq];simp
   refine zKi (SqL.of aa) (SqL.of h3) λbb ab=>⟨bb,rF,?_⟩
   cases bb with
   |false=>
    have z:q.2=[]:=by
     by_cases z:q.2=[]
     .exact z
     .exact absurd (ab.mpr λy=>z$ qCN.mp y) dD
    rw[show zBi q.2="-" by rw[z];rfl]at fin;exact eG fin
   |true=>
    have z:q.2≠[]:=λz=>ab.mp rF (by rw[z];rfl)
    have et:zBi q.2=PySem.Txt.join " " q.2:=by
     cases e:q.2 with
     |nil=>exact absurd e z
     |cons x r=>rfl
    rw[et]at fin;refine fE ⟨rF,_,rF,_,_,q.2,rF,rF,SqL.of aa,?_,fin⟩;have h2:=zFv (λs:Str=>s.length) 8 (xs:=q.2) λs S=>(W.2 s S).2.1;rw[show(" ": Str).length=1 by decide];have:=W.1;lia
  .rintro ys τ H' ⟨_,rfl,O,h'⟩;rw[qAB,qAY]at h';refine⟨_,_,(ps.map λp:Addr×List Str=>p.2).map zBi,rF,rF,SqL.of h',?_,k _ O⟩
   have h2:=zFv (λs:Str=>s.length) 70 (xs:=(ps.map λp:Addr×List Str=>p.2).map zBi) λs S=>by
    obtain⟨r,hr,rfl⟩:=qAG.mp S;exact zGk (ok.2 r hr).1 (ok.2 r hr).2
   have h3:(" / ": Str).length=3:=dD
   rw[h3];rw[qAB]at h2 ⊢;have:=ok.1;lia
end
section
variable{J:JR}{b:Int}{rs tl:List (List Str)}{D r:List Str}
theorem zLx{n:Str}(rs:List (List Str)):n∈AF rs []↔n∈rs.flatten:=by
 rw[ib,List.mem_flatten];exact⟨λh=>h.resolve_left sS,.inr⟩
theorem lN:∀{r p:List Str},(p++r).Nodup->(∀n∈r,n∉D)->zD4 D p r=none
 |[],_,_,_=>rfl
 |x::r,p,O,h=>by
  have S:¬(x∈D\/x∈p):=λz=>z.elim (h x qAO) λz=>(qA6.mp O).2.2 x z x qAO rF;show(if x∈D\/x∈p then some x else zD4 D (p++[x]) r)=_;rw[qAC S];exact lN (by rw[qA0];exact O) λn V=>h n$ qAS _ V
structure xu(J:JR)(b:Int)(D r:List Str):Prop where
 ns:∀n∈r,n∈J.ns
 nd:r.Nodup
 nw:∀n∈r,n∉D
 fit:(r.length:Int)<=b
theorem mK(h:xu J b D r):tfS J b D r=(r.find? λn=>not$ e_ J D n).map λn=>(("early": Str),V.str n):=by
 unfold tfS;rw[qBK.mpr λn O=>by simpa using h.ns n O,lN (D:=D) (p:=[]) h.nd h.nw];have:=h.fit
 cases r.find? λn=>not$ e_ J D n with
 |some n=>rfl
 |none=>exact qAC lL
theorem fz.rowN(T:fz J b D r):xu J b D r:=⟨T.ns,T.nd,T.nw,T.fit⟩
theorem wu(T:fz J b D r):tfS J b D r=none:=by
 rw[mK T.rowN,qBK.mpr λn O=>by rw[T.rd n O];simp];rfl
theorem fz.congr{A:List Str}(h:∀x,x∈A↔x∈D)(T:fz J b A r):fz J b D r:=⟨T.ns,T.nd,λn O z=>T.nw n O$ (h n).mpr z,λn O=>by rw[<-zI7 h n];exact T.rd n O,T.fit⟩
theorem mT:∀(rs:List (List Str)) (k:Int) (D:List Str),(∀(i:Nat)(r:List Str),rs[i]?=some r->fz J b (D++(rs.take i).flatten) r)->zBn J b k D (rs++tl)=zBn J b (k+rs.length) (D++rs.flatten) tl
 |[],k,D,_=>sS
 |r::rs,k,D,h=>by
  have O:fz J b D r:=by simpa using h 0 r rF
  show(match tfS J b D r with|some p=>FR.three p.1 k p.2|none=>zBn J b (k+1) (D++r) (rs++tl))=_;rw[wu O];show zBn J b (k+1) (D++r) (rs++tl)=_
  rw[mT rs (k+1) (D++r) λi q S=>by
   have:=h (i+1) q (by simpa using S);rw[qB3,qBg,<-qA0]at this;exact this]
  rw[qBg,qA0];congr 1;rw[qAd];lia
theorem fJ.run(R:fJ J b rs):∀(i:Nat)(r:List Str),rs[i]?=some r->fz J b ([]++(rs.take i).flatten) r:=λi r h=>(R.atq i r h).congr λx=>by rw[qCd,zLx]
theorem uD{O:Str}(h:O∉J.ns):zBn J b 1 [] ([O]::rs)= .three "stranger" 1 (.str O):=by
 show(match tfS J b [] [O]with|some p=>FR.three p.1 1 p.2|none=>zBn J b (1+1) ([]++[O]) rs)=_
 have:tfS J b [] [O]=some (("stranger": Str),V.str O):=by
  unfold tfS;rw[show([O].find? λn=>!decide (n∈J.ns))=some O by rw[qBi,qAP h];rfl]
 rw[this]
theorem t7(O:0<=b)(R:fJ J b rs):zBn J b 1 [] (rs++[[]])= .non:=by
 rw[mT rs 1 [] R.run];have e:tfS J b ([]++rs.flatten) []=none:=by rw[mK (r:=[]) (D:=[]++rs.flatten) ⟨sS,qAt,sS,O⟩];rfl
 show(match tfS J b ([]++rs.flatten) []with|some p=>FR.three p.1 (1+(rs.length:Int)) p.2|none=>zBn J b (1+(rs.length:Int)+1) ([]++rs.flatten++[]) [])=_;rw[e];show(match J.ns.find? λn=>decide$ n∉[]++rs.flatten++[] with|some n=>FR.miss n|none=>FR.non)=_
 rw[qBK.mpr λn S=>by
  have:=(zLx rs).mp$ R.all n S;simpa using this]
def zEn(J:JR):Int->List Str->List (List Str)->FR
 |_,_,[]=>.non
 |k,D,r::rs=>match r.find? λn=>not$ e_ J D n with
  |some n=>.three "early" k (.str n)
  |none=>zEn J (k+1) (D++r) rs
theorem iE:∀(rs:List (List Str)) (k:Int) (D:List Str),(∀r∈rs,(∀n∈r,n∈J.ns)/\(r.length:Int)<=b)->(D++rs.flatten).Nodup->(∀n∈J.ns,n∈D++rs.flatten)->zBn J b k D rs=zEn J k D rs
 |[],k,D,_,_,all=>by
  show(match J.ns.find? λn=>decide$ n∉D with|some n=>FR.miss n|none=>FR.non)=_;rw[qBK.mpr λn S=>by have:=all n S;simpa using this];rfl
 |r::rs,k,D,h,V,all=>by
  rw[qBg]at V all;have O:=qA6.mp V;have W:=qA6.mp O.2.1;have rn:xu J b D r:=⟨(h r qAO).1,W.1,λn S z=>O.2.2 n z n (qAj _ S) rF,(h r qAO).2⟩;show(match tfS J b D r with|some p=>FR.three p.1 k p.2|none=>zBn J b (k+1) (D++r) rs)=(match r.find? λn=>not$ e_ J D n with|some n=>FR.three "early" k (.str n)|none=>zEn J (k+1) (D++r) rs);rw[mK rn]
  cases r.find? λn=>not$ e_ J D n with
  |some n=>rfl
  |none=>exact iE rs (k+1) (D++r) (λq hq=>h q$ qAS _ hq) (by rw[qA0];exact V) (by rw[qA0];exact all)
theorem oY:∀(rs:List (List Str)) (D:List Str),D.Nodup->(∀(i:Nat)(r:List Str),rs[i]?=some r->r.Nodup/\∀n∈r,n∉D++(rs.take i).flatten)->(D++rs.flatten).Nodup
 |[],D,h,_=>by simpa using h
 |r::rs,D,h,O=>by
  rw[qBg,<-qA0];have h0:=O 0 r rF;refine oY rs (D++r) (qA6.mpr ⟨h,h0.1,λa S c V e=>h0.2 c V$ by simpa using(e▸S:c∈D)⟩) λi q W=>?_;have:=O (i+1) q (by simpa using W);rw[qB3,qBg,<-qA0]at this;exact this
theorem fJ.flat(R:fJ J b rs):rs.flatten.Nodup/\(∀n∈J.ns,n∈rs.flatten)/\∀r∈rs,(∀n∈r,n∈J.ns)/\(r.length:Int)<=b:=by
 refine⟨?_,λn S=>(zLx rs).mp$ R.all n S,λr O=>?_⟩
 .have:=oY rs [] qAt λi r O=>⟨(R.run i r O).nd,(R.run i r O).nw⟩;simpa using this
 .obtain ⟨i,hi⟩:=qDc.mp O;exact⟨(R.run i r hi).ns,(R.run i r hi).fit⟩
theorem vv(R:fJ J b rs):zBn J b 1 [] rs.reverse=zEn J 1 [] rs.reverse:=by
 obtain⟨S,f2,f3⟩:=R.flat;have O:rs.reverse.flatten.Perm rs.flatten:=(List.reverse_perm rs).flatten;exact iE _ 1 [] (λr V=>f3 r$ qCy.mp V) (by rw[qCd];exact O.nodup_iff.mpr S) λn W=>by rw[qCd];exact O.mem_iff.mpr$ f2 n W
theorem tu{S:List (List Str)}{q:List Str}(R:fJ J b (S++[q++[x]])):zBn J b 1 [] (S++[q])= .miss x:=by
 have V:∀(i:Nat)(r:List Str),S[i]?=some r->fz J b ([]++(S.take i).flatten) r:=λi r h=>by
  have li:=(qAa.mp h).1;have:=R.run i r (by rw[qBf li];exact h);rw[List.take_append_of_le_length lL]at this;exact this
 have last:fz J b ([]++S.flatten) (q++[x]):=by
  have:=R.run S.length (q++[x]) sS;rw[qDb rF]at this;exact this
 obtain⟨W,f2,f3⟩:=R.flat;rw[mT S 1 [] V];have tq:fz J b ([]++S.flatten) q:=⟨λn O=>last.ns n$ qAj _ O,(qA6.mp last.nd).1,λn O=>last.nw n$ qAj _ O,λn O=>last.rd n$ qAj _ O,by have:=last.fit;rw[qAV]at this;simp at this;lia⟩;show(match tfS J b ([]++S.flatten) q with|some p=>FR.three p.1 (1+(S.length:Int)) p.2|none=>zBn J b (1+(S.length:Int)+1) ([]++S.flatten++q) [])=_;rw[wu tq];show(match J.ns.find? λn=>decide$ n∉[]++S.flatten++q with|some n=>FR.miss n|none=>FR.non)=_;have e:(S++[q++[x]]).flatten=(S.flatten++q)++[x]:=sS
 rw[e]at W f2;have xn:x∈J.ns:=last.ns x sS;have nx:x∉S.flatten++q:=λz=>(qA6.mp W).2.2 x z x sS rF
 have:(J.ns.find? λn=>decide$ n∉[]++S.flatten++q)=some x:=by
  cases y:J.ns.find? λn=>decide$ n∉[]++S.flatten++q with
  |none=>exact absurd (qAJ (by simpa using nx:x∉[]++S.flatten++q))$ qBK.mp y x xn
  |some n=>
   have h1:=qCJ y;have h2:=qCn y;have h2:n∉S.flatten++q:=by simpa using h2
   rcases qAK.mp (f2 n h1) with z|z
   .exact absurd z h2
   .rw [qAH.mp z]
 rw[this]
theorem Pth.can(h:Pth J b D rs):∃p,D=J.ns.filter p:=by
 induction h with
 |nil=>exact⟨λ_=>false,sS⟩
 |snoc _ hs _=>exact zEp hs
theorem vW(h:Pth J b J.ns rs)(mn:∀O,Pth J b J.ns O->rs.length<=O.length)(ne:rs≠[]):∃S q x,rs=S++[q++[x]]:=by
 obtain⟨D,r,S,e,p,hs,_⟩:=h.last (t:=rs.length-1) (by have:=List.length_pos_iff.mpr ne;lia)
 cases W:r with
 |nil=>
  exfalso;subst W;obtain⟨V,h1,h2⟩:=qAG.mp hs;obtain⟨e1,e2⟩:=qB2 h2;subst e1
  have eD:D=J.ns:=by
   obtain⟨pp,ep⟩:=p.can;rw[<-e2,ep];unfold fH;exact qBj λy hy=>by simp[qAc,hy]
  rw[eD]at p;have:=mn S p;rw[e,qAV,qAp]at this;lia
 |cons y V=>
  exact⟨S,(y::V).dropLast,(y::V).getLast sS,by rw[qCQ,e,W]⟩
end
theorem su(a b:Str):Txt.join " " [a,b]=a++ " "++b:=zKz (by
 show(Builtin.Str.glued " " [a,b]).cps.toList=_;rw[SM.glued_toList,zDs,zDs];rfl)
theorem zKl(a b c:Str):Txt.join " " [a,b,c]=a++ " "++b++ " "++c:=zKz (by
 show(Builtin.Str.glued " " [a,b,c]).cps.toList=_;rw[SM.glued_toList,zDs,zDs,zDs,zDs];show a.cps.toList++_++(b.cps.toList++_++c.cps.toList)=_;simp)
theorem sQ{J:JR}{D:List Str}{n:Str}{L:Str->List Str}(h:∀o∈J.ns,n∈L o↔o∈J.S n):(J.ns.filter λo=>decide (n∈L o)&&decide (o∉D))=[]↔e_ J D n=true:=by
 unfold e_;rw[qDu,qBB];constructor
 .intro z o O;obtain⟨h1,h2⟩:=qAc.mp O;have h3:=(h o h1).mpr$ qAn h2;have:=z o h1;rw[qAJ h3,qBH]at this;simpa using this
 .intro z o O y;obtain⟨S,V⟩:=qCS.mp y;have:=z o$ qAc.mpr ⟨O,qAJ$ (h o O).mp$ qAn S⟩;exact qAn V$ qAn this
section
inductive gU(vs:List V)(H:Hp)(Q:VK)(u_3:XK):Prop
 |mk:∀(l d m:Addr)(J:JR) (ps:List (Addr×List Str)) (la:Str->Addr) (L:Str->List Str),vs=[.ref l,.ref d,.ref m]->Txs H l J.ns->DR H d J.ns la L->J.ns.length<=7->(∀n∈J.ns,∀y∈J.ns,y∈L n↔n∈J.S y)->PlA H m ps->zDt (ps.map (·.2))->(∀p∈ps,∀n∈p.2,n∈J.ns)->(∀H',Kp [] H H'->Q (.str$ frT$ zEn J 1 []$ ps.map (·.2)) H')->gU vs H Q u_3
abbrev zIg:Stmt:=top 118
theorem zDz:c_ ["_law_names_here","_law_behind_here","_law_plan","_law_done","_law_k","_law_turn","_law_name"] ["_law_names_here","_law_behind_here","_law_plan"] (zAe zIg):=fnS
theorem p_(F:Fun K "_law_fault" "_law_fault" zIg f fd)(T:Txt K mg):eC P w K mg base CX0 1 f fd ["_law_names_here","_law_behind_here","_law_plan"] gU:=by
 refine F.ok zDz (λvs H Q E h=>?_) λae A ad s H vs Q E hr h=>?_
 .obtain ⟨l,d,m,J,ps,la,L,rfl,_⟩:=h;rfl
 .obtain ⟨l,d,m,J,ps,la,L,rfl,hl,D0,few,hL,R,ok,sub,k⟩:=h;have hu:=zD3 hr
  refine⟨_,(zAb (psS (i:=3) zDz.nd$ zAw zAc) (zAb (zA4 qAZ rF (pz rF T.z_enumerate$ zAa (pv 2) zAc) (zEm rF$ zAr (pgN (i:=4) zDz.nd)$ zAr (pgN (i:=5) zDz.nd) zBz)
    (zAb (zA4 qAZ rF (zAl$ pv 5) (pgN (i:=6) zDz.nd)
     (zAd (zA1 (zAj (zJc hr) (zA6 rF (zBe (sc:=zAe zIg) rF kK) (d_.own (x:= "_law_one")$ dtk (i:=6) rF$ dtk (i:=3) rF$ dtk (i:=1) rF d_.nil) (zAl$ pv 0) (fun _ _ _ _=>(pgB (i:=0))) (fun _ _ _ _=>(zB8$ PW.pt$ ku (zE0$ zH2 hu (pv 1)$ zBt hu (pv 3) (pv 0) fun _ _=>rfl)$ zK9$ zAj (zC1 (K:=K)) (pv 0) (pv 2) rR)) fun _ _ _ _=>(pv 0)) (zAw zAc)$ zAo _)
      (zAd$ zAk$ zAs zA5 (zAs zA5 (zAs zA5 zAm$ zAz zBo rR T.z_str zDg$ zAa (zAs zCz (pv 4) zAg) zAc) zAm)$ pv 6)
      zAi)))$ zAd$ psS (i:=3) zDz.nd$ zAs zFx (pv 3)$ pv 5))$ zAd$ zAk zAm)),?_⟩
  have hs:=qAM;have o1:=ok.1;rw[qAB]at o1;refine⟨(by walk_at"ln"),λe he=>?_⟩;have k1:Kp [] H (upd H e$ .lst []):=Kp.new Kp.refl he;refine⟨_,rF,_,rF,⟨_,SqL.of$ k1 m _ R.top sS⟩,zL5 (lo:=0) (xs:=ps.map λp=>V.ref p.1) (λi σ H2=>∃(S:Addr)(D:List Str),(∃o4 o5 o6,σ=[some (.ref l),some (.ref d),some (.ref m),some (.ref S),o4,o5,o6])/\Kp [] H H2/\H2 S=some (.lst$ D.map V.str)/\D.length<=7*i/\zEn J 1 [] (ps.map (·.2))=zEn J (1+(i:Int)) D ((ps.map (·.2)).drop i)) ⟨e,[],⟨_,_,_,rF⟩,k1,ac,qAF _,rF⟩ (λi σ H2 _ ⟨_,_,_,k2,_⟩=>SqL.of$ k2 m _ R.top sS) ?_ ?_⟩
  .rintro i v σ H2 t hv ⟨S,D,⟨o4,o5,o6,rfl⟩,k2,h2,hD,ef⟩ ht;obtain⟨p,ep,rfl⟩:=iV hv;have mp:=qAN ep;have hi:=(qAa.mp ep).1;have hp:=ok.2 p.2$ qAG.mpr ⟨p,mp,rF⟩;have e2:(ps.map (·.2))[i]?=some p.2:=by rw[qAU,ep];rfl
   rw[oi e2]at ef;refine⟨_,_,rF,.inl$ .inl ac,rF,_,_,rF,_,_,rF,rF,?_⟩;have kt:Kp [] H2 (upd H2 t$ .tup [.int (0+(i:Int)),.ref p.1]):=Kp.new Kp.refl ht;have h3:=kt S _ h2 sS;generalize upd H2 t (.tup [.int (0+(i:Int)),.ref p.1])=H3 at kt h3 ⊢;have k3:=k2.trans kt;refine⟨_,rF,_,rF,⟨_,SqL.of$ k3 p.1 _ (R.row p mp) sS⟩,zA0 (xs:=p.2.map V.str) (λq σ H4=>(∃o6,σ=[some (.ref l),some (.ref d),some (.ref m),some (.ref S),some (.int$ 0+(i:Int)),some (.ref p.1),o6])/\Kp [] H H4/\H4 S=some (.lst$ D.map V.str)/\∀n∈p.2.take q,e_ J D n=true) ⟨⟨_,rF⟩,k3,h3,(λn h=>nomatch h)⟩ (λq σ H4 _ ⟨_,O,_⟩=>SqL.of$ O p.1 _ (R.row p mp) sS) ?_ ?_⟩
   .rintro q v σ H4 hv ⟨⟨o6,rfl⟩,O,h4,hb⟩;obtain⟨n,en,rfl⟩:=zBh hv;have hn:=sub p mp n$ qAN en;have l8:=(hp.2 n$ qAN en).2.1;refine⟨_,rF,_,rF,⟨_,SqL.of$ O l _ hl sS⟩,λB hB=>zBs (J.ns.map V.str) (λz ys τ H5=>(∃o0,τ=[o0,some (.str n),some (.ref S),some (.ref d)])/\ys=((J.ns.take z).filter λo=>decide (n∈L o)&&decide (o∉D)).map V.str/\Kp [] H4 H5/\H5 B=some (.lst ys)) ⟨⟨_,rF⟩,rF,Kp.new Kp.refl hB,ac⟩ ?_ ?_ ?_⟩
    .rintro z ys τ H5 ⟨_,rfl,W,_⟩;exact SqL.of$ (O.trans W) l _ hl sS
    .rintro z x ys τ H5 hx ⟨⟨o0,rfl⟩,rfl,W,h5⟩;obtain⟨o,eo,rfl⟩:=zBh hx;have mo:=qAN eo;have D5:=D0.kp0$ O.trans W;have lf:((J.ns.take z).filter λo=>decide (n∈L o)&&decide (o∉D)).length<=7:=qAR (qAq _ _) (by rw[qAX];lia);have no:(decide (n∈L o)&&decide (o∉D))=false->((J.ns.take z).filter λo=>decide (n∈L o)&&decide (o∉D)).map V.str=((J.ns.take$ z+1).filter λo=>decide (n∈L o)&&decide (o∉D)).map V.str:=λz=>by rw[zBr _ eo,z,qAC dD,qA4]
     refine⟨_,rF,_,rF,_,rF,d,_,rF,D5.get mo,_,_,rF,eO.k (k:=Sum.inr n)$ D5.row o mo,_,rF,?_⟩;rw[zE5]
     by_cases c:n∈L o
     .rw [qAJ c];refine fE ⟨_,rF,_,rF,_,_,rF,.inl$ SqL.of$ W S _ h4 sS,rF,zBw _,_,rF,?_⟩;rw[zDe]
      by_cases c2:o∈D
      .rw [qAJ c2];exact eG ⟨⟨_,rF⟩,no (by simp[c2]),W,h5⟩
      .rw [qAP c2];refine fE ⟨_,rF,h5,by rw[qAB,hs];lia,⟨_,rF⟩,?_,Kp.new W hB,ac⟩;rw[zBr _ eo,qAD (by simp[c,c2]),qAI];rfl
     .rw [qAP c];exact eG ⟨⟨_,rF⟩,no (by simp[c]),W,h5⟩
    .rintro ys τ H5 ⟨_,rfl,W,h5⟩;rw[qAB,qAY]at h5;refine⟨(by walk_at"ln"),λy hy=>?_⟩;obtain⟨H6,e6,k6,h6⟩:=eL (o:=.lst []) hy;rw[e6];have aa:=W.trans k6;have rn:=sQ (J:=J) (D:=D) (n:=n) (L:=L) λo ho=>hL o ho n hn;refine zKi (SqL.of$ k6 _ _ h5 sS) (SqL.of h6) λbb ab=>⟨_,rF,?_⟩
     cases bb with
     |false=>
      have rd:e_ J D n=true:=rn.mp (by
       by_cases z:(J.ns.filter λo=>decide (n∈L o)&&decide (o∉D))=[]
       .exact z
       .exact absurd (ab.mpr λy=>z$ qCN.mp y) dD)
      refine eG ⟨⟨_,rF⟩,O.trans aa,aa S _ h4 sS,λu hu=>?_⟩;rw[zAh en]at hu;rcases qAK.mp hu with z|z
      .exact hb u z
      .rw [qAH.mp z];exact rd
     |true=>
      have rd:e_ J D n=false:=Bool.eq_false_iff.mpr λz=>ab.mp rF (by rw[rn.mpr z];rfl);have e1:(0+(i:Int)+1)=((i+1:Nat):Int):=lL
      have hN:=iT (n:=i+1) lL;have l2:(Str.ofString$ toString ((i+1:Nat):Int)).length<=2:=hN.l2;refine fE ⟨_,rF,_,_,rF,rF,_,rF,?_,_,_,rF,rF,?_,_,_,rF,rF,?_,_,rF,_,_,rF,rF,?_,?_⟩
      .rw [e1];exact qBo (qCx _) lL
      .rw [e1,show("early ": Str).length=6 by decide +kernel,hs];lia
      .rw [e1,fj,show("early ": Str).length=6 by decide +kernel,show(" ": Str).length=1 by decide,hs];lia
      .rw [e1,fj,fj,show("early ": Str).length=6 by decide +kernel,show(" ": Str).length=1 by decide,hs];lia
      .have fd:(p.2.find? λn=>not$ e_ J D n)=some n:=zJr en (by rw[rd];rfl) λu hu=>by rw[hb u hu];rfl
       have:=k H6$ O.trans aa;rw[ef]at this
       have e3:zEn J (1+(i:Int)) D (p.2::(ps.map (·.2)).drop (i+1))= .three "early" (1+(i:Int)) (.str n):=by
        show(match p.2.find? λn=>not$ e_ J D n with|some n=>FR.three "early" (1+(i:Int)) (.str n)|none=>_)=_;rw[fd]
       rw[e3,show(1+(i:Int))=0+(i:Int)+1 by lia]at this
       have e4:frT (.three "early" (0+(i:Int)+1)$ .str n)="early "++Str.ofString (toString$ 0+(i:Int)+1)++ " "++n:=by
        show Txt.join " " ["early",_,n]=_;rw[zKl,show("early": Str)++ " "="early " by decide +kernel]
       rw[e4]at this;exact this
   .rintro σ H4 ⟨⟨o6,rfl⟩,O,h4,hb⟩;rw[qAB,qAY]at hb;have af:=hp.1;refine⟨_,rF,_,rF,_,_,_,_,rF,rF,h4,O p.1 _ (R.row p mp) sS,by rw[qAB,qAB,hs];lia,λc hc=>?_⟩;refine⟨c,D++p.2,⟨_,_,_,rF⟩,Kp.new O$ O.fre hc sS,by rw[ac,qAI],by rw[qAV];lia,?_⟩;rw[ef];show(match p.2.find? λn=>not$ e_ J D n with|some n=>FR.three "early" (1+(i:Int)) (.str n)|none=>zEn J (1+(i:Int)+1) (D++p.2) _)=_;rw[qBK.mpr λn hn=>by rw[hb n hn];simp,show(1+(i:Int)+1)=1+((i+1:Nat):Int) by lia]
  .rintro σ H2 ⟨S,D,⟨o4,o5,o6,rfl⟩,k2,h2,hD,ef⟩;rw[qAB,qCt$ by rw[qAB];exact qAF _]at ef;have:=k H2 k2;rw[ef]at this;exact this
end
theorem l_(xs:List V)(v:V):ij (xs++[v]) none (some$ -1)=xs:=by
 have e:HT.sIx (xs++[v]).length (xs++[v]).length (some$ -1)=xs.length:=by
  have g:∀n d:Nat,HT.sIx n d (some$ -1)=((-1:Int)+(n:Int)).toNat:=λn d=>by
   show(if(-1:Int)<0 then((-1:Int)+(n:Int)).toNat else min (-1:Int).toNat n)=_;rw[qAD dD]
  rw[g,qAV,qAp];lia
 unfold ij;rw[e];show((xs++[v]).drop 0).take (xs.length-0)=xs;rw[List.drop_zero,Nat.sub_zero,qDb rF]
abbrev zIc:List Str:=["zz","zy","zx","zw","zv","zu","zt","zs"]
theorem p9:∀x∈zIc,zBg x:=by
 have:zIc.all (λs=>decide (1<=s.length)&&decide (s.length<=8)&&s.cps.toList.all λc=>decide (97<=c)&&decide (c<=122))=true:=kK
 intro x O;have:=qBB.mp this x O;obtain⟨h1,h2⟩:=qCS.mp this;obtain⟨h3,h4⟩:=qCS.mp h1;refine⟨qAn h3,qAn h4,λc S=>?_⟩;obtain⟨h5,h6⟩:=qCS.mp$ qBB.mp h2 c S;exact⟨qAn h5,qAn h6⟩
theorem qd{ns:List Str}(few:ns.length<=7):∃O rest,(zIc.filter λx=>decide$ x∉ns)=O::rest:=by
 cases e:zIc.filter λx=>decide$ x∉ns with
 |cons x r=>exact⟨x,r,rF⟩
 |nil=>
  have:zIc.length<=ns.length:=zB4 kK λx S=>by
   have:=qDu.mp e x S;simpa using this
  have h8:zIc.length=8:=rfl;lia
theorem mC :∀(rs:List (List Str)) (k:Nat) (D:List Str),(∀r∈rs,∀n∈r,zBg n)->k+rs.length<64->qe (zEn J (k:Int) D rs)
 |[],_,_,_,_=>trivial
 |r::rs,k,D,h,O=>by
  show qe (match r.find? λn=>not$ e_ J D n with|some n=>FR.three "early" (k:Int) (.str n)|none=>zEn J ((k:Int)+1) (D++r) rs);rw[qAd]at O
  cases e:r.find? λn=>not$ e_ J D n with
  |none=>exact mC rs (k+1) (D++r) (λq S=>h q$ qAS _ S) lL
  |some n=>exact⟨kK,⟨k,rF,lL⟩,.inl ⟨n,rF,by have:=(h r qAO n$ qCJ e).2.1;lia⟩⟩
section
variable{P:Program}{w:World}{K:PySem.W.Frag}{mg:Str->Option Value}{base:Heap}{C CD:Addr}
theorem zIp{u:XK}{k:Addr}{rs:List (List Str)}(D:fF C CD H k dx j e b J)(ok:zDt rs)(V:1<=b)(W:qe (zBn J b 1 [] rs))(q:∀H',Kp [] H H'->Q (.str$ frT$ zBn J b 1 [] rs) H'):gj C CD [.ref k,.str ("look "++zF8 rs)] H Q u :=
 .more k dx _ "look" (zF8 rs) _ rF (by rw[show("look": Str)++ " "="look " by decide +kernel]) kK (by rw[fj,show("look ": Str).length=5 by decide +kernel];have:=zIk ok;lia) D.ob (zJ5 kK kK kK) λH' S=>.look k dx j e b J rs rF ok (D.kp0 S) V W λaa O=>q _$ S.trans O
inductive gQ(C CD:Addr)(vs:List V)(H:Hp)(Q:VK)(u_3:XK):Prop
 |mk:∀(k dx j e l d m:Addr)(b:Int)(J:JR) (ps:List (Addr×List Str)) (la:Str->Addr) (L:Str->List Str),vs=[.ref k,.ref l,.ref d,.ref m]->fF C CD H k dx j e b J->Txs H l J.ns->DR H d J.ns la L->J.ns.length<=7->(∀n∈J.ns,zBg n)->(∀n∈J.ns,∀y∈J.ns,y∈L n↔n∈J.S y)->1<=b->PlA H m ps->fJ J b (ps.map (·.2))->ps.length<=7->(∀rs',Pth J b J.ns rs'->(ps.map (·.2)).length<=rs'.length)->Pth J b J.ns (ps.map (·.2))->(∀H',Kp [] H H'->Q (.bl true) H')->gQ C CD vs H Q u_3
abbrev zIf:Stmt:=top 119
theorem zI1:c_ ["_law_desk","_law_names_here","_law_behind_here","_law_plan","_law_far","_law_less"] ["_law_desk","_law_names_here","_law_behind_here","_law_plan"] (zAe zIf):=fnS
theorem qu(F:Fun K "_law_looked" "_law_looked" zIf f fd)(U:DC K mg C CD)(aa:Mth P w K mg base CD "say" 9 ["self","row"] (gj C CD))(O:Cal P w K mg base "_law_shown" 1 ["_law_plan"] gm)(ag:Cal P w K mg base "_law_fault" 1 ["_law_names_here","_law_behind_here","_law_plan"] gU):eC P w K mg base CX0 10 f fd ["_law_desk","_law_names_here","_law_behind_here","_law_plan"] (gQ C CD):=by
 refine F.ok zI1 (λvs H Q E h=>?_) λaY A aI s H vs Q E hr h=>?_
 .obtain ⟨k,dx,j,e,l,d,m,b,J,ps,la,L,rfl,_⟩:=h;rfl
 .obtain ⟨k,dx,j,e,l,d,m,b,J,ps,la,L,rfl,Dk,hl,D0,few,nm,hL,hb,R,Ri,l7,mn,pt,q⟩:=h;have ah:=hr.mono (j:=1) dD;have aJ:=hr.mono (j:=2) dD
  refine⟨_,(@zAb _ _ _ _ _ (@psS _ 4 _ _ _ _ _ zI1.nd (@zA9 _ _ _ _ _ _ _ zAt (zA6 rF (zBe (sc:=zAe zIf) rF kK) (d_.own (x:="_law_one")$ dtk (i:=1) rF d_.nil) (zAl$ zAw$ zAa zAm$ zAa zAm$ zAa zAm$ zAa zAm$ zAa zAm$ zAa zAm$ zAa zAm$ zAa zAm zAc) (λ_ _ _ _=>(pgB (i:=0))) (λ_ _ _ _=>(zB8$ zAj (zC1 (K:=K)) (pv 0) (pv 1) rR)) λ_ _ _ _=>(pv 0)) zAg λ_ _=>rfl) (by rfl) (by walk_at"lc") (by rfl) (.inl rF)) (zAb (zA1 (zAj zGx (zBf aa U.cl hr (pv 0)$ zAa (zAs zA5 zAm$ zAf O ah rF$ zAa (zAs zFx (zAw$ zAa (zAw$ zAa (pv 4) zAc) zAc)$ pv 3) zAc) zAc) (zAs zA5 zAm$ pv 4)$ zAo _)
    (zAd zAq)
    zAi)
   (zAb (zA1 (zAj zGx (zBf aa U.cl hr (pv 0)$ zAa (zAs zA5 zAm$ zAf O ah rF$ zAa (zAs zFx (pv 3)$ zAw$ zAa (zAw zAc) zAc) zAc) zAc) zAm$ zAo _)
    (zAd zAq)
    zAi)
   (zAb (zA1 (zAj zGx (zBf aa U.cl hr (pv 0)$ zAa (zAs zA5 zAm$ zAf O ah rF$ zAa (pJ (pv 3)$ zHn$ ia zIx zAg) zAc) zAc) (zAf ag ah rF$ zAa (pv 1)$ zAa (pv 2)$ zAa (pJ (pv 3)$ zHn$ ia zIx zAg) zAc)$ zAo _)
    (zAd zAq)
    zAi)
   (zAb (zA1 (zAj (uo aJ) (pv 3) (zAw zAc)$ zAo _)
    (zAd$ zAk zJz)
    zAi)
   (zAb (psS (i:=5) zI1.nd$ zAs zFx (zIl jv (pv 3) zLc$ zHn$ ia zIx zAg)$ zAw$ zAa (zIl jv (zA9 zAt (pv 3) (ia zIx zAg) fun _ _=>rfl) zLc$ zHn$ ia zIx zAg) zAc)$ zAd$ zAk$ zCn zCo (zBf aa U.cl hr (pv 0)$ zAa (zAs zA5 zAm$ zAf O ah rF$ zAa (pv 5) zAc) zAc) (zAs zA5 zAm$ zA9 zAt (zA9 zAt (pv 3) (ia zIx zAg) λ_ _=>rfl) (ia zIx zAg) λ_ _=>rfl)$ zAo _)))))),?_⟩
  have hs:=qAM;have af:zDt (ps.map (·.2)):=jw nm few Ri (by rw[qAB];lia)
  have an:∀{rs:List (List Str)},zDt rs->("look ": Str).length+(zF8 rs).length<=sizeLine:=λok=>by
   have:=zIk ok;rw[show("look ": Str).length=5 by decide +kernel,hs];lia
  have aK:∀p∈ps,∀n∈p.2,n∈J.ns:=λp hp=>(Ri.flat.2.2 p.2$ qAG.mpr ⟨p,hp,rF⟩).1;have ab:∀{b:Int},(df j b e).lookup ("say": Str)=none:=zJ5 kK kK kK;refine⟨(by walk_at"ln"),λfa ax=>?_⟩;obtain⟨H1,e1,k1,h1⟩:=eL (o:=.lst [.str "zz",.str "zy",.str "zx",.str "zw",.str "zv",.str "zu",.str "zt",.str "zs"]) ax;rw[e1];have h1:H1 fa=some (.lst$ zIc.map V.str):=h1;refine⟨_,rF,⟨_,SqL.of h1⟩,λB hB=>zBs (zIc.map V.str) (λz ys τ H5=>(∃o0,τ=[o0,some (.ref l)])/\ys=((zIc.take z).filter λx=>decide$ x∉J.ns).map V.str/\Kp [] H1 H5/\H5 B=some (.lst ys)) ⟨⟨_,rF⟩,rF,Kp.new Kp.refl hB,ac⟩ ?_ ?_ ?_⟩
  .rintro z ys τ H5 ⟨_,rfl,k5,_⟩;exact SqL.of$ k5 _ _ h1 sS
  .rintro z x ys τ H5 hx ⟨⟨o0,rfl⟩,rfl,k5,h5⟩;obtain⟨o,eo,rfl⟩:=zBh hx;have lf:((zIc.take z).filter λx=>decide$ x∉J.ns).length<=8:=qAR (qAq _ _) (by rw[qAX,show zIc.length=8 from rfl];lia);refine⟨_,rF,_,rF,_,_,rF,.inl$ SqL.of$ (k1.trans k5) _ _ hl sS,rF,zBw _,_,rF,?_⟩;rw[zDe]
   by_cases c:o∈J.ns
   .rw [qAJ c];exact eG ⟨⟨_,rF⟩,by rw[zBr _ eo,qAC (by simp[c]),qA4],k5,h5⟩
   .rw [qAP c];refine fE ⟨_,rF,h5,by rw[qAB,hs];lia,⟨_,rF⟩,?_,Kp.new k5 hB,ac⟩;rw[zBr _ eo,qAD (by simp[c]),qAI];rfl
  rintro ys τ H2 ⟨_,rfl,k2,h2⟩;rw[qAB,qAY]at h2;obtain⟨S,rest,ef⟩:=qd few;rw[ef]at h2;have ap:=qAc.mp (ef▸qAO:S∈zIc.filter λx=>decide$ x∉J.ns);have ay:S∉J.ns:=qAn ap.2;have aq:=p9 S ap.1;have l8:=aq.2.1;refine⟨_,_,_,_,rF,rF,SqL.of h2,zAx dD rF,?_⟩;have K2:=k1.trans k2;clear h1 h2 ax e1 k1 k2;refine⟨_,rF,k,dx,_,rF,K2 _ _ Dk.ob sS,ab,_,rF,(by walk_at"ln"),λa ha=>?_⟩;obtain⟨H3,e3,k3,h3⟩:=eL (o:=.lst [.str S]) ha;rw[e3];refine⟨(by walk_at"ln"),λa2 ae=>?_⟩;obtain⟨H4,e4,k4,h4⟩:=eL (o:=.lst [.ref a]) ae;rw[e4];have K4:=K2.trans$ k3.trans k4;refine⟨_,rF,_,_,_,_,rF,rF,h4,K4 _ _ R.top sS,by rw[qAB,qAp,hs];lia,λa3 ai=>?_⟩;obtain⟨H5,e5,k5,h5⟩:=eL (o:=.lst$ [V.ref a]++ps.map λp=>V.ref p.1) ai;rw[e5];have K5:=K4.trans k5
  have ad:zDt (((a,[S])::ps).map (·.2)):=⟨by rw[qAB,qAd];lia,λr hr=>by
   rcases qAQ.mp hr with z|z
   .rw [z];exact⟨show(1:Nat)<=7 by decide,λs hs=>by rw[qAH.mp hs];exact aq⟩
   .exact af.2 r z⟩
  refine⟨_,(a,[S])::ps,rF,⟨h5,λp hp=>?_⟩,ad,λH6 k6=>?_⟩
  .rcases qAQ.mp hp with z|z
   .rw [z];exact(k4.trans k5) _ _ h3 sS
   .exact K5 _ _ (R.row p z) sS
  have K6:=K5.trans k6;clear h3 h4 h5 ha ae ai e3 e4 e5 k3 k4 k5 K4 K5 k6;have ff:=uD (J:=J) (b:=b) (rs:=ps.map (·.2)) ay;refine⟨_,_,rF,rF,an ad,zIp (Dk.kp0 K6) ad hb ?_ λH7 k7=>?_⟩
  .show qe (zBn J b 1 []$ [S]::ps.map (·.2));rw[ff];exact⟨kK,⟨1,rF,dD⟩,.inl ⟨S,rF,lL⟩⟩
  refine⟨_,rF,_,_,rF,rF,by rw[show("stranger 1 ": Str).length=11 by decide +kernel,hs];lia,rF,_,rF,?_⟩
  have er:frT (zBn J b 1 []$ ((a,[S])::ps).map (·.2))="stranger 1 "++S:=by
   show frT (zBn J b 1 []$ [S]::ps.map (·.2))=_;rw[ff];show Txt.join " " ["stranger",Str.ofString (toString (1:Int)),S]=_;rw[zKl,show("stranger": Str)++ " "++Str.ofString (toString (1:Int))++ " "="stranger 1 " by decide +kernel]
  rw[er,qAJ rF];refine eG ?_;have K7:=K6.trans k7;clear K6 k7 er ff ad;refine⟨_,rF,k,dx,_,rF,K7 _ _ Dk.ob sS,ab,_,rF,(by walk_at"ln"),λa ha=>?_⟩;obtain⟨H3,e3,k3,h3⟩:=eL (o:=.lst []) ha;rw[e3];refine⟨(by walk_at"ln"),λa2 ae=>?_⟩;obtain⟨H4,e4,k4,h4⟩:=eL (o:=.lst [.ref a]) ae;rw[e4];have K4:=K7.trans$ k3.trans k4;refine⟨_,_,_,_,rF,rF,K4 _ _ R.top sS,h4,by rw[qAB,qAp,hs];lia,λa3 ai=>?_⟩;obtain⟨H5,e5,k5,h5⟩:=eL (o:=.lst$ (ps.map λp=>V.ref p.1)++[V.ref a]) ai;rw[e5];have K5:=K4.trans k5;have em:(ps++[(a,([]:List Str))]).map (·.2)=ps.map (·.2)++[[]]:=by rw[qAI];rfl
  have ad:zDt ((ps++[(a,([]:List Str))]).map (·.2)):=⟨by rw[qAB,qAV,qAp];lia,λr hr=>by
   rw[em]at hr;rcases qAK.mp hr with z|z
   .exact af.2 r z
   .rw [qAH.mp z];exact⟨dD,λs hs=>nomatch hs⟩⟩
  refine⟨_,ps++[(a,[])],rF,⟨by rw[h5,qAI];rfl,λp hp=>?_⟩,ad,λH6 k6=>?_⟩
  .rcases qAK.mp hp with z|z
   .exact K5 _ _ (R.row p z) sS
   .rw [qAH.mp z];exact(k4.trans k5) _ _ h3 sS
  have K6:=K5.trans k6;clear h3 h4 h5 ha ae ai e3 e4 e5 k3 k4 k5 K4 K5 k6;have ff:=t7 (b:=b) lL Ri;refine⟨_,_,rF,rF,an ad,zIp (Dk.kp0 K6) ad hb (by rw[em,ff];trivial) λH8 k8=>?_⟩;rw[em,ff];refine⟨rF,_,rF,?_⟩;rw[qAJ$ show V.str (frT .non)=V.str "right" from rfl];refine eG ?_;have K8:=K6.trans k8;clear K6 K7 k8 ff ad em;have mr:ps.reverse.map (·.2)=(ps.map (·.2)).reverse:=List.map_reverse;have aj:zDt (ps.reverse.map (·.2)):=⟨by rw[qAB,List.length_reverse];lia,λr hr=>af.2 r$ by rw[mr]at hr;exact qCy.mp hr⟩;have fr:zBn J b 1 [] (ps.reverse.map (·.2))=zEn J 1 [] (ps.reverse.map (·.2)):=by rw[mr];exact vv Ri
  refine⟨_,rF,k,dx,_,rF,K8 _ _ Dk.ob sS,ab,_,rF,_,rF,_,rF,rF,m,_,rF,SqL.of$ K8 _ _ R.top sS,by rw[qAB];lia,λa ha=>?_⟩;rw[<-List.map_reverse];obtain⟨H3,e3,k3,h3⟩:=eL (o:=.lst$ ps.reverse.map λp=>V.ref p.1) ha;rw[e3];have K3:=K8.trans k3;refine⟨_,ps.reverse,rF,⟨h3,λp hp=>K3 _ _ (R.row p$ qCy.mp hp) sS⟩,aj,λH6 k6=>?_⟩;have K6:=K3.trans k6;refine⟨_,_,rF,rF,an aj,zIp (Dk.kp0 K6) aj hb (by rw[fr];exact mC (k:=1) _ _ (λr hr=>(aj.2 r hr).2)$ by rw[qAB,List.length_reverse];lia) λH9 k9=>?_⟩;have K9:=K6.trans k9;refine⟨_,rF,_,rF,_,rF,_,rF,_,rF,rF,m,_,rF,SqL.of$ K9 _ _ R.top sS,by rw[qAB];lia,λa2 ae=>?_⟩;rw[<-List.map_reverse];obtain⟨aZ,az,aA,h10⟩:=eL (o:=.lst$ ps.reverse.map λp=>V.ref p.1) ae;rw[az];have ak:=K9.trans aA;refine⟨l,d,a2,J,ps.reverse,la,L,rF,ak _ _ hl sS,D0.kp0 ak,few,hL,⟨h10,λp hp=>ak _ _ (R.row p$ qCy.mp hp) sS⟩,aj,λp hp=>aK p$ qCy.mp hp,λa0 aB=>⟨rF,_,rF,?_⟩⟩;rw[fr,qAJ rF];refine eG ?_;have aL:=ak.trans aB;clear ak K9 K6 K3 K8 k3 k6 k9 aA aB h3 h10 e3 az ha ae;refine⟨_,rF,(by walk_at"ln"),λa ha=>?_⟩;obtain⟨a1,aM,aN,h12⟩:=eL (o:=.lst []) ha;rw[aM];have ao:=aL.trans aN;refine zJs (SqL.of$ ao _ _ R.top sS) (SqL.of h12) λbb aO=>⟨bb,rF,?_⟩
  cases bb with
  |true=>exact fE$ q _ ao
  |false=>
   refine eG ?_;have ne:ps.map (·.2)≠[]:=λz=>absurd (aO.mpr$ by rw[qCN.mp z];rfl) dD;obtain⟨ls,qq,x,e0⟩:=vW pt mn ne;obtain⟨W,a4,rfl,e1,e2⟩:=List.map_eq_append_iff.mp e0;obtain⟨p1,rfl,e3⟩:=List.map_eq_singleton_iff.mp e2;subst e1;have top:=ao _ _ R.top sS;rw[qAI]at top;have al:=R.row p1 sS;rw[e3,qAI]at al;have e4:(W++[p1]).map (·.2)=W.map (·.2)++[qq++[x]]:=by rw[qAI];show _++[p1.2]=_;rw[e3]
   rw[e4]at Ri af;have a5:W.length<=7:=by rw[qAV,qAp]at l7;lia
   refine⟨_,rF,_,rF,_,rF,_,_,rF,SqL.of top,λc hc=>?_⟩;rw[show ij ((W.map λp=>V.ref p.1)++[p1].map λp=>V.ref p.1) none (some$ -1)=W.map λp=>V.ref p.1 from l_ _ _];obtain⟨a6,aP,aC,h13⟩:=eL (o:=.lst$ W.map λp=>V.ref p.1) hc;rw[aP];have aD:=ao.trans aC;have ar:=aD _ _ al sS;refine⟨_,rF,_,rF,_,_,_,_,rF,rF,SqL.of$ aC _ _ top sS,zMc _ _,_,rF,_,rF,_,_,rF,SqL.of ar,λc2 aQ=>?_⟩;rw[show ij (qq.map V.str++[x].map V.str) none (some$ -1)=qq.map V.str from l_ _ _];obtain⟨a7,aR,aE,h14⟩:=eL (o:=.lst$ qq.map V.str) aQ;rw[aR];refine⟨(by walk_at"ln"),λc3 aS=>?_⟩;obtain⟨a8,aT,as,h15⟩:=eL (o:=.lst [.ref c2]) aS;rw[aT];refine⟨_,_,_,_,rF,rF,(aE.trans as) _ _ h13 sS,h15,by rw[qAB,qAp,hs];lia,λc4 aU=>?_⟩;obtain⟨a9,aV,aF,h16⟩:=eL (o:=.lst$ (W.map λp=>V.ref p.1)++[.ref c2]) aU;rw[aV];have au:=aD.trans$ aE.trans$ as.trans aF;have em:(W++[(c2,qq)]).map (·.2)=W.map (·.2)++[qq]:=by rw[qAI];rfl
   have av:zDt ((W++[(c2,qq)]).map (·.2)):=⟨by rw[qAB,qAV,qAp];lia,λr hr=>by
    rw[em]at hr;rcases qAK.mp hr with z|z
    .exact af.2 r$ qAj _ z
    .rw [qAH.mp z];have:=af.2 (qq++[x]) sS;exact⟨by have h:=this.1;rw[qAV,qAp]at h;lia,λs hs=>this.2 s$ qAj _ hs⟩⟩
   have fl:=tu Ri;rw[<-em]at fl;have aG:=(af.2 (qq++[x]) sS).2 x sS;have aG:=aG.2.1;refine⟨_,rF,k,dx,_,rF,au _ _ Dk.ob sS,ab,_,rF,_,W++[(c2,qq)],rF,⟨by rw[h16,qAI];rfl,λp hp=>?_⟩,av,λba aW=>?_⟩
   .rcases qAK.mp hp with z|z
    .exact au _ _ (R.row p$ qAj _ z) sS
    .rw [qAH.mp z];exact(as.trans aF) _ _ h14 sS
   have aH:=au.trans aW;refine⟨_,_,rF,rF,an av,zIp (Dk.kp0 aH) av hb (by rw[fl];show x.length<=100;lia) λbc aX=>?_⟩;have aw:=aH.trans aX;have am:=aw _ _ R.top sS;rw[qAI]at am;refine⟨_,rF,_,rF,_,_,_,_,rF,rF,SqL.of am,zMc _ _,_,rF,_,_,_,_,rF,rF,SqL.of$ aw _ _ al sS,zMc _ _,_,_,rF,rF,by rw[show("missing ": Str).length=8 by decide +kernel,hs];lia,rF,?_⟩
   have er:frT (.miss x)="missing "++x:=by
    show Txt.join " " ["missing",x]=_;rw[su,show("missing": Str)++ " "="missing " by decide +kernel]
   rw[fl,er,qAJ rF];exact q _ aw
end
def zKv(ns:List Str)(L:Str->List Str)(x:Str):Nat:=zFy (λj=>decide$ x∈L (ns.getD j "")) ns.length
structure gp where
 t:Addr
 l:Addr
 d:Addr
 a:Addr
 ns:List Str
 qs:List (List Str×Addr)
 r:Str->Nat
 la:Str->Addr
 L:Str->List Str
variable{c:gp}
structure gy(c:gp):Prop where
 few:c.ns.length<=7
 g:gn c.ns c.qs c.r
 two:∀q∈c.qs,∃a b,q.1=[a,b]
 way:∀n∈c.ns,(c.L n).Nodup/\∀x,x∈c.L n↔Way c.qs n x
 ne:∀n∈c.ns,c.la n≠c.d
abbrev tr(c:gp):Str:="jobs "++gt c.ns (c.qs.map (·.1))
structure fI(H:Hp)(c:gp):Prop where
 top:H c.t=some (.tup [.str (tr c),.ref c.l,.ref c.d,.ref c.a])
 l:Txs H c.l c.ns
 d:DR H c.d c.ns c.la c.L
 a:H c.a=some (.lst$ (c.ns.map$ zKv c.ns c.L).map vN)
theorem fI.kp0{H':Hp}(A:fI H c)(k:Kp [] H H'):fI H' c:=⟨k _ _ A.top sS,k _ _ A.l sS,A.d.kp0 k,k _ _ A.a sS⟩
section
inductive n5(vs:List V)(H:Hp)(Q:VK)(u_3:XK):Prop
 |mk:∀(p:Addr)(mo:Int),vs=[.ref p,.int mo]->0<=mo->mo<=7->zCs H p->(∀(c:gp)(H':Hp),gy c->fI H' c->Fre H c.a->zCs H' p->Kp [p] H H'->Q (.ref c.t) H')->n5 vs H Q u_3
abbrev zKe:Stmt:=top 120
theorem zHi:c_ ["_law_purse_here","_law_most","_law_names_here","_law_orders","_law_behind_here","_law_ahead","_law_row"] ["_law_purse_here","_law_most"] (zAe zKe):=fnS
theorem uX(F:Fun K "_law_case" "_law_case" zKe f fd)(T:Txt K mg)(aa:Cal P w K mg base "_law_jobs" 3 ["_law_purse_here","_law_most"] jD)(O:Cal P w K mg base "_law_behind" 1 ["_law_names_here","_law_orders"] gu):eC P w K mg base CX0 4 f fd ["_law_purse_here","_law_most"] n5:=by
 refine F.ok zHi (λvs H Q E h=>?_) λaA A an s H vs Q E hr h=>?_
 .obtain ⟨p,mo,rfl,_⟩:=h;rfl
 .obtain ⟨p,mo,rfl,m0,m7,P0,k⟩:=h;have hu:=zD3 hr;have ao:=hr.mono (j:=1) dD
  refine⟨_,(zAb (zKg (zAf aa hr rF$ zAa (pv 0)$ zAa (pv 1) zAc)$ zEm rF$ zAr (pgN (i:=2) zHi.nd)$ zAr (pgN (i:=3) zHi.nd) zBz) (zAb (psS (i:=4) zHi.nd$ zAf O ao rF$ zAa (pv 2)$ zAa (pv 3) zAc)
   (zAb (zI9 (i:=5) rF (zBe (sc:=zAe zKe) rF kK) (d_.own (x:= "_law_name")$ dtk (i:=2) rF$ dtk (i:=4) rF d_.nil) (zAl$ pv 2) (fun _ _ _ _=>(pgB (i:=0))) (fun _ _ _ _=>zBq) (fun _ _ _ _=>(zAn (zKt (K:=K) rF) rR T.z_sum sY$ zAa (zA6 rF (n6 (sc:=zAe zKe) rF rF kK) (d_.own (x:= "_law_j")$ dtk (i:=0) rF$ dtk (i:=2) rF$ dtk (i:=1) rF d_.nil) (zCu rF T.z_range$ zAa (zAn (zHc (K:=K)) rR T.z_len zCc$ zAa (pv 1) zAc) zAc) (fun _ _ _ _=>(pgB (i:=0))) (fun _ _ _ _=>(zB8$ zE0$ zH2 hu (pv 1)$ zBt hu (pv 2) (zA9 (zEi (K:=K)) (pv 3) (pv 0) fun _ _=>rfl) fun _ _=>rfl)) fun _ _ _ _=>(zAs mH zAg$ pv 0)) zAc)) zHi.nd rF rF)
   (@zAb _ _ _ _ _ (@psS _ 6 _ _ _ _ _ zHi.nd (@zAs _ _ _ _ _ _ _ _ zA5 zAm (zCj qBE qB4 qB5 zGc zAm$ zAa (zAs zFx (zAw$ zAa (zCj qBE qB4 qB5 zGc zAm$ zAa (pv 2) zAc) zAc)$ zA6 rF (zBe (sc:=zAe zKe) rF kK) (d_.own (x:= "_law_one")$ d_.own (x:= "_law_other") d_.nil) (zAl$ pv 3) (fun _ _ _ _=>(zJa (K:=K) (n:=2) rF$ zAr (pgB (i:=0))$ zAr (pgB (i:=1)) zBz)) (fun _ _ _ _=>zBq) fun _ _ _ _=>(zAs zA5 (zAs zA5 (pv 0) zAm)$ pv 1)) zAc)) (by rfl) (by walk_at"lc") (by rfl) (.inl rF))$ zAd$ zAk$ zCl$ zAa (pv 6)$ zAa (pv 2)$ zAa (pv 4)$ zAa (pv 5) zAc)))),?_⟩
  have hs:=qAM;refine⟨_,rF,_,rF,p,mo,rF,m0,lL,P0,λt l m ns qs r H4 n7 aB ht ft fl fm fq hl hm G P4 K4=>?_⟩;refine⟨_,_,rF,.inl$ .inl ht,rF,_,_,rF,_,_,rF,rF,?_⟩;have n7:ns.length<=7:=lL
  refine⟨_,rF,_,rF,l,m,ns,qs,rF,hl,hm,G.nd,G.few,by have:=G.qfew;lia,G.qin,λd la L H7 D hL k7=>?_⟩;have W:=k7 _ _ hl sS;have ag:=hm.kp k7 sS sS;have P7:=P4.kp k7 sS;have D7:=D.rd;have K7:Kp [p] H H7:=K4.trans$ k7.weak sS;have en:((ns.map V.str).length:Int).toNat=ns.length:=by rw[qAB,qBQ]
  refine⟨_,rF,_,rF,⟨_,SqL.of W⟩,λRa ab=>zA8 (ns.map V.str) (λi ys τ H'=>(∃o0,τ=[o0,some (.ref l),some (.ref d)])/\ys=((ns.take i).map λx=>vN$ zKv ns L x)/\Kp [] H7 H'/\H' Ra=some (.lst ys)) ⟨⟨_,rF⟩,rF,Kp.new Kp.refl ab,ac⟩ (λi ys τ H' ⟨_,_,S,_⟩=>SqL.of$ S _ _ W sS) ?_ ?_⟩
  .rintro i v ys τ H' hv ⟨⟨o0,rfl⟩,rfl,S,h'⟩;obtain⟨x,ex,rfl⟩:=zBh hv;have ah:=S _ _ W sS;refine⟨_,rF,_,_,rF,.inl$ SqL.of ah,_,rF,lL,lL,λRj ai=>zKr (lo:=0) (n:=((ns.map V.str).length:Int).toNat) (λj zs ad ae=>(∃o0,ad=[o0,some (.str x),some (.ref d),some (.ref l)])/\zs=((((List.range ns.length).take j).filter λj=>decide$ x∈L (ns.getD j "")).map λj=>V.int$ 1*2^j)/\ae=upd H' Rj (.lst zs)) ⟨⟨_,rF⟩,rF,rF⟩ ?_ ?_⟩
   .rintro j zs ad ae hj ⟨⟨o0,rfl⟩,rfl,rfl⟩;rw[en]at hj;have ej:(0+(j:Int)).toNat=j:=lL
    have er:=rM hj;have kS:=Kp.new (M:=[]) (l:=Rj) (o:=.lst$ (((List.range ns.length).take j).filter λj=>decide$ x∈L (ns.getD j "")).map λj=>V.int$ 1*2^j) Kp.refl ai;have lf:(((List.range ns.length).take j).filter λj=>decide$ x∈L (ns.getD j "")).length<=7:=qAR (qAq _ _) (by rw[qAX,qBJ];lia);have av:atI (ns.map V.str) (0+(j:Int))=some (.str$ ns.getD j ""):=zAx lL (by rw[ej,qAU,zE6 hj];rfl);have D':=D7.kp0$ S.trans kS;have hn:=zFm hj;obtain⟨oo,g1,g2⟩:=jm (D'.row _ hn) x;refine⟨_,rF,_,rF,_,rF,_,rF,_,_,_,_,rF,rF,SqL.of$ kS _ _ ah sS,av,d,_,rF,D'.get hn,_,oo,rF,g1,_,rF,?_⟩;rw[g2];refine eU (λc=>⟨_,rF,_,_,rF,rF,⟨lL,lL,dD⟩,ac,by rw[qAB,hs];lia,⟨_,rF⟩,?_,zBm⟩) λc=>⟨⟨_,rF⟩,?_,rF⟩
    .rw [zBr _ er,qAD c,qAI];show _++[V.int (1*2^(0+(j:Int)).toNat)]=_;rw[ej];rfl
    .rw [zBr _ er,qAC c,qA4]
   .rw [en];rintro zs ad ae ⟨_,rfl,rfl⟩;rw[qBC$ by rw[qBJ];exact qAF _];have kS:Kp [] H' (upd H' Rj$ .lst$ ((List.range ns.length).filter λj=>decide$ x∈L (ns.getD j "")).map λj=>V.int$ 1*2^j):=Kp.new Kp.refl ai;have ll:(ns.take i).length<=7:=by rw[qAX];lia
    refine⟨Rj,((List.range ns.length).filter λj=>decide$ x∈L (ns.getD j "")).map λj=>1*2^j,rF,SqL.of (by rw[ac,qAb];rfl),kS _ _ h' sS,by rw[qAB,hs];lia,⟨_,rF⟩,?_,Kp.new (S.trans kS) ab,ac⟩;rw[zKa,zAh ex,qAI];rfl
  rintro ys τ H8 ⟨_,rfl,k8,h8⟩;rw[qAB,qAY]at h8;have h8:H8 Ra=some (.lst$ (ns.map$ zKv ns L).map vN):=by rw[h8,qAb];rfl
  have aj:=k8 _ _ W sS;have D8:=D7.kp0 k8;have P8:=P7.kp k8 sS;have ap:=ag.kp k8 sS sS;have K8:Kp [p] H H8:=K7.trans$ k8.weak sS;have aq:Fre H Ra:=K7.fre ab (nm1$ by obtain⟨_,_,e,_⟩:=P7;exact(b_ ab e).symm);clear W D7 P7 ag K7 k8;have nl:=zJe G.nm G.few
  have tw:sq (qs.map (·.1)):=λkk hk=>by
   obtain⟨q,hq,rfl⟩:=qAG.mp hk;obtain⟨a,b,e⟩:=hm.two q hq;exact⟨a,b,e,G.nm a (G.qin q hq a$ by rw[e];simp),G.nm b$ G.qin q hq b$ by rw[e];simp⟩
  have tl:=jX G.nm G.few tw (by rw[qAB];lia);refine⟨rF,rF,_,rF,_,_,_,rF,rF,SqL.of aj,lL,(by walk_at"ln"),λu ar=>?_⟩;obtain⟨H9,e9,k9,h9⟩:=eL (o:=.lst [.str (Txt.join " " ns)]) ar;rw[e9];have af:=ap.kp k9 sS sS;refine⟨_,rF,_,rF,⟨_,SqL.of af.top⟩,λB hB=>zA8 (qs.map λq=>V.ref q.2) (λi ys τ H'=>(∃o0 o1,τ=[o0,o1])/\ys=(((qs.take i).map λq=>fA q.1).map V.str)/\Kp [] H9 H'/\H' B=some (.lst ys)) ⟨⟨_,_,rF⟩,rF,Kp.new Kp.refl hB,ac⟩ (λi ys τ H' ⟨_,_,S,_⟩=>SqL.of$ S _ _ af.top sS) ?_ ?_⟩
  .rintro i v ys τ H' hv ⟨⟨o0,o1,rfl⟩,rfl,S,h'⟩;obtain⟨q,eq,rfl⟩:=g9 hv;have mq:=qAN eq;obtain⟨a,b,ak,ha,hb⟩:=tw q.1$ qAG.mpr ⟨q,mq,rF⟩
   have al:H' q.2=some (.tup [.str a,.str b]):=by
    rw[S _ _ (af.row q mq) sS,ak];rfl
   refine⟨_,_,rF,.inl$ .inl al,rF,_,_,rF,_,_,rF,rF,?_⟩;have la:=ha.2.1;have lb:=hb.2.1;have x2:(" < ": Str).length=3:=dD
   refine⟨_,rF,_,_,rF,rF,by rw[x2,hs];lia,_,rF,_,_,rF,rF,by rw[My.fj,x2,hs];lia,h',?_,⟨_,_,rF⟩,?_,Kp.new S hB,ac⟩
   .rw [qAB,qAB,qAX,hs];lia
   .rw [zAh eq,qAI,qAI];show _=_++[V.str (fA q.1)];rw[zd ak]
  .rintro ys τ H' ⟨_,rfl,S,h'⟩;rw[qAB,qAY]at h';refine⟨_,_,_,_,rF,rF,S _ _ h9 sS,h',by rw[qAB,qAB,qAp,hs];lia,λc hc=>?_⟩;obtain⟨as,au,aw,h10⟩:=eL (o:=.lst$ [V.str (Txt.join " " ns)]++(qs.map λq=>fA q.1).map V.str) hc;rw[au];have h10:as c=some (.lst$ (Txt.join " " ns::(qs.map (·.1)).map fA).map V.str):=by rw[h10,qAb,qAi,qAb,qAb];rfl
   refine⟨_,_,_,rF,rF,SqL.of h10,lL,_,_,rF,rF,?_,?_⟩
   .show _+(gt ns$ qs.map (·.1)).length<=_;rw[show("jobs ": Str).length=5 by decide +kernel,hs];lia
   refine⟨_,rF,_,rF,_,rF,_,rF,(by walk_at"ln"),λtt ax=>?_⟩;obtain⟨am,ay,az,h11⟩:=eL (o:=.tup [.str ("jobs "++gt ns (qs.map (·.1))),.ref l,.ref d,.ref Ra]) ax;have kk:Kp [] H8 am:=k9.trans$ S.trans$ aw.trans az;have:=k ⟨tt,l,d,Ra,ns,qs,r,la,L⟩ am ⟨n7,G,hm.two,hL,D.ne⟩ ⟨h11,kk _ _ aj sS,D8.kp0 kk,kk _ _ h8 sS⟩ aq (P8.kp kk sS)$ K8.trans$ kk.weak sS;rw[<-ay]at this;exact this
end
section
variable{J:JR}{b:Int}
theorem u7{A:WL}{k:List Str}{v M:Int}(h:∀e∈A,e.2<=M)(h0:0<=M)(V:0<=v):∀e∈fC A k v,e.2<=M+v:=by
 intro e O;unfold fC at O
 by_cases c:k∈A.map (·.1)
 .rw [qAD c]at O;obtain⟨x,S,rfl⟩:=qAG.mp O;have:=h x S
  by_cases d:x.1=k
  .rw [qAD d];show x.2+v<=_;lia
  .rw [qAC d];lia
 .rw [qAC c]at O;rcases qAK.mp O with z|z
  .have:=h e z;lia
  .rw [qAH.mp z];show v<=_;lia
theorem ur{v:Int}(V:0<=v):∀(S:List (List Str×List Str)) (A:WL) (M:Int),(∀e∈A,e.2<=M)->0<=M->∀e∈S.foldl (λA s=>fC A s.2 v) A,e.2<=M+S.length*v:=by
 intro S
 induction S with
 |nil=>intro A M h _ e O;have:=h e O;simp;lia
 |cons s S W=>
  intro A M h h0 e O;have:=W (fC A s.2 v) (M+v) (u7 h h0 V) lL e O;rw[qAd];have e1:((S.length+1:Nat):Int)*v=S.length*v+v:=by rw[Int.natCast_add,Int.add_mul];simp
  rw[e1];lia
theorem uJ{V:Int}(few:J.ns.length<=7):∀(L A:WL)(M:Int),(∀e∈L,1<=e.2/\e.2<=V)->(∀e∈A,e.2<=M)->0<=M->∀e∈L.foldl (zFr J b) A,e.2<=M+L.length*(128*V):=by
 intro L
 induction L with
 |nil=>intro A M _ h _ e O;have:=h e O;simp;lia
 |cons x L W=>
  intro A M S h h0 e O;have hx:=S x qAO;have h1:=ur (v:=x.2) lL (zA2 J b x.1) A M h h0;have hl:=zFb (J:=J) (b:=b) (D:=x.1) few;have h2:((zA2 J b x.1).length:Int)*x.2<=128*V:=Int.le_trans (Int.mul_le_mul_of_nonneg_right (show((zA2 J b x.1).length:Int)<=128 by lia) lL)$ Int.mul_le_mul_of_nonneg_left hx.2 dD;have:=W (zFr J b A x) (M+128*V) (λe O=>S e$ qAS _ O) (λe O=>Int.le_trans (h1 e O) lL) lL e O;rw[qAd];have e1:((L.length+1:Nat):Int)*(128*V)=L.length*(128*V)+128*V:=by rw[Int.natCast_add,Int.add_mul];simp
  rw[e1];lia
theorem uC(few:J.ns.length<=7)(t:Nat):(eP J b t).length<=128:=pc few (ji J b t)$ jC J b t
theorem rf(few:J.ns.length<=7):∀t,∀e∈eP J b t,e.2<=((2^(14*t):Nat):Int)
 |0=>λe O=>by rw[qAH.mp O];decide
 |t+1=>λe O=>by
  have h1:=uJ few (eP J b t) [] 0 (λe O=>⟨zIw J b t e O,rf few t e O⟩) (λe h=>nomatch h) (Int.le_refl _) e O;have V:=uC (b:=b) few t;have W:(0:Int)<=((2^(14*t):Nat):Int):=qCU _;have h2:((eP J b t).length:Int)*(128*((2^(14*t):Nat):Int))<=128*(128*((2^(14*t):Nat):Int)):=Int.mul_le_mul_of_nonneg_right lL lL;have S:(2:Nat)^(14*(t+1))=2^(14*t)*16384:=by rw[show 14*(t+1)=14*t+14 by lia,Nat.pow_add]
  rw[S];lia
theorem wY{M:Int}(h0:0<=M){k:List Str}:∀A:WL,(∀e∈A,1<=e.2/\e.2<=M)->0<=fN A k/\fN A k<=M:=by
 intro A
 induction A with
 |nil=>intro _;exact⟨Int.le_refl _,h0⟩
 |cons e A O=>
  intro h
  by_cases c:e.1=k
  .rw [zIt c];have:=h e qAO;lia
  .rw [zG8 c];exact O λx S=>h x$ qAS _ S
theorem uM(few:J.ns.length<=7){t:Nat}(S:t<=40):(eZ J b t).natAbs.log2<1920:=by
 obtain⟨h1,h2⟩:=wY (k:=J.ns) (qCU$ 2^(14*t)) (eP J b t) λe O=>⟨zIw J b t e O,rf few t e O⟩
 have h3:(eZ J b t).natAbs<=2^(14*t):=by
  have:((eZ J b t).natAbs:Int)=eZ J b t:=Int.natAbs_of_nonneg h1;have h4:((eZ J b t).natAbs:Int)<=((2^(14*t):Nat):Int):=by rw[this];exact h2
  exact Int.ofNat_le.mp h4
 have h5:(2:Nat)^(14*t)<=2^560:=qBp dD lL
 by_cases z:(eZ J b t).natAbs=0
 .rw [z];decide
 .rw [Nat.log2_lt z];exact qBo (qAR h3 h5)$ Nat.pow_lt_pow_right dD dD
end
structure jH(J:JR)(c:gp):Prop where
 ns:J.ns=c.ns
 hL:∀n∈J.ns,∀y∈J.ns,y∈c.L n↔n∈J.S y
 sub:∀n∈J.ns,∀y∈c.L n,y∈J.ns
 rk:∀n∈J.ns,∀x∈J.S n,c.r x<c.r n
theorem sC(A:eI C H j J)(o:gy c)(en:J.ns=c.ns)(V:∀k,k∈J.zs.map (·.1)↔k∈c.qs.map (·.1)):jH J c:=by
 have G:gn J.ns c.qs c.r:=en▸o.g;refine⟨en,λn O y S=>?_,λn O y S=>?_,λn O x W=>xx A G V _ n x (qAF _) O W⟩
 .rw [(o.way n$ en▸O).2 y,yO A G V S]
 .exact (Way.to o.two G.qin$ ((o.way n$ en▸O).2 y).mp S).2
theorem jH.ahb(R:jH J c):AhB J (c.ns.map$ zKv c.ns c.L):=by
 obtain⟨en,S,_,_⟩:=R;rw[<-en];refine⟨by rw[qAB],λk O=>?_⟩;rw[qBN,qAU,zE6 O];show zKv J.ns c.L (J.ns.getD k "")=_;refine qBs λi=>?_;unfold zKv mkB;rw[zIz,zIz]
 by_cases z:i<J.ns.length
 .rw [decide_eq_decide.mpr$ S (J.ns.getD i "") (zFm z) (J.ns.getD k "")$ zFm O]
 .rw [qAP z];rfl
theorem PlA.rows{l:Addr}{ps:List (Addr×List Str)}(R:PlA H l ps):pM H l (ps.map (·.1)) (ps.map (·.2)):=⟨by rw[R.top,qAb];rfl,by rw[qAB,qAB],λi a r S O=>by
 rw[qAU]at S O;obtain⟨p,ep,rfl⟩:=qAw.mp S;rw[ep]at O
 cases O
 exact R.row p$ qAN ep⟩
section
variable{P:Program}{w:World}{K:PySem.W.Frag}{mg:Str->Option Value}{base:Heap}{C CD:Addr}
inductive mS(C CD:Addr)(vs:List V)(H:Hp)(Q:VK)(u_3:XK):Prop
 |mk:∀(k dx j e:Addr)(b:Int)(J:JR)(c:gp)(cs:Addr)(ts:List Nat),vs=[.ref k,.ref c.t,.int b,.ref cs]->fF C CD H k dx j e b J->fI H c->gy c->jH J c->1<=b->H cs=some (.lst$ ts.map vN)->ts≠[]->ts.length<=2->(∀t∈ts,t<=4)->(∀H',Kp [] H H'->Q (.bl true) H')->mS C CD vs H Q u_3
abbrev jG:Stmt:=top 121
theorem zEr:c_ ["_law_desk","_law_case_here","_law_benches","_law_counts","_law_row","_law_names_here","_law_behind_here","_law_ahead","_law_ways_here","_law_plan","_law_turns"] ["_law_desk","_law_case_here","_law_benches","_law_counts"] (zAe jG):=fnS
theorem uR(F:Fun K "_law_few" "_law_few" jG f fd)(T:Txt K mg)(U:DC K mg C CD)(ab:Mth P w K mg base CD "say" 9 ["self","row"] (gj C CD))(ae:Cal P w K mg base "_law_ways" 2 ["_law_names_here","_law_ahead","_law_benches","_law_least"] nX)(W:Cal P w K mg base "_law_plan_of" 1 ["_law_text"] hU)(S:Cal P w K mg base "_law_is_right" 1 ["_law_names_here","_law_behind_here","_law_benches","_law_plan"] gv)(aa:Cal P w K mg base "_law_looked" 10 ["_law_desk","_law_names_here","_law_behind_here","_law_plan"] (gQ C CD)):eC P w K mg base CX0 11 f fd ["_law_desk","_law_case_here","_law_benches","_law_counts"] (mS C CD):=by
 refine F.ok zEr (λvs H Q E h=>?_) λaC A ap s H vs Q E hr h=>?_
 .obtain ⟨k,dx,j,e,b,J,c,cs,ts,rfl,_⟩:=h;rfl
 .obtain ⟨k,dx,j,e,b,J,c,cs,ts,rfl,Dk,A0,o,O,hb,al,aq,t2,t4,q⟩:=h;have am:=hr.mono (j:=1) dD;have ar:=hr.mono (j:=2) dD;have an:=hr.mono (j:=9) dD
  refine⟨_,(zAb (zKg (pv 1)$ zEm rF$ zAr (pgN (i:=4) zEr.nd)$ zAr (pgN (i:=5) zEr.nd)$ zAr (pgN (i:=6) zEr.nd)$ zAr (pgN (i:=7) zEr.nd) zBz) (zAb (psS (i:=8) zEr.nd$ zAf ae ar rF$ zAa (pv 5)$ zAa (pv 7)$ zAa (pv 2)$ zAa (zAn (qK rF) rR T.z_max rK$ zAa (pv 3) zAc) zAc)
   (zAb (psS (i:=9) zEr.nd$ zAf W am rF$ zAa (zBf ab U.cl an (pv 0)$ zAa zAm zAc) zAc)
   (zAb (zA1 (PW.pt$ zI8 (zBy$ zBv$ zAf S am rF$ zAa (pv 5)$ zAa (pv 6)$ zAa (pv 2)$ zAa (pv 9) zAc)$ zEy$ zAj zGx (zAn zAy rR T.z_len zCc$ zAa (pv 9) zAc) (zCj qA7 PySem.F.slot_list_index PySem.F.type_list_index pZ (zA6 rF (zBe (sc:=zAe jG) rF kK) (d_.own (x:= "_law_many") d_.nil) (zAl$ pv 8) (fun _ _ _ _=>(pgB (i:=0))) (fun _ _ _ _=>zBq) fun _ _ _ _=>(zCn zLi (pv 0) zAg$ zAo _))$ zAa zJz zAc)$ zAo _)
    (zAd zAq)
    zAi)
   (zAb (zA4 qAZ rF (zAl$ zAs zFx (pv 3)$ zAw$ zAa (zAn zAy rR T.z_len zCc$ zAa (pv 9) zAc) zAc) (pgN (i:=10) zEr.nd)
    (zAd (zA1 (zAj zGx (zBf ab U.cl an (pv 0)$ zAa (zAs zA5 zAm$ zAz zBo rR T.z_str zDg$ zAa (pv 10) zAc) zAc) (zAz zBo rR T.z_str zDg$ zAa (zA9 zAt (pv 8) (pv 10) fun _ _=>rfl) zAc)$ zAo _)
     (zAd zAq)
     zAi)))$ zAd$ zAk$ zAf aa hr rF$ zAa (pv 0)$ zAa (pv 5)$ zAa (pv 6)$ zAa (pv 9) zAc))))),?_⟩
  have hs:=qAM;have few:J.ns.length<=7:=O.ns▸o.few;have nd:J.ns.Nodup:=O.ns▸o.g.nd;have nm:∀n∈J.ns,zBg n:=O.ns▸o.g.nm;have hl:Txs H c.l J.ns:=O.ns▸A0.l;have D0:DR H c.d J.ns c.la c.L:=O.ns▸A0.d;have as:∀n∈J.ns,c.la n≠c.d:=O.ns▸o.ne;have ad:(df j b e).lookup ("say": Str)=none:=zJ5 kK kK kK;refine⟨_,rF,_,_,rF,.inl$ .inl A0.top,rF,_,_,rF,_,_,rF,_,_,rF,_,_,rF,rF,?_⟩;have au:ts.map vN=(ts.map λt:Nat=>(t:Int)).map V.int:=by rw[qAb];rfl
  refine⟨_,rF,_,rF,_,rF,_,rF,cs,ts.map λt:Nat=>(t:Int),rF,SqL.of (by rw[al,au]),λz=>aq$ qCN.mp z,λM hM av=>?_⟩;obtain⟨n0,aw,rfl⟩:=qAG.mp hM;have n4:=t4 n0 aw;have ax:∀t∈ts,t<=n0:=λt ht=>Int.ofNat_le.mp$ av _$ qAG.mpr ⟨t,ht,rF⟩;refine⟨c.l,c.a,b,n0,J,_,c.r,rF,hl,A0.a,O.ahb,nd,few,hb,lL,O.rk,λp N H1 h1 h2 h3 h4 k1=>?_⟩;refine⟨_,rF,k,dx,_,rF,k1 _ _ Dk.ob sS,ad,.word k dx _ rF (k1 _ _ Dk.ob sS) (zJ5 kK kK kK) λH2 k2=>.mk k dx j e b J c.r rF (Dk.kp0$ k1.trans k2) O.rk nm hb few λrs H3 Ri l7 mn pt k3=>⟨rs,rF,jw nm few Ri lL,λm ps H4 R er k4=>?_⟩⟩;subst er;rw[qAB]at l7;have K4:=k1.trans$ k2.trans$ k3.trans k4;have ao:=(k2.trans$ k3.trans k4) _ _ h4 sS;refine⟨_,rF,_,rF,_,rF,_,rF,c.l,c.d,m,b,J,_,_,c.la,c.L,rF,K4 _ _ hl sS,D0.kp0 K4,as,nd,lL,(λn hn y hy=>⟨O.sub n hn y hy,(O.hL n hn y$ O.sub n hn y hy).mp hy⟩),R.rows,by rw[qAB];lia,Ri,λH5 k5=>⟨_,rF,eG ?_⟩⟩;have R5:=R.kp0 k5;have af:=k5 _ _ ao sS;have K5:=K4.trans k5
  have mN:ps.length<N:=by
   apply Nat.lt_of_not_le;intro z;obtain⟨t,ht,hc⟩:=h2
   have:=rJ (J:=J) (b:=b) (t:=t) λai hp=>by
    have:=mn ai hp;rw[qAB]at this;lia
   lia
  refine⟨_,rF,_,_,rF,.inl$ SqL.of R5.top,_,rF,_,rF,⟨_,SqL.of af⟩,λB hB=>zA8 ((List.range N).map λt=>V.int$ eZ J b t) (λi ys τ H'=>(∃o0,τ=[o0])/\ys=(((List.range N).take i).map λt=>V.bl$ decide$ eZ J b t>0)/\Kp [] H5 H'/\H' B=some (.lst ys)) ⟨⟨_,rF⟩,rF,Kp.new Kp.refl hB,ac⟩ (λi ys τ H' ⟨_,_,k',_⟩=>SqL.of$ k' _ _ af sS) ?_ ?_⟩
  .rintro i v ys τ H' hv ⟨⟨o0,rfl⟩,rfl,k',h'⟩;rw[qAU]at hv;obtain⟨t,et,rfl⟩:=qAw.mp hv;refine⟨_,rF,_,_,rF,rF,h',?_,⟨_,rF⟩,?_,Kp.new k' hB,ac⟩
   .rw [qAB,qAX,qBJ,hs];lia
   .rw [zAh et,qAI];rfl
  rintro ys τ H6 ⟨_,rfl,k6,h6⟩;rw[qAB,qAY]at h6;have eb:((List.range N).map λt=>V.bl$ decide$ eZ J b t>0)=((List.range N).map λt=>decide$ eZ J b t>0).map V.bl:=by rw[qAb];rfl
  rw[eb]at h6;refine⟨.inl ⟨rF,_,SqL.of h6⟩,B,_,ps.length,rF,rF,h6,?_,λi hi=>?_,by rw[qAB,qBJ];lia,rF,_,rF,?_⟩
  .rw [qAU,qBq mN];have:=oV pt;rw[qAB]at this;show some (decide$ eZ J b ps.length>0)=_;rw[qAJ lL]
  .rw [qAU,qBq lL];show some (decide$ eZ J b i>0)=_
   rw[rJ (J:=J) (b:=b) (t:=i) λai hp=>by
    have:=mn ai hp;rw[qAB]at this;lia]
   rfl
  rw[qAB,qAJ rF];refine eG ?_;have K6:=K5.trans k6;have R6:=R5.kp0 k6;have ay:=k6 _ _ af sS;clear h6 hB R5 af K5 k6 K4 ao k1 k2 k3 k4 k5 h4 R h2;refine⟨_,rF,_,rF,_,_,rF,.inl$ SqL.of R6.top,(by walk_at"ln"),λa ha=>?_⟩;rw[qAB];obtain⟨H7,e7,k7,h7⟩:=eL (o:=.lst [.int (ps.length:Int)]) ha;rw[e7];refine⟨_,_,_,_,rF,rF,(K6.trans k7) _ _ al sS,h7,by rw[qAB,qAp,hs];lia,λa2 az=>?_⟩;rw[show ts.map vN++[V.int (ps.length:Int)]=(ts++[ps.length]).map vN by rw[qAI];rfl];obtain⟨H8,e8,k8,h8⟩:=eL (o:=.lst$ (ts++[ps.length]).map vN) az;rw[e8];have aj:=k7.trans k8;have K8:=K6.trans aj;refine⟨_,rF,⟨_,SqL.of h8⟩,zA0 (xs:=(ts++[ps.length]).map vN) (λi σ H9=>(∃ak,σ=[some (.ref k),some (.ref c.t),some (.int b),some (.ref cs),some (.str$ tr c),some (.ref c.l),some (.ref c.d),some (.ref c.a),some (.ref p),some (.ref m),ak])/\Kp [] H8 H9) ⟨⟨_,rF⟩,Kp.refl⟩ (λi σ H9 _ ⟨_,k9⟩=>SqL.of$ k9 _ _ h8 sS) ?_ ?_⟩
  .rintro i v σ H9 hv ⟨⟨ak,rfl⟩,k9⟩;obtain⟨t,et,rfl⟩:=g5 hv;have K9:=K8.trans k9
   have tN:t<N/\t<=7:=by
    rcases qAK.mp (qAN et) with z|z
    .have:=ax t z;lia
    .rw [qAH.mp z];lia
   have nk:=iT (n:=t) lL;have l2:(Str.ofString$ toString (t:Int)).length<=2:=nk.l2;have lg:((t:Int)).natAbs.log2<1920:=qBo (qCx _) lL;have lc:=uM (J:=J) (b:=b) few (t:=t) lL;have l6:("count ": Str).length=6:=kK
   refine⟨_,rF,k,dx,_,rF,K9 _ _ Dk.ob sS,ad,_,rF,_,rF,lg,_,_,rF,rF,by rw[l6,hs];lia,.more k dx _ "count" (nS t) _ rF (by rw[show("count": Str)++ " "="count " by decide +kernel]) kK (by rw[fj,l6];lia) (K9 _ _ Dk.ob sS) (zJ5 kK kK kK) λaA ag=>.cnt k dx j e b J t rF lL (Dk.kp0$ K9.trans ag) hb few lc λaD aB=>?_⟩;have ah:=k9.trans$ ag.trans aB;refine⟨_,rF,_,rF,_,_,_,_,rF,rF,SqL.of$ (aj.trans ah) _ _ ay sS,zAx lL (by rw[qAU,show((t:Int)).toNat=t from qBQ t,qBq tN.1];rfl),_,rF,lc,rF,_,rF,?_⟩;rw[qAJ rF];exact eG ⟨⟨_,rF⟩,ah⟩
  .rintro σ H9 ⟨⟨ak,rfl⟩,k9⟩;have K9:=K8.trans k9;refine⟨_,rF,_,rF,_,rF,_,rF,k,dx,j,e,c.l,c.d,m,b,J,ps,c.la,c.L,rF,Dk.kp0 K9,K9 _ _ hl sS,D0.kp0 K9,few,nm,O.hL,hb,R6.kp0$ aj.trans k9,Ri,l7,mn,pt,λaA ag=>q _$ K9.trans ag⟩
end
def uk(H:Hp)(a:Addr):Prop:=∃x y:Int,H a=some (.lst [.int x,.int y])
theorem zCs.cell{p:Addr}(h:zCs H p):uk H p:=by
 obtain⟨a,b,e,_⟩:=h;exact⟨a,b,e⟩
theorem oC{ns:List Str}{x y:Int}:HO.lst (ns.map V.str)≠HO.lst [.int x,.int y]:=λz=>by
 injection z with z
 cases ns with
 |nil=>cases z
 |cons n ns=>injection z with z _;cases z
theorem uQ{α:Type}{f:α->Addr}{zs:List α}{x y:Int}:HO.lst (zs.map λq=>V.ref$ f q)≠HO.lst [.int x,.int y]:=λz=>by
 injection z with z
 cases zs with
 |nil=>cases z
 |cons n ns=>injection z with z _;cases z
theorem zHz{a b:Addr}{x y:Int}:HO.lst [.ref a,.ref b]≠HO.lst [.int x,.int y]:=λz=>by
 injection z with z;injection z with z _
 cases z
section
variable{C CD:Addr}{H H':Hp}{a k:Addr}
theorem eI.cell(A:eI C H j J)(h:uk H a)(q:Kp [a] H H'):eI C H' j J:=by
 obtain⟨x,y,h⟩:=h;refine A.kp q λb o _ O=>?_;rw[qAH.mp O];exact⟨(zAu A.ob h λz=>nomatch z).symm,(zAu A.row h oC).symm,(zAu A.prs.top h uQ).symm,(zAu A.abv h λz=>nomatch z).symm,(λq S=>(zAu (A.prs.row q S) h λz=>nomatch z).symm),(λn V=>(zAu (A.sets n V) h λz=>nomatch z).symm)⟩
theorem eI.dk{fs:List (Str×V)}(A:eI C H j J)(h:H k=some (.ins CD dx fs))(O:C≠CD)(q:Kp [k] H H'):eI C H' j J:=by
 refine A.kp q λb o _ S=>?_;rw[qAH.mp S];exact⟨(zAu A.ob h λz=>O$ by injection z).symm,(zAu A.row h λz=>nomatch z).symm,(zAu A.prs.top h λz=>nomatch z).symm,(zAu A.abv h λz=>nomatch z).symm,(λq W=>(zAu (A.prs.row q W) h λz=>nomatch z).symm),(λn hn=>(zAu (A.sets n hn) h λz=>nomatch z).symm)⟩
theorem fF.cell{k:Addr}(D:fF C CD H k dx j e b J)(h:uk H a)(q:Kp [a] H H'):fF C CD H' k dx j e b J:=⟨q _ _ D.ob (nm1$ by obtain⟨x,y,h⟩:=h;exact zAu D.ob h λz=>nomatch z),D.a.cell h q⟩
theorem fF.dk{S O:Addr}{fs:List (Str×V)}(D:fF C CD H S O j e b J)(h:H k=some (.ins CD dx fs))(W:C≠CD)(nk:S≠k)(q:Kp [k] H H'):fF C CD H' S O j e b J:=⟨q _ _ D.ob$ nm1 nk,D.a.dk h W q⟩
theorem DR.kp{M:List Addr}{d:Addr}{ns:List Str}{O:Str->Addr}{L:Str->List Str}(D:DR H d ns O L)(q:Kp M H H')(h1:d∉M)(h2:∀n∈ns,O n∉M):DR H' d ns O L:=⟨q _ _ D.top h1,λn S=>q _ _ (D.row n S)$ h2 n S⟩
theorem fI.cell(A:fI H c)(h:uk H a)(O:c.a≠a)(q:Kp [a] H H'):fI H' c:=by
 obtain⟨x,y,h⟩:=h;exact⟨q _ _ A.top (nm1$ zAu A.top h λz=>nomatch z),q _ _ A.l$ nm1$ zAu A.l h oC,A.d.kp q (nm1$ zAu A.d.top h λz=>nomatch z) λn S=>nm1 (zAu (A.d.row n S) h λz=>nomatch z),q _ _ A.a$ nm1 O⟩
theorem fI.dk{fs:List (Str×V)}(A:fI H c)(h:H k=some (.ins CD dx fs))(q:Kp [k] H H'):fI H' c :=
 ⟨q _ _ A.top (nm1$ zAu A.top h λz=>nomatch z),q _ _ A.l (nm1$ zAu A.l h λz=>nomatch z),A.d.kp q (nm1$ zAu A.d.top h λz=>nomatch z) λn O=>nm1 (zAu (A.d.row n O) h λz=>nomatch z),q _ _ A.a$ nm1$ zAu A.a h λz=>nomatch z⟩
structure De where
 dx:Addr
 j:Addr
 e:Addr
 b:Int
 J:JR
structure Wn where
 p1:Addr
 p2:Addr
 ca:Addr
 ds:Addr
 mn:Addr
 k0:Addr
 k1:Addr
 c0:gp
 c1:gp
structure nq(C CD:Addr)(E:Wn):Prop where
 cc:C≠CD
 o0:gy E.c0
 o1:gy E.c1
 kk:E.k0≠E.k1
 pp:E.p1≠E.p2
 pm1:E.p1≠E.mn
 pm2:E.p2≠E.mn
 a0:E.c0.a≠E.p1/\E.c0.a≠E.p2/\E.c0.a≠E.mn
 a1:E.c1.a≠E.p1/\E.c1.a≠E.p2/\E.c1.a≠E.mn
structure Wd(C CD:Addr)(H:Hp)(E:Wn)(x y:De)(m0 m1:Int):Prop where
 p1:zCs H E.p1
 p2:zCs H E.p2
 ca:H E.ca=some (.lst [.ref E.c0.t,.ref E.c1.t])
 ds:H E.ds=some (.lst [.ref E.k0,.ref E.k1])
 mn:H E.mn=some (.lst [.int m0,.int m1])
 c0:fI H E.c0
 c1:fI H E.c1
 x:fF C CD H E.k0 x.dx x.j x.e x.b x.J
 y:fF C CD H E.k1 y.dx y.j y.e y.b y.J
variable{E:Wn}{x y:De}{m0 m1:Int}
theorem Wd.kp0(W:Wd C CD H E x y m0 m1)(q:Kp [] H H'):Wd C CD H' E x y m0 m1:=⟨W.p1.kp q sS,W.p2.kp q sS,q _ _ W.ca sS,q _ _ W.ds sS,q _ _ W.mn sS,W.c0.kp0 q,W.c1.kp0 q,W.x.kp0 q,W.y.kp0 q⟩
theorem Wd.take1(W:Wd C CD H E x y m0 m1)(O:nq C CD E)(P:zCs H' E.p1)(q:Kp [E.p1] H H'):Wd C CD H' E x y m0 m1:=by
 have h:=W.p1.cell;have h':=h;obtain⟨u,v,S⟩:=h';exact⟨P,W.p2.kp q$ nm1 O.pp.symm,q _ _ W.ca$ nm1$ zAu W.ca S zHz,q _ _ W.ds$ nm1$ zAu W.ds S zHz,q _ _ W.mn$ nm1 O.pm1.symm,W.c0.cell h O.a0.1 q,W.c1.cell h O.a1.1 q,W.x.cell h q,W.y.cell h q⟩
theorem Wd.take2(W:Wd C CD H E x y m0 m1)(O:nq C CD E)(P:zCs H' E.p2)(q:Kp [E.p2] H H'):Wd C CD H' E x y m0 m1:=by
 have h:=W.p2.cell;have h':=h;obtain⟨u,v,S⟩:=h';exact⟨W.p1.kp q$ nm1 O.pp,P,q _ _ W.ca$ nm1$ zAu W.ca S zHz,q _ _ W.ds$ nm1$ zAu W.ds S zHz,q _ _ W.mn$ nm1 O.pm2.symm,W.c0.cell h O.a0.2.1 q,W.c1.cell h O.a1.2.1 q,W.x.cell h q,W.y.cell h q⟩
theorem Wd.many{a b:Int}(W:Wd C CD H E x y m0 m1)(O:nq C CD E):Wd C CD (upd H E.mn$ .lst [.int a,.int b]) E x y a b:=by
 have h:uk H E.mn:=⟨_,_,W.mn⟩;have q:Kp [E.mn] H (upd H E.mn$ .lst [.int a,.int b]):=Kp.put Kp.refl sS;exact⟨W.p1.kp q$ nm1 O.pm1,W.p2.kp q$ nm1 O.pm2,q _ _ W.ca$ nm1$ zAu W.ca W.mn zHz,q _ _ W.ds$ nm1$ zAu W.ds W.mn zHz,ac,W.c0.cell h O.a0.2.2 q,W.c1.cell h O.a1.2.2 q,W.x.cell h q,W.y.cell h q⟩
theorem Wd.put0{x':De}(W:Wd C CD H E x y m0 m1)(O:nq C CD E)(D:fF C CD H' E.k0 x'.dx x'.j x'.e x'.b x'.J)(q:Kp [E.k0] H H'):Wd C CD H' E x' y m0 m1:=by
 have h:=W.x.ob;exact⟨W.p1.kp q (nm1$ by obtain⟨_,_,z⟩:=W.p1.cell;exact zAu z h λz=>nomatch z),W.p2.kp q (nm1$ by obtain⟨_,_,z⟩:=W.p2.cell;exact zAu z h λz=>nomatch z),q _ _ W.ca (nm1$ zAu W.ca h λz=>nomatch z),q _ _ W.ds (nm1$ zAu W.ds h λz=>nomatch z),q _ _ W.mn (nm1$ zAu W.mn h λz=>nomatch z),W.c0.dk h q,W.c1.dk h q,D,W.y.dk h O.cc O.kk.symm q⟩
theorem Wd.put1{y':De}(W:Wd C CD H E x y m0 m1)(O:nq C CD E)(D:fF C CD H' E.k1 y'.dx y'.j y'.e y'.b y'.J)(q:Kp [E.k1] H H'):Wd C CD H' E x y' m0 m1:=by
 have h:=W.y.ob;exact⟨W.p1.kp q (nm1$ by obtain⟨_,_,z⟩:=W.p1.cell;exact zAu z h λz=>nomatch z),W.p2.kp q (nm1$ by obtain⟨_,_,z⟩:=W.p2.cell;exact zAu z h λz=>nomatch z),q _ _ W.ca (nm1$ zAu W.ca h λz=>nomatch z),q _ _ W.ds (nm1$ zAu W.ds h λz=>nomatch z),q _ _ W.mn (nm1$ zAu W.mn h λz=>nomatch z),W.c0.dk h q,W.c1.dk h q,W.x.dk h O.cc O.kk q,D⟩
theorem zLs{k:Addr}{n:Nat}{u:XK}(D:fF C CD H k dx j e b J)(V:1<=n)(O:n<64)(q:∀H',fF C CD H' k dx j e n J->Kp [k] H H'->Q (.str "ok") H'):gj C CD [.ref k,.str ("benches "++nS n)] H Q u :=
 .more k dx _ "benches" (nS n) _ rF (by rw[show("benches": Str)++ " "="benches " by decide +kernel]) kK (by rw[fj,show("benches ": Str).length=8 by decide +kernel];have:=(iT O).l2;lia) D.ob (zJ5 kK kK kK) λH1 S=>.ben k dx j e b J n rF V O (D.kp0 S) λH2 W k2=>q _ W$ (S.weak sS).trans k2
theorem zIs{k:Addr}{u:XK}(D:fF C CD H k dx j e b J)(O:gy c)(q:∀(j' e':Addr)(S:JR)(H':Hp),fF C CD H' k dx j' e' b S->jH S c->Kp [k] H H'->Q (.str "ok") H'):gj C CD [.ref k,.str (tr c)] H Q u:=by
 have tw:sq (c.qs.map (·.1)):=λkk hk=>by
  obtain⟨q,V,rfl⟩:=qAG.mp hk;obtain⟨a,b,e⟩:=O.two q V;exact⟨a,b,e,O.g.nm a (O.g.qin q V a$ by rw[e];simp),O.g.nm b$ O.g.qin q V b$ by rw[e];simp⟩
 have tl:=jX O.g.nm O.g.few tw (by rw[qAB];have:=O.g.qfew;lia);exact .more k dx _ "jobs" (gt c.ns$ c.qs.map (·.1)) _ rF (by rw[show("jobs": Str)++ " "="jobs " by decide +kernel]) kK (by rw[fj,show("jobs ": Str).length=5 by decide +kernel];lia) D.ob (zJ5 kK kK kK) λH1 W=>.jobs k dx j e b c.ns c.qs c.r rF (W _ _ D.ob sS) O.g O.two λj' e' S H2 D2 en hz k2=>q j' e' S H2 D2 (sC D2.a O en hz)$ (W.weak sS).trans k2
end
theorem zr{a b:TS}{D:fW}{σ:St}(I:St->Hp->Prop)(h1:∀σ H,I σ H->b D σ H)(h2:(∀σ H,I σ H->b D σ H)->a {D with nx:=b D} σ H):eK a b D σ H:=h2 h1
theorem gN{i:Nat}{v:V}{σ:St}{Q:St->Hp->Prop}(h:Q (σ.set i$ some v) H):gz i v σ H Q:=h
theorem vK{H':Hp}{a:Addr}{xs:List V}(k:Kp [] H H')(h:SqL K H a xs):SqL K H' a xs:=by
 rcases h with(h|⟨o,h⟩)|h
 .exact .inl$ .inl$ k _ _ h sS
 .exact .inl$ .inr ⟨o,k _ _ h sS⟩
 .exact .inr h
theorem iY{k:Nat}{sp:Sp}{p pos:Pos}(M:Mkr X.prog X.w X.K X.mg X.base C x k ["self"] sp)(S:eR (k+1) X.A)(V:Gl X x)(O:(x==("__debug__": Str))=false:=by decide):PE X (.Call (.Name x p) [] [] pos) (oJ C sp [] E0 pW):=by
 obtain⟨f,fd,h1,h2,h3,h4⟩:=M.to;exact t8 h1 h4 S V h2 h3 .nil iq O
section
variable{P:Program}{w:World}{K:PySem.W.Frag}{mg:Str->Option Value}{base:Heap}{C CD:Addr}
inductive lV(K:PySem.W.Frag)(vs:List V)(H:Hp)(Q:VK)(u_3:XK):Prop
 |mk:∀(a:Addr)(ns:List Int),vs=[.ref a]->SqL K H a (ns.map V.int)->ns.length<=63->(∀H',Q (.bl true) H')->lV K vs H Q u_3
abbrev gI:Stmt:=top 122
theorem zFw:c_ ["_law_script","_law_purse_here","_law_other","_law_cases","_law_desks","_law_many","_law_k","_law_counts"] ["_law_script"] (zAe gI):=fnS
theorem xH(F:Fun K "law" "law" gI f fd)(T:Txt K mg)(U:DC K mg C CD)(ak:Cal P w K mg base "_law_cell" 1 ["_law_script","_law_k"] (nc K))(ah:Cal P w K mg base "_law_purse" 1 ["_law_cell_here","_law_k"] jV)(aa:Cal P w K mg base "_law_take" 1 ["_law_purse_here","_law_many"] gq)(al:Cal P w K mg base "_law_case" 4 ["_law_purse_here","_law_most"] n5)(am:Mkr P w K mg base CD "Desk" 6 ["self"] (gE C CD))(ad:Mth P w K mg base CD "say" 9 ["self","row"] (gj C CD))(aj:Cal P w K mg base "_law_few" 11 ["_law_desk","_law_case_here","_law_benches","_law_counts"] (mS C CD)):eC P w K mg base CX0 12 f fd ["_law_script"] (lV K):=by
 refine F.ok zFw (λvs H Q E h=>?_) λbh A a8 s H vs Q E hr h=>?_
 .obtain ⟨a,ns,rfl,_⟩:=h;rfl
 .obtain ⟨sc,is,rfl,hS,bg,kQ⟩:=h;have ae:=hr.mono (j:=1) dD;have aP:=hr.mono (j:=4) dD;have aQ:=hr.mono (j:=7) dD;have an:=hr.mono (j:=9) dD
  refine⟨_,(zAb (psS (i:=1) zFw.nd$ zAf ah ae rF$ zAa (zAf ak ae rF$ zAa (pv 0)$ zAa zAg zAc)$ zAa zAg zAc) (zAb (psS (i:=2) zFw.nd$ zAf ah ae rF$ zAa (zAf ak ae rF$ zAa (pv 0)$ zAa zAg zAc)$ zAa zAg zAc)
   (zAb (psS (i:=3) zFw.nd$ zAw$ zAa (zAf al aP rF$ zAa (pv 1)$ zAa zAg zAc)$ zAa (zAf al aP rF$ zAa (pv 2)$ zAa zAg zAc) zAc)
   (zAb (psS (i:=4) zFw.nd$ zAw$ zAa (iY am aQ rF)$ zAa (iY am aQ rF) zAc)
   (zAb (psS (i:=5) zFw.nd$ zAw$ zAa zAg$ zAa (zAs zCz zAg$ zAf aa ae rF$ zAa (pv 2)$ zAa zAg zAc) zAc)
   (zAb (zA1 (zAj zCo (zAf aa ae rF$ zAa (pv 1)$ zAa zAg zAc) zAg$ zAo _)
    (zAb (zKg (zA9 zAt (zAw$ zAa zAg$ zAa zAg$ zAa zAg$ zAa zAg zAc) (zAf aa ae rF$ zAa (pv 1)$ zAa zAg zAc) fun _ _=>rfl)$ jP (pv 5) zAg zIe)$ zAd$ zBb$ zBf ad U.cl an (zA9 zAt (pv 4) zAg λ_ _=>rfl)$ zAa (zAs zA5 zAm$ zAz zBo rR T.z_str zDg$ zAa (zA9 zAt (pv 5) zAg λ_ _=>rfl) zAc) zAc)
    zAi)
   (zAb (zBb$ zBf ad U.cl an (zA9 zAt (pv 4) zAg fun _ _=>rfl)$ zAa (zAs zA5 zAm$ zAz zBo rR T.z_str zDg$ zAa (zA9 zAt (pv 5) zAg fun _ _=>rfl) zAc) zAc)
   (zAb (zA4 qAZ rF (zAl$ zAw$ zAa zAg$ zAa zAg zAc) (pgN (i:=6) zFw.nd)
    (zAb (psS (i:=7) zFw.nd$ zAw$ zAa (zAf aa ae rF$ zAa (pv 2)$ zAa zAg zAc)$ zAa (zAf aa ae rF$ zAa (pv 2)$ zAa zAg zAc) zAc)
    (zAd (zA1 (PW.pt$ zI8 (zAj zGx (zBf ad U.cl an (zA9 zAt (pv 4) (pv 6) fun _ _=>rfl)$ zAa (zA9 zH5 (zA9 zAt (pv 3) (pv 6) fun _ _=>rfl) zAg fun _ _=>rfl) zAc) zAm$ zAo _)$ zEy$ zBy$ zBv$ zAf aj hr rF$ zAa (zA9 zAt (pv 4) (pv 6) fun _ _=>rfl)$ zAa (zA9 zAt (pv 3) (pv 6) fun _ _=>rfl)$ zAa (zA9 zAt (pv 5) (pv 6) fun _ _=>rfl)$ zAa (pv 7) zAc)
     (zAd zAq)
     zAi))))
   (zAb (zA4 qAZ rF (zAl$ zAw$ zAa zAg$ zAa zAg$ zAa zAg zAc) (pgN (i:=6) zFw.nd)
    (zAb (zKg (zAs zCz zAg$ zAs zH3 (zA9 zAt (pv 5) (pv 6) fun _ _=>rfl) zAg)$ jP (pv 5) (pv 6) zIe)
    (zAb (zA1 (zAj zGx (zBf ad U.cl an (zA9 zAt (pv 4) (pv 6) fun _ _=>rfl)$ zAa (zAs zA5 zAm$ zAz zBo rR T.z_str zDg$ zAa (zA9 zAt (pv 5) (pv 6) fun _ _=>rfl) zAc) zAc) zAm$ zAo _)
     (zAd zAq)
     zAi)
    (zAd (zA1 (zBy$ zBv$ zAf aj hr rF$ zAa (zA9 zAt (pv 4) (pv 6) fun _ _=>rfl)$ zAa (zA9 zAt (pv 3) (pv 6) fun _ _=>rfl)$ zAa (zA9 zAt (pv 5) (pv 6) fun _ _=>rfl)$ zAa (zAw$ zAa (zAf aa ae rF$ zAa (pv 2)$ zAa zAg zAc) zAc) zAc)
     (zAd zAq)
     zAi)))))
   (zAb (zA1 (PW.pt$ zI8 (zAj zGx (zBf ad U.cl an (zA9 zAt (pv 4) zAg fun _ _=>rfl)$ zAa (zA9 zH5 (zA9 zAt (pv 3) zAg fun _ _=>rfl) zAg fun _ _=>rfl) zAc) zAm$ zAo _)$ zEy$ zAj zGx (zBf ad U.cl an (zA9 zAt (pv 4) zAg fun _ _=>rfl)$ zAa (zA9 zH5 (zA9 zAt (pv 3) zAg fun _ _=>rfl) zAg fun _ _=>rfl) zAc) zAm$ zAo _)
    (zAd zAq)
    zAi)
   (zAb (zA4 qAZ rF (zAl$ zAw$ zAa zAg$ zAa zAg zAc) (pgN (i:=6) zFw.nd)
    (zAd (zA1 (zBy$ zBv$ zAf aj hr rF$ zAa (zA9 zAt (pv 4) (pv 6) fun _ _=>rfl)$ zAa (zA9 zAt (pv 3) (zAs zJb zAg$ pv 6) fun _ _=>rfl)$ zAa (zA9 zAt (pv 5) (pv 6) fun _ _=>rfl)$ zAa (zAw$ zAa (zAf aa ae rF$ zAa (pv 2)$ zAa zAg zAc) zAc) zAc)
     (zAd zAq)
     zAi)))$ zAd$ zAk zJz))))))))))),?_⟩
  have hs:=qAM;have ab:∀{j e:Addr}{b:Int},(df j b e).lookup ("say": Str)=none:=zJ5 kK kK kK;refine⟨_,rF,sc,is,_,rF,hS,dD,λc1=>⟨c1,_,rF,dD,dD,λp1 H1 f1 P1 k1=>?_⟩⟩;refine⟨_,rF,sc,is,_,rF,vK k1 hS,dD,λc2=>⟨c2,_,rF,dD,dD,λp2 H2 f2 P2 k2=>?_⟩⟩;have aG:=P1.kp k2 sS;have pp:p1≠p2:=by obtain⟨_,_,z⟩:=P1.cell;exact b_ f2 z
  refine⟨_,rF,p1,7,rF,dD,dD,aG,λc0 H3 O0 A0 g0 aH k3=>?_⟩;have ax:=P2.kp k3$ nm1 pp.symm;refine⟨_,rF,p2,4,rF,dD,dD,ax,λc1 H4 O1 A1 g1 aR k4=>?_⟩;have aS:=aH.kp k4$ nm1 pp;have a9:c0.a≠p1:=by obtain⟨_,_,z⟩:=aG.cell;exact(b_ g0 z).symm
  have aI:c0.a≠p2:=by obtain⟨_,_,z⟩:=P2.cell;exact(b_ g0 z).symm
  have ba:c1.a≠p1:=by obtain⟨_,_,z⟩:=aH.cell;exact(b_ g1 z).symm
  have aT:c1.a≠p2:=by obtain⟨_,_,z⟩:=ax.cell;exact(b_ g1 z).symm
  have aU:=A0.cell ax.cell aI k4;refine⟨(by walk_at"ln"),λca bb=>?_⟩;obtain⟨H5,e5,k5,h5⟩:=eL (o:=.lst [.ref c0.t,.ref c1.t]) bb;rw[e5];refine λy0 aq aV aW _=>⟨y0,aq,rF,ac,λj0 e0 J0 H6 aX B0 bi k6=>⟨rF,?_⟩⟩;have K6:Kp [] H5 H6:=Kp.drop (Kp.new (Kp.new Kp.refl aW) aV) aV k6;have D0:fF C CD H6 y0 aq j0 e0 2 J0:=⟨aX,B0⟩;refine λy1 aJ aK aY _=>⟨y1,aJ,rF,ac,λj1 e1 J1 H7 bc B1 bj k7=>⟨rF,?_⟩⟩;have K7:Kp [] H6 H7:=Kp.drop (Kp.new (Kp.new Kp.refl aY) aK) aK k7;have D1:fF C CD H7 y1 aJ j1 e1 2 J1:=⟨bc,B1⟩;have kk:y0≠y1:=b_ aK aX;refine⟨(by walk_at"ln"),λds bd=>?_⟩;obtain⟨H8,e8,k8,h8⟩:=eL (o:=.lst [.ref y0,.ref y1]) bd;rw[e8];have ay:Kp [] H4 H8:=k5.trans$ K6.trans$ K7.trans k8;have aZ:=aS.kp ay sS;have az:=aR.kp ay sS;have a0:=D0.kp0$ K7.trans k8;have a2:=D1.kp0 k8;have aL:=(K6.trans$ K7.trans k8) _ _ h5 sS;have a3:=aU.kp0 ay;have a4:=A1.kp0 ay;refine⟨_,rF,p2,3,rF,az,dD,dD,λd H9 d0 d3 a5 k9=>?_⟩;have aA:=az.cell;obtain⟨_,_,a6⟩:=az.cell;refine⟨_,_,rF,rF,(by walk_at"ln"),λmn ar=>?_⟩;obtain⟨n,rfl⟩:=qB7 d0;rw[show(1+(n:Int))=((1+n:Nat):Int) by lia];obtain⟨be,bf,ai,h10⟩:=eL (o:=.lst [.int (2:Nat),.int ((1+n:Nat):Int)]) ar;rw[show HO.lst [V.int 2,V.int ((1+n:Nat):Int)]= .lst [.int (2:Nat),.int ((1+n:Nat):Int)]from rfl,bf];have aM:=a3.cell aA aI k9;have aN:=a4.cell aA aT k9;have aO:=aZ.kp k9$ nm1 pp;have O:nq C CD ⟨p1,p2,ca,ds,mn,y0,y1,c0,c1⟩:=⟨U.ne,O0,O1,kk,pp,(by obtain⟨_,_,z⟩:=aO.cell;exact b_ ar z),(by obtain⟨_,_,z⟩:=a5.cell;exact b_ ar z),⟨a9,aI,b_ ar aM.a⟩,⟨ba,aT,b_ ar aN.a⟩⟩;have W:Wd C CD be ⟨p1,p2,ca,ds,mn,y0,y1,c0,c1⟩ ⟨aq,j0,e0,2,J0⟩ ⟨aJ,j1,e1,2,J1⟩ (2:Nat) ((1+n:Nat):Int):=⟨aO.kp ai sS,a5.kp ai sS,ai _ _ (k9 _ _ aL$ nm1$ zAu aL a6 zHz) sS,ai _ _ (k9 _ _ h8$ nm1$ zAu h8 a6 zHz) sS,h10,aM.kp0 ai,aN.kp0 ai,(a0.cell aA k9).kp0 ai,(a2.cell aA k9).kp0 ai⟩;have aB:∀{n:Nat},n<64->((n:Nat):Int).natAbs.log2<1920:=λ{n} h=>qBo (qCx _) lL;have aC:∀{n:Nat},n<64->("benches ": Str).length+(nS n).length<=sizeLine:=λ{n} h=>by rw[show("benches ": Str).length=8 by decide +kernel,hs];have:=(iT h).l2;lia
  refine gN ?_;dsimp only;refine zr (λσ H'=>∃(E:Wn)(x y:De)(a b:Nat),σ=[some (.ref sc),some (.ref E.p1),some (.ref E.p2),some (.ref E.ca),some (.ref E.ds),some (.ref E.mn),none,none]/\nq C CD E/\Wd C CD H' E x y a b/\x.b=a/\1<=a/\a<=7/\1<=b/\b<=3) ?_ λkey=>?_
  .clear W O aM aN aO a3 a4 aZ az a0 a2 aL D0 D1 aU aS aR ax aH aG A0 A1;rintro σ Hm ⟨E,x,y,a,b,rfl,O,W,xb,a1,a7,b1,b3⟩;refine⟨_,rF,_,_,_,_,rF,rF,SqL.of W.ds,zAx dD rF,E.k1,y.dx,_,rF,W.y.ob,ab,_,rF,_,_,_,_,rF,rF,SqL.of W.mn,zAx dD rF,_,rF,aB lL,_,_,rF,rF,aC lL,zLs W.y b1 lL λH1 D1 k1=>?_⟩;have W1:=W.put1 (y':=⟨y.dx,y.j,y.e,b,y.J⟩) O D1 k1;refine⟨(by walk_at"ln"),λq0 aD=>?_⟩;obtain⟨H2,e2,k2,h2⟩:=eL (o:=.lst [.int 0,.int 1]) aD;rw[e2];have ao:q0≠E.p2:=by obtain⟨_,_,z⟩:=W1.p2.cell;exact(b_ aD z).symm
   refine⟨_,rF,⟨_,SqL.of h2⟩,zA0 (xs:=[.int 0,.int 1]) (λi σ H'=>∃(o6 o7:Option V)(x y:De),σ=[some (.ref sc),some (.ref E.p1),some (.ref E.p2),some (.ref E.ca),some (.ref E.ds),some (.ref E.mn),o6,o7]/\Wd C CD H' E x y a b/\x.b=a/\y.b=b/\(1<=i->jH x.J E.c0)/\(2<=i->jH y.J E.c1)/\H' q0=some (.lst [.int 0,.int 1])) ⟨_,_,x,_,rF,W1.kp0 k2,xb,rF,(λh=>absurd h dD),(λh=>absurd h dD),h2⟩ (λi σ H' _ ⟨_,_,_,_,_,_,_,_,_,_,h⟩=>SqL.of h) ?_ ?_⟩
   .rintro i v σ H' hv ⟨o6,o7,x,y,rfl,W,xb,yb,r0,r1,hq⟩;refine⟨_,rF,E.p2,5,rF,W.p2,dD,dD,λd1 H3 u1 v1 P3 k3=>?_⟩;have W3:=W.take2 O P3 k3;refine⟨_,rF,E.p2,5,rF,W3.p2,dD,dD,λd2 H4 u2 v2 P4 k4=>?_⟩;have W4:=W3.take2 O P4 k4;obtain⟨n1,rfl⟩:=qB7 u1;obtain⟨n2,rfl⟩:=qB7 u2;refine⟨(by walk_at"ln"),λcs af=>?_⟩;obtain⟨H5,e5,k5,h5⟩:=eL (o:=.lst$ [n1,n2].map vN) af;rw[show HO.lst [V.int (n1:Int),V.int (n2:Int)]= .lst ([n1,n2].map vN) from rfl,e5];have W5:=W4.kp0 k5;have aE:=k5 _ _ (k4 _ _ (k3 _ _ hq$ nm1 ao)$ nm1 ao) sS
    have t4:∀t∈[n1,n2],t<=4:=λt ht=>by
     rcases qAQ.mp ht with z|z
     .lia
     .have:=qAH.mp z;lia
    clear W W3 W4 k3 k4 k5 P3 P4 hq e5 af;rcases i with _|_|i
    .cases hv
     refine⟨_,rF,_,rF,_,_,_,_,rF,rF,SqL.of W5.ds,zAx dD rF,E.k0,x.dx,_,rF,W5.x.ob,ab,_,rF,_,rF,_,_,_,_,rF,rF,SqL.of W5.ca,zAx dD rF,_,_,_,_,rF,rF,SqT.of W5.c0.top,rF,zIs W5.x O.o0 λj' e' J' H6 D6 as k6=>⟨rF,_,rF,?_⟩⟩;rw[qAJ rF];refine eG ?_;have S:=W5.put0 (x':=⟨x.dx,j',e',x.b,J'⟩) O D6 k6;refine⟨_,rF,_,rF,_,_,_,_,rF,rF,SqL.of S.ds,zAx dD rF,_,rF,_,rF,_,_,_,_,rF,rF,SqL.of S.ca,zAx dD rF,_,rF,_,rF,_,_,_,_,rF,rF,SqL.of S.mn,zAx dD rF,_,rF,E.k0,x.dx,j',e',a,J',E.c0,cs,[n1,n2],rF,by rw[<-xb];exact D6,S.c0,O.o0,as,lL,k6 _ _ h5 (nm1$ zAu h5 W5.x.ob λz=>nomatch z),sS,sS,t4,λH7 k7=>⟨_,rF,eG ?_⟩⟩;exact⟨_,_,_,y,rF,S.kp0 k7,xb,yb,(λ_=>as),(λh=>absurd h dD),k7 _ _ (k6 _ _ aE$ nm1$ zAu aE W5.x.ob λz=>nomatch z) sS⟩
    .cases hv
     refine⟨_,rF,_,rF,_,_,_,_,rF,rF,SqL.of W5.ds,zAx dD rF,E.k1,y.dx,_,rF,W5.y.ob,ab,_,rF,_,rF,_,_,_,_,rF,rF,SqL.of W5.ca,zAx dD rF,_,_,_,_,rF,rF,SqT.of W5.c1.top,rF,zIs W5.y O.o1 λj' e' J' H6 D6 as k6=>⟨rF,_,rF,?_⟩⟩;rw[qAJ rF];refine eG ?_;have S:=W5.put1 (y':=⟨y.dx,j',e',y.b,J'⟩) O D6 k6;refine⟨_,rF,_,rF,_,_,_,_,rF,rF,SqL.of S.ds,zAx dD rF,_,rF,_,rF,_,_,_,_,rF,rF,SqL.of S.ca,zAx dD rF,_,rF,_,rF,_,_,_,_,rF,rF,SqL.of S.mn,zAx dD rF,_,rF,E.k1,y.dx,j',e',b,J',E.c1,cs,[n1,n2],rF,by rw[<-yb];exact D6,S.c1,O.o1,as,lL,k6 _ _ h5 (nm1$ zAu h5 W5.y.ob λz=>nomatch z),sS,sS,t4,λH7 k7=>⟨_,rF,eG ?_⟩⟩;exact⟨_,_,x,_,rF,S.kp0 k7,xb,yb,(λ_=>r0 dD),(λ_=>as),k7 _ _ (k6 _ _ aE$ nm1$ zAu aE W5.y.ob λz=>nomatch z) sS⟩
    .cases hv
   rintro σ H3 ⟨o6,o7,x,y,rfl,W,xb,yb,r0,r1,_⟩;have r0:=r0 dD;have r1:=r1 dD;refine⟨(by walk_at"ln"),λq1 au=>?_⟩;obtain⟨H4,e4,k4,h4⟩:=eL (o:=.lst [.int 0,.int 1,.int 0]) au;rw[e4];have av:q1≠E.p2:=by obtain⟨_,_,z⟩:=W.p2.cell;exact(b_ au z).symm
   have aw:q1≠E.mn:=(b_ au W.mn).symm;refine⟨_,rF,⟨_,SqL.of h4⟩,zA0 (xs:=[.int 0,.int 1,.int 0]) (λi σ H'=>∃(o6 o7:Option V)(x y:De)(a b:Nat),σ=[some (.ref sc),some (.ref E.p1),some (.ref E.p2),some (.ref E.ca),some (.ref E.ds),some (.ref E.mn),o6,o7]/\Wd C CD H' E x y a b/\x.b=a/\y.b=b/\1<=a/\a<=7/\1<=b/\b<=7/\jH x.J E.c0/\jH y.J E.c1/\H' q1=some (.lst [.int 0,.int 1,.int 0])) ⟨_,_,x,y,a,b,rF,W.kp0 k4,xb,yb,a1,a7,b1,lL,r0,r1,h4⟩ (λi σ H' _ ⟨_,_,_,_,_,_,_,_,_,_,_,_,_,_,_,_,h⟩=>SqL.of h) ?_ ?_⟩
   .clear W xb yb a1 a7 b1 b3 r0 r1 W1 h4 k4 e4 au h2 k2 e2 aD ao;rintro i v σ H' hv ⟨o6,o7,x,y,a,b,rfl,W,xb,yb,a1,a7,b1,b7,r0,r1,hq⟩
    have it:v= .int 0\/v= .int 1:=by
     rcases i with _|_|_|i
     .cases hv;exact .inl rF
     .cases hv;exact .inr rF
     .cases hv;exact .inl rF
     .cases hv
    rcases it with rfl|rfl
    .have ev:(1+(a:Int) % 3)=((1+a % 3:Nat):Int):=lL
     refine⟨_,rF,_,rF,_,_,_,_,rF,rF,SqL.of W.mn,zAx dD rF,_,_,rF,rF,dD,_,_,rF,rF,_,rF,_,rF,_,_,_,0,rF,rF,W.mn,rF,?_⟩;rw[ev];have W2:=W.many (a:=((1+a % 3:Nat):Int)) (b:=b) O;have ag:(upd H' E.mn$ .lst [.int ((1+a % 3:Nat):Int),.int b]) q1=some (.lst [.int 0,.int 1,.int 0]):=(a_ aw).trans hq;refine⟨_,rF,_,rF,_,_,_,_,rF,rF,SqL.of W2.ds,zAx dD rF,E.k0,x.dx,_,rF,W2.x.ob,ab,_,rF,_,rF,_,_,_,_,rF,rF,SqL.of W2.mn,zAx dD rF,_,rF,aB lL,_,_,rF,rF,aC lL,zLs W2.x lL lL λH6 D6 k6=>⟨rF,_,rF,?_⟩⟩;rw[qAJ rF];refine eG ?_;have S:=W2.put0 (x':=⟨x.dx,x.j,x.e,((1+a % 3:Nat):Int),x.J⟩) O D6 k6;have ap:=k6 _ _ ag (nm1$ zAu ag W2.x.ob λz=>nomatch z);refine⟨_,rF,_,rF,_,_,_,_,rF,rF,SqL.of S.ds,zAx dD rF,_,rF,_,rF,_,_,_,_,rF,rF,SqL.of S.ca,zAx dD rF,_,rF,_,rF,_,_,_,_,rF,rF,SqL.of S.mn,zAx dD rF,_,rF,E.p2,5,rF,S.p2,dD,dD,λd H7 u v P7 k7=>?_⟩;have W7:=S.take2 O P7 k7;obtain⟨n,rfl⟩:=qB7 u;refine⟨(by walk_at"ln"),λcs af=>?_⟩;obtain⟨H8,e8,k8,h8⟩:=eL (o:=.lst$ [n].map vN) af;rw[show HO.lst [V.int (n:Int)]= .lst ([n].map vN) from rfl,e8];have W8:=W7.kp0 k8;refine⟨E.k0,_,_,_,_,_,E.c0,cs,[n],rF,W8.x,W8.c0,O.o0,r0,lL,h8,sS,sS,(λt ht=>by have:=qAH.mp ht;lia),λH9 k9=>⟨_,rF,eG ?_⟩⟩;exact⟨_,_,_,y,1+a % 3,b,rF,W8.kp0 k9,rF,yb,lL,lL,b1,b7,r0,r1,k9 _ _ (k8 _ _ (k7 _ _ ap$ nm1 av) sS) sS⟩
    .have ev:(1+(b:Int) % 3)=((1+b % 3:Nat):Int):=lL
     refine⟨_,rF,_,rF,_,_,_,_,rF,rF,SqL.of W.mn,zAx dD rF,_,_,rF,rF,dD,_,_,rF,rF,_,rF,_,rF,_,_,_,1,rF,rF,W.mn,rF,?_⟩;rw[ev];have W2:=W.many (a:=a) (b:=((1+b % 3:Nat):Int)) O;have ag:(upd H' E.mn$ .lst [.int a,.int ((1+b % 3:Nat):Int)]) q1=some (.lst [.int 0,.int 1,.int 0]):=(a_ aw).trans hq;refine⟨_,rF,_,rF,_,_,_,_,rF,rF,SqL.of W2.ds,zAx dD rF,E.k1,y.dx,_,rF,W2.y.ob,ab,_,rF,_,rF,_,_,_,_,rF,rF,SqL.of W2.mn,zAx dD rF,_,rF,aB lL,_,_,rF,rF,aC lL,zLs W2.y lL lL λH6 D6 k6=>⟨rF,_,rF,?_⟩⟩;rw[qAJ rF];refine eG ?_;have S:=W2.put1 (y':=⟨y.dx,y.j,y.e,((1+b % 3:Nat):Int),y.J⟩) O D6 k6;have ap:=k6 _ _ ag (nm1$ zAu ag W2.y.ob λz=>nomatch z);refine⟨_,rF,_,rF,_,_,_,_,rF,rF,SqL.of S.ds,zAx dD rF,_,rF,_,rF,_,_,_,_,rF,rF,SqL.of S.ca,zAx dD rF,_,rF,_,rF,_,_,_,_,rF,rF,SqL.of S.mn,zAx dD rF,_,rF,E.p2,5,rF,S.p2,dD,dD,λd H7 u v P7 k7=>?_⟩;have W7:=S.take2 O P7 k7;obtain⟨n,rfl⟩:=qB7 u;refine⟨(by walk_at"ln"),λcs af=>?_⟩;obtain⟨H8,e8,k8,h8⟩:=eL (o:=.lst$ [n].map vN) af;rw[show HO.lst [V.int (n:Int)]= .lst ([n].map vN) from rfl,e8];have W8:=W7.kp0 k8;refine⟨E.k1,_,_,_,_,_,E.c1,cs,[n],rF,W8.y,W8.c1,O.o1,r1,lL,h8,sS,sS,(λt ht=>by have:=qAH.mp ht;lia),λH9 k9=>⟨_,rF,eG ?_⟩⟩;exact⟨_,_,x,_,a,1+b % 3,rF,W8.kp0 k9,xb,rF,a1,a7,lL,lL,r0,r1,k9 _ _ (k8 _ _ (k7 _ _ ap$ nm1 av) sS) sS⟩
   clear W xb yb a1 a7 b1 b3 r0 r1 W1 h4 k4 e4 au h2 k2 e2 aD ao av aw;rintro σ H5 ⟨o6,o7,x,y,a,b,rfl,W,xb,yb,a1,a7,b1,b7,_,_,_⟩;refine⟨_,rF,_,_,_,_,rF,rF,SqL.of W.ds,zAx dD rF,E.k0,x.dx,_,rF,W.x.ob,ab,_,rF,_,_,_,_,rF,rF,SqL.of W.ca,zAx dD rF,_,_,_,_,rF,rF,SqT.of W.c1.top,rF,zIs W.x O.o1 λj' e' J' H6 D6 s0 k6=>⟨rF,_,rF,?_⟩⟩;rw[qAJ rF];refine eG ?_;have S:=W.put0 (x':=⟨x.dx,j',e',x.b,J'⟩) O D6 k6;refine⟨_,rF,_,_,_,_,rF,rF,SqL.of S.ds,zAx dD rF,E.k1,y.dx,_,rF,S.y.ob,ab,_,rF,_,_,_,_,rF,rF,SqL.of S.ca,zAx dD rF,_,_,_,_,rF,rF,SqT.of S.c0.top,rF,zIs S.y O.o0 λj1 e1 J1 H7 D7 s1 k7=>⟨rF,_,rF,?_⟩⟩;rw[qAJ rF];refine eG ?_;have W7:=S.put1 (y':=⟨y.dx,j1,e1,y.b,J1⟩) O D7 k7;clear W S D6 D7 k6 k7;refine⟨(by walk_at"ln"),λq2 ag=>?_⟩;obtain⟨H8,e8,k8,h8⟩:=eL (o:=.lst [.int 1,.int 0]) ag;rw[e8];have aF:q2≠E.p2:=by obtain⟨_,_,z⟩:=W7.p2.cell;exact(b_ ag z).symm
   refine⟨_,rF,⟨_,SqL.of h8⟩,zA0 (xs:=[.int 1,.int 0]) (λi σ H'=>∃(o6 o7:Option V),σ=[some (.ref sc),some (.ref E.p1),some (.ref E.p2),some (.ref E.ca),some (.ref E.ds),some (.ref E.mn),o6,o7]/\Wd C CD H' E ⟨x.dx,j',e',x.b,J'⟩ ⟨y.dx,j1,e1,y.b,J1⟩ a b/\H' q2=some (.lst [.int 1,.int 0])) ⟨_,_,rF,W7.kp0 k8,h8⟩ (λi σ H' _ ⟨_,_,_,_,h⟩=>SqL.of h) ?_ ?_⟩
   .clear W7 h8 k8 e8 ag;rintro i v σ H' hv ⟨o6,o7,rfl,S,ap⟩
    have it:v= .int 0\/v= .int 1:=by
     rcases i with _|_|i
     .cases hv;exact .inr rF
     .cases hv;exact .inl rF
     .cases hv
    rw[xb,yb]at S;rcases it with rfl|rfl
    .skip
     refine⟨_,rF,_,rF,_,_,_,_,rF,rF,SqL.of S.ds,zAx dD rF,_,rF,_,rF,_,_,rF,rF,_,_,_,_,rF,rF,SqL.of S.ca,zAx dD rF,_,rF,_,rF,_,_,_,_,rF,rF,SqL.of S.mn,zAx dD rF,_,rF,E.p2,5,rF,S.p2,dD,dD,λd H7 u v P7 k7=>?_⟩;have W7:=S.take2 O P7 k7;obtain⟨n,rfl⟩:=qB7 u;refine⟨(by walk_at"ln"),λcs af=>?_⟩;obtain⟨H8,e8,k8,h8⟩:=eL (o:=.lst$ [n].map vN) af;rw[show HO.lst [V.int (n:Int)]= .lst ([n].map vN) from rfl,e8];have W8:=W7.kp0 k8;refine⟨E.k0,_,_,_,_,_,E.c1,cs,[n],rF,W8.x,W8.c1,O.o1,s0,lL,h8,sS,sS,(λt ht=>by have:=qAH.mp ht;lia),λH9 k9=>⟨_,rF,eG ?_⟩⟩;exact⟨_,_,rF,by rw[xb,yb];exact W8.kp0 k9,k9 _ _ (k8 _ _ (k7 _ _ ap$ nm1 aF) sS) sS⟩
    .skip
     refine⟨_,rF,_,rF,_,_,_,_,rF,rF,SqL.of S.ds,zAx dD rF,_,rF,_,rF,_,_,rF,rF,_,_,_,_,rF,rF,SqL.of S.ca,zAx dD rF,_,rF,_,rF,_,_,_,_,rF,rF,SqL.of S.mn,zAx dD rF,_,rF,E.p2,5,rF,S.p2,dD,dD,λd H7 u v P7 k7=>?_⟩;have W7:=S.take2 O P7 k7;obtain⟨n,rfl⟩:=qB7 u;refine⟨(by walk_at"ln"),λcs af=>?_⟩;obtain⟨H8,e8,k8,h8⟩:=eL (o:=.lst$ [n].map vN) af;rw[show HO.lst [V.int (n:Int)]= .lst ([n].map vN) from rfl,e8];have W8:=W7.kp0 k8;refine⟨E.k1,_,_,_,_,_,E.c0,cs,[n],rF,W8.y,W8.c0,O.o0,s1,lL,h8,sS,sS,(λt ht=>by have:=qAH.mp ht;lia),λH9 k9=>⟨_,rF,eG ?_⟩⟩;exact⟨_,_,rF,by rw[xb,yb];exact W8.kp0 k9,k9 _ _ (k8 _ _ (k7 _ _ ap$ nm1 aF) sS) sS⟩
   .rintro σ H' _;exact kQ _
  .-- some benches told,or none
   refine⟨_,rF,p1,2,rF,W.p1,dD,dD,λd2 Ht u v Pt kt=>⟨rF,_,rF,?_⟩⟩;have W2:=W.take1 O Pt kt;refine eU (λc=>?_) λc=>?_
   .refine ⟨(by walk_at"ln"),λq hq=>?_⟩;obtain⟨H3,e3,k3,h3⟩:=eL (o:=.lst [.int 1,.int 2,.int 3,.int 7]) hq;rw[e3];have W3:=W2.kp0 k3;have ao:q≠p1:=by obtain⟨_,_,z⟩:=W2.p1.cell;exact(b_ hq z).symm
    refine⟨_,rF,p1,4,rF,W3.p1,dD,dD,λt H5 u v P5 k5=>?_⟩;have W5:=W3.take1 O P5 k5
    obtain⟨w,hw,w1,w7⟩:∃w:Nat,atI [V.int 1,.int 2,.int 3,.int 7] t=some (.int w)/\1<=w/\w<=7:=by
     have:t=0\/t=1\/t=2\/t=3:=lL
     rcases this with rfl|rfl|rfl|rfl
     .exact ⟨1,zAx dD rF,dD,dD⟩
     .exact ⟨2,zAx dD rF,dD,dD⟩
     .exact ⟨3,zAx dD rF,dD,dD⟩
     .exact ⟨7,zAx dD rF,dD,dD⟩
    refine⟨_,_,_,_,rF,rF,SqL.of$ k5 _ _ h3$ nm1 ao,hw,_,rF,_,_,_,0,rF,rF,W5.mn,rF,?_⟩;have S:=W5.many (a:=(w:Int)) (b:=((1+n:Nat):Int)) O;refine⟨_,rF,_,_,_,_,rF,rF,SqL.of S.ds,zAx dD rF,y0,aq,_,rF,S.x.ob,ab,_,rF,_,_,_,_,rF,rF,SqL.of S.mn,zAx dD rF,_,rF,aB lL,_,_,rF,rF,aC lL,zLs S.x w1 lL λH7 D7 k7=>?_⟩;exact key _ _ ⟨_,⟨aq,j0,e0,w,J0⟩,_,w,1+n,rF,O,S.put0 O D7 k7,rF,w1,w7,lL,lL⟩
   .exact key _ _ ⟨_,_,_,2,1+n,rF,O,W2,rF,dD,dD,lL,lL⟩
end
theorem yo{P:Program}{w:World}{mg:Str->Option Value}{base:Heap}{ps:List Str}{sp:Sp}(F:eC P w K mg base CX0 1 f fd ps sp):eC P w K mg base CX0 2 f fd ps sp:=⟨F.len,λA O s H S us vs Q E V W hb r h=>F.run A O s H S us vs Q E (V.mono dD) W hb r h⟩
def Hd(K:PySem.W.Frag)(x q:Str)(st:Stmt)(f:Addr):Prop:=∃S od kV V W an O ct sl,K.lookup f=some ⟨S,od,.func$ PySem.W.fnOf x q (zCq st) (zB9 st) (zAe st) .none kV V W an O ct,sl⟩/\PySem.W.codeIn K O q=true/\PySem.W.keepIn K (.ref f)=true
def Dft(K:PySem.W.Frag)(x:Str)(st:Stmt)(f:Addr):Prop:=PySem.W.nsIn K mainGlobals x=some (some$ .ref f)/\Hd K x x st f
def nnB(K:PySem.W.Frag)(x:Str):Bool:=match PySem.W.nsIn K mainGlobals x with
 |some none=>true
 |_=>false
theorem x8{h:Heap}{mg:Str->Option Value}(X:K.In h)(G:h.Ns mainGlobals mg){xs:List Str}(a:xs.all (nnB K)=true)(m:x∈xs):mg x=none:=by
 have e:=qBB.mp a x m;unfold nnB at e;split at e
 .rename_i O;exact PySem.W.mg_none_of X G O
 .cases e
theorem Hd.to{q:Str}{st:Stmt}(t:Hd K x q st f):∃fd,Fun K x q st f fd:=by
 obtain⟨_,_,_,_,_,_,_,_,_,l,c,k⟩:=t;exact⟨_,rB l c k⟩
theorem zJ4{α:Type}{us:List α}{n:Nat}(h:us.length=n+1):∃a vs,us=a::vs/\vs.length=n:=by
 cases us with
 |nil=>cases h
 |cons a vs=>exact⟨a,vs,rF,Nat.succ.inj h⟩
section
variable{K:PySem.W.Frag}{x q a b c d g i:Str}{st:Stmt}{f:Addr}{fd:FuncData}(F:Fun K x q st f fd)
include F
theorem _root_.L2.Fun.b1(h:∀(kV O S:Value)(W:Option Addr)(V ct u:Value),bindArgs (PySem.W.fnOf x q (zCq st) (zB9 st) (zAe st) .none kV O S W V ct) ⟨[u],[]⟩=pure [(a,u)]:=by intros;rfl):zDy K fd [a] []:=F.binds λkV O S W V ct us hl=>by
 obtain⟨u,us,rfl,h1⟩:=zJ4 hl
 cases us with
 |nil=>exact h kV O S W V ct u
 |cons=>cases h1
theorem _root_.L2.Fun.b2(h:∀(kV O S:Value)(W:Option Addr)(V ct u v:Value),bindArgs (PySem.W.fnOf x q (zCq st) (zB9 st) (zAe st) .none kV O S W V ct) ⟨[u,v],[]⟩=pure [(a,u),(b,v)]:=by intros;rfl):zDy K fd [a,b] []:=F.binds λkV O S W V ct us hl=>by
 obtain⟨u,us,rfl,h1⟩:=zJ4 hl;obtain⟨v,us,rfl,h2⟩:=zJ4 h1
 cases us with
 |nil=>exact h kV O S W V ct u v
 |cons=>cases h2
theorem _root_.L2.Fun.b3(h:∀(kV O S:Value)(W:Option Addr)(V ct u v w:Value),bindArgs (PySem.W.fnOf x q (zCq st) (zB9 st) (zAe st) .none kV O S W V ct) ⟨[u,v,w],[]⟩=pure [(a,u),(b,v),(c,w)]:=by intros;rfl):zDy K fd [a,b,c] []:=F.binds λkV O S W V ct us hl=>by
 obtain⟨u,us,rfl,h1⟩:=zJ4 hl;obtain⟨v,us,rfl,h2⟩:=zJ4 h1;obtain⟨w,us,rfl,h3⟩:=zJ4 h2
 cases us with
 |nil=>exact h kV O S W V ct u v w
 |cons=>cases h3
theorem _root_.L2.Fun.b4(h:∀(kV O S:Value)(W:Option Addr)(V ct u v w z:Value),bindArgs (PySem.W.fnOf x q (zCq st) (zB9 st) (zAe st) .none kV O S W V ct) ⟨[u,v,w,z],[]⟩=pure [(a,u),(b,v),(c,w),(d,z)]:=by intros;rfl):zDy K fd [a,b,c,d] []:=F.binds λkV O S W V ct us hl=>by
 obtain⟨u,us,rfl,h1⟩:=zJ4 hl;obtain⟨v,us,rfl,h2⟩:=zJ4 h1;obtain⟨w,us,rfl,h3⟩:=zJ4 h2;obtain⟨z,us,rfl,h4⟩:=zJ4 h3
 cases us with
 |nil=>exact h kV O S W V ct u v w z
 |cons=>cases h4
end
section
variable{K:PySem.W.Frag}{mg:Str->Option Value}{x q:Str}{st:Stmt}{f:Addr}{fd:FuncData}{ps:List Str}{sp:Sp}{k:Nat}(P:Program)(w:World)(base:Heap)
theorem cal(g:mg x=some (.ref f))(F:Fun K x q st f fd)(b:zDy K fd ps [])(h:eC P w K mg base CX0 k f fd ps sp):Cal P w K mg base x k ps sp:=⟨f,fd,g,F.kp,b,h⟩
def Dfm(K:PySem.W.Frag)(C:Addr)(m q:Str)(st:Stmt)(f:Addr):Prop:=PySem.W.findIn K (.ref C) m=some (some$ .ref f)/\PySem.W.isFn K (.ref f)=true/\Hd K m q st f
theorem mth{m:Str}(t:Dfm K C m q st f)(F:Fun K m q st f fd)(b:zDy K fd ps [])(h:eC P w K mg base CX0 k f fd ps sp):Mth P w K mg base C m k ps sp:=⟨f,fd,⟨t.1,t.2.1,F.kp⟩,b,h⟩
end
def yY(K:PySem.W.Frag)(x:Str)(st:Stmt)(f:Addr)(V:Int):Prop:=∃T t,PySem.W.nsIn K mainGlobals x=some (some$ .ref f)/\(∃S od kV W pm an O ct sl,K.lookup f=some ⟨S,od,.func$ PySem.W.fnOf x x (zCq st) (zB9 st) (zAe st) (.ref T) kV W pm an O ct,sl⟩/\PySem.W.codeIn K O x=true/\PySem.W.keepIn K (.ref f)=true)/\∃To Td Tn Ts,K.lookup T=some ⟨To,Td,.seq #[.int V t] Tn,Ts⟩
theorem xS{l:PySem.W.OpenLaw}{w:World}{h:Heap}{mg:Str->Option Value}{fa:Addr}(X:K.In h)(G:h.Ns mainGlobals mg)(dk:mg "law"=some (.ref fa)){CD f0 f1 f2 f3 f4 f5 f6 f7 f8 f9 dl dm dn dp dq dr dt cr cs du dv dw dy dz dA dB dC dE dF dG dH dI dJ dK dL dM dN dO dP dQ dR dS dT dU bw dV dW dX dY dZ d0 d1 d2 d3 d4 d5 d6 d7 d8 d9 ea:Addr}{aM aA aW ap aq al aB cu:Tok}
  (aD:PySem.W.nsIn K mainGlobals "Desk"=some (some$ .ref CD))
  (aC:PySem.W.nsIn K mainGlobals "Jobs"=some (some$ .ref C))
  (l0:Dft K "_law_cell" nr f0)
  (l1:Dft K "_law_purse" jN f1)
  (l2:Dft K "_law_take" nY f2)
  (l3:Dft K "_law_names" zK6 f3)
  (l4:Dft K "_law_pairs" jJ f4)
  (l5:Dft K "_law_jobs" kb f5)
  (l6:Dft K "_law_behind" zIh f6)
  (l7:Dft K "_law_case" zKe f7)
  (l8:Dft K "is_name" zGq f8)
  (l9:Dft K "check_names" zEe f9)
  (bx:Dft K "is_one_of" zEb dl)
  (cv:Dft K "check_job" zF6 dm)
  (cw:Dft K "check_parts" zEd dn)
  (cx:Dft K "has_all" zGr dp)
  (cy:Dft K "joined" zK7 dq)
  (cz:Dft K "all_ahead" zC8 dr)
  (cA:Dft K "told_ahead" zEt dt)
  (bz:Dfm K C "__init__" "Jobs.__init__" zCf cr)
  (bA:Dfm K CD "__init__" "Desk.__init__" zC9 cs)
  (cB:Dfm K C "names" "Jobs.names" zEx du)
  (cC:Dft K "is_whole" zHk dv)
  (cD:Dft K "check_benches" zC7 dw)
  (cE:Dft K "check_few" zF7 dy)
  (cF:Dfm K C "ahead" "Jobs.ahead" zDo dz)
  (bB:Dft K "is_ready" zC5 dA)
  (cG:Dft K "rows_of" zGp dB)
  (cH:Dft K "steps_from" zCb dC)
  (cI:Dft K "all_steps" zEf dE)
  (cJ:Dft K "plans_one_turn_on" zB6 dF)
  (cK:Dft K "fewest" zK8 dG)
  (cL:Dft K "turn_text" zF3 dH)
  (cM:Dft K "plan_text" zEa dI)
  (cN:Dfm K CD "answer_word" "Desk.answer_word" zCg dJ)
  (cO:Dft K "read_names" zEv dK)
  (cP:Dft K "read_order" zEu dL)
  (cQ:Dft K "read_jobs" zD9 dM)
  (cR:Dfm K CD "take_jobs" "Desk.take_jobs" zCw dN)
  (cS:Dfm K CD "take_benches" "Desk.take_benches" zB7 dO)
  (cT:Dft K "read_number" zC0 dP)
  (cU:Dft K "check_turns" zEc dQ)
  (cV:Dft K "ways_one_turn_on" zCe dR)
  (cW:Dft K "counted" zI6 dS)
  (cX:Dft K "read_turn" zF5 dT)
  (cY:Dft K "read_plan" zD8 dU)
  (eb:yY K "own_copy" zFe bw 12)
  (cZ:Dft K "turn_fault" zEs dV)
  (c0:Dft K "take" jx dW)
  (c1:Dft K "fault" jz dX)
  (c2:Dft K "parts_text" zDn dY)
  (c3:Dft K "fault_text" zEw dZ)
  (c4:Dfm K CD "answer_more" "Desk.answer_more" zCh d0)
  (c5:Dfm K CD "say" "Desk.say" zHl d1)
  (c6:Dft K "_law_steps" zF4 d2)
  (c7:Dft K "_law_ways" jp d3)
  (c8:Dft K "_law_plan_of" zI5 d4)
  (c9:Dft K "_law_is_right" zFf d5)
  (da:Dft K "_law_shown" zK5 d6)
  (db:Dft K "_law_fault" zIg d7)
  (dd:Dft K "_law_looked" zIf d8)
  (de:Dft K "_law_few" jG d9)
  (ec:Dft K "law" gI ea)
  (pg:PySem.W.plainGet K C Str.empty=true)
  (hd:PySem.W.hasDictIn K C=true)
  (po:PySem.W.plainOver K C=true)
  (sa:PySem.W.findIn K (.ref C) "__setattr__"=some (some$ .builtin "object.__setattr__"))
  (mk:PySem.W.makesIn K C=true)
  (kc:PySem.W.keepIn K (.ref C)=true)
  (ed:PySem.W.plainGet K CD Str.empty=true)
  (ee:PySem.W.hasDictIn K CD=true)
  (ef:PySem.W.plainOver K CD=true)
  (eg:PySem.W.findIn K (.ref CD) "__setattr__"=some (some$ .builtin "object.__setattr__"))
  (eh:PySem.W.makesIn K CD=true)
  (ei:PySem.W.keepIn K (.ref CD)=true)
  (bf:PySem.W.findIn K (.ref CD) "jobs"=some none)
  (aX:PySem.W.findIn K (.ref CD) "benches"=some none)
  (bg:PySem.W.findIn K (.ref CD) "ends"=some none)
  (cc:C≠CD)
  (bC:PySem.W.findIn K (.ref C) "row"=some none)
  (bh:PySem.W.findIn K (.ref C) "pairs"=some none)
  (bi:PySem.W.findIn K (.ref C) "above"=some none)
  (zz:List.all (α:=Str) ["len","max","range","int","str","list","all","min","dict","bool","abs","reversed","enumerate","any","sum","zip","isinstance","sorted","set","tuple"] (nnB K)=true)
  (aN:PySem.W.nsIn K mainGlobals "MOST_JOBS"=some (some$ .int 20 aM))
  (aE:PySem.W.nsIn K mainGlobals "MOST_TURNS"=some (some$ .int 40 aA))
  (aY:PySem.W.nsIn K mainGlobals "MOST_FEW"=some (some$ .int 7 aW))
  (ar:PySem.W.nsIn K mainGlobals "LONGEST_NAME"=some (some$ .int 8 ap))
  (as:PySem.W.nsIn K mainGlobals "MOST_FIGURES"=some (some$ .int 60 aq))
  (am:PySem.W.nsIn K mainGlobals "BETWEEN_TURNS"=some (some$ .str " / " al))
  (aF:PySem.W.nsIn K mainGlobals "EMPTY_TURN"=some (some$ .str "-" aB))
  (df:PySem.W.nsIn K mainGlobals "OK"=some (some$ .str "ok" cu))
  :∃fd:FuncData,(∀(s:Shared)(v:Value),BindsTo s fd ⟨[v],[]⟩ [("_law_script",v)])/\∀base:Heap,K.In base->base.Ns mainGlobals mg->eC l.prog w K mg base CX0 12 fa fd ["_law_script"] (lV K):=by
 have z:∀x,x∈_->mg x=none:=λx m=>x8 X G zz m;have m:=λ(x:Str)(v:Value) (e:PySem.W.nsIn K mainGlobals x=some (some v))=>PySem.W.mg_of X G e;obtain⟨a,_,_,kV,dc,pm,an,cd,ct,_,u,v,k⟩:=ec
 cases dk.symm.trans (m _ _ a)
 have T:Txt K mg:={z_len:=z _ dD,z_max:=z _ dD,z_range:=z _ dD,z_int:=z _ dD,z_str:=z _ dD,z_list:=z _ dD,z_all:=z _ dD,z_min:=z _ dD,z_dict:=z _ dD,z_bool:=z _ dD,z_abs:=z _ dD,z_reversed:=z _ dD,z_enumerate:=z _ dD,z_any:=z _ dD,z_sum:=z _ dD,z_zip:=z _ dD,z_isinstance:=z _ dD,z_sorted:=z _ dD,z_set:=z _ dD,z_tuple:=z _ dD,c_MOST_JOBS:=⟨_,m _ _ aN⟩,c_MOST_TURNS:=⟨_,m _ _ aE⟩,c_MOST_FEW:=⟨_,m _ _ aY⟩,c_LONGEST_NAME:=⟨_,m _ _ ar⟩,c_MOST_FIGURES:=⟨_,m _ _ as⟩,c_BETWEEN_TURNS:=⟨_,m _ _ am⟩,c_EMPTY_TURN:=⟨_,m _ _ aF⟩,c_OK:=⟨_,m _ _ df⟩};have UD:DC K mg C CD:=⟨⟨ed,ee,ef,eg⟩,bf,aX,bg,cc⟩;have U:JC K mg C:=⟨⟨pg,hd,po,sa⟩,bC,bh,bi,m _ _ aC⟩;obtain⟨_,F0⟩:=l0.2.to;obtain⟨_,F1⟩:=l1.2.to;obtain⟨_,F2⟩:=l2.2.to;obtain⟨_,F3⟩:=l3.2.to;obtain⟨_,F4⟩:=l4.2.to;obtain⟨_,F5⟩:=l5.2.to;obtain⟨_,F6⟩:=l6.2.to;obtain⟨_,F7⟩:=l7.2.to;obtain⟨_,F8⟩:=l8.2.to;obtain⟨_,F9⟩:=l9.2.to;obtain⟨_,a7⟩:=bx.2.to;obtain⟨_,bD⟩:=cv.2.to;obtain⟨_,bE⟩:=cw.2.to;obtain⟨_,bF⟩:=cx.2.to;obtain⟨_,bG⟩:=cy.2.to;obtain⟨_,bH⟩:=cz.2.to;obtain⟨_,bI⟩:=cA.2.to;obtain⟨_,dg⟩:=bz.2.2.to;obtain⟨_,dh⟩:=bA.2.2.to;obtain⟨_,bJ⟩:=cB.2.2.to;obtain⟨_,bK⟩:=cC.2.to;obtain⟨_,bL⟩:=cD.2.to;obtain⟨_,bM⟩:=cE.2.to;obtain⟨_,bN⟩:=cF.2.2.to;obtain⟨_,a8⟩:=bB.2.to;obtain⟨_,bO⟩:=cG.2.to;obtain⟨_,bP⟩:=cH.2.to;obtain⟨_,bQ⟩:=cI.2.to;obtain⟨_,bR⟩:=cJ.2.to;obtain⟨_,bS⟩:=cK.2.to;obtain⟨_,bT⟩:=cL.2.to;obtain⟨_,bU⟩:=cM.2.to;obtain⟨_,bV⟩:=cN.2.2.to;obtain⟨_,bW⟩:=cO.2.to;obtain⟨_,bX⟩:=cP.2.to;obtain⟨_,bY⟩:=cQ.2.to;obtain⟨_,bZ⟩:=cR.2.2.to;obtain⟨_,b0⟩:=cS.2.2.to;obtain⟨_,b1⟩:=cT.2.to;obtain⟨_,b2⟩:=cU.2.to;obtain⟨_,b3⟩:=cV.2.to;obtain⟨_,b4⟩:=cW.2.to;obtain⟨_,b5⟩:=cX.2.to;obtain⟨_,b6⟩:=cY.2.to;obtain⟨ej,b7,ek,⟨_,_,_,_,_,_,_,_,_,el,em,di⟩,_,_,_,_,en⟩:=eb;have b8:p5 K "own_copy" "own_copy" zFe bw _ ej #[.int 12 b7]:=⟨⟨_,_,_,_,_,_,_,_,_,rF,el,em⟩,⟨_,_,en,rF⟩,di⟩;have eq:=b8.binds (ps:=["thing","depth"]) (ds:=[]) λ_ _ _ _ _ _ us hl=>match us,hl with|[_,_],_=>⟨_,rF,rF⟩
 have dj:=b8.binds (ps:=["thing","depth"]) (ds:=[.int 12 b7]) λ_ _ _ _ _ _ us hl=>match us,(show us.length=1 by simpa using hl) with|[_],_=>⟨_,rF,rF⟩
 obtain⟨_,b9⟩:=cZ.2.to;obtain⟨_,ca⟩:=c0.2.to;obtain⟨_,cb⟩:=c1.2.to;obtain⟨_,ce⟩:=c2.2.to;obtain⟨_,cf⟩:=c3.2.to;obtain⟨_,cg⟩:=c4.2.2.to;obtain⟨_,ci⟩:=c5.2.2.to;obtain⟨_,cj⟩:=c6.2.to;obtain⟨_,ck⟩:=c7.2.to;obtain⟨_,cl⟩:=c8.2.to;obtain⟨_,cm⟩:=c9.2.to;obtain⟨_,cn⟩:=da.2.to;obtain⟨_,co⟩:=db.2.to;obtain⟨_,cp⟩:=dd.2.to;obtain⟨_,cq⟩:=de.2.to;have eo:=rB (st:=gI) u v k;refine⟨PySem.W.fnOf "law" "law" (zCq gI) (zB9 gI) (zAe gI) .none kV dc pm an cd ct,λs v=>.of_eq rF,λB _ _=>?_⟩;have bq:=cal l.prog w B (m _ _ l0.1) F0 F0.b2$ u5 F0 T;have bj:=cal l.prog w B (m _ _ l1.1) F1 F1.b2$ ua F1 T;have au:=cal l.prog w B (m _ _ l2.1) F2 F2.b2$ u_ F2;have bk:=cal l.prog w B (m _ _ l3.1) F3 F3.b2$ re F3 T au;have bl:=cal l.prog w B (m _ _ l4.1) F4 F4.b4$ tD F4 T au;have br:=cal l.prog w B (m _ _ l5.1) F5 F5.b2$ vE F5 T au bk bl;have a9:=cal l.prog w B (m _ _ l6.1) F6 F6.b2$ pV F6 T;have bs:=cal l.prog w B (m _ _ l7.1) F7 F7.b2$ uX F7 T br a9;have av:=cal l.prog w B (m _ _ l8.1) F8 F8.b1$ nI F8 T;have aw:=cal l.prog w B (m _ _ l9.1) F9 F9.b1$ zJ3 F9 T av;have aO:=cal l.prog w B (m _ _ bx.1) a7 a7.b2$ jA a7 T;have ah:=cal l.prog w B (m _ _ cv.1) bD bD.b2$ jh bD T aO;have ax:=cal l.prog w B (m _ _ cw.1) bE bE.b2$ zJ2 bE T ah;have a2:=cal l.prog w B (m _ _ cx.1) bF bF.b2$ oa bF T;have ba:=cal l.prog w B (m _ _ cy.1) bG bG.b2$ qi bG;have aP:=cal l.prog w B (m _ _ cz.1) bH bH.b2$ jo bH T a2 ba;have aG:=cal l.prog w B (m _ _ cA.1) bI bI.b2$ zLk bI;have a6:Mkr l.prog w K mg B C "Jobs" 4 ["self","names","orders"] (gY C):=⟨cr,_,⟨mk,bz.1,bz.2.1,kc⟩,m _ _ aC,dg.b3,(kh dg T U aw ax aP aG)⟩;have bt:Mkr l.prog w K mg B CD "Desk" 6 ["self"] (gE C CD):=⟨cs,_,⟨eh,bA.1,bA.2.1,ei⟩,m _ _ aD,dh.b1,(jY dh UD a6)⟩;have S:=mth l.prog w B cB bJ bJ.b1$ zLq bJ T U;have ao:=cal l.prog w B (m _ _ cC.1) bK bK.b1$ mD bK T;have O:=cal l.prog w B (m _ _ cD.1) bL bL.b1$ zIb bL ao;have ai:=cal l.prog w B (m _ _ cE.1) bM bM.b1$ j4 bM T U S;have ag:=mth l.prog w B cF bN bN.b2$ zLr bN T U ah;have aQ:=cal l.prog w B (m _ _ bB.1) a8 a8.b3$ jq a8 T U ag;have a3:=cal l.prog w B (m _ _ cG.1) bO bO.b2$ mW bO T;have aH:=cal l.prog w B (m _ _ cH.1) bP bP.b3$ zLl bP T U S aQ a3;have aj:=cal l.prog w B (m _ _ cI.1) bQ bQ.b2$ jW bQ T aH;have W:=cal l.prog w B (m _ _ cJ.1) bR bR.b2$ zFt bR;have bb:=cal l.prog w B (m _ _ cK.1) bS bS.b2$ qT bS T U S O ai aj W;have aR:=cal l.prog w B (m _ _ cL.1) bT bT.b1$ kg bT T;have aS:=cal l.prog w B (m _ _ cM.1) bU bU.b1$ j7 bU T aR;have ad:=mth l.prog w B cN bV bV.b2$ zGa bV UD bb aS;have V:=cal l.prog w B (m _ _ cO.1) bW bW.b2$ zLn bW av;have aI:=cal l.prog w B (m _ _ cP.1) bX bX.b1$ zLm bX T V;have aT:=cal l.prog w B (m _ _ cQ.1) bY bY.b1$ jK bY T V aI a6;have ak:=mth l.prog w B cR bZ bZ.b2$ zHp bZ T UD aT;have aa:=mth l.prog w B cS b0 b0.b2$ zFu b0 T UD O;have ay:=cal l.prog w B (m _ _ cT.1) b1 b1.b1$ zJ0 b1 T;have az:=cal l.prog w B (m _ _ cU.1) b2 b2.b1$ zJ1 b2 T ao;have ae:=cal l.prog w B (m _ _ cV.1) b3 b3.b2$ zF9 b3;have a4:=cal l.prog w B (m _ _ cW.1) b4 b4.b3$ nK b4 T U S O az ai aj ae;have aU:=cal l.prog w B (m _ _ cX.1) b5 b5.b1$ jF b5 T V;have aV:=cal l.prog w B (m _ _ cY.1) b6 b6.b1$ jk b6 T aU;have bc:=cal l.prog w B (m _ _ bx.1) a7 a7.b2$ p6 a7 T;have aZ:xz l.prog w K mg B "own_copy" 2 ["thing","depth"] [.int 12] gC:=⟨bw,_,[.int 12 b7],m _ _ ek,di,dj,.cons ⟨_,rF⟩ .nil,yo$ kJ b8 T⟩;have a0:=cal l.prog w B (m _ _ bB.1) a8 a8.b3$ lJ a8 T U ag;have aJ:=cal l.prog w B (m _ _ cZ.1) b9 b9.b4$ zLj b9 T U S bc aZ a0;have bm:=cal l.prog w B (m _ _ c0.1) ca ca.b2$ t_ ca;have bn:=cal l.prog w B (m _ _ c1.1) cb cb.b3$ sn cb T U S O aJ bm;have aK:=cal l.prog w B (m _ _ c2.1) ce ce.b1$ zLo ce T;have aL:=cal l.prog w B (m _ _ c3.1) cf cf.b1$ zLp cf aK;have af:=mth l.prog w B c4 cg cg.b3$ zGb cg T UD ak aa ay a4 aV bn aL;have ab:=mth l.prog w B c5 ci ci.b2$ kX ci T UD ad af;have bo:=cal l.prog w B (m _ _ c6.1) cj cj.b4$ sA cj T;have bu:=cal l.prog w B (m _ _ c7.1) ck ck.b4$ vG ck T bo;have a5:=cal l.prog w B (m _ _ c8.1) cl cl.b1$ mX cl;have a1:=cal l.prog w B (m _ _ c9.1) cm cm.b4$ kW cm T;have bp:=cal l.prog w B (m _ _ da.1) cn cn.b1$ tX cn;have bd:=cal l.prog w B (m _ _ db.1) co co.b3$ p_ co T;have be:=cal l.prog w B (m _ _ dd.1) cp cp.b4$ qu cp UD ab bp bd;have bv:=cal l.prog w B (m _ _ de.1) cq cq.b4$ uR cq T UD ab bu a5 a1 be;exact xH eo T UD bq bj au bs bt ab bv
theorem y9{l:PySem.W.OpenLaw}{q:Program}{O:List Str}{XP:(Str->Option Value)->Heap->Prop}{V:World->Heap->Prop}{d:DefRec}{K:Params->PySem.W.Frag}(hn:l.most=some 63)(S:d.params.defaults=[])
  (hY:∀(w:World)(h:Heap),V w h->(K w.params).In h)
  (F:∀(w:World) (mg:Str->Option Value) (W:Addr) (h:Heap),(K w.params).In h->h.Ns mainGlobals mg->mg d.name=some (.ref W) ->
   ∃fd:FuncData,(∀(s:Shared)(u:Value),BindsTo s fd ⟨[u],[]⟩ [("_law_script",u)])/\∀base:Heap,(K w.params).In base->base.Ns mainGlobals mg->eC l.prog w (K w.params) mg base CX0 12 W fd ["_law_script"] (lV$ K w.params)) :
  PySem.W.WalkO q O XP V l.row.toRowW d [] (λf vs=>PySem.call f vs) :=
 L2.vn (n:=63) (k:=12) (x:="_law_script") (CX:=λ_=>CX0) (sp:=λw=>lV$ K w.params) hn dD S ⟨rF,dD,dD,rF⟩ hY F (λ_ _ a ns hl _ hS=>⟨a,ns,rF,hS,hl,λ_=>rfl⟩) λ_ _ _ _ _ z=>z
end My
namespace PySem.W.Fast
def tw15313297447085308193:=0
def tw6344498051831834337:=0
def tw8104009933802802983:=0
def tw1202630425259668660:=0
def tw4308262376331525278:=0
def tw12022144272178988649:=0
def tw13161483833437910940:=0
def tw3385285328086206579:=0
def tw11226297300631137853:=0
def tw15463263191617943745:=0
def tw10114379292254409167:=0
def tw15553879833267827118:=0
def tw13117922411490235572:=0
def tw8696799786850371160:=0
def tw16889971134671963899:=0
def tw1875340573062054338:=0
def tw1207891813611922696:=0
def tw3171475060136704582:=0
def tw17873384457982212397:=0
def tw1793467270485765836:=0
def tw8459104077732145791:=0
def tw7246760952288186168:=0
def tw4995120372499473803:=0
def tw5767086670865009504:=0
def tw18059222531770796607:=0
def tw8266575053925040815:=0
def tw6650617089611081341:=0
def tw10223789813792918366:=0
def tw15413792087315168040:=0
def tw12107819237336295053:=0
def tw743219268203403599:=0
def tw17633060816738793407:=0
def tw1248858017513764001:=0
def tw6418414496895112711:=0
def tw14302997021022993458:=0
def tw1300701009803718313:=0
def tw3575901160163973502:=0
def tw3396868606066935770:=0
def tw17812778939723195963:=0
def tw8407668181369124076:=0
def tw17392748761168180236:=0
def tw5608039500508328764:=0
def tw4517407426179451803:=0
def tw10714590975604945602:=0
def tw13074782187586864846:=0
def tw17805949830185183762:=0
def tw6460715945293494967:=0
def tw7148524704770396669:=0
def tw16389413942689334208:=0
def tw4762368761235616498:=0
def tw2462263910463353891:=0
def tw2373932468682444123:=0
def tw2093242337045027895:=0
def tw14500795644513368081:=0
def tw14261158247677435776:=0
def tw17921779003857636039:=0
def tw10376242756443121721:=0
def tw16994060115086060326:=0
def tw3902557538505025749:=0
def tw11687256642997029481:=0
def tw7366221103548392142:=0
def tw11222792557901592546:=0
def tw9563545227864139799:=0
def tw9326543062779582171:=0
def tw4807982214737250770:=0
def tw12005941430200094419:=0
def tw3358125523050499273:=0
def tw10697527235707386205:=0
def tw3708205755022182608:=0
def tw12966348880704916381:=0
def tw5958168098158109787:=0
def tw14194814340986679357:=0
def tw7622071295125198186:=0
def tw6428556017436702781:=0
def tw3279965622520632313:=0
def tw7738004813783048837:=0
def tw11826027400919932410:=0
def tw15716088428290626826:=0
def tw5442098550973313632:=0
def tw11365595275477434419:=0
def tw949048051179796421:=0
def tw13666177489570805868:=0
def tw17377002345543561341:=0
def tw8039966721320459411:=0
def tw1187462912125677397:=0
def tw8620700470246086337:=0
def tw14081177225171827326:=0
def tw2957000381502510693:=0
def tw1130327659276433220:=0
def tw4611425254493304140:=0
def tw16017807672462989484:=0
def tw4007537757854389202:=0
def tw2145534643012102017:=0
def tw12213218528982092332:=0
def tw910264041693831485:=0
def tw16295934186765853998:=0
def tw17313777218103954104:=0
def tw6651925292000406598:=0
def tw10117583857375828993:=0
def tw6795986405865383128:=0
def tw10718615188098899458:=0
def tw10924510603496873030:=0
def tw15554777382511222805:=0
def tw14958131583143797042:=0
def tw13720004216991981316:=0
def tw8663479633691604626:=0
def tw4191114844660616378:=0
def tw3936160210230824885:=0
def tw13678223398621397927:=0
def tw15354526084262772782:=0
def tw16784952692134053043:=0
def tw13492232208040943488:=0
def tw4979268610048368943:=0
def tw12212903437793359160:=0
def tw13286181774324391288:=0
def tw8103956107626431923:=0
def tw3763155288498351221:=0
def tw13685538274720781697:=0
def tw10922981289775923711:=0
def tw18213741615041354250:=0
def tw5626398680100586688:=0
def tw16415714592711100639:=0
def tw11533361271717542594:=0
def tw2186337798849947839:=0
def tw7077694647129381452:=0
def tw12436630581733605308:=0
def tw18385191258432493792:=0
def tw501321182857267501:=0
def tw11677879140260776771:=0
def tw4022254316881772367:=0
def tw17902334886640334235:=0
def tw2204946462148872908:=0
def tw11605232307658173751:=0
def tw16083339836284537382:=0
def tw61354544575588256:=0
def tw8639862873111752938:=0
def tw16460344354523604306:=0
def tw15632588665782668892:=0
def tw11386902626451252074:=0
def tw2113477629879509075:=0
def tw3836106169297698026:=0
def tw15749154439812569787:=0
def tw4014313453108097824:=0
def tw5027743016482014748:=0
def tw13831574819873133662:=0
def tw1421328700593122964:=0
def tw2204185788253857810:=0
def tw17196042131649645388:=0
def tw17305274353205170449:=0
def tw18154957942146208212:=0
def tw14486266505991992929:=0
def tw13962801903608551604:=0
def tw3143854058028851499:=0
def tw6373982989533072808:=0
def tw14265394962189388504:=0
def tw6990898224407719303:=0
def tw8933273003720078343:=0
def tw5509122916502928765:=0
def tw5435870552623138079:=0
def tw14814954816382441795:=0
def tw160752055747429320:=0
def tw6009749113248598616:=0
def tw6425250688875795649:=0
def tw12749798422313205620:=0
def tw12958835558862116929:=0
def tw13236134022364863388:=0
def tw344186875879329881:=0
def tw6152990367131247968:=0
def tw1096456929742900708:=0
def tw7090957156519412145:=0
def tw17329119675112308580:=0
def tw2759139679241368031:=0
def tw7026942042657689887:=0
def tw2558072020847619585:=0
def tw5104342782010991341:=0
def tw15150289874326609106:=0
def tw14655709325180889953:=0
def tw15832162359397553347:=0
def tw15604530994073083981:=0
def tw14972288466279277975:=0
def tw7040261975364683256:=0
def tw12079481699824297891:=0
def tw9527652018839131102:=0
def tw10964003035750566001:=0
def tw6474482157408091137:=0
def tw9881488517676492638:=0
def tw2440440045101929415:=0
def tw3895294405214221121:=0
def tw14231007544017631202:=0
def tw5382601200634575745:=0
def tw14207174420150409405:=0
def tw3880233477067882561:=0
def tw5497746004430438944:=0
def tw1665435942580375006:=0
def tw2851969516750851565:=0
def tw3525784132876522864:=0
def tw13057632540537754725:=0
def tw8978430332211593293:=0
def tw10885864200013203893:=0
def tw13792572637420715088:=0
def tw2730548305394494017:=0
def tw4310414092578668310:=0
def tw3959649301748584974:=0
def tw8044055257149103547:=0
def tw4941624854318953056:=0
def tw3505506556378867670:=0
def tw17719722393663703428:=0
def tw16453969041714258455:=0
def tw17166173776087428659:=0
def tw9753707172549494238:=0
def tw18310362485681172062:=0
def tw1797063640280148516:=0
def tw3133862622610135953:=0
def tw5484775671900230860:=0
def tw10331787022147483967:=0
def tw16063300456486941032:=0
def tw17037724735340263964:=0
def tw8539843457957622848:=0
def tw911232980485609334:=0
def tw8662593575064530215:=0
def tw947961697758843475:=0
def tw5158449814347048184:=0
def tw1593031421355842412:=0
def tw11428447028452348818:=0
def tw16902144227190988299:=0
def tw10022306404337483816:=0
def tw10526344761610648921:=0
def tw13647091368021791616:=0
def tw6308555760910380374:=0
def tw4234487905605779636:=0
def tw5413001242339548601:=0
def tw18278829376164925996:=0
def tw16278270945384182396:=0
def tw11343518147335908543:=0
def tw593811970381895645:=0
def tw10560487744005993724:=0
def tw7113318462486736484:=0
def tw1731360087616336438:=0
def tw15917214717804299829:=0
def tw16846953394245659415:=0
def tw11223356260923283903:=0
def tw103024947235574288:=0
def tw6445471638865411963:=0
def tw2038509642622290966:=0
def tw14250833807084196273:=0
def tw6457893537802008976:=0
def tw8957962584055270587:=0
def tw2299574795552246837:=0
def tw13907372689614507320:=0
def tw15382681916011640994:=0
def tw3777688334593185664:=0
def tw12793414246786598211:=0
def tw17551322595685390823:=0
def tw16527937642292634164:=0
def tw14037286222679932132:=0
def tw2641507957998235968:=0
def tw12144842848024147022:=0
def tw13170901575024661129:=0
def tw364412557259117946:=0
def tw3578730073424847907:=0
def tw4340201382402767137:=0
def tw14012668433803884438:=0
def tw12496134938999407966:=0
def tw548879174533905756:=0
def tw10853542913388789941:=0
def tw17022350371662648993:=0
def tw6020931427400660608:=0
def tw12748063212930161471:=0
def tw8307549870874609771:=0
def tw5275658932886767432:=0
def tw13295442210186326525:=0
def tw12789043979305756397:=0
def tw14500688572176455922:=0
def tw17575777712520788757:=0
def tw5699565564284173376:=0
def tw12068413452629767396:=0
def tw15840530495145460818:=0
def tw8331725307452073999:=0
def tw3645523510301016519:=0
def tw275903887107550121:=0
def tw14260870516819301821:=0
def tw7725716608794260899:=0
def tw840741326477031135:=0
def tw10179865485875166701:=0
def tw12286496075823020194:=0
def tw14544563076493355860:=0
def tw8402082636536618749:=0
def tw15379984794566849739:=0
def tw5223812709087425986:=0
def tw2448023206516734160:=0
def tw262530708832163787:=0
def tw7594339351148332153:=0
def tw2944298959358579972:=0
def tw6772365858871162519:=0
def tw4827251948854555310:=0
def tw9719923332711308480:=0
def tw6275426355923244444:=0
def tw6879017976799670892:=0
def tw4384458061835654469:=0
def tw16535765764869280635:=0
def tw6878906500400794764:=0
def tw16565739134005718346:=0
def tw15073503618307439757:=0
def tw1641107371961431621:=0
def tw16462229584518741836:=0
def tw2878099470011488590:=0
def tw16571746855241537214:=0
def tw16106641980290168255:=0
def tw16216079413181447127:=0
def tw1298231215759492008:=0
def tw6110706553587469489:=0
def tw8971860232473788791:=0
def tw1479033615524848222:=0
def tw17220794821511583859:=0
def tw4463520096888973316:=0
def tw6882043454220607416:=0
def tw17142692054166986606:=0
def tw12785670849415560710:=0
def tw4348954532065163306:=0
def tw6073870192296337374:=0
def tw16229409936142892616:=0
def tw11732100399827228758:=0
def tw14963601476069238016:=0
def tw799985006505427748:=0
def tw10007060277300850905:=0
def tw1462393584672981076:=0
def tw12668102443381387525:=0
def tw8916041196715227301:=0
def tw7994847762977638438:=0
def tw1690715378815260114:=0
def tw11602715699234224314:=0
def tw11731796455338447412:=0
def tw14503697253298196298:=0
def tw17659219324810843354:=0
def tw16033019195779841355:=0
def tw7623682596261779092:=0
def tw12554030488504977783:=0
def tw8984518154657198660:=0
def tw1323681515117919180:=0
def tw11053206284608710331:=0
def tw3824993323186738491:=0
def tw8844024011597698855:=0
def tw17077715602460510815:=0
def tw11937246268981700869:=0
def tw16398132754656989882:=0
def tw17592961983868725565:=0
def tw15290950842661674885:=0
def tw5346490602235751582:=0
def tw4149742825394859796:=0
def tw17915360635405394494:=0
def tw12787895752928790966:=0
def tw9531612035063499930:=0
def tw10931998267015237983:=0
def tw7993754168585479315:=0
def tw2302906131665267959:=0
def tw13691361509788227688:=0
def tw1378002925885969360:=0
def tw3616457200868744831:=0
def tw15006156099218753706:=0
def tw16009093771711896173:=0
def tw11274735618363378793:=0
def tw6278053673851180721:=0
def tw13588070047376481635:=0
def tw1881435412747630503:=0
def tw7453281476133508612:=0
def tw817383931067542930:=0
def tw10254133861951314100:=0
def tw10442916671880475331:=0
def tw16944513074578762748:=0
def tw17504324179375646459:=0
def tw14849451088650488033:=0
def tw9621667433178889065:=0
def tw5015013167460176285:=0
end PySem.W.Fast
open PySem PySem.W PyProof.Rows
set_option maxRecDepth 100000 in
set_option maxHeartbeats 0 in
theorem PySem.Challenge.cw_levelbench_k96_whole_desk_of_few_holds : PySem.Challenge.rw_levelbench_k96_whole_desk_of_few.Holds := by
 w_on;o_law;k_head;(case hw=>w_witness2)
 k_fill
 refine My.y9 (l:=PySem.Challenge.rw_levelbench_k96_whole_desk_of_few) rF rF (λw h Y=>PySem.W.km_in_of Y) ?F
 case F=>
  intro w mg fa h KX G hmg;refine' My.xS KX G hmg ?h0 ?h1 ?h2 ?h3 ?h4 ?h5 ?h6 ?h7 ?h8 ?h9 ?h10 ?h11 ?h12 ?h13 ?h14 ?h15 ?h16 ?h17 ?h18 ?h19 ?h20 ?h21 ?h22 ?h23 ?h24 ?h25 ?h26 ?h27 ?h28 ?h29 ?h30 ?h31 ?h32 ?h33 ?h34 ?h35 ?h36 ?h37 ?h38 ?h39 ?h40 ?h41 ?h42 ?h43 ?h44 ?h45 ?h46 ?h47 ?h48 ?h49 ?h50 ?h51 ?h52 ?h53 ?h54 ?h55 ?h56 ?h57 ?h58 ?h59 ?h60 ?h61 ?h62 ?h63 ?h64 ?h65 ?h66 ?h67 ?h68 ?h69 ?h70 ?h71 ?h72 ?h73 ?h74 ?h75 ?h76 ?h77 ?h78 ?h79 ?h80 ?h81 ?h82 ?h83 ?h84 ?h85 ?h86 ?h87 ?h88 ?h89 ?h90
  all_goals try first|k_is|exact⟨by k_is,_,_,_,_,_,_,_,_,_,by k_is,by k_is,by k_is⟩|exact⟨by k_is,by k_is,_,_,_,_,_,_,_,_,_,by k_is,by k_is,by k_is⟩|exact⟨_,_,by k_is,⟨_,_,_,_,_,_,_,_,_,by k_is,by k_is,by k_is⟩,_,_,_,_,by k_is⟩|kernel_rfl|decide
